/-
  An instruction is performed: through the table (further).
-/
import Derived.Test.YtcgjliflnnklnabGreatCpPa
namespace Go.Proofs.YtcgjliflnnklnabGreat
open Go.RowKit

set_option maxRecDepth 100000 in
set_option maxHeartbeats 1000000 in
theorem perform_0 {B : Nat} {s : PC} {w0 w : World} (h : Tn B s w0 w) (hk : s.ins = 0) :
    Calls Tryz.prog 92 #[.pointer (some ⟨B, 0, none⟩)] w fun e w' => e = .returned (.tuple #[]) ∧ Tn B (s.doIns 0) w0 w' := by
  have c_ins := h.c.cins
  rw [hk] at c_ins
  go_enter Tryz.func92, Tryz.ntmps92
  go_wp2_with (first | (go_at_call 119; refine (imeth_at 0 (by decide) (.func (.func 128) #[] #[]) rfl _).mono ?_; rintro e w1 ⟨rfl, hb⟩; have h1 := below_thru h hb) | (go_at_call 128; refine (adc_any h1).mono ?_; rintro e w2 ⟨rfl, h2⟩))
  go_end0
  exact ⟨rfl, h2⟩

set_option maxRecDepth 100000 in
set_option maxHeartbeats 1000000 in
theorem perform_1 {B : Nat} {s : PC} {w0 w : World} (h : Tn B s w0 w) (hk : s.ins = 1) :
    Calls Tryz.prog 92 #[.pointer (some ⟨B, 0, none⟩)] w fun e w' => e = .returned (.tuple #[]) ∧ Tn B (s.doIns 1) w0 w' := by
  have c_ins := h.c.cins
  rw [hk] at c_ins
  go_enter Tryz.func92, Tryz.ntmps92
  go_wp2_with (first | (go_at_call 119; refine (imeth_at 1 (by decide) (.func (.func 129) #[] #[]) rfl _).mono ?_; rintro e w1 ⟨rfl, hb⟩; have h1 := below_thru h hb) | (go_at_call 129; refine (and_any h1).mono ?_; rintro e w2 ⟨rfl, h2⟩))
  go_end0
  exact ⟨rfl, h2⟩

set_option maxRecDepth 100000 in
set_option maxHeartbeats 1000000 in
theorem perform_2 {B : Nat} {s : PC} {w0 w : World} (h : Tn B s w0 w) (hk : s.ins = 2) :
    Calls Tryz.prog 92 #[.pointer (some ⟨B, 0, none⟩)] w fun e w' => e = .returned (.tuple #[]) ∧ Tn B (s.doIns 2) w0 w' := by
  have c_ins := h.c.cins
  rw [hk] at c_ins
  go_enter Tryz.func92, Tryz.ntmps92
  go_wp2_with (first | (go_at_call 119; refine (imeth_at 2 (by decide) (.func (.func 130) #[] #[]) rfl _).mono ?_; rintro e w1 ⟨rfl, hb⟩; have h1 := below_thru h hb) | (go_at_call 130; refine (asl_any h1).mono ?_; rintro e w2 ⟨rfl, h2⟩))
  go_end0
  exact ⟨rfl, h2⟩

set_option maxRecDepth 100000 in
set_option maxHeartbeats 1000000 in
theorem perform_3 {B : Nat} {s : PC} {w0 w : World} (h : Tn B s w0 w) (hk : s.ins = 3) :
    Calls Tryz.prog 92 #[.pointer (some ⟨B, 0, none⟩)] w fun e w' => e = .returned (.tuple #[]) ∧ Tn B (s.doIns 3) w0 w' := by
  have c_ins := h.c.cins
  rw [hk] at c_ins
  go_enter Tryz.func92, Tryz.ntmps92
  go_wp2_with (first | (go_at_call 119; refine (imeth_at 3 (by decide) (.func (.func 131) #[] #[]) rfl _).mono ?_; rintro e w1 ⟨rfl, hb⟩; have h1 := below_thru h hb) | (go_at_call 131; refine (bcc_any h1).mono ?_; rintro e w2 ⟨rfl, h2⟩))
  go_end0
  exact ⟨rfl, h2⟩

set_option maxRecDepth 100000 in
set_option maxHeartbeats 1000000 in
theorem perform_4 {B : Nat} {s : PC} {w0 w : World} (h : Tn B s w0 w) (hk : s.ins = 4) :
    Calls Tryz.prog 92 #[.pointer (some ⟨B, 0, none⟩)] w fun e w' => e = .returned (.tuple #[]) ∧ Tn B (s.doIns 4) w0 w' := by
  have c_ins := h.c.cins
  rw [hk] at c_ins
  go_enter Tryz.func92, Tryz.ntmps92
  go_wp2_with (first | (go_at_call 119; refine (imeth_at 4 (by decide) (.func (.func 132) #[] #[]) rfl _).mono ?_; rintro e w1 ⟨rfl, hb⟩; have h1 := below_thru h hb) | (go_at_call 132; refine (bcs_any h1).mono ?_; rintro e w2 ⟨rfl, h2⟩))
  go_end0
  exact ⟨rfl, h2⟩

set_option maxRecDepth 100000 in
set_option maxHeartbeats 1000000 in
theorem perform_5 {B : Nat} {s : PC} {w0 w : World} (h : Tn B s w0 w) (hk : s.ins = 5) :
    Calls Tryz.prog 92 #[.pointer (some ⟨B, 0, none⟩)] w fun e w' => e = .returned (.tuple #[]) ∧ Tn B (s.doIns 5) w0 w' := by
  have c_ins := h.c.cins
  rw [hk] at c_ins
  go_enter Tryz.func92, Tryz.ntmps92
  go_wp2_with (first | (go_at_call 119; refine (imeth_at 5 (by decide) (.func (.func 133) #[] #[]) rfl _).mono ?_; rintro e w1 ⟨rfl, hb⟩; have h1 := below_thru h hb) | (go_at_call 133; refine (beq_any h1).mono ?_; rintro e w2 ⟨rfl, h2⟩))
  go_end0
  exact ⟨rfl, h2⟩

set_option maxRecDepth 100000 in
set_option maxHeartbeats 1000000 in
theorem perform_6 {B : Nat} {s : PC} {w0 w : World} (h : Tn B s w0 w) (hk : s.ins = 6) :
    Calls Tryz.prog 92 #[.pointer (some ⟨B, 0, none⟩)] w fun e w' => e = .returned (.tuple #[]) ∧ Tn B (s.doIns 6) w0 w' := by
  have c_ins := h.c.cins
  rw [hk] at c_ins
  go_enter Tryz.func92, Tryz.ntmps92
  go_wp2_with (first | (go_at_call 119; refine (imeth_at 6 (by decide) (.func (.func 134) #[] #[]) rfl _).mono ?_; rintro e w1 ⟨rfl, hb⟩; have h1 := below_thru h hb) | (go_at_call 134; refine (bmi_any h1).mono ?_; rintro e w2 ⟨rfl, h2⟩))
  go_end0
  exact ⟨rfl, h2⟩

set_option maxRecDepth 100000 in
set_option maxHeartbeats 1000000 in
theorem perform_7 {B : Nat} {s : PC} {w0 w : World} (h : Tn B s w0 w) (hk : s.ins = 7) :
    Calls Tryz.prog 92 #[.pointer (some ⟨B, 0, none⟩)] w fun e w' => e = .returned (.tuple #[]) ∧ Tn B (s.doIns 7) w0 w' := by
  have c_ins := h.c.cins
  rw [hk] at c_ins
  go_enter Tryz.func92, Tryz.ntmps92
  go_wp2_with (first | (go_at_call 119; refine (imeth_at 7 (by decide) (.func (.func 135) #[] #[]) rfl _).mono ?_; rintro e w1 ⟨rfl, hb⟩; have h1 := below_thru h hb) | (go_at_call 135; refine (bne_any h1).mono ?_; rintro e w2 ⟨rfl, h2⟩))
  go_end0
  exact ⟨rfl, h2⟩

set_option maxRecDepth 100000 in
set_option maxHeartbeats 1000000 in
theorem perform_8 {B : Nat} {s : PC} {w0 w : World} (h : Tn B s w0 w) (hk : s.ins = 8) :
    Calls Tryz.prog 92 #[.pointer (some ⟨B, 0, none⟩)] w fun e w' => e = .returned (.tuple #[]) ∧ Tn B (s.doIns 8) w0 w' := by
  have c_ins := h.c.cins
  rw [hk] at c_ins
  go_enter Tryz.func92, Tryz.ntmps92
  go_wp2_with (first | (go_at_call 119; refine (imeth_at 8 (by decide) (.func (.func 136) #[] #[]) rfl _).mono ?_; rintro e w1 ⟨rfl, hb⟩; have h1 := below_thru h hb) | (go_at_call 136; refine (bpl_any h1).mono ?_; rintro e w2 ⟨rfl, h2⟩))
  go_end0
  exact ⟨rfl, h2⟩

set_option maxRecDepth 100000 in
set_option maxHeartbeats 1000000 in
theorem perform_9 {B : Nat} {s : PC} {w0 w : World} (h : Tn B s w0 w) (hk : s.ins = 9) :
    Calls Tryz.prog 92 #[.pointer (some ⟨B, 0, none⟩)] w fun e w' => e = .returned (.tuple #[]) ∧ Tn B (s.doIns 9) w0 w' := by
  have c_ins := h.c.cins
  rw [hk] at c_ins
  go_enter Tryz.func92, Tryz.ntmps92
  go_wp2_with (first | (go_at_call 119; refine (imeth_at 9 (by decide) (.func (.func 137) #[] #[]) rfl _).mono ?_; rintro e w1 ⟨rfl, hb⟩; have h1 := below_thru h hb) | (go_at_call 137; refine (bvc_any h1).mono ?_; rintro e w2 ⟨rfl, h2⟩))
  go_end0
  exact ⟨rfl, h2⟩

set_option maxRecDepth 100000 in
set_option maxHeartbeats 1000000 in
theorem perform_10 {B : Nat} {s : PC} {w0 w : World} (h : Tn B s w0 w) (hk : s.ins = 10) :
    Calls Tryz.prog 92 #[.pointer (some ⟨B, 0, none⟩)] w fun e w' => e = .returned (.tuple #[]) ∧ Tn B (s.doIns 10) w0 w' := by
  have c_ins := h.c.cins
  rw [hk] at c_ins
  go_enter Tryz.func92, Tryz.ntmps92
  go_wp2_with (first | (go_at_call 119; refine (imeth_at 10 (by decide) (.func (.func 138) #[] #[]) rfl _).mono ?_; rintro e w1 ⟨rfl, hb⟩; have h1 := below_thru h hb) | (go_at_call 138; refine (bvs_any h1).mono ?_; rintro e w2 ⟨rfl, h2⟩))
  go_end0
  exact ⟨rfl, h2⟩

set_option maxRecDepth 100000 in
set_option maxHeartbeats 1000000 in
theorem perform_11 {B : Nat} {s : PC} {w0 w : World} (h : Tn B s w0 w) (hk : s.ins = 11) :
    Calls Tryz.prog 92 #[.pointer (some ⟨B, 0, none⟩)] w fun e w' => e = .returned (.tuple #[]) ∧ Tn B (s.doIns 11) w0 w' := by
  have c_ins := h.c.cins
  rw [hk] at c_ins
  go_enter Tryz.func92, Tryz.ntmps92
  go_wp2_with (first | (go_at_call 119; refine (imeth_at 11 (by decide) (.func (.func 139) #[] #[]) rfl _).mono ?_; rintro e w1 ⟨rfl, hb⟩; have h1 := below_thru h hb) | (go_at_call 139; refine (bit_any h1).mono ?_; rintro e w2 ⟨rfl, h2⟩))
  go_end0
  exact ⟨rfl, h2⟩

set_option maxRecDepth 100000 in
set_option maxHeartbeats 1000000 in
theorem perform_12 {B : Nat} {s : PC} {w0 w : World} (h : Tn B s w0 w) (hk : s.ins = 12) :
    Calls Tryz.prog 92 #[.pointer (some ⟨B, 0, none⟩)] w fun e w' => e = .returned (.tuple #[]) ∧ Tn B (s.doIns 12) w0 w' := by
  have c_ins := h.c.cins
  rw [hk] at c_ins
  go_enter Tryz.func92, Tryz.ntmps92
  go_wp2_with (first | (go_at_call 119; refine (imeth_at 12 (by decide) (.func (.func 140) #[] #[]) rfl _).mono ?_; rintro e w1 ⟨rfl, hb⟩; have h1 := below_thru h hb) | (go_at_call 140; refine (brk_any h1).mono ?_; rintro e w2 ⟨rfl, h2⟩))
  go_end0
  exact ⟨rfl, h2⟩

set_option maxRecDepth 100000 in
set_option maxHeartbeats 1000000 in
theorem perform_13 {B : Nat} {s : PC} {w0 w : World} (h : Tn B s w0 w) (hk : s.ins = 13) :
    Calls Tryz.prog 92 #[.pointer (some ⟨B, 0, none⟩)] w fun e w' => e = .returned (.tuple #[]) ∧ Tn B (s.doIns 13) w0 w' := by
  have c_ins := h.c.cins
  rw [hk] at c_ins
  go_enter Tryz.func92, Tryz.ntmps92
  go_wp2_with (first | (go_at_call 119; refine (imeth_at 13 (by decide) (.func (.func 141) #[] #[]) rfl _).mono ?_; rintro e w1 ⟨rfl, hb⟩; have h1 := below_thru h hb) | (go_at_call 141; refine (clc_any h1).mono ?_; rintro e w2 ⟨rfl, h2⟩))
  go_end0
  exact ⟨rfl, h2⟩

set_option maxRecDepth 100000 in
set_option maxHeartbeats 1000000 in
theorem perform_14 {B : Nat} {s : PC} {w0 w : World} (h : Tn B s w0 w) (hk : s.ins = 14) :
    Calls Tryz.prog 92 #[.pointer (some ⟨B, 0, none⟩)] w fun e w' => e = .returned (.tuple #[]) ∧ Tn B (s.doIns 14) w0 w' := by
  have c_ins := h.c.cins
  rw [hk] at c_ins
  go_enter Tryz.func92, Tryz.ntmps92
  go_wp2_with (first | (go_at_call 119; refine (imeth_at 14 (by decide) (.func (.func 142) #[] #[]) rfl _).mono ?_; rintro e w1 ⟨rfl, hb⟩; have h1 := below_thru h hb) | (go_at_call 142; refine (cld_any h1).mono ?_; rintro e w2 ⟨rfl, h2⟩))
  go_end0
  exact ⟨rfl, h2⟩

set_option maxRecDepth 100000 in
set_option maxHeartbeats 1000000 in
theorem perform_15 {B : Nat} {s : PC} {w0 w : World} (h : Tn B s w0 w) (hk : s.ins = 15) :
    Calls Tryz.prog 92 #[.pointer (some ⟨B, 0, none⟩)] w fun e w' => e = .returned (.tuple #[]) ∧ Tn B (s.doIns 15) w0 w' := by
  have c_ins := h.c.cins
  rw [hk] at c_ins
  go_enter Tryz.func92, Tryz.ntmps92
  go_wp2_with (first | (go_at_call 119; refine (imeth_at 15 (by decide) (.func (.func 143) #[] #[]) rfl _).mono ?_; rintro e w1 ⟨rfl, hb⟩; have h1 := below_thru h hb) | (go_at_call 143; refine (cli_any h1).mono ?_; rintro e w2 ⟨rfl, h2⟩))
  go_end0
  exact ⟨rfl, h2⟩

set_option maxRecDepth 100000 in
set_option maxHeartbeats 1000000 in
theorem perform_16 {B : Nat} {s : PC} {w0 w : World} (h : Tn B s w0 w) (hk : s.ins = 16) :
    Calls Tryz.prog 92 #[.pointer (some ⟨B, 0, none⟩)] w fun e w' => e = .returned (.tuple #[]) ∧ Tn B (s.doIns 16) w0 w' := by
  have c_ins := h.c.cins
  rw [hk] at c_ins
  go_enter Tryz.func92, Tryz.ntmps92
  go_wp2_with (first | (go_at_call 119; refine (imeth_at 16 (by decide) (.func (.func 144) #[] #[]) rfl _).mono ?_; rintro e w1 ⟨rfl, hb⟩; have h1 := below_thru h hb) | (go_at_call 144; refine (clv_any h1).mono ?_; rintro e w2 ⟨rfl, h2⟩))
  go_end0
  exact ⟨rfl, h2⟩

set_option maxRecDepth 100000 in
set_option maxHeartbeats 1000000 in
theorem perform_17 {B : Nat} {s : PC} {w0 w : World} (h : Tn B s w0 w) (hk : s.ins = 17) :
    Calls Tryz.prog 92 #[.pointer (some ⟨B, 0, none⟩)] w fun e w' => e = .returned (.tuple #[]) ∧ Tn B (s.doIns 17) w0 w' := by
  have c_ins := h.c.cins
  rw [hk] at c_ins
  go_enter Tryz.func92, Tryz.ntmps92
  go_wp2_with (first | (go_at_call 119; refine (imeth_at 17 (by decide) (.func (.func 145) #[] #[]) rfl _).mono ?_; rintro e w1 ⟨rfl, hb⟩; have h1 := below_thru h hb) | (go_at_call 145; refine (cmp_any h1).mono ?_; rintro e w2 ⟨rfl, h2⟩))
  go_end0
  exact ⟨rfl, h2⟩

set_option maxRecDepth 100000 in
set_option maxHeartbeats 1000000 in
theorem perform_18 {B : Nat} {s : PC} {w0 w : World} (h : Tn B s w0 w) (hk : s.ins = 18) :
    Calls Tryz.prog 92 #[.pointer (some ⟨B, 0, none⟩)] w fun e w' => e = .returned (.tuple #[]) ∧ Tn B (s.doIns 18) w0 w' := by
  have c_ins := h.c.cins
  rw [hk] at c_ins
  go_enter Tryz.func92, Tryz.ntmps92
  go_wp2_with (first | (go_at_call 119; refine (imeth_at 18 (by decide) (.func (.func 146) #[] #[]) rfl _).mono ?_; rintro e w1 ⟨rfl, hb⟩; have h1 := below_thru h hb) | (go_at_call 146; refine (cpx_any h1).mono ?_; rintro e w2 ⟨rfl, h2⟩))
  go_end0
  exact ⟨rfl, h2⟩


end Go.Proofs.YtcgjliflnnklnabGreat
