/-
  An instruction is performed: through the table (further).
-/
import Derived.Test.YtcgjliflnnklnaaGreatCpPa
namespace Go.Proofs.YtcgjliflnnklnaaGreat
open Go.RowKit

set_option maxRecDepth 100000 in
set_option maxHeartbeats 1000000 in
theorem perform_0 {B : Nat} {s : PC} {w0 w : World} (h : Tn B s w0 w) (hk : s.ins = 0) :
    Calls Tryz.prog 167 #[.pointer (some ⟨B, 0, none⟩)] w fun e w' => e = .returned (.tuple #[]) ∧ Tn B (s.doIns 0) w0 w' := by
  have c_ins := h.c.cins
  rw [hk] at c_ins
  go_enter Tryz.func167, Tryz.ntmps167
  go_wp2_with (first | (go_at_call 205; refine (imeth_at 0 (by decide) (.func (.func 215) #[] #[]) rfl _).mono ?_; rintro e w1 ⟨rfl, hb⟩; have h1 := below_thru h hb) | (go_at_call 215; refine (adc_any h1).mono ?_; rintro e w2 ⟨rfl, h2⟩))
  go_end0
  exact ⟨rfl, h2⟩

set_option maxRecDepth 100000 in
set_option maxHeartbeats 1000000 in
theorem perform_1 {B : Nat} {s : PC} {w0 w : World} (h : Tn B s w0 w) (hk : s.ins = 1) :
    Calls Tryz.prog 167 #[.pointer (some ⟨B, 0, none⟩)] w fun e w' => e = .returned (.tuple #[]) ∧ Tn B (s.doIns 1) w0 w' := by
  have c_ins := h.c.cins
  rw [hk] at c_ins
  go_enter Tryz.func167, Tryz.ntmps167
  go_wp2_with (first | (go_at_call 205; refine (imeth_at 1 (by decide) (.func (.func 216) #[] #[]) rfl _).mono ?_; rintro e w1 ⟨rfl, hb⟩; have h1 := below_thru h hb) | (go_at_call 216; refine (and_any h1).mono ?_; rintro e w2 ⟨rfl, h2⟩))
  go_end0
  exact ⟨rfl, h2⟩

set_option maxRecDepth 100000 in
set_option maxHeartbeats 1000000 in
theorem perform_2 {B : Nat} {s : PC} {w0 w : World} (h : Tn B s w0 w) (hk : s.ins = 2) :
    Calls Tryz.prog 167 #[.pointer (some ⟨B, 0, none⟩)] w fun e w' => e = .returned (.tuple #[]) ∧ Tn B (s.doIns 2) w0 w' := by
  have c_ins := h.c.cins
  rw [hk] at c_ins
  go_enter Tryz.func167, Tryz.ntmps167
  go_wp2_with (first | (go_at_call 205; refine (imeth_at 2 (by decide) (.func (.func 217) #[] #[]) rfl _).mono ?_; rintro e w1 ⟨rfl, hb⟩; have h1 := below_thru h hb) | (go_at_call 217; refine (asl_any h1).mono ?_; rintro e w2 ⟨rfl, h2⟩))
  go_end0
  exact ⟨rfl, h2⟩

set_option maxRecDepth 100000 in
set_option maxHeartbeats 1000000 in
theorem perform_3 {B : Nat} {s : PC} {w0 w : World} (h : Tn B s w0 w) (hk : s.ins = 3) :
    Calls Tryz.prog 167 #[.pointer (some ⟨B, 0, none⟩)] w fun e w' => e = .returned (.tuple #[]) ∧ Tn B (s.doIns 3) w0 w' := by
  have c_ins := h.c.cins
  rw [hk] at c_ins
  go_enter Tryz.func167, Tryz.ntmps167
  go_wp2_with (first | (go_at_call 205; refine (imeth_at 3 (by decide) (.func (.func 218) #[] #[]) rfl _).mono ?_; rintro e w1 ⟨rfl, hb⟩; have h1 := below_thru h hb) | (go_at_call 218; refine (bcc_any h1).mono ?_; rintro e w2 ⟨rfl, h2⟩))
  go_end0
  exact ⟨rfl, h2⟩

set_option maxRecDepth 100000 in
set_option maxHeartbeats 1000000 in
theorem perform_4 {B : Nat} {s : PC} {w0 w : World} (h : Tn B s w0 w) (hk : s.ins = 4) :
    Calls Tryz.prog 167 #[.pointer (some ⟨B, 0, none⟩)] w fun e w' => e = .returned (.tuple #[]) ∧ Tn B (s.doIns 4) w0 w' := by
  have c_ins := h.c.cins
  rw [hk] at c_ins
  go_enter Tryz.func167, Tryz.ntmps167
  go_wp2_with (first | (go_at_call 205; refine (imeth_at 4 (by decide) (.func (.func 219) #[] #[]) rfl _).mono ?_; rintro e w1 ⟨rfl, hb⟩; have h1 := below_thru h hb) | (go_at_call 219; refine (bcs_any h1).mono ?_; rintro e w2 ⟨rfl, h2⟩))
  go_end0
  exact ⟨rfl, h2⟩

set_option maxRecDepth 100000 in
set_option maxHeartbeats 1000000 in
theorem perform_5 {B : Nat} {s : PC} {w0 w : World} (h : Tn B s w0 w) (hk : s.ins = 5) :
    Calls Tryz.prog 167 #[.pointer (some ⟨B, 0, none⟩)] w fun e w' => e = .returned (.tuple #[]) ∧ Tn B (s.doIns 5) w0 w' := by
  have c_ins := h.c.cins
  rw [hk] at c_ins
  go_enter Tryz.func167, Tryz.ntmps167
  go_wp2_with (first | (go_at_call 205; refine (imeth_at 5 (by decide) (.func (.func 220) #[] #[]) rfl _).mono ?_; rintro e w1 ⟨rfl, hb⟩; have h1 := below_thru h hb) | (go_at_call 220; refine (beq_any h1).mono ?_; rintro e w2 ⟨rfl, h2⟩))
  go_end0
  exact ⟨rfl, h2⟩

set_option maxRecDepth 100000 in
set_option maxHeartbeats 1000000 in
theorem perform_6 {B : Nat} {s : PC} {w0 w : World} (h : Tn B s w0 w) (hk : s.ins = 6) :
    Calls Tryz.prog 167 #[.pointer (some ⟨B, 0, none⟩)] w fun e w' => e = .returned (.tuple #[]) ∧ Tn B (s.doIns 6) w0 w' := by
  have c_ins := h.c.cins
  rw [hk] at c_ins
  go_enter Tryz.func167, Tryz.ntmps167
  go_wp2_with (first | (go_at_call 205; refine (imeth_at 6 (by decide) (.func (.func 221) #[] #[]) rfl _).mono ?_; rintro e w1 ⟨rfl, hb⟩; have h1 := below_thru h hb) | (go_at_call 221; refine (bmi_any h1).mono ?_; rintro e w2 ⟨rfl, h2⟩))
  go_end0
  exact ⟨rfl, h2⟩

set_option maxRecDepth 100000 in
set_option maxHeartbeats 1000000 in
theorem perform_7 {B : Nat} {s : PC} {w0 w : World} (h : Tn B s w0 w) (hk : s.ins = 7) :
    Calls Tryz.prog 167 #[.pointer (some ⟨B, 0, none⟩)] w fun e w' => e = .returned (.tuple #[]) ∧ Tn B (s.doIns 7) w0 w' := by
  have c_ins := h.c.cins
  rw [hk] at c_ins
  go_enter Tryz.func167, Tryz.ntmps167
  go_wp2_with (first | (go_at_call 205; refine (imeth_at 7 (by decide) (.func (.func 222) #[] #[]) rfl _).mono ?_; rintro e w1 ⟨rfl, hb⟩; have h1 := below_thru h hb) | (go_at_call 222; refine (bne_any h1).mono ?_; rintro e w2 ⟨rfl, h2⟩))
  go_end0
  exact ⟨rfl, h2⟩

set_option maxRecDepth 100000 in
set_option maxHeartbeats 1000000 in
theorem perform_8 {B : Nat} {s : PC} {w0 w : World} (h : Tn B s w0 w) (hk : s.ins = 8) :
    Calls Tryz.prog 167 #[.pointer (some ⟨B, 0, none⟩)] w fun e w' => e = .returned (.tuple #[]) ∧ Tn B (s.doIns 8) w0 w' := by
  have c_ins := h.c.cins
  rw [hk] at c_ins
  go_enter Tryz.func167, Tryz.ntmps167
  go_wp2_with (first | (go_at_call 205; refine (imeth_at 8 (by decide) (.func (.func 223) #[] #[]) rfl _).mono ?_; rintro e w1 ⟨rfl, hb⟩; have h1 := below_thru h hb) | (go_at_call 223; refine (bpl_any h1).mono ?_; rintro e w2 ⟨rfl, h2⟩))
  go_end0
  exact ⟨rfl, h2⟩

set_option maxRecDepth 100000 in
set_option maxHeartbeats 1000000 in
theorem perform_9 {B : Nat} {s : PC} {w0 w : World} (h : Tn B s w0 w) (hk : s.ins = 9) :
    Calls Tryz.prog 167 #[.pointer (some ⟨B, 0, none⟩)] w fun e w' => e = .returned (.tuple #[]) ∧ Tn B (s.doIns 9) w0 w' := by
  have c_ins := h.c.cins
  rw [hk] at c_ins
  go_enter Tryz.func167, Tryz.ntmps167
  go_wp2_with (first | (go_at_call 205; refine (imeth_at 9 (by decide) (.func (.func 224) #[] #[]) rfl _).mono ?_; rintro e w1 ⟨rfl, hb⟩; have h1 := below_thru h hb) | (go_at_call 224; refine (bvc_any h1).mono ?_; rintro e w2 ⟨rfl, h2⟩))
  go_end0
  exact ⟨rfl, h2⟩

set_option maxRecDepth 100000 in
set_option maxHeartbeats 1000000 in
theorem perform_10 {B : Nat} {s : PC} {w0 w : World} (h : Tn B s w0 w) (hk : s.ins = 10) :
    Calls Tryz.prog 167 #[.pointer (some ⟨B, 0, none⟩)] w fun e w' => e = .returned (.tuple #[]) ∧ Tn B (s.doIns 10) w0 w' := by
  have c_ins := h.c.cins
  rw [hk] at c_ins
  go_enter Tryz.func167, Tryz.ntmps167
  go_wp2_with (first | (go_at_call 205; refine (imeth_at 10 (by decide) (.func (.func 225) #[] #[]) rfl _).mono ?_; rintro e w1 ⟨rfl, hb⟩; have h1 := below_thru h hb) | (go_at_call 225; refine (bvs_any h1).mono ?_; rintro e w2 ⟨rfl, h2⟩))
  go_end0
  exact ⟨rfl, h2⟩

set_option maxRecDepth 100000 in
set_option maxHeartbeats 1000000 in
theorem perform_11 {B : Nat} {s : PC} {w0 w : World} (h : Tn B s w0 w) (hk : s.ins = 11) :
    Calls Tryz.prog 167 #[.pointer (some ⟨B, 0, none⟩)] w fun e w' => e = .returned (.tuple #[]) ∧ Tn B (s.doIns 11) w0 w' := by
  have c_ins := h.c.cins
  rw [hk] at c_ins
  go_enter Tryz.func167, Tryz.ntmps167
  go_wp2_with (first | (go_at_call 205; refine (imeth_at 11 (by decide) (.func (.func 226) #[] #[]) rfl _).mono ?_; rintro e w1 ⟨rfl, hb⟩; have h1 := below_thru h hb) | (go_at_call 226; refine (bit_any h1).mono ?_; rintro e w2 ⟨rfl, h2⟩))
  go_end0
  exact ⟨rfl, h2⟩

set_option maxRecDepth 100000 in
set_option maxHeartbeats 1000000 in
theorem perform_12 {B : Nat} {s : PC} {w0 w : World} (h : Tn B s w0 w) (hk : s.ins = 12) :
    Calls Tryz.prog 167 #[.pointer (some ⟨B, 0, none⟩)] w fun e w' => e = .returned (.tuple #[]) ∧ Tn B (s.doIns 12) w0 w' := by
  have c_ins := h.c.cins
  rw [hk] at c_ins
  go_enter Tryz.func167, Tryz.ntmps167
  go_wp2_with (first | (go_at_call 205; refine (imeth_at 12 (by decide) (.func (.func 227) #[] #[]) rfl _).mono ?_; rintro e w1 ⟨rfl, hb⟩; have h1 := below_thru h hb) | (go_at_call 227; refine (brk_any h1).mono ?_; rintro e w2 ⟨rfl, h2⟩))
  go_end0
  exact ⟨rfl, h2⟩

set_option maxRecDepth 100000 in
set_option maxHeartbeats 1000000 in
theorem perform_13 {B : Nat} {s : PC} {w0 w : World} (h : Tn B s w0 w) (hk : s.ins = 13) :
    Calls Tryz.prog 167 #[.pointer (some ⟨B, 0, none⟩)] w fun e w' => e = .returned (.tuple #[]) ∧ Tn B (s.doIns 13) w0 w' := by
  have c_ins := h.c.cins
  rw [hk] at c_ins
  go_enter Tryz.func167, Tryz.ntmps167
  go_wp2_with (first | (go_at_call 205; refine (imeth_at 13 (by decide) (.func (.func 228) #[] #[]) rfl _).mono ?_; rintro e w1 ⟨rfl, hb⟩; have h1 := below_thru h hb) | (go_at_call 228; refine (clc_any h1).mono ?_; rintro e w2 ⟨rfl, h2⟩))
  go_end0
  exact ⟨rfl, h2⟩

set_option maxRecDepth 100000 in
set_option maxHeartbeats 1000000 in
theorem perform_14 {B : Nat} {s : PC} {w0 w : World} (h : Tn B s w0 w) (hk : s.ins = 14) :
    Calls Tryz.prog 167 #[.pointer (some ⟨B, 0, none⟩)] w fun e w' => e = .returned (.tuple #[]) ∧ Tn B (s.doIns 14) w0 w' := by
  have c_ins := h.c.cins
  rw [hk] at c_ins
  go_enter Tryz.func167, Tryz.ntmps167
  go_wp2_with (first | (go_at_call 205; refine (imeth_at 14 (by decide) (.func (.func 229) #[] #[]) rfl _).mono ?_; rintro e w1 ⟨rfl, hb⟩; have h1 := below_thru h hb) | (go_at_call 229; refine (cld_any h1).mono ?_; rintro e w2 ⟨rfl, h2⟩))
  go_end0
  exact ⟨rfl, h2⟩

set_option maxRecDepth 100000 in
set_option maxHeartbeats 1000000 in
theorem perform_15 {B : Nat} {s : PC} {w0 w : World} (h : Tn B s w0 w) (hk : s.ins = 15) :
    Calls Tryz.prog 167 #[.pointer (some ⟨B, 0, none⟩)] w fun e w' => e = .returned (.tuple #[]) ∧ Tn B (s.doIns 15) w0 w' := by
  have c_ins := h.c.cins
  rw [hk] at c_ins
  go_enter Tryz.func167, Tryz.ntmps167
  go_wp2_with (first | (go_at_call 205; refine (imeth_at 15 (by decide) (.func (.func 230) #[] #[]) rfl _).mono ?_; rintro e w1 ⟨rfl, hb⟩; have h1 := below_thru h hb) | (go_at_call 230; refine (cli_any h1).mono ?_; rintro e w2 ⟨rfl, h2⟩))
  go_end0
  exact ⟨rfl, h2⟩

set_option maxRecDepth 100000 in
set_option maxHeartbeats 1000000 in
theorem perform_16 {B : Nat} {s : PC} {w0 w : World} (h : Tn B s w0 w) (hk : s.ins = 16) :
    Calls Tryz.prog 167 #[.pointer (some ⟨B, 0, none⟩)] w fun e w' => e = .returned (.tuple #[]) ∧ Tn B (s.doIns 16) w0 w' := by
  have c_ins := h.c.cins
  rw [hk] at c_ins
  go_enter Tryz.func167, Tryz.ntmps167
  go_wp2_with (first | (go_at_call 205; refine (imeth_at 16 (by decide) (.func (.func 231) #[] #[]) rfl _).mono ?_; rintro e w1 ⟨rfl, hb⟩; have h1 := below_thru h hb) | (go_at_call 231; refine (clv_any h1).mono ?_; rintro e w2 ⟨rfl, h2⟩))
  go_end0
  exact ⟨rfl, h2⟩

set_option maxRecDepth 100000 in
set_option maxHeartbeats 1000000 in
theorem perform_17 {B : Nat} {s : PC} {w0 w : World} (h : Tn B s w0 w) (hk : s.ins = 17) :
    Calls Tryz.prog 167 #[.pointer (some ⟨B, 0, none⟩)] w fun e w' => e = .returned (.tuple #[]) ∧ Tn B (s.doIns 17) w0 w' := by
  have c_ins := h.c.cins
  rw [hk] at c_ins
  go_enter Tryz.func167, Tryz.ntmps167
  go_wp2_with (first | (go_at_call 205; refine (imeth_at 17 (by decide) (.func (.func 232) #[] #[]) rfl _).mono ?_; rintro e w1 ⟨rfl, hb⟩; have h1 := below_thru h hb) | (go_at_call 232; refine (cmp_any h1).mono ?_; rintro e w2 ⟨rfl, h2⟩))
  go_end0
  exact ⟨rfl, h2⟩

set_option maxRecDepth 100000 in
set_option maxHeartbeats 1000000 in
theorem perform_18 {B : Nat} {s : PC} {w0 w : World} (h : Tn B s w0 w) (hk : s.ins = 18) :
    Calls Tryz.prog 167 #[.pointer (some ⟨B, 0, none⟩)] w fun e w' => e = .returned (.tuple #[]) ∧ Tn B (s.doIns 18) w0 w' := by
  have c_ins := h.c.cins
  rw [hk] at c_ins
  go_enter Tryz.func167, Tryz.ntmps167
  go_wp2_with (first | (go_at_call 205; refine (imeth_at 18 (by decide) (.func (.func 233) #[] #[]) rfl _).mono ?_; rintro e w1 ⟨rfl, hb⟩; have h1 := below_thru h hb) | (go_at_call 233; refine (cpx_any h1).mono ?_; rintro e w2 ⟨rfl, h2⟩))
  go_end0
  exact ⟨rfl, h2⟩


end Go.Proofs.YtcgjliflnnklnaaGreat
