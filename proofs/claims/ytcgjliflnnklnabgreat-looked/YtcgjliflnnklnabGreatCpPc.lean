/-
  An instruction is performed: through the table (further).
-/
import Derived.Test.YtcgjliflnnklnabGreatCpPa
namespace Go.Proofs.YtcgjliflnnklnabGreat
open Go.RowKit

set_option maxRecDepth 100000 in
set_option maxHeartbeats 1000000 in
theorem perform_19 {B : Nat} {s : PC} {w0 w : World} (h : Tn B s w0 w) (hk : s.ins = 19) :
    Calls Tryz.prog 92 #[.pointer (some ⟨B, 0, none⟩)] w fun e w' => e = .returned (.tuple #[]) ∧ Tn B (s.doIns 19) w0 w' := by
  have c_ins := h.c.cins
  rw [hk] at c_ins
  go_enter Tryz.func92, Tryz.ntmps92
  go_wp2_with (first | (go_at_call 119; refine (imeth_at 19 (by decide) (.func (.func 147) #[] #[]) rfl _).mono ?_; rintro e w1 ⟨rfl, hb⟩; have h1 := below_thru h hb) | (go_at_call 147; refine (cpy_any h1).mono ?_; rintro e w2 ⟨rfl, h2⟩))
  go_end0
  exact ⟨rfl, h2⟩

set_option maxRecDepth 100000 in
set_option maxHeartbeats 1000000 in
theorem perform_20 {B : Nat} {s : PC} {w0 w : World} (h : Tn B s w0 w) (hk : s.ins = 20) :
    Calls Tryz.prog 92 #[.pointer (some ⟨B, 0, none⟩)] w fun e w' => e = .returned (.tuple #[]) ∧ Tn B (s.doIns 20) w0 w' := by
  have c_ins := h.c.cins
  rw [hk] at c_ins
  go_enter Tryz.func92, Tryz.ntmps92
  go_wp2_with (first | (go_at_call 119; refine (imeth_at 20 (by decide) (.func (.func 148) #[] #[]) rfl _).mono ?_; rintro e w1 ⟨rfl, hb⟩; have h1 := below_thru h hb) | (go_at_call 148; refine (dec_any h1).mono ?_; rintro e w2 ⟨rfl, h2⟩))
  go_end0
  exact ⟨rfl, h2⟩

set_option maxRecDepth 100000 in
set_option maxHeartbeats 1000000 in
theorem perform_21 {B : Nat} {s : PC} {w0 w : World} (h : Tn B s w0 w) (hk : s.ins = 21) :
    Calls Tryz.prog 92 #[.pointer (some ⟨B, 0, none⟩)] w fun e w' => e = .returned (.tuple #[]) ∧ Tn B (s.doIns 21) w0 w' := by
  have c_ins := h.c.cins
  rw [hk] at c_ins
  go_enter Tryz.func92, Tryz.ntmps92
  go_wp2_with (first | (go_at_call 119; refine (imeth_at 21 (by decide) (.func (.func 149) #[] #[]) rfl _).mono ?_; rintro e w1 ⟨rfl, hb⟩; have h1 := below_thru h hb) | (go_at_call 149; refine (dex_any h1).mono ?_; rintro e w2 ⟨rfl, h2⟩))
  go_end0
  exact ⟨rfl, h2⟩

set_option maxRecDepth 100000 in
set_option maxHeartbeats 1000000 in
theorem perform_22 {B : Nat} {s : PC} {w0 w : World} (h : Tn B s w0 w) (hk : s.ins = 22) :
    Calls Tryz.prog 92 #[.pointer (some ⟨B, 0, none⟩)] w fun e w' => e = .returned (.tuple #[]) ∧ Tn B (s.doIns 22) w0 w' := by
  have c_ins := h.c.cins
  rw [hk] at c_ins
  go_enter Tryz.func92, Tryz.ntmps92
  go_wp2_with (first | (go_at_call 119; refine (imeth_at 22 (by decide) (.func (.func 150) #[] #[]) rfl _).mono ?_; rintro e w1 ⟨rfl, hb⟩; have h1 := below_thru h hb) | (go_at_call 150; refine (dey_any h1).mono ?_; rintro e w2 ⟨rfl, h2⟩))
  go_end0
  exact ⟨rfl, h2⟩

set_option maxRecDepth 100000 in
set_option maxHeartbeats 1000000 in
theorem perform_23 {B : Nat} {s : PC} {w0 w : World} (h : Tn B s w0 w) (hk : s.ins = 23) :
    Calls Tryz.prog 92 #[.pointer (some ⟨B, 0, none⟩)] w fun e w' => e = .returned (.tuple #[]) ∧ Tn B (s.doIns 23) w0 w' := by
  have c_ins := h.c.cins
  rw [hk] at c_ins
  go_enter Tryz.func92, Tryz.ntmps92
  go_wp2_with (first | (go_at_call 119; refine (imeth_at 23 (by decide) (.func (.func 151) #[] #[]) rfl _).mono ?_; rintro e w1 ⟨rfl, hb⟩; have h1 := below_thru h hb) | (go_at_call 151; refine (eor_any h1).mono ?_; rintro e w2 ⟨rfl, h2⟩))
  go_end0
  exact ⟨rfl, h2⟩

set_option maxRecDepth 100000 in
set_option maxHeartbeats 1000000 in
theorem perform_24 {B : Nat} {s : PC} {w0 w : World} (h : Tn B s w0 w) (hk : s.ins = 24) :
    Calls Tryz.prog 92 #[.pointer (some ⟨B, 0, none⟩)] w fun e w' => e = .returned (.tuple #[]) ∧ Tn B (s.doIns 24) w0 w' := by
  have c_ins := h.c.cins
  rw [hk] at c_ins
  go_enter Tryz.func92, Tryz.ntmps92
  go_wp2_with (first | (go_at_call 119; refine (imeth_at 24 (by decide) (.func (.func 152) #[] #[]) rfl _).mono ?_; rintro e w1 ⟨rfl, hb⟩; have h1 := below_thru h hb) | (go_at_call 152; refine (inc_any h1).mono ?_; rintro e w2 ⟨rfl, h2⟩))
  go_end0
  exact ⟨rfl, h2⟩

set_option maxRecDepth 100000 in
set_option maxHeartbeats 1000000 in
theorem perform_25 {B : Nat} {s : PC} {w0 w : World} (h : Tn B s w0 w) (hk : s.ins = 25) :
    Calls Tryz.prog 92 #[.pointer (some ⟨B, 0, none⟩)] w fun e w' => e = .returned (.tuple #[]) ∧ Tn B (s.doIns 25) w0 w' := by
  have c_ins := h.c.cins
  rw [hk] at c_ins
  go_enter Tryz.func92, Tryz.ntmps92
  go_wp2_with (first | (go_at_call 119; refine (imeth_at 25 (by decide) (.func (.func 153) #[] #[]) rfl _).mono ?_; rintro e w1 ⟨rfl, hb⟩; have h1 := below_thru h hb) | (go_at_call 153; refine (inx_any h1).mono ?_; rintro e w2 ⟨rfl, h2⟩))
  go_end0
  exact ⟨rfl, h2⟩

set_option maxRecDepth 100000 in
set_option maxHeartbeats 1000000 in
theorem perform_26 {B : Nat} {s : PC} {w0 w : World} (h : Tn B s w0 w) (hk : s.ins = 26) :
    Calls Tryz.prog 92 #[.pointer (some ⟨B, 0, none⟩)] w fun e w' => e = .returned (.tuple #[]) ∧ Tn B (s.doIns 26) w0 w' := by
  have c_ins := h.c.cins
  rw [hk] at c_ins
  go_enter Tryz.func92, Tryz.ntmps92
  go_wp2_with (first | (go_at_call 119; refine (imeth_at 26 (by decide) (.func (.func 154) #[] #[]) rfl _).mono ?_; rintro e w1 ⟨rfl, hb⟩; have h1 := below_thru h hb) | (go_at_call 154; refine (iny_any h1).mono ?_; rintro e w2 ⟨rfl, h2⟩))
  go_end0
  exact ⟨rfl, h2⟩

set_option maxRecDepth 100000 in
set_option maxHeartbeats 1000000 in
theorem perform_27 {B : Nat} {s : PC} {w0 w : World} (h : Tn B s w0 w) (hk : s.ins = 27) :
    Calls Tryz.prog 92 #[.pointer (some ⟨B, 0, none⟩)] w fun e w' => e = .returned (.tuple #[]) ∧ Tn B (s.doIns 27) w0 w' := by
  have c_ins := h.c.cins
  rw [hk] at c_ins
  go_enter Tryz.func92, Tryz.ntmps92
  go_wp2_with (first | (go_at_call 119; refine (imeth_at 27 (by decide) (.func (.func 155) #[] #[]) rfl _).mono ?_; rintro e w1 ⟨rfl, hb⟩; have h1 := below_thru h hb) | (go_at_call 155; refine (jmp_any h1).mono ?_; rintro e w2 ⟨rfl, h2⟩))
  go_end0
  exact ⟨rfl, h2⟩

set_option maxRecDepth 100000 in
set_option maxHeartbeats 1000000 in
theorem perform_28 {B : Nat} {s : PC} {w0 w : World} (h : Tn B s w0 w) (hk : s.ins = 28) :
    Calls Tryz.prog 92 #[.pointer (some ⟨B, 0, none⟩)] w fun e w' => e = .returned (.tuple #[]) ∧ Tn B (s.doIns 28) w0 w' := by
  have c_ins := h.c.cins
  rw [hk] at c_ins
  go_enter Tryz.func92, Tryz.ntmps92
  go_wp2_with (first | (go_at_call 119; refine (imeth_at 28 (by decide) (.func (.func 156) #[] #[]) rfl _).mono ?_; rintro e w1 ⟨rfl, hb⟩; have h1 := below_thru h hb) | (go_at_call 156; refine (jsr_any h1).mono ?_; rintro e w2 ⟨rfl, h2⟩))
  go_end0
  exact ⟨rfl, h2⟩

set_option maxRecDepth 100000 in
set_option maxHeartbeats 1000000 in
theorem perform_29 {B : Nat} {s : PC} {w0 w : World} (h : Tn B s w0 w) (hk : s.ins = 29) :
    Calls Tryz.prog 92 #[.pointer (some ⟨B, 0, none⟩)] w fun e w' => e = .returned (.tuple #[]) ∧ Tn B (s.doIns 29) w0 w' := by
  have c_ins := h.c.cins
  rw [hk] at c_ins
  go_enter Tryz.func92, Tryz.ntmps92
  go_wp2_with (first | (go_at_call 119; refine (imeth_at 29 (by decide) (.func (.func 157) #[] #[]) rfl _).mono ?_; rintro e w1 ⟨rfl, hb⟩; have h1 := below_thru h hb) | (go_at_call 157; refine (lda_any h1).mono ?_; rintro e w2 ⟨rfl, h2⟩))
  go_end0
  exact ⟨rfl, h2⟩

set_option maxRecDepth 100000 in
set_option maxHeartbeats 1000000 in
theorem perform_30 {B : Nat} {s : PC} {w0 w : World} (h : Tn B s w0 w) (hk : s.ins = 30) :
    Calls Tryz.prog 92 #[.pointer (some ⟨B, 0, none⟩)] w fun e w' => e = .returned (.tuple #[]) ∧ Tn B (s.doIns 30) w0 w' := by
  have c_ins := h.c.cins
  rw [hk] at c_ins
  go_enter Tryz.func92, Tryz.ntmps92
  go_wp2_with (first | (go_at_call 119; refine (imeth_at 30 (by decide) (.func (.func 158) #[] #[]) rfl _).mono ?_; rintro e w1 ⟨rfl, hb⟩; have h1 := below_thru h hb) | (go_at_call 158; refine (ldx_any h1).mono ?_; rintro e w2 ⟨rfl, h2⟩))
  go_end0
  exact ⟨rfl, h2⟩

set_option maxRecDepth 100000 in
set_option maxHeartbeats 1000000 in
theorem perform_31 {B : Nat} {s : PC} {w0 w : World} (h : Tn B s w0 w) (hk : s.ins = 31) :
    Calls Tryz.prog 92 #[.pointer (some ⟨B, 0, none⟩)] w fun e w' => e = .returned (.tuple #[]) ∧ Tn B (s.doIns 31) w0 w' := by
  have c_ins := h.c.cins
  rw [hk] at c_ins
  go_enter Tryz.func92, Tryz.ntmps92
  go_wp2_with (first | (go_at_call 119; refine (imeth_at 31 (by decide) (.func (.func 159) #[] #[]) rfl _).mono ?_; rintro e w1 ⟨rfl, hb⟩; have h1 := below_thru h hb) | (go_at_call 159; refine (ldy_any h1).mono ?_; rintro e w2 ⟨rfl, h2⟩))
  go_end0
  exact ⟨rfl, h2⟩

set_option maxRecDepth 100000 in
set_option maxHeartbeats 1000000 in
theorem perform_32 {B : Nat} {s : PC} {w0 w : World} (h : Tn B s w0 w) (hk : s.ins = 32) :
    Calls Tryz.prog 92 #[.pointer (some ⟨B, 0, none⟩)] w fun e w' => e = .returned (.tuple #[]) ∧ Tn B (s.doIns 32) w0 w' := by
  have c_ins := h.c.cins
  rw [hk] at c_ins
  go_enter Tryz.func92, Tryz.ntmps92
  go_wp2_with (first | (go_at_call 119; refine (imeth_at 32 (by decide) (.func (.func 160) #[] #[]) rfl _).mono ?_; rintro e w1 ⟨rfl, hb⟩; have h1 := below_thru h hb) | (go_at_call 160; refine (lsr_any h1).mono ?_; rintro e w2 ⟨rfl, h2⟩))
  go_end0
  exact ⟨rfl, h2⟩

set_option maxRecDepth 100000 in
set_option maxHeartbeats 1000000 in
theorem perform_33 {B : Nat} {s : PC} {w0 w : World} (h : Tn B s w0 w) (hk : s.ins = 33) :
    Calls Tryz.prog 92 #[.pointer (some ⟨B, 0, none⟩)] w fun e w' => e = .returned (.tuple #[]) ∧ Tn B (s.doIns 33) w0 w' := by
  have c_ins := h.c.cins
  rw [hk] at c_ins
  go_enter Tryz.func92, Tryz.ntmps92
  go_wp2_with (first | (go_at_call 119; refine (imeth_at 33 (by decide) (.func (.func 161) #[] #[]) rfl _).mono ?_; rintro e w1 ⟨rfl, hb⟩; have h1 := below_thru h hb) | (go_at_call 161; refine (nop_any h1).mono ?_; rintro e w2 ⟨rfl, h2⟩))
  go_end0
  exact ⟨rfl, h2⟩

set_option maxRecDepth 100000 in
set_option maxHeartbeats 1000000 in
theorem perform_34 {B : Nat} {s : PC} {w0 w : World} (h : Tn B s w0 w) (hk : s.ins = 34) :
    Calls Tryz.prog 92 #[.pointer (some ⟨B, 0, none⟩)] w fun e w' => e = .returned (.tuple #[]) ∧ Tn B (s.doIns 34) w0 w' := by
  have c_ins := h.c.cins
  rw [hk] at c_ins
  go_enter Tryz.func92, Tryz.ntmps92
  go_wp2_with (first | (go_at_call 119; refine (imeth_at 34 (by decide) (.func (.func 162) #[] #[]) rfl _).mono ?_; rintro e w1 ⟨rfl, hb⟩; have h1 := below_thru h hb) | (go_at_call 162; refine (ora_any h1).mono ?_; rintro e w2 ⟨rfl, h2⟩))
  go_end0
  exact ⟨rfl, h2⟩

set_option maxRecDepth 100000 in
set_option maxHeartbeats 1000000 in
theorem perform_35 {B : Nat} {s : PC} {w0 w : World} (h : Tn B s w0 w) (hk : s.ins = 35) :
    Calls Tryz.prog 92 #[.pointer (some ⟨B, 0, none⟩)] w fun e w' => e = .returned (.tuple #[]) ∧ Tn B (s.doIns 35) w0 w' := by
  have c_ins := h.c.cins
  rw [hk] at c_ins
  go_enter Tryz.func92, Tryz.ntmps92
  go_wp2_with (first | (go_at_call 119; refine (imeth_at 35 (by decide) (.func (.func 163) #[] #[]) rfl _).mono ?_; rintro e w1 ⟨rfl, hb⟩; have h1 := below_thru h hb) | (go_at_call 163; refine (pha_any h1).mono ?_; rintro e w2 ⟨rfl, h2⟩))
  go_end0
  exact ⟨rfl, h2⟩

set_option maxRecDepth 100000 in
set_option maxHeartbeats 1000000 in
theorem perform_36 {B : Nat} {s : PC} {w0 w : World} (h : Tn B s w0 w) (hk : s.ins = 36) :
    Calls Tryz.prog 92 #[.pointer (some ⟨B, 0, none⟩)] w fun e w' => e = .returned (.tuple #[]) ∧ Tn B (s.doIns 36) w0 w' := by
  have c_ins := h.c.cins
  rw [hk] at c_ins
  go_enter Tryz.func92, Tryz.ntmps92
  go_wp2_with (first | (go_at_call 119; refine (imeth_at 36 (by decide) (.func (.func 164) #[] #[]) rfl _).mono ?_; rintro e w1 ⟨rfl, hb⟩; have h1 := below_thru h hb) | (go_at_call 164; refine (php_any h1).mono ?_; rintro e w2 ⟨rfl, h2⟩))
  go_end0
  exact ⟨rfl, h2⟩

set_option maxRecDepth 100000 in
set_option maxHeartbeats 1000000 in
theorem perform_37 {B : Nat} {s : PC} {w0 w : World} (h : Tn B s w0 w) (hk : s.ins = 37) :
    Calls Tryz.prog 92 #[.pointer (some ⟨B, 0, none⟩)] w fun e w' => e = .returned (.tuple #[]) ∧ Tn B (s.doIns 37) w0 w' := by
  have c_ins := h.c.cins
  rw [hk] at c_ins
  go_enter Tryz.func92, Tryz.ntmps92
  go_wp2_with (first | (go_at_call 119; refine (imeth_at 37 (by decide) (.func (.func 165) #[] #[]) rfl _).mono ?_; rintro e w1 ⟨rfl, hb⟩; have h1 := below_thru h hb) | (go_at_call 165; refine (pla_any h1).mono ?_; rintro e w2 ⟨rfl, h2⟩))
  go_end0
  exact ⟨rfl, h2⟩


end Go.Proofs.YtcgjliflnnklnabGreat
