/-
  An instruction is performed: through the table (further).
-/
import Derived.Test.YtcgjliflnnklnaaGreatCpPa
namespace Go.Proofs.YtcgjliflnnklnaaGreat
open Go.RowKit

set_option maxRecDepth 100000 in
set_option maxHeartbeats 1000000 in
theorem perform_38 {B : Nat} {s : PC} {w0 w : World} (h : Tn B s w0 w) (hk : s.ins = 38) :
    Calls Tryz.prog 167 #[.pointer (some ⟨B, 0, none⟩)] w fun e w' => e = .returned (.tuple #[]) ∧ Tn B (s.doIns 38) w0 w' := by
  have c_ins := h.c.cins
  rw [hk] at c_ins
  go_enter Tryz.func167, Tryz.ntmps167
  go_wp2_with (first | (go_at_call 205; refine (imeth_at 38 (by decide) (.func (.func 253) #[] #[]) rfl _).mono ?_; rintro e w1 ⟨rfl, hb⟩; have h1 := below_thru h hb) | (go_at_call 253; refine (plp_any h1).mono ?_; rintro e w2 ⟨rfl, h2⟩))
  go_end0
  exact ⟨rfl, h2⟩

set_option maxRecDepth 100000 in
set_option maxHeartbeats 1000000 in
theorem perform_39 {B : Nat} {s : PC} {w0 w : World} (h : Tn B s w0 w) (hk : s.ins = 39) :
    Calls Tryz.prog 167 #[.pointer (some ⟨B, 0, none⟩)] w fun e w' => e = .returned (.tuple #[]) ∧ Tn B (s.doIns 39) w0 w' := by
  have c_ins := h.c.cins
  rw [hk] at c_ins
  go_enter Tryz.func167, Tryz.ntmps167
  go_wp2_with (first | (go_at_call 205; refine (imeth_at 39 (by decide) (.func (.func 254) #[] #[]) rfl _).mono ?_; rintro e w1 ⟨rfl, hb⟩; have h1 := below_thru h hb) | (go_at_call 254; refine (rol_any h1).mono ?_; rintro e w2 ⟨rfl, h2⟩))
  go_end0
  exact ⟨rfl, h2⟩

set_option maxRecDepth 100000 in
set_option maxHeartbeats 1000000 in
theorem perform_40 {B : Nat} {s : PC} {w0 w : World} (h : Tn B s w0 w) (hk : s.ins = 40) :
    Calls Tryz.prog 167 #[.pointer (some ⟨B, 0, none⟩)] w fun e w' => e = .returned (.tuple #[]) ∧ Tn B (s.doIns 40) w0 w' := by
  have c_ins := h.c.cins
  rw [hk] at c_ins
  go_enter Tryz.func167, Tryz.ntmps167
  go_wp2_with (first | (go_at_call 205; refine (imeth_at 40 (by decide) (.func (.func 255) #[] #[]) rfl _).mono ?_; rintro e w1 ⟨rfl, hb⟩; have h1 := below_thru h hb) | (go_at_call 255; refine (ror_any h1).mono ?_; rintro e w2 ⟨rfl, h2⟩))
  go_end0
  exact ⟨rfl, h2⟩

set_option maxRecDepth 100000 in
set_option maxHeartbeats 1000000 in
theorem perform_41 {B : Nat} {s : PC} {w0 w : World} (h : Tn B s w0 w) (hk : s.ins = 41) :
    Calls Tryz.prog 167 #[.pointer (some ⟨B, 0, none⟩)] w fun e w' => e = .returned (.tuple #[]) ∧ Tn B (s.doIns 41) w0 w' := by
  have c_ins := h.c.cins
  rw [hk] at c_ins
  go_enter Tryz.func167, Tryz.ntmps167
  go_wp2_with (first | (go_at_call 205; refine (imeth_at 41 (by decide) (.func (.func 256) #[] #[]) rfl _).mono ?_; rintro e w1 ⟨rfl, hb⟩; have h1 := below_thru h hb) | (go_at_call 256; refine (rti_any h1).mono ?_; rintro e w2 ⟨rfl, h2⟩))
  go_end0
  exact ⟨rfl, h2⟩

set_option maxRecDepth 100000 in
set_option maxHeartbeats 1000000 in
theorem perform_42 {B : Nat} {s : PC} {w0 w : World} (h : Tn B s w0 w) (hk : s.ins = 42) :
    Calls Tryz.prog 167 #[.pointer (some ⟨B, 0, none⟩)] w fun e w' => e = .returned (.tuple #[]) ∧ Tn B (s.doIns 42) w0 w' := by
  have c_ins := h.c.cins
  rw [hk] at c_ins
  go_enter Tryz.func167, Tryz.ntmps167
  go_wp2_with (first | (go_at_call 205; refine (imeth_at 42 (by decide) (.func (.func 257) #[] #[]) rfl _).mono ?_; rintro e w1 ⟨rfl, hb⟩; have h1 := below_thru h hb) | (go_at_call 257; refine (rts_any h1).mono ?_; rintro e w2 ⟨rfl, h2⟩))
  go_end0
  exact ⟨rfl, h2⟩

set_option maxRecDepth 100000 in
set_option maxHeartbeats 1000000 in
theorem perform_43 {B : Nat} {s : PC} {w0 w : World} (h : Tn B s w0 w) (hk : s.ins = 43) :
    Calls Tryz.prog 167 #[.pointer (some ⟨B, 0, none⟩)] w fun e w' => e = .returned (.tuple #[]) ∧ Tn B (s.doIns 43) w0 w' := by
  have c_ins := h.c.cins
  rw [hk] at c_ins
  go_enter Tryz.func167, Tryz.ntmps167
  go_wp2_with (first | (go_at_call 205; refine (imeth_at 43 (by decide) (.func (.func 258) #[] #[]) rfl _).mono ?_; rintro e w1 ⟨rfl, hb⟩; have h1 := below_thru h hb) | (go_at_call 258; refine (sbc_any h1).mono ?_; rintro e w2 ⟨rfl, h2⟩))
  go_end0
  exact ⟨rfl, h2⟩

set_option maxRecDepth 100000 in
set_option maxHeartbeats 1000000 in
theorem perform_44 {B : Nat} {s : PC} {w0 w : World} (h : Tn B s w0 w) (hk : s.ins = 44) :
    Calls Tryz.prog 167 #[.pointer (some ⟨B, 0, none⟩)] w fun e w' => e = .returned (.tuple #[]) ∧ Tn B (s.doIns 44) w0 w' := by
  have c_ins := h.c.cins
  rw [hk] at c_ins
  go_enter Tryz.func167, Tryz.ntmps167
  go_wp2_with (first | (go_at_call 205; refine (imeth_at 44 (by decide) (.func (.func 259) #[] #[]) rfl _).mono ?_; rintro e w1 ⟨rfl, hb⟩; have h1 := below_thru h hb) | (go_at_call 259; refine (sec_any h1).mono ?_; rintro e w2 ⟨rfl, h2⟩))
  go_end0
  exact ⟨rfl, h2⟩

set_option maxRecDepth 100000 in
set_option maxHeartbeats 1000000 in
theorem perform_45 {B : Nat} {s : PC} {w0 w : World} (h : Tn B s w0 w) (hk : s.ins = 45) :
    Calls Tryz.prog 167 #[.pointer (some ⟨B, 0, none⟩)] w fun e w' => e = .returned (.tuple #[]) ∧ Tn B (s.doIns 45) w0 w' := by
  have c_ins := h.c.cins
  rw [hk] at c_ins
  go_enter Tryz.func167, Tryz.ntmps167
  go_wp2_with (first | (go_at_call 205; refine (imeth_at 45 (by decide) (.func (.func 260) #[] #[]) rfl _).mono ?_; rintro e w1 ⟨rfl, hb⟩; have h1 := below_thru h hb) | (go_at_call 260; refine (sed_any h1).mono ?_; rintro e w2 ⟨rfl, h2⟩))
  go_end0
  exact ⟨rfl, h2⟩

set_option maxRecDepth 100000 in
set_option maxHeartbeats 1000000 in
theorem perform_46 {B : Nat} {s : PC} {w0 w : World} (h : Tn B s w0 w) (hk : s.ins = 46) :
    Calls Tryz.prog 167 #[.pointer (some ⟨B, 0, none⟩)] w fun e w' => e = .returned (.tuple #[]) ∧ Tn B (s.doIns 46) w0 w' := by
  have c_ins := h.c.cins
  rw [hk] at c_ins
  go_enter Tryz.func167, Tryz.ntmps167
  go_wp2_with (first | (go_at_call 205; refine (imeth_at 46 (by decide) (.func (.func 261) #[] #[]) rfl _).mono ?_; rintro e w1 ⟨rfl, hb⟩; have h1 := below_thru h hb) | (go_at_call 261; refine (sei_any h1).mono ?_; rintro e w2 ⟨rfl, h2⟩))
  go_end0
  exact ⟨rfl, h2⟩

set_option maxRecDepth 100000 in
set_option maxHeartbeats 1000000 in
theorem perform_47 {B : Nat} {s : PC} {w0 w : World} (h : Tn B s w0 w) (hk : s.ins = 47) :
    Calls Tryz.prog 167 #[.pointer (some ⟨B, 0, none⟩)] w fun e w' => e = .returned (.tuple #[]) ∧ Tn B (s.doIns 47) w0 w' := by
  have c_ins := h.c.cins
  rw [hk] at c_ins
  go_enter Tryz.func167, Tryz.ntmps167
  go_wp2_with (first | (go_at_call 205; refine (imeth_at 47 (by decide) (.func (.func 262) #[] #[]) rfl _).mono ?_; rintro e w1 ⟨rfl, hb⟩; have h1 := below_thru h hb) | (go_at_call 262; refine (sta_any h1).mono ?_; rintro e w2 ⟨rfl, h2⟩))
  go_end0
  exact ⟨rfl, h2⟩

set_option maxRecDepth 100000 in
set_option maxHeartbeats 1000000 in
theorem perform_48 {B : Nat} {s : PC} {w0 w : World} (h : Tn B s w0 w) (hk : s.ins = 48) :
    Calls Tryz.prog 167 #[.pointer (some ⟨B, 0, none⟩)] w fun e w' => e = .returned (.tuple #[]) ∧ Tn B (s.doIns 48) w0 w' := by
  have c_ins := h.c.cins
  rw [hk] at c_ins
  go_enter Tryz.func167, Tryz.ntmps167
  go_wp2_with (first | (go_at_call 205; refine (imeth_at 48 (by decide) (.func (.func 263) #[] #[]) rfl _).mono ?_; rintro e w1 ⟨rfl, hb⟩; have h1 := below_thru h hb) | (go_at_call 263; refine (stx_any h1).mono ?_; rintro e w2 ⟨rfl, h2⟩))
  go_end0
  exact ⟨rfl, h2⟩

set_option maxRecDepth 100000 in
set_option maxHeartbeats 1000000 in
theorem perform_49 {B : Nat} {s : PC} {w0 w : World} (h : Tn B s w0 w) (hk : s.ins = 49) :
    Calls Tryz.prog 167 #[.pointer (some ⟨B, 0, none⟩)] w fun e w' => e = .returned (.tuple #[]) ∧ Tn B (s.doIns 49) w0 w' := by
  have c_ins := h.c.cins
  rw [hk] at c_ins
  go_enter Tryz.func167, Tryz.ntmps167
  go_wp2_with (first | (go_at_call 205; refine (imeth_at 49 (by decide) (.func (.func 264) #[] #[]) rfl _).mono ?_; rintro e w1 ⟨rfl, hb⟩; have h1 := below_thru h hb) | (go_at_call 264; refine (sty_any h1).mono ?_; rintro e w2 ⟨rfl, h2⟩))
  go_end0
  exact ⟨rfl, h2⟩

set_option maxRecDepth 100000 in
set_option maxHeartbeats 1000000 in
theorem perform_50 {B : Nat} {s : PC} {w0 w : World} (h : Tn B s w0 w) (hk : s.ins = 50) :
    Calls Tryz.prog 167 #[.pointer (some ⟨B, 0, none⟩)] w fun e w' => e = .returned (.tuple #[]) ∧ Tn B (s.doIns 50) w0 w' := by
  have c_ins := h.c.cins
  rw [hk] at c_ins
  go_enter Tryz.func167, Tryz.ntmps167
  go_wp2_with (first | (go_at_call 205; refine (imeth_at 50 (by decide) (.func (.func 265) #[] #[]) rfl _).mono ?_; rintro e w1 ⟨rfl, hb⟩; have h1 := below_thru h hb) | (go_at_call 265; refine (tax_any h1).mono ?_; rintro e w2 ⟨rfl, h2⟩))
  go_end0
  exact ⟨rfl, h2⟩

set_option maxRecDepth 100000 in
set_option maxHeartbeats 1000000 in
theorem perform_51 {B : Nat} {s : PC} {w0 w : World} (h : Tn B s w0 w) (hk : s.ins = 51) :
    Calls Tryz.prog 167 #[.pointer (some ⟨B, 0, none⟩)] w fun e w' => e = .returned (.tuple #[]) ∧ Tn B (s.doIns 51) w0 w' := by
  have c_ins := h.c.cins
  rw [hk] at c_ins
  go_enter Tryz.func167, Tryz.ntmps167
  go_wp2_with (first | (go_at_call 205; refine (imeth_at 51 (by decide) (.func (.func 266) #[] #[]) rfl _).mono ?_; rintro e w1 ⟨rfl, hb⟩; have h1 := below_thru h hb) | (go_at_call 266; refine (tay_any h1).mono ?_; rintro e w2 ⟨rfl, h2⟩))
  go_end0
  exact ⟨rfl, h2⟩

set_option maxRecDepth 100000 in
set_option maxHeartbeats 1000000 in
theorem perform_52 {B : Nat} {s : PC} {w0 w : World} (h : Tn B s w0 w) (hk : s.ins = 52) :
    Calls Tryz.prog 167 #[.pointer (some ⟨B, 0, none⟩)] w fun e w' => e = .returned (.tuple #[]) ∧ Tn B (s.doIns 52) w0 w' := by
  have c_ins := h.c.cins
  rw [hk] at c_ins
  go_enter Tryz.func167, Tryz.ntmps167
  go_wp2_with (first | (go_at_call 205; refine (imeth_at 52 (by decide) (.func (.func 267) #[] #[]) rfl _).mono ?_; rintro e w1 ⟨rfl, hb⟩; have h1 := below_thru h hb) | (go_at_call 267; refine (tsx_any h1).mono ?_; rintro e w2 ⟨rfl, h2⟩))
  go_end0
  exact ⟨rfl, h2⟩

set_option maxRecDepth 100000 in
set_option maxHeartbeats 1000000 in
theorem perform_53 {B : Nat} {s : PC} {w0 w : World} (h : Tn B s w0 w) (hk : s.ins = 53) :
    Calls Tryz.prog 167 #[.pointer (some ⟨B, 0, none⟩)] w fun e w' => e = .returned (.tuple #[]) ∧ Tn B (s.doIns 53) w0 w' := by
  have c_ins := h.c.cins
  rw [hk] at c_ins
  go_enter Tryz.func167, Tryz.ntmps167
  go_wp2_with (first | (go_at_call 205; refine (imeth_at 53 (by decide) (.func (.func 268) #[] #[]) rfl _).mono ?_; rintro e w1 ⟨rfl, hb⟩; have h1 := below_thru h hb) | (go_at_call 268; refine (txa_any h1).mono ?_; rintro e w2 ⟨rfl, h2⟩))
  go_end0
  exact ⟨rfl, h2⟩

set_option maxRecDepth 100000 in
set_option maxHeartbeats 1000000 in
theorem perform_54 {B : Nat} {s : PC} {w0 w : World} (h : Tn B s w0 w) (hk : s.ins = 54) :
    Calls Tryz.prog 167 #[.pointer (some ⟨B, 0, none⟩)] w fun e w' => e = .returned (.tuple #[]) ∧ Tn B (s.doIns 54) w0 w' := by
  have c_ins := h.c.cins
  rw [hk] at c_ins
  go_enter Tryz.func167, Tryz.ntmps167
  go_wp2_with (first | (go_at_call 205; refine (imeth_at 54 (by decide) (.func (.func 269) #[] #[]) rfl _).mono ?_; rintro e w1 ⟨rfl, hb⟩; have h1 := below_thru h hb) | (go_at_call 269; refine (txs_any h1).mono ?_; rintro e w2 ⟨rfl, h2⟩))
  go_end0
  exact ⟨rfl, h2⟩

set_option maxRecDepth 100000 in
set_option maxHeartbeats 1000000 in
theorem perform_55 {B : Nat} {s : PC} {w0 w : World} (h : Tn B s w0 w) (hk : s.ins = 55) :
    Calls Tryz.prog 167 #[.pointer (some ⟨B, 0, none⟩)] w fun e w' => e = .returned (.tuple #[]) ∧ Tn B (s.doIns 55) w0 w' := by
  have c_ins := h.c.cins
  rw [hk] at c_ins
  go_enter Tryz.func167, Tryz.ntmps167
  go_wp2_with (first | (go_at_call 205; refine (imeth_at 55 (by decide) (.func (.func 270) #[] #[]) rfl _).mono ?_; rintro e w1 ⟨rfl, hb⟩; have h1 := below_thru h hb) | (go_at_call 270; refine (tya_any h1).mono ?_; rintro e w2 ⟨rfl, h2⟩))
  go_end0
  exact ⟨rfl, h2⟩


end Go.Proofs.YtcgjliflnnklnaaGreat
