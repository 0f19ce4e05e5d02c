/-
  An instruction is performed: through the table (further).
-/
import Derived.Test.YtcgjliflnnklnabGreatCpPa
namespace Go.Proofs.YtcgjliflnnklnabGreat
open Go.RowKit

set_option maxRecDepth 100000 in
set_option maxHeartbeats 1000000 in
theorem perform_38 {B : Nat} {s : PC} {w0 w : World} (h : Tn B s w0 w) (hk : s.ins = 38) :
    Calls Tryz.prog 92 #[.pointer (some ⟨B, 0, none⟩)] w fun e w' => e = .returned (.tuple #[]) ∧ Tn B (s.doIns 38) w0 w' := by
  have c_ins := h.c.cins
  rw [hk] at c_ins
  go_enter Tryz.func92, Tryz.ntmps92
  go_wp2_with (first | (go_at_call 119; refine (imeth_at 38 (by decide) (.func (.func 166) #[] #[]) rfl _).mono ?_; rintro e w1 ⟨rfl, hb⟩; have h1 := below_thru h hb) | (go_at_call 166; refine (plp_any h1).mono ?_; rintro e w2 ⟨rfl, h2⟩))
  go_end0
  exact ⟨rfl, h2⟩

set_option maxRecDepth 100000 in
set_option maxHeartbeats 1000000 in
theorem perform_39 {B : Nat} {s : PC} {w0 w : World} (h : Tn B s w0 w) (hk : s.ins = 39) :
    Calls Tryz.prog 92 #[.pointer (some ⟨B, 0, none⟩)] w fun e w' => e = .returned (.tuple #[]) ∧ Tn B (s.doIns 39) w0 w' := by
  have c_ins := h.c.cins
  rw [hk] at c_ins
  go_enter Tryz.func92, Tryz.ntmps92
  go_wp2_with (first | (go_at_call 119; refine (imeth_at 39 (by decide) (.func (.func 167) #[] #[]) rfl _).mono ?_; rintro e w1 ⟨rfl, hb⟩; have h1 := below_thru h hb) | (go_at_call 167; refine (rol_any h1).mono ?_; rintro e w2 ⟨rfl, h2⟩))
  go_end0
  exact ⟨rfl, h2⟩

set_option maxRecDepth 100000 in
set_option maxHeartbeats 1000000 in
theorem perform_40 {B : Nat} {s : PC} {w0 w : World} (h : Tn B s w0 w) (hk : s.ins = 40) :
    Calls Tryz.prog 92 #[.pointer (some ⟨B, 0, none⟩)] w fun e w' => e = .returned (.tuple #[]) ∧ Tn B (s.doIns 40) w0 w' := by
  have c_ins := h.c.cins
  rw [hk] at c_ins
  go_enter Tryz.func92, Tryz.ntmps92
  go_wp2_with (first | (go_at_call 119; refine (imeth_at 40 (by decide) (.func (.func 168) #[] #[]) rfl _).mono ?_; rintro e w1 ⟨rfl, hb⟩; have h1 := below_thru h hb) | (go_at_call 168; refine (ror_any h1).mono ?_; rintro e w2 ⟨rfl, h2⟩))
  go_end0
  exact ⟨rfl, h2⟩

set_option maxRecDepth 100000 in
set_option maxHeartbeats 1000000 in
theorem perform_41 {B : Nat} {s : PC} {w0 w : World} (h : Tn B s w0 w) (hk : s.ins = 41) :
    Calls Tryz.prog 92 #[.pointer (some ⟨B, 0, none⟩)] w fun e w' => e = .returned (.tuple #[]) ∧ Tn B (s.doIns 41) w0 w' := by
  have c_ins := h.c.cins
  rw [hk] at c_ins
  go_enter Tryz.func92, Tryz.ntmps92
  go_wp2_with (first | (go_at_call 119; refine (imeth_at 41 (by decide) (.func (.func 169) #[] #[]) rfl _).mono ?_; rintro e w1 ⟨rfl, hb⟩; have h1 := below_thru h hb) | (go_at_call 169; refine (rti_any h1).mono ?_; rintro e w2 ⟨rfl, h2⟩))
  go_end0
  exact ⟨rfl, h2⟩

set_option maxRecDepth 100000 in
set_option maxHeartbeats 1000000 in
theorem perform_42 {B : Nat} {s : PC} {w0 w : World} (h : Tn B s w0 w) (hk : s.ins = 42) :
    Calls Tryz.prog 92 #[.pointer (some ⟨B, 0, none⟩)] w fun e w' => e = .returned (.tuple #[]) ∧ Tn B (s.doIns 42) w0 w' := by
  have c_ins := h.c.cins
  rw [hk] at c_ins
  go_enter Tryz.func92, Tryz.ntmps92
  go_wp2_with (first | (go_at_call 119; refine (imeth_at 42 (by decide) (.func (.func 170) #[] #[]) rfl _).mono ?_; rintro e w1 ⟨rfl, hb⟩; have h1 := below_thru h hb) | (go_at_call 170; refine (rts_any h1).mono ?_; rintro e w2 ⟨rfl, h2⟩))
  go_end0
  exact ⟨rfl, h2⟩

set_option maxRecDepth 100000 in
set_option maxHeartbeats 1000000 in
theorem perform_43 {B : Nat} {s : PC} {w0 w : World} (h : Tn B s w0 w) (hk : s.ins = 43) :
    Calls Tryz.prog 92 #[.pointer (some ⟨B, 0, none⟩)] w fun e w' => e = .returned (.tuple #[]) ∧ Tn B (s.doIns 43) w0 w' := by
  have c_ins := h.c.cins
  rw [hk] at c_ins
  go_enter Tryz.func92, Tryz.ntmps92
  go_wp2_with (first | (go_at_call 119; refine (imeth_at 43 (by decide) (.func (.func 171) #[] #[]) rfl _).mono ?_; rintro e w1 ⟨rfl, hb⟩; have h1 := below_thru h hb) | (go_at_call 171; refine (sbc_any h1).mono ?_; rintro e w2 ⟨rfl, h2⟩))
  go_end0
  exact ⟨rfl, h2⟩

set_option maxRecDepth 100000 in
set_option maxHeartbeats 1000000 in
theorem perform_44 {B : Nat} {s : PC} {w0 w : World} (h : Tn B s w0 w) (hk : s.ins = 44) :
    Calls Tryz.prog 92 #[.pointer (some ⟨B, 0, none⟩)] w fun e w' => e = .returned (.tuple #[]) ∧ Tn B (s.doIns 44) w0 w' := by
  have c_ins := h.c.cins
  rw [hk] at c_ins
  go_enter Tryz.func92, Tryz.ntmps92
  go_wp2_with (first | (go_at_call 119; refine (imeth_at 44 (by decide) (.func (.func 172) #[] #[]) rfl _).mono ?_; rintro e w1 ⟨rfl, hb⟩; have h1 := below_thru h hb) | (go_at_call 172; refine (sec_any h1).mono ?_; rintro e w2 ⟨rfl, h2⟩))
  go_end0
  exact ⟨rfl, h2⟩

set_option maxRecDepth 100000 in
set_option maxHeartbeats 1000000 in
theorem perform_45 {B : Nat} {s : PC} {w0 w : World} (h : Tn B s w0 w) (hk : s.ins = 45) :
    Calls Tryz.prog 92 #[.pointer (some ⟨B, 0, none⟩)] w fun e w' => e = .returned (.tuple #[]) ∧ Tn B (s.doIns 45) w0 w' := by
  have c_ins := h.c.cins
  rw [hk] at c_ins
  go_enter Tryz.func92, Tryz.ntmps92
  go_wp2_with (first | (go_at_call 119; refine (imeth_at 45 (by decide) (.func (.func 173) #[] #[]) rfl _).mono ?_; rintro e w1 ⟨rfl, hb⟩; have h1 := below_thru h hb) | (go_at_call 173; refine (sed_any h1).mono ?_; rintro e w2 ⟨rfl, h2⟩))
  go_end0
  exact ⟨rfl, h2⟩

set_option maxRecDepth 100000 in
set_option maxHeartbeats 1000000 in
theorem perform_46 {B : Nat} {s : PC} {w0 w : World} (h : Tn B s w0 w) (hk : s.ins = 46) :
    Calls Tryz.prog 92 #[.pointer (some ⟨B, 0, none⟩)] w fun e w' => e = .returned (.tuple #[]) ∧ Tn B (s.doIns 46) w0 w' := by
  have c_ins := h.c.cins
  rw [hk] at c_ins
  go_enter Tryz.func92, Tryz.ntmps92
  go_wp2_with (first | (go_at_call 119; refine (imeth_at 46 (by decide) (.func (.func 174) #[] #[]) rfl _).mono ?_; rintro e w1 ⟨rfl, hb⟩; have h1 := below_thru h hb) | (go_at_call 174; refine (sei_any h1).mono ?_; rintro e w2 ⟨rfl, h2⟩))
  go_end0
  exact ⟨rfl, h2⟩

set_option maxRecDepth 100000 in
set_option maxHeartbeats 1000000 in
theorem perform_47 {B : Nat} {s : PC} {w0 w : World} (h : Tn B s w0 w) (hk : s.ins = 47) :
    Calls Tryz.prog 92 #[.pointer (some ⟨B, 0, none⟩)] w fun e w' => e = .returned (.tuple #[]) ∧ Tn B (s.doIns 47) w0 w' := by
  have c_ins := h.c.cins
  rw [hk] at c_ins
  go_enter Tryz.func92, Tryz.ntmps92
  go_wp2_with (first | (go_at_call 119; refine (imeth_at 47 (by decide) (.func (.func 175) #[] #[]) rfl _).mono ?_; rintro e w1 ⟨rfl, hb⟩; have h1 := below_thru h hb) | (go_at_call 175; refine (sta_any h1).mono ?_; rintro e w2 ⟨rfl, h2⟩))
  go_end0
  exact ⟨rfl, h2⟩

set_option maxRecDepth 100000 in
set_option maxHeartbeats 1000000 in
theorem perform_48 {B : Nat} {s : PC} {w0 w : World} (h : Tn B s w0 w) (hk : s.ins = 48) :
    Calls Tryz.prog 92 #[.pointer (some ⟨B, 0, none⟩)] w fun e w' => e = .returned (.tuple #[]) ∧ Tn B (s.doIns 48) w0 w' := by
  have c_ins := h.c.cins
  rw [hk] at c_ins
  go_enter Tryz.func92, Tryz.ntmps92
  go_wp2_with (first | (go_at_call 119; refine (imeth_at 48 (by decide) (.func (.func 176) #[] #[]) rfl _).mono ?_; rintro e w1 ⟨rfl, hb⟩; have h1 := below_thru h hb) | (go_at_call 176; refine (stx_any h1).mono ?_; rintro e w2 ⟨rfl, h2⟩))
  go_end0
  exact ⟨rfl, h2⟩

set_option maxRecDepth 100000 in
set_option maxHeartbeats 1000000 in
theorem perform_49 {B : Nat} {s : PC} {w0 w : World} (h : Tn B s w0 w) (hk : s.ins = 49) :
    Calls Tryz.prog 92 #[.pointer (some ⟨B, 0, none⟩)] w fun e w' => e = .returned (.tuple #[]) ∧ Tn B (s.doIns 49) w0 w' := by
  have c_ins := h.c.cins
  rw [hk] at c_ins
  go_enter Tryz.func92, Tryz.ntmps92
  go_wp2_with (first | (go_at_call 119; refine (imeth_at 49 (by decide) (.func (.func 177) #[] #[]) rfl _).mono ?_; rintro e w1 ⟨rfl, hb⟩; have h1 := below_thru h hb) | (go_at_call 177; refine (sty_any h1).mono ?_; rintro e w2 ⟨rfl, h2⟩))
  go_end0
  exact ⟨rfl, h2⟩

set_option maxRecDepth 100000 in
set_option maxHeartbeats 1000000 in
theorem perform_50 {B : Nat} {s : PC} {w0 w : World} (h : Tn B s w0 w) (hk : s.ins = 50) :
    Calls Tryz.prog 92 #[.pointer (some ⟨B, 0, none⟩)] w fun e w' => e = .returned (.tuple #[]) ∧ Tn B (s.doIns 50) w0 w' := by
  have c_ins := h.c.cins
  rw [hk] at c_ins
  go_enter Tryz.func92, Tryz.ntmps92
  go_wp2_with (first | (go_at_call 119; refine (imeth_at 50 (by decide) (.func (.func 178) #[] #[]) rfl _).mono ?_; rintro e w1 ⟨rfl, hb⟩; have h1 := below_thru h hb) | (go_at_call 178; refine (tax_any h1).mono ?_; rintro e w2 ⟨rfl, h2⟩))
  go_end0
  exact ⟨rfl, h2⟩

set_option maxRecDepth 100000 in
set_option maxHeartbeats 1000000 in
theorem perform_51 {B : Nat} {s : PC} {w0 w : World} (h : Tn B s w0 w) (hk : s.ins = 51) :
    Calls Tryz.prog 92 #[.pointer (some ⟨B, 0, none⟩)] w fun e w' => e = .returned (.tuple #[]) ∧ Tn B (s.doIns 51) w0 w' := by
  have c_ins := h.c.cins
  rw [hk] at c_ins
  go_enter Tryz.func92, Tryz.ntmps92
  go_wp2_with (first | (go_at_call 119; refine (imeth_at 51 (by decide) (.func (.func 179) #[] #[]) rfl _).mono ?_; rintro e w1 ⟨rfl, hb⟩; have h1 := below_thru h hb) | (go_at_call 179; refine (tay_any h1).mono ?_; rintro e w2 ⟨rfl, h2⟩))
  go_end0
  exact ⟨rfl, h2⟩

set_option maxRecDepth 100000 in
set_option maxHeartbeats 1000000 in
theorem perform_52 {B : Nat} {s : PC} {w0 w : World} (h : Tn B s w0 w) (hk : s.ins = 52) :
    Calls Tryz.prog 92 #[.pointer (some ⟨B, 0, none⟩)] w fun e w' => e = .returned (.tuple #[]) ∧ Tn B (s.doIns 52) w0 w' := by
  have c_ins := h.c.cins
  rw [hk] at c_ins
  go_enter Tryz.func92, Tryz.ntmps92
  go_wp2_with (first | (go_at_call 119; refine (imeth_at 52 (by decide) (.func (.func 180) #[] #[]) rfl _).mono ?_; rintro e w1 ⟨rfl, hb⟩; have h1 := below_thru h hb) | (go_at_call 180; refine (tsx_any h1).mono ?_; rintro e w2 ⟨rfl, h2⟩))
  go_end0
  exact ⟨rfl, h2⟩

set_option maxRecDepth 100000 in
set_option maxHeartbeats 1000000 in
theorem perform_53 {B : Nat} {s : PC} {w0 w : World} (h : Tn B s w0 w) (hk : s.ins = 53) :
    Calls Tryz.prog 92 #[.pointer (some ⟨B, 0, none⟩)] w fun e w' => e = .returned (.tuple #[]) ∧ Tn B (s.doIns 53) w0 w' := by
  have c_ins := h.c.cins
  rw [hk] at c_ins
  go_enter Tryz.func92, Tryz.ntmps92
  go_wp2_with (first | (go_at_call 119; refine (imeth_at 53 (by decide) (.func (.func 181) #[] #[]) rfl _).mono ?_; rintro e w1 ⟨rfl, hb⟩; have h1 := below_thru h hb) | (go_at_call 181; refine (txa_any h1).mono ?_; rintro e w2 ⟨rfl, h2⟩))
  go_end0
  exact ⟨rfl, h2⟩

set_option maxRecDepth 100000 in
set_option maxHeartbeats 1000000 in
theorem perform_54 {B : Nat} {s : PC} {w0 w : World} (h : Tn B s w0 w) (hk : s.ins = 54) :
    Calls Tryz.prog 92 #[.pointer (some ⟨B, 0, none⟩)] w fun e w' => e = .returned (.tuple #[]) ∧ Tn B (s.doIns 54) w0 w' := by
  have c_ins := h.c.cins
  rw [hk] at c_ins
  go_enter Tryz.func92, Tryz.ntmps92
  go_wp2_with (first | (go_at_call 119; refine (imeth_at 54 (by decide) (.func (.func 182) #[] #[]) rfl _).mono ?_; rintro e w1 ⟨rfl, hb⟩; have h1 := below_thru h hb) | (go_at_call 182; refine (txs_any h1).mono ?_; rintro e w2 ⟨rfl, h2⟩))
  go_end0
  exact ⟨rfl, h2⟩

set_option maxRecDepth 100000 in
set_option maxHeartbeats 1000000 in
theorem perform_55 {B : Nat} {s : PC} {w0 w : World} (h : Tn B s w0 w) (hk : s.ins = 55) :
    Calls Tryz.prog 92 #[.pointer (some ⟨B, 0, none⟩)] w fun e w' => e = .returned (.tuple #[]) ∧ Tn B (s.doIns 55) w0 w' := by
  have c_ins := h.c.cins
  rw [hk] at c_ins
  go_enter Tryz.func92, Tryz.ntmps92
  go_wp2_with (first | (go_at_call 119; refine (imeth_at 55 (by decide) (.func (.func 183) #[] #[]) rfl _).mono ?_; rintro e w1 ⟨rfl, hb⟩; have h1 := below_thru h hb) | (go_at_call 183; refine (tya_any h1).mono ?_; rintro e w2 ⟨rfl, h2⟩))
  go_end0
  exact ⟨rfl, h2⟩


end Go.Proofs.YtcgjliflnnklnabGreat
