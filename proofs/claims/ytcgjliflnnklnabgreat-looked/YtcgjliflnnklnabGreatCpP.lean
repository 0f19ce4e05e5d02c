/-
  An instruction is performed, whichever it is; it is finished; the branch's end.
-/
import Derived.Test.YtcgjliflnnklnabGreatCpPb
import Derived.Test.YtcgjliflnnklnabGreatCpPc
import Derived.Test.YtcgjliflnnklnabGreatCpPd
namespace Go.Proofs.YtcgjliflnnklnabGreat
open Go.RowKit

theorem perform_any {B : Nat} {s : PC} {w0 w : World} (h : Tn B s w0 w) :
    Calls Tryz.prog 92 #[.pointer (some ⟨B, 0, none⟩)] w fun e w' => e = .returned (.tuple #[]) ∧ Tn B s.perform w0 w' := by
  obtain ⟨l1, l2⟩ := h.c.rins
  obtain ⟨n, hn⟩ := Int.eq_ofNat_of_zero_le l1
  have e : s.perform = s.doIns n := by unfold PC.perform; rw [hn]; rfl
  rw [e]
  have hlt : n < 56 := by omega
  clear l1 l2 e
  match n, hlt, hn with
  | 0, _, hk => exact perform_0 h hk
  | 1, _, hk => exact perform_1 h hk
  | 2, _, hk => exact perform_2 h hk
  | 3, _, hk => exact perform_3 h hk
  | 4, _, hk => exact perform_4 h hk
  | 5, _, hk => exact perform_5 h hk
  | 6, _, hk => exact perform_6 h hk
  | 7, _, hk => exact perform_7 h hk
  | 8, _, hk => exact perform_8 h hk
  | 9, _, hk => exact perform_9 h hk
  | 10, _, hk => exact perform_10 h hk
  | 11, _, hk => exact perform_11 h hk
  | 12, _, hk => exact perform_12 h hk
  | 13, _, hk => exact perform_13 h hk
  | 14, _, hk => exact perform_14 h hk
  | 15, _, hk => exact perform_15 h hk
  | 16, _, hk => exact perform_16 h hk
  | 17, _, hk => exact perform_17 h hk
  | 18, _, hk => exact perform_18 h hk
  | 19, _, hk => exact perform_19 h hk
  | 20, _, hk => exact perform_20 h hk
  | 21, _, hk => exact perform_21 h hk
  | 22, _, hk => exact perform_22 h hk
  | 23, _, hk => exact perform_23 h hk
  | 24, _, hk => exact perform_24 h hk
  | 25, _, hk => exact perform_25 h hk
  | 26, _, hk => exact perform_26 h hk
  | 27, _, hk => exact perform_27 h hk
  | 28, _, hk => exact perform_28 h hk
  | 29, _, hk => exact perform_29 h hk
  | 30, _, hk => exact perform_30 h hk
  | 31, _, hk => exact perform_31 h hk
  | 32, _, hk => exact perform_32 h hk
  | 33, _, hk => exact perform_33 h hk
  | 34, _, hk => exact perform_34 h hk
  | 35, _, hk => exact perform_35 h hk
  | 36, _, hk => exact perform_36 h hk
  | 37, _, hk => exact perform_37 h hk
  | 38, _, hk => exact perform_38 h hk
  | 39, _, hk => exact perform_39 h hk
  | 40, _, hk => exact perform_40 h hk
  | 41, _, hk => exact perform_41 h hk
  | 42, _, hk => exact perform_42 h hk
  | 43, _, hk => exact perform_43 h hk
  | 44, _, hk => exact perform_44 h hk
  | 45, _, hk => exact perform_45 h hk
  | 46, _, hk => exact perform_46 h hk
  | 47, _, hk => exact perform_47 h hk
  | 48, _, hk => exact perform_48 h hk
  | 49, _, hk => exact perform_49 h hk
  | 50, _, hk => exact perform_50 h hk
  | 51, _, hk => exact perform_51 h hk
  | 52, _, hk => exact perform_52 h hk
  | 53, _, hk => exact perform_53 h hk
  | 54, _, hk => exact perform_54 h hk
  | 55, _, hk => exact perform_55 h hk
  | n + 56, hlt, _ => exact absurd hlt (by omega)

set_option maxRecDepth 100000 in
set_option maxHeartbeats 1000000 in
theorem performLast_any {B : Nat} {s : PC} {w0 w : World} (h : Tn B s w0 w) :
    Calls Tryz.prog 58 #[.pointer (some ⟨B, 0, none⟩)] w fun e w' => e = .returned (.tuple #[]) ∧ Tn B s.performLast w0 w' := by
  go_enter Tryz.func58, Tryz.ntmps58
  go_wp2_with fail
  refine (perform_any h).mono ?_
  rintro e w1 ⟨rfl, h1⟩
  go_wp2_with fail
  refine (finish_any h1).mono ?_
  rintro e w2 ⟨rfl, h2⟩
  go_wp2
  go_end0
  exact ⟨rfl, h2⟩

set_option maxRecDepth 100000 in
set_option maxHeartbeats 1000000 in
theorem branch_any {B : Nat} {s : PC} {w0 w : World} (h : Tn B s w0 w) :
    Calls Tryz.prog 103 #[.pointer (some ⟨B, 0, none⟩)] w fun e w' => e = .returned (.tuple #[]) ∧ Tn B s.branch w0 w' := by
  have c_ad := h.c.cad; obtain ⟨l_ad, u_ad⟩ := h.c.rad; have c_pc := h.c.cpc; obtain ⟨l_pc, u_pc⟩ := h.c.rpc
  have f_pc := h.c.free 65544
  go_enter Tryz.func103, Tryz.ntmps103
  go_wp2_with fail
  refine (finish_any (h.setPc _ ⟨l_ad, u_ad⟩)).mono ?_
  rintro e w2 ⟨rfl, h2⟩
  go_wp2
  go_end0
  exact ⟨rfl, h2⟩

end Go.Proofs.YtcgjliflnnklnabGreat
