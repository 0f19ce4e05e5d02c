/-
  Leaf walks of the wire package: hexValue, hexByte, pick.
-/
import Derived.Test.YtcgjliflnnklnaaGreatRows
import Derived.WalkKit
import Derived.WalkSpells
import Derived.WalkLawsBesides
import Derived.Laws.BitsAllLaws
namespace Go.Proofs.YtcgjliflnnklnaaGreat
open Go.RowKit

def hv (c : UInt8) : UInt8 × Bool :=
  if 48 ≤ c ∧ c ≤ 57 then (c - 48, true) else if 97 ≤ c ∧ c ≤ 102 then (c - 97 + 10, true) else if 65 ≤ c ∧ c ≤ 70 then (c - 65 + 10, true) else (0, false)

theorem all_u8 {p : UInt8 → Prop} (h : ∀ n : Fin 256, p (UInt8.ofFin n)) (c : UInt8) : p c := h c.toFin

theorem hv_fst (c : UInt8) : ((hv c).1.toNat : Int) = if 48 ≤ (c.toNat : Int) ∧ (c.toNat : Int) ≤ 57 then (c.toNat : Int) - 48 else
    if 97 ≤ (c.toNat : Int) ∧ (c.toNat : Int) ≤ 102 then (c.toNat : Int) - 97 + 10 else if 65 ≤ (c.toNat : Int) ∧ (c.toNat : Int) ≤ 70 then (c.toNat : Int) - 65 + 10 else 0 := by
  revert c; apply all_u8; decide +kernel

theorem hv_snd (c : UInt8) : (hv c).2 = decide ((48 ≤ (c.toNat : Int) ∧ (c.toNat : Int) ≤ 57) ∨ (97 ≤ (c.toNat : Int) ∧ (c.toNat : Int) ≤ 102) ∨ (65 ≤ (c.toNat : Int) ∧ (c.toNat : Int) ≤ 70)) := by
  revert c; apply all_u8; decide +kernel

theorem ret_u8b {a b : Int} {x y : Bool} (h : a = b) (h' : x = y) : Ending.returned (.tuple #[.int .u8 a, .bool x]) = .returned (.tuple #[.int .u8 b, .bool y]) := by rw [h, h']
theorem ret_int {k : IntKind} {a b : Int} (h : a = b) : Ending.returned (.int k a) = .returned (.int k b) := by rw [h]

set_option maxRecDepth 100000 in
set_option maxHeartbeats 400000 in
theorem hexValue_any (c : UInt8) (w : World) :
    Calls Tryz.prog 185 #[.int .u8 c.toNat] w fun e w' => e = .returned (.tuple #[.int .u8 (hv c).1.toNat, .bool (hv c).2]) ∧ w' = w := by
  have hc : (c.toNat : Int) < 256 := by have := c.toNat_lt; omega
  go_enter Tryz.func185, Tryz.ntmps185
  go_wp2
  all_goals go_ret2
  all_goals
    refine ⟨ret_u8b ?_ ?_, rfl⟩
    · rw [hv_fst]
      first | (rw [if_pos (by omega)]; done) | (rw [if_neg (by omega), if_pos (by omega)]; done) | (rw [if_neg (by omega), if_neg (by omega), if_pos (by omega)]; done) | (rw [if_neg (by omega), if_neg (by omega), if_neg (by omega)]; done)
    · rw [hv_snd]; symm
      first | (rw [decide_eq_true_eq]; omega) | (rw [decide_eq_false_iff_not]; omega)

theorem pick_lt (c n : Int) (h : 1 ≤ n) (hc : c < 0) : 0 ≤ -(c + 1).tmod n ∧ -(c + 1).tmod n < n := by
  rw [← Int.neg_tmod, Int.tmod_eq_emod_of_nonneg (by omega)]
  exact ⟨Int.emod_nonneg _ (by omega), Int.emod_lt_of_pos _ (by omega)⟩

set_option maxRecDepth 100000 in
set_option maxHeartbeats 400000 in
theorem pick_any (c n : Int) (w : World) (h : 1 ≤ n) (h2 : n ≤ 9223372036854775807) (hc1 : -9223372036854775808 ≤ c) (hc2 : c ≤ 9223372036854775807) :
    Calls Tryz.prog 20 #[.int .i64 c, .int .i64 n] w fun e w' => (∃ r : Nat, (r : Int) < n ∧ e = .returned (.int .i64 r)) ∧ w' = w := by
  go_enter Tryz.func20, Tryz.ntmps20
  go_wp2
  all_goals go_ret
  · have hc : c < 0 := by assumption
    have := pick_lt c n h hc
    exact ⟨⟨(-(c + 1).tmod n).toNat, by omega, ret_int (by omega)⟩, rfl⟩
  · have h0 := Int.emod_nonneg c (show n ≠ 0 by omega)
    have h1 := Int.emod_lt_of_pos c (show 0 < n by omega)
    exact ⟨⟨(c % n).toNat, by omega, ret_int (by omega)⟩, rfl⟩

theorem or_shl (a b : UInt8) : bits .or .u8 ((a.toNat : Int) * 16 % 256) (b.toNat : Int) = ((a <<< 4 ||| b).toNat : Int) := by
  have e : (a.toNat : Int) * (16 : Int) % (256 : Int) = ((a <<< 4).toNat : Int) := by revert a; apply all_u8; decide +kernel
  rw [e, u8_or_nat _ _ (UInt8.toNat_lt _) (UInt8.toNat_lt _), UInt8.toNat_or]

def hb (h l : UInt8) : UInt8 × Bool := if (hv h).2 = true ∧ (hv l).2 = true then ((hv h).1 <<< 4 ||| (hv l).1, true) else (0, false)

set_option maxRecDepth 100000 in
set_option maxHeartbeats 400000 in
theorem hexByte_any (h l : UInt8) (w : World) :
    Calls Tryz.prog 135 #[.int .u8 h.toNat, .int .u8 l.toNat] w fun e w' => e = .returned (.tuple #[.int .u8 (hb h l).1.toNat, .bool (hb h l).2]) ∧ w' = w := by
  have hc1 : ((hv h).1.toNat : Int) < 256 := by have := (hv h).1.toNat_lt; omega
  have hc2 : ((hv l).1.toNat : Int) < 256 := by have := (hv l).1.toNat_lt; omega
  go_enter Tryz.func135, Tryz.ntmps135
  go_wp2_with fail
  refine (hexValue_any h _).mono ?_
  rintro e w' ⟨rfl, rfl⟩
  go_wp2_with fail
  refine (hexValue_any l _).mono ?_
  rintro e w' ⟨rfl, rfl⟩
  go_wp2
  all_goals go_ret2
  · have e1 : (hv h).snd = true := by assumption
    have e2 : (!(hv l).snd) = true := by assumption
    exact ⟨ret_u8b (by simp_all [hb]) (by simp_all [hb]), rfl⟩
  · have e1 : (hv h).snd = true := by assumption
    have e2 : (!(hv l).snd) = false := by assumption
    have e3 : (hv l).snd = true := by simpa using e2
    refine ⟨ret_u8b ?_ (by simp [hb, e1, e3]), rfl⟩
    rw [or_shl]; simp [hb, e1, e3]
  · have e1 : ¬ (hv h).snd = true := by assumption
    exact ⟨ret_u8b (by simp_all [hb]) (by simp_all [hb]), rfl⟩

end Go.Proofs.YtcgjliflnnklnaaGreat
