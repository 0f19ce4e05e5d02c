/-
  Joined texts.
-/
import Derived.Test.YtcgjliflnnklnabGreatQF
import Derived.Test.YtcgjliflnnklnabGreatQG
namespace Go.Proofs.YtcgjliflnnklnabGreat
open Go.RowKit

/-
  A word's body.
-/
section
def hxs : ByteArray := { data := #[48, 49, 50, 51, 52, 53, 54, 55, 56, 57, 97, 98, 99, 100, 101, 102] }
theorem hxs_ext (d : Nat) (h : d < 16) : (hxs.extract d (d + 1)).size = 1 := by
  have q : hxs.size = 16 := rfl
  rw [ByteArray.size_extract, q]; omega

set_option maxRecDepth 100000 in
set_option maxHeartbeats 1000000 in
theorem func4_any (n : Int) (h0 : 0 ≤ n) (h1 : n < 65536) (w : World) :
    Calls Tryz.prog 13 #[.int .i64 n, .string hxs] w fun e w' => (∃ s : ByteArray, e = .returned (.string s) ∧ s.size = 4) ∧ w' = w := by
  have hxz : hxs.size = 16 := rfl
  obtain ⟨hx, ehx⟩ : ∃ hx, hxs = hx := ⟨_, rfl⟩
  rw [ehx] at hxz ⊢
  go_enter Tryz.func13, Tryz.ntmps13
  go_wp2_with fail
  go_loopw [0, 5, 6] (fun a s i wr => ∃ (k x : Nat) (t : ByteArray), k ≤ 4 ∧ i = .int .i64 k ∧ a = .int .i64 x ∧ x < 65536 ∧ s = .string t ∧ t.size = k ∧ wr = w) (fun _ _ i _ => 4 - (intOf i).toNat)
  case atStart => exact ⟨0, n.toNat, ⟨#[]⟩, by omega, rfl, by rw [Int.toNat_of_nonneg h0], by omega, rfl, rfl, rfl⟩
  case round =>
    obtain ⟨k, x, t, hk, rfl, rfl, hx6, rfl, ht, rfl⟩ := hrel
    by_cases hlt : k < 4
    · have e1 : ((x : Int)).tmod 16 = ((x % 16 : Nat) : Int) := by rw [Int.tmod_eq_emod_of_nonneg (by omega)]; omega
      have e2 : ((x : Int)) % 16 = ((x % 16 : Nat) : Int) := by omega
      have hd : x % 16 < 16 := Nat.mod_lt _ (by decide)
      have HXE : Hid ((hx.extract (x % 16) (x % 16 + 1)).size = 1) := by rw [← ehx]; exact hxs_ext _ hd
      generalize x % 16 = d at *
      go_wp2
      go_roundw
      case rel => exact ⟨k + 1, x / 16, _, by omega, by go_num, by rw [show ((x : Int) / 16) = ((x / 16 : Nat) : Int) from by omega], by omega, rfl, by rw [ByteArray.size_append, HXE.out]; omega, trivial⟩
      case measure => simp [intOf]; omega
    · have e4 : k = 4 := by omega
      subst e4
      go_wp2
      go_ret
      exact ⟨⟨t, rfl, ht⟩, rfl⟩

def pickV (c n : Int) : Int := (if c < 0 then -(c + 1) else c) % n
theorem pickV_r (c n : Int) (h : 1 ≤ n) : 0 ≤ pickV c n ∧ pickV c n < n := ⟨Int.emod_nonneg _ (by omega), Int.emod_lt_of_pos _ (by omega)⟩

set_option maxRecDepth 100000 in
set_option maxHeartbeats 400000 in
theorem pickE_any (c n : Int) (h : 1 ≤ n) (h2 : n ≤ 9223372036854775807) (hc1 : -9223372036854775808 ≤ c) (hc2 : c ≤ 9223372036854775807) (w : World) :
    Calls Tryz.prog 8 #[.int .i64 c, .int .i64 n] w fun e w' => e = .returned (.int .i64 (pickV c n)) ∧ w' = w := by
  unfold pickV
  by_cases hc : c < 0
  · rw [if_pos hc]
    have e1 : (-(c + 1)).tmod n = (-(c + 1)) % n := Int.tmod_eq_emod_of_nonneg (by omega)
    have e2 : IntKind.i64.wrap (c + 1) = c + 1 := by rw [IntKind.wrap_i64]; omega
    have e3 : IntKind.i64.wrap (-(c + 1)) = -(c + 1) := by rw [IntKind.wrap_i64]; omega
    go_enter Tryz.func8, Tryz.ntmps8
    go_wp2
    go_ret
    exact ⟨rfl, rfl⟩
  · rw [if_neg hc]
    have e1 : c.tmod n = c % n := Int.tmod_eq_emod_of_nonneg (by omega)
    go_enter Tryz.func8, Tryz.ntmps8
    go_wp2
    go_ret
    exact ⟨rfl, rfl⟩
end

/-
  A word's body, walked.
-/
section
/-- What a body gives. -/
def BodyR (w w' : World) (e : Ending) : Prop := ∃ s : ByteArray, e = .returned (.string s) ∧ s.size ≤ 9 ∧ Below w.heap.size w w'
theorem ext_le (s : ByteArray) (a b : Nat) : (s.extract a b).size ≤ s.size := by rw [ByteArray.size_extract]; omega

end

end Go.Proofs.YtcgjliflnnklnabGreat
