/-
  The document's answer, its small parts: cut, digits, sum, hex.
-/
import Derived.Test.YtcgjliflnnklnaaGreatFeed
namespace Go.Proofs.YtcgjliflnnklnaaGreat
open Go.RowKit

theorem ba_eq {h : ByteArray} {l : List UInt8} (e : h.data.toList = l) : h = ⟨l.toArray⟩ := by subst e; cases h; simp
theorem ba_size (l : List UInt8) : (⟨l.toArray⟩ : ByteArray).size = l.length := by simp [ByteArray.size]
theorem ba_append (a b : List UInt8) : (⟨a.toArray⟩ : ByteArray) ++ ⟨b.toArray⟩ = ⟨(a ++ b).toArray⟩ := ba_eq (by rw [ByteArray.data_append]; simp)
theorem ba_extract (l : List UInt8) (a b : Nat) : (⟨l.toArray⟩ : ByteArray).extract a b = ⟨((l.drop a).take (b - a)).toArray⟩ := ba_eq (by rw [ByteArray.data_extract, Array.toList_extract, List.extract_eq_take_drop])

set_option maxRecDepth 100000 in
set_option maxHeartbeats 400000 in
theorem cut_any (n : Nat) (w : World) (h : n ≤ 65536) :
    Calls Tryz.prog 91 #[.int .i64 n, .int .i64 16] w fun e w' => e = .returned (.int .i64 ((n % 16 : Nat) : Int)) ∧ w' = w := by
  have h0 : (0 : Int) ≤ (n : Int) := by omega
  have h1 : (n : Int) ≤ 65536 := by omega
  have h2 : (0 : Int) ≤ (n : Int) % 16 := by omega
  go_enter Tryz.func91, Tryz.ntmps91
  go_wp2
  go_ret
  exact ⟨ret_int (by omega), rfl⟩

def dg : List UInt8 := digits
theorem dg_ext (d : Nat) (h : d < 16) : (({ data := #[48, 49, 50, 51, 52, 53, 54, 55, 56, 57, 97, 98, 99, 100, 101, 102] } : ByteArray).extract d (d + 1)) = ⟨[hexd d].toArray⟩ := by
  have : ∀ d : Fin 16, (({ data := #[48, 49, 50, 51, 52, 53, 54, 55, 56, 57, 97, 98, 99, 100, 101, 102] } : ByteArray).extract d.1 (d.1 + 1)) = ⟨[hexd d.1].toArray⟩ := by decide +kernel
  exact this ⟨d, h⟩

set_option maxRecDepth 100000 in
set_option maxHeartbeats 1000000 in
theorem digits_any (c : UInt8) (w : World) :
    Calls Tryz.prog 97 #[.int .i64 c.toNat, .int .i64 2] w fun e w' => e = .returned (.string ⟨(hex2 c).toArray⟩) ∧ w' = w := by
  have hc : c.toNat < 256 := c.toNat_lt
  go_enter Tryz.func97, Tryz.ntmps97
  go_wp2
  go_loop [0, 5, 6] (fun n s i => (n = .int .i64 (c.toNat : Int) ∧ s = .string ⟨#[]⟩ ∧ i = .int .i64 0) ∨ (n = .int .i64 ((c.toNat / 16 : Nat) : Int) ∧ s = .string ⟨[hexd (c.toNat % 16)].toArray⟩ ∧ i = .int .i64 1) ∨ (s = .string ⟨(hex2 c).toArray⟩ ∧ i = .int .i64 2)) (fun _ _ i => 2 - (intOf i).toNat)
  case atStart => exact .inl ⟨rfl, rfl, rfl⟩
  case round =>
    rcases hrel with ⟨rfl, rfl, rfl⟩ | ⟨rfl, rfl, rfl⟩ | ⟨rfl, rfl⟩
    · go_wp2_with fail
      refine (cut_any c.toNat _ (by omega)).mono ?_
      rintro e w' ⟨rfl, hw⟩
      subst w'
      have d1 : c.toNat % 16 < 16 := by omega
      have dI : ((c.toNat % 16 : Nat) : Int) < 16 := by omega
      have he : Hid ((({ data := #[48, 49, 50, 51, 52, 53, 54, 55, 56, 57, 97, 98, 99, 100, 101, 102] } : ByteArray).extract (c.toNat % 16) (c.toNat % 16 + 1)) = ⟨[hexd (c.toNat % 16)].toArray⟩) := dg_ext _ d1
      have hn : ((c.toNat : Int) - ((c.toNat % 16 : Nat) : Int)).tdiv 16 = ((c.toNat / 16 : Nat) : Int) := by
        rw [Int.tdiv_eq_ediv_of_nonneg (by omega)]; omega
      generalize hd : c.toNat % 16 = d at *
      have HD : Hid (c.toNat % 16 = d) := hd
      clear hd
      go_wp2
      go_round
      case rel => exact .inr (.inl ⟨by go_num, by rw [he.out, HD.out]; exact congrArg Value.string (ba_append [hexd d] []), rfl⟩)
      case measure => simp [intOf]
    · have hc16 : c.toNat / 16 < 16 := by omega
      go_wp2_with fail
      refine (cut_any (c.toNat / 16) _ (by omega)).mono ?_
      rintro e w' ⟨rfl, hw⟩
      subst w'
      have em : c.toNat / 16 % 16 = c.toNat / 16 := by omega
      rw [em]
      clear em
      have dI : ((c.toNat / 16 : Nat) : Int) < 16 := by omega
      have he : Hid ((({ data := #[48, 49, 50, 51, 52, 53, 54, 55, 56, 57, 97, 98, 99, 100, 101, 102] } : ByteArray).extract (c.toNat / 16) (c.toNat / 16 + 1)) = ⟨[hexd (c.toNat / 16)].toArray⟩) := dg_ext _ hc16
      generalize hd : c.toNat / 16 = d at *
      have HD : Hid (c.toNat / 16 = d) := hd
      clear hd
      go_wp2
      go_round
      case rel => exact .inr (.inr ⟨by rw [he.out]; exact congrArg Value.string (by rw [hex2, HD.out]; exact ba_append [hexd d] [hexd (c.toNat % 16)]), rfl⟩)
      case measure => simp [intOf]
    · go_wp2
      go_ret
      exact ⟨rfl, rfl⟩

def nsum (l : List UInt8) : Nat := (l.map UInt8.toNat).sum
theorem nsum_snoc (l : List UInt8) (c : UInt8) : nsum (l ++ [c]) = nsum l + c.toNat := by simp [nsum]
theorem nsum_le (l : List UInt8) : nsum l ≤ 255 * l.length := by
  induction l with
  | nil => simp [nsum]
  | cons c r ih => have := c.toNat_lt; simp only [nsum, List.map_cons, List.sum_cons, List.length_cons] at *; omega
theorem sum8_nsum (l : List UInt8) : (sum8 l).toNat = nsum l % 256 := by
  have : ∀ (l : List UInt8) (a : UInt8), (l.foldl (· + ·) a).toNat = (a.toNat + nsum l) % 256 := by
    intro l
    induction l with
    | nil => intro a; simp [nsum]
    | cons c r ih =>
      intro a
      rw [List.foldl_cons, ih, UInt8.toNat_add]
      simp only [nsum, List.map_cons, List.sum_cons]
      omega
  have h := this l 0
  simpa [sum8] using h

set_option maxRecDepth 100000 in
set_option maxHeartbeats 400000 in
theorem rsum_any (s : ByteArray) (w : World) (hs : s.size ≤ 1000000) :
    Calls Tryz.prog 98 #[.string s] w fun e w' => e = .returned (.int .i64 ((sum8 s.data.toList).toNat : Int)) ∧ w' = w := by
  go_enter Tryz.func98, Tryz.ntmps98
  go_wp2
  go_loop [3, 4] (fun n i => ∃ k : Nat, k ≤ s.size ∧ i = .int .i64 k ∧ n = .int .i64 (nsum (s.data.toList.take k) : Int)) (fun _ i => s.size - (intOf i).toNat)
  case atStart => exact ⟨0, Nat.zero_le _, rfl, rfl⟩
  case round =>
    obtain ⟨k, hk, rfl, rfl⟩ := hrel
    have hb := nsum_le (s.data.toList.take k)
    have hl : (s.data.toList.take k).length ≤ k := List.length_take_le _ _
    by_cases hlt : k < s.size
    · have HS : Hid (nsum (s.data.toList.take (k + 1)) = nsum (s.data.toList.take k) + s[k].toNat) := by show _ = _; rw [take_snoc s k hlt, nsum_snoc]
      have hc : (s[k].toNat : Int) < 256 := by have := s[k].toNat_lt; omega
      have hb' : (nsum (s.data.toList.take k) : Int) ≤ 255000000 := by omega
      go_wp2
      go_round
      case rel => exact ⟨k + 1, by omega, by go_num, by rw [HS.out]; go_num⟩
      case measure => simp [intOf]; omega
    · have hb' : (nsum (s.data.toList.take k) : Int) ≤ 255000000 := by omega
      go_wp2
      go_ret
      exact ⟨ret_int (by rw [sum8_nsum, List.take_of_length_le (by simp; omega)]; omega), rfl⟩

/-- What hex says of two digits. -/
def hexOf (c d : UInt8) : Int := if (hb c d).2 = true then ((hb c d).1.toNat : Int) else -1

theorem hv_lt (c : UInt8) : (hv c).1.toNat < 16 := by revert c; apply all_u8; decide +kernel
theorem hexOf_yes (c d : UInt8) (h1 : (hv c).2 = true) (h2 : (hv d).2 = true) : hexOf c d = 16 * ((hv c).1.toNat : Int) + ((hv d).1.toNat : Int) := by
  have : ∀ a b : Fin 16, ((UInt8.ofNat a.1 <<< 4 ||| UInt8.ofNat b.1).toNat : Int) = 16 * (a.1 : Int) + (b.1 : Int) := by decide +kernel
  have h := this ⟨_, hv_lt c⟩ ⟨_, hv_lt d⟩
  simp only [UInt8.ofNat_toNat] at h
  have e : hb c d = ((hv c).1 <<< 4 ||| (hv d).1, true) := by unfold hb; rw [if_pos ⟨h1, h2⟩]
  unfold hexOf
  rw [e, if_pos rfl]
  exact h
theorem hexOf_no1 (c d : UInt8) (h1 : (hv c).2 = false) : hexOf c d = -1 := by simp [hexOf, hb, h1]
theorem hexOf_no2 (c d : UInt8) (h1 : (hv d).2 = false) : hexOf c d = -1 := by simp [hexOf, hb, h1]

theorem hv_num {c : UInt8} {x : Int} (h : (48 ≤ (c.toNat : Int) ∧ (c.toNat : Int) ≤ 57 ∧ x = (c.toNat : Int) - 48) ∨ (97 ≤ (c.toNat : Int) ∧ (c.toNat : Int) ≤ 102 ∧ x = (c.toNat : Int) - 97 + 10) ∨ (65 ≤ (c.toNat : Int) ∧ (c.toNat : Int) ≤ 70 ∧ x = (c.toNat : Int) - 65 + 10)) : (hv c).2 = true ∧ x = ((hv c).1.toNat : Int) := by
  rw [hv_fst, hv_snd]
  refine ⟨decide_eq_true (by omega), ?_⟩
  rcases h with ⟨a, b, rfl⟩ | ⟨a, b, rfl⟩ | ⟨a, b, rfl⟩
  · rw [if_pos ⟨a, b⟩]
  · rw [if_neg (by omega), if_pos ⟨a, b⟩]
  · rw [if_neg (by omega), if_neg (by omega), if_pos ⟨a, b⟩]
theorem hv_no {c : UInt8} (h : ¬ (48 ≤ (c.toNat : Int) ∧ (c.toNat : Int) ≤ 57)) (h2 : ¬ (97 ≤ (c.toNat : Int) ∧ (c.toNat : Int) ≤ 102)) (h3 : ¬ (65 ≤ (c.toNat : Int) ∧ (c.toNat : Int) ≤ 70)) : (hv c).2 = false := by
  rw [hv_snd]; exact decide_eq_false (by omega)

set_option maxRecDepth 100000 in
set_option maxHeartbeats 1000000 in
theorem hex_any (c d : UInt8) (w : World) :
    Calls Tryz.prog 159 #[.string ⟨#[c, d]⟩] w fun e w' => e = .returned (.int .i64 (hexOf c d)) ∧ w' = w := by
  have hc : (c.toNat : Int) < 256 := by have := c.toNat_lt; omega
  have hd : (d.toNat : Int) < 256 := by have := d.toNat_lt; omega
  have g0 : (({ data := #[c, d] } : ByteArray)[0]'(by show 0 < 2; omega)) = c := rfl
  have g1 : (({ data := #[c, d] } : ByteArray)[1]'(by show 1 < 2; omega)) = d := rfl
  go_enter Tryz.func159, Tryz.ntmps159
  go_wp2
  go_loop [3, 4] (fun n i => (n = .int .i64 0 ∧ i = .int .i64 0) ∨ (Hid ((hv c).2 = true) ∧ n = .int .i64 ((hv c).1.toNat : Int) ∧ i = .int .i64 1) ∨ (n = .int .i64 (hexOf c d) ∧ i = .int .i64 2)) (fun _ i => 2 - (intOf i).toNat)
  case atStart => exact .inl ⟨rfl, rfl⟩
  case round =>
    rcases hrel with ⟨rfl, rfl⟩ | ⟨h1, rfl, rfl⟩ | ⟨rfl, rfl⟩
    · go_wp2
      all_goals first
        | (have q := hv_num (c := c) (x := (c.toNat : Int) - 48) (by omega); go_round; (case rel => exact .inr (.inl ⟨q.1, by rw [← q.2], rfl⟩)); (case measure => simp [intOf]))
        | (have q := hv_num (c := c) (x := (c.toNat : Int) - 97 + 10) (by omega); go_round; (case rel => exact .inr (.inl ⟨q.1, by rw [← q.2], rfl⟩)); (case measure => simp [intOf]))
        | (have q := hv_num (c := c) (x := (c.toNat : Int) - 65 + 10) (by omega); go_round; (case rel => exact .inr (.inl ⟨q.1, by rw [← q.2], rfl⟩)); (case measure => simp [intOf]))
        | (have q := hv_no (c := c) (by omega) (by omega) (by omega); go_ret; exact ⟨ret_int (by rw [hexOf_no1 c d q]), rfl⟩)
    · have h16 := hv_lt c
      have h16' : ((hv c).1.toNat : Int) < 16 := by omega
      go_wp2
      all_goals first
        | (have q := hv_num (c := d) (x := (d.toNat : Int) - 48) (by omega); go_round; (case rel => exact .inr (.inr ⟨by rw [hexOf_yes c d h1.out q.1, ← q.2], rfl⟩)); (case measure => simp [intOf]))
        | (have q := hv_num (c := d) (x := (d.toNat : Int) - 97 + 10) (by omega); go_round; (case rel => exact .inr (.inr ⟨by rw [hexOf_yes c d h1.out q.1, ← q.2]; go_num, rfl⟩)); (case measure => simp [intOf]))
        | (have q := hv_num (c := d) (x := (d.toNat : Int) - 65 + 10) (by omega); go_round; (case rel => exact .inr (.inr ⟨by rw [hexOf_yes c d h1.out q.1, ← q.2]; go_num, rfl⟩)); (case measure => simp [intOf]))
        | (have q := hv_no (c := d) (by omega) (by omega) (by omega); go_ret; exact ⟨ret_int (by rw [hexOf_no2 c d q]), rfl⟩)
    · go_wp2
      go_ret
      exact ⟨rfl, rfl⟩

end Go.Proofs.YtcgjliflnnklnaaGreat
