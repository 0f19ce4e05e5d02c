/-
  Looked: what a stub tells of the registers, read again.
-/
import Derived.Test.YtcgjliflnnklnabGreatLkA
import Derived.Test.YtcgjliflnnklnabGreatQK
import Derived.Test.YtcgjliflnnklnabGreatQL
namespace Go.Proofs.YtcgjliflnnklnabGreat
open Go.RowKit

theorem hexd_no (n : Nat) : hexd (n % 16) ≠ 36 ∧ hexd (n % 16) ≠ 35 ∧ hexd (n % 16) ≠ 125 := by
  have q : ∀ k ∈ List.range 16, hexd k ≠ 36 ∧ hexd k ≠ 35 ∧ hexd k ≠ 125 := by decide +kernel
  exact q _ (List.mem_range.2 (Nat.mod_lt _ (by decide)))
theorem hexN_no (n k : Nat) : ∀ c ∈ hexN n k, c ≠ 36 ∧ c ≠ 35 ∧ c ≠ 125 := by
  induction k with
  | zero => intro c hc; simp [hexN] at hc
  | succ k ih =>
    intro c hc
    simp only [hexN, List.mem_cons] at hc
    rcases hc with rfl | hc
    · exact hexd_no _
    · exact ih c hc
theorem esc_id (l : List UInt8) (h : ∀ c ∈ l, c ≠ 36 ∧ c ≠ 35 ∧ c ≠ 125) : esc l = l := by
  induction l with
  | nil => rfl
  | cons c r ih =>
    have hc := h c (by simp)
    have e : esc1 c = [c] := by unfold esc1; rw [if_neg]; exact fun q => q.elim hc.1 (fun q => q.elim hc.2.1 hc.2.2)
    show esc1 c ++ esc r = _
    rw [e, ih (fun d hd => h d (by simp [hd]))]
    rfl
/-- The reply to a look at the registers. -/
def RL (h1 h2 s1 s2 : UInt8) (s : PC) : List UInt8 :=
  43 :: 36 :: h1 :: h2 :: (hexN s.ba.toNat 2 ++ (hexN s.bx.toNat 2 ++ (hexN s.b_y.toNat 2 ++ (hexN s.bs.toNat 2 ++ (hexN s.bp.toNat 2 ++ (hexN s.bpc.toNat 4 ++ (hexN s.cyc.toNat 8 ++ [35, s1, s2])))))))
theorem reg_flat (s : PC) : regText s = hexN s.ba.toNat 2 ++ (hexN s.bx.toNat 2 ++ (hexN s.b_y.toNat 2 ++ (hexN s.bs.toNat 2 ++ (hexN s.bp.toNat 2 ++ (hexN s.bpc.toNat 4 ++ hexN s.cyc.toNat 8))))) := by
  simp [regText, regPre]
theorem reg_no (s : PC) : ∀ c ∈ regText s, c ≠ 36 ∧ c ≠ 35 ∧ c ≠ 125 := by
  intro c hc
  rw [reg_flat] at hc
  simp only [List.mem_append] at hc
  rcases hc with hc | hc | hc | hc | hc | hc | hc
  all_goals exact hexN_no _ _ c hc
theorem ans_g (U : SB) : ∃ h1 h2 s1 s2, (U.ans ⟨U.due.toNat, [103], false⟩).2 = RL h1 h2 s1 s2 U.pc := by
  rw [ans_due]
  have e : (U.doI [103]).2 = regText U.pc := rfl
  refine ⟨hexd (U.due.toNat / 16), hexd (U.due.toNat % 16), hexd ((sum8 (rawOf U.due (regText U.pc))).toNat / 16), hexd ((sum8 (rawOf U.due (regText U.pc))).toNat % 16), ?_⟩
  show 43 :: frameOf U.due (U.doI [103]).2 = _
  rw [e, frameOf_eq]
  generalize sum8 (rawOf U.due (regText U.pc)) = s8
  unfold rawOf RL
  rw [esc_id _ (reg_no U.pc), reg_flat]
  simp [hex2]
theorem RL_len (h1 h2 s1 s2 : UInt8) (s : PC) : (RL h1 h2 s1 s2 s).length = 29 := by simp [RL, hexN_len]
theorem RL_a (h1 h2 s1 s2 : UInt8) (s : PC) : ((RL h1 h2 s1 s2 s).drop 4).take 2 = hexN s.ba.toNat 2 := rfl
theorem RL_p (h1 h2 s1 s2 : UInt8) (s : PC) : ((RL h1 h2 s1 s2 s).drop 12).take 2 = hexN s.bp.toNat 2 := rfl
theorem RL_pc (h1 h2 s1 s2 : UInt8) (s : PC) : ((RL h1 h2 s1 s2 s).drop 14).take 4 = hexN s.bpc.toNat 4 := rfl
theorem RL_c (h1 h2 s1 s2 : UInt8) (s : PC) : ((RL h1 h2 s1 s2 s).drop 18).take 8 = hexN s.cyc.toNat 8 := rfl
theorem hexN_get (n k j : Nat) (h : j < (hexN n k).length) : (hexN n k)[j] = hexd (n / 2 ^ (4 * (k - 1 - j)) % 16) := by
  induction k generalizing j with
  | zero => simp [hexN] at h
  | succ k ih =>
    cases j with
    | zero => simp [hexN]
    | succ j =>
      simp only [hexN, List.getElem_cons_succ]
      rw [ih]
      congr 4
      omega
theorem RL_dig (h1 h2 s1 s2 : UInt8) (s : PC) (j : Nat) (hj : j < 8) (h : 18 + j < (RL h1 h2 s1 s2 s).length) : (RL h1 h2 s1 s2 s)[18 + j] = hexd (s.cyc.toNat / 2 ^ (4 * (7 - j)) % 16) := by
  have e : (((RL h1 h2 s1 s2 s).drop 18).take 8)[j]? = some ((RL h1 h2 s1 s2 s)[18 + j]) := by
    rw [List.getElem?_take, if_pos hj, List.getElem?_drop, List.getElem?_eq_getElem h]
  rw [RL_c, List.getElem?_eq_getElem (by rw [hexN_len]; exact hj), hexN_get] at e
  injection e with e
  exact e.symm
theorem hexN_low (n : Nat) : (hexN n 4).drop 2 = hexN n 2 := rfl
/-- A digit read. -/
def unhex (c : Int) : Int := if 57 < c then c - 97 + 10 else c - 48
theorem unhex_hexd (n : Nat) : unhex ((hexd (n % 16)).toNat : Int) = ((n % 16 : Nat) : Int) := by
  have q : ∀ k ∈ List.range 16, unhex ((hexd k).toNat : Int) = (k : Int) := by decide +kernel
  exact q _ (List.mem_range.2 (Nat.mod_lt _ (by decide)))
theorem dig_step (c j : Nat) (hj : j < 8) : 16 * (c / 2 ^ (4 * (8 - j))) + c / 2 ^ (4 * (7 - j)) % 16 = c / 2 ^ (4 * (8 - (j + 1))) := by
  rcases (show j = 0 ∨ j = 1 ∨ j = 2 ∨ j = 3 ∨ j = 4 ∨ j = 5 ∨ j = 6 ∨ j = 7 from by omega) with rfl | rfl | rfl | rfl | rfl | rfl | rfl | rfl
  all_goals (simp only [Nat.reduceSub, Nat.reduceMul, Nat.reducePow, Nat.reduceAdd]; omega)

theorem hxs_one (d : Nat) (h : d < 16) : (hxs.extract d (d + 1)).data.toList = [hexd d] := by
  have q : ∀ k ∈ List.range 16, (hxs.extract k (k + 1)).data.toList = [hexd k] := by decide +kernel
  exact q _ (List.mem_range.2 h)

set_option maxRecDepth 100000 in
set_option maxHeartbeats 1000000 in
theorem func4x_any (n : Nat) (h1 : n < 65536) (w : World) :
    Calls Tryz.prog 13 #[.int .i64 (n : Int), .string hxs] w fun e w' => e = .returned (.string ⟨(hexN n 4).toArray⟩) ∧ w' = w := by
  have hxz : hxs.size = 16 := rfl
  have hx1 := hxs_one
  obtain ⟨hx, ehx⟩ : ∃ hx, hxs = hx := ⟨_, rfl⟩
  rw [ehx] at hxz hx1 ⊢
  have HX := hid hx1
  clear hx1
  go_enter Tryz.func13, Tryz.ntmps13
  go_wp2_with fail
  go_loopw [0, 5, 6] (fun a s i wr => ∃ (k x : Nat) (t : ByteArray), k ≤ 4 ∧ i = .int .i64 k ∧ a = .int .i64 x ∧ x < 65536 ∧ s = .string t ∧ t.size = k ∧ Hid (x = n / 2 ^ (4 * k) ∧ t.data.toList = hexN n k) ∧ wr = w) (fun _ _ i _ => 4 - (intOf i).toNat)
  case atStart => exact ⟨0, n, ⟨#[]⟩, by omega, rfl, rfl, h1, rfl, rfl, ⟨by simp, rfl⟩, rfl⟩
  case round =>
    obtain ⟨k, x, t, hk, rfl, rfl, hx6, rfl, ht, HH, rfl⟩ := hrel
    by_cases hlt : k < 4
    · have e1 : ((x : Int)).tmod 16 = ((x % 16 : Nat) : Int) := by rw [Int.tmod_eq_emod_of_nonneg (by omega)]; omega
      have e2 : ((x : Int)) % 16 = ((x % 16 : Nat) : Int) := by omega
      have hd : x % 16 < 16 := Nat.mod_lt _ (by decide)
      have HD : Hid (x % 16 = n / 2 ^ (4 * k) % 16) := by rw [← HH.out.1]; rfl
      generalize x % 16 = d at *
      go_wp2
      go_roundw
      case rel =>
        have q := HX.out d hd
        refine ⟨k + 1, x / 16, _, by omega, by go_num, by rw [show ((x : Int) / 16) = ((x / 16 : Nat) : Int) from by omega], by omega, rfl, ?_, ⟨?_, ?_⟩, trivial⟩
        · rw [ByteArray.size_append]
          have q2 := congrArg List.length q
          simp only [Array.length_toList, List.length_cons, List.length_nil] at q2
          have q3 : (hx.extract d (d + 1)).size = 1 := q2
          omega
        · rw [HH.out.1, Nat.div_div_eq_div_mul, show 4 * (k + 1) = 4 * k + 4 from by omega, Nat.pow_add]
        · rw [ByteArray.data_append, Array.toList_append, q, HD.out, HH.out.2]
          rfl
      case measure => simp [intOf]; omega
    · have e4 : k = 4 := by omega
      subst e4
      go_wp2
      go_ret
      refine ⟨?_, rfl⟩
      have q := HH.out.2
      cases t with
      | mk a => cases a with
        | mk l => have q : l = hexN n 4 := q; subst q; rfl

end Go.Proofs.YtcgjliflnnklnabGreat
