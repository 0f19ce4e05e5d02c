/-
  appendEscaped.
-/
import Derived.Test.YtcgjliflnnklnaaGreatHex
namespace Go.Proofs.YtcgjliflnnklnaaGreat
open Go.RowKit

def esc1 (c : UInt8) : List UInt8 := if c = 36 ∨ c = 35 ∨ c = 125 then [125, c ^^^ 32] else [c]
def esc (l : List UInt8) : List UInt8 := l.flatMap esc1

theorem esc_snoc (l : List UInt8) (c : UInt8) : esc (l ++ [c]) = esc l ++ esc1 c := by simp [esc]
theorem esc1_len (c : UInt8) : (esc1 c).length ≤ 2 := by unfold esc1; split <;> simp
theorem esc_len (l : List UInt8) : (esc l).length ≤ 2 * l.length := by
  induction l with
  | nil => simp [esc]
  | cons c r ih => have := esc1_len c; simp only [esc, List.flatMap_cons, List.length_append, List.length_cons] at *; omega

theorem take_snoc (s : ByteArray) (k : Nat) (h : k < s.size) : s.data.toList.take (k + 1) = s.data.toList.take k ++ [s[k]] := by
  rw [List.take_succ_eq_append_getElem (by simpa using h)]; rfl

theorem xor32 (c : UInt8) : bits .xor .u8 (c.toNat : Int) 32 = ((c ^^^ 32).toNat : Int) := by
  rw [show (32 : Int) = ((32 : Nat) : Int) from rfl, u8_xor_nat _ _ (UInt8.toNat_lt _) (by omega), UInt8.toNat_xor]; rfl

set_option maxRecDepth 100000 in
set_option maxHeartbeats 1000000 in
theorem appendEscaped_any (base : Nat) (v : Value) (l : List UInt8) (s : ByteArray) (w0 w : World) (hv : Owns base w0 w v l) (hl : l.length ≤ 1000) (hs : s.size ≤ 1000) :
    Calls Tryz.prog 85 #[v, .string s] w fun e w' => ∃ v', e = .returned v' ∧ Owns base w0 w' v' (l ++ esc s.data.toList) := by
  obtain ⟨g, cap, rfl, hown, hbel, hsz⟩ := hv
  obtain ⟨i0, hi, hz0, hz1, hz2⟩ := info_parts inf_u8
  have HO : Hid (Owns base w0 w (.slice (some ⟨g, 0, none⟩) l.length cap) (l ++ esc (s.data.toList.take 0))) := ⟨g, cap, by simp [esc], by simpa [esc] using hown, hbel, hsz⟩
  clear hown hbel hsz
  go_enter Tryz.func85, Tryz.ntmps85
  go_wp2
  go_loopw [0, 9] (fun t i wr => ∃ k : Nat, k ≤ s.size ∧ i = .int .i64 k ∧ Owns base w0 wr t (l ++ esc (s.data.toList.take k))) (fun _ i _ => s.size - (intOf i).toNat)
  case atStart => exact ⟨0, Nat.zero_le _, rfl, HO.out⟩
  case round =>
    obtain ⟨k, hk, rfl, hO⟩ := hrel
    clear HO
    obtain ⟨g1, cap1, rfl, hown, hbel, hsz⟩ := hO
    have hlen : (l ++ esc (s.data.toList.take k)).length ≤ 1000 + 2 * k := by
      have := esc_len (s.data.toList.take k); have h2 : (s.data.toList.take k).length ≤ k := List.length_take_le _ _
      rw [List.length_append]; omega
    by_cases hlt : k < s.size
    · have hstep : Hid (l ++ esc (s.data.toList.take (k + 1)) = (l ++ esc (s.data.toList.take k)) ++ esc1 s[k]) := by rw [take_snoc s k hlt, esc_snoc, List.append_assoc]; rfl
      generalize l ++ esc (s.data.toList.take k) = cur at *
      by_cases hsp : s[k] = 36 ∨ s[k] = 35 ∨ s[k] = 125
      · have he : Hid (esc1 s[k] = [125, s[k] ^^^ 32]) := by show _ = _; unfold esc1; rw [if_pos hsp]
        have hx : bits .xor .u8 (s[k].toNat : Int) 32 = ((s[k] ^^^ 32).toNat : Int) := xor32 _
        have ht : ((s[k].toNat : Int) == 36) = true ∨ (((s[k].toNat : Int) == 36) = false ∧ ((s[k].toNat : Int) == 35) = true) ∨ (((s[k].toNat : Int) == 36) = false ∧ ((s[k].toNat : Int) == 35) = false ∧ ((s[k].toNat : Int) == 125) = true) := by
          rcases hsp with h | h | h <;> simp [h]
        clear hsp
        rcases ht with t1 | ⟨t1, t2⟩ | ⟨t1, t2, t3⟩
        all_goals
          go_wp2_with (first | (at_builtin; go_must (refine wpList_append_lies _ rfl (.tmp 24) (.tmp 27) 35 rfl base 5 i0 (.int .u8 0) 1 1 und_bytes hi hz0 hz1 hz2 rfl (by decide) (.slice (some ⟨g1, 0, none⟩) cur.length cap1) cur.length (vals cur) rfl (by exact (hown.alloc _)) ⟨wr.heap.size, 0, none⟩ 2 2 [.int .u8 125, .int .u8 (s[k] ^^^ 32).toNat] rfl rfl (two_new' _ _ _ _) (two_one _ _) (by decide) (by unfold maxLen; omega) (by omega) (by simp; omega) _ rfl ?_; intro g' cap' w1 hown' hgrow hat hlt')))
          have HO := owns_more (m := [125, s[k] ^^^ 32]) hown hbel hsz hown' hgrow
          clear hown hbel hsz hown' hgrow hat hlt'
          go_roundw
          case rel => exact ⟨k + 1, by omega, by go_num, by rw [hstep.out, he.out]; exact HO⟩
          case measure => simp [intOf]; omega
      · have he : Hid (esc1 s[k] = [s[k]]) := by show _ = _; unfold esc1; rw [if_neg hsp]
        have t1 : ((s[k].toNat : Int) == 36) = false := c_ne (n := 36) (fun e => hsp (.inl e))
        have t2 : ((s[k].toNat : Int) == 35) = false := c_ne (n := 35) (fun e => hsp (.inr (.inl e)))
        have t3 : ((s[k].toNat : Int) == 125) = false := c_ne (n := 125) (fun e => hsp (.inr (.inr e)))
        clear hsp
        go_wp2_with (first | (at_builtin; go_must (refine wpList_append_lies _ rfl (.tmp 16) (.tmp 18) 35 rfl base 5 i0 (.int .u8 0) 1 1 und_bytes hi hz0 hz1 hz2 rfl (by decide) (.slice (some ⟨g1, 0, none⟩) cur.length cap1) cur.length (vals cur) rfl (by exact (hown.alloc _)) ⟨wr.heap.size, 0, none⟩ 1 1 [.int .u8 s[k].toNat] rfl rfl (one_new' _ _ _) (one_one _) (by decide) (by unfold maxLen; omega) (by omega) (by simp; omega) _ rfl ?_; intro g' cap' w1 hown' hgrow hat hlt')))
        have HO := owns_more (m := [s[k]]) hown hbel hsz hown' hgrow
        clear hown hbel hsz hown' hgrow hat hlt'
        go_roundw
        case rel => exact ⟨k + 1, by omega, by go_num, by rw [hstep.out, he.out]; exact HO⟩
        case measure => simp [intOf]; omega
    · have hke : k = s.size := by omega
      have he : Hid (l ++ esc (s.data.toList.take k) = l ++ esc s.data.toList) := by show _ = _; rw [hke, List.take_of_length_le (by simp)]
      generalize l ++ esc (s.data.toList.take k) = cur at *
      have HO : Hid (Owns base w0 wr (.slice (some ⟨g1, 0, none⟩) cur.length cap1) cur) := ⟨g1, cap1, rfl, hown, hbel, hsz⟩
      clear hown hbel hsz
      go_wp2
      go_ret
      exact ⟨_, rfl, by rw [← he.out]; exact HO.out⟩

end Go.Proofs.YtcgjliflnnklnaaGreat
