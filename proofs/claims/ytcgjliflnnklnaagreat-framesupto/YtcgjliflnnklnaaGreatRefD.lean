/-
  The document's Frame; and what both Frames refuse.
-/
import Derived.Test.YtcgjliflnnklnaaGreatRefC
import Derived.Deep.QuietTactic
import Derived.BigQuiet
namespace Go.Proofs.YtcgjliflnnklnaaGreat
open Go.RowKit

theorem size_toList (a : ByteArray) : a.size = a.data.toList.length := by simp

theorem bytes_new (w : World) (x : ByteArray) (c : Nat) (fr : Nat × Nat) : BytesAt ((w.alloc (.cells (bytesRow x c) 5 fr)).drew) w.heap.size 0 x.data.toList := by
  intro i hi
  rw [Nat.zero_add, World.cell?_drew, cell_of_row _ w.heap.size i (bytesRow x c) 5 fr (heap_alloc_new w _)]
  have hi' : i < x.data.size := by simpa using hi
  unfold bytesRow
  rw [Array.getElem?_append_left (by simpa using hi')]
  rw [Array.getElem?_map, Array.getElem?_eq_getElem hi']; simp

theorem to_bytes (w : World) (x : ByteArray) : (convert 9 35 (.string x)).run Tryz.prog w = .ok (.slice (some ⟨w.heap.size, 0, none⟩) x.size (grownCap w x.size 0 5))
      ((w.alloc (.cells (bytesRow x (grownCap w x.size 0 5)) 5 ((bytesRow x (grownCap w x.size 0 5)).size, (bytesRow x (grownCap w x.size 0 5)).size + 1))).drew) :=
  run_bytes_of_string (P := Tryz.prog) w 9 35 5 x und_str und_bytes und_u8

/-- Bytes in a new block. -/
def NewBytes (w0 w : World) (v : Value) (l : List UInt8) : Prop :=
  ∃ g cap, v = .slice (some ⟨g, 0, none⟩) l.length cap ∧ l.length ≤ cap ∧ BytesAt w g 0 l ∧ w0.heap.size ≤ g ∧ g < w.heap.size ∧ Below w0.heap.size w0 w

theorem newBytes_of (w0 w : World) (x : ByteArray) (l : List UInt8) (hx : x.data.toList = l) (hb : Below w0.heap.size w0 w) (c : Nat) (hc : l.length ≤ c) (fr : Nat × Nat) (n : Nat) (hn : n = l.length) :
    NewBytes w0 ((w.alloc (.cells (bytesRow x c) 5 fr)).drew) (.slice (some ⟨w.heap.size, 0, none⟩) n c) l := by
  subst hn
  refine ⟨w.heap.size, c, rfl, hc, ?_, hb.size, by simp, (hb.alloc hb.size _).drew⟩
  rw [← hx]; exact bytes_new w x c fr

set_option maxRecDepth 100000 in
set_option maxHeartbeats 400000 in
theorem refFrame_seq (a : Int) (s : ByteArray) (w : World) (h : a < 0 ∨ 255 < a) :
    Calls Tryz.prog 68 #[.int .i64 a, .string s] w fun e w' => e = .returned (.tuple #[.slice none 0 0, .int .i64 2]) ∧ w' = w := by
  rcases h with h | h
  · go_enter Tryz.func68, Tryz.ntmps68
    go_wp2
    go_ret2
    exact ⟨rfl, rfl⟩
  · have h0 : ¬ a < 0 := by omega
    go_enter Tryz.func68, Tryz.ntmps68
    go_wp2
    go_ret2
    exact ⟨rfl, rfl⟩

set_option maxRecDepth 100000 in
set_option maxHeartbeats 400000 in
theorem refFrame_long (b : UInt8) (s : ByteArray) (w : World) (h : 80 < s.size) :
    Calls Tryz.prog 68 #[.int .i64 b.toNat, .string s] w fun e w' => e = .returned (.tuple #[.slice none 0 0, .int .i64 3]) ∧ w' = w := by
  have hc : (b.toNat : Int) < 256 := by have := b.toNat_lt; omega
  have h' : (80 : Int) < (s.size : Int) := by omega
  go_enter Tryz.func68, Tryz.ntmps68
  go_wp2
  go_ret2
  exact ⟨rfl, rfl⟩

set_option maxRecDepth 100000 in
set_option maxHeartbeats 400000 in
theorem wireFrame_seq (a : Int) (s : ByteArray) (w : World) (h : a < 0 ∨ 255 < a) :
    Calls Tryz.prog 56 #[.int .i64 a, .string s] w fun e w' => e = .returned (.tuple #[.slice none 0 0, .int .i64 2]) ∧ w' = w := by
  rcases h with h | h
  · go_enter Tryz.func56, Tryz.ntmps56
    go_wp2
    go_ret2
    exact ⟨rfl, rfl⟩
  · have h0 : ¬ a < 0 := by omega
    go_enter Tryz.func56, Tryz.ntmps56
    go_wp2
    go_ret2
    exact ⟨rfl, rfl⟩

set_option maxRecDepth 100000 in
set_option maxHeartbeats 400000 in
theorem wireFrame_long (b : UInt8) (s : ByteArray) (w : World) (h : 80 < s.size) :
    Calls Tryz.prog 56 #[.int .i64 b.toNat, .string s] w fun e w' => e = .returned (.tuple #[.slice none 0 0, .int .i64 3]) ∧ w' = w := by
  have hc : (b.toNat : Int) < 256 := by have := b.toNat_lt; omega
  have h' : (80 : Int) < (s.size : Int) := by omega
  go_enter Tryz.func56, Tryz.ntmps56
  go_wp2
  go_ret2
  exact ⟨rfl, rfl⟩

set_option maxRecDepth 100000 in
set_option maxHeartbeats 400000 in
theorem frame_seq (a : Int) (s : ByteArray) (w : World) (h : a < 0 ∨ 255 < a) :
    Calls Tryz.prog 38 #[.int .i64 a, .string s] w fun e w' => e = .returned (.tuple #[.slice none 0 0, .int .i64 2]) ∧ w' = w := by
  go_enter Tryz.func38, Tryz.ntmps38
  go_wp2_with fail
  refine (wireFrame_seq a s _ h).mono ?_
  rintro e w1 ⟨rfl, rfl⟩
  go_wp2
  go_ret2
  exact ⟨rfl, rfl⟩

set_option maxRecDepth 100000 in
set_option maxHeartbeats 400000 in
theorem frame_long (b : UInt8) (s : ByteArray) (w : World) (h : 80 < s.size) :
    Calls Tryz.prog 38 #[.int .i64 b.toNat, .string s] w fun e w' => e = .returned (.tuple #[.slice none 0 0, .int .i64 3]) ∧ w' = w := by
  go_enter Tryz.func38, Tryz.ntmps38
  go_wp2_with fail
  refine (wireFrame_long b s _ h).mono ?_
  rintro e w1 ⟨rfl, rfl⟩
  go_wp2
  go_ret2
  exact ⟨rfl, rfl⟩

set_option maxRecDepth 100000 in
set_option maxHeartbeats 1000000 in
theorem refFrame_any (b : UInt8) (s : ByteArray) (w : World) (hs : s.size ≤ 80) :
    Calls Tryz.prog 68 #[.int .i64 b.toNat, .string s] w fun e w' => ∃ v, e = .returned (.tuple #[v, .int .i64 0]) ∧ NewBytes w w' v (frameOf b s.data.toList) := by
  have hc : (b.toNat : Int) < 256 := by have := b.toNat_lt; omega
  obtain ⟨i0, hi, hz0, hz1, hz2⟩ := info_parts inf_u8
  go_enter Tryz.func68, Tryz.ntmps68
  go_wp2
  go_loopw [6, 7] (fun t i wr => ∃ k : Nat, k ≤ s.size ∧ i = .int .i64 k ∧ OwnsN w.heap.size w wr t (esc (s.data.toList.take k))) (fun _ i _ => s.size - (intOf i).toNat)
  case atStart => exact ⟨0, Nat.zero_le _, rfl, ownsN_nil w⟩
  case round =>
    obtain ⟨k, hk, rfl, hO⟩ := hrel
    obtain ⟨hown, hbel, hsz⟩ := hO
    have hlen : (esc (s.data.toList.take k)).length ≤ 2 * k := by
      have := esc_len (s.data.toList.take k); have h2 : (s.data.toList.take k).length ≤ k := List.length_take_le _ _; omega
    by_cases hlt : k < s.size
    · have hstep : Hid (esc (s.data.toList.take (k + 1)) = esc (s.data.toList.take k) ++ esc1 s[k]) := by rw [take_snoc s k hlt, esc_snoc]; rfl
      generalize esc (s.data.toList.take k) = cur at *
      by_cases hsp : s[k] = 36 ∨ s[k] = 35 ∨ s[k] = 125
      · have he : Hid (esc1 s[k] = [125, s[k] ^^^ 32]) := by show _ = _; unfold esc1; rw [if_pos hsp]
        have hx : bits .xor .u8 (s[k].toNat : Int) 32 = ((s[k] ^^^ 32).toNat : Int) := xor32 _
        have ht : ((s[k].toNat : Int) == 36) = true ∨ (((s[k].toNat : Int) == 36) = false ∧ ((s[k].toNat : Int) == 35) = true) ∨ (((s[k].toNat : Int) == 36) = false ∧ ((s[k].toNat : Int) == 35) = false ∧ ((s[k].toNat : Int) == 125) = true) := by
          rcases hsp with h | h | h <;> simp [h]
        clear hsp
        rcases ht with t1 | ⟨t1, t2⟩ | ⟨t1, t2, t3⟩
        all_goals
          go_wp2_with (first | (at_builtin; go_must (refine wpList_append_lies _ rfl (.tmp 38) (.tmp 41) 35 rfl w.heap.size 5 i0 (.int .u8 0) 1 1 und_bytes hi hz0 hz1 hz2 rfl (by decide) u6 cur.length (vals cur) rfl (by exact (hown.alloc _)) ⟨wr.heap.size, 0, none⟩ 2 2 [.int .u8 125, .int .u8 (s[k] ^^^ 32).toNat] rfl rfl (two_new' _ _ _ _) (two_one _ _) (by decide) (by unfold maxLen; omega) (by omega) (by simp; omega) _ rfl ?_; intro g' cap' w1 hown' hgrow hat hlt')))
          have HO := (owns_more (m := [125, s[k] ^^^ 32]) hown hbel hsz hown' hgrow).n
          clear hown hbel hsz hown' hgrow hat hlt'
          go_roundw
          case rel => exact ⟨k + 1, by omega, by go_num, by rw [hstep.out, he.out]; exact HO⟩
          case measure => simp [intOf]; omega
      · have he : Hid (esc1 s[k] = [s[k]]) := by show _ = _; unfold esc1; rw [if_neg hsp]
        have t1 : ((s[k].toNat : Int) == 36) = false := c_ne (n := 36) (fun e => hsp (.inl e))
        have t2 : ((s[k].toNat : Int) == 35) = false := c_ne (n := 35) (fun e => hsp (.inr (.inl e)))
        have t3 : ((s[k].toNat : Int) == 125) = false := c_ne (n := 125) (fun e => hsp (.inr (.inr e)))
        clear hsp
        go_wp2_with (first | (at_builtin; go_must (refine wpList_append_lies _ rfl (.tmp 43) (.tmp 45) 35 rfl w.heap.size 5 i0 (.int .u8 0) 1 1 und_bytes hi hz0 hz1 hz2 rfl (by decide) u6 cur.length (vals cur) rfl (by exact (hown.alloc _)) ⟨wr.heap.size, 0, none⟩ 1 1 [.int .u8 s[k].toNat] rfl rfl (one_new' _ _ _) (one_one _) (by decide) (by unfold maxLen; omega) (by omega) (by simp; omega) _ rfl ?_; intro g' cap' w1 hown' hgrow hat hlt')))
        have HO := (owns_more (m := [s[k]]) hown hbel hsz hown' hgrow).n
        clear hown hbel hsz hown' hgrow hat hlt'
        go_roundw
        case rel => exact ⟨k + 1, by omega, by go_num, by rw [hstep.out, he.out]; exact HO⟩
        case measure => simp [intOf]; omega
    · have hke : s.data.toList.take k = s.data.toList := List.take_of_length_le (by simp; omega)
      rw [hke] at hown hlen
      have hconv := fun n => to_string_n (w := wr.drewN n) (v := u6) hown
      have hby := to_bytes
      have hesc : (esc s.data.toList).length ≤ 160 := by omega
      have hh2 : (hex2 b).length = 2 := rfl
      clear hke
      go_wp2_with fail
      go_quiet ((go_at_call 97; exact Calls.quiet_of_same (digits_any b _)))
      go_wp2_with fail
      have HS : Hid (((⟨(hex2 b).toArray⟩ : ByteArray) ++ ⟨(esc s.data.toList).toArray⟩).data.toList = rawOf b s.data.toList) := by show _ = _; rw [ByteArray.data_append]; simp [rawOf]
      generalize (⟨(hex2 b).toArray⟩ : ByteArray) ++ ⟨(esc s.data.toList).toArray⟩ = S at *
      have hS : S.size ≤ 162 := by rw [size_toList, HS.out]; simp [rawOf, hex2]; omega
      refine (rsum_any S _ (by omega)).mono ?_
      rintro e w' ⟨rfl, hw⟩
      subst w'
      rw [HS.out]
      go_wp2_with fail
      refine (digits_any (sum8 (rawOf b s.data.toList)) _).mono ?_
      rintro e w' ⟨rfl, hw⟩
      subst w'
      have hh3 : (hex2 (sum8 (rawOf b s.data.toList))).length = 2 := rfl
      clear hh2
      have HX : Hid (((({ data := #[36] } : ByteArray) ++ S ++ { data := #[35] }) ++ (⟨(hex2 (sum8 (rawOf b s.data.toList))).toArray⟩ : ByteArray)).data.toList = frameOf b s.data.toList) := by
        show _ = _
        simp only [ByteArray.data_append, Array.toList_append, HS.out]; simp [frameOf, rawOf]
      have HL : Hid ((frameOf b s.data.toList).length = 1 + S.size + 1 + 2) := by show _ = _; rw [size_toList S, HS.out]; simp [frameOf, rawOf, hex2]; omega
      have hD : (⟨(hex2 (sum8 (rawOf b s.data.toList))).toArray⟩ : ByteArray).size = 2 := ba_size _
      generalize (⟨(hex2 (sum8 (rawOf b s.data.toList))).toArray⟩ : ByteArray) = D at *
      have HB : Hid (Below w.heap.size w (wr.drewN nq)) := below_drewN hbel nq
      clear hconv hown hbel hh3
      go_wp2
      go_ret2
      refine ⟨_, rfl, newBytes_of w (wr.drewN nq) _ _ HX.out HB.out _ ?_ _ _ ?_⟩
      · rw [HL.out]; exact grownCap_ge _ _ _ _
      · rw [HL.out]

end Go.Proofs.YtcgjliflnnklnaaGreat
