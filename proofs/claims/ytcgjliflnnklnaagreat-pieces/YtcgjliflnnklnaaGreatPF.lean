/-
  Joined texts.
-/
import Derived.Test.YtcgjliflnnklnaaGreatPD
import Derived.Deep.AppendLies
import Derived.Deep.RegionLaw
import Derived.Deep.RegionHeld3
import Derived.Test.YtcgjliflnnklnaaGreatCpNwx
namespace Go.Proofs.YtcgjliflnnklnaaGreat
open Go.RowKit

/-
  hex.Append: so many digits of a number, behind what is there.
-/
section
def vals (l : List UInt8) : List Value := l.map fun c => Value.int .u8 (c.toNat : Int)

theorem inf_u8 : (Tryz.prog.info? 5).map (fun i => (i.zero, i.size, i.bytes)) = some (some (.int .u8 0), 1, 1) := by kernel_rfl

def digits : List UInt8 := [48, 49, 50, 51, 52, 53, 54, 55, 56, 57, 97, 98, 99, 100, 101, 102]
def hexd (n : Nat) : UInt8 := digits.getD n 0
def hex2 (b : UInt8) : List UInt8 := [hexd (b.toNat / 16), hexd (b.toNat % 16)]

theorem and15 (b : UInt8) : bits .and .u8 (b.toNat : Int) 15 = ((b.toNat % 16 : Nat) : Int) := by
  rw [show (15 : Int) = ((15 : Nat) : Int) from rfl, u8_and_nat _ _ (UInt8.toNat_lt _) (by omega)]
  congr 1; exact Nat.and_two_pow_sub_one_eq_mod b.toNat 4

theorem und_bytes : Tryz.prog.underlying 35 = some (.slice 5) := by kernel_rfl

theorem dig_get (n : Nat) (h : n < 16) : (({ data := #[48, 49, 50, 51, 52, 53, 54, 55, 56, 57, 97, 98, 99, 100, 101, 102] } : ByteArray)[n]'h) = hexd n := by
  have : ∀ n : Fin 16, (({ data := #[48, 49, 50, 51, 52, 53, 54, 55, 56, 57, 97, 98, 99, 100, 101, 102] } : ByteArray)[n.1]'n.2) = hexd n.1 := by decide +kernel
  exact this ⟨n, h⟩

theorem two_one (m n : Int) : ∀ u ∈ [Value.int .u8 m, Value.int .u8 n], u.oneCell' = true := by
  intro u hu; simp at hu; rcases hu with rfl | rfl <;> rfl

theorem vals_append (a b : List UInt8) : vals (a ++ b) = vals a ++ vals b := by simp [vals]
theorem vals_length (a : List UInt8) : (vals a).length = a.length := by simp [vals]

theorem two_new' (w : World) (x y : Value) (t : TypeId) :
    ∀ j u, [x, y][j]? = some u → (w.alloc (.cells #[x, y] t)).cell? ((⟨w.heap.size, 0, none⟩ : Addr).add j) = some u :=
  World.news_of_block (w := w.alloc (.cells #[x, y] t)) (cs := #[x, y]) (t := t) (fr := (0, 0)) (heap_alloc_new w _)
theorem one_new' (w : World) (x : Value) (t : TypeId) :
    ∀ j u, [x][j]? = some u → (w.alloc (.cells #[x] t)).cell? ((⟨w.heap.size, 0, none⟩ : Addr).add j) = some u :=
  World.news_of_block (w := w.alloc (.cells #[x] t)) (cs := #[x]) (t := t) (fr := (0, 0)) (heap_alloc_new w _)
theorem one_new2 (w : World) (x y : Value) (h : x = y) (t : TypeId) :
    ∀ j u, [y][j]? = some u → (w.alloc (.cells #[x] t)).cell? ((⟨w.heap.size, 0, none⟩ : Addr).add j) = some u := by
  subst h; exact one_new' w x t
theorem one_one (m : Int) : ∀ u ∈ [Value.int .u8 m], u.oneCell' = true := by
  intro u hu; simp at hu; subst hu; rfl

/-- A slice of bytes that the call itself has made. -/
def Owns (base : Nat) (w0 w : World) (v : Value) (l : List UInt8) : Prop :=
  ∃ g cap, v = .slice (some ⟨g, 0, none⟩) l.length cap ∧ w.ownsRow base 5 1 v l.length (vals l) ∧ Below base w0 w ∧ base ≤ w.heap.size

theorem owns_more {base : Nat} {w0 w w1 : World} {v : Value} {l m : List UInt8} {o : Obj} {g' cap' : Nat} (hown : w.ownsRow base 5 1 v l.length (vals l)) (hb : Below base w0 w) (hs : base ≤ w.heap.size)
    (h : w1.ownsRow base 5 1 (.slice (some ⟨g', 0, none⟩) (l.length + m.length) cap') (l.length + m.length) (vals l ++ vals m)) (hg : (w.alloc o).grownBy w1 v.ownBlock) : Owns base w0 w1 (.slice (some ⟨g', 0, none⟩) (l.length + m.length) cap') (l ++ m) := by
  refine ⟨g', cap', by simp, by rw [List.length_append, vals_append]; exact h, ?_, ?_⟩
  · exact (hb.alloc hs _).grown hg (by simp; omega) (fun k e => (hown.lt k e).1)
  · have := hg.size; simp at this; omega

theorem wrap_i64_nat (a : Nat) (h : a < 9223372036854775808) : IntKind.i64.wrap (a : Int) = a := by
  simp only [IntKind.wrap, IntKind.bits, IntKind.signed]; simp; omega
theorem andi_nat (a b : Nat) (ha : a < 9223372036854775808) (hb : b < 9223372036854775808) : bits .and .i64 (a : Int) (b : Int) = ((a &&& b : Nat) : Int) := by
  have hx : a &&& b < 2 ^ 63 := Nat.and_lt_two_pow _ (by omega)
  show IntKind.i64.wrap ((BitVec.ofInt 64 (a : Int) &&& BitVec.ofInt 64 (b : Int)).toNat : Int) = _
  rw [BitVec.toNat_and, ofInt_u64 a (by omega), ofInt_u64 b (by omega), wrap_i64_nat _ (by omega)]
theorem and15i (a : Nat) (ha : a < 9223372036854775808) : bits .and .i64 (a : Int) 15 = ((a % 16 : Nat) : Int) := by
  rw [show (15 : Int) = ((15 : Nat) : Int) from rfl, andi_nat _ _ ha (by omega)]
  congr 1; exact Nat.and_two_pow_sub_one_eq_mod a 4

/-- The lowest k digits of a number. -/
def hexN (n : Nat) : Nat → List UInt8
  | 0 => []
  | k + 1 => hexd (n / 2 ^ (4 * k) % 16) :: hexN n k
theorem hexN_len (n k : Nat) : (hexN n k).length = k := by
  induction k with
  | zero => rfl
  | succ k ih => simp [hexN, ih]
theorem hexN_two (b : UInt8) : hexN b.toNat 2 = hex2 b := by
  have := b.toNat_lt
  simp only [hexN, hex2]
  rw [show b.toNat / 2 ^ (4 * 1) % 16 = b.toNat / 16 from by omega, show b.toNat / 2 ^ (4 * 0) % 16 = b.toNat % 16 from by omega]

theorem dig_n (n k : Nat) (hn : n < 9223372036854775808) : bits .and .i64 ((n : Int) / 2 ^ (4 * k)) 15 = ((n / 2 ^ (4 * k) % 16 : Nat) : Int) := by
  have e : (n : Int) / 2 ^ (4 * k) = ((n / 2 ^ (4 * k) : Nat) : Int) := by simp
  rw [e, and15i _ (Nat.lt_of_le_of_lt (Nat.div_le_self _ _) hn)]

theorem dig_v (m : Int) (n : Nat) (hm : m = (n : Int)) (h : m.toNat < 16) : Value.int .u8 ((({ data := #[48, 49, 50, 51, 52, 53, 54, 55, 56, 57, 97, 98, 99, 100, 101, 102] } : ByteArray)[m.toNat]'h).toNat : Int) = .int .u8 ((hexd n).toNat : Int) := by
  subst hm
  rw [dig_get _ h, Int.toNat_natCast]

set_option maxRecDepth 100000 in
set_option maxHeartbeats 1000000 in
theorem appendHex_owns (base : Nat) (v : Value) (l : List UInt8) (n count : Nat) (w0 w : World) (hv : Owns base w0 w v l) (hl : l.length ≤ 1000) (hn : n < 9223372036854775808) (hc : count ≤ 16) :
    Calls Tryz.prog 84 #[v, .int .i64 n, .int .i64 count] w fun e w' => ∃ v', e = .returned v' ∧ Owns base w0 w' v' (l ++ hexN n count) := by
  obtain ⟨i0, hi, hz0, hz1, hz2⟩ := info_parts inf_u8
  have HO : Hid (Owns base w0 w v l) := hv
  clear hv
  go_enter Tryz.func84, Tryz.ntmps84
  go_wp2
  go_loopw [0, 7] (fun t i wr => ∃ (k : Nat) (cur : List UInt8), k ≤ count ∧ i = .int .i64 ((k : Int) - 1) ∧ Owns base w0 wr t cur ∧ cur ++ hexN n k = l ++ hexN n count ∧ cur.length ≤ 1016 - k) (fun _ i _ => (intOf i + 1).toNat)
  case atStart => exact ⟨count, l, Nat.le_refl _, by go_num, HO.out, rfl, by omega⟩
  case round =>
    obtain ⟨k, cur, hk, rfl, hO, hcur, hcl⟩ := hrel
    clear HO
    obtain ⟨g1, cap1, rfl, hown, hbel, hsz⟩ := hO
    cases k with
    | zero =>
      have HF : Hid (Owns base w0 wr (.slice (some ⟨g1, 0, none⟩) cur.length cap1) (l ++ hexN n count)) := by
        have e : cur = l ++ hexN n count := by rw [← hcur]; simp [hexN]
        subst e; exact ⟨g1, cap1, rfl, hown, hbel, hsz⟩
      clear hown hbel hsz hcur
      go_wp2
      go_ret
      exact ⟨_, rfl, HF.out⟩
    | succ j =>
      have hcur' : Hid ((cur ++ [hexd (n / 2 ^ (4 * j) % 16)]) ++ hexN n j = l ++ hexN n count) := by show _ = _; rw [← hcur]; simp [hexN]
      clear hcur
      have ej : ((j + 1 : Nat) : Int) - 1 = (j : Int) := by omega
      rw [ej]
      have HD : Hid (bits .and .i64 ((n : Int) / 2 ^ (4 * j)) 15 = ((n / 2 ^ (4 * j) % 16 : Nat) : Int)) := dig_n n j hn
      have a0 : 0 ≤ bits .and .i64 ((n : Int) / 2 ^ (4 * j)) 15 := by rw [HD.out]; omega
      have a1 : bits .and .i64 ((n : Int) / 2 ^ (4 * j)) 15 < 16 := by rw [HD.out]; omega
      go_wp2_with (first | (at_builtin; go_must (refine wpList_append_lies _ rfl (.tmp 14) (.tmp 21) 35 rfl base 5 i0 (.int .u8 0) 1 1 und_bytes hi hz0 hz1 hz2 rfl (by decide) (.slice (some ⟨g1, 0, none⟩) cur.length cap1) cur.length (vals cur) rfl (by exact (hown.alloc _)) ⟨wr.heap.size, 0, none⟩ 1 1 [.int .u8 (hexd (n / 2 ^ (4 * j) % 16)).toNat] rfl rfl (one_new2 _ _ _ (dig_v _ _ HD.out _) _) (one_one _) (by decide) (by unfold maxLen; omega) (by omega) (by simp; omega) _ rfl ?_; intro g' cap' w1 hown' hgrow hat hlt')))
      have HO := owns_more (m := [hexd (n / 2 ^ (4 * j) % 16)]) hown hbel hsz hown' hgrow
      clear hown hbel hsz hown' hgrow hat hlt'
      go_roundw
      case rel => exact ⟨j, cur ++ [hexd (n / 2 ^ (4 * j) % 16)], by omega, by go_num, HO, hcur'.out, by simp; omega⟩
      case measure => simp [intOf]
end

/-
  appendEscaped.
-/
section
def esc1 (c : UInt8) : List UInt8 := if c = 36 ∨ c = 35 ∨ c = 125 then [125, c ^^^ 32] else [c]
def esc (l : List UInt8) : List UInt8 := l.flatMap esc1

theorem esc_snoc (l : List UInt8) (c : UInt8) : esc (l ++ [c]) = esc l ++ esc1 c := by simp [esc]
theorem esc1_len (c : UInt8) : (esc1 c).length ≤ 2 := by unfold esc1; split <;> simp
theorem esc_len (l : List UInt8) : (esc l).length ≤ 2 * l.length := by
  induction l with
  | nil => simp [esc]
  | cons c r ih => have := esc1_len c; simp only [esc, List.flatMap_cons, List.length_append, List.length_cons] at *; omega

theorem take_snoc (s : ByteArray) (k : Nat) (h : k < s.size) : s.data.toList.take (k + 1) = s.data.toList.take k ++ [s[k]] := by
  rw [List.take_succ_eq_append_getElem (by simpa using h)]; rfl

theorem xor32 (c : UInt8) : bits .xor .u8 (c.toNat : Int) 32 = ((c ^^^ 32).toNat : Int) := by
  rw [show (32 : Int) = ((32 : Nat) : Int) from rfl, u8_xor_nat _ _ (UInt8.toNat_lt _) (by omega), UInt8.toNat_xor]; rfl

set_option maxRecDepth 100000 in
set_option maxHeartbeats 1000000 in
theorem appendEscaped_any (base : Nat) (v : Value) (l : List UInt8) (s : ByteArray) (w0 w : World) (hv : Owns base w0 w v l) (hl : l.length ≤ 1000) (hs : s.size ≤ 1000) :
    Calls Tryz.prog 85 #[v, .string s] w fun e w' => ∃ v', e = .returned v' ∧ Owns base w0 w' v' (l ++ esc s.data.toList) := by
  obtain ⟨g, cap, rfl, hown, hbel, hsz⟩ := hv
  obtain ⟨i0, hi, hz0, hz1, hz2⟩ := info_parts inf_u8
  have HO : Hid (Owns base w0 w (.slice (some ⟨g, 0, none⟩) l.length cap) (l ++ esc (s.data.toList.take 0))) := ⟨g, cap, by simp [esc], by simpa [esc] using hown, hbel, hsz⟩
  clear hown hbel hsz
  go_enter Tryz.func85, Tryz.ntmps85
  go_wp2
  go_loopw [0, 9] (fun t i wr => ∃ k : Nat, k ≤ s.size ∧ i = .int .i64 k ∧ Owns base w0 wr t (l ++ esc (s.data.toList.take k))) (fun _ i _ => s.size - (intOf i).toNat)
  case atStart => exact ⟨0, Nat.zero_le _, rfl, HO.out⟩
  case round =>
    obtain ⟨k, hk, rfl, hO⟩ := hrel
    clear HO
    obtain ⟨g1, cap1, rfl, hown, hbel, hsz⟩ := hO
    have hlen : (l ++ esc (s.data.toList.take k)).length ≤ 1000 + 2 * k := by
      have := esc_len (s.data.toList.take k); have h2 : (s.data.toList.take k).length ≤ k := List.length_take_le _ _
      rw [List.length_append]; omega
    by_cases hlt : k < s.size
    · have hstep : Hid (l ++ esc (s.data.toList.take (k + 1)) = (l ++ esc (s.data.toList.take k)) ++ esc1 s[k]) := by rw [take_snoc s k hlt, esc_snoc, List.append_assoc]; rfl
      generalize l ++ esc (s.data.toList.take k) = cur at *
      by_cases hsp : s[k] = 36 ∨ s[k] = 35 ∨ s[k] = 125
      · have he : Hid (esc1 s[k] = [125, s[k] ^^^ 32]) := by show _ = _; unfold esc1; rw [if_pos hsp]
        have hx : bits .xor .u8 (s[k].toNat : Int) 32 = ((s[k] ^^^ 32).toNat : Int) := xor32 _
        have ht : ((s[k].toNat : Int) == 36) = true ∨ (((s[k].toNat : Int) == 36) = false ∧ ((s[k].toNat : Int) == 35) = true) ∨ (((s[k].toNat : Int) == 36) = false ∧ ((s[k].toNat : Int) == 35) = false ∧ ((s[k].toNat : Int) == 125) = true) := by
          rcases hsp with h | h | h <;> simp [h]
        clear hsp
        rcases ht with t1 | ⟨t1, t2⟩ | ⟨t1, t2, t3⟩
        all_goals
          go_wp2_with (first | (at_builtin; go_must (refine wpList_append_lies _ rfl (.tmp 24) (.tmp 27) 35 rfl base 5 i0 (.int .u8 0) 1 1 und_bytes hi hz0 hz1 hz2 rfl (by decide) (.slice (some ⟨g1, 0, none⟩) cur.length cap1) cur.length (vals cur) rfl (by exact (hown.alloc _)) ⟨wr.heap.size, 0, none⟩ 2 2 [.int .u8 125, .int .u8 (s[k] ^^^ 32).toNat] rfl rfl (two_new' _ _ _ _) (two_one _ _) (by decide) (by unfold maxLen; omega) (by omega) (by simp; omega) _ rfl ?_; intro g' cap' w1 hown' hgrow hat hlt')))
          have HO := owns_more (m := [125, s[k] ^^^ 32]) hown hbel hsz hown' hgrow
          clear hown hbel hsz hown' hgrow hat hlt'
          go_roundw
          case rel => exact ⟨k + 1, by omega, by go_num, by rw [hstep.out, he.out]; exact HO⟩
          case measure => simp [intOf]; omega
      · have he : Hid (esc1 s[k] = [s[k]]) := by show _ = _; unfold esc1; rw [if_neg hsp]
        have t1 : ((s[k].toNat : Int) == 36) = false := c_ne (n := 36) (fun e => hsp (.inl e))
        have t2 : ((s[k].toNat : Int) == 35) = false := c_ne (n := 35) (fun e => hsp (.inr (.inl e)))
        have t3 : ((s[k].toNat : Int) == 125) = false := c_ne (n := 125) (fun e => hsp (.inr (.inr e)))
        clear hsp
        go_wp2_with (first | (at_builtin; go_must (refine wpList_append_lies _ rfl (.tmp 16) (.tmp 18) 35 rfl base 5 i0 (.int .u8 0) 1 1 und_bytes hi hz0 hz1 hz2 rfl (by decide) (.slice (some ⟨g1, 0, none⟩) cur.length cap1) cur.length (vals cur) rfl (by exact (hown.alloc _)) ⟨wr.heap.size, 0, none⟩ 1 1 [.int .u8 s[k].toNat] rfl rfl (one_new' _ _ _) (one_one _) (by decide) (by unfold maxLen; omega) (by omega) (by simp; omega) _ rfl ?_; intro g' cap' w1 hown' hgrow hat hlt')))
        have HO := owns_more (m := [s[k]]) hown hbel hsz hown' hgrow
        clear hown hbel hsz hown' hgrow hat hlt'
        go_roundw
        case rel => exact ⟨k + 1, by omega, by go_num, by rw [hstep.out, he.out]; exact HO⟩
        case measure => simp [intOf]; omega
    · have hke : k = s.size := by omega
      have he : Hid (l ++ esc (s.data.toList.take k) = l ++ esc s.data.toList) := by show _ = _; rw [hke, List.take_of_length_le (by simp)]
      generalize l ++ esc (s.data.toList.take k) = cur at *
      have HO : Hid (Owns base w0 wr (.slice (some ⟨g1, 0, none⟩) cur.length cap1) cur) := ⟨g1, cap1, rfl, hown, hbel, hsz⟩
      clear hown hbel hsz
      go_wp2
      go_ret
      exact ⟨_, rfl, by rw [← he.out]; exact HO.out⟩
end

/-
  wire.Frame and stylet.Frame.
-/
section
def rawOf (b : UInt8) (body : List UInt8) : List UInt8 := hex2 b ++ esc body
def frameOf (b : UInt8) (body : List UInt8) : List UInt8 := [36] ++ hex2 b ++ esc body ++ [35] ++ hex2 (sum8 (rawOf b body))

theorem owns_bytes {base : Nat} {w : World} {g cap : Nat} {l : List UInt8} (h : w.ownsRow base 5 1 (.slice (some ⟨g, 0, none⟩) l.length cap) l.length (vals l)) : BytesAt w g 0 l := by
  intro i hi
  have := h.cellAt i (by omega)
  rw [Nat.zero_add, this]; simp [vals, List.getElem?_eq_getElem hi]

theorem bytes_tail {w : World} {g : Nat} {c : UInt8} {l : List UInt8} (h : BytesAt w g 0 (c :: l)) : BytesAt w g 1 l := by
  intro i hi
  have := h (i + 1) (by simpa using hi)
  simpa [Nat.add_comm] using this

theorem own_cap {base : Nat} {w : World} {g n cap : Nat} {xs : List Value} (h : w.ownsRow base 5 1 (.slice (some ⟨g, 0, none⟩) n cap) n xs) : n ≤ cap := by
  rcases h.2 with ⟨e, _⟩ | ⟨g', cap', cur, e, _, _, h1, _⟩
  · simp at e
  · injection e with e1 e2 e3; omega

set_option maxRecDepth 100000 in
set_option maxHeartbeats 1000000 in
theorem wireFrame_any (b : UInt8) (s : ByteArray) (w : World) (hs : s.size ≤ 80) :
    Calls Tryz.prog 56 #[.int .i64 b.toNat, .string s] w fun e w' => ∃ v, e = .returned (.tuple #[v, .int .i64 0]) ∧ Owns w.heap.size w w' v (frameOf b s.data.toList) := by
  have hc : (b.toNat : Int) < 256 := by have := b.toNat_lt; omega
  obtain ⟨i0, hi, hz0, hz1, hz2⟩ := info_parts inf_u8
  have hel : (esc s.data.toList).length ≤ 160 := by have := esc_len s.data.toList; simp at this; omega
  have O0 : Hid (Owns w.heap.size w (w.alloc (.cells #[.int .u8 36] 5)) (.slice (some ⟨w.heap.size, 0, none⟩) 1 1) [36]) := by
    refine ⟨w.heap.size, 1, rfl, ?_, (Below.refl _ _).alloc (Nat.le_refl _) _, by simp⟩
    exact World.ownsRow_lit w #[.int .u8 36] 1 (Nat.le_refl _) (by decide) rfl
  go_enter Tryz.func56, Tryz.ntmps56
  go_wp2_with fail
  refine (appendHex_owns w.heap.size _ [36] b.toNat 2 w _ O0.out (by simp) (by omega) (by omega)).mono ?_
  rintro e w1 ⟨v1, rfl, O1⟩
  rw [hexN_two] at O1
  have H1 : Hid (Owns w.heap.size w w1 v1 ([36] ++ hex2 b)) := O1
  clear O1 O0
  go_wp2_with fail
  refine (appendEscaped_any w.heap.size v1 ([36] ++ hex2 b) s w _ H1.out (by simp [hex2]) (by omega)).mono ?_
  rintro e w2 ⟨v2, rfl, O2⟩
  have hF : Hid (frameOf b s.data.toList = 36 :: rawOf b s.data.toList ++ [35] ++ hex2 (sum8 (rawOf b s.data.toList))) := by show _ = _; simp [frameOf, rawOf]
  have hrl : (rawOf b s.data.toList).length ≤ 162 := by simp [rawOf, hex2]; omega
  have hr2 : 2 ≤ (rawOf b s.data.toList).length := by simp [rawOf, hex2]
  rw [show [36] ++ hex2 b ++ esc s.data.toList = 36 :: rawOf b s.data.toList from by simp [rawOf]] at O2
  clear H1 hel
  generalize rawOf b s.data.toList = raw at *
  obtain ⟨g2, cap2, rfl, hown2, hbel2, hsz2⟩ := O2
  have hcap := own_cap hown2
  rw [List.length_cons] at hcap
  have HB : Hid (BytesAt w2 g2 1 raw) := bytes_tail (owns_bytes hown2)
  have HO2 : Hid (w2.ownsRow w.heap.size 5 1 (.slice (some ⟨g2, 0, none⟩) (raw.length + 1) cap2) (raw.length + 1) (vals (36 :: raw))) := hown2
  clear hown2
  go_wp2_with fail
  refine (sum_any g2 1 (cap2 - 1) raw _ (by omega) HB.out).mono ?_
  rintro e w' ⟨rfl, hw⟩
  subst hw
  clear HB
  have h256 : ((sum8 raw).toNat : Int) < 256 := by have := (sum8 raw).toNat_lt; omega
  go_wp2_with (first | (at_builtin; go_must (refine wpList_append_lies _ rfl (.tmp 27) (.tmp 28) 35 rfl w.heap.size 5 i0 (.int .u8 0) 1 1 und_bytes hi hz0 hz1 hz2 rfl (by decide) (.slice (some ⟨g2, 0, none⟩) (raw.length + 1) cap2) (raw.length + 1) (vals (36 :: raw)) rfl (by exact (HO2.out.alloc _)) ⟨w'.heap.size, 0, none⟩ 1 1 [.int .u8 35] rfl rfl (one_new' _ _ _) (one_one _) (by decide) (by unfold maxLen; omega) (by omega) (by simp; omega) _ rfl ?_; intro g' cap' w4 hown' hgrow hat hlt')) | fail)
  have HO : Hid (Owns w.heap.size w w4 (.slice (some ⟨g', 0, none⟩) (raw.length + 1 + 1) cap') (36 :: raw ++ [35])) := owns_more (l := 36 :: raw) (m := [35]) HO2.out hbel2 hsz2 hown' hgrow
  clear hown' hgrow hat hlt' HO2 hbel2 hsz2
  refine (appendHex_owns w.heap.size _ (36 :: raw ++ [35]) (sum8 raw).toNat 2 w _ HO.out (by simp; omega) (by have := (sum8 raw).toNat_lt; omega) (by omega)).mono ?_
  rintro e w5 ⟨v5, rfl, O5⟩
  rw [hexN_two] at O5
  have H5 : Hid (Owns w.heap.size w w5 v5 (36 :: raw ++ [35] ++ hex2 (sum8 raw))) := O5
  clear O5 HO
  go_wp2
  go_ret2
  exact ⟨v5, rfl, by rw [hF.out]; exact H5.out⟩

set_option maxRecDepth 100000 in
set_option maxHeartbeats 400000 in
theorem frame_any (b : UInt8) (s : ByteArray) (w : World) (hs : s.size ≤ 80) :
    Calls Tryz.prog 38 #[.int .i64 b.toNat, .string s] w fun e w' => ∃ v, e = .returned (.tuple #[v, .int .i64 0]) ∧ Owns w.heap.size w w' v (frameOf b s.data.toList) := by
  go_enter Tryz.func38, Tryz.ntmps38
  go_wp2_with fail
  refine (wireFrame_any b s _ hs).mono ?_
  rintro e w1 ⟨v, rfl, O⟩
  have H : Hid (Owns w.heap.size w w1 v (frameOf b s.data.toList)) := O
  clear O
  go_wp2
  go_ret2
  exact ⟨v, rfl, H.out⟩

def zsc : Array Value := #[.int .u8 0] ++ Array.replicate 200 (.int .u8 0) ++ #[.int .i64 0, .int .u8 0]

theorem zero_scan (w : World) : Sem.run Tryz.prog (zeroValue 130) w = .ok (.agg zsc) w := by kernel_rfl

theorem zsc_raw (i : Nat) (h : i < 200) : zsc[1 + i]? = some (.int .u8 0) := by
  have : ∀ i : Fin 200, zsc[1 + i.1]? = some (.int .u8 0) := by
    intro i
    unfold zsc
    rw [Array.getElem?_append_left (by simp; omega), Array.getElem?_append_right (by simp)]
    simp
  exact this ⟨i, h⟩

theorem zsc_0 : zsc[0]? = some (.int .u8 ((0 : Nat) : Int)) := by kernel_rfl
theorem zsc_201 : zsc[201]? = some (.int .i64 ((([] : List UInt8).length : Nat) : Int)) := by kernel_rfl
theorem zsc_202 : zsc[202]? = some (.int .u8 (((0 : UInt8).toNat : Nat) : Int)) := by kernel_rfl

theorem scAt_new (w : World) (t : TypeId) : ScAt (w.alloc (.cells zsc t)) w.heap.size ⟨0, [], 0⟩ := by
  have hc : ∀ i, (w.alloc (.cells zsc t)).cell? ⟨w.heap.size, i, none⟩ = zsc[i]? := fun i => World.cell?_alloc_at _ _ _ _ rfl
  refine ⟨by simp, by simp, ?_, ?_, ?_, ?_, ?_, ?_⟩
  · rw [hc]; exact zsc_0
  · rw [hc]; exact zsc_201
  · rw [hc]; exact zsc_202
  · intro i hi; simp at hi
  · intro i hi; rw [hc, zsc_raw i hi]; exact ⟨_, rfl⟩
  · intro o; exact World.frozen?_alloc_at _ _ _ _ rfl

set_option maxRecDepth 100000 in
set_option maxHeartbeats 400000 in
theorem newScan_any (w : World) :
    Calls Tryz.prog 30 #[] w fun e w' => e = .returned (.pointer (some ⟨w.heap.size, 0, none⟩)) ∧ ScAt w' w.heap.size ⟨0, [], 0⟩ ∧ w.grownBy w' none ∧ w'.heap.size = w.heap.size + 1 := by
  have hz := zero_scan
  have HN := scAt_new w
  have H : Hid (∀ t, ScAt (w.alloc (.cells zsc t)) w.heap.size ⟨0, [], 0⟩) := HN
  clear HN
  go_enter Tryz.func30, Tryz.ntmps30
  go_wp2
  go_ret
  exact ⟨rfl, H.out _, World.grownBy_alloc _ _ _, by simp⟩
end

/-
  unescape.
-/
section
def unesc : List UInt8 → Option (List UInt8)
  | [] => some []
  | [c] => if c = 125 then none else some [c]
  | c :: d :: r => if c = 125 then (unesc r).map ((d ^^^ 32) :: ·) else (unesc (d :: r)).map (c :: ·)

theorem unesc_plain (c : UInt8) (r : List UInt8) (h : c ≠ 125) : unesc (c :: r) = (unesc r).map (c :: ·) := by
  cases r with
  | nil => simp [unesc, h]
  | cons d r => simp [unesc, h]

theorem unesc_two (d : UInt8) (r : List UInt8) : unesc (125 :: d :: r) = (unesc r).map ((d ^^^ 32) :: ·) := by simp [unesc]

/-- What stands when k bytes of l are done: out has come. -/
def Part (l : List UInt8) (k : Nat) (out : List UInt8) : Prop := unesc l = (unesc (l.drop k)).map (out ++ ·) ∧ out.length ≤ k

theorem part_0 (l : List UInt8) : Part l 0 [] := ⟨by rw [List.drop_zero]; cases unesc l <;> simp, by simp⟩
theorem part_plain {l : List UInt8} {k : Nat} {out : List UInt8} (h : Part l k out) (hk : k < l.length) (hc : l[k] ≠ 125) : Part l (k + 1) (out ++ [l[k]]) := by
  refine ⟨?_, by have := h.2; simp; omega⟩
  rw [h.1, List.drop_eq_getElem_cons hk, unesc_plain _ _ hc]
  cases unesc (l.drop (k + 1)) <;> simp
theorem part_two {l : List UInt8} {k : Nat} {out : List UInt8} (h : Part l k out) (hk : k + 1 < l.length) (hc : l[k] = 125) : Part l (k + 2) (out ++ [l[k + 1] ^^^ 32]) := by
  refine ⟨?_, by have := h.2; simp; omega⟩
  rw [h.1, List.drop_eq_getElem_cons (show k < l.length by omega), hc, List.drop_eq_getElem_cons hk, unesc_two]
  cases unesc (l.drop (k + 1 + 1)) <;> simp
theorem part_none {l : List UInt8} {k : Nat} {out : List UInt8} (h : Part l k out) (hk : k < l.length) (hk' : k + 1 = l.length) (hc : l[k] = 125) : unesc l = none := by
  rw [h.1, List.drop_eq_getElem_cons hk, hc, List.drop_of_length_le (by omega)]; rfl
theorem part_end {l : List UInt8} {k : Nat} {out : List UInt8} (h : Part l k out) (hk : k = l.length) : unesc l = some out := by
  rw [h.1, List.drop_of_length_le (by omega)]; simp [unesc]

def unescRes (l : List UInt8) : Value × Bool := match unesc l with
  | some out => (.string ⟨out.toArray⟩, true)
  | none => (.string ⟨#[]⟩, false)

theorem und_u8 : Tryz.prog.underlying 5 = some (.int .u8) := by kernel_rfl
theorem und_str : Tryz.prog.underlying 9 = some .string := by kernel_rfl

theorem to_string {w : World} {base g cap : Nat} {l : List UInt8} (h : w.ownsRow base 5 1 (.slice (some ⟨g, 0, none⟩) l.length cap) l.length (vals l)) :
    (convert 35 9 (.slice (some ⟨g, 0, none⟩) l.length cap)).run Tryz.prog w = .ok (.string ⟨l.toArray⟩) w := by
  have := run_convert_bytes_back (P := Tryz.prog) w 35 9 5 ⟨g, 0, none⟩ cap l und_bytes und_u8 und_str
    (fun j hj => by
      have hb := owns_bytes h j hj
      rw [Nat.zero_add] at hb
      rw [show (⟨g, 0, none⟩ : Addr).add j = ⟨g, j, none⟩ from by unfold Addr.add; split <;> simp_all]; exact hb)
  exact this

set_option maxRecDepth 100000 in
set_option maxHeartbeats 1000000 in
theorem unescape_any (b off cap : Nat) (l : List UInt8) (w : World) (hl : l.length ≤ 1000) (h : BytesAt w b off l) (hb : b < w.heap.size) :
    Calls Tryz.prog 136 #[.slice (some ⟨b, off, none⟩) l.length cap] w fun e w' => e = .returned (.tuple #[(unescRes l).1, .bool (unescRes l).2]) ∧ Below w.heap.size w w' := by
  obtain ⟨i0, hi, hz0, hz1, hz2⟩ := info_parts inf_u8
  have HB : Hid (BytesAt w b off l) := h
  clear h
  have hm : i0.bytes * l.length ≤ 281474976710656 := by rw [hz2]; omega
  go_enter Tryz.func136, Tryz.ntmps136
  go_wp2_with (first | (at_make; go_must (refine wpList_make_own _ rfl _ _ 35 rfl w.heap.size 5 i0 (.int .u8 0) 1 und_bytes hi hz0 hz1 .i64 .i64 _ l.length rfl rfl rfl hm (by unfold maxLen; omega) (Nat.le_refl _) ?_; intro w1 hown1 hgrow1)))
  have HO : Hid (Owns w.heap.size w w1 (.slice (some ⟨w.heap.size, 0, none⟩) 0 l.length) []) := ⟨w.heap.size, l.length, rfl, hown1, (Below.refl _ _).grown hgrow1 (Nat.le_refl _) (by simp), hgrow1.size⟩
  clear hown1 hgrow1 hm
  go_loopw [4, 5] (fun v i wr => ∃ (k : Nat) (out : List UInt8), k ≤ l.length ∧ i = .int .i64 k ∧ Hid (Part l k out) ∧ Owns w.heap.size w wr v out) (fun _ i _ => l.length - (intOf i).toNat)
  case atStart => exact ⟨0, [], Nat.zero_le _, rfl, part_0 l, HO.out⟩
  case round =>
    obtain ⟨k, out, hk, rfl, hP, hO⟩ := hrel
    clear HO
    obtain ⟨g1, cap1, rfl, hown, hbel, hsz⟩ := hO
    have hol : out.length ≤ 1000 := by have := hP.out.2; omega
    by_cases hlt : k < l.length
    · have hc0 : wr.cell? ⟨b, off + k, none⟩ = some (.int .u8 (l[k].toNat : Int)) := (hbel.cell (by exact hb)).trans (HB.out k hlt)
      by_cases h125 : l[k] = 125
      · by_cases hk1 : k + 1 < l.length
        · have hc1 : wr.cell? ⟨b, off + (k + 1), none⟩ = some (.int .u8 (l[k + 1].toNat : Int)) := (hbel.cell (by exact hb)).trans (HB.out (k + 1) hk1)
          have hP' : Hid (Part l (k + 2) (out ++ [l[k + 1] ^^^ 32])) := part_two hP.out hk1 h125
          have t1 : ((l[k].toNat : Int) == 125) = true := by rw [h125]; rfl
          have hx : bits .xor .u8 (l[k + 1].toNat : Int) 32 = ((l[k + 1] ^^^ 32).toNat : Int) := xor32 _
          clear h125 hP
          have tz : ((k : Int) + 1 == (l.length : Int)) = false := by rw [beq_eq_false_iff_ne]; omega
          go_wp2_with (first | (at_builtin; go_must (refine wpList_append_lies _ rfl (.tmp 33) (.tmp 35) 35 rfl w.heap.size 5 i0 (.int .u8 0) 1 1 und_bytes hi hz0 hz1 hz2 rfl (by decide) (.slice (some ⟨g1, 0, none⟩) out.length cap1) out.length (vals out) rfl (by exact (hown.alloc _)) ⟨wr.heap.size, 0, none⟩ 1 1 [.int .u8 (l[k + 1] ^^^ 32).toNat] rfl rfl (one_new' _ _ _) (one_one _) (by decide) (by unfold maxLen; omega) (by omega) (by simp; omega) _ rfl ?_; intro g' cap' w1 hown' hgrow hat hlt')))
          have HO := owns_more (m := [l[k + 1] ^^^ 32]) hown hbel hsz hown' hgrow
          clear hown hbel hsz hown' hgrow hat hlt'
          go_roundw
          case rel => exact ⟨k + 2, out ++ [l[k + 1] ^^^ 32], by omega, by go_num, hP', HO⟩
          case measure => simp [intOf]; omega
        · have hn : Hid (unesc l = none) := part_none hP.out hlt (by omega) h125
          have t1 : ((l[k].toNat : Int) == 125) = true := by rw [h125]; rfl
          have tz : ((k : Int) + 1 == (l.length : Int)) = true := by rw [beq_iff_eq]; omega
          clear h125 hP
          go_wp2
          go_ret2
          refine ⟨by simp only [unescRes, hn.out]; rfl, hbel⟩
      · have hP' : Hid (Part l (k + 1) (out ++ [l[k]])) := part_plain hP.out hlt h125
        have t1 : ((l[k].toNat : Int) == 125) = false := c_ne (n := 125) h125
        clear h125 hP
        go_wp2_with (first | (at_builtin; go_must (refine wpList_append_lies _ rfl (.tmp 33) (.tmp 35) 35 rfl w.heap.size 5 i0 (.int .u8 0) 1 1 und_bytes hi hz0 hz1 hz2 rfl (by decide) (.slice (some ⟨g1, 0, none⟩) out.length cap1) out.length (vals out) rfl (by exact (hown.alloc _)) ⟨wr.heap.size, 0, none⟩ 1 1 [.int .u8 l[k].toNat] rfl rfl (one_new' _ _ _) (one_one _) (by decide) (by unfold maxLen; omega) (by omega) (by simp; omega) _ rfl ?_; intro g' cap' w1 hown' hgrow hat hlt')))
        have HO := owns_more (m := [l[k]]) hown hbel hsz hown' hgrow
        clear hown hbel hsz hown' hgrow hat hlt'
        go_roundw
        case rel => exact ⟨k + 1, out ++ [l[k]], by omega, by go_num, hP', HO⟩
        case measure => simp [intOf]; omega
    · have hn : Hid (unesc l = some out) := part_end hP.out (by omega)
      have hconv := to_string hown
      clear hP hown
      go_wp2
      go_ret2
      refine ⟨by simp only [unescRes, hn.out]; rfl, hbel⟩
end

/-
  Hex digits behind any bytes of one's own, be there none.
-/
section
/-- A slice of bytes that the call itself has made, or none. -/
def OwnV (base : Nat) (w0 w : World) (v : Value) (l : List UInt8) : Prop := w.ownsRow base 5 1 v l.length (vals l) ∧ Below base w0 w ∧ base ≤ w.heap.size

theorem OwnV.form {base : Nat} {w0 w : World} {v : Value} {l : List UInt8} (h : OwnV base w0 w v l) (hl : 0 < l.length) : Owns base w0 w v l := by
  obtain ⟨g, cap, e⟩ : ∃ g cap, v = .slice (some ⟨g, 0, none⟩) l.length cap := by
    rcases h.1.2 with ⟨-, e⟩ | ⟨g, cap, cur, e, -⟩
    · omega
    · exact ⟨g, cap, e⟩
  exact ⟨g, cap, e, h.1, h.2.1, h.2.2⟩
theorem Owns.v {base : Nat} {w0 w : World} {v : Value} {l : List UInt8} (h : Owns base w0 w v l) : OwnV base w0 w v l := by
  obtain ⟨g, cap, -, h1, h2, h3⟩ := h
  exact ⟨h1, h2, h3⟩
theorem ownV_more {base : Nat} {w0 w w1 : World} {v : Value} {l m : List UInt8} {o : Obj} {g' cap' : Nat} (hown : w.ownsRow base 5 1 v l.length (vals l)) (hb : Below base w0 w) (hs : base ≤ w.heap.size)
    (h : w1.ownsRow base 5 1 (.slice (some ⟨g', 0, none⟩) (l.length + m.length) cap') (l.length + m.length) (vals l ++ vals m)) (hg : (w.alloc o).grownBy w1 v.ownBlock) : OwnV base w0 w1 (.slice (some ⟨g', 0, none⟩) (l.length + m.length) cap') (l ++ m) :=
  (owns_more hown hb hs h hg).v

set_option maxRecDepth 100000 in
set_option maxHeartbeats 1000000 in
theorem appendHexV (base : Nat) (v : Value) (l : List UInt8) (n count : Nat) (w0 w : World) (hv : OwnV base w0 w v l) (hl : l.length ≤ 1000) (hn : n < 9223372036854775808) (hc : count ≤ 16) :
    Calls Tryz.prog 84 #[v, .int .i64 n, .int .i64 count] w fun e w' => ∃ v', e = .returned v' ∧ OwnV base w0 w' v' (l ++ hexN n count) := by
  obtain ⟨i0, hi, hz0, hz1, hz2⟩ := info_parts inf_u8
  have HO : Hid (OwnV base w0 w v l) := hv
  clear hv
  go_enter Tryz.func84, Tryz.ntmps84
  go_wp2
  go_loopw [0, 7] (fun t i wr => ∃ (k : Nat) (cur : List UInt8), k ≤ count ∧ i = .int .i64 ((k : Int) - 1) ∧ OwnV base w0 wr t cur ∧ cur ++ hexN n k = l ++ hexN n count ∧ cur.length ≤ 1016 - k) (fun _ i _ => (intOf i + 1).toNat)
  case atStart => exact ⟨count, l, Nat.le_refl _, by go_num, HO.out, rfl, by omega⟩
  case round =>
    obtain ⟨k, cur, hk, rfl, hO, hcur, hcl⟩ := hrel
    clear HO
    obtain ⟨hown, hbel, hsz⟩ := hO
    cases k with
    | zero =>
      have HF : Hid (OwnV base w0 wr u0 (l ++ hexN n count)) := by
        have e : cur = l ++ hexN n count := by rw [← hcur]; simp [hexN]
        subst e; exact ⟨hown, hbel, hsz⟩
      clear hown hbel hsz hcur
      go_wp2
      go_ret
      exact ⟨_, rfl, HF.out⟩
    | succ j =>
      have hcur' : Hid ((cur ++ [hexd (n / 2 ^ (4 * j) % 16)]) ++ hexN n j = l ++ hexN n count) := by show _ = _; rw [← hcur]; simp [hexN]
      clear hcur
      have ej : ((j + 1 : Nat) : Int) - 1 = (j : Int) := by omega
      rw [ej]
      have HD : Hid (bits .and .i64 ((n : Int) / 2 ^ (4 * j)) 15 = ((n / 2 ^ (4 * j) % 16 : Nat) : Int)) := dig_n n j hn
      have a0 : 0 ≤ bits .and .i64 ((n : Int) / 2 ^ (4 * j)) 15 := by rw [HD.out]; omega
      have a1 : bits .and .i64 ((n : Int) / 2 ^ (4 * j)) 15 < 16 := by rw [HD.out]; omega
      go_wp2_with (first | (at_builtin; go_must (refine wpList_append_lies _ rfl (.tmp 14) (.tmp 21) 35 rfl base 5 i0 (.int .u8 0) 1 1 und_bytes hi hz0 hz1 hz2 rfl (by decide) u0 cur.length (vals cur) rfl (by exact (hown.alloc _)) ⟨wr.heap.size, 0, none⟩ 1 1 [.int .u8 (hexd (n / 2 ^ (4 * j) % 16)).toNat] rfl rfl (one_new2 _ _ _ (dig_v _ _ HD.out _) _) (one_one _) (by decide) (by unfold maxLen; omega) (by omega) (by simp; omega) _ rfl ?_; intro g' cap' w1 hown' hgrow hat hlt')))
      have HO := ownV_more (m := [hexd (n / 2 ^ (4 * j) % 16)]) hown hbel hsz hown' hgrow
      clear hown hbel hsz hown' hgrow hat hlt'
      go_roundw
      case rel => exact ⟨j, cur ++ [hexd (n / 2 ^ (4 * j) % 16)], by omega, by go_num, HO, hcur'.out, by simp; omega⟩
      case measure => simp [intOf]
end

/-
  The command g: registers, told.
-/
section
theorem Hid.mk' {p : Prop} (h : p) : Hid p := h

/-- The first k of the registers' bytes, told. -/
def regPre (s : PC) (k : Nat) : List UInt8 := ([s.ba, s.bx, s.b_y, s.bs, s.bp].take k).flatMap fun n => hexN n.toNat 2
def regText (s : PC) : List UInt8 := regPre s 5 ++ hexN s.bpc.toNat 4 ++ hexN s.cyc.toNat 8

theorem regPre_len (s : PC) (k : Nat) (hk : k ≤ 5) : (regPre s k).length = 2 * k := by
  unfold regPre
  rcases (show k = 0 ∨ k = 1 ∨ k = 2 ∨ k = 3 ∨ k = 4 ∨ k = 5 from by omega) with rfl | rfl | rfl | rfl | rfl | rfl <;> simp [hexN_len]
theorem regText_len (s : PC) : (regText s).length = 22 := by
  unfold regText; simp [regPre_len, hexN_len]
theorem regPre_0 (s : PC) : regPre s 0 ++ hexN s.ba.toNat 2 = regPre s 1 := by simp [regPre]
theorem regPre_1 (s : PC) : regPre s 1 ++ hexN s.bx.toNat 2 = regPre s 2 := by simp [regPre]
theorem regPre_2 (s : PC) : regPre s 2 ++ hexN s.b_y.toNat 2 = regPre s 3 := by simp [regPre]
theorem regPre_3 (s : PC) : regPre s 3 ++ hexN s.bs.toNat 2 = regPre s 4 := by simp [regPre]
theorem regPre_4 (s : PC) : regPre s 4 ++ hexN s.bp.toNat 2 = regPre s 5 := by simp [regPre]

theorem appendHexI (base : Nat) (v : Value) (l : List UInt8) (n : Int) (count : Nat) (w0 w : World) (hv : OwnV base w0 w v l) (hl : l.length ≤ 1000) (h0 : 0 ≤ n) (hn : n < 9223372036854775808) (hc : count ≤ 16) :
    Calls Tryz.prog 84 #[v, .int .i64 n, .int .i64 count] w fun e w' => ∃ v', e = .returned v' ∧ OwnV base w0 w' v' (l ++ hexN n.toNat count) := by
  obtain ⟨m, rfl⟩ := Int.eq_ofNat_of_zero_le h0
  exact appendHexV base v l m count w0 w hv hl (by omega) hc

theorem idx5_0 (a b c d e : Int) (k : Nat) (hk : k = 0) (w : World) : Sem.run Tryz.prog (Instr.index 255 (.agg #[.int .i64 a, .int .i64 b, .int .i64 c, .int .i64 d, .int .i64 e]) (.int .i64 (k : Int))) w = .ok (.int .i64 a) w := by subst hk; kernel_rfl
theorem idx5_1 (a b c d e : Int) (k : Nat) (hk : k = 1) (w : World) : Sem.run Tryz.prog (Instr.index 255 (.agg #[.int .i64 a, .int .i64 b, .int .i64 c, .int .i64 d, .int .i64 e]) (.int .i64 (k : Int))) w = .ok (.int .i64 b) w := by subst hk; kernel_rfl
theorem idx5_2 (a b c d e : Int) (k : Nat) (hk : k = 2) (w : World) : Sem.run Tryz.prog (Instr.index 255 (.agg #[.int .i64 a, .int .i64 b, .int .i64 c, .int .i64 d, .int .i64 e]) (.int .i64 (k : Int))) w = .ok (.int .i64 c) w := by subst hk; kernel_rfl
theorem idx5_3 (a b c d e : Int) (k : Nat) (hk : k = 3) (w : World) : Sem.run Tryz.prog (Instr.index 255 (.agg #[.int .i64 a, .int .i64 b, .int .i64 c, .int .i64 d, .int .i64 e]) (.int .i64 (k : Int))) w = .ok (.int .i64 d) w := by subst hk; kernel_rfl
theorem idx5_4 (a b c d e : Int) (k : Nat) (hk : k = 4) (w : World) : Sem.run Tryz.prog (Instr.index 255 (.agg #[.int .i64 a, .int .i64 b, .int .i64 c, .int .i64 d, .int .i64 e]) (.int .i64 (k : Int))) w = .ok (.int .i64 e) w := by subst hk; kernel_rfl

/-- The world at the head of the loop: the registers lie at C. -/
structure AtR (w W : World) (C : Nat) (s : PC) : Prop where
  b : Below w.heap.size w W
  c5 : W.cell? ⟨C, 5, none⟩ = some (.int .i64 s.bpc)
  c6 : W.cell? ⟨C, 6, none⟩ = some (.int .i64 s.cyc)

set_option maxRecDepth 100000 in
set_option maxHeartbeats 2000000 in
theorem tellRegs_any {B : Nat} {s : PC} {w0 w : World} (h : Tn B s w0 w) (hcy : 0 ≤ s.cyc) :
    Calls Tryz.prog 137 #[.pointer (some ⟨B, 0, none⟩)] w fun e w' => e = .returned (.string ⟨(regText s).toArray⟩) ∧ Below w.heap.size w w' := by
  have R := regs_any h
  obtain ⟨a0, a1⟩ := h.c.rba
  obtain ⟨x0, x1⟩ := h.c.rbx
  obtain ⟨y0, y1⟩ := h.c.rb_y
  obtain ⟨s0, s1⟩ := h.c.rbs
  obtain ⟨p0, p1⟩ := h.c.rbp
  obtain ⟨q0, q1⟩ := h.c.rbpc
  obtain ⟨-, k1⟩ := h.c.rcyc
  have hv : s.regs.val = .agg #[.int .i64 s.ba, .int .i64 s.bx, .int .i64 s.b_y, .int .i64 s.bs, .int .i64 s.bp, .int .i64 s.bpc, .int .i64 s.cyc, .bool (s.st == 5)] := rfl
  rw [hv] at R
  clear h hv
  go_enter Tryz.func137, Tryz.ntmps137
  go_wp2_with (first | (go_at_call 36; refine R.mono ?_; rintro e w1 ⟨rfl, hb⟩; have HB : Hid (Below w.heap.size w w1) := hb; clear hb R))
  go_loopw [4, 22] (fun v i wr => ∃ (k : Nat) (W : World), k ≤ 5 ∧ i = .int .i64 k ∧ AtR w W w1.heap.size s ∧ OwnV W.heap.size W wr v (regPre s k)) (fun _ i _ => 5 - (intOf i).toNat)
  case atStart => exact ⟨0, _, by omega, rfl, ⟨HB.out.alloc HB.out.size _, World.cell?_alloc_at _ _ _ _ rfl, World.cell?_alloc_at _ _ _ _ rfl⟩, ⟨World.ownsRow_nil _ _ _ _, Below.refl _ _, Nat.le_refl _⟩⟩
  case round =>
    obtain ⟨k, W, hk, rfl, hR, hO⟩ := hrel
    have HR : Hid (AtR w W w1.heap.size s) := hR
    have HO : Hid (OwnV W.heap.size W wr u4 (regPre s k)) := hO
    clear hR hO
    rcases (show k = 0 ∨ k = 1 ∨ k = 2 ∨ k = 3 ∨ k = 4 ∨ k = 5 from by omega) with e | e | e | e | e | e
    · have hk5 : k < 5 := by omega
      have hix := fun w => idx5_0 s.ba s.bx s.b_y s.bs s.bp k e w
      have HE : Hid (k = 0) := e
      clear e hk
      go_wp2_with (first | (go_at_call 84; refine (appendHexI _ _ _ _ 2 _ _ HO.out (by rw [regPre_len _ _ (by have := HE.out; omega)]; have := HE.out; omega) a0 (by omega) (by omega)).mono ?_; rintro e w2 ⟨v2, rfl, O2⟩; rw [HE.out, regPre_0] at O2; have HO2 := Hid.mk' O2; clear O2 HO))
      go_roundw
      case rel => exact ⟨k + 1, W, by have := HE.out; omega, by go_num, HR.out, by rw [HE.out]; exact HO2.out⟩
      case measure => have := HE.out; simp [intOf]; omega
    · have hk5 : k < 5 := by omega
      have hix := fun w => idx5_1 s.ba s.bx s.b_y s.bs s.bp k e w
      have HE : Hid (k = 1) := e
      clear e hk
      go_wp2_with (first | (go_at_call 84; refine (appendHexI _ _ _ _ 2 _ _ HO.out (by rw [regPre_len _ _ (by have := HE.out; omega)]; have := HE.out; omega) x0 (by omega) (by omega)).mono ?_; rintro e w2 ⟨v2, rfl, O2⟩; rw [HE.out, regPre_1] at O2; have HO2 := Hid.mk' O2; clear O2 HO))
      go_roundw
      case rel => exact ⟨k + 1, W, by have := HE.out; omega, by go_num, HR.out, by rw [HE.out]; exact HO2.out⟩
      case measure => have := HE.out; simp [intOf]; omega
    · have hk5 : k < 5 := by omega
      have hix := fun w => idx5_2 s.ba s.bx s.b_y s.bs s.bp k e w
      have HE : Hid (k = 2) := e
      clear e hk
      go_wp2_with (first | (go_at_call 84; refine (appendHexI _ _ _ _ 2 _ _ HO.out (by rw [regPre_len _ _ (by have := HE.out; omega)]; have := HE.out; omega) y0 (by omega) (by omega)).mono ?_; rintro e w2 ⟨v2, rfl, O2⟩; rw [HE.out, regPre_2] at O2; have HO2 := Hid.mk' O2; clear O2 HO))
      go_roundw
      case rel => exact ⟨k + 1, W, by have := HE.out; omega, by go_num, HR.out, by rw [HE.out]; exact HO2.out⟩
      case measure => have := HE.out; simp [intOf]; omega
    · have hk5 : k < 5 := by omega
      have hix := fun w => idx5_3 s.ba s.bx s.b_y s.bs s.bp k e w
      have HE : Hid (k = 3) := e
      clear e hk
      go_wp2_with (first | (go_at_call 84; refine (appendHexI _ _ _ _ 2 _ _ HO.out (by rw [regPre_len _ _ (by have := HE.out; omega)]; have := HE.out; omega) s0 (by omega) (by omega)).mono ?_; rintro e w2 ⟨v2, rfl, O2⟩; rw [HE.out, regPre_3] at O2; have HO2 := Hid.mk' O2; clear O2 HO))
      go_roundw
      case rel => exact ⟨k + 1, W, by have := HE.out; omega, by go_num, HR.out, by rw [HE.out]; exact HO2.out⟩
      case measure => have := HE.out; simp [intOf]; omega
    · have hk5 : k < 5 := by omega
      have hix := fun w => idx5_4 s.ba s.bx s.b_y s.bs s.bp k e w
      have HE : Hid (k = 4) := e
      clear e hk
      go_wp2_with (first | (go_at_call 84; refine (appendHexI _ _ _ _ 2 _ _ HO.out (by rw [regPre_len _ _ (by have := HE.out; omega)]; have := HE.out; omega) p0 (by omega) (by omega)).mono ?_; rintro e w2 ⟨v2, rfl, O2⟩; rw [HE.out, regPre_4] at O2; have HO2 := Hid.mk' O2; clear O2 HO))
      go_roundw
      case rel => exact ⟨k + 1, W, by have := HE.out; omega, by go_num, HR.out, by rw [HE.out]; exact HO2.out⟩
      case measure => have := HE.out; simp [intOf]; omega
    · have hki : (k : Int) = 5 := by omega
      rw [e] at HO
      clear e hk
      have c5 := (HO.out.2.1.cell (p := ⟨w1.heap.size, 5, none⟩) (lt_of_cell (by rw [HR.out.c5]; simp))).trans HR.out.c5
      have c6 := (HO.out.2.1.cell (p := ⟨w1.heap.size, 6, none⟩) (lt_of_cell (by rw [HR.out.c6]; simp))).trans HR.out.c6
      go_wp2_with fail
      refine (appendHexI _ _ _ _ 4 _ _ HO.out (by rw [regPre_len _ _ (by omega)]; omega) q0 (by omega) (by omega)).mono ?_
      rintro e w2 ⟨v2, rfl, O2⟩
      have c6 := (O2.2.1.cell (p := ⟨w1.heap.size, 6, none⟩) (lt_of_cell (by rw [HR.out.c6]; simp))).trans HR.out.c6
      have HO2 := Hid.mk' O2
      clear O2 HO c5
      go_wp2_with fail
      refine (appendHexI _ _ _ _ 8 _ _ HO2.out (by rw [List.length_append, regPre_len _ _ (by omega), hexN_len]; omega) hcy (by omega) (by omega)).mono ?_
      rintro e w3 ⟨v3, rfl, O3⟩
      obtain ⟨g, cap, rfl, o1, o2, o3⟩ := O3.form (by simp [regPre_len, hexN_len])
      have hcv := to_string o1
      have HF : Hid (Below w.heap.size w w3) := HR.out.b.trans (o2.mono (HR.out.b.size))
      have HT : Hid (regPre s 5 ++ hexN s.bpc.toNat 4 ++ hexN s.cyc.toNat 8 = regText s) := rfl
      rw [HT.out] at hcv
      rw [HT.out]
      clear O3 o1 o2 o3 HO2
      go_wp2
      go_ret
      exact ⟨rfl, HF.out⟩
end

end Go.Proofs.YtcgjliflnnklnaaGreat
