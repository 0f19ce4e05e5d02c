/-
  hex.Append: so many digits of a number, behind what is there.
-/
import Derived.Test.YtcgjliflnnklnaaGreatScan
import Derived.Deep.AppendLies
import Derived.Deep.RegionLaw
import Derived.Deep.RegionHeld3
namespace Go.Proofs.YtcgjliflnnklnaaGreat
open Go.RowKit

def vals (l : List UInt8) : List Value := l.map fun c => Value.int .u8 (c.toNat : Int)

theorem inf_u8 : (Tryz.prog.info? 5).map (fun i => (i.zero, i.size, i.bytes)) = some (some (.int .u8 0), 1, 1) := by kernel_rfl

def digits : List UInt8 := [48, 49, 50, 51, 52, 53, 54, 55, 56, 57, 97, 98, 99, 100, 101, 102]
def hexd (n : Nat) : UInt8 := digits.getD n 0
def hex2 (b : UInt8) : List UInt8 := [hexd (b.toNat / 16), hexd (b.toNat % 16)]

theorem and15 (b : UInt8) : bits .and .u8 (b.toNat : Int) 15 = ((b.toNat % 16 : Nat) : Int) := by
  rw [show (15 : Int) = ((15 : Nat) : Int) from rfl, u8_and_nat _ _ (UInt8.toNat_lt _) (by omega)]
  congr 1; exact Nat.and_two_pow_sub_one_eq_mod b.toNat 4

theorem und_bytes : Tryz.prog.underlying 35 = some (.slice 5) := by kernel_rfl

theorem dig_get (n : Nat) (h : n < 16) : (({ data := #[48, 49, 50, 51, 52, 53, 54, 55, 56, 57, 97, 98, 99, 100, 101, 102] } : ByteArray)[n]'h) = hexd n := by
  have : ∀ n : Fin 16, (({ data := #[48, 49, 50, 51, 52, 53, 54, 55, 56, 57, 97, 98, 99, 100, 101, 102] } : ByteArray)[n.1]'n.2) = hexd n.1 := by decide +kernel
  exact this ⟨n, h⟩

theorem two_one (m n : Int) : ∀ u ∈ [Value.int .u8 m, Value.int .u8 n], u.oneCell' = true := by
  intro u hu; simp at hu; rcases hu with rfl | rfl <;> rfl

theorem vals_append (a b : List UInt8) : vals (a ++ b) = vals a ++ vals b := by simp [vals]
theorem vals_length (a : List UInt8) : (vals a).length = a.length := by simp [vals]

theorem two_new' (w : World) (x y : Value) (t : TypeId) :
    ∀ j u, [x, y][j]? = some u → (w.alloc (.cells #[x, y] t)).cell? ((⟨w.heap.size, 0, none⟩ : Addr).add j) = some u :=
  World.news_of_block (w := w.alloc (.cells #[x, y] t)) (cs := #[x, y]) (t := t) (fr := (0, 0)) (heap_alloc_new w _)
theorem one_new' (w : World) (x : Value) (t : TypeId) :
    ∀ j u, [x][j]? = some u → (w.alloc (.cells #[x] t)).cell? ((⟨w.heap.size, 0, none⟩ : Addr).add j) = some u :=
  World.news_of_block (w := w.alloc (.cells #[x] t)) (cs := #[x]) (t := t) (fr := (0, 0)) (heap_alloc_new w _)
theorem one_new2 (w : World) (x y : Value) (h : x = y) (t : TypeId) :
    ∀ j u, [y][j]? = some u → (w.alloc (.cells #[x] t)).cell? ((⟨w.heap.size, 0, none⟩ : Addr).add j) = some u := by
  subst h; exact one_new' w x t
theorem one_one (m : Int) : ∀ u ∈ [Value.int .u8 m], u.oneCell' = true := by
  intro u hu; simp at hu; subst hu; rfl

/-- A slice of bytes that the call itself has made. -/
def Owns (base : Nat) (w0 w : World) (v : Value) (l : List UInt8) : Prop :=
  ∃ g cap, v = .slice (some ⟨g, 0, none⟩) l.length cap ∧ w.ownsRow base 5 1 v l.length (vals l) ∧ Below base w0 w ∧ base ≤ w.heap.size

theorem owns_more {base : Nat} {w0 w w1 : World} {v : Value} {l m : List UInt8} {o : Obj} {g' cap' : Nat} (hown : w.ownsRow base 5 1 v l.length (vals l)) (hb : Below base w0 w) (hs : base ≤ w.heap.size)
    (h : w1.ownsRow base 5 1 (.slice (some ⟨g', 0, none⟩) (l.length + m.length) cap') (l.length + m.length) (vals l ++ vals m)) (hg : (w.alloc o).grownBy w1 v.ownBlock) : Owns base w0 w1 (.slice (some ⟨g', 0, none⟩) (l.length + m.length) cap') (l ++ m) := by
  refine ⟨g', cap', by simp, by rw [List.length_append, vals_append]; exact h, ?_, ?_⟩
  · exact (hb.alloc hs _).grown hg (by simp; omega) (fun k e => (hown.lt k e).1)
  · have := hg.size; simp at this; omega

theorem wrap_i64_nat (a : Nat) (h : a < 9223372036854775808) : IntKind.i64.wrap (a : Int) = a := by
  simp only [IntKind.wrap, IntKind.bits, IntKind.signed]; simp; omega
theorem andi_nat (a b : Nat) (ha : a < 9223372036854775808) (hb : b < 9223372036854775808) : bits .and .i64 (a : Int) (b : Int) = ((a &&& b : Nat) : Int) := by
  have hx : a &&& b < 2 ^ 63 := Nat.and_lt_two_pow _ (by omega)
  show IntKind.i64.wrap ((BitVec.ofInt 64 (a : Int) &&& BitVec.ofInt 64 (b : Int)).toNat : Int) = _
  rw [BitVec.toNat_and, ofInt_u64 a (by omega), ofInt_u64 b (by omega), wrap_i64_nat _ (by omega)]
theorem and15i (a : Nat) (ha : a < 9223372036854775808) : bits .and .i64 (a : Int) 15 = ((a % 16 : Nat) : Int) := by
  rw [show (15 : Int) = ((15 : Nat) : Int) from rfl, andi_nat _ _ ha (by omega)]
  congr 1; exact Nat.and_two_pow_sub_one_eq_mod a 4

/-- The lowest k digits of a number. -/
def hexN (n : Nat) : Nat → List UInt8
  | 0 => []
  | k + 1 => hexd (n / 2 ^ (4 * k) % 16) :: hexN n k
theorem hexN_len (n k : Nat) : (hexN n k).length = k := by
  induction k with
  | zero => rfl
  | succ k ih => simp [hexN, ih]
theorem hexN_two (b : UInt8) : hexN b.toNat 2 = hex2 b := by
  have := b.toNat_lt
  simp only [hexN, hex2]
  rw [show b.toNat / 2 ^ (4 * 1) % 16 = b.toNat / 16 from by omega, show b.toNat / 2 ^ (4 * 0) % 16 = b.toNat % 16 from by omega]

theorem dig_n (n k : Nat) (hn : n < 9223372036854775808) : bits .and .i64 ((n : Int) / 2 ^ (4 * k)) 15 = ((n / 2 ^ (4 * k) % 16 : Nat) : Int) := by
  have e : (n : Int) / 2 ^ (4 * k) = ((n / 2 ^ (4 * k) : Nat) : Int) := by simp
  rw [e, and15i _ (Nat.lt_of_le_of_lt (Nat.div_le_self _ _) hn)]

theorem dig_v (m : Int) (n : Nat) (hm : m = (n : Int)) (h : m.toNat < 16) : Value.int .u8 ((({ data := #[48, 49, 50, 51, 52, 53, 54, 55, 56, 57, 97, 98, 99, 100, 101, 102] } : ByteArray)[m.toNat]'h).toNat : Int) = .int .u8 ((hexd n).toNat : Int) := by
  subst hm
  rw [dig_get _ h, Int.toNat_natCast]

set_option maxRecDepth 100000 in
set_option maxHeartbeats 1000000 in
theorem appendHex_owns (base : Nat) (v : Value) (l : List UInt8) (n count : Nat) (w0 w : World) (hv : Owns base w0 w v l) (hl : l.length ≤ 1000) (hn : n < 9223372036854775808) (hc : count ≤ 16) :
    Calls Tryz.prog 84 #[v, .int .i64 n, .int .i64 count] w fun e w' => ∃ v', e = .returned v' ∧ Owns base w0 w' v' (l ++ hexN n count) := by
  obtain ⟨i0, hi, hz0, hz1, hz2⟩ := info_parts inf_u8
  have HO : Hid (Owns base w0 w v l) := hv
  clear hv
  go_enter Tryz.func84, Tryz.ntmps84
  go_wp2
  go_loopw [0, 7] (fun t i wr => ∃ (k : Nat) (cur : List UInt8), k ≤ count ∧ i = .int .i64 ((k : Int) - 1) ∧ Owns base w0 wr t cur ∧ cur ++ hexN n k = l ++ hexN n count ∧ cur.length ≤ 1016 - k) (fun _ i _ => (intOf i + 1).toNat)
  case atStart => exact ⟨count, l, Nat.le_refl _, by go_num, HO.out, rfl, by omega⟩
  case round =>
    obtain ⟨k, cur, hk, rfl, hO, hcur, hcl⟩ := hrel
    clear HO
    obtain ⟨g1, cap1, rfl, hown, hbel, hsz⟩ := hO
    cases k with
    | zero =>
      have HF : Hid (Owns base w0 wr (.slice (some ⟨g1, 0, none⟩) cur.length cap1) (l ++ hexN n count)) := by
        have e : cur = l ++ hexN n count := by rw [← hcur]; simp [hexN]
        subst e; exact ⟨g1, cap1, rfl, hown, hbel, hsz⟩
      clear hown hbel hsz hcur
      go_wp2
      go_ret
      exact ⟨_, rfl, HF.out⟩
    | succ j =>
      have hcur' : Hid ((cur ++ [hexd (n / 2 ^ (4 * j) % 16)]) ++ hexN n j = l ++ hexN n count) := by show _ = _; rw [← hcur]; simp [hexN]
      clear hcur
      have ej : ((j + 1 : Nat) : Int) - 1 = (j : Int) := by omega
      rw [ej]
      have HD : Hid (bits .and .i64 ((n : Int) / 2 ^ (4 * j)) 15 = ((n / 2 ^ (4 * j) % 16 : Nat) : Int)) := dig_n n j hn
      have a0 : 0 ≤ bits .and .i64 ((n : Int) / 2 ^ (4 * j)) 15 := by rw [HD.out]; omega
      have a1 : bits .and .i64 ((n : Int) / 2 ^ (4 * j)) 15 < 16 := by rw [HD.out]; omega
      go_wp2_with (first | (at_builtin; go_must (refine wpList_append_lies _ rfl (.tmp 14) (.tmp 21) 35 rfl base 5 i0 (.int .u8 0) 1 1 und_bytes hi hz0 hz1 hz2 rfl (by decide) (.slice (some ⟨g1, 0, none⟩) cur.length cap1) cur.length (vals cur) rfl (by exact (hown.alloc _)) ⟨wr.heap.size, 0, none⟩ 1 1 [.int .u8 (hexd (n / 2 ^ (4 * j) % 16)).toNat] rfl rfl (one_new2 _ _ _ (dig_v _ _ HD.out _) _) (one_one _) (by decide) (by unfold maxLen; omega) (by omega) (by simp; omega) _ rfl ?_; intro g' cap' w1 hown' hgrow hat hlt')))
      have HO := owns_more (m := [hexd (n / 2 ^ (4 * j) % 16)]) hown hbel hsz hown' hgrow
      clear hown hbel hsz hown' hgrow hat hlt'
      go_roundw
      case rel => exact ⟨j, cur ++ [hexd (n / 2 ^ (4 * j) % 16)], by omega, by go_num, HO, hcur'.out, by simp; omega⟩
      case measure => simp [intOf]

end Go.Proofs.YtcgjliflnnklnaaGreat
