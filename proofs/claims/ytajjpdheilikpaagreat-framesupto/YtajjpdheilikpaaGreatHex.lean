/-
  appendHex.
-/
import Derived.Test.YtajjpdheilikpaaGreatScan
import Derived.Deep.AppendLies
import Derived.Deep.RegionLaw
import Derived.Deep.RegionHeld3
namespace Go.Proofs.YtajjpdheilikpaaGreat
open Go.RowKit

def vals (l : List UInt8) : List Value := l.map fun c => Value.int .u8 (c.toNat : Int)

theorem inf_u8 : (Tryz.prog.info? 5).map (fun i => (i.zero, i.size, i.bytes)) = some (some (.int .u8 0), 1, 1) := by kernel_rfl

def digits : List UInt8 := [48, 49, 50, 51, 52, 53, 54, 55, 56, 57, 97, 98, 99, 100, 101, 102]
def hexd (n : Nat) : UInt8 := digits.getD n 0
def hex2 (b : UInt8) : List UInt8 := [hexd (b.toNat / 16), hexd (b.toNat % 16)]

theorem and15 (b : UInt8) : bits .and .u8 (b.toNat : Int) 15 = ((b.toNat % 16 : Nat) : Int) := by
  rw [show (15 : Int) = ((15 : Nat) : Int) from rfl, u8_and_nat _ _ (UInt8.toNat_lt _) (by omega)]
  congr 1; exact Nat.and_two_pow_sub_one_eq_mod b.toNat 4

theorem und_bytes : Tryz.prog.underlying 64 = some (.slice 5) := by kernel_rfl

theorem dig_get (n : Nat) (h : n < 16) : (({ data := #[48, 49, 50, 51, 52, 53, 54, 55, 56, 57, 97, 98, 99, 100, 101, 102] } : ByteArray)[n]'h) = hexd n := by
  have : ∀ n : Fin 16, (({ data := #[48, 49, 50, 51, 52, 53, 54, 55, 56, 57, 97, 98, 99, 100, 101, 102] } : ByteArray)[n.1]'n.2) = hexd n.1 := by decide +kernel
  exact this ⟨n, h⟩

theorem dig_hi (b : UInt8) (h : ((b.toNat : Int) / 16).toNat < 16) : Value.int .u8 ((({ data := #[48, 49, 50, 51, 52, 53, 54, 55, 56, 57, 97, 98, 99, 100, 101, 102] } : ByteArray)[((b.toNat : Int) / 16).toNat]'h).toNat : Int) = .int .u8 ((hexd (b.toNat / 16)).toNat : Int) := by
  rw [dig_get _ h, show ((b.toNat : Int) / 16).toNat = b.toNat / 16 from by omega]

theorem dig_lo (b : UInt8) (h : (bits .and .u8 (b.toNat : Int) 15).toNat < 16) : Value.int .u8 ((({ data := #[48, 49, 50, 51, 52, 53, 54, 55, 56, 57, 97, 98, 99, 100, 101, 102] } : ByteArray)[(bits .and .u8 (b.toNat : Int) 15).toNat]'h).toNat : Int) = .int .u8 ((hexd (b.toNat % 16)).toNat : Int) := by
  rw [dig_get _ h, and15, Int.toNat_natCast]

theorem two_new (w : World) (x y x' y' : Value) (hx : x = x') (hy : y = y') (t : TypeId) :
    ∀ j u, [x', y'][j]? = some u → ((w.alloc (.cells #[x, y] t)).drew).cell? ((⟨w.heap.size, 0, none⟩ : Addr).add j) = some u := by
  subst hx hy
  exact World.news_of_block (w := (w.alloc (.cells #[x, y] t)).drew) (cs := #[x, y]) (t := t) (fr := (0, 0)) (heap_alloc_new w _)

theorem two_one (m n : Int) : ∀ u ∈ [Value.int .u8 m, Value.int .u8 n], u.oneCell' = true := by
  intro u hu; simp at hu; rcases hu with rfl | rfl <;> rfl

set_option maxRecDepth 100000 in
set_option maxHeartbeats 400000 in
theorem appendHex_any (base g cap : Nat) (l : List UInt8) (b : UInt8) (w : World) (hown : w.ownsRow base 5 1 (.slice (some ⟨g, 0, none⟩) l.length cap) l.length (vals l)) (hl : l.length ≤ 1000) (hb : base ≤ w.heap.size) :
    Calls Tryz.prog 76 #[.slice (some ⟨g, 0, none⟩) l.length cap, .int .u8 b.toNat] w fun e w' => ∃ g' cap', e = .returned (.slice (some ⟨g', 0, none⟩) (l.length + 2) cap') ∧
      w'.ownsRow base 5 1 (.slice (some ⟨g', 0, none⟩) (l.length + 2) cap') (l.length + 2) (vals (l ++ hex2 b)) ∧ Below base w w' := by
  have hc : (b.toNat : Int) < 256 := by have := b.toNat_lt; omega
  have h16 : (b.toNat : Int) / 16 < 16 := by omega
  have h0 : 0 ≤ (b.toNat : Int) / 16 := by omega
  have a0 : 0 ≤ bits .and .u8 (b.toNat : Int) 15 := by rw [and15]; omega
  have a1 : bits .and .u8 (b.toNat : Int) 15 < 16 := by rw [and15]; omega
  obtain ⟨i0, hi, hz0, hz1, hz2⟩ := info_parts inf_u8
  go_enter Tryz.func76, Tryz.ntmps76
  go_wp2
  go_region_held3 (fun _ => True) (trivial) (first | (refine step_append_lies _ rfl (.tmp 5) (.tmp 12) 64 rfl base 5 i0 (.int .u8 0) 1 1 und_bytes hi hz0 hz1 hz2 rfl (by decide) (.slice (some ⟨g, 0, none⟩) l.length cap) l.length (vals l) rfl (by exact (hown.alloc _).drew) ⟨w.heap.size, 0, none⟩ 2 2 [.int .u8 (hexd (b.toNat / 16)).toNat, .int .u8 (hexd (b.toNat % 16)).toNat] rfl rfl ?_ ?_ (by decide) (by unfold maxLen; omega) (by omega) (by simp; omega) _ rfl ?_; exact two_new w _ _ _ _ (dig_hi b _) (dig_lo b _) _; exact two_one _ _; intro g' cap' w1 hown' hgrow hat hlt))
  all_goals
    go_wp2
    go_ret
    refine ⟨g', cap', rfl, ?_, ?_⟩
    · rw [show vals (l ++ hex2 b) = vals l ++ [.int .u8 (hexd (b.toNat / 16)).toNat, .int .u8 (hexd (b.toNat % 16)).toNat] from by simp [vals, hex2]]; exact hown'
    · exact (((Below.refl _ _).alloc hb _).drew).grown hgrow (by simp; omega) (fun k e => (hown.lt k e).1)

end Go.Proofs.YtajjpdheilikpaaGreat
