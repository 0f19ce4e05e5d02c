/-
  The tables of method expressions, walked.
-/
import Derived.Test.YtcgjliflnnklnaaGreatCpIz
import Derived.Deep.MidRow
namespace Go.Proofs.YtcgjliflnnklnaaGreat
open Go.RowKit
set_option maxRecDepth 100000
set_option maxHeartbeats 1000000

def mtab : List Value := [.nilFunc, .func (.func 111) #[] #[], .func (.func 112) #[] #[], .func (.func 113) #[] #[], .func (.func 114) #[] #[], .func (.func 115) #[] #[], .func (.func 116) #[] #[], .func (.func 117) #[] #[], .func (.func 118) #[] #[], .func (.func 119) #[] #[], .func (.func 120) #[] #[], .func (.func 121) #[] #[], .func (.func 122) #[] #[], .func (.func 123) #[] #[], .func (.func 124) #[] #[], .func (.func 125) #[] #[], .func (.func 126) #[] #[], .func (.func 127) #[] #[], .func (.func 128) #[] #[], .func (.func 129) #[] #[], .func (.func 130) #[] #[], .func (.func 131) #[] #[], .func (.func 132) #[] #[]]
def itab : List Value := [.func (.func 215) #[] #[], .func (.func 216) #[] #[], .func (.func 217) #[] #[], .func (.func 218) #[] #[], .func (.func 219) #[] #[], .func (.func 220) #[] #[], .func (.func 221) #[] #[], .func (.func 222) #[] #[], .func (.func 223) #[] #[], .func (.func 224) #[] #[], .func (.func 225) #[] #[], .func (.func 226) #[] #[], .func (.func 227) #[] #[], .func (.func 228) #[] #[], .func (.func 229) #[] #[], .func (.func 230) #[] #[], .func (.func 231) #[] #[], .func (.func 232) #[] #[], .func (.func 233) #[] #[], .func (.func 234) #[] #[], .func (.func 235) #[] #[], .func (.func 236) #[] #[], .func (.func 237) #[] #[], .func (.func 238) #[] #[], .func (.func 239) #[] #[], .func (.func 240) #[] #[], .func (.func 241) #[] #[], .func (.func 242) #[] #[], .func (.func 243) #[] #[], .func (.func 244) #[] #[], .func (.func 245) #[] #[], .func (.func 246) #[] #[], .func (.func 247) #[] #[], .func (.func 248) #[] #[], .func (.func 249) #[] #[], .func (.func 250) #[] #[], .func (.func 251) #[] #[], .func (.func 252) #[] #[], .func (.func 253) #[] #[], .func (.func 254) #[] #[], .func (.func 255) #[] #[], .func (.func 256) #[] #[], .func (.func 257) #[] #[], .func (.func 258) #[] #[], .func (.func 259) #[] #[], .func (.func 260) #[] #[], .func (.func 261) #[] #[], .func (.func 262) #[] #[], .func (.func 263) #[] #[], .func (.func 264) #[] #[], .func (.func 265) #[] #[], .func (.func 266) #[] #[], .func (.func 267) #[] #[], .func (.func 268) #[] #[], .func (.func 269) #[] #[], .func (.func 270) #[] #[]]

theorem cp_cells {B b : Nat} {a : World} (hb : B ≤ b) : ∀ (vs : List Value) (o : Nat) (w : World), Below B a w → Below B a (w.setCells b o vs)
  | [], _, _, h => h
  | v :: vs, o, _, h => cp_cells hb vs (o + 1) _ (h.setCell hb v)

theorem mtab_one : mtab.toArray.all (·.oneCell') = true := all_oneCell_toArray (by decide)
theorem itab_one : itab.toArray.all (·.oneCell') = true := all_oneCell_toArray (by decide)

/-- A row of cells laid at once into a block that is new. -/
theorem laid_new (w : World) (z : Array Value) (t : TypeId) (cs : List Value) (hz : z.size = cs.length) :
    (w.alloc (.cells z t)).there w.heap.size 0 cs.length ∧ ((w.alloc (.cells z t)).setCells w.heap.size 0 cs).rangeAt w.heap.size 0 cs ∧ Below w.heap.size w ((w.alloc (.cells z t)).setCells w.heap.size 0 cs) := by
  have h1 : (w.alloc (.cells z t)).there w.heap.size 0 cs.length := by
    intro j hj
    have hb : (w.alloc (.cells z t)).heap[w.heap.size]? = some (.cells z t (0, 0)) := heap_alloc_new w _
    constructor
    · rw [Nat.zero_add, cell_of_row _ _ _ _ _ _ hb]; simp [hz, hj]
    · unfold World.frozen?; rw [hb]; simp
  refine ⟨h1, World.rangeAt_setCells_same _ _ _ _ h1, cp_cells (Nat.le_refl _) _ _ _ ((Below.refl _ _).alloc (Nat.le_refl _) _)⟩

theorem laid_there (w : World) (z : Array Value) (t : TypeId) (cs : List Value) (hz : z.size = cs.length) : (w.alloc (.cells z t)).there w.heap.size 0 cs.toArray.size := by
  rw [List.size_toArray]; exact (laid_new w z t cs hz).1

theorem wpList_fresh {P : Program} {ops : Array Oper} {rest : List Oper} {op : Oper} {a : Go.Act} {w : World} {Q : Exit → Go.Act → World → Prop} (hgd : op.guard = none) (ty : TypeId) (x y : Operand) (ho : op.op = .store ty x y)
    (z : Array Value) (t : TypeId) (cs : List Value) (hx : a.eval x = .pointer (some ⟨w.heap.size, 0, none⟩)) (hy : a.eval y = .agg cs.toArray) (hz : z.size = cs.length)
    (hi : (P.info? ty).map (·.size) = some cs.toArray.size) (h1 : cs.toArray.all (·.oneCell') = true)
    (h : ∀ w2, w2.rangeAt w.heap.size 0 cs → Below w.heap.size w w2 → wpList P ops Q rest (a.put op.dst undef) w2) : wpList P ops Q (op :: rest) a (w.alloc (.cells z t)) :=
  wpList_store_mid hgd ty x y ho w.heap.size 0 cs.toArray hx hy (laid_there w z t cs hz) hi h1 (h _ (laid_new w z t cs hz).2.1 (laid_new w z t cs hz).2.2)

theorem mmeth_any (i : Nat) (hi : i < 23) (w : World) :
    Calls Tryz.prog 83 #[.int .u8 i] w fun e w' => e = .returned (mtab.getD i .nilFunc) ∧ Below w.heap.size w w' := by
  have hi' : (i : Int) < 23 := by omega
  have hg : Hid (mtab.getD i .nilFunc = mtab[i]'hi) := by show _ = _; exact (List.getElem_eq_getD _).symm
  generalize mtab.getD i .nilFunc = v at *
  go_enter Tryz.func83, Tryz.ntmps83
  go_wp2_with ((with_reducible refine wpList_fresh (op := ⟨none, .store _ (.tmp 3) (.tmp 4), _, _, _, none⟩) (w := w) rfl _ (.tmp 3) (.tmp 4) rfl _ _ mtab ?hx ?hy ?hz ?hi mtab_one ?h); (case hx => go_must (rfl)); (case hy => go_must (rfl)); (case hz => rfl); (case hi => go_must (kernel_rfl)); go_must (intro w2 hr hB; have hc : w2.cell? ⟨w.heap.size, i, none⟩ = some v := (by rw [hg.out]; have := hr i _ (List.getElem?_eq_getElem hi); rwa [Nat.zero_add] at this)))
  go_ret
  exact ⟨rfl, hB⟩

theorem imeth_any (i : Nat) (hi : i < 56) (w : World) :
    Calls Tryz.prog 205 #[.int .u8 i] w fun e w' => e = .returned (itab.getD i .nilFunc) ∧ Below w.heap.size w w' := by
  have hi' : (i : Int) < 56 := by omega
  have hg : Hid (itab.getD i .nilFunc = itab[i]'hi) := by show _ = _; exact (List.getElem_eq_getD _).symm
  generalize itab.getD i .nilFunc = v at *
  go_enter Tryz.func205, Tryz.ntmps205
  go_wp2_with ((with_reducible refine wpList_fresh (op := ⟨none, .store _ (.tmp 3) (.tmp 4), _, _, _, none⟩) (w := w) rfl _ (.tmp 3) (.tmp 4) rfl _ _ itab ?hx ?hy ?hz ?hi itab_one ?h); (case hx => go_must (rfl)); (case hy => go_must (rfl)); (case hz => rfl); (case hi => go_must (kernel_rfl)); go_must (intro w2 hr hB; have hc : w2.cell? ⟨w.heap.size, i, none⟩ = some v := (by rw [hg.out]; have := hr i _ (List.getElem?_eq_getElem hi); rwa [Nat.zero_add] at this)))
  go_ret
  exact ⟨rfl, hB⟩

end Go.Proofs.YtcgjliflnnklnaaGreat
