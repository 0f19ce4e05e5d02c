/-
  The tables of method expressions, walked.
-/
import Derived.Test.YtcgjliflnnklnabGreatCpI
import Derived.Deep.MidRow
namespace Go.Proofs.YtcgjliflnnklnabGreat
open Go.RowKit

def mtab : List Value := [.nilFunc, .func (.func 61) #[] #[], .func (.func 62) #[] #[], .func (.func 63) #[] #[], .func (.func 64) #[] #[], .func (.func 65) #[] #[], .func (.func 66) #[] #[], .func (.func 67) #[] #[], .func (.func 68) #[] #[], .func (.func 69) #[] #[], .func (.func 70) #[] #[], .func (.func 71) #[] #[], .func (.func 72) #[] #[], .func (.func 73) #[] #[], .func (.func 74) #[] #[], .func (.func 75) #[] #[], .func (.func 76) #[] #[], .func (.func 77) #[] #[], .func (.func 78) #[] #[], .func (.func 79) #[] #[], .func (.func 80) #[] #[], .func (.func 81) #[] #[], .func (.func 82) #[] #[]]
def itab : List Value := [.func (.func 128) #[] #[], .func (.func 129) #[] #[], .func (.func 130) #[] #[], .func (.func 131) #[] #[], .func (.func 132) #[] #[], .func (.func 133) #[] #[], .func (.func 134) #[] #[], .func (.func 135) #[] #[], .func (.func 136) #[] #[], .func (.func 137) #[] #[], .func (.func 138) #[] #[], .func (.func 139) #[] #[], .func (.func 140) #[] #[], .func (.func 141) #[] #[], .func (.func 142) #[] #[], .func (.func 143) #[] #[], .func (.func 144) #[] #[], .func (.func 145) #[] #[], .func (.func 146) #[] #[], .func (.func 147) #[] #[], .func (.func 148) #[] #[], .func (.func 149) #[] #[], .func (.func 150) #[] #[], .func (.func 151) #[] #[], .func (.func 152) #[] #[], .func (.func 153) #[] #[], .func (.func 154) #[] #[], .func (.func 155) #[] #[], .func (.func 156) #[] #[], .func (.func 157) #[] #[], .func (.func 158) #[] #[], .func (.func 159) #[] #[], .func (.func 160) #[] #[], .func (.func 161) #[] #[], .func (.func 162) #[] #[], .func (.func 163) #[] #[], .func (.func 164) #[] #[], .func (.func 165) #[] #[], .func (.func 166) #[] #[], .func (.func 167) #[] #[], .func (.func 168) #[] #[], .func (.func 169) #[] #[], .func (.func 170) #[] #[], .func (.func 171) #[] #[], .func (.func 172) #[] #[], .func (.func 173) #[] #[], .func (.func 174) #[] #[], .func (.func 175) #[] #[], .func (.func 176) #[] #[], .func (.func 177) #[] #[], .func (.func 178) #[] #[], .func (.func 179) #[] #[], .func (.func 180) #[] #[], .func (.func 181) #[] #[], .func (.func 182) #[] #[], .func (.func 183) #[] #[]]

theorem cp_cells {B b : Nat} {a : World} (hb : B ≤ b) : ∀ (vs : List Value) (o : Nat) (w : World), Below B a w → Below B a (w.setCells b o vs)
  | [], _, _, h => h
  | v :: vs, o, _, h => cp_cells hb vs (o + 1) _ (h.setCell hb v)

theorem mtab_one : mtab.toArray.all (·.oneCell') = true := all_oneCell_toArray (by decide)
theorem itab_one : itab.toArray.all (·.oneCell') = true := all_oneCell_toArray (by decide)

/-- A row of cells laid at once into a block that is new. -/
theorem laid_new (w : World) (z : Array Value) (t : TypeId) (cs : List Value) (hz : z.size = cs.length) :
    (w.alloc (.cells z t)).there w.heap.size 0 cs.length ∧ ((w.alloc (.cells z t)).setCells w.heap.size 0 cs).rangeAt w.heap.size 0 cs ∧ Below w.heap.size w ((w.alloc (.cells z t)).setCells w.heap.size 0 cs) := by
  have h1 : (w.alloc (.cells z t)).there w.heap.size 0 cs.length := by
    intro j hj
    have hb : (w.alloc (.cells z t)).heap[w.heap.size]? = some (.cells z t (0, 0)) := heap_alloc_new w _
    constructor
    · rw [Nat.zero_add, cell_of_row _ _ _ _ _ _ hb]; simp [hz, hj]
    · unfold World.frozen?; rw [hb]; simp
  refine ⟨h1, World.rangeAt_setCells_same _ _ _ _ h1, cp_cells (Nat.le_refl _) _ _ _ ((Below.refl _ _).alloc (Nat.le_refl _) _)⟩

theorem laid_there (w : World) (z : Array Value) (t : TypeId) (cs : List Value) (hz : z.size = cs.length) : (w.alloc (.cells z t)).there w.heap.size 0 cs.toArray.size := by
  rw [List.size_toArray]; exact (laid_new w z t cs hz).1

theorem wpList_fresh {P : Program} {ops : Array Oper} {rest : List Oper} {op : Oper} {a : Go.Act} {w : World} {Q : Exit → Go.Act → World → Prop} (hgd : op.guard = none) (ty : TypeId) (x y : Operand) (ho : op.op = .store ty x y)
    (z : Array Value) (t : TypeId) (cs : List Value) (hx : a.eval x = .pointer (some ⟨w.heap.size, 0, none⟩)) (hy : a.eval y = .agg cs.toArray) (hz : z.size = cs.length)
    (hi : (P.info? ty).map (·.size) = some cs.toArray.size) (h1 : cs.toArray.all (·.oneCell') = true)
    (h : ∀ w2, w2.rangeAt w.heap.size 0 cs → Below w.heap.size w w2 → wpList P ops Q rest (a.put op.dst undef) w2) : wpList P ops Q (op :: rest) a (w.alloc (.cells z t)) :=
  wpList_store_mid hgd ty x y ho w.heap.size 0 cs.toArray hx hy (laid_there w z t cs hz) hi h1 (h _ (laid_new w z t cs hz).2.1 (laid_new w z t cs hz).2.2)

set_option maxRecDepth 100000 in
set_option maxHeartbeats 1000000 in
theorem mmeth_any (i : Nat) (hi : i < 23) (w : World) :
    Calls Tryz.prog 44 #[.int .u8 i] w fun e w' => e = .returned (mtab.getD i .nilFunc) ∧ Below w.heap.size w w' := by
  have hi' : (i : Int) < 23 := by omega
  have hg : Hid (mtab.getD i .nilFunc = mtab[i]'hi) := by show _ = _; exact (List.getElem_eq_getD _).symm
  generalize mtab.getD i .nilFunc = v at *
  go_enter Tryz.func44, Tryz.ntmps44
  go_wp2_with ((with_reducible refine wpList_fresh (op := ⟨none, .store _ (.tmp 3) (.tmp 4), _, _, _, none⟩) (w := w) rfl _ (.tmp 3) (.tmp 4) rfl _ _ mtab ?hx ?hy ?hz ?hi mtab_one ?h); (case hx => go_must (rfl)); (case hy => go_must (rfl)); (case hz => rfl); (case hi => go_must (kernel_rfl)); go_must (intro w2 hr hB; have hc : w2.cell? ⟨w.heap.size, i, none⟩ = some v := (by rw [hg.out]; have := hr i _ (List.getElem?_eq_getElem hi); rwa [Nat.zero_add] at this)))
  go_ret
  exact ⟨rfl, hB⟩

set_option maxRecDepth 100000 in
set_option maxHeartbeats 1000000 in
theorem imeth_any (i : Nat) (hi : i < 56) (w : World) :
    Calls Tryz.prog 119 #[.int .u8 i] w fun e w' => e = .returned (itab.getD i .nilFunc) ∧ Below w.heap.size w w' := by
  have hi' : (i : Int) < 56 := by omega
  have hg : Hid (itab.getD i .nilFunc = itab[i]'hi) := by show _ = _; exact (List.getElem_eq_getD _).symm
  generalize itab.getD i .nilFunc = v at *
  go_enter Tryz.func119, Tryz.ntmps119
  go_wp2_with ((with_reducible refine wpList_fresh (op := ⟨none, .store _ (.tmp 3) (.tmp 4), _, _, _, none⟩) (w := w) rfl _ (.tmp 3) (.tmp 4) rfl _ _ itab ?hx ?hy ?hz ?hi itab_one ?h); (case hx => go_must (rfl)); (case hy => go_must (rfl)); (case hz => rfl); (case hi => go_must (kernel_rfl)); go_must (intro w2 hr hB; have hc : w2.cell? ⟨w.heap.size, i, none⟩ = some v := (by rw [hg.out]; have := hr i _ (List.getElem?_eq_getElem hi); rwa [Nat.zero_add] at this)))
  go_ret
  exact ⟨rfl, hB⟩

end Go.Proofs.YtcgjliflnnklnabGreat
