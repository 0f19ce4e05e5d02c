/-
  Joined texts.
-/
import Derived.Test.YtcgjliflnnklnaaGreatJ03
namespace Go.Proofs.YtcgjliflnnklnaaGreat
open Go.RowKit

/-
  What was laid in a function's own blocks lies there still behind a call that only lays new ones.
-/
section
theorem own3 {w w1 : World} {a b c : Obj} (hb : Below (((w.alloc a).alloc b).alloc c).heap.size (((w.alloc a).alloc b).alloc c) w1) :
    w1.heap[w.heap.size]? = some a ∧ w1.heap[w.heap.size + 1]? = some b ∧ w1.heap[w.heap.size + 1 + 1]? = some c ∧ w.heap.size + 1 + 1 < w1.heap.size ∧ Below w.heap.size w w1 := by
  have s := hb.size
  simp only [World.size_alloc] at s
  refine ⟨(hb.block _ (by simp only [World.size_alloc]; omega)).trans ?_, (hb.block _ (by simp only [World.size_alloc]; omega)).trans ?_, (hb.block _ (by simp only [World.size_alloc]; omega)).trans ?_, by omega, ?_⟩
  · rw [Below.heap_alloc _ _ _ (by simp only [World.size_alloc]; omega), Below.heap_alloc _ _ _ (by simp only [World.size_alloc]; omega)]; exact heap_alloc_new w a
  · rw [Below.heap_alloc _ _ _ (by simp only [World.size_alloc]; omega)]; have := heap_alloc_new (w.alloc a) b; rwa [World.size_alloc] at this
  · have := heap_alloc_new ((w.alloc a).alloc b) c; rwa [World.size_alloc, World.size_alloc] at this
  · exact ((((Below.refl _ _).alloc (Nat.le_refl _) a).alloc (by simp only [World.size_alloc]; omega) b).alloc (by simp only [World.size_alloc]; omega) c).trans (hb.mono (by simp only [World.size_alloc]; omega))
theorem own4 {w w1 : World} {a b c d : Obj} (hb : Below ((((w.alloc a).alloc b).alloc c).alloc d).heap.size ((((w.alloc a).alloc b).alloc c).alloc d) w1) :
    w1.heap[w.heap.size]? = some a ∧ w1.heap[w.heap.size + 1]? = some b ∧ w1.heap[w.heap.size + 1 + 1]? = some c ∧ w1.heap[w.heap.size + 1 + 1 + 1]? = some d ∧ w.heap.size + 1 + 1 + 1 < w1.heap.size ∧ Below w.heap.size w w1 := by
  have h := own3 (w := w.alloc a) hb
  have s : (w.alloc a).heap.size = w.heap.size + 1 := World.size_alloc _ _
  rw [s] at h
  have k := h.2.2.2.2
  refine ⟨(k.block _ (by omega)).trans (heap_alloc_new w a), h.1, h.2.1, h.2.2.1, by omega, ?_⟩
  exact ((Below.refl _ _).alloc (Nat.le_refl _) a).trans (k.mono (by omega))
theorem row2 {w : World} {n : Nat} {v0 v1 : Value} {t : TypeId} (h : w.heap[n]? = some (.cells #[v0, v1] t (0, 0))) :
    w.cell? ⟨n, 0, none⟩ = some v0 ∧ w.cell? ⟨n, 1, none⟩ = some v1 ∧ ∀ o, w.frozen? ⟨n, o, none⟩ = false :=
  ⟨by rw [cell_of_row _ _ _ _ _ _ h]; rfl, by rw [cell_of_row _ _ _ _ _ _ h]; rfl, fun o => by unfold World.frozen?; rw [h]; simp⟩
theorem row4 {w : World} {n : Nat} {v0 v1 v2 v3 : Value} {t : TypeId} (h : w.heap[n]? = some (.cells #[v0, v1, v2, v3] t (0, 0))) :
    w.cell? ⟨n, 0, none⟩ = some v0 ∧ w.cell? ⟨n, 1, none⟩ = some v1 ∧ w.cell? ⟨n, 2, none⟩ = some v2 ∧ w.cell? ⟨n, 3, none⟩ = some v3 ∧ ∀ o, w.frozen? ⟨n, o, none⟩ = false :=
  ⟨by rw [cell_of_row _ _ _ _ _ _ h]; rfl, by rw [cell_of_row _ _ _ _ _ _ h]; rfl, by rw [cell_of_row _ _ _ _ _ _ h]; rfl, by rw [cell_of_row _ _ _ _ _ _ h]; rfl, fun o => by unfold World.frozen?; rw [h]; simp⟩
theorem row8 {w : World} {n : Nat} {v0 v1 v2 v3 v4 v5 v6 v7 : Value} {t : TypeId} (h : w.heap[n]? = some (.cells #[v0, v1, v2, v3, v4, v5, v6, v7] t (0, 0))) :
    w.cell? ⟨n, 0, none⟩ = some v0 ∧ w.cell? ⟨n, 1, none⟩ = some v1 ∧ w.cell? ⟨n, 2, none⟩ = some v2 ∧ w.cell? ⟨n, 3, none⟩ = some v3 ∧ w.cell? ⟨n, 4, none⟩ = some v4 ∧ w.cell? ⟨n, 5, none⟩ = some v5 ∧ w.cell? ⟨n, 6, none⟩ = some v6 ∧ w.cell? ⟨n, 7, none⟩ = some v7 ∧ ∀ o, w.frozen? ⟨n, o, none⟩ = false :=
  ⟨by rw [cell_of_row _ _ _ _ _ _ h]; rfl, by rw [cell_of_row _ _ _ _ _ _ h]; rfl, by rw [cell_of_row _ _ _ _ _ _ h]; rfl, by rw [cell_of_row _ _ _ _ _ _ h]; rfl, by rw [cell_of_row _ _ _ _ _ _ h]; rfl, by rw [cell_of_row _ _ _ _ _ _ h]; rfl, by rw [cell_of_row _ _ _ _ _ _ h]; rfl, by rw [cell_of_row _ _ _ _ _ _ h]; rfl, fun o => by unfold World.frozen?; rw [h]; simp⟩
end

/-
  A string that is none of three letters.
-/
section
theorem tl_no3 {op : BA} {a b c : UInt8} (h : op ≠ b3 a b c) : (ByteArray.toList op == [a, b, c]) = false := by
  have := tl_no h
  rw [Go.ByteArray.toList_eq (b3 a b c)] at this
  exact this
end

/-
  Behind a draw and a call that only lays new blocks.
-/
section
theorem held_r {W w1 : World} (hb : Below W.drew.heap.size W.drew w1) : (∀ n i, n < W.heap.size → w1.cell? ⟨n, i, none⟩ = W.cell? ⟨n, i, none⟩) ∧ (∀ n i, n < W.heap.size → w1.frozen? ⟨n, i, none⟩ = W.frozen? ⟨n, i, none⟩) ∧ W.heap.size ≤ w1.heap.size ∧ Below W.heap.size W w1 :=
  ⟨fun n i hn => World.cell?_of_block (a := ⟨n, i, none⟩) (hb.block n hn), fun n i hn => World.frozen?_of_block (a := ⟨n, i, none⟩) (hb.block n hn), hb.size, hb.os, hb.tape, hb.output, hb.size, hb.block⟩
end

end Go.Proofs.YtcgjliflnnklnaaGreat
