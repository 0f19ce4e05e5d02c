/-
  One entry more in the book.
-/
import Derived.Test.YtcgjliflnnklnaaGreatInv
namespace Go.Proofs.YtcgjliflnnklnaaGreat
open Go.RowKit

section
variable {w0 : World} {f : Fix} {X : Nat → Prop} {s t : Nat → Sc} {vb vp : Value} {nb np : Nat} {w w3 : World}

theorem xs_push {xs : List Value} {n : Nat} {v v1 v2 v3 : Value} (hl : xs.length = n * 5) (i : Nat) (hi : i < n) (k : Nat) (hk : k < 5) : (xs ++ [v, v1, v2, v3, .int .i64 (n : Int)])[i * 5 + k]? = xs[i * 5 + k]? :=
  List.getElem?_append_left (by omega)

theorem xs_last {xs : List Value} {n : Nat} {v v1 v2 v3 : Value} (hl : xs.length = n * 5) :
    (xs ++ [v, v1, v2, v3, .int .i64 (n : Int)])[n * 5]? = some v ∧ (xs ++ [v, v1, v2, v3, .int .i64 (n : Int)])[n * 5 + 1]? = some v1 ∧ (xs ++ [v, v1, v2, v3, .int .i64 (n : Int)])[n * 5 + 2]? = some v2 ∧ (xs ++ [v, v1, v2, v3, .int .i64 (n : Int)])[n * 5 + 3]? = some v3 ∧ (xs ++ [v, v1, v2, v3, .int .i64 (n : Int)])[n * 5 + 4]? = some (.int .i64 (n : Int)) := by
  refine ⟨?_, ?_, ?_, ?_, ?_⟩
  · rw [List.getElem?_append_right (by omega), hl, Nat.sub_self]; rfl
  · rw [List.getElem?_append_right (by omega), hl, show n * 5 + 1 - n * 5 = 1 from by omega]; rfl
  · rw [List.getElem?_append_right (by omega), hl, show n * 5 + 2 - n * 5 = 2 from by omega]; rfl
  · rw [List.getElem?_append_right (by omega), hl, show n * 5 + 3 - n * 5 = 3 from by omega]; rfl
  · rw [List.getElem?_append_right (by omega), hl, show n * 5 + 4 - n * 5 = 4 from by omega]; rfl

/-- The book's next list: what was in it, and one entry more. -/
theorem book_push {e size : Nat} {xf : Nat → Nat → Value} {te base : Nat} {B B' : Nat → Prop} {V V' : Value} {n : Nat} {w' : World} {xs : List Value} {v v1 v2 v3 : Value}
    (ho : w.ownsRow base te 5 V n xs) (he : ∀ i, i < n → ∃ v v1 v2 v3, xs[i * 5]? = some v ∧ xs[i * 5 + 1]? = some v1 ∧ xs[i * 5 + 2]? = some v2 ∧ xs[i * 5 + 3]? = some v3 ∧ xs[i * 5 + 4]? = some (.int .i64 (i : Int)) ∧ Ent e size xf w B i v v1 v2 v3)
    (hn : w'.ownsRow base te 5 V' (n + 1) (xs ++ [v, v1, v2, v3, .int .i64 (n : Int)])) (hE : Ent e size xf w B n v v1 v2 v3)
    (hk : ∀ g, g < w.heap.size → ¬ B g → w'.heap[g]? = w.heap[g]?) (hb : ∀ g, g < w.heap.size → B' g → B g) : BookX e size xf te w' base B' V' (n + 1) := by
  have hl : xs.length = n * 5 := ho.1
  refine ⟨_, hn, fun i hi => ?_⟩
  by_cases hin : i < n
  · obtain ⟨a, a1, a2, a3, q0, q1, q2, q3, q4, hA⟩ := he i hin
    have p0 := xs_push (v := v) (v1 := v1) (v2 := v2) (v3 := v3) hl i hin 0 (by omega)
    exact ⟨a, a1, a2, a3, p0.trans q0, (xs_push hl i hin 1 (by omega)).trans q1, (xs_push hl i hin 2 (by omega)).trans q2, (xs_push hl i hin 3 (by omega)).trans q3, (xs_push hl i hin 4 (by omega)).trans q4, hA.kept hk hb⟩
  · have : i = n := by omega
    subst this
    obtain ⟨q0, q1, q2, q3, q4⟩ := xs_last (v := v) (v1 := v1) (v2 := v2) (v3 := v3) hl
    exact ⟨v, v1, v2, v3, q0, q1, q2, q3, q4, hE.kept hk hb⟩

theorem set_blk {w : World} {W k : Nat} {cs : Array Value} {T : TypeId} (h : w.heap[W]? = some (.cells cs T (0, 0))) (v : Value) : (w.setCell ⟨W, k, none⟩ v).heap[W]? = some (.cells (cs.setIfInBounds k v) T (0, 0)) := by
  simp only [World.setCell, Array.getElem?_modify, h]; simp

theorem Inv.mlt (h : Inv w0 f X s t vb vp nb np w) : ∀ g, f.mem g → g < w.heap.size := by
  rintro g (rfl | rfl | rfl | ⟨k, hk2, rfl | rfl⟩)
  · exact h.wlt
  · exact World.block_lt_of_cell? w ⟨f.SB, 0, none⟩ (h.sb 0 (by omega))
  · exact World.block_lt_of_cell? w ⟨f.RB, 0, none⟩ (h.rb 0 (by omega))
  · exact (h.sc k hk2).lt
  · exact (h.rs k hk2).cells.lt

theorem Inv.pushB {xs : List Value} {v v1 v2 v3 : Value} {g' cap' : Nat} (h : Inv w0 f X s t vb vp nb np w) (hXlt : ∀ g, X g → g < w.heap.size)
    (ho : w.ownsRow w0.heap.size 139 5 vb nb xs) (he : ∀ i, i < nb → ∃ v v1 v2 v3, xs[i * 5]? = some v ∧ xs[i * 5 + 1]? = some v1 ∧ xs[i * 5 + 2]? = some v2 ∧ xs[i * 5 + 3]? = some v3 ∧ xs[i * 5 + 4]? = some (.int .i64 (i : Int)) ∧ Ent 5 1 xfB w (Bad f X vb vp) i v v1 v2 v3)
    (hE : Ent 5 1 xfB w (Bad f X vb vp) nb v v1 v2 v3)
    (hn : w3.ownsRow w0.heap.size 139 5 (.slice (some ⟨g', 0, none⟩) (nb + 1) cap') (nb + 1) (xs ++ [v, v1, v2, v3, .int .i64 (nb : Int)])) (hg : w.grownBy w3 vb.ownBlock) (hat : vb.ownBlock = some g' ∨ g' = w.heap.size) :
    Inv w0 f X s t (.slice (some ⟨g', 0, none⟩) (nb + 1) cap') vp (nb + 1) np (w3.setCell ⟨f.W, 4, none⟩ (.slice (some ⟨g', 0, none⟩) (nb + 1) cap')) := by
  have hWm : f.mem f.W := .inl rfl
  have hvW : ∀ k, f.mem k → some k ≠ vb.ownBlock := fun k hk e => (h.vbm k e.symm).1 hk
  have hgW : g' ≠ f.W := by
    rcases hat with e | e
    · intro e2; subst e2; exact (h.vbm _ e).1 hWm
    · have := h.wlt; omega
  have hkeep : ∀ k, k < w.heap.size → k ≠ f.W → vb.ownBlock ≠ some k → (w3.setCell ⟨f.W, 4, none⟩ (.slice (some ⟨g', 0, none⟩) (nb + 1) cap')).heap[k]? = w.heap[k]? := fun k hl hW hv =>
    (Below.heap_setCell _ _ _ _ hW).trans (hg.block k hl (fun e => hv e.symm))
  have hmem : ∀ k, f.mem k → k ≠ f.W → (w3.setCell ⟨f.W, 4, none⟩ (.slice (some ⟨g', 0, none⟩) (nb + 1) cap')).heap[k]? = w.heap[k]? := fun k hk hW => hkeep k (h.mlt k hk) hW (fun e => hvW k hk e.symm)
  have hkb : ∀ k, k < w.heap.size → ¬ Bad f X vb vp k → (w3.setCell ⟨f.W, 4, none⟩ (.slice (some ⟨g', 0, none⟩) (nb + 1) cap')).heap[k]? = w.heap[k]? := fun k hl hB => hkeep k hl (fun e => hB (.inl (by rw [e]; exact hWm))) (fun e => hB (.inr (.inl e)))
  have hbad : ∀ k, k < w.heap.size → Bad f X (.slice (some ⟨g', 0, none⟩) (nb + 1) cap') vp k → Bad f X vb vp k := by
    rintro k hl (q | q | q | q)
    · exact .inl q
    · simp [Value.ownBlock] at q
      rcases hat with e | e
      · subst q; exact .inr (.inl e)
      · omega
    · exact .inr (.inr (.inl q))
    · exact .inr (.inr (.inr q))
  have hgX : ¬ X g' := by
    rcases hat with e | e
    · exact (h.vbm _ e).2.2
    · intro hX; have := hXlt g' hX; omega
  have hgp : vp.ownBlock ≠ some g' := by
    rcases hat with e | e
    · exact (h.vbm _ e).2.1
    · intro e2; have := (h.pk.vlt e2).2; omega
  have hgm : ¬ f.mem g' := by
    rcases hat with e | e
    · exact (h.vbm _ e).1
    · intro hm; have := h.mlt g' hm; omega
  have hsz := hg.size
  refine ⟨?_, h.ap, h.lo, ?_, ?_, ?_, ?_, ?_, ?_, ?_, ?_, ?_, ?_⟩
  · have h1 := h.bel.size
    exact (h.bel.grown hg h1 (fun k e => (ho.lt k e).1)).setCell (h.lo _ hWm) _
  · have := (hg.block f.W h.wlt (hvW _ hWm)).trans h.blk
    exact set_blk this _
  · intro k hk2; rw [World.cell?_of_block (a := ⟨f.SB, k, none⟩) (hmem f.SB (.inr (.inl rfl)) (fun e => h.ap.ws e.symm))]; exact h.sb k hk2
  · intro k hk2; rw [World.cell?_of_block (a := ⟨f.RB, k, none⟩) (hmem f.RB (.inr (.inr (.inl rfl))) (fun e => h.ap.wr e.symm))]; exact h.rb k hk2
  · intro k hk2; exact (h.sc k hk2).sameBlock (hmem _ (.inr (.inr (.inr ⟨k, hk2, .inl rfl⟩))) (fun e => (h.ap.wb k hk2).1 e.symm))
  · intro k hk2; exact (h.rs k hk2).sameBlock (hmem _ (.inr (.inr (.inr ⟨k, hk2, .inr rfl⟩))) (fun e => (h.ap.wb k hk2).2 e.symm))
  · refine book_push ho he ⟨hn.1, ?_⟩ hE hkb hbad
    rcases hn.2 with q | ⟨g2, c2, cur, q, hbg, hgg, r⟩
    · exact .inl q
    · refine .inr ⟨g2, c2, cur, q, hbg, ?_, r⟩
      have eg : g' = g2 := by injection q with q1; injection q1 with q1; injection q1 with q1
      rw [Below.heap_setCell _ _ _ _ (by simp only; omega)]; exact hgg
  · exact h.pk.kept (fun k hk => hkeep k (h.pk.vlt hk).2 (fun e => by subst e; exact (h.vpm _ hk).1 hWm) (fun e => (h.vbm k e).2.1 hk)) hkb hbad
  · intro k hk; simp [Value.ownBlock] at hk; subst hk; exact ⟨hgm, hgp, hgX⟩
  · intro k hk; exact ⟨(h.vpm k hk).1, (h.vpm k hk).2⟩
  · intro k hk; exact h.xm k hk

theorem Inv.pushP {xs : List Value} {v v1 v2 v3 : Value} {g' cap' : Nat} (h : Inv w0 f X s t vb vp nb np w) (hXlt : ∀ g, X g → g < w.heap.size)
    (ho : w.ownsRow w0.heap.size 142 5 vp np xs) (he : ∀ i, i < np → ∃ v v1 v2 v3, xs[i * 5]? = some v ∧ xs[i * 5 + 1]? = some v1 ∧ xs[i * 5 + 2]? = some v2 ∧ xs[i * 5 + 3]? = some v3 ∧ xs[i * 5 + 4]? = some (.int .i64 (i : Int)) ∧ Ent 152 3 xfP w (Bad f X vb vp) i v v1 v2 v3)
    (hE : Ent 152 3 xfP w (Bad f X vb vp) np v v1 v2 v3)
    (hn : w3.ownsRow w0.heap.size 142 5 (.slice (some ⟨g', 0, none⟩) (np + 1) cap') (np + 1) (xs ++ [v, v1, v2, v3, .int .i64 (np : Int)])) (hg : w.grownBy w3 vp.ownBlock) (hat : vp.ownBlock = some g' ∨ g' = w.heap.size) :
    Inv w0 f X s t vb (.slice (some ⟨g', 0, none⟩) (np + 1) cap') nb (np + 1) (w3.setCell ⟨f.W, 5, none⟩ (.slice (some ⟨g', 0, none⟩) (np + 1) cap')) := by
  have hWm : f.mem f.W := .inl rfl
  have hvW : ∀ k, f.mem k → some k ≠ vp.ownBlock := fun k hk e => (h.vpm k e.symm).1 hk
  have hgW : g' ≠ f.W := by
    rcases hat with e | e
    · intro e2; subst e2; exact (h.vpm _ e).1 hWm
    · have := h.wlt; omega
  have hkeep : ∀ k, k < w.heap.size → k ≠ f.W → vp.ownBlock ≠ some k → (w3.setCell ⟨f.W, 5, none⟩ (.slice (some ⟨g', 0, none⟩) (np + 1) cap')).heap[k]? = w.heap[k]? := fun k hl hW hv =>
    (Below.heap_setCell _ _ _ _ hW).trans (hg.block k hl (fun e => hv e.symm))
  have hmem : ∀ k, f.mem k → k ≠ f.W → (w3.setCell ⟨f.W, 5, none⟩ (.slice (some ⟨g', 0, none⟩) (np + 1) cap')).heap[k]? = w.heap[k]? := fun k hk hW => hkeep k (h.mlt k hk) hW (fun e => hvW k hk e.symm)
  have hkb : ∀ k, k < w.heap.size → ¬ Bad f X vb vp k → (w3.setCell ⟨f.W, 5, none⟩ (.slice (some ⟨g', 0, none⟩) (np + 1) cap')).heap[k]? = w.heap[k]? := fun k hl hB => hkeep k hl (fun e => hB (.inl (by rw [e]; exact hWm))) (fun e => hB (.inr (.inr (.inl e))))
  have hbad : ∀ k, k < w.heap.size → Bad f X vb (.slice (some ⟨g', 0, none⟩) (np + 1) cap') k → Bad f X vb vp k := by
    rintro k hl (q | q | q | q)
    · exact .inl q
    · exact .inr (.inl q)
    · simp [Value.ownBlock] at q
      rcases hat with e | e
      · subst q; exact .inr (.inr (.inl e))
      · omega
    · exact .inr (.inr (.inr q))
  have hgX : ¬ X g' := by
    rcases hat with e | e
    · exact (h.vpm _ e).2
    · intro hX; have := hXlt g' hX; omega
  have hgb : vb.ownBlock ≠ some g' := by
    rcases hat with e | e
    · intro e2; exact (h.vbm _ e2).2.1 e
    · intro e2; have := (h.bk.vlt e2).2; omega
  have hgm : ¬ f.mem g' := by
    rcases hat with e | e
    · exact (h.vpm _ e).1
    · intro hm; have := h.mlt g' hm; omega
  have hsz := hg.size
  refine ⟨?_, h.ap, h.lo, ?_, ?_, ?_, ?_, ?_, ?_, ?_, ?_, ?_, ?_⟩
  · have h1 := h.bel.size
    exact (h.bel.grown hg h1 (fun k e => (ho.lt k e).1)).setCell (h.lo _ hWm) _
  · have := (hg.block f.W h.wlt (hvW _ hWm)).trans h.blk
    exact set_blk this _
  · intro k hk2; rw [World.cell?_of_block (a := ⟨f.SB, k, none⟩) (hmem f.SB (.inr (.inl rfl)) (fun e => h.ap.ws e.symm))]; exact h.sb k hk2
  · intro k hk2; rw [World.cell?_of_block (a := ⟨f.RB, k, none⟩) (hmem f.RB (.inr (.inr (.inl rfl))) (fun e => h.ap.wr e.symm))]; exact h.rb k hk2
  · intro k hk2; exact (h.sc k hk2).sameBlock (hmem _ (.inr (.inr (.inr ⟨k, hk2, .inl rfl⟩))) (fun e => (h.ap.wb k hk2).1 e.symm))
  · intro k hk2; exact (h.rs k hk2).sameBlock (hmem _ (.inr (.inr (.inr ⟨k, hk2, .inr rfl⟩))) (fun e => (h.ap.wb k hk2).2 e.symm))
  · exact h.bk.kept (fun k hk => hkeep k (h.bk.vlt hk).2 (fun e => by subst e; exact (h.vbm _ hk).1 hWm) (fun e => (h.vbm k hk).2.1 e)) hkb hbad
  · refine book_push ho he ⟨hn.1, ?_⟩ hE hkb hbad
    rcases hn.2 with q | ⟨g2, c2, cur, q, hbg, hgg, r⟩
    · exact .inl q
    · refine .inr ⟨g2, c2, cur, q, hbg, ?_, r⟩
      have eg : g' = g2 := by injection q with q1; injection q1 with q1; injection q1 with q1
      rw [Below.heap_setCell _ _ _ _ (by simp only; omega)]; exact hgg
  · intro k hk
    refine ⟨(h.vbm k hk).1, ?_, (h.vbm k hk).2.2⟩
    intro e; simp [Value.ownBlock] at e; subst e; exact hgb hk
  · intro k hk; simp [Value.ownBlock] at hk; subst hk; exact ⟨hgm, hgX⟩
  · intro k hk; exact h.xm k hk
end

end Go.Proofs.YtcgjliflnnklnaaGreat
