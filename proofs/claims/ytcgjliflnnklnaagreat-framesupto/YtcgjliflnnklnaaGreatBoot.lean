/-
  The law's world while its scans are made.
-/
import Derived.Test.YtcgjliflnnklnaaGreatStep
namespace Go.Proofs.YtcgjliflnnklnaaGreat
open Go.RowKit

def sc00 : Sc := ⟨0, [], 0⟩
def ptr (n : Nat) : Value := .pointer (some ⟨n, 0, none⟩)
def ptrs (B : Nat → Nat) (k : Nat) : List Value := (List.range k).map fun i => ptr (B i)

theorem own_same {w w' : World} {base te size n : Nat} {V : Value} {xs : List Value} (h : w.ownsRow base te size V n xs) (hV : ∀ g, V.ownBlock = some g → w'.heap[g]? = w.heap[g]?) : w'.ownsRow base te size V n xs := by
  refine ⟨h.1, ?_⟩
  rcases h.2 with h | ⟨g, cap, cur, rfl, hbg, hgg, r⟩
  · exact .inl h
  · exact .inr ⟨g, cap, cur, rfl, hbg, (hV g rfl).trans hgg, r⟩

theorem ptrs_push (B : Nat → Nat) (k n : Nat) : ptrs (fun i => if i = k then n else B i) (k + 1) = ptrs B k ++ [ptr n] := by
  unfold ptrs
  rw [List.range_succ, List.map_append]
  congr 1
  · exact List.map_congr_left fun i hi => by
      have h1 := List.mem_range.1 hi
      have h2 : i ≠ k := by omega
      simp [h2]
  · simp

structure Boot (w0 : World) (W : Nat) (tag : Nat → Nat) (B R : Nat → Nat) (ks kr : Nat) (vs vr : Value) (w : World) : Prop where
  bel : Below w0.heap.size w0 w
  loW : w0.heap.size ≤ W
  loB : ∀ i, i < ks → w0.heap.size ≤ B i
  loR : ∀ i, i < kr → w0.heap.size ≤ R i
  blk : w.heap[W]? = some (.cells #[.slice none 0 0, .slice none 0 0, vs, vr, .slice none 0 0, .slice none 0 0] 82 (0, 0))
  oS : w.ownsRow w0.heap.size 83 1 vs ks (ptrs B ks)
  oR : w.ownsRow w0.heap.size 85 1 vr kr (ptrs R kr)
  sc : ∀ i, i < ks → ScAt w (B i) sc00
  rs : ∀ i, i < kr → RsAt w (R i) sc00
  tW : tag W = 0
  tS : ∀ g, vs.ownBlock = some g → tag g = 1
  tR : ∀ g, vr.ownBlock = some g → tag g = 2
  tB : ∀ i, i < ks → tag (B i) = 3 + 2 * i
  tr : ∀ i, i < kr → tag (R i) = 4 + 2 * i

section
variable {w0 : World} {W : Nat} {tag : Nat → Nat} {B R : Nat → Nat} {ks kr : Nat} {vs vr : Value} {w : World}

theorem Boot.wlt (h : Boot w0 W tag B R ks kr vs vr w) : W < w.heap.size := (Array.getElem?_eq_some_iff.1 h.blk).1

theorem Boot.below {w' : World} (h : Boot w0 W tag B R ks kr vs vr w) (hb : Below w.heap.size w w') : Boot w0 W tag B R ks kr vs vr w' :=
  ⟨h.bel.trans (hb.mono h.bel.size), h.loW, h.loB, h.loR, (hb.block _ h.wlt).trans h.blk, own_same h.oS (fun g hg => hb.block g (h.oS.lt g hg).2), own_same h.oR (fun g hg => hb.block g (h.oR.lt g hg).2),
   fun i hi => (h.sc i hi).sameBlock (hb.block _ (h.sc i hi).lt), fun i hi => (h.rs i hi).sameBlock (hb.block _ (h.rs i hi).cells.lt), h.tW, h.tS, h.tR, h.tB, h.tr⟩

theorem Boot.tagged {tag' : Nat → Nat} (h : Boot w0 W tag B R ks kr vs vr w) (ht : ∀ g, g < w.heap.size → tag' g = tag g) : Boot w0 W tag' B R ks kr vs vr w :=
  ⟨h.bel, h.loW, h.loB, h.loR, h.blk, h.oS, h.oR, h.sc, h.rs, (ht _ h.wlt).trans h.tW, fun g hg => (ht g (h.oS.lt g hg).2).trans (h.tS g hg), fun g hg => (ht g (h.oR.lt g hg).2).trans (h.tR g hg),
   fun i hi => (ht _ (h.sc i hi).lt).trans (h.tB i hi), fun i hi => (ht _ (h.rs i hi).cells.lt).trans (h.tr i hi)⟩

theorem Boot.pushS {n g' cap' : Nat} {w3 : World} (h : Boot w0 W tag B R ks kr vs vr w) (hn : ScAt w n sc00) (hlo : w0.heap.size ≤ n) (htn : tag n = 3 + 2 * ks)
    (hown : w3.ownsRow w0.heap.size 83 1 (.slice (some ⟨g', 0, none⟩) (ks + 1) cap') (ks + 1) (ptrs B ks ++ [ptr n])) (hg : w.grownBy w3 vs.ownBlock) (hat : vs.ownBlock = some g' ∨ g' = w.heap.size) :
    Boot w0 W (fun g => if w.heap.size ≤ g then 1 else tag g) (fun i => if i = ks then n else B i) R (ks + 1) kr (.slice (some ⟨g', 0, none⟩) (ks + 1) cap') vr (w3.setCell ⟨W, 2, none⟩ (.slice (some ⟨g', 0, none⟩) (ks + 1) cap')) := by
  have hWne : some W ≠ vs.ownBlock := fun e => by have h1 := h.tS W e.symm; have h2 := h.tW; omega
  have hgW : g' ≠ W := by
    rcases hat with e | e
    · exact fun e2 => hWne (by rw [← e2]; exact e.symm)
    · have := h.wlt; omega
  have hkeep : ∀ g, g < w.heap.size → tag g ≠ 0 → tag g ≠ 1 → (w3.setCell ⟨W, 2, none⟩ (.slice (some ⟨g', 0, none⟩) (ks + 1) cap')).heap[g]? = w.heap[g]? := fun g hl h0 h1 => by
    rw [Below.heap_setCell _ _ _ _ (fun e => h0 (by rw [e]; exact h.tW))]
    exact hg.block g hl (fun e => h1 (h.tS g e.symm))
  have htag : ∀ g, g < w.heap.size → (if w.heap.size ≤ g then 1 else tag g) = tag g := fun g hl => if_neg (by omega)
  refine ⟨?_, h.loW, ?_, ?_, ?_, ?_, ?_, ?_, ?_, ?_, ?_, ?_, ?_, ?_⟩
  · have hloW := h.loW
    refine ⟨hg.os.trans h.bel.os, hg.tape.trans h.bel.tape, hg.output.trans h.bel.output, ?_, fun k hk => ?_⟩
    · have h1 := h.bel.size; have h2 := hg.size; simp; omega
    · rw [Below.heap_setCell _ _ _ _ (show k ≠ W by omega)]
      refine (hg.block k (by have := h.bel.size; omega) (fun e => ?_)).trans (h.bel.block k hk)
      have := (h.oS.lt k e.symm).1
      omega
  · intro i hi
    by_cases e : i = ks
    · simp [e]; exact hlo
    · simp [e]; exact h.loB i (by omega)
  · exact h.loR
  · exact set_blk ((hg.block W h.wlt hWne).trans h.blk) _
  · rw [ptrs_push]
    exact own_same hown (fun g e => by
      have e2 : g' = g := by simpa [Value.ownBlock] using e
      subst e2
      exact Below.heap_setCell _ _ _ _ hgW)
  · exact own_same h.oR (fun g e => hkeep g (h.oR.lt g e).2 (by rw [h.tR g e]; omega) (by rw [h.tR g e]; omega))
  · intro i hi
    by_cases e : i = ks
    · simp only [if_pos e]; exact hn.sameBlock (hkeep n hn.lt (by omega) (by omega))
    · simp only [if_neg e]; exact (h.sc i (by omega)).sameBlock (hkeep _ (h.sc i (by omega)).lt (by rw [h.tB i (by omega)]; omega) (by rw [h.tB i (by omega)]; omega))
  · intro i hi
    exact (h.rs i hi).sameBlock (hkeep _ (h.rs i hi).cells.lt (by rw [h.tr i hi]; omega) (by rw [h.tr i hi]; omega))
  · exact (htag _ h.wlt).trans h.tW
  · intro g e
    have e2 : g' = g := by simpa [Value.ownBlock] using e
    subst e2
    rcases hat with e | e
    · exact (htag _ (h.oS.lt _ e).2).trans (h.tS _ e)
    · exact if_pos (by omega)
  · intro g e
    exact (htag _ (h.oR.lt _ e).2).trans (h.tR _ e)
  · intro i hi
    by_cases e : i = ks
    · simp only [if_pos e]; exact (htag _ hn.lt).trans (by rw [htn, e])
    · simp only [if_neg e]; exact (htag _ (h.sc i (by omega)).lt).trans (h.tB i (by omega))
  · intro i hi
    exact (htag _ (h.rs i hi).cells.lt).trans (h.tr i hi)

theorem Boot.pushR {n g' cap' : Nat} {w3 : World} (h : Boot w0 W tag B R ks kr vs vr w) (hn : RsAt w n sc00) (hlo : w0.heap.size ≤ n) (htn : tag n = 4 + 2 * kr)
    (hown : w3.ownsRow w0.heap.size 85 1 (.slice (some ⟨g', 0, none⟩) (kr + 1) cap') (kr + 1) (ptrs R kr ++ [ptr n])) (hg : w.grownBy w3 vr.ownBlock) (hat : vr.ownBlock = some g' ∨ g' = w.heap.size) :
    Boot w0 W (fun g => if w.heap.size ≤ g then 2 else tag g) B (fun i => if i = kr then n else R i) ks (kr + 1) vs (.slice (some ⟨g', 0, none⟩) (kr + 1) cap') (w3.setCell ⟨W, 3, none⟩ (.slice (some ⟨g', 0, none⟩) (kr + 1) cap')) := by
  have hWne : some W ≠ vr.ownBlock := fun e => by have h1 := h.tR W e.symm; have h2 := h.tW; omega
  have hgW : g' ≠ W := by
    rcases hat with e | e
    · exact fun e2 => hWne (by rw [← e2]; exact e.symm)
    · have := h.wlt; omega
  have hkeep : ∀ g, g < w.heap.size → tag g ≠ 0 → tag g ≠ 2 → (w3.setCell ⟨W, 3, none⟩ (.slice (some ⟨g', 0, none⟩) (kr + 1) cap')).heap[g]? = w.heap[g]? := fun g hl h0 h1 => by
    rw [Below.heap_setCell _ _ _ _ (fun e => h0 (by rw [e]; exact h.tW))]
    exact hg.block g hl (fun e => h1 (h.tR g e.symm))
  have htag : ∀ g, g < w.heap.size → (if w.heap.size ≤ g then 2 else tag g) = tag g := fun g hl => if_neg (by omega)
  refine ⟨?_, h.loW, ?_, ?_, ?_, ?_, ?_, ?_, ?_, ?_, ?_, ?_, ?_, ?_⟩
  · have hloW := h.loW
    refine ⟨hg.os.trans h.bel.os, hg.tape.trans h.bel.tape, hg.output.trans h.bel.output, ?_, fun k hk => ?_⟩
    · have h1 := h.bel.size; have h2 := hg.size; simp; omega
    · rw [Below.heap_setCell _ _ _ _ (show k ≠ W by omega)]
      refine (hg.block k (by have := h.bel.size; omega) (fun e => ?_)).trans (h.bel.block k hk)
      have := (h.oR.lt k e.symm).1
      omega
  · exact h.loB
  · intro i hi
    by_cases e : i = kr
    · simp [e]; exact hlo
    · simp [e]; exact h.loR i (by omega)
  · exact set_blk ((hg.block W h.wlt hWne).trans h.blk) _
  · exact own_same h.oS (fun g e => hkeep g (h.oS.lt g e).2 (by rw [h.tS g e]; omega) (by rw [h.tS g e]; omega))
  · rw [ptrs_push]
    exact own_same hown (fun g e => by
      have e2 : g' = g := by simpa [Value.ownBlock] using e
      subst e2
      exact Below.heap_setCell _ _ _ _ hgW)
  · intro i hi
    exact (h.sc i hi).sameBlock (hkeep _ (h.sc i hi).lt (by rw [h.tB i hi]; omega) (by rw [h.tB i hi]; omega))
  · intro i hi
    by_cases e : i = kr
    · simp only [if_pos e]; exact hn.sameBlock (hkeep n hn.cells.lt (by omega) (by omega))
    · simp only [if_neg e]; exact (h.rs i (by omega)).sameBlock (hkeep _ (h.rs i (by omega)).cells.lt (by rw [h.tr i (by omega)]; omega) (by rw [h.tr i (by omega)]; omega))
  · exact (htag _ h.wlt).trans h.tW
  · intro g e
    exact (htag _ (h.oS.lt _ e).2).trans (h.tS _ e)
  · intro g e
    have e2 : g' = g := by simpa [Value.ownBlock] using e
    subst e2
    rcases hat with e | e
    · exact (htag _ (h.oR.lt _ e).2).trans (h.tR _ e)
    · exact if_pos (by omega)
  · intro i hi
    exact (htag _ (h.sc i hi).lt).trans (h.tB i hi)
  · intro i hi
    by_cases e : i = kr
    · simp only [if_pos e]; exact (htag _ hn.cells.lt).trans (by rw [htn, e])
    · simp only [if_neg e]; exact (htag _ (h.rs i (by omega)).cells.lt).trans (h.tr i (by omega))

theorem Boot.inv (h : Boot w0 W tag B R 2 2 vs vr w) : ∃ f : Fix, f.W = W ∧ Inv w0 f No (fun _ => sc00) (fun _ => sc00) (.slice none 0 0) (.slice none 0 0) 0 0 w := by
  obtain ⟨SB, cs, rfl, hS1, hS2⟩ := h.oS.form (by omega)
  obtain ⟨RB, cr, rfl, hR1, hR2⟩ := h.oR.form (by omega)
  have tS := h.tS SB rfl
  have tR := h.tR RB rfl
  have tW := h.tW
  refine ⟨⟨W, SB, RB, cs, cr, B, R⟩, rfl, h.bel, ⟨?_, ?_, ?_, ?_, ?_, ?_, ?_, ?_, ?_⟩, ?_, h.blk, ?_, ?_, h.sc, h.rs, ⟨[], World.ownsRow_nil _ _ _ _, fun i hi => absurd hi (by omega)⟩, ⟨[], World.ownsRow_nil _ _ _ _, fun i hi => absurd hi (by omega)⟩, ?_, ?_, fun g q => q.elim⟩
  · intro e; simp only at e; rw [e] at tW; omega
  · intro e; simp only at e; rw [e] at tW; omega
  · intro e; simp only at e; rw [e] at tS; omega
  · intro k hk; have h1 := h.tB k hk; have h2 := h.tr k hk; exact ⟨fun e => by simp only at e; rw [e] at tW; omega, fun e => by simp only at e; rw [e] at tW; omega⟩
  · intro k hk; have h1 := h.tB k hk; have h2 := h.tr k hk; exact ⟨fun e => by simp only at e; rw [e] at tS; omega, fun e => by simp only at e; rw [e] at tS; omega⟩
  · intro k hk; have h1 := h.tB k hk; have h2 := h.tr k hk; exact ⟨fun e => by simp only at e; rw [e] at tR; omega, fun e => by simp only at e; rw [e] at tR; omega⟩
  · intro k j hk hj e; have h1 := h.tB k hk; have h2 := h.tr j hj; simp only at e; rw [e] at h1; omega
  · intro k j hk hj e; have h1 := h.tB k hk; have h2 := h.tB j hj; simp only at e; rw [e] at h1; omega
  · intro k j hk hj e; have h1 := h.tr k hk; have h2 := h.tr j hj; simp only at e; rw [e] at h1; omega
  · rintro g (e | e | e | ⟨k, hk, e | e⟩)
    · simp only at e; rw [e]; exact h.loW
    · simp only at e; rw [e]; exact hS1
    · simp only at e; rw [e]; exact hR1
    · simp only at e; rw [e]; exact h.loB k hk
    · simp only at e; rw [e]; exact h.loR k hk
  · intro k hk
    refine (h.oS.cellAt k (by omega)).trans ?_
    simp [ptrs, ptr, hk]
  · intro k hk
    refine (h.oR.cellAt k (by omega)).trans ?_
    simp [ptrs, ptr, hk]
  · intro g hg; simp [Value.ownBlock] at hg
  · intro g hg; simp [Value.ownBlock] at hg
end

end Go.Proofs.YtcgjliflnnklnaaGreat
