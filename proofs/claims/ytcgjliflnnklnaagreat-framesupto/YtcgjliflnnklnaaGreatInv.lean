/-
  What holds between the steps of a script: the law's world, its scans and the document's, and the book.
-/
import Derived.Test.YtcgjliflnnklnaaGreatBack
namespace Go.Proofs.YtcgjliflnnklnaaGreat
open Go.RowKit

/-- An entry of the book: a list and three begun at it; each entry of each is the mark of number i; none lies in a bad block. -/
def Ent (e size : Nat) (xf : Nat → Nat → Value) (w : World) (Bad : Nat → Prop) (i : Nat) (v v1 v2 v3 : Value) : Prop :=
  ∃ n, n ≤ 100000000 ∧ AllX e size (xf i) none 0 w v n ∧ AllX e size (xf i) none 0 w v1 (n + 1) ∧ AllX e size (xf i) none 0 w v2 (n + 2) ∧ AllX e size (xf i) none 0 w v3 (n + 64) ∧
    ∀ g, (v.ownBlock = some g ∨ v1.ownBlock = some g ∨ v2.ownBlock = some g ∨ v3.ownBlock = some g) → ¬ Bad g

theorem AllX.blk {e size : Nat} {xf : Nat → Value} {row : Option Nat} {H : Nat} {w : World} {v : Value} {n g : Nat} (h : AllX e size xf row H w v n) (hg : v.ownBlock = some g) : g < w.heap.size ∧ Ok row H g := by
  rcases h with ⟨rfl, _⟩ | ⟨g', cap, rfl, ho, _, hr, _⟩
  · simp [Value.ownBlock] at hg
  · simp [Value.ownBlock] at hg; subst hg; exact ⟨hr.lt, ho⟩
theorem AllX.same {e size : Nat} {xf : Nat → Value} {w w' : World} {v : Value} {n : Nat} (h : AllX e size xf none 0 w v n) (hk : ∀ g, v.ownBlock = some g → w'.heap[g]? = w.heap[g]?) : AllX e size xf none 0 w' v n := by
  rcases h with h | ⟨g, cap, rfl, ho, hn, ⟨cur, h1, h2⟩, hc⟩
  · exact .inl h
  · have hb := hk g rfl
    exact .inr ⟨g, cap, rfl, ho, hn, ⟨cur, hb.trans h1, h2⟩, fun i hi => by rw [World.cell?_of_block (a := ⟨g, i, none⟩) hb]; exact hc i hi⟩
theorem AllX.free {e size : Nat} {xf : Nat → Value} {row : Option Nat} {H : Nat} {w : World} {v : Value} {n : Nat} (h : AllX e size xf row H w v n) : AllX e size xf none 0 w v n := by
  rcases h with h | ⟨g, cap, rfl, _, hn, hr, hc⟩
  · exact .inl h
  · exact .inr ⟨g, cap, rfl, .inr (Nat.zero_le _), hn, hr, hc⟩

theorem Ent.kept {e size : Nat} {xf : Nat → Nat → Value} {w w' : World} {Bad Bad' : Nat → Prop} {i : Nat} {v v1 v2 v3 : Value} (h : Ent e size xf w Bad i v v1 v2 v3)
    (hk : ∀ g, g < w.heap.size → ¬ Bad g → w'.heap[g]? = w.heap[g]?) (hb : ∀ g, g < w.heap.size → Bad' g → Bad g) : Ent e size xf w' Bad' i v v1 v2 v3 := by
  obtain ⟨n, hn, h0, h1, h2, h3, hB⟩ := h
  refine ⟨n, hn, h0.same (fun g hg => hk g (h0.blk hg).1 (hB g (.inl hg))), h1.same (fun g hg => hk g (h1.blk hg).1 (hB g (.inr (.inl hg)))), h2.same (fun g hg => hk g (h2.blk hg).1 (hB g (.inr (.inr (.inl hg))))), h3.same (fun g hg => hk g (h3.blk hg).1 (hB g (.inr (.inr (.inr hg))))), ?_⟩
  intro g hg hb'
  have hlt : g < w.heap.size := by
    rcases hg with h | h | h | h
    · exact (h0.blk h).1
    · exact (h1.blk h).1
    · exact (h2.blk h).1
    · exact (h3.blk h).1
  exact hB g hg (hb g hlt hb')

def BookX (e size : Nat) (xf : Nat → Nat → Value) (te : Nat) (w : World) (base : Nat) (Bad : Nat → Prop) (V : Value) (nb : Nat) : Prop :=
  ∃ xs, w.ownsRow base te 5 V nb xs ∧ ∀ i, i < nb → ∃ v v1 v2 v3, xs[i * 5]? = some v ∧ xs[i * 5 + 1]? = some v1 ∧ xs[i * 5 + 2]? = some v2 ∧ xs[i * 5 + 3]? = some v3 ∧ xs[i * 5 + 4]? = some (.int .i64 (i : Int)) ∧ Ent e size xf w Bad i v v1 v2 v3

theorem BookX.kept {e size : Nat} {xf : Nat → Nat → Value} {te : Nat} {w w' : World} {base : Nat} {Bad Bad' : Nat → Prop} {V : Value} {nb : Nat} (h : BookX e size xf te w base Bad V nb)
    (hV : ∀ g, V.ownBlock = some g → w'.heap[g]? = w.heap[g]?) (hk : ∀ g, g < w.heap.size → ¬ Bad g → w'.heap[g]? = w.heap[g]?) (hb : ∀ g, g < w.heap.size → Bad' g → Bad g) : BookX e size xf te w' base Bad' V nb := by
  obtain ⟨xs, ho, he⟩ := h
  refine ⟨xs, ⟨ho.1, ?_⟩, fun i hi => ?_⟩
  · rcases ho.2 with h | ⟨g, cap, cur, rfl, hbg, hgg, r⟩
    · exact .inl h
    · exact .inr ⟨g, cap, cur, rfl, hbg, (hV g rfl).trans hgg, r⟩
  · obtain ⟨v, v1, v2, v3, q0, q1, q2, q3, q4, hE⟩ := he i hi
    exact ⟨v, v1, v2, v3, q0, q1, q2, q3, q4, hE.kept hk hb⟩

structure Fix where
  W : Nat
  SB : Nat
  RB : Nat
  cs : Nat
  cr : Nat
  B : Nat → Nat
  R : Nat → Nat

def Fix.mem (f : Fix) (g : Nat) : Prop := g = f.W ∨ g = f.SB ∨ g = f.RB ∨ ∃ k, k < 2 ∧ (g = f.B k ∨ g = f.R k)

structure Fix.Apart (f : Fix) : Prop where
  ws : f.W ≠ f.SB
  wr : f.W ≠ f.RB
  sr : f.SB ≠ f.RB
  wb : ∀ k, k < 2 → f.W ≠ f.B k ∧ f.W ≠ f.R k
  sb : ∀ k, k < 2 → f.SB ≠ f.B k ∧ f.SB ≠ f.R k
  rb : ∀ k, k < 2 → f.RB ≠ f.B k ∧ f.RB ≠ f.R k
  br : ∀ k j, k < 2 → j < 2 → f.B k ≠ f.R j
  bb : ∀ k j, k < 2 → j < 2 → f.B k = f.B j → k = j
  rr : ∀ k j, k < 2 → j < 2 → f.R k = f.R j → k = j

def Bad (f : Fix) (X : Nat → Prop) (vb vp : Value) (g : Nat) : Prop := f.mem g ∨ vb.ownBlock = some g ∨ vp.ownBlock = some g ∨ X g

structure Inv (w0 : World) (f : Fix) (X : Nat → Prop) (s t : Nat → Sc) (vb vp : Value) (nb np : Nat) (w : World) : Prop where
  bel : Below w0.heap.size w0 w
  ap : f.Apart
  lo : ∀ g, f.mem g → w0.heap.size ≤ g
  blk : w.heap[f.W]? = some (.cells #[.slice none 0 0, .slice none 0 0, .slice (some ⟨f.SB, 0, none⟩) 2 f.cs, .slice (some ⟨f.RB, 0, none⟩) 2 f.cr, vb, vp] 82 (0, 0))
  sb : ∀ k, k < 2 → w.cell? ⟨f.SB, k, none⟩ = some (.pointer (some ⟨f.B k, 0, none⟩))
  rb : ∀ k, k < 2 → w.cell? ⟨f.RB, k, none⟩ = some (.pointer (some ⟨f.R k, 0, none⟩))
  sc : ∀ k, k < 2 → ScAt w (f.B k) (s k)
  rs : ∀ k, k < 2 → RsAt w (f.R k) (t k)
  bk : BookX 5 1 xfB 139 w w0.heap.size (Bad f X vb vp) vb nb
  pk : BookX 152 3 xfP 142 w w0.heap.size (Bad f X vb vp) vp np
  vbm : ∀ g, vb.ownBlock = some g → ¬ f.mem g ∧ vp.ownBlock ≠ some g ∧ ¬ X g
  vpm : ∀ g, vp.ownBlock = some g → ¬ f.mem g ∧ ¬ X g
  xm : ∀ g, X g → ¬ f.mem g ∧ w0.heap.size ≤ g

section
variable {w0 : World} {f : Fix} {X : Nat → Prop} {s t : Nat → Sc} {vb vp : Value} {nb np : Nat} {w : World}

theorem ScAt.sameBlock {w w' : World} {B : Nat} {s : Sc} (h : ScAt w B s) (hb : w'.heap[B]? = w.heap[B]?) : ScAt w' B s := by
  have hc : ∀ o, w'.cell? ⟨B, o, none⟩ = w.cell? ⟨B, o, none⟩ := fun o => World.cell?_of_block (a := ⟨B, o, none⟩) hb
  have hf : ∀ o, w'.frozen? ⟨B, o, none⟩ = w.frozen? ⟨B, o, none⟩ := fun o => World.frozen?_of_block (a := ⟨B, o, none⟩) hb
  exact ⟨h.st3, h.len, by rw [hc]; exact h.cst, by rw [hc]; exact h.cnt, by rw [hc]; exact h.csum, fun i hi => by rw [hc]; exact h.bytes i hi, fun i hi => by rw [hc]; exact h.there i hi, fun o => by rw [hf]; exact h.free o⟩
theorem RsAt.sameBlock {w w' : World} {R : Nat} {s : Sc} (h : RsAt w R s) (hb : w'.heap[R]? = w.heap[R]?) : RsAt w' R s := by
  have hc : ∀ o, w'.cell? ⟨R, o, none⟩ = w.cell? ⟨R, o, none⟩ := fun o => World.cell?_of_block (a := ⟨R, o, none⟩) hb
  have hf : ∀ o, w'.frozen? ⟨R, o, none⟩ = w.frozen? ⟨R, o, none⟩ := fun o => World.frozen?_of_block (a := ⟨R, o, none⟩) hb
  exact ⟨h.st3, h.len, ⟨by rw [hc]; exact h.cells.c0, by rw [hc]; exact h.cells.c1, by rw [hc]; exact h.cells.c2, fun o => by rw [hf]; exact h.cells.free o⟩⟩

theorem BookX.vlt {e size : Nat} {xf : Nat → Nat → Value} {te : Nat} {w : World} {base : Nat} {Bad : Nat → Prop} {V : Value} {nb g : Nat} (h : BookX e size xf te w base Bad V nb) (hg : V.ownBlock = some g) : base ≤ g ∧ g < w.heap.size := by
  obtain ⟨xs, ho, _⟩ := h; exact ho.lt g hg

theorem Inv.wlt (h : Inv w0 f X s t vb vp nb np w) : f.W < w.heap.size := (Array.getElem?_eq_some_iff.1 h.blk).1

/-- Whatever is done to blocks of X, or new ones. -/
theorem Inv.kept {w' : World} {X' : Nat → Prop} (h : Inv w0 f X s t vb vp nb np w) (h1 : w'.os = w.os) (h2 : w'.tape = w.tape) (h3 : w'.output = w.output) (h4 : w.heap.size ≤ w'.heap.size)
    (hk : ∀ g, g < w.heap.size → ¬ X g → w'.heap[g]? = w.heap[g]?) (hx : ∀ g, X' g → X g ∨ w.heap.size ≤ g) : Inv w0 f X' s t vb vp nb np w' := by
  have hmem : ∀ g, f.mem g → g < w.heap.size → w'.heap[g]? = w.heap[g]? := fun g hg hl => hk g hl (fun hX => (h.xm g hX).1 hg)
  have hsb : f.SB < w.heap.size := World.block_lt_of_cell? w ⟨f.SB, 0, none⟩ (h.sb 0 (by omega))
  have hrb : f.RB < w.heap.size := World.block_lt_of_cell? w ⟨f.RB, 0, none⟩ (h.rb 0 (by omega))
  have hbad : ∀ g, g < w.heap.size → Bad f X' vb vp g → Bad f X vb vp g := by
    rintro g hl (h | h | h | h)
    · exact .inl h
    · exact .inr (.inl h)
    · exact .inr (.inr (.inl h))
    · rcases hx g h with h' | h'
      · exact .inr (.inr (.inr h'))
      · omega
  have hkb : ∀ g, g < w.heap.size → ¬ Bad f X vb vp g → w'.heap[g]? = w.heap[g]? := fun g hl hB => hk g hl (fun hX => hB (.inr (.inr (.inr hX))))
  have hmlt : ∀ g, f.mem g → g < w.heap.size := by
    rintro g (rfl | rfl | rfl | ⟨k, hk2, rfl | rfl⟩)
    · exact h.wlt
    · exact hsb
    · exact hrb
    · exact (h.sc k hk2).lt
    · exact (h.rs k hk2).cells.lt
  refine ⟨?_, h.ap, h.lo, (hmem f.W (.inl rfl) h.wlt).trans h.blk, ?_, ?_, ?_, ?_, ?_, ?_, ?_, ?_, ?_⟩
  · refine ⟨h1.trans h.bel.os, h2.trans h.bel.tape, h3.trans h.bel.output, Nat.le_trans h.bel.size h4, fun k hk' => (hk k (Nat.lt_of_lt_of_le hk' h.bel.size) (fun hX => by have := (h.xm k hX).2; omega)).trans (h.bel.block k hk')⟩
  · intro k hk2; rw [World.cell?_of_block (a := ⟨f.SB, k, none⟩) (hmem f.SB (.inr (.inl rfl)) hsb)]; exact h.sb k hk2
  · intro k hk2; rw [World.cell?_of_block (a := ⟨f.RB, k, none⟩) (hmem f.RB (.inr (.inr (.inl rfl))) hrb)]; exact h.rb k hk2
  · intro k hk2; exact (h.sc k hk2).sameBlock (hmem _ (.inr (.inr (.inr ⟨k, hk2, .inl rfl⟩))) (h.sc k hk2).lt)
  · intro k hk2; exact (h.rs k hk2).sameBlock (hmem _ (.inr (.inr (.inr ⟨k, hk2, .inr rfl⟩))) (h.rs k hk2).cells.lt)
  · exact h.bk.kept (fun g hg => hk g (h.bk.vlt hg).2 (h.vbm g hg).2.2) hkb hbad
  · exact h.pk.kept (fun g hg => hk g (h.pk.vlt hg).2 (h.vpm g hg).2) hkb hbad
  · intro g hg
    refine ⟨(h.vbm g hg).1, (h.vbm g hg).2.1, fun hX => ?_⟩
    rcases hx g hX with h' | h'
    · exact (h.vbm g hg).2.2 h'
    · have := (h.bk.vlt hg).2; omega
  · intro g hg
    refine ⟨(h.vpm g hg).1, fun hX => ?_⟩
    rcases hx g hX with h' | h'
    · exact (h.vpm g hg).2 h'
    · have := (h.pk.vlt hg).2; omega
  · intro g hX
    rcases hx g hX with h' | h'
    · exact h.xm g h'
    · exact ⟨fun hm => by have := hmlt g hm; omega, by have := h.bel.size; omega⟩

/-- New blocks alone. -/
theorem Inv.below {w' : World} (h : Inv w0 f X s t vb vp nb np w) (hb : Below w.heap.size w w') : Inv w0 f X s t vb vp nb np w' :=
  h.kept hb.os hb.tape hb.output hb.size (fun g hl _ => hb.block g hl) (fun _ hX => .inl hX)
theorem Inv.fresh {w' : World} (h : Inv w0 f X s t vb vp nb np w) (hb : Below w.heap.size w w') : Inv w0 f (fun g => X g ∨ w.heap.size ≤ g) s t vb vp nb np w' :=
  h.kept hb.os hb.tape hb.output hb.size (fun g hl _ => hb.block g hl) (fun _ hX => hX)
theorem Inv.inX {w' : World} {g : Nat} (h : Inv w0 f X s t vb vp nb np w) (hg : w.grownBy w' (some g)) (hX : X g) : Inv w0 f X s t vb vp nb np w' :=
  h.kept hg.os hg.tape hg.output hg.size (fun k hl hnX => hg.block k hl (fun e => by injection e with e; subst e; exact hnX hX)) (fun _ hX => .inl hX)
theorem Inv.lessX {X' : Nat → Prop} (h : Inv w0 f X s t vb vp nb np w) (hx : ∀ g, X' g → X g) : Inv w0 f X' s t vb vp nb np w :=
  h.kept rfl rfl rfl (Nat.le_refl _) (fun _ _ _ => rfl) (fun g hX => .inl (hx g hX))
end

end Go.Proofs.YtcgjliflnnklnaaGreat
