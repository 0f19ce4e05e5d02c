/-
  Joined texts.
-/
import Derived.Deep.RegionLaw
import Derived.Test.YtcgjliflnnklnaaGreatRwLgz
import Derived.Test.YtcgjliflnnklnaaGreatJ13
namespace Go.Proofs.YtcgjliflnnklnaaGreat
open Go.RowKit

/-
  The law Cycles, walked: a step of every kind.
-/
section
set_option maxRecDepth 100000
set_option maxHeartbeats 8000000

theorem step_none (w0 : World) (W : Nat) (x1 x2 : Value) (tag : Nat → Nat) (ms : List Mc) (vm : Value) (w : World) (h : IvC w0 W x1 x2 tag ms vm w) (k a b : Int) (S : BA) (n q : Bool) (ca : Option Addr) (cl cc : Nat) (rom : Int) (hk : k = 2 ∨ k = 3 ∨ k = 4) (h0 : ms.length = 0) :
    Calls Tryz.prog 31 #[.pointer (some ⟨W, 0, none⟩), .agg #[.int .i64 k, .int .i64 a, .int .i64 b, .string S, .bool n, .bool q, .slice ca cl cc, .int .i64 rom]] w fun e w' => e = .returned (.bool true) ∧ SteppedC w0 W x1 x2 ms w' := by
  obtain ⟨p, c, rfl⟩ := own_slice h.own
  have y1 : w.cell? ⟨W, 0, none⟩ = some (.slice p ms.length c) := h.blk.cell 0
  have y0 : w.cell? ⟨W, 0, none⟩ = some (.slice p 0 c) := y1.trans (by rw [h0])
  have yl := h.blk.lt
  have HI : Hid (∀ o, SteppedC w0 W x1 x2 ms (w.alloc o)) := fun o => ⟨tag, ms, _, by omega, h.below ((Below.refl _ _).alloc (Nat.le_refl _) _)⟩
  clear h h0 y1
  rcases hk with rfl | rfl | rfl
  all_goals
    go_enter Tryz.func31, Tryz.ntmps31
    go_wp2
    go_ret
    exact ⟨rfl, HI.out _⟩

/-- An operation of a script, of a kind that the law plays. -/
structure OpC (N : Nat) (w : World) (k a b : Int) (v : Value) : Prop where
  k : k = 1 ∨ k = 2 ∨ k = 3 ∨ k = 4
  a1 : -9223372036854775808 ≤ a
  a2 : a ≤ 9223372036854775807
  b1 : -9223372036854775808 ≤ b
  b2 : b ≤ 9223372036854775807
  c : ∃ cs, CfAt N w v cs ∧ cs.length ≤ 2000000 ∧ (∀ c ∈ cs, c.bs.length ≤ 2000000) ∧ total cs ≤ 100000000

theorem step_anyC (w0 : World) (W : Nat) (x1 x2 : Value) (tag : Nat → Nat) (ms : List Mc) (vm : Value) (w : World) (h : IvC w0 W x1 x2 tag ms vm w) (hms : ms.length ≤ 9000000) (k a b : Int) (S : BA) (n q : Bool) (v : Value) (rom : Int) (o : OpC w0.heap.size w k a b v) :
    Calls Tryz.prog 31 #[.pointer (some ⟨W, 0, none⟩), .agg #[.int .i64 k, .int .i64 a, .int .i64 b, .string S, .bool n, .bool q, v, .int .i64 rom]] w fun e w' => e = .returned (.bool true) ∧ SteppedC w0 W x1 x2 ms w' := by
  obtain ⟨cs, hc, c1, c2, c3⟩ := o.c
  rcases o.k with rfl | hk
  · exact step_new w0 W x1 x2 tag ms vm w h hms a b S n q v rom cs hc c1 c2 c3
  · obtain ⟨p, cap, rfl, -⟩ := hc
    by_cases h0 : ms.length = 0
    · exact step_none w0 W x1 x2 tag ms vm w h k a b S n q p _ cap rom hk h0
    · exact step_run w0 W x1 x2 tag ms vm w h hms k a b S n q p _ cap rom o.a1 o.a2 o.b1 o.b2 hk (by omega)
end

/-
  What holds between the steps of a script: the law's world, its scans and the document's, and the book.
-/
section
/-- An entry of the book: a list and three begun at it; each entry of each is the mark of number i; none lies in a bad block. -/
def Ent (e size : Nat) (xf : Nat → Nat → Value) (w : World) (Bad : Nat → Prop) (i : Nat) (v v1 v2 v3 : Value) : Prop :=
  ∃ n, n ≤ 100000000 ∧ AllX e size (xf i) none 0 w v n ∧ AllX e size (xf i) none 0 w v1 (n + 1) ∧ AllX e size (xf i) none 0 w v2 (n + 2) ∧ AllX e size (xf i) none 0 w v3 (n + 64) ∧
    ∀ g, (v.ownBlock = some g ∨ v1.ownBlock = some g ∨ v2.ownBlock = some g ∨ v3.ownBlock = some g) → ¬ Bad g

theorem AllX.blk {e size : Nat} {xf : Nat → Value} {row : Option Nat} {H : Nat} {w : World} {v : Value} {n g : Nat} (h : AllX e size xf row H w v n) (hg : v.ownBlock = some g) : g < w.heap.size ∧ Ok row H g := by
  rcases h with ⟨rfl, _⟩ | ⟨g', cap, rfl, ho, _, hr, _⟩
  · simp [Value.ownBlock] at hg
  · simp [Value.ownBlock] at hg; subst hg; exact ⟨hr.lt, ho⟩
theorem AllX.same {e size : Nat} {xf : Nat → Value} {w w' : World} {v : Value} {n : Nat} (h : AllX e size xf none 0 w v n) (hk : ∀ g, v.ownBlock = some g → w'.heap[g]? = w.heap[g]?) : AllX e size xf none 0 w' v n := by
  rcases h with h | ⟨g, cap, rfl, ho, hn, ⟨cur, h1, h2⟩, hc⟩
  · exact .inl h
  · have hb := hk g rfl
    exact .inr ⟨g, cap, rfl, ho, hn, ⟨cur, hb.trans h1, h2⟩, fun i hi => by rw [World.cell?_of_block (a := ⟨g, i, none⟩) hb]; exact hc i hi⟩
theorem AllX.free {e size : Nat} {xf : Nat → Value} {row : Option Nat} {H : Nat} {w : World} {v : Value} {n : Nat} (h : AllX e size xf row H w v n) : AllX e size xf none 0 w v n := by
  rcases h with h | ⟨g, cap, rfl, _, hn, hr, hc⟩
  · exact .inl h
  · exact .inr ⟨g, cap, rfl, .inr (Nat.zero_le _), hn, hr, hc⟩

theorem Ent.kept {e size : Nat} {xf : Nat → Nat → Value} {w w' : World} {Bad Bad' : Nat → Prop} {i : Nat} {v v1 v2 v3 : Value} (h : Ent e size xf w Bad i v v1 v2 v3)
    (hk : ∀ g, g < w.heap.size → ¬ Bad g → w'.heap[g]? = w.heap[g]?) (hb : ∀ g, g < w.heap.size → Bad' g → Bad g) : Ent e size xf w' Bad' i v v1 v2 v3 := by
  obtain ⟨n, hn, h0, h1, h2, h3, hB⟩ := h
  refine ⟨n, hn, h0.same (fun g hg => hk g (h0.blk hg).1 (hB g (.inl hg))), h1.same (fun g hg => hk g (h1.blk hg).1 (hB g (.inr (.inl hg)))), h2.same (fun g hg => hk g (h2.blk hg).1 (hB g (.inr (.inr (.inl hg))))), h3.same (fun g hg => hk g (h3.blk hg).1 (hB g (.inr (.inr (.inr hg))))), ?_⟩
  intro g hg hb'
  have hlt : g < w.heap.size := by
    rcases hg with h | h | h | h
    · exact (h0.blk h).1
    · exact (h1.blk h).1
    · exact (h2.blk h).1
    · exact (h3.blk h).1
  exact hB g hg (hb g hlt hb')

def BookX (e size : Nat) (xf : Nat → Nat → Value) (te : Nat) (w : World) (base : Nat) (Bad : Nat → Prop) (V : Value) (nb : Nat) : Prop :=
  ∃ xs, w.ownsRow base te 5 V nb xs ∧ ∀ i, i < nb → ∃ v v1 v2 v3, xs[i * 5]? = some v ∧ xs[i * 5 + 1]? = some v1 ∧ xs[i * 5 + 2]? = some v2 ∧ xs[i * 5 + 3]? = some v3 ∧ xs[i * 5 + 4]? = some (.int .i64 (i : Int)) ∧ Ent e size xf w Bad i v v1 v2 v3

theorem BookX.kept {e size : Nat} {xf : Nat → Nat → Value} {te : Nat} {w w' : World} {base : Nat} {Bad Bad' : Nat → Prop} {V : Value} {nb : Nat} (h : BookX e size xf te w base Bad V nb)
    (hV : ∀ g, V.ownBlock = some g → w'.heap[g]? = w.heap[g]?) (hk : ∀ g, g < w.heap.size → ¬ Bad g → w'.heap[g]? = w.heap[g]?) (hb : ∀ g, g < w.heap.size → Bad' g → Bad g) : BookX e size xf te w' base Bad' V nb := by
  obtain ⟨xs, ho, he⟩ := h
  refine ⟨xs, ⟨ho.1, ?_⟩, fun i hi => ?_⟩
  · rcases ho.2 with h | ⟨g, cap, cur, rfl, hbg, hgg, r⟩
    · exact .inl h
    · exact .inr ⟨g, cap, cur, rfl, hbg, (hV g rfl).trans hgg, r⟩
  · obtain ⟨v, v1, v2, v3, q0, q1, q2, q3, q4, hE⟩ := he i hi
    exact ⟨v, v1, v2, v3, q0, q1, q2, q3, q4, hE.kept hk hb⟩

structure Fix where
  W : Nat
  SB : Nat
  RB : Nat
  cs : Nat
  cr : Nat
  B : Nat → Nat
  R : Nat → Nat

def Fix.mem (f : Fix) (g : Nat) : Prop := g = f.W ∨ g = f.SB ∨ g = f.RB ∨ ∃ k, k < 2 ∧ (g = f.B k ∨ g = f.R k)

structure Fix.Apart (f : Fix) : Prop where
  ws : f.W ≠ f.SB
  wr : f.W ≠ f.RB
  sr : f.SB ≠ f.RB
  wb : ∀ k, k < 2 → f.W ≠ f.B k ∧ f.W ≠ f.R k
  sb : ∀ k, k < 2 → f.SB ≠ f.B k ∧ f.SB ≠ f.R k
  rb : ∀ k, k < 2 → f.RB ≠ f.B k ∧ f.RB ≠ f.R k
  br : ∀ k j, k < 2 → j < 2 → f.B k ≠ f.R j
  bb : ∀ k j, k < 2 → j < 2 → f.B k = f.B j → k = j
  rr : ∀ k j, k < 2 → j < 2 → f.R k = f.R j → k = j

def Bad (f : Fix) (X : Nat → Prop) (vb vp : Value) (g : Nat) : Prop := f.mem g ∨ vb.ownBlock = some g ∨ vp.ownBlock = some g ∨ X g

structure Inv (w0 : World) (f : Fix) (X : Nat → Prop) (s t : Nat → Sc) (vb vp : Value) (nb np : Nat) (w : World) : Prop where
  bel : Below w0.heap.size w0 w
  ap : f.Apart
  lo : ∀ g, f.mem g → w0.heap.size ≤ g
  blk : w.heap[f.W]? = some (.cells #[.slice none 0 0, .slice none 0 0, .slice (some ⟨f.SB, 0, none⟩) 2 f.cs, .slice (some ⟨f.RB, 0, none⟩) 2 f.cr, vb, vp] 82 (0, 0))
  sb : ∀ k, k < 2 → w.cell? ⟨f.SB, k, none⟩ = some (.pointer (some ⟨f.B k, 0, none⟩))
  rb : ∀ k, k < 2 → w.cell? ⟨f.RB, k, none⟩ = some (.pointer (some ⟨f.R k, 0, none⟩))
  sc : ∀ k, k < 2 → ScAt w (f.B k) (s k)
  rs : ∀ k, k < 2 → RsAt w (f.R k) (t k)
  bk : BookX 5 1 xfB 139 w w0.heap.size (Bad f X vb vp) vb nb
  pk : BookX 152 3 xfP 142 w w0.heap.size (Bad f X vb vp) vp np
  vbm : ∀ g, vb.ownBlock = some g → ¬ f.mem g ∧ vp.ownBlock ≠ some g ∧ ¬ X g
  vpm : ∀ g, vp.ownBlock = some g → ¬ f.mem g ∧ ¬ X g
  xm : ∀ g, X g → ¬ f.mem g ∧ w0.heap.size ≤ g

section
variable {w0 : World} {f : Fix} {X : Nat → Prop} {s t : Nat → Sc} {vb vp : Value} {nb np : Nat} {w : World}

theorem ScAt.sameBlock {w w' : World} {B : Nat} {s : Sc} (h : ScAt w B s) (hb : w'.heap[B]? = w.heap[B]?) : ScAt w' B s := by
  have hc : ∀ o, w'.cell? ⟨B, o, none⟩ = w.cell? ⟨B, o, none⟩ := fun o => World.cell?_of_block (a := ⟨B, o, none⟩) hb
  have hf : ∀ o, w'.frozen? ⟨B, o, none⟩ = w.frozen? ⟨B, o, none⟩ := fun o => World.frozen?_of_block (a := ⟨B, o, none⟩) hb
  exact ⟨h.st3, h.len, by rw [hc]; exact h.cst, by rw [hc]; exact h.cnt, by rw [hc]; exact h.csum, fun i hi => by rw [hc]; exact h.bytes i hi, fun i hi => by rw [hc]; exact h.there i hi, fun o => by rw [hf]; exact h.free o⟩
theorem RsAt.sameBlock {w w' : World} {R : Nat} {s : Sc} (h : RsAt w R s) (hb : w'.heap[R]? = w.heap[R]?) : RsAt w' R s := by
  have hc : ∀ o, w'.cell? ⟨R, o, none⟩ = w.cell? ⟨R, o, none⟩ := fun o => World.cell?_of_block (a := ⟨R, o, none⟩) hb
  have hf : ∀ o, w'.frozen? ⟨R, o, none⟩ = w.frozen? ⟨R, o, none⟩ := fun o => World.frozen?_of_block (a := ⟨R, o, none⟩) hb
  exact ⟨h.st3, h.len, ⟨by rw [hc]; exact h.cells.c0, by rw [hc]; exact h.cells.c1, by rw [hc]; exact h.cells.c2, fun o => by rw [hf]; exact h.cells.free o⟩⟩

theorem BookX.vlt {e size : Nat} {xf : Nat → Nat → Value} {te : Nat} {w : World} {base : Nat} {Bad : Nat → Prop} {V : Value} {nb g : Nat} (h : BookX e size xf te w base Bad V nb) (hg : V.ownBlock = some g) : base ≤ g ∧ g < w.heap.size := by
  obtain ⟨xs, ho, _⟩ := h; exact ho.lt g hg

theorem Inv.wlt (h : Inv w0 f X s t vb vp nb np w) : f.W < w.heap.size := (Array.getElem?_eq_some_iff.1 h.blk).1

/-- Whatever is done to blocks of X, or new ones. -/
theorem Inv.kept {w' : World} {X' : Nat → Prop} (h : Inv w0 f X s t vb vp nb np w) (h1 : w'.os = w.os) (h2 : w'.tape = w.tape) (h3 : w'.output = w.output) (h4 : w.heap.size ≤ w'.heap.size)
    (hk : ∀ g, g < w.heap.size → ¬ X g → w'.heap[g]? = w.heap[g]?) (hx : ∀ g, X' g → X g ∨ w.heap.size ≤ g) : Inv w0 f X' s t vb vp nb np w' := by
  have hmem : ∀ g, f.mem g → g < w.heap.size → w'.heap[g]? = w.heap[g]? := fun g hg hl => hk g hl (fun hX => (h.xm g hX).1 hg)
  have hsb : f.SB < w.heap.size := World.block_lt_of_cell? w ⟨f.SB, 0, none⟩ (h.sb 0 (by omega))
  have hrb : f.RB < w.heap.size := World.block_lt_of_cell? w ⟨f.RB, 0, none⟩ (h.rb 0 (by omega))
  have hbad : ∀ g, g < w.heap.size → Bad f X' vb vp g → Bad f X vb vp g := by
    rintro g hl (h | h | h | h)
    · exact .inl h
    · exact .inr (.inl h)
    · exact .inr (.inr (.inl h))
    · rcases hx g h with h' | h'
      · exact .inr (.inr (.inr h'))
      · omega
  have hkb : ∀ g, g < w.heap.size → ¬ Bad f X vb vp g → w'.heap[g]? = w.heap[g]? := fun g hl hB => hk g hl (fun hX => hB (.inr (.inr (.inr hX))))
  have hmlt : ∀ g, f.mem g → g < w.heap.size := by
    rintro g (rfl | rfl | rfl | ⟨k, hk2, rfl | rfl⟩)
    · exact h.wlt
    · exact hsb
    · exact hrb
    · exact (h.sc k hk2).lt
    · exact (h.rs k hk2).cells.lt
  refine ⟨?_, h.ap, h.lo, (hmem f.W (.inl rfl) h.wlt).trans h.blk, ?_, ?_, ?_, ?_, ?_, ?_, ?_, ?_, ?_⟩
  · refine ⟨h1.trans h.bel.os, h2.trans h.bel.tape, h3.trans h.bel.output, Nat.le_trans h.bel.size h4, fun k hk' => (hk k (Nat.lt_of_lt_of_le hk' h.bel.size) (fun hX => by have := (h.xm k hX).2; omega)).trans (h.bel.block k hk')⟩
  · intro k hk2; rw [World.cell?_of_block (a := ⟨f.SB, k, none⟩) (hmem f.SB (.inr (.inl rfl)) hsb)]; exact h.sb k hk2
  · intro k hk2; rw [World.cell?_of_block (a := ⟨f.RB, k, none⟩) (hmem f.RB (.inr (.inr (.inl rfl))) hrb)]; exact h.rb k hk2
  · intro k hk2; exact (h.sc k hk2).sameBlock (hmem _ (.inr (.inr (.inr ⟨k, hk2, .inl rfl⟩))) (h.sc k hk2).lt)
  · intro k hk2; exact (h.rs k hk2).sameBlock (hmem _ (.inr (.inr (.inr ⟨k, hk2, .inr rfl⟩))) (h.rs k hk2).cells.lt)
  · exact h.bk.kept (fun g hg => hk g (h.bk.vlt hg).2 (h.vbm g hg).2.2) hkb hbad
  · exact h.pk.kept (fun g hg => hk g (h.pk.vlt hg).2 (h.vpm g hg).2) hkb hbad
  · intro g hg
    refine ⟨(h.vbm g hg).1, (h.vbm g hg).2.1, fun hX => ?_⟩
    rcases hx g hX with h' | h'
    · exact (h.vbm g hg).2.2 h'
    · have := (h.bk.vlt hg).2; omega
  · intro g hg
    refine ⟨(h.vpm g hg).1, fun hX => ?_⟩
    rcases hx g hX with h' | h'
    · exact (h.vpm g hg).2 h'
    · have := (h.pk.vlt hg).2; omega
  · intro g hX
    rcases hx g hX with h' | h'
    · exact h.xm g h'
    · exact ⟨fun hm => by have := hmlt g hm; omega, by have := h.bel.size; omega⟩

/-- New blocks alone. -/
theorem Inv.below {w' : World} (h : Inv w0 f X s t vb vp nb np w) (hb : Below w.heap.size w w') : Inv w0 f X s t vb vp nb np w' :=
  h.kept hb.os hb.tape hb.output hb.size (fun g hl _ => hb.block g hl) (fun _ hX => .inl hX)
theorem Inv.fresh {w' : World} (h : Inv w0 f X s t vb vp nb np w) (hb : Below w.heap.size w w') : Inv w0 f (fun g => X g ∨ w.heap.size ≤ g) s t vb vp nb np w' :=
  h.kept hb.os hb.tape hb.output hb.size (fun g hl _ => hb.block g hl) (fun _ hX => hX)
end
end

/-
  One entry more in the book.
-/
section
section
variable {w0 : World} {f : Fix} {X : Nat → Prop} {s t : Nat → Sc} {vb vp : Value} {nb np : Nat} {w w3 : World}

theorem set_blk {w : World} {W k : Nat} {cs : Array Value} {T : TypeId} (h : w.heap[W]? = some (.cells cs T (0, 0))) (v : Value) : (w.setCell ⟨W, k, none⟩ v).heap[W]? = some (.cells (cs.setIfInBounds k v) T (0, 0)) := by
  simp only [World.setCell, Array.getElem?_modify, h]; simp

end
end

/-
  The book's byte: a list of bytes that came out is its owner's.
-/
section
set_option maxRecDepth 100000
set_option maxHeartbeats 600000

/-- A list that the owner may write over: nil, or a row of its own. -/
def Out (e size : Nat) (w : World) (X : Nat → Prop) (v : Value) (n : Nat) : Prop := (v = .slice none 0 0 ∧ n = 0) ∨ ∃ g cap, v = .slice (some ⟨g, 0, none⟩) n cap ∧ n ≤ cap ∧ RowAt w g e size cap ∧ X g

section
variable {w0 : World} {f : Fix} {X : Nat → Prop} {s t : Nat → Sc} {vb vp : Value} {nb np : Nat} {w w1 : World}

theorem Out.blk {e size : Nat} {v : Value} {n g : Nat} (h : Out e size w X v n) (hg : v.ownBlock = some g) : X g := by
  rcases h with ⟨rfl, _⟩ | ⟨g', cap, rfl, _, _, hX⟩
  · simp [Value.ownBlock] at hg
  · simp [Value.ownBlock] at hg; subst hg; exact hX

theorem Inv.own {e size : Nat} {v : Value} {n : Nat} (h : Inv w0 f X s t vb vp nb np w) (hv : Out e size w X v n) (hg : w.grownBy w1 v.ownBlock) : Inv w0 f (fun g => X g ∧ v.ownBlock ≠ some g) s t vb vp nb np w1 :=
  h.kept hg.os hg.tape hg.output hg.size (fun k hl hnX => hg.block k hl (fun e => hnX (hv.blk e.symm))) (fun _ hX => .inl hX.1)

theorem Inv.cell (h : Inv w0 f X s t vb vp nb np w) : w.cell? ⟨f.W, 2, none⟩ = some (.slice (some ⟨f.SB, 0, none⟩) 2 f.cs) ∧ w.cell? ⟨f.W, 3, none⟩ = some (.slice (some ⟨f.RB, 0, none⟩) 2 f.cr) ∧ w.cell? ⟨f.W, 4, none⟩ = some vb ∧ w.cell? ⟨f.W, 5, none⟩ = some vp ∧ ∀ o, w.frozen? ⟨f.W, o, none⟩ = false := by
  have hc : ∀ o, w.cell? ⟨f.W, o, none⟩ = _ := fun o => cell_of_row w f.W o _ _ (0, 0) h.blk
  exact ⟨hc 2, hc 3, hc 4, hc 5, fun o => by simp [World.frozen?, h.blk]⟩

end

section
variable {w0 : World} {f : Fix} {X : Nat → Prop} {s t : Nat → Sc} {vb vp : Value} {nb np : Nat} {w w1 w3 : World}
end
end

/-
  The book's looks: each list that came out bears its own mark.
-/
section
set_option maxRecDepth 100000
set_option maxHeartbeats 2000000

theorem Ent.one {e size : Nat} {xf : Nat → Nat → Value} {w : World} {B : Nat → Prop} {i : Nat} {v v1 v2 v3 : Value} (h : Ent e size xf w B i v v1 v2 v3) : ∃ a0 k0 c0 a1 k1 c1 a2 k2 c2 a3 k3 c3, v = .slice a0 k0 c0 ∧ v1 = .slice a1 k1 c1 ∧ v2 = .slice a2 k2 c2 ∧ v3 = .slice a3 k3 c3 := by
  have sh : ∀ {u : Value} {n : Nat}, AllX e size (xf i) none 0 w u n → ∃ a k c, u = .slice a k c := by
    rintro u n (⟨rfl, _⟩ | ⟨g, cap, rfl, _⟩)
    · exact ⟨_, _, _, rfl⟩
    · exact ⟨_, _, _, rfl⟩
  obtain ⟨n, _, h0, h1, h2, h3, _⟩ := h
  obtain ⟨a0, k0, c0, e0⟩ := sh h0
  obtain ⟨a1, k1, c1, e1⟩ := sh h1
  obtain ⟨a2, k2, c2, e2⟩ := sh h2
  obtain ⟨a3, k3, c3, e3⟩ := sh h3
  exact ⟨a0, k0, c0, a1, k1, c1, a2, k2, c2, a3, k3, c3, e0, e1, e2, e3⟩
end

/-
  The law's world while its scans are made.
-/
section
def sc00 : Sc := ⟨0, [], 0⟩
def ptr (n : Nat) : Value := .pointer (some ⟨n, 0, none⟩)
def ptrs (B : Nat → Nat) (k : Nat) : List Value := (List.range k).map fun i => ptr (B i)

theorem own_same {w w' : World} {base te size n : Nat} {V : Value} {xs : List Value} (h : w.ownsRow base te size V n xs) (hV : ∀ g, V.ownBlock = some g → w'.heap[g]? = w.heap[g]?) : w'.ownsRow base te size V n xs := by
  refine ⟨h.1, ?_⟩
  rcases h.2 with h | ⟨g, cap, cur, rfl, hbg, hgg, r⟩
  · exact .inl h
  · exact .inr ⟨g, cap, cur, rfl, hbg, (hV g rfl).trans hgg, r⟩

theorem ptrs_push (B : Nat → Nat) (k n : Nat) : ptrs (fun i => if i = k then n else B i) (k + 1) = ptrs B k ++ [ptr n] := by
  unfold ptrs
  rw [List.range_succ, List.map_append]
  congr 1
  · exact List.map_congr_left fun i hi => by
      have h1 := List.mem_range.1 hi
      have h2 : i ≠ k := by omega
      simp [h2]
  · simp

structure Boot (w0 : World) (W : Nat) (tag : Nat → Nat) (B R : Nat → Nat) (ks kr : Nat) (vs vr : Value) (w : World) : Prop where
  bel : Below w0.heap.size w0 w
  loW : w0.heap.size ≤ W
  loB : ∀ i, i < ks → w0.heap.size ≤ B i
  loR : ∀ i, i < kr → w0.heap.size ≤ R i
  blk : w.heap[W]? = some (.cells #[.slice none 0 0, .slice none 0 0, vs, vr, .slice none 0 0, .slice none 0 0] 82 (0, 0))
  oS : w.ownsRow w0.heap.size 83 1 vs ks (ptrs B ks)
  oR : w.ownsRow w0.heap.size 85 1 vr kr (ptrs R kr)
  sc : ∀ i, i < ks → ScAt w (B i) sc00
  rs : ∀ i, i < kr → RsAt w (R i) sc00
  tW : tag W = 0
  tS : ∀ g, vs.ownBlock = some g → tag g = 1
  tR : ∀ g, vr.ownBlock = some g → tag g = 2
  tB : ∀ i, i < ks → tag (B i) = 3 + 2 * i
  tr : ∀ i, i < kr → tag (R i) = 4 + 2 * i

section
variable {w0 : World} {W : Nat} {tag : Nat → Nat} {B R : Nat → Nat} {ks kr : Nat} {vs vr : Value} {w : World}

theorem Boot.wlt (h : Boot w0 W tag B R ks kr vs vr w) : W < w.heap.size := (Array.getElem?_eq_some_iff.1 h.blk).1

theorem Boot.below {w' : World} (h : Boot w0 W tag B R ks kr vs vr w) (hb : Below w.heap.size w w') : Boot w0 W tag B R ks kr vs vr w' :=
  ⟨h.bel.trans (hb.mono h.bel.size), h.loW, h.loB, h.loR, (hb.block _ h.wlt).trans h.blk, own_same h.oS (fun g hg => hb.block g (h.oS.lt g hg).2), own_same h.oR (fun g hg => hb.block g (h.oR.lt g hg).2),
   fun i hi => (h.sc i hi).sameBlock (hb.block _ (h.sc i hi).lt), fun i hi => (h.rs i hi).sameBlock (hb.block _ (h.rs i hi).cells.lt), h.tW, h.tS, h.tR, h.tB, h.tr⟩

theorem Boot.tagged {tag' : Nat → Nat} (h : Boot w0 W tag B R ks kr vs vr w) (ht : ∀ g, g < w.heap.size → tag' g = tag g) : Boot w0 W tag' B R ks kr vs vr w :=
  ⟨h.bel, h.loW, h.loB, h.loR, h.blk, h.oS, h.oR, h.sc, h.rs, (ht _ h.wlt).trans h.tW, fun g hg => (ht g (h.oS.lt g hg).2).trans (h.tS g hg), fun g hg => (ht g (h.oR.lt g hg).2).trans (h.tR g hg),
   fun i hi => (ht _ (h.sc i hi).lt).trans (h.tB i hi), fun i hi => (ht _ (h.rs i hi).cells.lt).trans (h.tr i hi)⟩

theorem Boot.pushS {n g' cap' : Nat} {w3 : World} (h : Boot w0 W tag B R ks kr vs vr w) (hn : ScAt w n sc00) (hlo : w0.heap.size ≤ n) (htn : tag n = 3 + 2 * ks)
    (hown : w3.ownsRow w0.heap.size 83 1 (.slice (some ⟨g', 0, none⟩) (ks + 1) cap') (ks + 1) (ptrs B ks ++ [ptr n])) (hg : w.grownBy w3 vs.ownBlock) (hat : vs.ownBlock = some g' ∨ g' = w.heap.size) :
    Boot w0 W (fun g => if w.heap.size ≤ g then 1 else tag g) (fun i => if i = ks then n else B i) R (ks + 1) kr (.slice (some ⟨g', 0, none⟩) (ks + 1) cap') vr (w3.setCell ⟨W, 2, none⟩ (.slice (some ⟨g', 0, none⟩) (ks + 1) cap')) := by
  have hWne : some W ≠ vs.ownBlock := fun e => by have h1 := h.tS W e.symm; have h2 := h.tW; omega
  have hgW : g' ≠ W := by
    rcases hat with e | e
    · exact fun e2 => hWne (by rw [← e2]; exact e.symm)
    · have := h.wlt; omega
  have hkeep : ∀ g, g < w.heap.size → tag g ≠ 0 → tag g ≠ 1 → (w3.setCell ⟨W, 2, none⟩ (.slice (some ⟨g', 0, none⟩) (ks + 1) cap')).heap[g]? = w.heap[g]? := fun g hl h0 h1 => by
    rw [Below.heap_setCell _ _ _ _ (fun e => h0 (by rw [e]; exact h.tW))]
    exact hg.block g hl (fun e => h1 (h.tS g e.symm))
  have htag : ∀ g, g < w.heap.size → (if w.heap.size ≤ g then 1 else tag g) = tag g := fun g hl => if_neg (by omega)
  refine ⟨?_, h.loW, ?_, ?_, ?_, ?_, ?_, ?_, ?_, ?_, ?_, ?_, ?_, ?_⟩
  · have hloW := h.loW
    refine ⟨hg.os.trans h.bel.os, hg.tape.trans h.bel.tape, hg.output.trans h.bel.output, ?_, fun k hk => ?_⟩
    · have h1 := h.bel.size; have h2 := hg.size; simp; omega
    · rw [Below.heap_setCell _ _ _ _ (show k ≠ W by omega)]
      refine (hg.block k (by have := h.bel.size; omega) (fun e => ?_)).trans (h.bel.block k hk)
      have := (h.oS.lt k e.symm).1
      omega
  · intro i hi
    by_cases e : i = ks
    · simp [e]; exact hlo
    · simp [e]; exact h.loB i (by omega)
  · exact h.loR
  · exact set_blk ((hg.block W h.wlt hWne).trans h.blk) _
  · rw [ptrs_push]
    exact own_same hown (fun g e => by
      have e2 : g' = g := by simpa [Value.ownBlock] using e
      subst e2
      exact Below.heap_setCell _ _ _ _ hgW)
  · exact own_same h.oR (fun g e => hkeep g (h.oR.lt g e).2 (by rw [h.tR g e]; omega) (by rw [h.tR g e]; omega))
  · intro i hi
    by_cases e : i = ks
    · simp only [if_pos e]; exact hn.sameBlock (hkeep n hn.lt (by omega) (by omega))
    · simp only [if_neg e]; exact (h.sc i (by omega)).sameBlock (hkeep _ (h.sc i (by omega)).lt (by rw [h.tB i (by omega)]; omega) (by rw [h.tB i (by omega)]; omega))
  · intro i hi
    exact (h.rs i hi).sameBlock (hkeep _ (h.rs i hi).cells.lt (by rw [h.tr i hi]; omega) (by rw [h.tr i hi]; omega))
  · exact (htag _ h.wlt).trans h.tW
  · intro g e
    have e2 : g' = g := by simpa [Value.ownBlock] using e
    subst e2
    rcases hat with e | e
    · exact (htag _ (h.oS.lt _ e).2).trans (h.tS _ e)
    · exact if_pos (by omega)
  · intro g e
    exact (htag _ (h.oR.lt _ e).2).trans (h.tR _ e)
  · intro i hi
    by_cases e : i = ks
    · simp only [if_pos e]; exact (htag _ hn.lt).trans (by rw [htn, e])
    · simp only [if_neg e]; exact (htag _ (h.sc i (by omega)).lt).trans (h.tB i (by omega))
  · intro i hi
    exact (htag _ (h.rs i hi).cells.lt).trans (h.tr i hi)

theorem Boot.pushR {n g' cap' : Nat} {w3 : World} (h : Boot w0 W tag B R ks kr vs vr w) (hn : RsAt w n sc00) (hlo : w0.heap.size ≤ n) (htn : tag n = 4 + 2 * kr)
    (hown : w3.ownsRow w0.heap.size 85 1 (.slice (some ⟨g', 0, none⟩) (kr + 1) cap') (kr + 1) (ptrs R kr ++ [ptr n])) (hg : w.grownBy w3 vr.ownBlock) (hat : vr.ownBlock = some g' ∨ g' = w.heap.size) :
    Boot w0 W (fun g => if w.heap.size ≤ g then 2 else tag g) B (fun i => if i = kr then n else R i) ks (kr + 1) vs (.slice (some ⟨g', 0, none⟩) (kr + 1) cap') (w3.setCell ⟨W, 3, none⟩ (.slice (some ⟨g', 0, none⟩) (kr + 1) cap')) := by
  have hWne : some W ≠ vr.ownBlock := fun e => by have h1 := h.tR W e.symm; have h2 := h.tW; omega
  have hgW : g' ≠ W := by
    rcases hat with e | e
    · exact fun e2 => hWne (by rw [← e2]; exact e.symm)
    · have := h.wlt; omega
  have hkeep : ∀ g, g < w.heap.size → tag g ≠ 0 → tag g ≠ 2 → (w3.setCell ⟨W, 3, none⟩ (.slice (some ⟨g', 0, none⟩) (kr + 1) cap')).heap[g]? = w.heap[g]? := fun g hl h0 h1 => by
    rw [Below.heap_setCell _ _ _ _ (fun e => h0 (by rw [e]; exact h.tW))]
    exact hg.block g hl (fun e => h1 (h.tR g e.symm))
  have htag : ∀ g, g < w.heap.size → (if w.heap.size ≤ g then 2 else tag g) = tag g := fun g hl => if_neg (by omega)
  refine ⟨?_, h.loW, ?_, ?_, ?_, ?_, ?_, ?_, ?_, ?_, ?_, ?_, ?_, ?_⟩
  · have hloW := h.loW
    refine ⟨hg.os.trans h.bel.os, hg.tape.trans h.bel.tape, hg.output.trans h.bel.output, ?_, fun k hk => ?_⟩
    · have h1 := h.bel.size; have h2 := hg.size; simp; omega
    · rw [Below.heap_setCell _ _ _ _ (show k ≠ W by omega)]
      refine (hg.block k (by have := h.bel.size; omega) (fun e => ?_)).trans (h.bel.block k hk)
      have := (h.oR.lt k e.symm).1
      omega
  · exact h.loB
  · intro i hi
    by_cases e : i = kr
    · simp [e]; exact hlo
    · simp [e]; exact h.loR i (by omega)
  · exact set_blk ((hg.block W h.wlt hWne).trans h.blk) _
  · exact own_same h.oS (fun g e => hkeep g (h.oS.lt g e).2 (by rw [h.tS g e]; omega) (by rw [h.tS g e]; omega))
  · rw [ptrs_push]
    exact own_same hown (fun g e => by
      have e2 : g' = g := by simpa [Value.ownBlock] using e
      subst e2
      exact Below.heap_setCell _ _ _ _ hgW)
  · intro i hi
    exact (h.sc i hi).sameBlock (hkeep _ (h.sc i hi).lt (by rw [h.tB i hi]; omega) (by rw [h.tB i hi]; omega))
  · intro i hi
    by_cases e : i = kr
    · simp only [if_pos e]; exact hn.sameBlock (hkeep n hn.cells.lt (by omega) (by omega))
    · simp only [if_neg e]; exact (h.rs i (by omega)).sameBlock (hkeep _ (h.rs i (by omega)).cells.lt (by rw [h.tr i (by omega)]; omega) (by rw [h.tr i (by omega)]; omega))
  · exact (htag _ h.wlt).trans h.tW
  · intro g e
    exact (htag _ (h.oS.lt _ e).2).trans (h.tS _ e)
  · intro g e
    have e2 : g' = g := by simpa [Value.ownBlock] using e
    subst e2
    rcases hat with e | e
    · exact (htag _ (h.oR.lt _ e).2).trans (h.tR _ e)
    · exact if_pos (by omega)
  · intro i hi
    exact (htag _ (h.sc i hi).lt).trans (h.tB i hi)
  · intro i hi
    by_cases e : i = kr
    · simp only [if_pos e]; exact (htag _ hn.cells.lt).trans (by rw [htn, e])
    · simp only [if_neg e]; exact (htag _ (h.rs i (by omega)).cells.lt).trans (h.tr i (by omega))

end
end

/-
  The play of a script.
-/
section
set_option maxRecDepth 100000
set_option maxHeartbeats 2000000

/-- A step of a script, as it lies in memory. -/
def OpAt (p : Int → Prop) (w : World) (g o : Nat) : Prop := ∃ (k a b : Int) (S : ByteArray) (n q : Bool) (ca : Option Addr) (cl cc : Nat) (rom : Int),
  w.cell? ⟨g, o, none⟩ = some (.int .i64 k) ∧ w.cell? ⟨g, o + 1, none⟩ = some (.int .i64 a) ∧ w.cell? ⟨g, o + 2, none⟩ = some (.int .i64 b) ∧ w.cell? ⟨g, o + 3, none⟩ = some (.string S) ∧ w.cell? ⟨g, o + 4, none⟩ = some (.bool n) ∧ w.cell? ⟨g, o + 5, none⟩ = some (.bool q) ∧ w.cell? ⟨g, o + 6, none⟩ = some (.slice ca cl cc) ∧ w.cell? ⟨g, o + 7, none⟩ = some (.int .i64 rom) ∧
  S.size ≤ 4000000 ∧ -9223372036854775808 ≤ a ∧ a ≤ 9223372036854775807 ∧ p k

theorem OpAt.later {p : Int → Prop} {w w' : World} {g o : Nat} (h : OpAt p w g o) (hb : Below w.heap.size w w') : OpAt p w' g o := by
  obtain ⟨k, a, b, S, n, q, ca, cl, cc, rom, h0, h1, h2, h3, h4, h5, h6, h7, r⟩ := h
  exact ⟨k, a, b, S, n, q, ca, cl, cc, rom, cell_later hb h0, cell_later hb h1, cell_later hb h2, cell_later hb h3, cell_later hb h4, cell_later hb h5, cell_later hb h6, cell_later hb h7, r⟩

theorem inf_pS : (Tryz.prog.info? 83).map (fun i => (i.zero, i.size, i.bytes)) = some (some (.pointer none), 1, 8) := by kernel_rfl
theorem inf_pR : (Tryz.prog.info? 85).map (fun i => (i.zero, i.size, i.bytes)) = some (some (.pointer none), 1, 8) := by kernel_rfl
theorem und_pS : Tryz.prog.underlying 75 = some (.slice 83) := by kernel_rfl
theorem und_pR : Tryz.prog.underlying 76 = some (.slice 85) := by kernel_rfl

theorem boot_new (w : World) : Boot w w.heap.size (fun _ => 0) (fun _ => 0) (fun _ => 0) 0 0 (.slice none 0 0) (.slice none 0 0) (w.alloc (.cells #[.slice none 0 0, .slice none 0 0, .slice none 0 0, .slice none 0 0, .slice none 0 0, .slice none 0 0] 82)) :=
  ⟨(Below.refl _ _).alloc (Nat.le_refl _) _, Nat.le_refl _, fun i hi => absurd hi (by omega), fun i hi => absurd hi (by omega), heap_alloc_new w _, World.ownsRow_nil _ _ _ _, World.ownsRow_nil _ _ _ _, fun i hi => absurd hi (by omega), fun i hi => absurd hi (by omega), rfl, fun g e => by simp [Value.ownBlock] at e, fun g e => by simp [Value.ownBlock] at e, fun i hi => absurd hi (by omega), fun i hi => absurd hi (by omega)⟩

theorem rs_new (w : World) (t : TypeId) : RsAt (w.alloc (.cells #[.string ⟨#[]⟩, .bool false, .int .i64 0] t)) w.heap.size sc00 :=
  ⟨by simp [sc00], by simp [sc00], ⟨World.cell?_alloc_at _ _ _ _ rfl, World.cell?_alloc_at _ _ _ _ rfl, World.cell?_alloc_at _ _ _ _ rfl, fun o => World.frozen?_alloc_at _ _ _ _ rfl⟩⟩

theorem one_new3 (w : World) (o : Obj) (x : Value) (t : TypeId) (n : Nat) (hn : n = w.heap.size + 1) : ∀ j u, [x][j]? = some u → ((w.alloc o).alloc (.cells #[x] t)).cell? ((⟨n, 0, none⟩ : Addr).add j) = some u := by
  have := one_new' (w.alloc o) x t
  rw [hn]
  simpa using this

theorem ptr_one (n : Nat) : ∀ u ∈ [Value.pointer (some ⟨n, 0, none⟩)], u.oneCell' = true := by
  intro u hu; simp at hu; subst hu; rfl

section
variable {w0 : World} {W : Nat} {tag : Nat → Nat} {B R : Nat → Nat} {ks kr : Nat} {vs vr : Value} {w : World}
theorem Boot.cell (h : Boot w0 W tag B R ks kr vs vr w) : w.cell? ⟨W, 2, none⟩ = some vs ∧ w.cell? ⟨W, 3, none⟩ = some vr ∧ ∀ o, w.frozen? ⟨W, o, none⟩ = false := by
  have hc : ∀ o, w.cell? ⟨W, o, none⟩ = _ := fun o => cell_of_row w W o _ _ (0, 0) h.blk
  exact ⟨hc 2, hc 3, fun o => by simp [World.frozen?, h.blk]⟩
theorem Boot.shape (h : Boot w0 W tag B R ks kr vs vr w) : ∃ aS cs ar cr, vs = .slice aS ks cs ∧ vr = .slice ar kr cr := by
  have one : ∀ {te n : Nat} {v : Value} {xs : List Value}, w.ownsRow w0.heap.size te 1 v n xs → ∃ a c, v = .slice a n c := by
    intro te n v xs h
    rcases h.2 with ⟨rfl, rfl⟩ | ⟨g, cap, _, rfl, _⟩
    · exact ⟨_, _, rfl⟩
    · exact ⟨_, _, rfl⟩
  obtain ⟨a, c, e⟩ := one h.oS
  obtain ⟨a', c', e'⟩ := one h.oR
  exact ⟨a, c, a', c', e, e'⟩
theorem Boot.keptS {w3 : World} (h : Boot w0 W tag B R ks kr vs vr w) (hg : w.grownBy w3 vs.ownBlock) : w3.cell? ⟨W, 2, none⟩ = some vs ∧ w3.frozen? ⟨W, 2, none⟩ = false ∧ w3.cell? ⟨W, 3, none⟩ = some vr ∧ W < w3.heap.size := by
  have hb := hg.block W h.wlt (fun e => by have h1 := h.tS W e.symm; have h2 := h.tW; omega)
  exact ⟨(World.cell?_of_block (a := ⟨W, 2, none⟩) hb).trans h.cell.1, (World.frozen?_of_block (a := ⟨W, 2, none⟩) hb).trans (h.cell.2.2 2), (World.cell?_of_block (a := ⟨W, 3, none⟩) hb).trans h.cell.2.1, Nat.lt_of_lt_of_le h.wlt hg.size⟩
theorem Boot.more (h : Boot w0 W tag B R ks kr vs vr w) (o p : Obj) : ∃ tag', Boot w0 W tag' B R ks kr vs vr ((w.alloc o).alloc p) ∧ tag' w.heap.size = 4 + 2 * kr :=
  ⟨fun g => if g = w.heap.size then 4 + 2 * kr else tag g, (h.tagged (fun g hl => if_neg (by omega))).below (below2 _ _ _), if_pos rfl⟩
theorem Boot.endR {w3 : World} {k g' cap' : Nat} (h : Boot w0 W tag B R ks k vs vr w) (o : Obj) (t : TypeId) (n : Nat) (hn : n = w.heap.size)
    (hown : w3.ownsRow w0.heap.size 85 1 (.slice (some ⟨g', 0, none⟩) (k + 1) cap') (k + 1) (ptrs R k ++ [ptr n])) (hg : ((w.alloc (.cells #[.string ⟨#[]⟩, .bool false, .int .i64 0] t)).alloc o).grownBy w3 vr.ownBlock) (hat : vr.ownBlock = some g' ∨ g' = ((w.alloc (.cells #[.string ⟨#[]⟩, .bool false, .int .i64 0] t)).alloc o).heap.size) :
    ∃ tag R', Boot w0 W tag B R' ks (k + 1) vs (.slice (some ⟨g', 0, none⟩) (k + 1) cap') (w3.setCell ⟨W, 3, none⟩ (.slice (some ⟨g', 0, none⟩) (k + 1) cap')) := by
  subst hn
  obtain ⟨tag', hB, ht⟩ := h.more (.cells #[.string ⟨#[]⟩, .bool false, .int .i64 0] t) o
  exact ⟨_, _, hB.pushR ((rs_new w t).sameBlock (Below.heap_alloc _ _ _ (by simp))) h.bel.size ht hown hg hat⟩
theorem Boot.keptR {w3 : World} (h : Boot w0 W tag B R ks kr vs vr w) (hg : w.grownBy w3 vr.ownBlock) : w3.cell? ⟨W, 3, none⟩ = some vr ∧ w3.frozen? ⟨W, 3, none⟩ = false := by
  have hb := hg.block W h.wlt (fun e => by have h1 := h.tR W e.symm; have h2 := h.tW; omega)
  exact ⟨(World.cell?_of_block (a := ⟨W, 3, none⟩) hb).trans h.cell.2.1, (World.frozen?_of_block (a := ⟨W, 3, none⟩) hb).trans (h.cell.2.2 3)⟩
end
end

end Go.Proofs.YtcgjliflnnklnaaGreat
