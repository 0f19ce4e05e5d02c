/-
  Lists of which every entry is one and the same mark: what append does to them.
-/
import Derived.Test.YtcgjliflnnklnaaGreatRefD
import Derived.ArgAppend
namespace Go.Proofs.YtcgjliflnnklnaaGreat
open Go.RowKit

/-- A row of cells of element type e: room for cap elements of size cells each; nothing of it is frozen. -/
def RowAt (w : World) (g : Nat) (e size cap : Nat) : Prop := ∃ cur, w.heap[g]? = some (.cells cur e (0, 0)) ∧ cur.size = cap * size

theorem RowAt.there {w : World} {g e size cap : Nat} (h : RowAt w g e size cap) (i : Nat) (hi : i < cap * size) : ∃ v, w.cell? ⟨g, i, none⟩ = some v := by
  obtain ⟨cur, h1, h2⟩ := h
  exact ⟨cur[i]'(by omega), by rw [cell_of_row w g i cur e (0, 0) h1]; simp⟩
theorem RowAt.free {w : World} {g e size cap : Nat} (h : RowAt w g e size cap) (i : Nat) : w.frozen? ⟨g, i, none⟩ = false := by
  obtain ⟨cur, h1, _⟩ := h
  simp [World.frozen?, h1]
theorem RowAt.lt {w : World} {g e size cap : Nat} (h : RowAt w g e size cap) : g < w.heap.size := by
  obtain ⟨cur, h1, _⟩ := h; exact (Array.getElem?_eq_some_iff.1 h1).1
theorem RowAt.setCell {w : World} {g e size cap : Nat} (h : RowAt w g e size cap) (b o : Nat) (v : Value) : RowAt (w.setCell ⟨b, o, none⟩ v) g e size cap := by
  obtain ⟨cur, h1, h2⟩ := h
  by_cases hb : g = b
  · subst hb
    refine ⟨cur.setIfInBounds o v, ?_, by simpa using h2⟩
    simp only [World.setCell, Array.getElem?_modify, h1]
    simp
  · exact ⟨cur, by rw [Below.heap_setCell _ _ _ _ hb]; exact h1, h2⟩
theorem RowAt.setCells {g e size cap : Nat} (b : Nat) : ∀ (vs : List Value) (o : Nat) (w : World), RowAt w g e size cap → RowAt (w.setCells b o vs) g e size cap
  | [], _, _, h => h
  | v :: r, o, _, h => RowAt.setCells b r (o + 1) _ (h.setCell b o v)

section
variable (e size : Nat) (xf : Nat → Value) (row : Option Nat) (H : Nat)

def Ok (g : Nat) : Prop := some g = row ∨ H ≤ g

/-- v has n entries, each of which is the mark. -/
def AllX (w : World) (v : Value) (n : Nat) : Prop :=
  (v = .slice none 0 0 ∧ n = 0) ∨ ∃ g cap, v = .slice (some ⟨g, 0, none⟩) n cap ∧ Ok row H g ∧ n ≤ cap ∧ RowAt w g e size cap ∧ ∀ i, i < n * size → w.cell? ⟨g, i, none⟩ = some (xf (i % size))

/-- Nothing but marks was written, into the one row or new ones. -/
structure XExt (w w' : World) : Prop where
  os : w'.os = w.os
  tape : w'.tape = w.tape
  output : w'.output = w.output
  sz : w.heap.size ≤ w'.heap.size
  old : ∀ k, k < H → some k ≠ row → w'.heap[k]? = w.heap[k]?
  rows : ∀ g cap, Ok row H g → RowAt w g e size cap → RowAt w' g e size cap
  cells : ∀ g i, Ok row H g → g < w.heap.size → w.cell? ⟨g, i, none⟩ = some (xf (i % size)) → w'.cell? ⟨g, i, none⟩ = some (xf (i % size))
end

section
variable {e size : Nat} {xf : Nat → Value} {row : Option Nat} {H : Nat}

theorem XExt.refl (w : World) : XExt e size xf row H w w := ⟨rfl, rfl, rfl, Nat.le_refl _, fun _ _ _ => rfl, fun _ _ _ h => h, fun _ _ _ _ h => h⟩
theorem XExt.trans {a b c : World} (h : XExt e size xf row H a b) (k : XExt e size xf row H b c) : XExt e size xf row H a c :=
  ⟨k.os.trans h.os, k.tape.trans h.tape, k.output.trans h.output, Nat.le_trans h.sz k.sz, fun i h1 h2 => (k.old i h1 h2).trans (h.old i h1 h2), fun g cap ho hr => k.rows g cap ho (h.rows g cap ho hr),
   fun g i ho hl hc => k.cells g i ho (Nat.lt_of_lt_of_le hl h.sz) (h.cells g i ho hl hc)⟩
theorem XExt.drew {a b : World} (h : XExt e size xf row H a b) : XExt e size xf row H a b.drew := ⟨h.os, h.tape, h.output, h.sz, h.old, h.rows, h.cells⟩
theorem XExt.drewN {a b : World} (h : XExt e size xf row H a b) (n : Nat) : XExt e size xf row H a (b.drewN n) := ⟨h.os, h.tape, h.output, h.sz, h.old, h.rows, h.cells⟩
theorem XExt.ofGrown {w w' : World} (hg : w.grownBy w' none) (hH : H ≤ w.heap.size) : XExt e size xf row H w w' := by
  refine ⟨hg.os, hg.tape, hg.output, hg.size, fun k hk _ => hg.block k (by omega) (by simp), ?_, ?_⟩
  · rintro g cap _ hr
    obtain ⟨cur, h1, h2⟩ := hr
    exact ⟨cur, (hg.block g (Array.getElem?_eq_some_iff.1 h1).1 (by simp)).trans h1, h2⟩
  · intro g i _ hl hc
    rw [World.cell?_of_block (a := ⟨g, i, none⟩) (hg.block g hl (by simp))]; exact hc
theorem AllX.ext {w w' : World} {v : Value} {n : Nat} (h : AllX e size xf row H w v n) (hx : XExt e size xf row H w w') : AllX e size xf row H w' v n := by
  rcases h with h | ⟨g, cap, rfl, ho, hn, hr, hc⟩
  · exact .inl h
  · exact .inr ⟨g, cap, rfl, ho, hn, hx.rows g cap ho hr, fun i hi => hx.cells g i ho hr.lt (hc i hi)⟩
theorem XExt.setCells {w : World} (g o : Nat) (news : List Value) (ho : Ok row H g) (hrow : H ≤ g ∨ some g = row) (hth : ∀ j, j < news.length → (w.cell? ⟨g, o + j, none⟩).isSome = true)
    (hnews : ∀ j u, news[j]? = some u → u = xf ((o + j) % size)) : XExt e size xf row H w (w.setCells g o news) := by
  have hblk : ∀ (vs : List Value) (o : Nat) (w : World) (k : Nat), k ≠ g → (w.setCells g o vs).heap[k]? = w.heap[k]? := by
    intro vs
    induction vs with
    | nil => intros; rfl
    | cons v r ih => intro o w k hk; show ((w.setCell ⟨g, o, none⟩ v).setCells g (o + 1) r).heap[k]? = _; rw [ih _ _ _ hk, Below.heap_setCell _ _ _ _ hk]
  have hmeta : ∀ (vs : List Value) (o : Nat) (w : World), (w.setCells g o vs).os = w.os ∧ (w.setCells g o vs).tape = w.tape ∧ (w.setCells g o vs).output = w.output ∧ (w.setCells g o vs).heap.size = w.heap.size := by
    intro vs
    induction vs with
    | nil => intros; exact ⟨rfl, rfl, rfl, rfl⟩
    | cons v r ih =>
      intro o w
      have := ih (o + 1) (w.setCell ⟨g, o, none⟩ v)
      exact ⟨this.1, this.2.1, this.2.2.1, by rw [show (w.setCells g o (v :: r)).heap.size = ((w.setCell ⟨g, o, none⟩ v).setCells g (o + 1) r).heap.size from rfl, this.2.2.2]; simp⟩
  have hm := hmeta news o w
  refine ⟨hm.1, hm.2.1, hm.2.2.1, by omega, ?_, ?_, ?_⟩
  · intro k hk hne
    exact hblk news o w k (fun e => by subst e; rcases hrow with h | h; omega; exact hne h)
  · intro g' cap' _ hr; exact RowAt.setCells g news o w hr
  · intro g' i _ _ hc
    by_cases hg : g' = g
    · subst hg
      by_cases hi : o ≤ i ∧ i < o + news.length
      · have := World.cell?_setCells_in g' news o w hth (i - o) (by omega)
        rw [show o + (i - o) = i from by omega] at this
        rw [this, hnews (i - o) _ (List.getElem?_eq_getElem (by omega)), show o + (i - o) = i from by omega]
      · rw [World.cell?_setCells_out g' news o w ⟨g', i, none⟩ (fun _ _ => by simp only; omega)]; exact hc
    · rw [World.cell?_setCells_out g news o w ⟨g', i, none⟩ (fun e _ => absurd e hg)]; exact hc

def xlist (size : Nat) (xf : Nat → Value) (n : Nat) : List Value := (List.range (n * size)).map (fun i => xf (i % size))
theorem xlist_len (n : Nat) : (xlist size xf n).length = n * size := by simp [xlist]
theorem xlist_get (n j : Nat) (u : Value) (h : (xlist size xf n)[j]? = some u) : j < n * size ∧ u = xf (j % size) := by
  have hj : j < n * size := by
    rcases Nat.lt_or_ge j (n * size) with h' | h'
    · exact h'
    · rw [List.getElem?_eq_none (by rw [xlist_len]; exact h')] at h; cases h
  refine ⟨hj, ?_⟩
  simp [xlist, List.getElem?_range hj] at h
  exact h.symm

/-- append of m marks to such a list. -/
theorem wpList_append_x {P : Program} (w : World) {ops : Array Oper} {rest : List Oper} {o : Oper} {a : Act} {Q : Exit → Act → World → Prop}
    (hg : o.guard = none) (s x : Operand) (t : TypeId) (hop : o.op = Op.call { callee := Callee.builtin Builtin.append, args := #[s, x], argTypes := #[t, t] })
    (i : TypeInfo) (z : Value) (bytes : Nat) (h1 : P.underlying t = some (.slice e)) (h2 : P.info? e = some i) (h3 : i.zero = some z) (h4 : i.size = size) (h5 : i.bytes = bytes) (h6 : z.cells.size = size) (h7 : 0 < size)
    (v : Value) (n : Nat) (hs : a.eval s = v) (hall : AllX e size xf row H w v n)
    (ad : Addr) (m c : Nat) (news : List Value) (hx : a.eval x = .slice (some ad) m c) (hn : news.length = m * size) (hc : ∀ j u, news[j]? = some u → w.cell? (ad.add j) = some u) (h1c : ∀ u ∈ news, u.oneCell' = true)
    (hnx : ∀ j u, news[j]? = some u → u = xf (j % size)) (hm : 0 < m) (b1 : n + m ≤ maxLen) (b2 : (n + m) * bytes ≤ 140737488355328) (hH : H ≤ w.heap.size)
    (hK : ∀ v' w', AllX e size xf row H w' v' (n + m) → XExt e size xf row H w w' → wpList P ops Q rest (a.put o.dst v') w') :
    wpList P ops Q (o :: rest) a w := by
  have grow : ∀ (olds : List Value) v' w', olds.length = n * size → (∀ j u, olds[j]? = some u → u = xf (j % size)) → w'.ownsRow w.heap.size e size v' (n + m) (olds ++ news) → w.grownBy w' none → wpList P ops Q rest (a.put o.dst v') w' := by
    intro olds v' w' hol hox hown hgr
    refine hK v' w' ?_ (XExt.ofGrown hgr hH)
    rcases hown.2 with ⟨_, e0⟩ | ⟨g, cap, cur, rfl, hbg, hgg, hnc, _, hcs, htk⟩
    · omega
    · refine .inr ⟨g, cap, rfl, .inr (by omega), hnc, ⟨cur, hgg, hcs⟩, ?_⟩
      intro i hi
      have hle : i < (olds ++ news).length := by rw [List.length_append, hol, hn, ← Nat.add_mul]; exact hi
      have hcell : w'.cell? ⟨g, i, none⟩ = (olds ++ news)[i]? := by
        rw [cell_of_row w' g i cur e (0, 0) hgg, ← htk, List.getElem?_take_of_lt hi]; simp
      rw [hcell]
      by_cases hi2 : i < olds.length
      · rw [List.getElem?_append_left hi2]
        have := List.getElem?_eq_getElem hi2
        rw [this, hox i _ this]
      · rw [List.getElem?_append_right (by omega)]
        have hj : i - olds.length < news.length := by rw [List.length_append] at hle; omega
        have := List.getElem?_eq_getElem hj
        rw [this, hnx _ _ this]
        have hmod : (i - olds.length) % size = i % size := by
          have e1 : i = (i - olds.length) + n * size := by omega
          conv => rhs; rw [e1]
          rw [Nat.add_mul_mod_self_right]
        rw [hmod]
  rcases hall with ⟨rfl, rfl⟩ | ⟨g, cap, rfl, ho, hnc, hr, hcx⟩
  · refine wpList_append_grows w hg s x t hop e i z size bytes h1 h2 h3 h4 h5 h6 h7 none 0 0 [] hs (fun _ => ⟨rfl, rfl⟩) (by simp) (by simp) ad m c news hx hn hc h1c (by omega) b1 b2 ?_
    intro v' w' hown hgr
    exact grow [] v' w' (by simp) (by simp) hown hgr
  · refine wpList_append_arg w hg s x t hop e i z size bytes h1 h2 h3 h4 h5 h6 h7 g 0 n cap (xlist size xf n) hs (xlist_len n) ?_ ad m c news hx hn hc h1c ?_ b1 b2 ?_ ?_
    · intro j u hj
      obtain ⟨hj1, rfl⟩ := xlist_get n j u hj
      rw [Nat.zero_add]; exact hcx j hj1
    · intro hrm j hj
      have hlt : 0 + n * size + j < cap * size := by
        have : (n + m) * size ≤ cap * size := Nat.mul_le_mul_right _ hrm
        rw [Nat.add_mul] at this; omega
      obtain ⟨u, hu⟩ := hr.there _ hlt
      exact ⟨by rw [hu]; rfl, hr.free _⟩
    · intro hrm
      have hle : (n + m) * size ≤ cap * size := Nat.mul_le_mul_right _ hrm
      rw [Nat.add_mul] at hle
      have hth : ∀ j, j < news.length → (w.cell? ⟨g, 0 + n * size + j, none⟩).isSome = true := by
        intro j hj
        obtain ⟨u, hu⟩ := hr.there (0 + n * size + j) (by omega)
        rw [hu]; rfl
      have hnews' : ∀ j u, news[j]? = some u → u = xf ((0 + n * size + j) % size) := by
        intro j u hj
        rw [hnx j u hj, Nat.zero_add, Nat.add_comm, Nat.add_mul_mod_self_right]
      have hX : XExt e size xf row H w (w.setCells g (0 + n * size) news) := XExt.setCells g _ news ho (by rcases ho with h | h; exact .inr h; exact .inl h) hth hnews'
      refine hK _ _ (.inr ⟨g, cap, rfl, ho, hrm, hX.rows g cap ho hr, ?_⟩) hX
      intro i hi
      rw [Nat.add_mul] at hi
      by_cases hi2 : i < n * size
      · exact hX.cells g i ho hr.lt (hcx i hi2)
      · have hj : i - n * size < news.length := by omega
        have := World.cell?_setCells_in g news (0 + n * size) w hth (i - n * size) hj
        rw [show 0 + n * size + (i - n * size) = i from by omega] at this
        rw [this, hnews' _ _ (List.getElem?_eq_getElem hj), show 0 + n * size + (i - n * size) = i from by omega]
    · intro hfull v' w' hown hgr
      exact grow (xlist size xf n) v' w' (xlist_len n) (fun j u hj => (xlist_get n j u hj).2) hown hgr
end

end Go.Proofs.YtcgjliflnnklnaaGreat
