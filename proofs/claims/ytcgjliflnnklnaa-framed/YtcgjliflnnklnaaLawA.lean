/-
  Lemmas for the walk of Framed.
-/
import Derived.Test.YtcgjliflnnklnaaMath
namespace Go.Proofs.Ytcgjliflnnklnaa
open Go.RowKit

theorem u8_of {r : Nat} (h : (r : Int) < 256) : ∃ b : UInt8, (r : Int) = (b.toNat : Int) := ⟨UInt8.ofNat r, by simp; omega⟩

theorem c_bne {c : UInt8} {n : Int} (h : ((c.toNat : Int) == n) = false) : ((c.toNat : Int) != n) = true := by rw [bne, h]; rfl

theorem ext1 (h a : ByteArray) (k : Nat) (hk : k < a.size) : (h ++ a.extract k (k + 1)).data.toList = h.data.toList ++ [a[k]] := by
  rw [ByteArray.data_append, ByteArray.data_extract, Array.toList_append, Array.toList_extract]
  congr 1
  have hk' : k < a.data.toList.length := by simpa using hk
  rw [List.extract_eq_take_drop]
  have e : k + 1 - k = 1 := by omega
  rw [e, List.drop_eq_getElem_cons hk']
  rfl
theorem size_toList (a : ByteArray) : a.size = a.data.toList.length := by simp
theorem ext1_size (h a : ByteArray) (k : Nat) (hk : k < a.size) : (h ++ a.extract k (k + 1)).size = h.size + 1 := by
  rw [size_toList, ext1 h a k hk, List.length_append, ← size_toList]; rfl

/-- ahead without its starts. -/
def headOf (l : List UInt8) : List UInt8 := l.filter (fun c => c != 36)

theorem headOf_ok (l : List UInt8) : ∀ c ∈ headOf l, c ≠ 36 := by intro c hc; simp [headOf] at hc; exact hc.2

theorem cut_less (hd r : List UInt8) (x y : UInt8) (k : Nat) (hh : ∀ c ∈ hd, c ≠ 36) (hr : ∀ c ∈ r, c ≠ 36 ∧ c ≠ 35) (hl : r.length ≤ 200) (hk : k < (hd ++ (36 :: r ++ [35, x, y])).length) :
    feedP sc0 ((hd ++ (36 :: r ++ [35, x, y])).take k) = [] ∧ feedP (feedS sc0 ((hd ++ (36 :: r ++ [35, x, y])).take k)) ((hd ++ (36 :: r ++ [35, x, y])).drop k) = [readPk r x y] := by
  obtain ⟨_, h2, h3⟩ := feed_all hd r x y hh hr hl
  have e1 : feedP sc0 ((hd ++ (36 :: r ++ [35, x, y])).take k) = [] := by
    have ep : hd ++ (36 :: r ++ [35, x, y]) = (hd ++ (36 :: r ++ [35, x])) ++ [y] := by simp
    rw [ep] at hk ⊢
    rw [List.take_append_of_le_length (by simp at hk ⊢; omega)]
    have := feedP_take_len sc0 (hd ++ (36 :: r ++ [35, x])) k
    rw [h2] at this
    exact List.eq_nil_of_length_eq_zero (by simpa using this)
  refine ⟨e1, ?_⟩
  have := feedP_append sc0 ((hd ++ (36 :: r ++ [35, x, y])).take k) ((hd ++ (36 :: r ++ [35, x, y])).drop k)
  rw [List.take_append_drop, e1, h3] at this
  simpa using this.symm

theorem cut_whole (hd r : List UInt8) (x y : UInt8) (k : Nat) (hh : ∀ c ∈ hd, c ≠ 36) (hr : ∀ c ∈ r, c ≠ 36 ∧ c ≠ 35) (hl : r.length ≤ 200) (hk : k = (hd ++ (36 :: r ++ [35, x, y])).length) :
    feedP sc0 ((hd ++ (36 :: r ++ [35, x, y])).take k) = [readPk r x y] ∧ feedP (feedS sc0 ((hd ++ (36 :: r ++ [35, x, y])).take k)) ((hd ++ (36 :: r ++ [35, x, y])).drop k) = [] := by
  obtain ⟨_, _, h3⟩ := feed_all hd r x y hh hr hl
  rw [hk, List.take_of_length_le (Nat.le_refl _), List.drop_of_length_le (Nat.le_refl _)]
  exact ⟨h3, rfl⟩

theorem bytes_new (w : World) (x : ByteArray) (c : Nat) (fr : Nat × Nat) : BytesAt ((w.alloc (.cells (bytesRow x c) 5 fr)).drew) w.heap.size 0 x.data.toList := by
  intro i hi
  rw [Nat.zero_add, World.cell?_drew, cell_of_row _ w.heap.size i (bytesRow x c) 5 fr (heap_alloc_new w _)]
  have hi' : i < x.data.size := by simpa using hi
  unfold bytesRow
  rw [Array.getElem?_append_left (by simpa using hi')]
  rw [Array.getElem?_map, Array.getElem?_eq_getElem hi']; simp

theorem free_new (w : World) (x : ByteArray) (c i : Nat) (hi : i < x.size) : ((w.alloc (.cells (bytesRow x c) 5 ((bytesRow x c).size, (bytesRow x c).size + 1))).drew).frozen? ⟨w.heap.size, i, none⟩ = false := by
  have hi' : i < x.data.size := hi
  have hb : ((w.alloc (.cells (bytesRow x c) 5 ((bytesRow x c).size, (bytesRow x c).size + 1))).drew).heap[w.heap.size]? = some (.cells (bytesRow x c) 5 ((bytesRow x c).size, (bytesRow x c).size + 1)) := heap_alloc_new w _
  have hs : x.data.size ≤ (bytesRow x c).size := by simp [bytesRow]
  simp only [World.frozen?, hb]
  simp; omega

theorem scanFeed_len (B bb off cap n : Nat) (s : Sc) (l : List UInt8) (w : World) (hn : l.length = n) (hs : ScAt w B s) (hl : l.length ≤ 140737488355328) (hB : BytesAt w bb off l) (hne : bb ≠ B)
    (hmax : (feedP s l).length ≤ 4194304) :
    Calls Try.prog 7 #[.pointer (some ⟨B, 0, none⟩), .slice (some ⟨bb, off, none⟩) n cap] w fun e w' => ∃ v, e = .returned v ∧ Fed B w w' v (feedS s l) (feedP s l) := by
  subst hn; exact scanFeed_any B bb off cap s l w hs hl hB hne hmax

theorem to_bytes (w : World) (x : ByteArray) : (convert 9 23 (.string x)).run Try.prog w = .ok (.slice (some ⟨w.heap.size, 0, none⟩) x.size (grownCap w x.size 0 5))
      ((w.alloc (.cells (bytesRow x (grownCap w x.size 0 5)) 5 ((bytesRow x (grownCap w x.size 0 5)).size, (bytesRow x (grownCap w x.size 0 5)).size + 1))).drew) :=
  run_bytes_of_string (P := Try.prog) w 9 23 5 x und_str und_bytes und_u8

theorem str_back (s : ByteArray) : (⟨s.data.toList.toArray⟩ : ByteArray) = s := by cases s; simp

/-- What the law holds on to: the old world, and the frame's bytes f. -/
structure St (w : World) (B g cap : Nat) (f : List UInt8) (wx : World) : Prop where
  bel : Below w.heap.size w wx
  own : wx.ownsRow w.heap.size 5 1 (.slice (some ⟨g, 0, none⟩) f.length cap) f.length (vals f)
  lo : w.heap.size ≤ B
  gB : g < B

theorem St.alloc {w wx : World} {B g cap : Nat} {f : List UInt8} (h : St w B g cap f wx) (o : Obj) : St w B g cap f ((wx.alloc o).drew) :=
  ⟨(h.bel.alloc h.bel.size o).drew, (h.own.alloc o).drew, h.lo, h.gB⟩
theorem St.fed {w wx wy : World} {B g cap : Nat} {f : List UInt8} {v : Value} {s : Sc} {ps : List Pk} (h : St w B g cap f wx) (hf : Fed B wx wy v s ps) : St w B g cap f wy :=
  ⟨h.bel.grown hf.grown h.bel.size (fun k e => by injection e with e; have := h.lo; omega), h.own.kept hf.grown (.inr (fun e => by simp [Value.ownBlock] at e; have := h.gB; omega)), h.lo, h.gB⟩

theorem ScAt.allocDrew {w : World} {B : Nat} {s : Sc} (h : ScAt w B s) (o : Obj) : ScAt ((w.alloc o).drew) B s := (h.grown (World.grownBy_alloc w o none) (by simp)).drew

theorem ext_take (t : ByteArray) (r : Nat) : (t.extract 0 r).data.toList = t.data.toList.take r := by
  rw [ByteArray.data_extract, Array.toList_extract, List.extract_eq_take_drop]; simp
theorem ext_drop (t : ByteArray) (r : Nat) : (t.extract r t.size).data.toList = t.data.toList.drop r := by
  rw [ByteArray.data_extract, Array.toList_extract, List.extract_eq_take_drop, List.take_of_length_le (by simp)]

theorem bytes_take (w : World) (t : ByteArray) (r c : Nat) (fr : Nat × Nat) : BytesAt ((w.alloc (.cells (bytesRow (t.extract 0 r) c) 5 fr)).drew) w.heap.size 0 (t.data.toList.take r) := by
  rw [← ext_take]; exact bytes_new _ _ _ _
theorem bytes_drop' (w : World) (t : ByteArray) (r c : Nat) (fr : Nat × Nat) : BytesAt ((w.alloc (.cells (bytesRow (t.extract r t.size) c) 5 fr)).drew) w.heap.size 0 (t.data.toList.drop r) := by
  rw [← ext_drop]; exact bytes_new _ _ _ _

theorem cut_less' (ah : List UInt8) (b : UInt8) (l f : List UInt8) (k : Nat) (h : l.length ≤ 80)
    (hf : f = 36 :: rawOf b l ++ [35, hexd ((sum8 (rawOf b l)).toNat / 16), hexd ((sum8 (rawOf b l)).toNat % 16)]) (hk : k < (headOf ah ++ f).length) :
    feedP sc0 ((headOf ah ++ f).take k) = [] ∧ feedP (feedS sc0 ((headOf ah ++ f).take k)) ((headOf ah ++ f).drop k) = [⟨b.toNat, l, false⟩] := by
  have := raw_len b l h
  subst hf
  rw [← read_back b l h]
  exact cut_less _ _ _ _ k (headOf_ok ah) (raw_ok b l) (by omega) hk
theorem cut_whole' (ah : List UInt8) (b : UInt8) (l f : List UInt8) (k : Nat) (h : l.length ≤ 80)
    (hf : f = 36 :: rawOf b l ++ [35, hexd ((sum8 (rawOf b l)).toNat / 16), hexd ((sum8 (rawOf b l)).toNat % 16)]) (hk : k = (headOf ah ++ f).length) :
    feedP sc0 ((headOf ah ++ f).take k) = [⟨b.toNat, l, false⟩] ∧ feedP (feedS sc0 ((headOf ah ++ f).take k)) ((headOf ah ++ f).drop k) = [] := by
  have := raw_len b l h
  subst hf
  rw [← read_back b l h]
  exact cut_whole _ _ _ _ k (headOf_ok ah) (raw_ok b l) (by omega) hk

theorem own_form1 {w : World} {base : Nat} {v : Value} {xs : List Value} (h : w.ownsRow base 32 3 v 1 xs) : ∃ g c, v = .slice (some ⟨g, 0, none⟩) 1 c := by
  rcases h.2 with ⟨_, e⟩ | ⟨g, cap, _, e, _⟩
  · omega
  · exact ⟨g, cap, e⟩

theorem St.grown {w wx wy : World} {B g cap : Nat} {f : List UInt8} (h : St w B g cap f wx) (hg : wx.grownBy wy none) : St w B g cap f wy :=
  ⟨h.bel.grown hg h.bel.size (by simp), h.own.kept hg (.inr (by simp [Value.ownBlock])), h.lo, h.gB⟩

theorem own_fed {w wy : World} {o : Obj} {B base g n c : Nat} {xs : List Value} {v : Value} {s : Sc} {ps : List Pk} (h : w.ownsRow base 32 3 (.slice (some ⟨g, 0, none⟩) n c) n xs) (hf : Fed B ((w.alloc o).drew) wy v s ps) (hne : B ≠ g) :
    wy.ownsRow base 32 3 (.slice (some ⟨g, 0, none⟩) n c) n xs :=
  ((h.alloc o).drew).kept hf.grown (.inr (fun e => hne (by simp [Value.ownBlock] at e; exact e.symm)))

/-- The one packet of a slice, cell by cell. -/
theorem pk_cells {w : World} {base g c : Nat} {p : Pk} (h : w.ownsRow base 32 3 (.slice (some ⟨g, 0, none⟩) 1 c) 1 p.cells) :
    w.cell? ⟨g, 0, none⟩ = some (.int .i64 (p.seq : Int)) ∧ w.cell? ⟨g, 1, none⟩ = some (.string ⟨p.body.toArray⟩) ∧ w.cell? ⟨g, 2, none⟩ = some (.bool p.bad) :=
  ⟨h.cellAt 0 (by omega), h.cellAt 1 (by omega), h.cellAt 2 (by omega)⟩

/-- The law's second half: the frame's bytes f, and x, a copy that is turned. -/
structure Xs (w : World) (g X : Nat) (f x : List UInt8) (wx : World) : Prop where
  bel : Below w.heap.size w wx
  fb : BytesAt wx g 0 f
  xb : BytesAt wx X 0 x
  free : ∀ i, i < x.length → wx.frozen? ⟨X, i, none⟩ = false
  lo : w.heap.size ≤ X
  ne : g ≠ X
  xlt : X < wx.heap.size

theorem Xs.drewN {w wx : World} {g X : Nat} {f x : List UInt8} (h : Xs w g X f x wx) (n : Nat) : Xs w g X f x (wx.drewN n) :=
  ⟨below_drewN h.bel n, h.fb, h.xb, h.free, h.lo, h.ne, h.xlt⟩

theorem Xs.set {w wx : World} {g X : Nat} {f x : List UInt8} (h : Xs w g X f x wx) (i : Nat) (hi : i < x.length) (u : UInt8) : Xs w g X f (x.set i u) (wx.setCell ⟨X, i, none⟩ (.int .u8 (u.toNat : Int))) := by
  refine ⟨h.bel.setCell h.lo _, ?_, ?_, ?_, h.lo, h.ne, by simpa using h.xlt⟩
  · intro j hj
    rw [World.cell?_setCell_other _ _ _ _ (fun e => h.ne (by injection e with e1; exact e1.symm))]; exact h.fb j hj
  · intro j hj
    rw [Nat.zero_add]
    have hj' : j < x.length := by simpa using hj
    by_cases e : i = j
    · subst e
      have h0 := h.xb i hi
      rw [Nat.zero_add] at h0
      rw [World.cell?_setCell_same _ _ _ h0]; simp
    · have h0 := h.xb j hj'
      rw [Nat.zero_add] at h0
      rw [World.cell?_setCell_other _ _ _ _ (addr_ne _ _ _ e), h0]; simp [e]
  · intro j hj
    rw [World.frozen?_setCell]; exact h.free j (by simpa using hj)

theorem xs_new {w wx : World} {B g cap : Nat} {f : List UInt8} (h : St w B g cap f wx) (c : Nat) :
    Xs w g wx.heap.size f f ((wx.alloc (.cells (bytesRow ⟨f.toArray⟩ c) 5 ((bytesRow ⟨f.toArray⟩ c).size, (bytesRow ⟨f.toArray⟩ c).size + 1))).drew) := by
  have hgl := (h.own.lt g rfl).2
  refine ⟨(h.bel.alloc h.bel.size _).drew, ?_, ?_, ?_, h.bel.size, by omega, by simp⟩
  · exact owns_bytes (h.own.alloc _)
  · have := bytes_new wx ⟨f.toArray⟩ c ((bytesRow ⟨f.toArray⟩ c).size, (bytesRow ⟨f.toArray⟩ c).size + 1)
    simpa using this
  · intro i hi; exact free_new wx ⟨f.toArray⟩ c i (by simpa [ByteArray.size] using hi)

def badU (c u : UInt8) : Prop := u = c ∨ u = 36 ∨ u = 35

theorem turned_bad (f raw : List UInt8) (q : Nat) (u : UInt8) (hr : ∀ c ∈ raw, c ≠ 36 ∧ c ≠ 35) (hl : raw.length ≤ 200) (hf : f = 36 :: raw ++ [35, hexd ((sum8 raw).toNat / 16), hexd ((sum8 raw).toNat % 16)])
    (hq : q < raw.length) (hu : u ≠ raw[q]) (h36 : u ≠ 36) (h35 : u ≠ 35) : feedP sc0 (f.set (1 + q) u) = [badPk] := by
  have e : f.set (1 + q) u = 36 :: (raw.set q u) ++ [35, hexd ((sum8 raw).toNat / 16), hexd ((sum8 raw).toNat % 16)] := by
    subst hf
    rw [Nat.add_comm 1 q, List.cons_append, List.set_cons_succ, List.set_append_left _ _ hq]; rfl
  have hok : ∀ c ∈ raw.set q u, c ≠ 36 ∧ c ≠ 35 := by
    intro c hc
    rcases List.mem_or_eq_of_mem_set hc with h | h
    · exact hr c h
    · subst h; exact ⟨h36, h35⟩
  have := (feed_all [] (raw.set q u) (hexd ((sum8 raw).toNat / 16)) (hexd ((sum8 raw).toNat % 16)) (by simp) hok (by simpa using hl)).2.2
  rw [List.nil_append] at this
  rw [e, this, read_bad _ _ (sum8_set raw q u hq hu)]

/-- How many more rounds the turning takes. -/
def meas (c u : UInt8) : Nat := if u = c ∨ u = 36 ∨ u = 35 then (if u + 1 = c ∨ u + 1 = 36 ∨ u + 1 = 35 then (if u + 2 = c ∨ u + 2 = 36 ∨ u + 2 = 35 then 3 else 2) else 1) else 0

theorem u8_eq_iff (a b : UInt8) : a = b ↔ a.toNat = b.toNat := UInt8.toNat_inj.symm
theorem meas_down (c u : UInt8) (h : u = c ∨ u = 36 ∨ u = 35) : meas c (u + 1) < meas c u := by
  have e1 : u + 1 + 1 = u + 2 := by rw [UInt8.add_assoc]; rfl
  have e2 : u + 1 + 2 = u + 3 := by rw [UInt8.add_assoc]; rfl
  have key : (u + 1 = c ∨ u + 1 = 36 ∨ u + 1 = 35) → (u + 2 = c ∨ u + 2 = 36 ∨ u + 2 = 35) → ¬ (u + 3 = c ∨ u + 3 = 36 ∨ u + 3 = 35) := by
    simp only [u8_eq_iff, UInt8.toNat_add] at *
    have hu := u.toNat_lt
    have hc := c.toNat_lt
    simp at *
    omega
  unfold meas
  rw [if_pos h, e1, e2]
  split
  · split
    · split
      · rename_i h1 h2 h3; exact absurd h3 (key h1 h2)
      · omega
    · omega
  · omega

theorem xs_step {w wr : World} {g X q nq : Nat} {f : List UInt8} {u : UInt8} (h : Xs w g X f (f.set (1 + q) u) wr) (hq : 1 + q < f.length) :
    Xs w g X f (f.set (1 + q) (u + 1)) ((wr.setCell ⟨X, 1 + q, none⟩ (.int .u8 (((u.toNat : Int) + 1) % 256))).drewN nq) := by
  have := (h.set (1 + q) (by simpa using hq) (u + 1)).drewN nq
  rw [List.set_set, ← add_u8] at this
  exact this

theorem Xs.grown {w wx wy : World} {g X : Nat} {f x : List UInt8} (h : Xs w g X f x wx) (hg : wx.grownBy wy none) (hgl : g < wx.heap.size) : Xs w g X f x wy := by
  have hb : ∀ k, k < wx.heap.size → wy.heap[k]? = wx.heap[k]? := fun k hk => hg.block k hk (by simp)
  have := h.xlt
  refine ⟨h.bel.grown hg h.bel.size (by simp), ?_, ?_, ?_, h.lo, h.ne, Nat.lt_of_lt_of_le h.xlt hg.size⟩
  · intro i hi; rw [World.cell?_of_block (a := ⟨g, 0 + i, none⟩) (hb g hgl)]; exact h.fb i hi
  · intro i hi; rw [World.cell?_of_block (a := ⟨X, 0 + i, none⟩) (hb X h.xlt)]; exact h.xb i hi
  · intro i hi; rw [World.frozen?_of_block (a := ⟨X, i, none⟩) (hb X h.xlt)]; exact h.free i hi

theorem turned_bad' {b : UInt8} {l f : List UInt8} {q : Nat} {u : UInt8} (hf : f = 36 :: rawOf b l ++ [35, hexd ((sum8 (rawOf b l)).toNat / 16), hexd ((sum8 (rawOf b l)).toNat % 16)]) (h : l.length ≤ 80)
    (hq1 : 1 + q < f.length) (hq : q + 4 < f.length) (hu : u ≠ f[1 + q]) (h36 : u ≠ 36) (h35 : u ≠ 35) : feedP sc0 (f.set (1 + q) u) = [badPk] := by
  have hl := raw_len b l h
  have hql : q < (rawOf b l).length := by rw [hf] at hq; simp at hq; omega
  refine turned_bad f (rawOf b l) q u (raw_ok b l) (by omega) hf hql ?_ h36 h35
  intro e; apply hu; rw [e]
  subst hf
  simp [Nat.add_comm 1 q, List.getElem_append_left hql]

end Go.Proofs.Ytcgjliflnnklnaa
