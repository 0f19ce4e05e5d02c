/-
  Joined texts.
-/
import Derived.Deep.RegionHeld3
import Derived.Deep.Cut
import Derived.Test.YtcgjliflnnklnaaGreatJ16
import Derived.Test.YtcgjliflnnklnaaGreatJ01
import Derived.Test.YtcgjliflnnklnaaGreatJ17
namespace Go.Proofs.YtcgjliflnnklnaaGreat
open Go.RowKit

/-
  A configuration that was lent: how it lies.
-/
section
/-- A chunk's bytes that were lent. -/
def LV (w : World) (lo : Nat) (bs : List UInt8) (v : Value) : Prop := (bs = [] ∧ v = .slice none 0 0) ∨ ∃ g, lo ≤ g ∧ v = .slice (some ⟨g, 0, none⟩) bs.length (bs.length + 8) ∧ LentAt w g bs

theorem LentAt.same {w w' : World} {g : Nat} {l : List UInt8} (h : LentAt w g l) (e : w'.heap[g]? = w.heap[g]?) : LentAt w' g l :=
  ⟨by obtain ⟨cur, h1, h2⟩ := h.row; exact ⟨cur, e.trans h1, h2⟩, fun i hi => (World.cell?_of_block (a := ⟨g, 0 + i, none⟩) e).trans (h.bytes i hi), fun j hj => (World.cell?_of_block (a := ⟨g, l.length + j, none⟩) e).trans (h.spare j hj)⟩
theorem LV.blk {w : World} {lo g : Nat} {bs : List UInt8} {v : Value} (h : LV w lo bs v) (hg : v.ownBlock = some g) : lo ≤ g ∧ g < w.heap.size := by
  rcases h with ⟨_, rfl⟩ | ⟨g', h1, rfl, h2⟩
  · simp [Value.ownBlock] at hg
  · simp [Value.ownBlock] at hg; subst hg; exact ⟨h1, h2.row.lt⟩
theorem LV.same {w w' : World} {lo : Nat} {bs : List UInt8} {v : Value} (h : LV w lo bs v) (hk : ∀ g, v.ownBlock = some g → w'.heap[g]? = w.heap[g]?) : LV w' lo bs v := by
  rcases h with h | ⟨g', h1, rfl, h2⟩
  · exact .inl h
  · exact .inr ⟨g', h1, rfl, h2.same (hk g' rfl)⟩
theorem LV.chv {w : World} {lo : Nat} {bs : List UInt8} {v : Value} (h : LV w lo bs v) : ChV w.heap.size w v bs := by
  rcases h with ⟨rfl, rfl⟩ | ⟨g, _, rfl, h2⟩
  · exact ⟨none, 0, rfl, fun q => absurd rfl q⟩
  · exact ⟨_, _, rfl, fun _ => ⟨g, 0, rfl, h2.row.lt, h2.bytes⟩⟩

structure Lnt (w : World) (lo : Nat) (tag : Nat → Nat) (cs : List Chn) (kc ko : Nat) (vs : List Value) (G : Nat) (V : Value) : Prop where
  len : vs.length = ko
  kn : kc ≤ ko ∧ ko ≤ cs.length
  row : RowAt w G 51 2 (cs.length + 8)
  c : ∀ i, (h : i < cs.length) → i < kc → w.cell? ⟨G, i * 2, none⟩ = some (.int .i64 cs[i].at_) ∧ w.cell? ⟨G, i * 2 + 1, none⟩ = vs[i]?
  own : w.ownsRow lo 35 1 V ko vs
  lv : ∀ i, (h : i < cs.length) → i < ko → ∃ v, vs[i]? = some v ∧ LV w lo cs[i].bs v
  loG : lo ≤ G
  tG : tag G = 1
  tV : ∀ g, V.ownBlock = some g → tag g = 2
  tv : ∀ (i : Nat) v g, vs[i]? = some v → v.ownBlock = some g → tag g = 3 + i

section
variable {w w' : World} {lo : Nat} {tag tag' : Nat → Nat} {cs : List Chn} {kc ko : Nat} {vs : List Value} {G : Nat} {V : Value}

theorem RowAt.same {g e size cap : Nat} (h : RowAt w g e size cap) (q : w'.heap[g]? = w.heap[g]?) : RowAt w' g e size cap := by
  obtain ⟨cur, h1, h2⟩ := h; exact ⟨cur, q.trans h1, h2⟩
theorem Lnt.vlt (h : Lnt w lo tag cs kc ko vs G V) {i g : Nat} {v : Value} (hi : vs[i]? = some v) (hg : v.ownBlock = some g) : lo ≤ g ∧ g < w.heap.size := by
  have hl : i < ko := by
    have := h.len
    rcases Nat.lt_or_ge i vs.length with q | q
    · omega
    · rw [List.getElem?_eq_none q] at hi; cases hi
  obtain ⟨v', e, q⟩ := h.lv i (by have := h.kn.2; omega) hl
  rw [hi] at e
  injection e with e
  subst e
  exact q.blk hg
/-- Blocks with a tag are as they were. -/
theorem Lnt.kept (h : Lnt w lo tag cs kc ko vs G V) (hk : ∀ g, g < w.heap.size → tag g ≠ 0 → w'.heap[g]? = w.heap[g]?) (ht : ∀ g, g < w.heap.size → tag' g = tag g) : Lnt w' lo tag' cs kc ko vs G V := by
  have hG : w'.heap[G]? = w.heap[G]? := hk G h.row.lt (by rw [h.tG]; decide)
  refine ⟨h.len, h.kn, h.row.same hG, fun i hi hc => ?_, row_same h.own (fun g hg => hk g (h.own.lt g hg).2 (by rw [h.tV g hg]; decide)), fun i hi hc => ?_, h.loG, (ht G h.row.lt).trans h.tG, fun g hg => (ht g (h.own.lt g hg).2).trans (h.tV g hg), fun i v g hi hg => (ht g (h.vlt hi hg).2).trans (h.tv i v g hi hg)⟩
  · rw [World.cell?_of_block (a := ⟨G, i * 2, none⟩) hG, World.cell?_of_block (a := ⟨G, i * 2 + 1, none⟩) hG]; exact h.c i hi hc
  · obtain ⟨v, e, q⟩ := h.lv i hi hc
    exact ⟨v, e, q.same (fun g hg => hk g (h.vlt e hg).2 (by rw [h.tv i v g e hg]; omega))⟩
theorem Lnt.below (h : Lnt w lo tag cs kc ko vs G V) (hb : Below w.heap.size w w') : Lnt w' lo tag cs kc ko vs G V := h.kept (fun g hg _ => hb.block g hg) (fun _ _ => rfl)

/-- The list of the chunks' bytes has grown. -/
theorem Lnt.app {g' cap' : Nat} {v : Value} (h : Lnt w lo tag cs kc ko vs G V) (hko : (q : ko < cs.length) → LV w lo cs[ko].bs v) (hlt : ko < cs.length) (htv : ∀ g, v.ownBlock = some g → tag g = 3 + ko)
    (hgrow : w.grownBy w' V.ownBlock) (hown : w'.ownsRow lo 35 1 (.slice (some ⟨g', 0, none⟩) (ko + 1) cap') (ko + 1) (vs ++ [v])) (hat : V.ownBlock = some g' ∨ g' = w.heap.size) :
    Lnt w' lo (fun g => if w.heap.size ≤ g then 2 else tag g) cs kc (ko + 1) (vs ++ [v]) G (.slice (some ⟨g', 0, none⟩) (ko + 1) cap') := by
  have hk : ∀ g, g < w.heap.size → tag g ≠ 2 → w'.heap[g]? = w.heap[g]? := fun g hg ht => hgrow.block g hg (fun e => ht (h.tV g e.symm))
  have tt : ∀ g, g < w.heap.size → (if w.heap.size ≤ g then 2 else tag g) = tag g := fun g hg => if_neg (by omega)
  have hG := hk G h.row.lt (by rw [h.tG]; decide)
  have hvb : ∀ g, v.ownBlock = some g → g < w.heap.size := fun g hg => ((hko hlt).blk hg).2
  refine ⟨by simp [h.len], ⟨Nat.le_succ_of_le h.kn.1, hlt⟩, h.row.same hG, fun i hi hc => ?_, hown, fun i hi hc => ?_, h.loG, (tt G h.row.lt).trans h.tG, fun g hg => ?_, fun i u g hi hg => ?_⟩
  · rw [World.cell?_of_block (a := ⟨G, i * 2, none⟩) hG, World.cell?_of_block (a := ⟨G, i * 2 + 1, none⟩) hG]
    exact ⟨(h.c i hi hc).1, (h.c i hi hc).2.trans (List.getElem?_append_left (by rw [h.len]; have := h.kn.1; omega)).symm⟩
  · by_cases q : i < ko
    · obtain ⟨u, e, r⟩ := h.lv i hi q
      exact ⟨u, by rw [List.getElem?_append_left (by rw [h.len]; exact q)]; exact e, r.same (fun g hg => hk g (h.vlt e hg).2 (by rw [h.tv i u g e hg]; omega))⟩
    · obtain rfl : i = ko := by omega
      exact ⟨v, by rw [List.getElem?_append_right (by rw [h.len]; exact Nat.le_refl _), h.len, Nat.sub_self]; rfl, (hko hlt).same (fun g hg => hk g (hvb g hg) (by rw [htv g hg]; omega))⟩
  · have e1 : g' = g := by simp [Value.ownBlock] at hg; exact hg
    subst e1
    rcases hat with q | q
    · rw [tt g' (h.own.lt g' q).2]; exact h.tV g' q
    · exact if_pos (by omega)
  · by_cases q : i < ko
    · rw [List.getElem?_append_left (by rw [h.len]; exact q)] at hi
      rw [tt g (h.vlt hi hg).2]; exact h.tv i u g hi hg
    · rw [List.getElem?_append_right (by rw [h.len]; omega), h.len] at hi
      have : i - ko = 0 := by
        rcases Nat.eq_zero_or_pos (i - ko) with z | z
        · exact z
        · rw [List.getElem?_eq_none (by simp; omega)] at hi; cases hi
      rw [this] at hi
      injection hi with hi
      subst hi
      rw [tt g (hvb g hg)]
      have e : i = ko := by omega
      rw [e]; exact htv g hg

/-- A chunk is laid. -/
theorem Lnt.lay (h : Lnt w lo tag cs kc (kc + 1) vs G V) (q : kc < cs.length) {v : Value} (hv : vs[kc]? = some v) :
    Lnt ((w.setCell ⟨G, kc * 2, none⟩ (.int .i64 cs[kc].at_)).setCell ⟨G, kc * 2 + 1, none⟩ v) lo tag cs (kc + 1) (kc + 1) vs G V := by
  have hk : ∀ g, g ≠ G → ((w.setCell ⟨G, kc * 2, none⟩ (.int .i64 cs[kc].at_)).setCell ⟨G, kc * 2 + 1, none⟩ v).heap[g]? = w.heap[g]? := fun g hg => (Below.heap_setCell _ _ _ _ hg).trans (Below.heap_setCell _ _ _ _ hg)
  have nG : ∀ g t, tag g = t → t ≠ 1 → g ≠ G := fun g t e1 e2 e => by rw [e, h.tG] at e1; exact e2 e1.symm
  refine ⟨h.len, ⟨Nat.le_refl _, h.kn.2⟩, (h.row.setCell _ _ _).setCell _ _ _, fun i hi hc => ?_, row_same h.own (fun g hg => hk g (nG g 2 (h.tV g hg) (by decide))), fun i hi hc => ?_, h.loG, h.tG, h.tV, h.tv⟩
  · obtain ⟨u1, hu1⟩ := h.row.there (kc * 2) (by omega)
    obtain ⟨u2, hu2⟩ := (h.row.setCell G (kc * 2) (.int .i64 cs[kc].at_)).there (kc * 2 + 1) (by omega)
    by_cases e : i = kc
    · subst e
      exact ⟨by rw [World.cell?_setCell_other _ _ _ _ (addr_ne _ _ _ (by omega)), World.cell?_setCell_same _ _ _ hu1], by rw [World.cell?_setCell_same _ _ _ hu2, hv]⟩
    · have := h.c i hi (by omega)
      refine ⟨?_, ?_⟩
      · rw [World.cell?_setCell_other _ _ _ _ (addr_ne _ _ _ (by omega)), World.cell?_setCell_other _ _ _ _ (addr_ne _ _ _ (by omega))]; exact this.1
      · rw [World.cell?_setCell_other _ _ _ _ (addr_ne _ _ _ (by omega)), World.cell?_setCell_other _ _ _ _ (addr_ne _ _ _ (by omega))]; exact this.2
  · obtain ⟨u, e, r⟩ := h.lv i hi hc
    exact ⟨u, e, r.same (fun g hg => hk g (nG g _ (h.tv i u g e hg) (by omega)))⟩
end
end

/-
  A configuration is lent: lentConfig.
-/
section
set_option maxRecDepth 100000
set_option maxHeartbeats 8000000

theorem inf_chunk : (Tryz.prog.info? 51).map (fun i => (i.zero, i.size, i.bytes)) = some (some (.agg #[.int .i64 0, .slice none 0 0]), 2, 32) := by kernel_rfl
theorem und_chunks : Tryz.prog.underlying 24 = some (.slice 51) := by kernel_rfl
theorem inf_bytes : (Tryz.prog.info? 35).map (fun i => (i.zero, i.size, i.bytes)) = some (some (.slice none 0 0), 1, 24) := by kernel_rfl
theorem und_bytess : Tryz.prog.underlying 154 = some (.slice 35) := by kernel_rfl
theorem row_of_own2 {w : World} {base g n e size : Nat} {xs : List Value} (h : w.ownsRow base e size (.slice (some ⟨g, 0, none⟩) n n) n xs) : RowAt w g e size n := by
  rcases h.2 with ⟨e, _⟩ | ⟨g', cap, cur, e, _, h1, _, _, h2, _⟩
  · simp at e
  · injection e with e1 e2 e3; injection e1 with e1; injection e1 with e1; subst e1 e3; exact ⟨cur, h1, h2⟩

theorem conv_ch {w : World} {p : Option Addr} {cap : Nat} {l : List UInt8} (h : l ≠ [] → ∃ b off, p = some ⟨b, off, none⟩ ∧ BytesAt w b off l) : (convert 35 9 (.slice p l.length cap)).run Tryz.prog w = .ok (.string ⟨l.toArray⟩) w := by
  cases p with
  | none =>
    have e : l = [] := by
      by_cases q : l = []
      · exact q
      · obtain ⟨_, _, z, _⟩ := h q; cases z
    subst e
    exact run_convert_bytes_nil w 35 5 und_bytes und_u8 0 cap 9 und_str
  | some a =>
    refine run_convert_bytes_back (P := Tryz.prog) w 35 9 5 a cap l und_bytes und_u8 und_str (fun j hj => ?_)
    obtain ⟨b, off, z, hB⟩ := h (by intro e; rw [e] at hj; simp at hj)
    injection z with z
    subst z
    rw [show (⟨b, off, none⟩ : Addr).add j = ⟨b, off + j, none⟩ from by unfold Addr.add; split <;> simp_all]; exact hB j hj

/-- lent, whatever the bytes are. -/
theorem lent_ch (p : Option Addr) (l : List UInt8) (hl : l.length ≤ 2000000) (hp : p = none → l = []) (w : World) :
    Calls Tryz.prog 70 #[.string ⟨l.toArray⟩, .bool p.isNone] w fun e w' => ∃ q c, e = .returned (.slice q l.length c) ∧ LV w' w.heap.size l (.slice q l.length c) ∧ Below w.heap.size w w' := by
  have hs : (⟨l.toArray⟩ : ByteArray).size = l.length := by simp [ByteArray.size]
  cases p with
  | none =>
    obtain rfl := hp rfl
    refine (lent_nil w).mono ?_
    rintro e w' ⟨rfl, rfl⟩
    exact ⟨_, _, rfl, .inl ⟨rfl, rfl⟩, Below.refl _ _⟩
  | some a =>
    refine (lent_any ⟨l.toArray⟩ false w (by rw [hs]; omega) (by simp)).mono ?_
    rintro e w' ⟨rfl, h1, h2⟩
    rw [hs]
    exact ⟨_, _, rfl, .inr ⟨w.heap.size, Nat.le_refl _, rfl, by simpa using h1⟩, h2⟩

theorem LV.mono {w : World} {lo lo' : Nat} {bs : List UInt8} {v : Value} (h : LV w lo bs v) (hl : lo' ≤ lo) : LV w lo' bs v := by
  rcases h with h | ⟨g, h1, h2⟩
  · exact .inl h
  · exact .inr ⟨g, Nat.le_trans hl h1, h2⟩
theorem LV.one {w : World} {lo : Nat} {bs : List UInt8} {v : Value} (h : LV w lo bs v) : ∀ u ∈ [v], u.oneCell' = true := by
  intro u hu
  simp at hu
  subst hu
  rcases h with ⟨_, rfl⟩ | ⟨g, _, rfl, _⟩ <;> rfl
theorem own_slice {w : World} {lo e size k : Nat} {V : Value} {xs : List Value} (h : w.ownsRow lo e size V k xs) : ∃ p c, V = .slice p k c := by
  rcases h.2 with ⟨e, e2⟩ | ⟨g, cap, _, e, _⟩
  · exact ⟨none, 0, by rw [e, e2]⟩
  · exact ⟨_, cap, e⟩

theorem bel7 {w0 w5 w7 : World} {o : Obj} {r : Option Nat} (hb : Below w0.heap.size w0 w5) (hg : (w5.alloc o).grownBy w7 r) (hr : ∀ g, r = some g → w0.heap.size ≤ g) : Below w0.heap.size w0 w7 :=
  (hb.alloc hb.size o).grown hg (by have q := hb.size; have q2 := World.size_alloc w5 o; omega) hr

theorem Lnt.beyond {w : World} {lo : Nat} {tag : Nat → Nat} {cs : List Chn} {kc ko : Nat} {vs : List Value} {G : Nat} {V : Value} (h : Lnt w lo tag cs kc ko vs G V) {o : Nat} {u : Value} (ho : cs.length * 2 ≤ o) : Lnt (w.setCell ⟨G, o, none⟩ u) lo tag cs kc ko vs G V := by
  have nG : ∀ g t, tag g = t → t ≠ 1 → g ≠ G := fun g t e1 e2 e => by rw [e, h.tG] at e1; exact e2 e1.symm
  refine ⟨h.len, h.kn, h.row.setCell _ _ _, fun i hi hc => ?_, row_same h.own (fun g hg => Below.heap_setCell _ _ _ _ (nG g 2 (h.tV g hg) (by decide))), fun i hi hc => ?_, h.loG, h.tG, h.tV, h.tv⟩
  · rw [World.cell?_setCell_other _ _ _ _ (addr_ne _ _ _ (by omega)), World.cell?_setCell_other _ _ _ _ (addr_ne _ _ _ (by omega))]; exact h.c i hi hc
  · obtain ⟨v, e, r⟩ := h.lv i hi hc
    exact ⟨v, e, r.same (fun g hg => Below.heap_setCell _ _ _ _ (nG g _ (h.tv i v g e hg) (by omega)))⟩

/-- While chunks are lent. -/
structure Lg (w : World) (cs : List Chn) (v : Value) (rom : Int) (G X0 k : Nat) (wr : World) (vs : List Value) (V : Value) (tag : Nat → Nat) : Prop where
  l : Lnt wr w.heap.size tag cs k k vs G V
  x : Blk wr X0 #[.slice (some ⟨G, 0, none⟩) (cs.length + 8) (cs.length + 8), V] 156
  c : Blk wr w.heap.size #[v, .int .i64 rom] 26
  r1 : Blk wr (w.heap.size + 1) #[.slice none 0 0, .int .i64 0] 26
  r2 : Blk wr (w.heap.size + 1 + 1) #[.slice none 0 0, .slice none 0 0] 156
  b : Below w.heap.size w wr
  lx : w.heap.size ≤ X0
  nx : X0 ≠ w.heap.size ∧ X0 ≠ w.heap.size + 1 ∧ X0 ≠ w.heap.size + 1 + 1
  tx : tag X0 = 0
  tc : tag w.heap.size = 0
  t1 : tag (w.heap.size + 1) = 0
  t2 : tag (w.heap.size + 1 + 1) = 0
  tl : ∀ g, g < w.heap.size → tag g = 0

theorem lentC (w : World) (N : Nat) (v : Value) (cs : List Chn) (rom : Int) (hc : CfAt N w v cs) (hN : N ≤ w.heap.size) (hl : cs.length ≤ 2000000) (hb : ∀ c ∈ cs, c.bs.length ≤ 2000000) :
    Calls Tryz.prog 59 #[.agg #[v, .int .i64 rom]] w fun e w' => ∃ G V vs tag, e = .returned (.tuple #[.agg #[.slice (some ⟨G, 0, none⟩) cs.length (cs.length + 8), .int .i64 rom], .agg #[.slice (some ⟨G, 0, none⟩) (cs.length + 8) (cs.length + 8), V]]) ∧
      Lnt w' w.heap.size tag cs cs.length cs.length vs G V ∧ (∀ j, j < 8 → w'.cell? ⟨G, (cs.length + j) * 2, none⟩ = some (.int .i64 (-77)) ∧ w'.cell? ⟨G, (cs.length + j) * 2 + 1, none⟩ = some (.slice none 0 0)) ∧ Below w.heap.size w w' ∧ ∀ g, g < w.heap.size → tag g = 0 := by
  have HC : Hid (N ≤ w.heap.size ∧ CfAt N w v cs ∧ ∀ c ∈ cs, c.bs.length ≤ 2000000) := ⟨hN, hc, hb⟩
  obtain ⟨p, cap, rfl, -⟩ := hc
  obtain ⟨i0, hi, hz0, hz1, hz2⟩ := info_parts inf_chunk
  have hm : i0.bytes * (cs.length + 8) ≤ 281474976710656 := by rw [hz2]; omega
  clear hN hb
  go_enter Tryz.func59, Tryz.ntmps59
  go_upto_region 2 with (first | (at_make; go_must (refine wpList_make_full _ rfl _ _ 24 rfl w.heap.size 51 i0 _ 2 und_chunks hi hz0 hz1 .i64 .i64 _ _ (cs.length + 8) rfl rfl (by omega) (by omega) hm (by unfold maxLen; omega) (by simp; omega) ?_; intro w1 hown1 hgrow1)))
  have hsz : (((w.alloc (.cells #[.slice p cs.length cap, .int .i64 rom] 26)).alloc (.cells #[.slice none 0 0, .int .i64 0] 26)).alloc (.cells #[.slice none 0 0, .slice none 0 0] 156)).heap.size = w.heap.size + 1 + 1 + 1 := by simp
  rw [hsz] at hown1
  have hb1 : Below (((w.alloc (.cells #[.slice p cs.length cap, .int .i64 rom] 26)).alloc (.cells #[.slice none 0 0, .int .i64 0] 26)).alloc (.cells #[.slice none 0 0, .slice none 0 0] 156)).heap.size (((w.alloc (.cells #[.slice p cs.length cap, .int .i64 rom] 26)).alloc (.cells #[.slice none 0 0, .int .i64 0] 26)).alloc (.cells #[.slice none 0 0, .slice none 0 0] 156)) w1 := ⟨hgrow1.os, hgrow1.tape, hgrow1.output, hgrow1.size, fun k hk => hgrow1.block k hk (by simp)⟩
  have hrow := row_of_own2 hown1
  have hG1 := hrow.lt
  have HL : Hid (Lg w cs (.slice p cs.length cap) rom (w.heap.size + 1 + 1 + 1) w1.heap.size 0 (w1.alloc (.cells #[.slice (some ⟨w.heap.size + 1 + 1 + 1, 0, none⟩) (cs.length + 8) (cs.length + 8), .slice none 0 0] 156)) [] (.slice none 0 0) (fun g => if g = w.heap.size + 1 + 1 + 1 then 1 else 0)) := by
    refine ⟨⟨rfl, ⟨Nat.le_refl _, Nat.zero_le _⟩, hrow.same (Below.heap_alloc _ _ _ hG1), fun i _ hc => absurd hc (by omega), World.ownsRow_nil _ _ _ _, fun i _ hc => absurd hc (by omega), by omega, if_pos rfl, fun g hg => by simp [Value.ownBlock] at hg, fun i v g hi => by simp at hi⟩, Blk.new _ _ _, ?_, ?_, ?_, ?_, by omega, ⟨by omega, by omega, by omega⟩, if_neg (by omega), if_neg (by omega), if_neg (by omega), if_neg (by omega), fun g hg => if_neg (by omega)⟩
    · exact ((((Blk.new w _ _).alloc _).alloc _).below hb1).alloc _
    · exact (((blk_new' (w.alloc (.cells #[.slice p cs.length cap, .int .i64 rom] 26)) _ _ _ (by simp)).alloc _).below hb1).alloc _
    · exact ((blk_new' ((w.alloc (.cells #[.slice p cs.length cap, .int .i64 rom] 26)).alloc (.cells #[.slice none 0 0, .int .i64 0] 26)) _ _ _ (by simp)).below hb1).alloc _
    · exact ((((((Below.refl _ _).alloc (Nat.le_refl _) _).alloc (by simp) _).alloc (by simp; omega) _).trans (hb1.mono (by simp; omega))).alloc (by omega) _)
  generalize w1.alloc (.cells #[.slice (some ⟨w.heap.size + 1 + 1 + 1, 0, none⟩) (cs.length + 8) (cs.length + 8), .slice none 0 0] 156) = W1 at *
  generalize w1.heap.size = X0 at *
  obtain ⟨G, hG⟩ : ∃ G, w.heap.size + 1 + 1 + 1 = G := ⟨_, rfl⟩
  rw [hG] at HL ⊢
  clear hown1 hgrow1 hsz hb1 hrow hG1 hG hm hi hz0 hz1 hz2
  obtain ⟨i1, hj, hj0, hj1, hj2⟩ := info_parts inf_bytes
  have hnil := fun (w : World) (a : Option Addr) (n c : Nat) => Lib.run_eql_slice_nil (P := Tryz.prog) w 35 5 a n c 0 0 und_bytes
  go_wp2_with fail
  go_loopw [5] (fun i wr => ∃ (k : Nat) (vs : List Value) (V : Value) (tag : Nat → Nat), k ≤ cs.length ∧ i = .int .i64 k ∧ Lg w cs (.slice p cs.length cap) rom G X0 k wr vs V tag) (fun i _ => cs.length - (intOf i).toNat)
  case atStart => exact ⟨0, [], _, _, Nat.zero_le _, rfl, HL.out⟩
  case round =>
    clear HL
    obtain ⟨k, vs, V, tag, hk, rfl, hL⟩ := hrel
    have HL : Hid (Lg w cs (.slice p cs.length cap) rom G X0 k wr vs V tag) := hL
    have e0 : wr.cell? ⟨w.heap.size, 0, none⟩ = some (.slice p cs.length cap) := hL.c.cell 0
    have lc := hL.c.lt
    by_cases hlt : k < cs.length
    · obtain ⟨p', cap', ev, H⟩ := HC.out.2.1
      injection ev with ev1 ev2 ev3
      subst ev1
      subst ev3
      obtain ⟨b, off, rfl, hbN, HQ⟩ := H (by intro e; rw [e] at hlt; simp at hlt)
      obtain ⟨c1, c2, hcv⟩ := HQ k hlt
      have hlen := HC.out.2.2 _ (List.getElem_mem hlt)
      have hN := HC.out.1
      have d1 := (hL.b.cell (p := ⟨b, off + k * 2, none⟩) (lt_of_cell (by rw [c1]; simp))).trans c1
      have d2 := (hL.b.cell (p := ⟨b, off + k * 2 + 1, none⟩) (lt_of_cell (by rw [c2]; simp))).trans c2
      obtain ⟨p2, cap2, hv2, hB2⟩ := hcv
      rw [hv2] at d2
      clear HQ H c1 c2 hL
      generalize hat : cs[k].at_ = A at *
      generalize hbs : cs[k].bs = l at *
      have hpn : p2 = none → l = [] := fun e => by
        by_cases z : l = []
        · exact z
        · obtain ⟨_, _, z2, _⟩ := hB2 z; rw [e] at z2; cases z2
      have LC := fun w => lent_ch p2 l hlen hpn w
      have HCV : Hid (∀ w', Below w.heap.size w w' → (convert 35 9 (.slice p2 l.length cap2)).run Tryz.prog w' = .ok (.string ⟨l.toArray⟩) w') := fun w' hw => conv_ch (fun z => by
        obtain ⟨b', off', z1, z2, z3⟩ := hB2 z
        exact ⟨b', off', z1, fun i hi => (hw.cell (p := ⟨b', off' + i, none⟩) (lt_of_cell (by rw [z3 i hi]; simp))).trans (z3 i hi)⟩)
      have hcw := HCV.out wr.drew HL.out.b.drew
      have hbr : b < wr.heap.size := by omega
      have HR : Hid (cs[k].at_ = A ∧ cs[k].bs = l) := ⟨hat, hbs⟩
      clear hat hbs hv2 hB2
      go_wp2_with fail
      go_region_held3 (fun w' => w'.cell? ⟨w.heap.size, 0, none⟩ = some (.slice (some ⟨b, off, none⟩) cs.length cap) ∧ w'.cell? ⟨b, off + k * 2 + 1, none⟩ = some (.slice p2 l.length cap2) ∧ (convert 35 9 (.slice p2 l.length cap2)).run Tryz.prog w' = .ok (.string ⟨l.toArray⟩) w') (go_keep) (first | (go_at_call 70; have Q9 := LC wr.drew; refine Calls.mono Q9 ?_; clear Q9; rintro e w5 ⟨uq, uc, rfl, hu, hb5⟩; obtain ⟨cA, fA, sz5, bl5⟩ := held_r hb5; have k0 := (cA _ 0 lc).trans e0; have k1 := (cA _ _ hbr).trans d1; have k2 := (cA _ _ hbr).trans d2; have HL5 : Hid (Below wr.heap.size wr w5 ∧ LV w5 wr.heap.size l (.slice uq l.length uc)) := ⟨bl5, hu⟩; have hcw5 := HCV.out w5 (HL.out.b.trans (bl5.mono HL.out.b.size)); clear hu hb5 cA fA bl5 sz5))
      obtain ⟨aV, cV, rfl⟩ := own_slice HL.out.l.own
      obtain ⟨tag1, htag1⟩ : ∃ tag1 : Nat → Nat, tag1 = fun g => if wr.heap.size ≤ g then 3 + k else tag g := ⟨_, rfl⟩
      have tlow : ∀ g, g < wr.heap.size → tag1 g = tag g := fun g hg => by rw [htag1]; exact if_neg (by omega)
      have hb5 := HL5.out.1
      have lo5 : w.heap.size ≤ wr.heap.size := HL.out.b.size
      have HB5 : Hid (Below w.heap.size w w5) := HL.out.b.trans (hb5.mono lo5)
      have lo6 : w.heap.size ≤ w5.heap.size := HB5.out.size
      have H5 : Hid (Lnt w5 w.heap.size tag1 cs k k vs G (.slice aV k cV) ∧ Blk w5 X0 #[(.slice (some ⟨G, 0, none⟩) (cs.length + 8) (cs.length + 8)), .slice aV k cV] 156 ∧ Blk w5 w.heap.size #[.slice (some ⟨b, off, none⟩) cs.length cap, .int .i64 rom] 26 ∧ Blk w5 (w.heap.size + 1) #[.slice none 0 0, .int .i64 0] 26 ∧ Blk w5 (w.heap.size + 1 + 1) #[.slice none 0 0, .slice none 0 0] 156) :=
        ⟨HL.out.l.kept (fun g hg _ => hb5.block g hg) tlow, HL.out.x.below hb5, HL.out.c.below hb5, HL.out.r1.below hb5, HL.out.r2.below hb5⟩
      have HT1 : Hid ((∀ g, (Value.slice uq l.length uc).ownBlock = some g → tag1 g = 3 + k) ∧ (tag1 X0 = 0 ∧ tag1 w.heap.size = 0 ∧ tag1 (w.heap.size + 1) = 0 ∧ tag1 (w.heap.size + 1 + 1) = 0)) :=
        ⟨fun g hg => by rw [htag1]; exact if_pos (HL5.out.2.blk hg).1, (tlow _ HL.out.x.lt).trans HL.out.tx, (tlow _ HL.out.c.lt).trans HL.out.tc, (tlow _ HL.out.r1.lt).trans HL.out.t1, (tlow _ HL.out.r2.lt).trans HL.out.t2⟩
      have HU : Hid (LV w5 wr.heap.size l (.slice uq l.length uc)) := HL5.out.2
      have HTL1 : Hid (∀ g, g < w.heap.size → tag1 g = 0) := fun g hg => (tlow g (by omega)).trans (HL.out.tl g hg)
      have HX : Hid (X0 ≠ w.heap.size ∧ X0 ≠ w.heap.size + 1 ∧ X0 ≠ w.heap.size + 1 + 1) := HL.out.nx
      have hbr5 : b < w5.heap.size := Nat.lt_of_lt_of_le hbr hb5.size
      have x0 : w5.cell? ⟨X0, 0, none⟩ = some (.slice (some ⟨G, 0, none⟩) (cs.length + 8) (cs.length + 8)) := H5.out.2.1.cell 0
      have x1 : w5.cell? ⟨X0, 1, none⟩ = some (.slice aV k cV) := H5.out.2.1.cell 1
      have xl := H5.out.2.1.lt
      clear htag1 tlow hb5 HL5 e0 d1 d2 hcw hcw5 LC hpn
      have nv : ∀ g, (Value.slice aV k cV).ownBlock = some g → g ≠ X0 ∧ g ≠ w.heap.size ∧ g ≠ w.heap.size + 1 ∧ g ≠ w.heap.size + 1 + 1 ∧ w.heap.size ≤ g := fun g hg => by
        have h2 := H5.out.1.tV g hg
        refine ⟨fun e => ?_, fun e => ?_, fun e => ?_, fun e => ?_, (H5.out.1.own.lt g hg).1⟩
        · rw [e, HT1.out.2.1] at h2; cases h2
        · rw [e, HT1.out.2.2.1] at h2; cases h2
        · rw [e, HT1.out.2.2.2.1] at h2; cases h2
        · rw [e, HT1.out.2.2.2.2] at h2; cases h2
      go_upto_region 7 with (first | (at_builtin; go_must (refine wpList_append_lies _ rfl (.tmp 37) (.tmp 39) 154 rfl w.heap.size 35 i1 _ 1 24 und_bytess hj hj0 hj1 hj2 rfl (by decide) (.slice aV k cV) k vs rfl ?_ ⟨w5.heap.size, 0, none⟩ 1 1 [.slice uq l.length uc] rfl rfl (one_new' _ _ _) HU.out.one (by decide) ?_ ?_ ?_ _ rfl ?_; exact (H5.out.1.below ((Below.refl _ _).alloc (Nat.le_refl _) _)).own; (unfold maxLen; omega); omega; (simp; omega); intro g' cap' w7 hown hgrow hat hlt7; have hs7 : w5.heap.size < w7.heap.size := (by have q1 := hgrow.size; have q2 := World.size_alloc w5 (.cells #[.slice uq l.length uc] 35); omega); have hk7 : ∀ n, n < w5.heap.size → some n ≠ (Value.slice aV k cV).ownBlock → w7.heap[n]? = w5.heap[n]? := (fun n hn hv => (hgrow.block n (by have q2 := World.size_alloc w5 (.cells #[.slice uq l.length uc] 35); omega) hv).trans (Below.heap_alloc _ _ _ hn)); have HQ7 : Hid ((∀ n, n < w5.heap.size → some n ≠ (Value.slice aV k cV).ownBlock → w7.heap[n]? = w5.heap[n]?) ∧ Below w.heap.size w w7) := ⟨hk7, bel7 HB5.out hgrow (fun g hg => (nv g hg).2.2.2.2)⟩; have HL7 : Hid (Lnt w7 w.heap.size (fun g => if (w5.alloc (.cells #[.slice uq l.length uc] 35)).heap.size ≤ g then 2 else tag1 g) cs k (k + 1) (vs ++ [.slice uq l.length uc]) G (.slice (some ⟨g', 0, none⟩) (k + 1) cap')) := Lnt.app (H5.out.1.below ((Below.refl _ _).alloc (Nat.le_refl _) _)) (fun _ => by rw [HR.out.2]; exact (HU.out.mono lo5).same (fun g hg => Below.heap_alloc _ _ _ (HU.out.blk hg).2)) hlt HT1.out.1 hgrow hown hat; have hx7 := H5.out.2.1.same (hk7 _ xl (fun e => (nv _ e.symm).1 rfl)); have hc7 := H5.out.2.2.1.same (hk7 _ H5.out.2.2.1.lt (fun e => (nv _ e.symm).2.1 rfl)); have j0 : w7.cell? ⟨X0, 0, none⟩ = some (.slice (some ⟨G, 0, none⟩) (cs.length + 8) (cs.length + 8)) := hx7.cell 0; have j1 : w7.cell? ⟨X0, 1, none⟩ = some (.slice aV k cV) := hx7.cell 1; have jf := hx7.free 1; have jl := hx7.lt; have j2 : w7.cell? ⟨w.heap.size, 0, none⟩ = some (.slice (some ⟨b, off, none⟩) cs.length cap) := hc7.cell 0; have jl2 := hc7.lt; have j3 : w7.cell? ⟨b, off + k * 2, none⟩ = some (.int .i64 A) := (World.cell?_of_block (a := ⟨b, off + k * 2, none⟩) (hk7 b hbr5 (fun e => by have := (nv _ e.symm).2.2.2.2; omega))).trans k1; have hbr7 : b < w7.heap.size := (by omega); clear hown hgrow hat hlt7 hk7 hx7 hc7)))
      obtain ⟨tag2, htag2⟩ : ∃ tag2 : Nat → Nat, (fun g => if (w5.alloc (.cells #[.slice uq l.length uc] 35)).heap.size ≤ g then 2 else tag1 g) = tag2 := ⟨_, rfl⟩
      rw [htag2] at HL7
      have t2 : ∀ g, g < w5.heap.size → tag2 g = tag1 g := fun g hg => by rw [← htag2]; exact if_neg (by have := World.size_alloc w5 (.cells #[.slice uq l.length uc] 35); omega)
      have h7 := HQ7.out.1
      have nvo : ∀ n, n = X0 ∨ n = w.heap.size ∨ n = w.heap.size + 1 ∨ n = w.heap.size + 1 + 1 → some n ≠ (Value.slice aV k cV).ownBlock := fun n hn e => by
        obtain ⟨z1, z2, z3, z4, -⟩ := nv n e.symm
        omega
      have hx7 := H5.out.2.1.same (h7 _ xl (nvo _ (.inl rfl)))
      have HT2 : Hid (tag2 X0 = 0 ∧ tag2 w.heap.size = 0 ∧ tag2 (w.heap.size + 1) = 0 ∧ tag2 (w.heap.size + 1 + 1) = 0) :=
        ⟨(t2 _ xl).trans HT1.out.2.1, (t2 _ H5.out.2.2.1.lt).trans HT1.out.2.2.1, (t2 _ H5.out.2.2.2.1.lt).trans HT1.out.2.2.2.1, (t2 _ H5.out.2.2.2.2.lt).trans HT1.out.2.2.2.2⟩
      have HTL2 : Hid (∀ g, g < w.heap.size → tag2 g = 0) := fun g hg => (t2 g (by omega)).trans (HTL1.out g hg)
      have hXG : X0 ≠ G := fun e => by have z := HT2.out.1; rw [e, HL7.out.tG] at z; cases z
      have hxw : X0 ≠ w.heap.size ∧ X0 ≠ w.heap.size + 1 ∧ X0 ≠ w.heap.size + 1 + 1 := HX.out
      have H8 : Hid (Lnt (w7.setCell ⟨X0, 1, none⟩ (.slice (some ⟨g', 0, none⟩) (k + 1) cap')) w.heap.size tag2 cs k (k + 1) (vs ++ [.slice uq l.length uc]) G (.slice (some ⟨g', 0, none⟩) (k + 1) cap') ∧ Blk (w7.setCell ⟨X0, 1, none⟩ (.slice (some ⟨g', 0, none⟩) (k + 1) cap')) X0 #[(.slice (some ⟨G, 0, none⟩) (cs.length + 8) (cs.length + 8)), (.slice (some ⟨g', 0, none⟩) (k + 1) cap')] 156 ∧ Blk (w7.setCell ⟨X0, 1, none⟩ (.slice (some ⟨g', 0, none⟩) (k + 1) cap')) w.heap.size #[.slice (some ⟨b, off, none⟩) cs.length cap, .int .i64 rom] 26 ∧ Blk (w7.setCell ⟨X0, 1, none⟩ (.slice (some ⟨g', 0, none⟩) (k + 1) cap')) (w.heap.size + 1) #[.slice none 0 0, .int .i64 0] 26 ∧ Blk (w7.setCell ⟨X0, 1, none⟩ (.slice (some ⟨g', 0, none⟩) (k + 1) cap')) (w.heap.size + 1 + 1) #[.slice none 0 0, .slice none 0 0] 156 ∧ Below w.heap.size w (w7.setCell ⟨X0, 1, none⟩ (.slice (some ⟨g', 0, none⟩) (k + 1) cap'))) :=
        ⟨HL7.out.kept (fun g hg ht => Below.heap_setCell _ _ _ _ (fun e => ht (by rw [e]; exact HT2.out.1))) (fun _ _ => rfl), hx7.put 1 _, (H5.out.2.2.1.same (h7 _ H5.out.2.2.1.lt (nvo _ (.inr (.inl rfl))))).set hxw.1.symm, (H5.out.2.2.2.1.same (h7 _ H5.out.2.2.2.1.lt (nvo _ (.inr (.inr (.inl rfl)))))).set hxw.2.1.symm, (H5.out.2.2.2.2.same (h7 _ H5.out.2.2.2.2.lt (nvo _ (.inr (.inr (.inr rfl)))))).set hxw.2.2.symm, HQ7.out.2.setCell HL.out.lx _⟩
      have y3 : (w7.setCell ⟨X0, 1, none⟩ (.slice (some ⟨g', 0, none⟩) (k + 1) cap')).cell? ⟨b, off + k * 2, none⟩ = some (.int .i64 A) := (World.cell?_of_block (a := ⟨b, off + k * 2, none⟩) (Below.heap_setCell _ _ _ _ (fun e : b = X0 => by have := HL.out.lx; omega))).trans j3
      have hlx := HL.out.lx
      clear h7 hx7 t2 htag2 HQ7 HL7 HT1 H5 HU nv nvo j0 j1 jf jl j2 jl2 j3 HL x0 x1 xl k0 k1 k2
      generalize w7.setCell ⟨X0, 1, none⟩ (.slice (some ⟨g', 0, none⟩) (k + 1) cap') = W8 at *
      have y0 : W8.cell? ⟨X0, 0, none⟩ = some (.slice (some ⟨G, 0, none⟩) (cs.length + 8) (cs.length + 8)) := H8.out.2.1.cell 0
      have y2 : W8.cell? ⟨w.heap.size, 0, none⟩ = some (.slice (some ⟨b, off, none⟩) cs.length cap) := H8.out.2.2.1.cell 0
      obtain ⟨u1, hu1⟩ := H8.out.1.row.there (k * 2) (by omega)
      obtain ⟨u2, hu2⟩ := H8.out.1.row.there (k * 2 + 1) (by omega)
      have gf := H8.out.1.row.free
      have gl := H8.out.1.row.lt
      have yl1 := H8.out.2.1.lt
      have yl2 := H8.out.2.2.1.lt
      have hkI : (k : Int) < (cs.length : Int) + 8 := by omega
      have hkI2 : (k : Int) < (cs.length : Int) := by omega
      go_wp2_with fail
      have ne1 : ∀ n, tag2 n = 0 → n ≠ G := fun n h e => by rw [e, H8.out.1.tG] at h; cases h
      have HN : Hid (Lg w cs (.slice (some ⟨b, off, none⟩) cs.length cap) rom G X0 (k + 1) ((W8.setCell ⟨G, k * 2, none⟩ (.int .i64 A)).setCell ⟨G, k * 2 + 1, none⟩ (.slice uq l.length uc)).drew (vs ++ [.slice uq l.length uc]) (.slice (some ⟨g', 0, none⟩) (k + 1) cap') tag2) := by
        have hv : (vs ++ [.slice uq l.length uc])[k]? = some (.slice uq l.length uc) := by
          have e := H8.out.1.len
          rw [List.getElem?_append_right (by simp at e; omega)]
          have e2 : k - vs.length = 0 := by simp at e; omega
          rw [e2]; rfl
        have hlay := H8.out.1.lay hlt hv
        rw [HR.out.1] at hlay
        exact ⟨hlay.below (Below.refl _ _).drew, ((H8.out.2.1.set hXG).set hXG).drew, ((H8.out.2.2.1.set (ne1 _ HT2.out.2.1)).set (ne1 _ HT2.out.2.1)).drew, ((H8.out.2.2.2.1.set (ne1 _ HT2.out.2.2.1)).set (ne1 _ HT2.out.2.2.1)).drew, ((H8.out.2.2.2.2.1.set (ne1 _ HT2.out.2.2.2)).set (ne1 _ HT2.out.2.2.2)).drew, ((H8.out.2.2.2.2.2.setCell H8.out.1.loG _).setCell H8.out.1.loG _).drew, hlx, hxw, HT2.out.1, HT2.out.2.1, HT2.out.2.2.1, HT2.out.2.2.2, HTL2.out⟩
      go_region
      all_goals
        clear H8 HT2 HR HX ne1
        go_wp2
        go_roundw
        case rel => exact ⟨k + 1, _, _, _, by omega, by go_num, HN.out⟩
        case measure => simp [intOf]; omega
    · obtain rfl : k = cs.length := by omega
      clear hL hlt
      go_wp2_with fail
      go_loopw [7] (fun i wq => ∃ j : Nat, j ≤ 8 ∧ i = .int .i64 ((cs.length : Int) + (j : Int)) ∧ Lg w cs (.slice p cs.length cap) rom G X0 cs.length wq vs V tag ∧ ∀ m, m < j → wq.cell? ⟨G, (cs.length + m) * 2, none⟩ = some (.int .i64 (-77)) ∧ wq.cell? ⟨G, (cs.length + m) * 2 + 1, none⟩ = some (.slice none 0 0)) (fun i _ => cs.length + 8 - (intOf i).toNat)
      case atStart => exact ⟨0, by omega, by go_num, HL.out, fun m hm => absurd hm (by omega)⟩
      case round =>
        clear HL e0 lc
        obtain ⟨j, hj, rfl, hL, hsp⟩ := hrel
        have HL : Hid (Lg w cs (.slice p cs.length cap) rom G X0 cs.length wr vs V tag ∧ ∀ m, m < j → wr.cell? ⟨G, (cs.length + m) * 2, none⟩ = some (.int .i64 (-77)) ∧ wr.cell? ⟨G, (cs.length + m) * 2 + 1, none⟩ = some (.slice none 0 0)) := ⟨hL, hsp⟩
        have y0 : wr.cell? ⟨X0, 0, none⟩ = some (.slice (some ⟨G, 0, none⟩) (cs.length + 8) (cs.length + 8)) := hL.x.cell 0
        have yl1 := hL.x.lt
        have gf := hL.l.row.free
        have gl := hL.l.row.lt
        by_cases h8 : j < 8
        · obtain ⟨u1, hu1⟩ := hL.l.row.there ((cs.length + j) * 2) (by omega)
          obtain ⟨u2, hu2⟩ := hL.l.row.there ((cs.length + j) * 2 + 1) (by omega)
          have ne1 : ∀ n, tag n = 0 → n ≠ G := fun n h e => by rw [e, hL.l.tG] at h; cases h
          have HN : Hid (Lg w cs (.slice p cs.length cap) rom G X0 cs.length ((wr.setCell ⟨G, (cs.length + j) * 2, none⟩ (.int .i64 (-77))).setCell ⟨G, (cs.length + j) * 2 + 1, none⟩ (.slice none 0 0)) vs V tag ∧ ∀ m, m < j + 1 → ((wr.setCell ⟨G, (cs.length + j) * 2, none⟩ (.int .i64 (-77))).setCell ⟨G, (cs.length + j) * 2 + 1, none⟩ (.slice none 0 0)).cell? ⟨G, (cs.length + m) * 2, none⟩ = some (.int .i64 (-77)) ∧ ((wr.setCell ⟨G, (cs.length + j) * 2, none⟩ (.int .i64 (-77))).setCell ⟨G, (cs.length + j) * 2 + 1, none⟩ (.slice none 0 0)).cell? ⟨G, (cs.length + m) * 2 + 1, none⟩ = some (.slice none 0 0)) := by
            refine ⟨⟨(hL.l.beyond (by omega)).beyond (by omega), (hL.x.set (ne1 _ hL.tx)).set (ne1 _ hL.tx), (hL.c.set (ne1 _ hL.tc)).set (ne1 _ hL.tc), (hL.r1.set (ne1 _ hL.t1)).set (ne1 _ hL.t1), (hL.r2.set (ne1 _ hL.t2)).set (ne1 _ hL.t2), (hL.b.setCell hL.l.loG _).setCell hL.l.loG _, hL.lx, hL.nx, hL.tx, hL.tc, hL.t1, hL.t2, hL.tl⟩, fun m hm => ?_⟩
            obtain ⟨v2, hv2⟩ := (hL.l.row.setCell G ((cs.length + j) * 2) (.int .i64 (-77))).there ((cs.length + j) * 2 + 1) (by omega)
            by_cases e : m = j
            · subst e
              exact ⟨by rw [World.cell?_setCell_other _ _ _ _ (addr_ne _ _ _ (by omega)), World.cell?_setCell_same _ _ _ hu1], World.cell?_setCell_same _ _ _ hv2⟩
            · obtain ⟨z1, z2⟩ := hsp m (by omega)
              exact ⟨by rw [World.cell?_setCell_other _ _ _ _ (addr_ne _ _ _ (by omega)), World.cell?_setCell_other _ _ _ _ (addr_ne _ _ _ (by omega))]; exact z1, by rw [World.cell?_setCell_other _ _ _ _ (addr_ne _ _ _ (by omega)), World.cell?_setCell_other _ _ _ _ (addr_ne _ _ _ (by omega))]; exact z2⟩
          clear hL hsp HL ne1
          have hkI : (cs.length : Int) + (j : Int) < (cs.length : Int) + 8 := by omega
          go_wp2
          go_roundw
          case rel => exact ⟨j + 1, by omega, by go_num, HN.out⟩
          case measure => simp [intOf]; omega
        · obtain rfl : j = 8 := by omega
          have y1 : wr.cell? ⟨X0, 1, none⟩ = some V := hL.x.cell 1
          have z0 : wr.cell? ⟨w.heap.size, 0, none⟩ = some (.slice p cs.length cap) := hL.c.cell 0
          have z1 : wr.cell? ⟨w.heap.size, 1, none⟩ = some (.int .i64 rom) := hL.c.cell 1
          have zl := hL.c.lt
          have a0 : wr.cell? ⟨w.heap.size + 1, 0, none⟩ = some (.slice none 0 0) := hL.r1.cell 0
          have a1 : wr.cell? ⟨w.heap.size + 1, 1, none⟩ = some (.int .i64 0) := hL.r1.cell 1
          have af := hL.r1.free
          have al := hL.r1.lt
          have b0 : wr.cell? ⟨w.heap.size + 1 + 1, 0, none⟩ = some (.slice none 0 0) := hL.r2.cell 0
          have b1 : wr.cell? ⟨w.heap.size + 1 + 1, 1, none⟩ = some (.slice none 0 0) := hL.r2.cell 1
          have bf := hL.r2.free
          have bl := hL.r2.lt
          obtain ⟨aV, cV, rfl⟩ := own_slice hL.l.own
          obtain ⟨n0, n1, n2⟩ := hL.nx
          have n3 := n0.symm
          have n4 := n1.symm
          have n5 := n2.symm
          clear hL hsp
          go_wp2_with fail
          go_region
          all_goals
            iterate 3 go_step
            try simp only [Exit.then]
            show bodyPost _ _ _ _ _ _
            have m1 : w.heap.size + 1 ≠ w.heap.size + 1 + 1 := by omega
            have hr1 : Blk ((((wr.setCell ⟨w.heap.size + 1, 0, none⟩ (.slice (some ⟨G, 0, none⟩) cs.length (cs.length + 8))).setCell ⟨w.heap.size + 1, 1, none⟩ (.int .i64 rom)).setCell ⟨w.heap.size + 1 + 1, 0, none⟩ (.slice (some ⟨G, 0, none⟩) (cs.length + 8) (cs.length + 8))).setCell ⟨w.heap.size + 1 + 1, 1, none⟩ (.slice aV cs.length cV)).drew (w.heap.size + 1) #[(.slice (some ⟨G, 0, none⟩) cs.length (cs.length + 8)), .int .i64 rom] 26 := ((((HL.out.1.r1.put 0 (.slice (some ⟨G, 0, none⟩) cs.length (cs.length + 8))).put 1 (.int .i64 rom)).set m1).set m1).drew
            have hr2 : Blk ((((wr.setCell ⟨w.heap.size + 1, 0, none⟩ (.slice (some ⟨G, 0, none⟩) cs.length (cs.length + 8))).setCell ⟨w.heap.size + 1, 1, none⟩ (.int .i64 rom)).setCell ⟨w.heap.size + 1 + 1, 0, none⟩ (.slice (some ⟨G, 0, none⟩) (cs.length + 8) (cs.length + 8))).setCell ⟨w.heap.size + 1 + 1, 1, none⟩ (.slice aV cs.length cV)).drew (w.heap.size + 1 + 1) #[(.slice (some ⟨G, 0, none⟩) (cs.length + 8) (cs.length + 8)), .slice aV cs.length cV] 156 := ((((HL.out.1.r2.set m1.symm).set m1.symm).put 0 (.slice (some ⟨G, 0, none⟩) (cs.length + 8) (cs.length + 8))).put 1 (.slice aV cs.length cV)).drew
            have q0 := hr1.cell 0
            have q1 := hr1.cell 1
            have p0 := hr2.cell 0
            have p1 := hr2.cell 1
            have ne1 : ∀ n, tag n = 0 → n ≠ G := fun n h e => by rw [e, HL.out.1.l.tG] at h; cases h
            have hk : ∀ g, tag g ≠ 0 → ((((wr.setCell ⟨w.heap.size + 1, 0, none⟩ (.slice (some ⟨G, 0, none⟩) cs.length (cs.length + 8))).setCell ⟨w.heap.size + 1, 1, none⟩ (.int .i64 rom)).setCell ⟨w.heap.size + 1 + 1, 0, none⟩ (.slice (some ⟨G, 0, none⟩) (cs.length + 8) (cs.length + 8))).setCell ⟨w.heap.size + 1 + 1, 1, none⟩ (.slice aV cs.length cV)).drew.heap[g]? = wr.heap[g]? := fun g ht => by
              have z1 : g ≠ w.heap.size + 1 := fun e => ht (by rw [e]; exact HL.out.1.t1)
              have z2 : g ≠ w.heap.size + 1 + 1 := fun e => ht (by rw [e]; exact HL.out.1.t2)
              exact (Below.heap_setCell _ _ _ _ z2).trans ((Below.heap_setCell _ _ _ _ z2).trans ((Below.heap_setCell _ _ _ _ z1).trans (Below.heap_setCell _ _ _ _ z1)))
            refine bodyPost_ret (v := .tuple #[.agg #[(.slice (some ⟨G, 0, none⟩) cs.length (cs.length + 8)), .int .i64 rom], .agg #[(.slice (some ⟨G, 0, none⟩) (cs.length + 8) (cs.length + 8)), .slice aV cs.length cV]]) ?_ ?_ ?_
            · simp [results, Tryz.results59, go_sem, q0, q1, p0, p1]
            · rfl
            refine ⟨G, .slice aV cs.length cV, vs, tag, rfl, HL.out.1.l.kept (fun g _ ht => hk g ht) (fun _ _ => rfl), fun m hm => ?_, ?_⟩
            · have hG := hk G (by rw [HL.out.1.l.tG]; decide)
              exact ⟨(World.cell?_of_block (a := ⟨G, (cs.length + m) * 2, none⟩) hG).trans (HL.out.2 m hm).1, (World.cell?_of_block (a := ⟨G, (cs.length + m) * 2 + 1, none⟩) hG).trans (HL.out.2 m hm).2⟩
            · exact ⟨((((HL.out.1.b.setCell (by simp) _).setCell (by simp) _).setCell (by simp; omega) _).setCell (by simp; omega) _).drew, HL.out.1.tl⟩
end

/-
  What is made of a configuration that was lent, and of one that is none.
-/
section
set_option maxRecDepth 100000
set_option maxHeartbeats 2000000

def lentCs : List Chn → List Value → List Chn
  | c :: cs, v :: vs => ⟨c.at_, v, c.bs⟩ :: lentCs cs vs
  | _, _ => []

theorem lentCs_len : ∀ (cs : List Chn) (vs : List Value), vs.length = cs.length → (lentCs cs vs).length = cs.length
  | [], [], _ => rfl
  | c :: cs, v :: vs, h => by simp [lentCs, lentCs_len cs vs (by simpa using h)]
theorem lentCs_get : ∀ (cs : List Chn) (vs : List Value) (_ : vs.length = cs.length) (i : Nat) (h : i < (lentCs cs vs).length) (h2 : i < cs.length), (lentCs cs vs)[i].at_ = cs[i].at_ ∧ (lentCs cs vs)[i].bs = cs[i].bs ∧ vs[i]? = some (lentCs cs vs)[i].v
  | [], [], _, i, _, h2 => by simp at h2
  | c :: cs, v :: vs, e, 0, _, _ => ⟨rfl, rfl, rfl⟩
  | c :: cs, v :: vs, e, i + 1, h, h2 => by
    have := lentCs_get cs vs (by simpa using e) i (by simpa [lentCs] using h) (by simpa using h2)
    simpa [lentCs] using this
theorem lentCs_total : ∀ (cs : List Chn) (vs : List Value), vs.length = cs.length → total (lentCs cs vs) = total cs
  | [], [], _ => rfl
  | c :: cs, v :: vs, h => by
    have := lentCs_total cs vs (by simpa using h)
    unfold total at this ⊢
    simp [lentCs, this]
theorem lentCs_all : ∀ (cs : List Chn) (vs : List Value), vs.length = cs.length → (lentCs cs vs).all okChn = cs.all okChn
  | [], [], _ => rfl
  | c :: cs, v :: vs, h => by
    have := lentCs_all cs vs (by simpa using h)
    simp only [lentCs, List.all_cons, this]
    rfl
theorem lentCs_fill : ∀ (cs : List Chn) (vs : List Value) (m : Nat → Int), vs.length = cs.length → fillI m (lentCs cs vs) = fillI m cs
  | [], [], _, _ => rfl
  | c :: cs, v :: vs, m, h => by
    have := lentCs_fill cs vs (fillB m c.at_ c.bs) (by simpa using h)
    unfold fillI at this ⊢
    simp only [lentCs, List.foldl_cons]
    exact this
theorem lentCs_valid {rom : Int} {cs : List Chn} {vs : List Value} (h : vs.length = cs.length) : validI rom (lentCs cs vs) = validI rom cs := by
  unfold validI
  rw [lentCs_len cs vs h, lentCs_all cs vs h, lentCs_total cs vs h]
theorem lentCs_fresh {rom : Int} {cs : List Chn} {vs : List Value} {R : Nat → Option Value} (h : vs.length = cs.length) : PC.fresh rom (lentCs cs vs) R = PC.fresh rom cs R := by
  unfold PC.fresh PC.start
  rw [lentCs_fill cs vs _ h]

theorem lnt_cf {w : World} {lo : Nat} {tag : Nat → Nat} {cs : List Chn} {vs : List Value} {G : Nat} {V : Value} (h : Lnt w lo tag cs cs.length cs.length vs G V) : CfAt w.heap.size w (.slice (some ⟨G, 0, none⟩) cs.length (cs.length + 8)) (lentCs cs vs) := by
  have hl := lentCs_len cs vs h.len
  refine ⟨_, _, by rw [hl], fun _ => ⟨G, 0, rfl, h.row.lt, fun i hi => ?_⟩⟩
  have hi2 : i < cs.length := by omega
  obtain ⟨e1, e2, e3⟩ := lentCs_get cs vs h.len i hi hi2
  obtain ⟨c1, c2⟩ := h.c i hi2 hi2
  obtain ⟨v, q1, q2⟩ := h.lv i hi2 hi2
  rw [e3] at q1
  injection q1 with q1
  rw [Nat.zero_add, e1, e2, q1]
  exact ⟨c1, by rw [c2, e3, q1], q2.chv⟩

theorem new_no (N : Nat) (v : Value) (cs : List Chn) (rom : Int) (w : World) (hc : CfAt N w v cs) (hv : validI rom cs = false) (hl : cs.length ≤ 140737488355328) (hb : ∀ c ∈ cs, c.bs.length ≤ 140737488355328) :
    Calls Tryz.prog 22 #[.agg #[v, .int .i64 rom]] w fun e w' => e = .returned (.tuple #[.pointer none, .int .i64 1]) ∧ Below w.heap.size w w' := by
  obtain ⟨R, zz, hz, hzs, HZ⟩ := zero_mach
  have hne : zz ≠ #[] := by intro e; rw [e] at hzs; cases hzs
  have S : ∀ (o : Obj) (t : TypeId), Calls Tryz.prog 34 #[.pointer (some ⟨w.heap.size + 1, 0, none⟩), .agg #[v, .int .i64 rom]] ((w.alloc o).alloc (.cells zz t)).drew fun e w' => e = .returned (.int .i64 1) ∧ Below ((w.alloc o).alloc (.cells zz t)).drew.heap.size ((w.alloc o).alloc (.cells zz t)).drew w' := by
    intro o t
    exact start_no N v cs rom ((hc.below (((Below.refl _ _).alloc (Nat.le_refl _) o).alloc (by simp) _)).below (bl_drew (Below.refl _ _))) hv hl hb
  clear HZ
  obtain ⟨p, cap, rfl, -⟩ := hc
  go_enter Tryz.func22, Tryz.ntmps22
  go_wp2_with fail
  go_region_with (first | (go_at_call 34; refine (S _ _).mono ?_; rintro e w2 ⟨rfl, T2⟩; have HT : Hid (Below w.heap.size w w2) := (((Below.refl _ _).alloc (Nat.le_refl _) _).alloc (by simp) _).drew.trans (T2.mono (by simp; omega)); clear T2 S))
  all_goals go_wp2
  all_goals go_ret2
  all_goals exact ⟨rfl, HT.out⟩
end

end Go.Proofs.YtcgjliflnnklnaaGreat
