/-
  Joined texts.
-/
import Derived.Deep.QuietTactic
import Derived.BigQuiet
import Derived.Test.YtcgjliflnnklnaaGreatJ21
import Derived.Test.YtcgjliflnnklnaaGreatJ16
namespace Go.Proofs.YtcgjliflnnklnaaGreat
open Go.RowKit

/-
  A configuration is given back: backConfig.
-/
section
set_option maxRecDepth 100000
set_option maxHeartbeats 8000000

/-- back, whatever the bytes are. -/
theorem back_ch {w : World} {lo : Nat} {l : List UInt8} {u : Value} (h : LV w lo l u) (hl : l.length ≤ 2000000) :
    Calls Tryz.prog 72 #[u, .string ⟨l.toArray⟩] w fun e w' => e = .returned (.bool true) ∧ w.grownBy w' u.ownBlock ∧ w'.heap.size = w.heap.size := by
  have hs : (⟨l.toArray⟩ : ByteArray).size = l.length := by simp [ByteArray.size]
  rcases h with ⟨rfl, rfl⟩ | ⟨g, h1, rfl, h2⟩
  · refine (back_nil w).mono ?_
    rintro e w' ⟨rfl, rfl⟩
    exact ⟨rfl, World.grownBy.refl _ _, rfl⟩
  · have := back_any ⟨l.toArray⟩ g w (by rw [hs]; omega) (by simpa using h2)
    rw [hs] at this
    exact this

/-- While chunks are given back: those from i on lie as they were lent. -/
structure Bkt (w : World) (lo : Nat) (tag : Nat → Nat) (cs : List Chn) (vs : List Value) (G : Nat) (V : Value) (i : Nat) (wr : World) : Prop where
  row : RowAt wr G 51 2 (cs.length + 8)
  c : ∀ j, (h : j < cs.length) → i ≤ j → wr.cell? ⟨G, j * 2, none⟩ = some (.int .i64 cs[j].at_) ∧ wr.cell? ⟨G, j * 2 + 1, none⟩ = vs[j]?
  sp : ∀ m, m < 8 → i ≤ cs.length + m → wr.cell? ⟨G, (cs.length + m) * 2, none⟩ = some (.int .i64 (-77)) ∧ wr.cell? ⟨G, (cs.length + m) * 2 + 1, none⟩ = some (.slice none 0 0)
  own : wr.ownsRow lo 35 1 V cs.length vs
  lv : ∀ j, (h : j < cs.length) → i ≤ j → ∃ v, vs[j]? = some v ∧ LV wr lo cs[j].bs v
  os : wr.os = w.os
  tape : wr.tape = w.tape
  output : wr.output = w.output
  size : w.heap.size ≤ wr.heap.size
  keep : ∀ g, g < w.heap.size → tag g = 0 → wr.heap[g]? = w.heap[g]?
  tG : tag G = 1
  tV : ∀ g, V.ownBlock = some g → tag g = 2
  tv : ∀ (j : Nat) v g, vs[j]? = some v → v.ownBlock = some g → tag g = 3 + j

section
variable {w wr w' : World} {lo : Nat} {tag : Nat → Nat} {cs : List Chn} {vs : List Value} {G : Nat} {V : Value} {i : Nat}

theorem Bkt.start (h : Lnt w lo tag cs cs.length cs.length vs G V) (hs : ∀ j, j < 8 → w.cell? ⟨G, (cs.length + j) * 2, none⟩ = some (.int .i64 (-77)) ∧ w.cell? ⟨G, (cs.length + j) * 2 + 1, none⟩ = some (.slice none 0 0)) : Bkt w lo tag cs vs G V 0 w :=
  ⟨h.row, fun j q _ => h.c j q q, fun m hm _ => hs m hm, h.own, fun j q _ => h.lv j q q, rfl, rfl, rfl, Nat.le_refl _, fun _ _ _ => rfl, h.tG, h.tV, h.tv⟩
theorem Bkt.below (h : Bkt w lo tag cs vs G V i wr) (hb : Below wr.heap.size wr w') : Bkt w lo tag cs vs G V i w' := by
  have hG := hb.block G h.row.lt
  refine ⟨h.row.same hG, fun j q r => ?_, fun m q r => ?_, row_same h.own (fun g hg => hb.block g (h.own.lt g hg).2), fun j q r => ?_, hb.os.trans h.os, hb.tape.trans h.tape, hb.output.trans h.output, Nat.le_trans h.size hb.size, fun g q r => (hb.block g (Nat.lt_of_lt_of_le q h.size)).trans (h.keep g q r), h.tG, h.tV, h.tv⟩
  · rw [World.cell?_of_block (a := ⟨G, j * 2, none⟩) hG, World.cell?_of_block (a := ⟨G, j * 2 + 1, none⟩) hG]; exact h.c j q r
  · rw [World.cell?_of_block (a := ⟨G, (cs.length + m) * 2, none⟩) hG, World.cell?_of_block (a := ⟨G, (cs.length + m) * 2 + 1, none⟩) hG]; exact h.sp m q r
  · obtain ⟨v, e, z⟩ := h.lv j q r
    exact ⟨v, e, z.same (fun g hg => hb.block g (z.blk hg).2)⟩
/-- A chunk's bytes are given back, and it is written over. -/
theorem Bkt.step {w2 : World} {a b : Value} (h : Bkt w lo tag cs vs G V i wr) (hos : w2.os = wr.os) (hta : w2.tape = wr.tape) (hou : w2.output = wr.output) (hsz : wr.heap.size ≤ w2.heap.size)
    (hk : ∀ n, n < wr.heap.size → tag n ≠ 3 + i → w2.heap[n]? = wr.heap[n]?) : Bkt w lo tag cs vs G V (i + 1) ((w2.setCell ⟨G, i * 2, none⟩ a).setCell ⟨G, i * 2 + 1, none⟩ b) := by
  have hG : w2.heap[G]? = wr.heap[G]? := hk G h.row.lt (by rw [h.tG]; omega)
  have hk2 : ∀ n, n < wr.heap.size → tag n ≠ 3 + i → tag n ≠ 1 → ((w2.setCell ⟨G, i * 2, none⟩ a).setCell ⟨G, i * 2 + 1, none⟩ b).heap[n]? = wr.heap[n]? := fun n h1 h2 h3 => by
    have z : n ≠ G := fun e => h3 (by rw [e]; exact h.tG)
    exact (Below.heap_setCell _ _ _ _ z).trans ((Below.heap_setCell _ _ _ _ z).trans (hk n h1 h2))
  have hc : ∀ o, o < i * 2 ∨ i * 2 + 1 < o → ((w2.setCell ⟨G, i * 2, none⟩ a).setCell ⟨G, i * 2 + 1, none⟩ b).cell? ⟨G, o, none⟩ = wr.cell? ⟨G, o, none⟩ := fun o ho => by
    rw [World.cell?_setCell_other _ _ _ _ (addr_ne _ _ _ (by omega)), World.cell?_setCell_other _ _ _ _ (addr_ne _ _ _ (by omega))]
    exact World.cell?_of_block (a := ⟨G, o, none⟩) hG
  refine ⟨((h.row.same hG).setCell _ _ _).setCell _ _ _, fun j q r => ?_, fun m q r => ?_, row_same h.own (fun g hg => hk2 g (h.own.lt g hg).2 (by rw [h.tV g hg]; omega) (by rw [h.tV g hg]; decide)), fun j q r => ?_, hos.trans h.os, hta.trans h.tape, hou.trans h.output, ?_, fun g q r => (hk2 g (Nat.lt_of_lt_of_le q h.size) (by rw [r]; omega) (by rw [r]; decide)).trans (h.keep g q r), h.tG, h.tV, h.tv⟩
  · rw [hc _ (by omega), hc _ (by omega)]; exact h.c j q (by omega)
  · rw [hc _ (by omega), hc _ (by omega)]; exact h.sp m q (by omega)
  · obtain ⟨v, e, z⟩ := h.lv j q (by omega)
    exact ⟨v, e, z.same (fun g hg => hk2 g (z.blk hg).2 (by rw [h.tv j v g e hg]; omega) (by rw [h.tv j v g e hg]; omega))⟩
  · have := h.size
    simp
    omega
end

theorem backC (w : World) (N lo : Nat) (v : Value) (cs : List Chn) (rom : Int) (tag : Nat → Nat) (vs : List Value) (G : Nat) (V : Value) (hL : Lnt w lo tag cs cs.length cs.length vs G V)
    (hs : ∀ j, j < 8 → w.cell? ⟨G, (cs.length + j) * 2, none⟩ = some (.int .i64 (-77)) ∧ w.cell? ⟨G, (cs.length + j) * 2 + 1, none⟩ = some (.slice none 0 0)) (ht0 : ∀ g, g < lo → tag g = 0) (htn : ∀ g, w.heap.size ≤ g → tag g = 0)
    (hc : CfAt N w v cs) (hN : N ≤ lo) (hl : cs.length ≤ 2000000) (hb : ∀ c ∈ cs, c.bs.length ≤ 2000000) :
    Calls Tryz.prog 60 #[.agg #[(.slice (some ⟨G, 0, none⟩) (cs.length + 8) (cs.length + 8)), V], .agg #[v, .int .i64 rom]] w fun e w' => e = .returned (.bool true) ∧ w'.os = w.os ∧ w'.tape = w.tape ∧ w'.output = w.output ∧ w.heap.size ≤ w'.heap.size ∧ ∀ g, g < w.heap.size → tag g = 0 → w'.heap[g]? = w.heap[g]? := by
  have HC : Hid (N ≤ lo ∧ CfAt N w v cs ∧ (∀ c ∈ cs, c.bs.length ≤ 2000000) ∧ (∀ g, g < lo → tag g = 0) ∧ ∀ g, w.heap.size ≤ g → tag g = 0) := ⟨hN, hc, hb, ht0, htn⟩
  obtain ⟨p, cap, rfl, -⟩ := hc
  obtain ⟨aV, cV, rfl⟩ := own_slice hL.own
  have loG := hL.row.lt
  have hLo : lo ≤ w.heap.size := Nat.le_of_lt (Nat.lt_of_le_of_lt hL.loG loG)
  have hb2 : Below w.heap.size w ((w.alloc (.cells #[(.slice (some ⟨G, 0, none⟩) (cs.length + 8) (cs.length + 8)), .slice aV cs.length cV] 156)).alloc (.cells #[.slice p cs.length cap, .int .i64 rom] 26)) := ((Below.refl _ _).alloc (Nat.le_refl _) _).alloc (by simp) _
  have HB : Hid (Bkt w lo tag cs vs G (.slice aV cs.length cV) 0 ((w.alloc (.cells #[(.slice (some ⟨G, 0, none⟩) (cs.length + 8) (cs.length + 8)), .slice aV cs.length cV] 156)).alloc (.cells #[.slice p cs.length cap, .int .i64 rom] 26)) ∧ Blk ((w.alloc (.cells #[(.slice (some ⟨G, 0, none⟩) (cs.length + 8) (cs.length + 8)), .slice aV cs.length cV] 156)).alloc (.cells #[.slice p cs.length cap, .int .i64 rom] 26)) w.heap.size #[(.slice (some ⟨G, 0, none⟩) (cs.length + 8) (cs.length + 8)), .slice aV cs.length cV] 156 ∧ Blk ((w.alloc (.cells #[(.slice (some ⟨G, 0, none⟩) (cs.length + 8) (cs.length + 8)), .slice aV cs.length cV] 156)).alloc (.cells #[.slice p cs.length cap, .int .i64 rom] 26)) (w.heap.size + 1) #[.slice p cs.length cap, .int .i64 rom] 26) := ⟨(Bkt.start hL hs).below hb2, (Blk.new w _ _).alloc _, blk_new' _ _ _ _ (by simp)⟩
  have hnil := fun (w : World) (a : Option Addr) (n c : Nat) => Lib.run_eql_slice_nil (P := Tryz.prog) w 35 5 a n c 0 0 und_bytes
  clear hN hb hL hs hb2 ht0 htn
  go_enter Tryz.func60, Tryz.ntmps60
  go_wp2_with fail
  generalize ((w.alloc (.cells #[(.slice (some ⟨G, 0, none⟩) (cs.length + 8) (cs.length + 8)), .slice aV cs.length cV] 156)).alloc (.cells #[.slice p cs.length cap, .int .i64 rom] 26)) = W at *
  go_loopw [5, 6] (fun ok i wr => ∃ k : Nat, k ≤ cs.length + 8 ∧ ok = .bool true ∧ i = .int .i64 k ∧ Bkt w lo tag cs vs G (.slice aV cs.length cV) k wr ∧ Blk wr w.heap.size #[(.slice (some ⟨G, 0, none⟩) (cs.length + 8) (cs.length + 8)), .slice aV cs.length cV] 156 ∧ Blk wr (w.heap.size + 1) #[.slice p cs.length cap, .int .i64 rom] 26) (fun _ i _ => cs.length + 8 - (intOf i).toNat)
  case atStart => exact ⟨0, by omega, rfl, rfl, HB.out⟩
  case round =>
    clear HB
    obtain ⟨k, hk, rfl, rfl, hB, hX, hK⟩ := hrel
    have HB : Hid (Bkt w lo tag cs vs G (.slice aV cs.length cV) k wr ∧ Blk wr w.heap.size #[(.slice (some ⟨G, 0, none⟩) (cs.length + 8) (cs.length + 8)), .slice aV cs.length cV] 156 ∧ Blk wr (w.heap.size + 1) #[.slice p cs.length cap, .int .i64 rom] 26) := ⟨hB, hX, hK⟩
    have x0 : wr.cell? ⟨w.heap.size, 0, none⟩ = some (.slice (some ⟨G, 0, none⟩) (cs.length + 8) (cs.length + 8)) := hX.cell 0
    have x1 : wr.cell? ⟨w.heap.size, 1, none⟩ = some (.slice aV cs.length cV) := hX.cell 1
    have k0 : wr.cell? ⟨w.heap.size + 1, 0, none⟩ = some (.slice p cs.length cap) := hK.cell 0
    have xl := hX.lt
    have kl := hK.lt
    have gf := hB.row.free
    have gl := hB.row.lt
    by_cases h8 : k < cs.length + 8
    · obtain ⟨u1, hu1⟩ := hB.row.there (k * 2) (by omega)
      obtain ⟨u2, hu2⟩ := hB.row.there (k * 2 + 1) (by omega)
      have n1 : G ≠ w.heap.size := by omega
      have n2 : G ≠ w.heap.size + 1 := by omega
      have n3 : w.heap.size ≠ G := by omega
      have n4 : w.heap.size + 1 ≠ G := by omega
      have hkI : (k : Int) < (cs.length : Int) + 8 := by omega
      by_cases hlt : k < cs.length
      · obtain ⟨p', cap', ev, H⟩ := HC.out.2.1
        injection ev with ev1 ev2 ev3
        subst ev1
        subst ev3
        obtain ⟨b, off, rfl, hbN, HQ⟩ := H (by intro e; rw [e] at hlt; simp at hlt)
        obtain ⟨c1, c2, hcv⟩ := HQ k hlt
        have hlen := HC.out.2.2.1 _ (List.getElem_mem hlt)
        have hN := HC.out.1
        have tb0 : ∀ g, g < N → tag g = 0 := fun g hg => HC.out.2.2.2.1 g (by omega)
        have hold : ∀ g o, g < N → w.cell? ⟨g, o, none⟩ ≠ none → wr.cell? ⟨g, o, none⟩ = w.cell? ⟨g, o, none⟩ := fun g o hg hne => World.cell?_of_block (a := ⟨g, o, none⟩) (hB.keep g (lt_of_cell hne) (tb0 g hg))
        have d1 := (hold b (off + k * 2) hbN (by rw [c1]; simp)).trans c1
        have d2 := (hold b (off + k * 2 + 1) hbN (by rw [c2]; simp)).trans c2
        obtain ⟨p2, cap2, hv2, hB2⟩ := hcv
        rw [hv2] at d2
        obtain ⟨u, hu, hLV⟩ := hB.lv k hlt (Nat.le_refl _)
        obtain ⟨g1, g2⟩ := hB.c k hlt (Nat.le_refl _)
        rw [hu] at g2
        obtain ⟨gV, rfl⟩ : ∃ gV, aV = some ⟨gV, 0, none⟩ := by
          rcases hB.own.2 with ⟨_, e2⟩ | ⟨g, cap, _, e, _⟩
          · omega
          · injection e with e; exact ⟨g, e⟩
        have v1 : wr.cell? ⟨gV, k, none⟩ = some u := (hB.own.cellAt k (by omega)).trans hu
        have vl := (hB.own.lt gV rfl).2
        obtain ⟨uq, uc, rfl⟩ : ∃ uq uc, u = .slice uq cs[k].bs.length uc := by
          rcases hLV with ⟨e1, e2⟩ | ⟨g, _, e2, _⟩
          · exact ⟨none, 0, by rw [e2, e1]; rfl⟩
          · exact ⟨_, _, e2⟩
        have hbr : b < wr.heap.size := by have := hB.size; omega
        have HT : Hid (tag w.heap.size = 0 ∧ tag (w.heap.size + 1) = 0 ∧ tag gV = 2 ∧ tag G = 1 ∧ ∀ g, g < N → tag g = 0) := ⟨HC.out.2.2.2.2 _ (Nat.le_refl _), HC.out.2.2.2.2 _ (by omega), hB.tV gV rfl, hB.tG, tb0⟩
        have BC := back_ch (w := wr.drew) (hLV.same (fun _ _ => rfl)) hlen
        have HV : Hid (vs[k]? = some (.slice uq cs[k].bs.length uc)) := hu
        have HCV : Hid (∀ w', (∀ g, g < wr.heap.size → tag g ≠ 3 + k → w'.heap[g]? = wr.heap[g]?) → (convert 35 9 (.slice p2 cs[k].bs.length cap2)).run Tryz.prog w' = .ok (.string ⟨cs[k].bs.toArray⟩) w') := fun w' hw => conv_ch (fun z => by
          obtain ⟨b', off', z1, z2, z3⟩ := hB2 z
          refine ⟨b', off', z1, fun i hi => ?_⟩
          have e1 := z3 i hi
          have e2 := hold b' (off' + i) z2 (by rw [e1]; simp)
          rw [World.cell?_of_block (a := ⟨b', off' + i, none⟩) (hw b' (lt_of_cell (o := off' + i) (by rw [e2, e1]; simp)) (by rw [tb0 b' z2]; omega)), e2]
          exact e1)
        have hcw := HCV.out wr.drew (fun _ _ _ => rfl)
        have hltI : (k : Int) < (cs.length : Int) := by omega
        have hngI : ¬ (cs.length : Int) ≤ (k : Int) := by omega
        clear HQ H c1 c2 hold tb0 hB2 hv2 hu hLV hB hX hK hu1 hu2
        generalize cs[k].at_ = A at *
        generalize cs[k].bs = l at *
        go_wp2_with fail
        go_region_held3 (fun w' => w'.cell? ⟨w.heap.size, 1, none⟩ = some (.slice (some ⟨gV, 0, none⟩) cs.length cV) ∧ w'.cell? ⟨gV, k, none⟩ = some (.slice uq l.length uc) ∧ w'.cell? ⟨w.heap.size + 1, 0, none⟩ = some (.slice (some ⟨b, off, none⟩) cs.length cap) ∧ w'.cell? ⟨b, off + k * 2 + 1, none⟩ = some (.slice p2 l.length cap2) ∧ (convert 35 9 (.slice p2 l.length cap2)).run Tryz.prog w' = .ok (.string ⟨l.toArray⟩) w') (go_keep) (first | (go_at_call 72; refine BC.mono ?_; rintro e w5 ⟨rfl, hg5, hs5⟩; have hk5 : ∀ g, g < wr.heap.size → tag g ≠ 3 + k → w5.heap[g]? = wr.heap[g]? := (fun g hg ht => hg5.block g hg (fun e => ht (HB.out.1.tv k _ g HV.out e.symm))); have cA : ∀ g o, g < wr.heap.size → tag g ≠ 3 + k → w5.cell? ⟨g, o, none⟩ = wr.cell? ⟨g, o, none⟩ := (fun g o h1 h2 => World.cell?_of_block (a := ⟨g, o, none⟩) (hk5 g h1 h2)); have t0 := (cA _ 0 xl (by rw [HT.out.1]; omega)).trans x0; have t1 := (cA _ 1 xl (by rw [HT.out.1]; omega)).trans x1; have t2 := (cA _ _ vl (by rw [HT.out.2.2.1]; omega)).trans v1; have t3 := (cA _ 0 kl (by rw [HT.out.2.1]; omega)).trans k0; have t4 := (cA _ _ hbr (by rw [HT.out.2.2.2.2 b hbN]; omega)).trans d1; have t5 := (cA _ _ hbr (by rw [HT.out.2.2.2.2 b hbN]; omega)).trans d2; have t6 := (cA _ _ gl (by rw [HT.out.2.2.2.1]; omega)).trans g1; have t7 := (cA _ _ gl (by rw [HT.out.2.2.2.1]; omega)).trans g2; have hcw5 := HCV.out w5 hk5; have sl5 : wr.heap.size = w5.heap.size := hs5.symm; have H5 : Hid ((∀ g, g < wr.heap.size → tag g ≠ 3 + k → w5.heap[g]? = wr.heap[g]?) ∧ w5.os = wr.os ∧ w5.tape = wr.tape ∧ w5.output = wr.output) := ⟨hk5, hg5.os, hg5.tape, hg5.output⟩; clear hk5 cA hg5 hs5))
        all_goals
          have HN : Hid (∀ q, Bkt w lo tag cs vs G (.slice (some ⟨gV, 0, none⟩) cs.length cV) (k + 1) (((w5.drewN q).setCell ⟨G, k * 2, none⟩ (.int .i64 (-78))).setCell ⟨G, k * 2 + 1, none⟩ (.slice none 0 0)) ∧ Blk (((w5.drewN q).setCell ⟨G, k * 2, none⟩ (.int .i64 (-78))).setCell ⟨G, k * 2 + 1, none⟩ (.slice none 0 0)) w.heap.size #[(.slice (some ⟨G, 0, none⟩) (cs.length + 8) (cs.length + 8)), .slice (some ⟨gV, 0, none⟩) cs.length cV] 156 ∧ Blk (((w5.drewN q).setCell ⟨G, k * 2, none⟩ (.int .i64 (-78))).setCell ⟨G, k * 2 + 1, none⟩ (.slice none 0 0)) (w.heap.size + 1) #[.slice (some ⟨b, off, none⟩) cs.length cap, .int .i64 rom] 26) := fun q =>
            ⟨HB.out.1.step H5.out.2.1 H5.out.2.2.1 H5.out.2.2.2 (Nat.le_of_eq sl5) H5.out.1, (((HB.out.2.1.same (H5.out.1 _ xl (by rw [HT.out.1]; omega))).drewN q).set n3).set n3, (((HB.out.2.2.same (H5.out.1 _ kl (by rw [HT.out.2.1]; omega))).drewN q).set n4).set n4⟩
          have gf5 : ∀ o, w5.frozen? ⟨G, o, none⟩ = false := fun o => (World.frozen?_of_block (a := ⟨G, o, none⟩) (H5.out.1 G gl (by rw [HT.out.2.2.2.1]; omega))).trans (gf o)
          have gl5 : G < w5.heap.size := by omega
          have xl5 : w.heap.size < w5.heap.size := by omega
          have kl5 : w.heap.size + 1 < w5.heap.size := by omega
          have bl5 : b < w5.heap.size := by omega
          clear HB H5 HT HCV HV x0 x1 k0 v1 vl d1 d2 g1 g2 gf gl xl kl hbr hcw hcw5 sl5 BC
          go_wp2_with fail
          go_quiet (fail)
          have HN2 := HN.out nq
          have HN3 : Hid _ := HN2
          clear HN HN2
          go_wp2
          go_roundw
          case rel => exact ⟨k + 1, by omega, rfl, by go_num, HN3.out⟩
          case measure => simp [intOf]; omega
      · obtain ⟨m, rfl⟩ : ∃ m, k = cs.length + m := ⟨k - cs.length, by omega⟩
        obtain ⟨s1, s2⟩ := hB.sp m (by omega) (by omega)
        have hge : (cs.length : Int) ≤ ((cs.length + m : Nat) : Int) := by omega
        have HN : Hid (Bkt w lo tag cs vs G (.slice aV cs.length cV) (cs.length + m + 1) ((wr.setCell ⟨G, (cs.length + m) * 2, none⟩ (.int .i64 (-78))).setCell ⟨G, (cs.length + m) * 2 + 1, none⟩ (.slice none 0 0)) ∧ Blk ((wr.setCell ⟨G, (cs.length + m) * 2, none⟩ (.int .i64 (-78))).setCell ⟨G, (cs.length + m) * 2 + 1, none⟩ (.slice none 0 0)) w.heap.size #[(.slice (some ⟨G, 0, none⟩) (cs.length + 8) (cs.length + 8)), .slice aV cs.length cV] 156 ∧ Blk ((wr.setCell ⟨G, (cs.length + m) * 2, none⟩ (.int .i64 (-78))).setCell ⟨G, (cs.length + m) * 2 + 1, none⟩ (.slice none 0 0)) (w.heap.size + 1) #[.slice p cs.length cap, .int .i64 rom] 26) :=
          ⟨hB.step rfl rfl rfl (Nat.le_refl _) (fun _ _ _ => rfl), (hX.set n3).set n3, (hK.set n4).set n4⟩
        clear hB hX hK HB hu1 hu2
        go_wp2
        go_roundw
        case rel => exact ⟨cs.length + m + 1, by omega, rfl, by go_num, HN.out⟩
        case measure => simp [intOf]; omega
    · obtain rfl : k = cs.length + 8 := by omega
      clear hB hX hK
      go_wp2
      go_ret
      exact ⟨rfl, HB.out.1.os, HB.out.1.tape, HB.out.1.output, HB.out.1.size, HB.out.1.keep⟩
end

/-
  The law's world with its computers.
-/
section
structure Mc where
  B : Nat
  R : Nat
  M : Nat
  s : PC
  t : RS
  vh : Value
def ptrV (n : Nat) : Value := .pointer (some ⟨n, 0, none⟩)
def mcs (ms : List Mc) : List Value := ms.flatMap fun m => [ptrV m.B, ptrV m.R]
theorem mcs_get (ms : List Mc) (i : Nat) (h : i < ms.length) : (mcs ms)[i * 2]? = some (ptrV ms[i].B) ∧ (mcs ms)[i * 2 + 1]? = some (ptrV ms[i].R) := by
  induction ms generalizing i with
  | nil => simp at h
  | cons m r ih =>
    cases i with
    | zero => exact ⟨rfl, rfl⟩
    | succ i =>
      have := ih i (by simpa using h)
      have e : mcs (m :: r) = [ptrV m.B, ptrV m.R] ++ mcs r := by simp [mcs]
      rw [e, List.getElem?_append_right (by simp; omega), List.getElem?_append_right (by simp; omega)]
      rw [show (i + 1) * 2 - [ptrV m.B, ptrV m.R].length = i * 2 from by simp; omega, show (i + 1) * 2 + 1 - [ptrV m.B, ptrV m.R].length = i * 2 + 1 from by simp; omega]
      simpa using this
theorem mcs_snoc (ms : List Mc) (m : Mc) : mcs (ms ++ [m]) = mcs ms ++ [ptrV m.B, ptrV m.R] := by simp [mcs]

theorem mcs_set (ms : List Mc) (k : Nat) (h : k < ms.length) (m : Mc) (e1 : m.B = ms[k].B) (e2 : m.R = ms[k].R) : mcs (ms.set k m) = mcs ms := by
  induction ms generalizing k with
  | nil => simp at h
  | cons x r ih =>
    cases k with
    | zero =>
      have e1 : m.B = x.B := e1
      have e2 : m.R = x.R := e2
      simp [mcs, e1, e2]
    | succ k =>
      have := ih k (by simpa using h) (by simpa using e1) (by simpa using e2)
      unfold mcs at this ⊢
      simp [this]

/-- The law's world: block W; its computers. -/
structure IvC (w0 : World) (W : Nat) (x1 x2 : Value) (tag : Nat → Nat) (ms : List Mc) (vm : Value) (w : World) : Prop where
  bel : Below w0.heap.size w0 w
  loW : w0.heap.size ≤ W
  blk : Blk w W #[vm, .slice none 0 0, x1, x2, .slice none 0 0, .slice none 0 0] 82
  own : w.ownsRow w0.heap.size 134 2 vm ms.length (mcs ms)
  pr : ∀ i, (h : i < ms.length) → Pair w w0.heap.size ms[i].B ms[i].R ms[i].M ms[i].s ms[i].t ms[i].vh
  lo : ∀ i, (h : i < ms.length) → w0.heap.size ≤ ms[i].B ∧ w0.heap.size ≤ ms[i].R ∧ w0.heap.size ≤ ms[i].M
  tW : tag W = 1
  tV : ∀ g, vm.ownBlock = some g → tag g = 2
  tm : ∀ i, (h : i < ms.length) → tag ms[i].B = 3 + 4 * i ∧ tag ms[i].R = 4 + 4 * i ∧ tag ms[i].M = 5 + 4 * i ∧ ∀ g, ms[i].vh.ownBlock = some g → tag g = 6 + 4 * i

section
variable {w0 : World} {W : Nat} {x1 x2 : Value} {tag tag' : Nat → Nat} {ms : List Mc} {vm : Value} {w w' : World}

theorem Pair.same {base B R M : Nat} {s : PC} {t : RS} {vh : Value} (p : Pair w base B R M s t vh) (h1 : w'.heap[B]? = w.heap[B]?) (h2 : w'.heap[R]? = w.heap[R]?) (h3 : w'.heap[M]? = w.heap[M]?) (h4 : ∀ g, vh.ownBlock = some g → w'.heap[g]? = w.heap[g]?) : Pair w' base B R M s t vh :=
  ⟨p.x.same h1, p.y.same h2 h3, ⟨row_same p.o.o h4, p.o.ne⟩, p.al, p.nr, p.nm, p.nv⟩

theorem IvC.kept (h : IvC w0 W x1 x2 tag ms vm w) (hb : Below w0.heap.size w0 w') (hk : ∀ g, g < w.heap.size → tag g ≠ 0 → w'.heap[g]? = w.heap[g]?) (ht : ∀ g, g < w.heap.size → tag' g = tag g) : IvC w0 W x1 x2 tag' ms vm w' := by
  refine ⟨hb, h.loW, h.blk.same (hk W h.blk.lt (by rw [h.tW]; decide)), row_same h.own (fun g hg => hk g (h.own.lt g hg).2 (by rw [h.tV g hg]; decide)), fun i q => ?_, h.lo, (ht W h.blk.lt).trans h.tW, fun g hg => (ht g (h.own.lt g hg).2).trans (h.tV g hg), fun i q => ?_⟩
  · have p := h.pr i q
    obtain ⟨t1, t2, t3, t4⟩ := h.tm i q
    exact p.same (hk _ p.x.lt (by rw [t1]; omega)) (hk _ p.y.lt (by rw [t2]; omega)) (hk _ p.y.ltM (by rw [t3]; omega)) (fun g hg => hk g (p.o.o.lt g hg).2 (by rw [t4 g hg]; omega))
  · have p := h.pr i q
    obtain ⟨t1, t2, t3, t4⟩ := h.tm i q
    exact ⟨(ht _ p.x.lt).trans t1, (ht _ p.y.lt).trans t2, (ht _ p.y.ltM).trans t3, fun g hg => (ht g (p.o.o.lt g hg).2).trans (t4 g hg)⟩
theorem IvC.below (h : IvC w0 W x1 x2 tag ms vm w) (hb : Below w.heap.size w w') : IvC w0 W x1 x2 tag ms vm w' := h.kept (h.bel.trans (hb.mono h.bel.size)) (fun g hg _ => hb.block g hg) (fun _ _ => rfl)

/-- A computer has turned. -/
theorem IvC.ran {k : Nat} {s' : PC} {t' : RS} {vh' : Value} (h : IvC w0 W x1 x2 tag ms vm w) (hk : k < ms.length) (p : Pair w' w0.heap.size ms[k].B ms[k].R ms[k].M s' t' vh') (f : Four ms[k].B ms[k].R ms[k].M ms[k].vh.ownBlock w w') (ho : ∀ g, vh'.ownBlock = some g → ms[k].vh.ownBlock = some g ∨ w.heap.size ≤ g) :
    IvC w0 W x1 x2 (fun g => if w.heap.size ≤ g then 6 + 4 * k else tag g) (ms.set k ⟨ms[k].B, ms[k].R, ms[k].M, s', t', vh'⟩) vm w' := by
  obtain ⟨k1, k2, k3, k4⟩ := h.tm k hk
  have lt : ∀ g, g < w.heap.size → (if w.heap.size ≤ g then 6 + 4 * k else tag g) = tag g := fun g hg => if_neg (by omega)
  have hB : ∀ g, g < w.heap.size → tag g ≠ 3 + 4 * k → tag g ≠ 4 + 4 * k → tag g ≠ 5 + 4 * k → tag g ≠ 6 + 4 * k → w'.heap[g]? = w.heap[g]? := fun g hg a b c d =>
    f.block g hg (fun e => a (by rw [e]; exact k1)) (fun e => b (by rw [e]; exact k2)) (fun e => c (by rw [e]; exact k3)) (fun e => d (k4 g e.symm))
  have hm : mcs (ms.set k ⟨ms[k].B, ms[k].R, ms[k].M, s', t', vh'⟩) = mcs ms := mcs_set ms k hk _ rfl rfl
  refine ⟨?_, h.loW, ?_, ?_, fun i q => ?_, fun i q => ?_, (lt W h.blk.lt).trans h.tW, fun g hg => (lt g (h.own.lt g hg).2).trans (h.tV g hg), fun i q => ?_⟩
  · refine ⟨f.os.trans h.bel.os, f.tape.trans h.bel.tape, f.output.trans h.bel.output, Nat.le_trans h.bel.size f.size, fun g hg => ?_⟩
    have hg2 := Nat.lt_of_lt_of_le hg h.bel.size
    refine (f.block g hg2 ?_ ?_ ?_ ?_).trans (h.bel.block g hg)
    · have := (h.lo k hk).1; omega
    · have := (h.lo k hk).2.1; omega
    · have := (h.lo k hk).2.2; omega
    · intro e; have := ((h.pr k hk).o.o.lt g e.symm).1; omega
  · exact h.blk.same (hB W h.blk.lt (by rw [h.tW]; omega) (by rw [h.tW]; omega) (by rw [h.tW]; omega) (by rw [h.tW]; omega))
  · rw [hm, List.length_set]
    exact row_same h.own (fun g hg => hB g (h.own.lt g hg).2 (by rw [h.tV g hg]; omega) (by rw [h.tV g hg]; omega) (by rw [h.tV g hg]; omega) (by rw [h.tV g hg]; omega))
  · have q' : i < ms.length := by simpa using q
    by_cases e : i = k
    · subst e; simpa using p
    · rw [List.getElem_set_ne (fun z => e z.symm)]
      have p1 := h.pr i q'
      obtain ⟨t1, t2, t3, t4⟩ := h.tm i q'
      exact p1.same (hB _ p1.x.lt (by rw [t1]; omega) (by rw [t1]; omega) (by rw [t1]; omega) (by rw [t1]; omega)) (hB _ p1.y.lt (by rw [t2]; omega) (by rw [t2]; omega) (by rw [t2]; omega) (by rw [t2]; omega)) (hB _ p1.y.ltM (by rw [t3]; omega) (by rw [t3]; omega) (by rw [t3]; omega) (by rw [t3]; omega)) (fun g hg => hB g (p1.o.o.lt g hg).2 (by rw [t4 g hg]; omega) (by rw [t4 g hg]; omega) (by rw [t4 g hg]; omega) (by rw [t4 g hg]; omega))
  · have q' : i < ms.length := by simpa using q
    by_cases e : i = k
    · subst e; simpa using h.lo i q'
    · rw [List.getElem_set_ne (fun z => e z.symm)]; exact h.lo i q'
  · have q' : i < ms.length := by simpa using q
    by_cases e : i = k
    · subst e
      have p1 := h.pr i q'
      simp only [List.getElem_set_self]
      refine ⟨(lt _ p1.x.lt).trans k1, (lt _ p1.y.lt).trans k2, (lt _ p1.y.ltM).trans k3, fun g hg => ?_⟩
      rcases ho g hg with z | z
      · rw [lt g (p1.o.o.lt g z).2]; exact k4 g z
      · exact if_pos z
    · rw [List.getElem_set_ne (fun z => e z.symm)]
      have p1 := h.pr i q'
      obtain ⟨t1, t2, t3, t4⟩ := h.tm i q'
      exact ⟨(lt _ p1.x.lt).trans t1, (lt _ p1.y.lt).trans t2, (lt _ p1.y.ltM).trans t3, fun g hg => (lt g (p1.o.o.lt g hg).2).trans (t4 g hg)⟩

/-- One computer more. -/
theorem IvC.push {m : Mc} {g' cap' : Nat} {w3 : World} (h : IvC w0 W x1 x2 tag ms vm w) (p : Pair w w0.heap.size m.B m.R m.M m.s m.t m.vh) (hvh : m.vh.ownBlock = none) (hlo : w0.heap.size ≤ m.B ∧ w0.heap.size ≤ m.R ∧ w0.heap.size ≤ m.M)
    (tB : tag m.B = 3 + 4 * ms.length) (tR : tag m.R = 4 + 4 * ms.length) (tM : tag m.M = 5 + 4 * ms.length)
    (hown : w3.ownsRow w0.heap.size 134 2 (.slice (some ⟨g', 0, none⟩) (ms.length + 1) cap') (ms.length + 1) (mcs ms ++ [ptrV m.B, ptrV m.R])) (hg : w.grownBy w3 vm.ownBlock) (hat : vm.ownBlock = some g' ∨ g' = w.heap.size) :
    IvC w0 W x1 x2 (fun g => if w.heap.size ≤ g then 2 else tag g) (ms ++ [m]) (.slice (some ⟨g', 0, none⟩) (ms.length + 1) cap') (w3.setCell ⟨W, 0, none⟩ (.slice (some ⟨g', 0, none⟩) (ms.length + 1) cap')) := by
  have hk : ∀ g, g < w.heap.size → tag g ≠ 2 → w3.heap[g]? = w.heap[g]? := fun g q ht => hg.block g q (fun e => ht (h.tV g e.symm))
  have hk2 : ∀ g, g < w.heap.size → tag g ≠ 2 → tag g ≠ 1 → (w3.setCell ⟨W, 0, none⟩ (.slice (some ⟨g', 0, none⟩) (ms.length + 1) cap')).heap[g]? = w.heap[g]? := fun g q a b => (Below.heap_setCell _ _ _ _ (fun e => b (by rw [e]; exact h.tW))).trans (hk g q a)
  have lt : ∀ g, g < w.heap.size → (if w.heap.size ≤ g then 2 else tag g) = tag g := fun g q => if_neg (by omega)
  have hW := h.blk.lt
  have hs := hg.size
  have gW : g' ≠ W := by
    rcases hat with e | e
    · intro z; have := h.tV g' e; rw [z, h.tW] at this; cases this
    · omega
  have hp : ∀ i, (q : i < (ms ++ [m]).length) → (∃ q2 : i < ms.length, (ms ++ [m])[i] = ms[i]) ∨ (i = ms.length ∧ (ms ++ [m])[i] = m) := fun i q => by
    by_cases e : i < ms.length
    · exact .inl ⟨e, List.getElem_append_left e⟩
    · have e2 : i = ms.length := by simp at q; omega
      subst e2
      exact .inr ⟨rfl, by simp⟩
  refine ⟨⟨hg.os.trans h.bel.os, hg.tape.trans h.bel.tape, hg.output.trans h.bel.output, by have := h.bel.size; simp; omega, fun g q => ?_⟩, h.loW, ?_, ?_, fun i q => ?_, fun i q => ?_, (lt W hW).trans h.tW, fun g q => ?_, fun i q => ?_⟩
  · have q2 := Nat.lt_of_lt_of_le q h.bel.size
    refine ((Below.heap_setCell _ _ _ _ (fun e : g = W => by have := h.loW; omega)).trans (hg.block g q2 (fun e => ?_))).trans (h.bel.block g q)
    have := (h.own.lt g e.symm).1
    omega
  · exact (h.blk.same (hk W hW (by rw [h.tW]; decide))).put 0 _
  · rw [mcs_snoc, List.length_append]
    exact row_same hown (fun g q => Below.heap_setCell _ _ _ _ (fun e : g = W => by simp [Value.ownBlock] at q; omega))
  · rcases hp i q with ⟨q2, e⟩ | ⟨_, e⟩
    · rw [e]
      have p1 := h.pr i q2
      obtain ⟨t1, t2, t3, t4⟩ := h.tm i q2
      exact p1.same (hk2 _ p1.x.lt (by rw [t1]; omega) (by rw [t1]; omega)) (hk2 _ p1.y.lt (by rw [t2]; omega) (by rw [t2]; omega)) (hk2 _ p1.y.ltM (by rw [t3]; omega) (by rw [t3]; omega)) (fun g z => hk2 g (p1.o.o.lt g z).2 (by rw [t4 g z]; omega) (by rw [t4 g z]; omega))
    · rw [e]
      exact p.same (hk2 _ p.x.lt (by rw [tB]; omega) (by rw [tB]; omega)) (hk2 _ p.y.lt (by rw [tR]; omega) (by rw [tR]; omega)) (hk2 _ p.y.ltM (by rw [tM]; omega) (by rw [tM]; omega)) (fun g z => by rw [hvh] at z; cases z)
  · rcases hp i q with ⟨q2, e⟩ | ⟨_, e⟩
    · rw [e]; exact h.lo i q2
    · rw [e]; exact hlo
  · have e1 : g' = g := by simp [Value.ownBlock] at q; exact q
    subst e1
    rcases hat with z | z
    · rw [lt g' (h.own.lt g' z).2]; exact h.tV g' z
    · exact if_pos (by omega)
  · rcases hp i q with ⟨q2, e⟩ | ⟨e0, e⟩
    · rw [e]
      have p1 := h.pr i q2
      obtain ⟨t1, t2, t3, t4⟩ := h.tm i q2
      exact ⟨(lt _ p1.x.lt).trans t1, (lt _ p1.y.lt).trans t2, (lt _ p1.y.ltM).trans t3, fun g z => (lt g (p1.o.o.lt g z).2).trans (t4 g z)⟩
    · rw [e, e0]
      exact ⟨(lt _ p.x.lt).trans tB, (lt _ p.y.lt).trans tR, (lt _ p.y.ltM).trans tM, fun g z => by rw [hvh] at z; cases z⟩
end
end

/-
  The law Cycles, walked: New.
-/
section
set_option maxRecDepth 100000
set_option maxHeartbeats 8000000

theorem inf_mach : (Tryz.prog.info? 134).map (fun i => (i.zero, i.size, i.bytes)) = some (some (.agg #[.pointer none, .pointer none]), 2, 16) := by kernel_rfl
theorem und_ms : Tryz.prog.underlying 73 = some (.slice 134) := by kernel_rfl
theorem two_new (w : World) (x y : Value) (t : TypeId) : ∀ j u, [x, y][j]? = some u → (w.alloc (.cells #[x, y] t)).cell? ((⟨w.heap.size, 0, none⟩ : Addr).add j) = some u :=
  World.news_of_block (w := w.alloc (.cells #[x, y] t)) (cs := #[x, y]) (t := t) (fr := (0, 0)) (heap_alloc_new w _)
theorem ptrs_one (a b : Nat) : ∀ u ∈ [ptrV a, ptrV b], u.oneCell' = true := by
  intro u hu
  simp at hu
  rcases hu with rfl | rfl <;> rfl

theorem CfAt.old {N : Nat} {w w' : World} {v : Value} {cs : List Chn} (h : CfAt N w v cs) (hk : ∀ g, g < N → g < w.heap.size → w'.heap[g]? = w.heap[g]?) : CfAt N w' v cs := h.kept fun b o hb hc => World.cell?_of_block (a := ⟨b, o, none⟩) (hk b hb (lt_of_cell hc))

theorem made_no (w0 : World) (W : Nat) (x1 x2 : Value) (tag : Nat → Nat) (ms : List Mc) (vm : Value) (w : World) (h : IvC w0 W x1 x2 tag ms vm w) (a b : Int) (S : BA) (n q : Bool) (v : Value) (rom : Int) (cs : List Chn) (hc : CfAt w0.heap.size w v cs) (hl : cs.length ≤ 2000000) (hbs : ∀ c ∈ cs, c.bs.length ≤ 2000000) (htot : total cs ≤ 100000000) (hv : validI rom cs = false) :
    Calls Tryz.prog 41 #[.pointer (some ⟨W, 0, none⟩), .agg #[.int .i64 1, .int .i64 a, .int .i64 b, .string S, .bool n, .bool q, v, .int .i64 rom]] w fun e w' => e = .returned (.bool true) ∧ ∃ tag' ms' vm', ms'.length ≤ ms.length + 1 ∧ IvC w0 W x1 x2 tag' ms' vm' w' := by
  have HH : Hid (IvC w0 W x1 x2 tag ms vm w ∧ CfAt w0.heap.size w v cs ∧ (∀ c ∈ cs, c.bs.length ≤ 2000000) ∧ total cs ≤ 100000000 ∧ validI rom cs = false) := ⟨h, hc, hbs, htot, hv⟩
  have lo0 := h.bel.size
  have hW := h.blk.lt
  obtain ⟨p, cap, rfl, -⟩ := hc
  have hb1 : Below w.heap.size w (w.alloc (.cells #[.int .i64 1, .int .i64 a, .int .i64 b, .string S, .bool n, .bool q, .slice p cs.length cap, .int .i64 rom] 29)) := (Below.refl _ _).alloc (Nat.le_refl _) _
  have LC := lentC (w.alloc (.cells #[.int .i64 1, .int .i64 a, .int .i64 b, .string S, .bool n, .bool q, .slice p cs.length cap, .int .i64 rom] 29)) w0.heap.size (.slice p cs.length cap) cs rom (HH.out.2.1.below hb1) (by simp; omega) hl HH.out.2.2.1
  have HO1 : Hid (Blk (w.alloc (.cells #[.int .i64 1, .int .i64 a, .int .i64 b, .string S, .bool n, .bool q, .slice p cs.length cap, .int .i64 rom] 29)) w.heap.size #[.int .i64 1, .int .i64 a, .int .i64 b, .string S, .bool n, .bool q, .slice p cs.length cap, .int .i64 rom] 29) := Blk.new _ _ _
  have hs1 : (w.alloc (.cells #[.int .i64 1, .int .i64 a, .int .i64 b, .string S, .bool n, .bool q, .slice p cs.length cap, .int .i64 rom] 29)).heap.size = w.heap.size + 1 := World.size_alloc _ _
  clear h hbs htot hv
  go_enter Tryz.func41, Tryz.ntmps41
  go_wp2_with fail
  refine LC.mono ?_
  rintro e w2 ⟨G, V, vs, tagL, rfl, hLn, hsp, hb2, htl⟩
  obtain ⟨aV, cV, rfl⟩ := own_slice hLn.own
  have hO2 := HO1.out.below hb2
  have o0 : w2.cell? ⟨w.heap.size, 0, none⟩ = some (.int .i64 1) := hO2.cell 0
  have ol := hO2.lt
  have HL2 : Hid (Lnt w2 (w.alloc (.cells #[.int .i64 1, .int .i64 a, .int .i64 b, .string S, .bool n, .bool q, .slice p cs.length cap, .int .i64 rom] 29)).heap.size tagL cs cs.length cs.length vs G (.slice aV cs.length cV) ∧ (∀ j, j < 8 → w2.cell? ⟨G, (cs.length + j) * 2, none⟩ = some (.int .i64 (-77)) ∧ w2.cell? ⟨G, (cs.length + j) * 2 + 1, none⟩ = some (.slice none 0 0)) ∧ Below (w.alloc (.cells #[.int .i64 1, .int .i64 a, .int .i64 b, .string S, .bool n, .bool q, .slice p cs.length cap, .int .i64 rom] 29)).heap.size (w.alloc (.cells #[.int .i64 1, .int .i64 a, .int .i64 b, .string S, .bool n, .bool q, .slice p cs.length cap, .int .i64 rom] 29)) w2 ∧ (∀ g, g < (w.alloc (.cells #[.int .i64 1, .int .i64 a, .int .i64 b, .string S, .bool n, .bool q, .slice p cs.length cap, .int .i64 rom] 29)).heap.size → tagL g = 0)) := ⟨hLn, hsp, hb2, htl⟩
  clear hLn hsp hb2 htl LC
  go_upto_region 3 with fail
  have hb3 : Below w2.heap.size w2 ((w2.alloc (.cells #[(.slice (some ⟨G, 0, none⟩) cs.length (cs.length + 8)), .int .i64 rom] 26)).alloc (.cells #[(.slice (some ⟨G, 0, none⟩) (cs.length + 8) (cs.length + 8)), .slice aV cs.length cV] 156)) := ((Below.refl _ _).alloc (Nat.le_refl _) _).alloc (by simp) _
  have hC3 : Blk ((w2.alloc (.cells #[(.slice (some ⟨G, 0, none⟩) cs.length (cs.length + 8)), .int .i64 rom] 26)).alloc (.cells #[(.slice (some ⟨G, 0, none⟩) (cs.length + 8) (cs.length + 8)), .slice aV cs.length cV] 156)) w2.heap.size #[(.slice (some ⟨G, 0, none⟩) cs.length (cs.length + 8)), .int .i64 rom] 26 := (Blk.new _ _ _).alloc _
  have hL3 : Blk ((w2.alloc (.cells #[(.slice (some ⟨G, 0, none⟩) cs.length (cs.length + 8)), .int .i64 rom] 26)).alloc (.cells #[(.slice (some ⟨G, 0, none⟩) (cs.length + 8) (cs.length + 8)), .slice aV cs.length cV] 156)) (w2.heap.size + 1) #[(.slice (some ⟨G, 0, none⟩) (cs.length + 8) (cs.length + 8)), .slice aV cs.length cV] 156 := Blk.new' _ _ _ _ (by simp)
  have hO3 := hO2.below hb3
  generalize ((w2.alloc (.cells #[(.slice (some ⟨G, 0, none⟩) cs.length (cs.length + 8)), .int .i64 rom] 26)).alloc (.cells #[(.slice (some ⟨G, 0, none⟩) (cs.length + 8) (cs.length + 8)), .slice aV cs.length cV] 156)) = w3 at *
  have HB3 : Hid (Below w2.heap.size w2 w3 ∧ Blk w3 w2.heap.size #[(.slice (some ⟨G, 0, none⟩) cs.length (cs.length + 8)), .int .i64 rom] 26 ∧ Blk w3 (w2.heap.size + 1) #[(.slice (some ⟨G, 0, none⟩) (cs.length + 8) (cs.length + 8)), .slice aV cs.length cV] 156 ∧ Blk w3 w.heap.size #[.int .i64 1, .int .i64 a, .int .i64 b, .string S, .bool n, .bool q, .slice p cs.length cap, .int .i64 rom] 29) := ⟨hb3, hC3, hL3, hO3⟩
  have c0 : w3.cell? ⟨w2.heap.size, 0, none⟩ = some (.slice (some ⟨G, 0, none⟩) cs.length (cs.length + 8)) := hC3.cell 0
  have c1 : w3.cell? ⟨w2.heap.size, 1, none⟩ = some (.int .i64 rom) := hC3.cell 1
  have cl := hC3.lt
  have NW := new_no w2.heap.size (.slice (some ⟨G, 0, none⟩) cs.length (cs.length + 8)) (lentCs cs vs) rom w3 ((lnt_cf HL2.out.1).below hb3) (by rw [lentCs_valid HL2.out.1.len]; exact HH.out.2.2.2.2) (by rw [lentCs_len cs vs HL2.out.1.len]; omega) (by
    intro c hc
    obtain ⟨i, hi, e⟩ := List.mem_iff_getElem.1 hc
    have h2 : i < cs.length := by rw [lentCs_len cs vs HL2.out.1.len] at hi; exact hi
    rw [← e, (lentCs_get cs vs HL2.out.1.len i hi h2).2.1]
    have := HH.out.2.2.1 _ (List.getElem_mem h2)
    omega)
  clear hb3 hC3 hL3 hO3 hO2 o0 ol
  go_wp2_with fail
  refine NW.mono ?_
  rintro e w4 ⟨rfl, hb4⟩
  have hO4 := HB3.out.2.2.2.below hb4
  have hL4 := HB3.out.2.2.1.below hb4
  have s43 := hb4.size
  have s32 := HB3.out.1.size
  have hs2 := HL2.out.2.2.1.size
  obtain ⟨tagB, htB⟩ : ∃ tagB : Nat → Nat, tagB = fun g => if g < w2.heap.size then tagL g else 0 := ⟨_, rfl⟩
  have tB1 : ∀ g, g < w2.heap.size → tagB g = tagL g := fun g hg => by rw [htB]; exact if_pos hg
  have tB2 : ∀ g, w2.heap.size ≤ g → tagB g = 0 := fun g hg => by rw [htB]; exact if_neg (by omega)
  have tB0 : ∀ g, g < (w.alloc (.cells #[.int .i64 1, .int .i64 a, .int .i64 b, .string S, .bool n, .bool q, .slice p cs.length cap, .int .i64 rom] 29)).heap.size → tagB g = 0 := fun g hg => (tB1 g (by omega)).trans (HL2.out.2.2.2 g hg)
  have hb24 : Below w2.heap.size w2 w4 := HB3.out.1.trans (hb4.mono s32)
  have hb04 : Below w.heap.size w w4 := hb1.trans ((HL2.out.2.2.1.mono (by omega)).trans (hb24.mono (by omega)))
  have BK := backC w4 w0.heap.size (w.alloc (.cells #[.int .i64 1, .int .i64 a, .int .i64 b, .string S, .bool n, .bool q, .slice p cs.length cap, .int .i64 rom] 29)).heap.size (.slice p cs.length cap) cs rom tagB vs G (.slice aV cs.length cV) (HL2.out.1.kept (fun g hg _ => hb24.block g hg) tB1)
    (fun j hj => by
      have hG := hb24.block G HL2.out.1.row.lt
      exact ⟨(World.cell?_of_block (a := ⟨G, (cs.length + j) * 2, none⟩) hG).trans (HL2.out.2.1 j hj).1, (World.cell?_of_block (a := ⟨G, (cs.length + j) * 2 + 1, none⟩) hG).trans (HL2.out.2.1 j hj).2⟩)
    tB0 (fun g hg => tB2 g (by omega)) (HH.out.2.1.below hb04) (by omega) hl HH.out.2.2.1
  have l0 : w4.cell? ⟨w2.heap.size + 1, 0, none⟩ = some (.slice (some ⟨G, 0, none⟩) (cs.length + 8) (cs.length + 8)) := hL4.cell 0
  have l1 : w4.cell? ⟨w2.heap.size + 1, 1, none⟩ = some (.slice aV cs.length cV) := hL4.cell 1
  have o6 : w4.cell? ⟨w.heap.size, 6, none⟩ = some (.slice p cs.length cap) := hO4.cell 6
  have o7 : w4.cell? ⟨w.heap.size, 7, none⟩ = some (.int .i64 rom) := hO4.cell 7
  have ll := hL4.lt
  have ol := hO4.lt
  have H4 : Hid (Below w.heap.size w w4 ∧ Blk w4 w.heap.size #[.int .i64 1, .int .i64 a, .int .i64 b, .string S, .bool n, .bool q, .slice p cs.length cap, .int .i64 rom] 29) := ⟨hb04, hO4⟩
  have HT : Hid ((∀ g, w2.heap.size ≤ g → tagB g = 0) ∧ ∀ g, g < w.heap.size + 1 → tagB g = 0) := ⟨tB2, fun g hg => tB0 g (by omega)⟩
  clear c0 c1 cl NW hb4 htB tB1 tB2 tB0 hb24 hb04 hL4 hO4 HB3
  go_wp2_with fail
  refine BK.mono ?_
  rintro e w5 ⟨rfl, q1, q2, q3, q4, q5⟩
  have k5 : ∀ g, g < w.heap.size + 1 → w5.heap[g]? = w4.heap[g]? := fun g hg => q5 g (by omega) (HT.out.2 g hg)
  have hO5 := H4.out.2.same (k5 w.heap.size (by omega))
  have hb05 : Below w.heap.size w w5 := ⟨q1.trans H4.out.1.os, q2.trans H4.out.1.tape, q3.trans H4.out.1.output, by have := H4.out.1.size; omega, fun g hg => (k5 g (by omega)).trans (H4.out.1.block g hg)⟩
  have p6 : w5.cell? ⟨w.heap.size, 6, none⟩ = some (.slice p cs.length cap) := hO5.cell 6
  have p7 : w5.cell? ⟨w.heap.size, 7, none⟩ = some (.int .i64 rom) := hO5.cell 7
  have pl := hO5.lt
  have RN := rnew_no w0.heap.size (.slice p cs.length cap) cs rom w5 (HH.out.2.1.below hb05) (by omega) HH.out.2.2.2.1 HH.out.2.2.2.2
  have H5 : Hid (Below w.heap.size w w5) := hb05
  clear l0 l1 o6 o7 ll ol q1 q2 q3 q5 k5 hO5 hb05 BK H4
  go_wp2_with fail
  refine RN.mono ?_
  rintro e w6 ⟨rfl, hb6⟩
  have HE : Hid (IvC w0 W x1 x2 tag ms vm w6) := (HH.out.1.below H5.out).below hb6
  clear HH H5 HL2 HT hb6 RN p6 p7 pl
  go_wp2
  go_ret
  exact ⟨rfl, tag, ms, vm, by omega, HE.out⟩

theorem made_ok (w0 : World) (W : Nat) (x1 x2 : Value) (tag : Nat → Nat) (ms : List Mc) (vm : Value) (w : World) (h : IvC w0 W x1 x2 tag ms vm w) (hms : ms.length ≤ 9000000) (a b : Int) (S : BA) (n q : Bool) (v : Value) (rom : Int) (cs : List Chn) (hc : CfAt w0.heap.size w v cs) (hl : cs.length ≤ 2000000) (hbs : ∀ c ∈ cs, c.bs.length ≤ 2000000) (htot : total cs ≤ 100000000) (hv : validI rom cs = true) :
    Calls Tryz.prog 41 #[.pointer (some ⟨W, 0, none⟩), .agg #[.int .i64 1, .int .i64 a, .int .i64 b, .string S, .bool n, .bool q, v, .int .i64 rom]] w fun e w' => e = .returned (.bool true) ∧ ∃ tag' ms' vm', ms'.length ≤ ms.length + 1 ∧ IvC w0 W x1 x2 tag' ms' vm' w' := by
  have HH : Hid (IvC w0 W x1 x2 tag ms vm w ∧ CfAt w0.heap.size w v cs ∧ (∀ c ∈ cs, c.bs.length ≤ 2000000) ∧ total cs ≤ 100000000 ∧ validI rom cs = true) := ⟨h, hc, hbs, htot, hv⟩
  have lo0 := h.bel.size
  have hW := h.blk.lt
  obtain ⟨p, cap, rfl, -⟩ := hc
  have hb1 : Below w.heap.size w (w.alloc (.cells #[.int .i64 1, .int .i64 a, .int .i64 b, .string S, .bool n, .bool q, .slice p cs.length cap, .int .i64 rom] 29)) := (Below.refl _ _).alloc (Nat.le_refl _) _
  have LC := lentC (w.alloc (.cells #[.int .i64 1, .int .i64 a, .int .i64 b, .string S, .bool n, .bool q, .slice p cs.length cap, .int .i64 rom] 29)) w0.heap.size (.slice p cs.length cap) cs rom (HH.out.2.1.below hb1) (by simp; omega) hl HH.out.2.2.1
  have HO1 : Hid (Blk (w.alloc (.cells #[.int .i64 1, .int .i64 a, .int .i64 b, .string S, .bool n, .bool q, .slice p cs.length cap, .int .i64 rom] 29)) w.heap.size #[.int .i64 1, .int .i64 a, .int .i64 b, .string S, .bool n, .bool q, .slice p cs.length cap, .int .i64 rom] 29) := Blk.new _ _ _
  have hs1 : (w.alloc (.cells #[.int .i64 1, .int .i64 a, .int .i64 b, .string S, .bool n, .bool q, .slice p cs.length cap, .int .i64 rom] 29)).heap.size = w.heap.size + 1 := World.size_alloc _ _
  clear h hbs htot hv
  go_enter Tryz.func41, Tryz.ntmps41
  go_wp2_with fail
  refine LC.mono ?_
  rintro e w2 ⟨G, V, vs, tagL, rfl, hLn, hsp, hb2, htl⟩
  obtain ⟨aV, cV, rfl⟩ := own_slice hLn.own
  have hO2 := HO1.out.below hb2
  have o0 : w2.cell? ⟨w.heap.size, 0, none⟩ = some (.int .i64 1) := hO2.cell 0
  have ol := hO2.lt
  have HL2 : Hid (Lnt w2 (w.alloc (.cells #[.int .i64 1, .int .i64 a, .int .i64 b, .string S, .bool n, .bool q, .slice p cs.length cap, .int .i64 rom] 29)).heap.size tagL cs cs.length cs.length vs G (.slice aV cs.length cV) ∧ (∀ j, j < 8 → w2.cell? ⟨G, (cs.length + j) * 2, none⟩ = some (.int .i64 (-77)) ∧ w2.cell? ⟨G, (cs.length + j) * 2 + 1, none⟩ = some (.slice none 0 0)) ∧ Below (w.alloc (.cells #[.int .i64 1, .int .i64 a, .int .i64 b, .string S, .bool n, .bool q, .slice p cs.length cap, .int .i64 rom] 29)).heap.size (w.alloc (.cells #[.int .i64 1, .int .i64 a, .int .i64 b, .string S, .bool n, .bool q, .slice p cs.length cap, .int .i64 rom] 29)) w2 ∧ (∀ g, g < (w.alloc (.cells #[.int .i64 1, .int .i64 a, .int .i64 b, .string S, .bool n, .bool q, .slice p cs.length cap, .int .i64 rom] 29)).heap.size → tagL g = 0)) := ⟨hLn, hsp, hb2, htl⟩
  clear hLn hsp hb2 htl LC
  go_upto_region 3 with fail
  have hb3 : Below w2.heap.size w2 ((w2.alloc (.cells #[(.slice (some ⟨G, 0, none⟩) cs.length (cs.length + 8)), .int .i64 rom] 26)).alloc (.cells #[(.slice (some ⟨G, 0, none⟩) (cs.length + 8) (cs.length + 8)), .slice aV cs.length cV] 156)) := ((Below.refl _ _).alloc (Nat.le_refl _) _).alloc (by simp) _
  have hC3 : Blk ((w2.alloc (.cells #[(.slice (some ⟨G, 0, none⟩) cs.length (cs.length + 8)), .int .i64 rom] 26)).alloc (.cells #[(.slice (some ⟨G, 0, none⟩) (cs.length + 8) (cs.length + 8)), .slice aV cs.length cV] 156)) w2.heap.size #[(.slice (some ⟨G, 0, none⟩) cs.length (cs.length + 8)), .int .i64 rom] 26 := (Blk.new _ _ _).alloc _
  have hL3 : Blk ((w2.alloc (.cells #[(.slice (some ⟨G, 0, none⟩) cs.length (cs.length + 8)), .int .i64 rom] 26)).alloc (.cells #[(.slice (some ⟨G, 0, none⟩) (cs.length + 8) (cs.length + 8)), .slice aV cs.length cV] 156)) (w2.heap.size + 1) #[(.slice (some ⟨G, 0, none⟩) (cs.length + 8) (cs.length + 8)), .slice aV cs.length cV] 156 := Blk.new' _ _ _ _ (by simp)
  have hO3 := hO2.below hb3
  generalize ((w2.alloc (.cells #[(.slice (some ⟨G, 0, none⟩) cs.length (cs.length + 8)), .int .i64 rom] 26)).alloc (.cells #[(.slice (some ⟨G, 0, none⟩) (cs.length + 8) (cs.length + 8)), .slice aV cs.length cV] 156)) = w3 at *
  have HB3 : Hid (Below w2.heap.size w2 w3 ∧ Blk w3 w2.heap.size #[(.slice (some ⟨G, 0, none⟩) cs.length (cs.length + 8)), .int .i64 rom] 26 ∧ Blk w3 (w2.heap.size + 1) #[(.slice (some ⟨G, 0, none⟩) (cs.length + 8) (cs.length + 8)), .slice aV cs.length cV] 156 ∧ Blk w3 w.heap.size #[.int .i64 1, .int .i64 a, .int .i64 b, .string S, .bool n, .bool q, .slice p cs.length cap, .int .i64 rom] 29) := ⟨hb3, hC3, hL3, hO3⟩
  have c0 : w3.cell? ⟨w2.heap.size, 0, none⟩ = some (.slice (some ⟨G, 0, none⟩) cs.length (cs.length + 8)) := hC3.cell 0
  have c1 : w3.cell? ⟨w2.heap.size, 1, none⟩ = some (.int .i64 rom) := hC3.cell 1
  have cl := hC3.lt
  have NW := new_ok w2.heap.size (.slice (some ⟨G, 0, none⟩) cs.length (cs.length + 8)) (lentCs cs vs) rom w3 hb3.size ((lnt_cf HL2.out.1).below hb3) (by rw [lentCs_valid HL2.out.1.len]; exact HH.out.2.2.2.2) (by rw [lentCs_len cs vs HL2.out.1.len]; omega) (by
    intro c hc
    obtain ⟨i, hi, e⟩ := List.mem_iff_getElem.1 hc
    have h2 : i < cs.length := by rw [lentCs_len cs vs HL2.out.1.len] at hi; exact hi
    rw [← e, (lentCs_get cs vs HL2.out.1.len i hi h2).2.1]
    have := HH.out.2.2.1 _ (List.getElem_mem h2)
    omega)
  clear hb3 hC3 hL3 hO3 hO2 o0 ol
  go_wp2_with fail
  refine NW.mono ?_
  rintro e w4 ⟨B, Rx, hB, rfl, hCat, hb4⟩
  rw [lentCs_fresh HL2.out.1.len] at hCat
  have hO4 := HB3.out.2.2.2.below hb4
  have hL4 := HB3.out.2.2.1.below hb4
  have s43 := hb4.size
  have s32 := HB3.out.1.size
  have hs2 := HL2.out.2.2.1.size
  obtain ⟨tagB, htB⟩ : ∃ tagB : Nat → Nat, tagB = fun g => if g < w2.heap.size then tagL g else 0 := ⟨_, rfl⟩
  have tB1 : ∀ g, g < w2.heap.size → tagB g = tagL g := fun g hg => by rw [htB]; exact if_pos hg
  have tB2 : ∀ g, w2.heap.size ≤ g → tagB g = 0 := fun g hg => by rw [htB]; exact if_neg (by omega)
  have tB0 : ∀ g, g < (w.alloc (.cells #[.int .i64 1, .int .i64 a, .int .i64 b, .string S, .bool n, .bool q, .slice p cs.length cap, .int .i64 rom] 29)).heap.size → tagB g = 0 := fun g hg => (tB1 g (by omega)).trans (HL2.out.2.2.2 g hg)
  have hb24 : Below w2.heap.size w2 w4 := HB3.out.1.trans (hb4.mono s32)
  have hb04 : Below w.heap.size w w4 := hb1.trans ((HL2.out.2.2.1.mono (by omega)).trans (hb24.mono (by omega)))
  have BK := backC w4 w0.heap.size (w.alloc (.cells #[.int .i64 1, .int .i64 a, .int .i64 b, .string S, .bool n, .bool q, .slice p cs.length cap, .int .i64 rom] 29)).heap.size (.slice p cs.length cap) cs rom tagB vs G (.slice aV cs.length cV) (HL2.out.1.kept (fun g hg _ => hb24.block g hg) tB1)
    (fun j hj => by
      have hG := hb24.block G HL2.out.1.row.lt
      exact ⟨(World.cell?_of_block (a := ⟨G, (cs.length + j) * 2, none⟩) hG).trans (HL2.out.2.1 j hj).1, (World.cell?_of_block (a := ⟨G, (cs.length + j) * 2 + 1, none⟩) hG).trans (HL2.out.2.1 j hj).2⟩)
    tB0 (fun g hg => tB2 g (by omega)) (HH.out.2.1.below hb04) (by omega) hl HH.out.2.2.1
  have l0 : w4.cell? ⟨w2.heap.size + 1, 0, none⟩ = some (.slice (some ⟨G, 0, none⟩) (cs.length + 8) (cs.length + 8)) := hL4.cell 0
  have l1 : w4.cell? ⟨w2.heap.size + 1, 1, none⟩ = some (.slice aV cs.length cV) := hL4.cell 1
  have o6 : w4.cell? ⟨w.heap.size, 6, none⟩ = some (.slice p cs.length cap) := hO4.cell 6
  have o7 : w4.cell? ⟨w.heap.size, 7, none⟩ = some (.int .i64 rom) := hO4.cell 7
  have ll := hL4.lt
  have ol := hO4.lt
  have H4 : Hid (Below w.heap.size w w4 ∧ Blk w4 w.heap.size #[.int .i64 1, .int .i64 a, .int .i64 b, .string S, .bool n, .bool q, .slice p cs.length cap, .int .i64 rom] 29 ∧ CAt w4 B (.fresh rom cs Rx) ∧ w3.heap.size ≤ B) := ⟨hb04, hO4, hCat, hB⟩
  have HT : Hid ((∀ g, w2.heap.size ≤ g → tagB g = 0) ∧ ∀ g, g < w.heap.size + 1 → tagB g = 0) := ⟨tB2, fun g hg => tB0 g (by omega)⟩
  clear c0 c1 cl NW hb4 htB tB1 tB2 tB0 hb24 hb04 hL4 hO4 hCat hB HB3
  go_wp2_with fail
  refine BK.mono ?_
  rintro e w5 ⟨rfl, q1, q2, q3, q4, q5⟩
  have k5 : ∀ g, g < w.heap.size + 1 → w5.heap[g]? = w4.heap[g]? := fun g hg => q5 g (by omega) (HT.out.2 g hg)
  have hO5 := H4.out.2.1.same (k5 w.heap.size (by omega))
  have hb05 : Below w.heap.size w w5 := ⟨q1.trans H4.out.1.os, q2.trans H4.out.1.tape, q3.trans H4.out.1.output, by have := H4.out.1.size; omega, fun g hg => (k5 g (by omega)).trans (H4.out.1.block g hg)⟩
  have p6 : w5.cell? ⟨w.heap.size, 6, none⟩ = some (.slice p cs.length cap) := hO5.cell 6
  have p7 : w5.cell? ⟨w.heap.size, 7, none⟩ = some (.int .i64 rom) := hO5.cell 7
  have pl := hO5.lt
  have RN := rnew_ok w0.heap.size (.slice p cs.length cap) cs rom w5 (by omega) (HH.out.2.1.below hb05) (by omega) HH.out.2.2.2.1 HH.out.2.2.2.2
  have hCat5 : CAt w5 B (.fresh rom cs Rx) := H4.out.2.2.1.same (q5 B H4.out.2.2.1.lt (HT.out.1 B (by have := H4.out.2.2.2; omega)))
  have H5 : Hid (Below w.heap.size w w5 ∧ CAt w5 B (.fresh rom cs Rx) ∧ w3.heap.size ≤ B) := ⟨hb05, hCat5, H4.out.2.2.2⟩
  clear l0 l1 o6 o7 ll ol q1 q2 q3 q5 k5 hO5 hb05 hCat5 BK H4
  go_wp2_with fail
  refine RN.mono ?_
  rintro e w6 ⟨R, M, hR, hM, rfl, hMA, hb6⟩
  obtain ⟨aM, cM, rfl⟩ := own_slice HH.out.1.own
  obtain ⟨i2, hj, hj0, hj1, hj2⟩ := info_parts inf_mach
  have hC6 : CAt w6 B (.fresh rom cs Rx) := H5.out.2.1.same (hb6.block B H5.out.2.1.lt)
  have lB5 := H5.out.2.1.lt
  have hBw : w.heap.size ≤ B := by have := H5.out.2.2; omega
  have hP6 : Pair w6 w0.heap.size B R M (.fresh rom cs Rx) (.fresh rom cs) (.slice none 0 0) := ⟨hC6, hMA, HV.nil, fresh_alike, by omega, by omega, fun g hg => by simp [Value.ownBlock] at hg⟩
  have hI6 : IvC w0 W x1 x2 (fun g => if g = B then 3 + 4 * ms.length else if g = R then 4 + 4 * ms.length else if g = M then 5 + 4 * ms.length else tag g) ms (.slice aM ms.length cM) w6 :=
    HH.out.1.kept ((HH.out.1.below H5.out.1).below hb6).bel (fun g hg _ => (hb6.block g (by have := H5.out.1.size; omega)).trans (H5.out.1.block g hg)) (fun g hg => by rw [if_neg (by omega), if_neg (by omega), if_neg (by omega)])
  have HG : Hid ((fun g => if g = B then 3 + 4 * ms.length else if g = R then 4 + 4 * ms.length else if g = M then 5 + 4 * ms.length else tag g) B = 3 + 4 * ms.length ∧ (fun g => if g = B then 3 + 4 * ms.length else if g = R then 4 + 4 * ms.length else if g = M then 5 + 4 * ms.length else tag g) R = 4 + 4 * ms.length ∧ (fun g => if g = B then 3 + 4 * ms.length else if g = R then 4 + 4 * ms.length else if g = M then 5 + 4 * ms.length else tag g) M = 5 + 4 * ms.length) := ⟨if_pos rfl, (if_neg (by omega)).trans (if_pos rfl), (if_neg (by omega)).trans ((if_neg (fun e => hMA.ne e.symm)).trans (if_pos rfl))⟩
  generalize (fun g => if g = B then 3 + 4 * ms.length else if g = R then 4 + 4 * ms.length else if g = M then 5 + 4 * ms.length else tag g) = tag6 at hI6 HG
  have y0 : w6.cell? ⟨W, 0, none⟩ = some (.slice aM ms.length cM) := hI6.blk.cell 0
  have yl := hI6.blk.lt
  have HI : Hid (IvC w0 W x1 x2 tag6 ms (.slice aM ms.length cM) w6 ∧ Pair w6 w0.heap.size B R M (.fresh rom cs Rx) (.fresh rom cs) (.slice none 0 0) ∧ (w0.heap.size ≤ B ∧ w0.heap.size ≤ R ∧ w0.heap.size ≤ M)) := ⟨hI6, hP6, by omega, by omega, by omega⟩
  have lo6 : w0.heap.size ≤ w6.heap.size := hI6.bel.size
  clear hI6 hP6 hC6 hMA hb6 RN p6 p7 pl H5 HL2 HT HH lB5 q4
  go_wp2_with (first | (at_builtin; go_must (refine wpList_append_lies _ rfl (.tmp 61) (.tmp 65) 73 rfl w0.heap.size 134 i2 _ 2 16 und_ms hj hj0 hj1 hj2 rfl (by decide) (.slice aM ms.length cM) ms.length (mcs ms) rfl ?_ ⟨w6.heap.size, 0, none⟩ 1 1 [ptrV B, ptrV R] rfl rfl (two_new _ _ _ _) (ptrs_one _ _) (by decide) ?_ ?_ ?_ _ rfl ?_; exact (HI.out.1.below ((Below.refl _ _).alloc (Nat.le_refl _) _)).own; (unfold maxLen; omega); omega; (simp; omega); intro g' cap' w7 hown hgrow hat hlt7; have HN : Hid (IvC w0 W x1 x2 _ (ms ++ [⟨B, R, M, .fresh rom cs Rx, .fresh rom cs, .slice none 0 0⟩]) (.slice (some ⟨g', 0, none⟩) (ms.length + 1) cap') (w7.setCell ⟨W, 0, none⟩ (.slice (some ⟨g', 0, none⟩) (ms.length + 1) cap'))) := IvC.push (m := ⟨B, R, M, .fresh rom cs Rx, .fresh rom cs, .slice none 0 0⟩) (HI.out.1.below ((Below.refl _ _).alloc (Nat.le_refl _) (.cells #[.pointer (some ⟨B, 0, none⟩), .pointer (some ⟨R, 0, none⟩)] 134))) (HI.out.2.1.kept ((Below.refl _ _).alloc (Nat.le_refl _) _)) rfl HI.out.2.2 HG.out.1 HG.out.2.1 HG.out.2.2 hown hgrow hat; have hw7 : w7.heap[W]? = w6.heap[W]? := ((hgrow.block W (by have := World.size_alloc w6 (.cells #[.pointer (some ⟨B, 0, none⟩), .pointer (some ⟨R, 0, none⟩)] 134); omega) (fun e => by have z := HI.out.1.tV W e.symm; rw [HI.out.1.tW] at z; cases z)).trans (Below.heap_alloc _ _ _ yl)); have z0 := (World.cell?_of_block (a := ⟨W, 0, none⟩) hw7).trans y0; have zf : w7.frozen? ⟨W, 0, none⟩ = false := ((World.frozen?_of_block (a := ⟨W, 0, none⟩) hw7).trans (HI.out.1.blk.free 0)); have zl : W < w7.heap.size := (by have z1 := hgrow.size; have z2 := World.size_alloc w6 (.cells #[.pointer (some ⟨B, 0, none⟩), .pointer (some ⟨R, 0, none⟩)] 134); omega); clear hown hgrow hat hlt7 hw7)))
  go_ret
  exact ⟨rfl, _, _, _, by simp, HN.out⟩
end

/-
  The law Cycles, walked: the book stays empty.
-/
section
set_option maxRecDepth 100000
set_option maxHeartbeats 2000000

theorem looks_empty (w : World) (W : Nat) (c4 : w.cell? ⟨W, 4, none⟩ = some (.slice none 0 0)) (c5 : w.cell? ⟨W, 5, none⟩ = some (.slice none 0 0)) :
    Calls Tryz.prog 32 #[.pointer (some ⟨W, 4, none⟩)] w fun e w' => e = .returned (.bool true) ∧ w' = w := by
  go_enter Tryz.func32, Tryz.ntmps32
  go_wp2
  go_loop [3, 4] (fun ok i => ok = .bool true ∧ i = .int .i64 0) (fun _ _ => 0)
  case atStart => exact ⟨rfl, rfl⟩
  case round =>
    obtain ⟨rfl, rfl⟩ := hrel
    go_wp2
    go_loop [3, 6] (fun ok i => ok = .bool true ∧ i = .int .i64 0) (fun _ _ => 0)
    case atStart => exact ⟨rfl, rfl⟩
    case round =>
      obtain ⟨rfl, rfl⟩ := hrel
      go_wp2
      go_ret
      exact ⟨rfl, rfl⟩
end

end Go.Proofs.YtcgjliflnnklnaaGreat
