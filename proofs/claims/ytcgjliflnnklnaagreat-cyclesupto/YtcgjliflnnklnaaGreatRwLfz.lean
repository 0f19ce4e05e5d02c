/-
  The law Cycles, walked: New.
-/
import Derived.Test.YtcgjliflnnklnaaGreatJ17
namespace Go.Proofs.YtcgjliflnnklnaaGreat
open Go.RowKit
set_option maxRecDepth 100000
set_option maxHeartbeats 8000000

theorem inf_mach : (Tryz.prog.info? 134).map (fun i => (i.zero, i.size, i.bytes)) = some (some (.agg #[.pointer none, .pointer none]), 2, 16) := by kernel_rfl
theorem und_ms : Tryz.prog.underlying 73 = some (.slice 134) := by kernel_rfl
theorem two_new (w : World) (x y : Value) (t : TypeId) : ∀ j u, [x, y][j]? = some u → (w.alloc (.cells #[x, y] t)).cell? ((⟨w.heap.size, 0, none⟩ : Addr).add j) = some u :=
  World.news_of_block (w := w.alloc (.cells #[x, y] t)) (cs := #[x, y]) (t := t) (fr := (0, 0)) (heap_alloc_new w _)
theorem ptrs_one (a b : Nat) : ∀ u ∈ [ptrV a, ptrV b], u.oneCell' = true := by
  intro u hu
  simp at hu
  rcases hu with rfl | rfl <;> rfl

theorem CfAt.old {N : Nat} {w w' : World} {v : Value} {cs : List Chn} (h : CfAt N w v cs) (hk : ∀ g, g < N → g < w.heap.size → w'.heap[g]? = w.heap[g]?) : CfAt N w' v cs := h.kept fun b o hb hc => World.cell?_of_block (a := ⟨b, o, none⟩) (hk b hb (lt_of_cell hc))

theorem made_no (w0 : World) (W : Nat) (x1 x2 : Value) (tag : Nat → Nat) (ms : List Mc) (vm : Value) (w : World) (h : IvC w0 W x1 x2 tag ms vm w) (a b : Int) (S : BA) (n q : Bool) (v : Value) (rom : Int) (cs : List Chn) (hc : CfAt w0.heap.size w v cs) (hl : cs.length ≤ 2000000) (hbs : ∀ c ∈ cs, c.bs.length ≤ 2000000) (htot : total cs ≤ 100000000) (hv : validI rom cs = false) :
    Calls Tryz.prog 41 #[.pointer (some ⟨W, 0, none⟩), .agg #[.int .i64 1, .int .i64 a, .int .i64 b, .string S, .bool n, .bool q, v, .int .i64 rom]] w fun e w' => e = .returned (.bool true) ∧ ∃ tag' ms' vm', ms'.length ≤ ms.length + 1 ∧ IvC w0 W x1 x2 tag' ms' vm' w' := by
  have HH : Hid (IvC w0 W x1 x2 tag ms vm w ∧ CfAt w0.heap.size w v cs ∧ (∀ c ∈ cs, c.bs.length ≤ 2000000) ∧ total cs ≤ 100000000 ∧ validI rom cs = false) := ⟨h, hc, hbs, htot, hv⟩
  have lo0 := h.bel.size
  have hW := h.blk.lt
  obtain ⟨p, cap, rfl, -⟩ := hc
  have hb1 : Below w.heap.size w (w.alloc (.cells #[.int .i64 1, .int .i64 a, .int .i64 b, .string S, .bool n, .bool q, .slice p cs.length cap, .int .i64 rom] 29)) := (Below.refl _ _).alloc (Nat.le_refl _) _
  have LC := lentC (w.alloc (.cells #[.int .i64 1, .int .i64 a, .int .i64 b, .string S, .bool n, .bool q, .slice p cs.length cap, .int .i64 rom] 29)) w0.heap.size (.slice p cs.length cap) cs rom (HH.out.2.1.below hb1) (by simp; omega) hl HH.out.2.2.1
  have HO1 : Hid (Blk (w.alloc (.cells #[.int .i64 1, .int .i64 a, .int .i64 b, .string S, .bool n, .bool q, .slice p cs.length cap, .int .i64 rom] 29)) w.heap.size #[.int .i64 1, .int .i64 a, .int .i64 b, .string S, .bool n, .bool q, .slice p cs.length cap, .int .i64 rom] 29) := Blk.new _ _ _
  have hs1 : (w.alloc (.cells #[.int .i64 1, .int .i64 a, .int .i64 b, .string S, .bool n, .bool q, .slice p cs.length cap, .int .i64 rom] 29)).heap.size = w.heap.size + 1 := World.size_alloc _ _
  clear h hbs htot hv
  go_enter Tryz.func41, Tryz.ntmps41
  go_wp2_with fail
  refine LC.mono ?_
  rintro e w2 ⟨G, V, vs, tagL, rfl, hLn, hsp, hb2, htl⟩
  obtain ⟨aV, cV, rfl⟩ := own_slice hLn.own
  have hO2 := HO1.out.below hb2
  have o0 : w2.cell? ⟨w.heap.size, 0, none⟩ = some (.int .i64 1) := hO2.cell 0
  have ol := hO2.lt
  have HL2 : Hid (Lnt w2 (w.alloc (.cells #[.int .i64 1, .int .i64 a, .int .i64 b, .string S, .bool n, .bool q, .slice p cs.length cap, .int .i64 rom] 29)).heap.size tagL cs cs.length cs.length vs G (.slice aV cs.length cV) ∧ (∀ j, j < 8 → w2.cell? ⟨G, (cs.length + j) * 2, none⟩ = some (.int .i64 (-77)) ∧ w2.cell? ⟨G, (cs.length + j) * 2 + 1, none⟩ = some (.slice none 0 0)) ∧ Below (w.alloc (.cells #[.int .i64 1, .int .i64 a, .int .i64 b, .string S, .bool n, .bool q, .slice p cs.length cap, .int .i64 rom] 29)).heap.size (w.alloc (.cells #[.int .i64 1, .int .i64 a, .int .i64 b, .string S, .bool n, .bool q, .slice p cs.length cap, .int .i64 rom] 29)) w2 ∧ (∀ g, g < (w.alloc (.cells #[.int .i64 1, .int .i64 a, .int .i64 b, .string S, .bool n, .bool q, .slice p cs.length cap, .int .i64 rom] 29)).heap.size → tagL g = 0)) := ⟨hLn, hsp, hb2, htl⟩
  clear hLn hsp hb2 htl LC
  go_upto_region 3 with fail
  have hb3 : Below w2.heap.size w2 ((w2.alloc (.cells #[(.slice (some ⟨G, 0, none⟩) cs.length (cs.length + 8)), .int .i64 rom] 26)).alloc (.cells #[(.slice (some ⟨G, 0, none⟩) (cs.length + 8) (cs.length + 8)), .slice aV cs.length cV] 156)) := ((Below.refl _ _).alloc (Nat.le_refl _) _).alloc (by simp) _
  have hC3 : Blk ((w2.alloc (.cells #[(.slice (some ⟨G, 0, none⟩) cs.length (cs.length + 8)), .int .i64 rom] 26)).alloc (.cells #[(.slice (some ⟨G, 0, none⟩) (cs.length + 8) (cs.length + 8)), .slice aV cs.length cV] 156)) w2.heap.size #[(.slice (some ⟨G, 0, none⟩) cs.length (cs.length + 8)), .int .i64 rom] 26 := (Blk.new _ _ _).alloc _
  have hL3 : Blk ((w2.alloc (.cells #[(.slice (some ⟨G, 0, none⟩) cs.length (cs.length + 8)), .int .i64 rom] 26)).alloc (.cells #[(.slice (some ⟨G, 0, none⟩) (cs.length + 8) (cs.length + 8)), .slice aV cs.length cV] 156)) (w2.heap.size + 1) #[(.slice (some ⟨G, 0, none⟩) (cs.length + 8) (cs.length + 8)), .slice aV cs.length cV] 156 := Blk.new' _ _ _ _ (by simp)
  have hO3 := hO2.below hb3
  generalize ((w2.alloc (.cells #[(.slice (some ⟨G, 0, none⟩) cs.length (cs.length + 8)), .int .i64 rom] 26)).alloc (.cells #[(.slice (some ⟨G, 0, none⟩) (cs.length + 8) (cs.length + 8)), .slice aV cs.length cV] 156)) = w3 at *
  have HB3 : Hid (Below w2.heap.size w2 w3 ∧ Blk w3 w2.heap.size #[(.slice (some ⟨G, 0, none⟩) cs.length (cs.length + 8)), .int .i64 rom] 26 ∧ Blk w3 (w2.heap.size + 1) #[(.slice (some ⟨G, 0, none⟩) (cs.length + 8) (cs.length + 8)), .slice aV cs.length cV] 156 ∧ Blk w3 w.heap.size #[.int .i64 1, .int .i64 a, .int .i64 b, .string S, .bool n, .bool q, .slice p cs.length cap, .int .i64 rom] 29) := ⟨hb3, hC3, hL3, hO3⟩
  have c0 : w3.cell? ⟨w2.heap.size, 0, none⟩ = some (.slice (some ⟨G, 0, none⟩) cs.length (cs.length + 8)) := hC3.cell 0
  have c1 : w3.cell? ⟨w2.heap.size, 1, none⟩ = some (.int .i64 rom) := hC3.cell 1
  have cl := hC3.lt
  have NW := new_no w2.heap.size (.slice (some ⟨G, 0, none⟩) cs.length (cs.length + 8)) (lentCs cs vs) rom w3 ((lnt_cf HL2.out.1).below hb3) (by rw [lentCs_valid HL2.out.1.len]; exact HH.out.2.2.2.2) (by rw [lentCs_len cs vs HL2.out.1.len]; omega) (by
    intro c hc
    obtain ⟨i, hi, e⟩ := List.mem_iff_getElem.1 hc
    have h2 : i < cs.length := by rw [lentCs_len cs vs HL2.out.1.len] at hi; exact hi
    rw [← e, (lentCs_get cs vs HL2.out.1.len i hi h2).2.1]
    have := HH.out.2.2.1 _ (List.getElem_mem h2)
    omega)
  clear hb3 hC3 hL3 hO3 hO2 o0 ol
  go_wp2_with fail
  refine NW.mono ?_
  rintro e w4 ⟨rfl, hb4⟩
  have hO4 := HB3.out.2.2.2.below hb4
  have hL4 := HB3.out.2.2.1.below hb4
  have s43 := hb4.size
  have s32 := HB3.out.1.size
  have hs2 := HL2.out.2.2.1.size
  obtain ⟨tagB, htB⟩ : ∃ tagB : Nat → Nat, tagB = fun g => if g < w2.heap.size then tagL g else 0 := ⟨_, rfl⟩
  have tB1 : ∀ g, g < w2.heap.size → tagB g = tagL g := fun g hg => by rw [htB]; exact if_pos hg
  have tB2 : ∀ g, w2.heap.size ≤ g → tagB g = 0 := fun g hg => by rw [htB]; exact if_neg (by omega)
  have tB0 : ∀ g, g < (w.alloc (.cells #[.int .i64 1, .int .i64 a, .int .i64 b, .string S, .bool n, .bool q, .slice p cs.length cap, .int .i64 rom] 29)).heap.size → tagB g = 0 := fun g hg => (tB1 g (by omega)).trans (HL2.out.2.2.2 g hg)
  have hb24 : Below w2.heap.size w2 w4 := HB3.out.1.trans (hb4.mono s32)
  have hb04 : Below w.heap.size w w4 := hb1.trans ((HL2.out.2.2.1.mono (by omega)).trans (hb24.mono (by omega)))
  have BK := backC w4 w0.heap.size (w.alloc (.cells #[.int .i64 1, .int .i64 a, .int .i64 b, .string S, .bool n, .bool q, .slice p cs.length cap, .int .i64 rom] 29)).heap.size (.slice p cs.length cap) cs rom tagB vs G (.slice aV cs.length cV) (HL2.out.1.kept (fun g hg _ => hb24.block g hg) tB1)
    (fun j hj => by
      have hG := hb24.block G HL2.out.1.row.lt
      exact ⟨(World.cell?_of_block (a := ⟨G, (cs.length + j) * 2, none⟩) hG).trans (HL2.out.2.1 j hj).1, (World.cell?_of_block (a := ⟨G, (cs.length + j) * 2 + 1, none⟩) hG).trans (HL2.out.2.1 j hj).2⟩)
    tB0 (fun g hg => tB2 g (by omega)) (HH.out.2.1.below hb04) (by omega) hl HH.out.2.2.1
  have l0 : w4.cell? ⟨w2.heap.size + 1, 0, none⟩ = some (.slice (some ⟨G, 0, none⟩) (cs.length + 8) (cs.length + 8)) := hL4.cell 0
  have l1 : w4.cell? ⟨w2.heap.size + 1, 1, none⟩ = some (.slice aV cs.length cV) := hL4.cell 1
  have o6 : w4.cell? ⟨w.heap.size, 6, none⟩ = some (.slice p cs.length cap) := hO4.cell 6
  have o7 : w4.cell? ⟨w.heap.size, 7, none⟩ = some (.int .i64 rom) := hO4.cell 7
  have ll := hL4.lt
  have ol := hO4.lt
  have H4 : Hid (Below w.heap.size w w4 ∧ Blk w4 w.heap.size #[.int .i64 1, .int .i64 a, .int .i64 b, .string S, .bool n, .bool q, .slice p cs.length cap, .int .i64 rom] 29) := ⟨hb04, hO4⟩
  have HT : Hid ((∀ g, w2.heap.size ≤ g → tagB g = 0) ∧ ∀ g, g < w.heap.size + 1 → tagB g = 0) := ⟨tB2, fun g hg => tB0 g (by omega)⟩
  clear c0 c1 cl NW hb4 htB tB1 tB2 tB0 hb24 hb04 hL4 hO4 HB3
  go_wp2_with fail
  refine BK.mono ?_
  rintro e w5 ⟨rfl, q1, q2, q3, q4, q5⟩
  have k5 : ∀ g, g < w.heap.size + 1 → w5.heap[g]? = w4.heap[g]? := fun g hg => q5 g (by omega) (HT.out.2 g hg)
  have hO5 := H4.out.2.same (k5 w.heap.size (by omega))
  have hb05 : Below w.heap.size w w5 := ⟨q1.trans H4.out.1.os, q2.trans H4.out.1.tape, q3.trans H4.out.1.output, by have := H4.out.1.size; omega, fun g hg => (k5 g (by omega)).trans (H4.out.1.block g hg)⟩
  have p6 : w5.cell? ⟨w.heap.size, 6, none⟩ = some (.slice p cs.length cap) := hO5.cell 6
  have p7 : w5.cell? ⟨w.heap.size, 7, none⟩ = some (.int .i64 rom) := hO5.cell 7
  have pl := hO5.lt
  have RN := rnew_no w0.heap.size (.slice p cs.length cap) cs rom w5 (HH.out.2.1.below hb05) (by omega) HH.out.2.2.2.1 HH.out.2.2.2.2
  have H5 : Hid (Below w.heap.size w w5) := hb05
  clear l0 l1 o6 o7 ll ol q1 q2 q3 q5 k5 hO5 hb05 BK H4
  go_wp2_with fail
  refine RN.mono ?_
  rintro e w6 ⟨rfl, hb6⟩
  have HE : Hid (IvC w0 W x1 x2 tag ms vm w6) := (HH.out.1.below H5.out).below hb6
  clear HH H5 HL2 HT hb6 RN p6 p7 pl
  go_wp2
  go_ret
  exact ⟨rfl, tag, ms, vm, by omega, HE.out⟩

theorem made_ok (w0 : World) (W : Nat) (x1 x2 : Value) (tag : Nat → Nat) (ms : List Mc) (vm : Value) (w : World) (h : IvC w0 W x1 x2 tag ms vm w) (hms : ms.length ≤ 9000000) (a b : Int) (S : BA) (n q : Bool) (v : Value) (rom : Int) (cs : List Chn) (hc : CfAt w0.heap.size w v cs) (hl : cs.length ≤ 2000000) (hbs : ∀ c ∈ cs, c.bs.length ≤ 2000000) (htot : total cs ≤ 100000000) (hv : validI rom cs = true) :
    Calls Tryz.prog 41 #[.pointer (some ⟨W, 0, none⟩), .agg #[.int .i64 1, .int .i64 a, .int .i64 b, .string S, .bool n, .bool q, v, .int .i64 rom]] w fun e w' => e = .returned (.bool true) ∧ ∃ tag' ms' vm', ms'.length ≤ ms.length + 1 ∧ IvC w0 W x1 x2 tag' ms' vm' w' := by
  have HH : Hid (IvC w0 W x1 x2 tag ms vm w ∧ CfAt w0.heap.size w v cs ∧ (∀ c ∈ cs, c.bs.length ≤ 2000000) ∧ total cs ≤ 100000000 ∧ validI rom cs = true) := ⟨h, hc, hbs, htot, hv⟩
  have lo0 := h.bel.size
  have hW := h.blk.lt
  obtain ⟨p, cap, rfl, -⟩ := hc
  have hb1 : Below w.heap.size w (w.alloc (.cells #[.int .i64 1, .int .i64 a, .int .i64 b, .string S, .bool n, .bool q, .slice p cs.length cap, .int .i64 rom] 29)) := (Below.refl _ _).alloc (Nat.le_refl _) _
  have LC := lentC (w.alloc (.cells #[.int .i64 1, .int .i64 a, .int .i64 b, .string S, .bool n, .bool q, .slice p cs.length cap, .int .i64 rom] 29)) w0.heap.size (.slice p cs.length cap) cs rom (HH.out.2.1.below hb1) (by simp; omega) hl HH.out.2.2.1
  have HO1 : Hid (Blk (w.alloc (.cells #[.int .i64 1, .int .i64 a, .int .i64 b, .string S, .bool n, .bool q, .slice p cs.length cap, .int .i64 rom] 29)) w.heap.size #[.int .i64 1, .int .i64 a, .int .i64 b, .string S, .bool n, .bool q, .slice p cs.length cap, .int .i64 rom] 29) := Blk.new _ _ _
  have hs1 : (w.alloc (.cells #[.int .i64 1, .int .i64 a, .int .i64 b, .string S, .bool n, .bool q, .slice p cs.length cap, .int .i64 rom] 29)).heap.size = w.heap.size + 1 := World.size_alloc _ _
  clear h hbs htot hv
  go_enter Tryz.func41, Tryz.ntmps41
  go_wp2_with fail
  refine LC.mono ?_
  rintro e w2 ⟨G, V, vs, tagL, rfl, hLn, hsp, hb2, htl⟩
  obtain ⟨aV, cV, rfl⟩ := own_slice hLn.own
  have hO2 := HO1.out.below hb2
  have o0 : w2.cell? ⟨w.heap.size, 0, none⟩ = some (.int .i64 1) := hO2.cell 0
  have ol := hO2.lt
  have HL2 : Hid (Lnt w2 (w.alloc (.cells #[.int .i64 1, .int .i64 a, .int .i64 b, .string S, .bool n, .bool q, .slice p cs.length cap, .int .i64 rom] 29)).heap.size tagL cs cs.length cs.length vs G (.slice aV cs.length cV) ∧ (∀ j, j < 8 → w2.cell? ⟨G, (cs.length + j) * 2, none⟩ = some (.int .i64 (-77)) ∧ w2.cell? ⟨G, (cs.length + j) * 2 + 1, none⟩ = some (.slice none 0 0)) ∧ Below (w.alloc (.cells #[.int .i64 1, .int .i64 a, .int .i64 b, .string S, .bool n, .bool q, .slice p cs.length cap, .int .i64 rom] 29)).heap.size (w.alloc (.cells #[.int .i64 1, .int .i64 a, .int .i64 b, .string S, .bool n, .bool q, .slice p cs.length cap, .int .i64 rom] 29)) w2 ∧ (∀ g, g < (w.alloc (.cells #[.int .i64 1, .int .i64 a, .int .i64 b, .string S, .bool n, .bool q, .slice p cs.length cap, .int .i64 rom] 29)).heap.size → tagL g = 0)) := ⟨hLn, hsp, hb2, htl⟩
  clear hLn hsp hb2 htl LC
  go_upto_region 3 with fail
  have hb3 : Below w2.heap.size w2 ((w2.alloc (.cells #[(.slice (some ⟨G, 0, none⟩) cs.length (cs.length + 8)), .int .i64 rom] 26)).alloc (.cells #[(.slice (some ⟨G, 0, none⟩) (cs.length + 8) (cs.length + 8)), .slice aV cs.length cV] 156)) := ((Below.refl _ _).alloc (Nat.le_refl _) _).alloc (by simp) _
  have hC3 : Blk ((w2.alloc (.cells #[(.slice (some ⟨G, 0, none⟩) cs.length (cs.length + 8)), .int .i64 rom] 26)).alloc (.cells #[(.slice (some ⟨G, 0, none⟩) (cs.length + 8) (cs.length + 8)), .slice aV cs.length cV] 156)) w2.heap.size #[(.slice (some ⟨G, 0, none⟩) cs.length (cs.length + 8)), .int .i64 rom] 26 := (Blk.new _ _ _).alloc _
  have hL3 : Blk ((w2.alloc (.cells #[(.slice (some ⟨G, 0, none⟩) cs.length (cs.length + 8)), .int .i64 rom] 26)).alloc (.cells #[(.slice (some ⟨G, 0, none⟩) (cs.length + 8) (cs.length + 8)), .slice aV cs.length cV] 156)) (w2.heap.size + 1) #[(.slice (some ⟨G, 0, none⟩) (cs.length + 8) (cs.length + 8)), .slice aV cs.length cV] 156 := Blk.new' _ _ _ _ (by simp)
  have hO3 := hO2.below hb3
  generalize ((w2.alloc (.cells #[(.slice (some ⟨G, 0, none⟩) cs.length (cs.length + 8)), .int .i64 rom] 26)).alloc (.cells #[(.slice (some ⟨G, 0, none⟩) (cs.length + 8) (cs.length + 8)), .slice aV cs.length cV] 156)) = w3 at *
  have HB3 : Hid (Below w2.heap.size w2 w3 ∧ Blk w3 w2.heap.size #[(.slice (some ⟨G, 0, none⟩) cs.length (cs.length + 8)), .int .i64 rom] 26 ∧ Blk w3 (w2.heap.size + 1) #[(.slice (some ⟨G, 0, none⟩) (cs.length + 8) (cs.length + 8)), .slice aV cs.length cV] 156 ∧ Blk w3 w.heap.size #[.int .i64 1, .int .i64 a, .int .i64 b, .string S, .bool n, .bool q, .slice p cs.length cap, .int .i64 rom] 29) := ⟨hb3, hC3, hL3, hO3⟩
  have c0 : w3.cell? ⟨w2.heap.size, 0, none⟩ = some (.slice (some ⟨G, 0, none⟩) cs.length (cs.length + 8)) := hC3.cell 0
  have c1 : w3.cell? ⟨w2.heap.size, 1, none⟩ = some (.int .i64 rom) := hC3.cell 1
  have cl := hC3.lt
  have NW := new_ok w2.heap.size (.slice (some ⟨G, 0, none⟩) cs.length (cs.length + 8)) (lentCs cs vs) rom w3 hb3.size ((lnt_cf HL2.out.1).below hb3) (by rw [lentCs_valid HL2.out.1.len]; exact HH.out.2.2.2.2) (by rw [lentCs_len cs vs HL2.out.1.len]; omega) (by
    intro c hc
    obtain ⟨i, hi, e⟩ := List.mem_iff_getElem.1 hc
    have h2 : i < cs.length := by rw [lentCs_len cs vs HL2.out.1.len] at hi; exact hi
    rw [← e, (lentCs_get cs vs HL2.out.1.len i hi h2).2.1]
    have := HH.out.2.2.1 _ (List.getElem_mem h2)
    omega)
  clear hb3 hC3 hL3 hO3 hO2 o0 ol
  go_wp2_with fail
  refine NW.mono ?_
  rintro e w4 ⟨B, Rx, hB, rfl, hCat, hb4⟩
  rw [lentCs_fresh HL2.out.1.len] at hCat
  have hO4 := HB3.out.2.2.2.below hb4
  have hL4 := HB3.out.2.2.1.below hb4
  have s43 := hb4.size
  have s32 := HB3.out.1.size
  have hs2 := HL2.out.2.2.1.size
  obtain ⟨tagB, htB⟩ : ∃ tagB : Nat → Nat, tagB = fun g => if g < w2.heap.size then tagL g else 0 := ⟨_, rfl⟩
  have tB1 : ∀ g, g < w2.heap.size → tagB g = tagL g := fun g hg => by rw [htB]; exact if_pos hg
  have tB2 : ∀ g, w2.heap.size ≤ g → tagB g = 0 := fun g hg => by rw [htB]; exact if_neg (by omega)
  have tB0 : ∀ g, g < (w.alloc (.cells #[.int .i64 1, .int .i64 a, .int .i64 b, .string S, .bool n, .bool q, .slice p cs.length cap, .int .i64 rom] 29)).heap.size → tagB g = 0 := fun g hg => (tB1 g (by omega)).trans (HL2.out.2.2.2 g hg)
  have hb24 : Below w2.heap.size w2 w4 := HB3.out.1.trans (hb4.mono s32)
  have hb04 : Below w.heap.size w w4 := hb1.trans ((HL2.out.2.2.1.mono (by omega)).trans (hb24.mono (by omega)))
  have BK := backC w4 w0.heap.size (w.alloc (.cells #[.int .i64 1, .int .i64 a, .int .i64 b, .string S, .bool n, .bool q, .slice p cs.length cap, .int .i64 rom] 29)).heap.size (.slice p cs.length cap) cs rom tagB vs G (.slice aV cs.length cV) (HL2.out.1.kept (fun g hg _ => hb24.block g hg) tB1)
    (fun j hj => by
      have hG := hb24.block G HL2.out.1.row.lt
      exact ⟨(World.cell?_of_block (a := ⟨G, (cs.length + j) * 2, none⟩) hG).trans (HL2.out.2.1 j hj).1, (World.cell?_of_block (a := ⟨G, (cs.length + j) * 2 + 1, none⟩) hG).trans (HL2.out.2.1 j hj).2⟩)
    tB0 (fun g hg => tB2 g (by omega)) (HH.out.2.1.below hb04) (by omega) hl HH.out.2.2.1
  have l0 : w4.cell? ⟨w2.heap.size + 1, 0, none⟩ = some (.slice (some ⟨G, 0, none⟩) (cs.length + 8) (cs.length + 8)) := hL4.cell 0
  have l1 : w4.cell? ⟨w2.heap.size + 1, 1, none⟩ = some (.slice aV cs.length cV) := hL4.cell 1
  have o6 : w4.cell? ⟨w.heap.size, 6, none⟩ = some (.slice p cs.length cap) := hO4.cell 6
  have o7 : w4.cell? ⟨w.heap.size, 7, none⟩ = some (.int .i64 rom) := hO4.cell 7
  have ll := hL4.lt
  have ol := hO4.lt
  have H4 : Hid (Below w.heap.size w w4 ∧ Blk w4 w.heap.size #[.int .i64 1, .int .i64 a, .int .i64 b, .string S, .bool n, .bool q, .slice p cs.length cap, .int .i64 rom] 29 ∧ CAt w4 B (.fresh rom cs Rx) ∧ w3.heap.size ≤ B) := ⟨hb04, hO4, hCat, hB⟩
  have HT : Hid ((∀ g, w2.heap.size ≤ g → tagB g = 0) ∧ ∀ g, g < w.heap.size + 1 → tagB g = 0) := ⟨tB2, fun g hg => tB0 g (by omega)⟩
  clear c0 c1 cl NW hb4 htB tB1 tB2 tB0 hb24 hb04 hL4 hO4 hCat hB HB3
  go_wp2_with fail
  refine BK.mono ?_
  rintro e w5 ⟨rfl, q1, q2, q3, q4, q5⟩
  have k5 : ∀ g, g < w.heap.size + 1 → w5.heap[g]? = w4.heap[g]? := fun g hg => q5 g (by omega) (HT.out.2 g hg)
  have hO5 := H4.out.2.1.same (k5 w.heap.size (by omega))
  have hb05 : Below w.heap.size w w5 := ⟨q1.trans H4.out.1.os, q2.trans H4.out.1.tape, q3.trans H4.out.1.output, by have := H4.out.1.size; omega, fun g hg => (k5 g (by omega)).trans (H4.out.1.block g hg)⟩
  have p6 : w5.cell? ⟨w.heap.size, 6, none⟩ = some (.slice p cs.length cap) := hO5.cell 6
  have p7 : w5.cell? ⟨w.heap.size, 7, none⟩ = some (.int .i64 rom) := hO5.cell 7
  have pl := hO5.lt
  have RN := rnew_ok w0.heap.size (.slice p cs.length cap) cs rom w5 (by omega) (HH.out.2.1.below hb05) (by omega) HH.out.2.2.2.1 HH.out.2.2.2.2
  have hCat5 : CAt w5 B (.fresh rom cs Rx) := H4.out.2.2.1.same (q5 B H4.out.2.2.1.lt (HT.out.1 B (by have := H4.out.2.2.2; omega)))
  have H5 : Hid (Below w.heap.size w w5 ∧ CAt w5 B (.fresh rom cs Rx) ∧ w3.heap.size ≤ B) := ⟨hb05, hCat5, H4.out.2.2.2⟩
  clear l0 l1 o6 o7 ll ol q1 q2 q3 q5 k5 hO5 hb05 hCat5 BK H4
  go_wp2_with fail
  refine RN.mono ?_
  rintro e w6 ⟨R, M, hR, hM, rfl, hMA, hb6⟩
  obtain ⟨aM, cM, rfl⟩ := own_slice HH.out.1.own
  obtain ⟨i2, hj, hj0, hj1, hj2⟩ := info_parts inf_mach
  have hC6 : CAt w6 B (.fresh rom cs Rx) := H5.out.2.1.same (hb6.block B H5.out.2.1.lt)
  have lB5 := H5.out.2.1.lt
  have hBw : w.heap.size ≤ B := by have := H5.out.2.2; omega
  have hP6 : Pair w6 w0.heap.size B R M (.fresh rom cs Rx) (.fresh rom cs) (.slice none 0 0) := ⟨hC6, hMA, HV.nil, fresh_alike, by omega, by omega, fun g hg => by simp [Value.ownBlock] at hg⟩
  have hI6 : IvC w0 W x1 x2 (fun g => if g = B then 3 + 4 * ms.length else if g = R then 4 + 4 * ms.length else if g = M then 5 + 4 * ms.length else tag g) ms (.slice aM ms.length cM) w6 :=
    HH.out.1.kept ((HH.out.1.below H5.out.1).below hb6).bel (fun g hg _ => (hb6.block g (by have := H5.out.1.size; omega)).trans (H5.out.1.block g hg)) (fun g hg => by rw [if_neg (by omega), if_neg (by omega), if_neg (by omega)])
  have HG : Hid ((fun g => if g = B then 3 + 4 * ms.length else if g = R then 4 + 4 * ms.length else if g = M then 5 + 4 * ms.length else tag g) B = 3 + 4 * ms.length ∧ (fun g => if g = B then 3 + 4 * ms.length else if g = R then 4 + 4 * ms.length else if g = M then 5 + 4 * ms.length else tag g) R = 4 + 4 * ms.length ∧ (fun g => if g = B then 3 + 4 * ms.length else if g = R then 4 + 4 * ms.length else if g = M then 5 + 4 * ms.length else tag g) M = 5 + 4 * ms.length) := ⟨if_pos rfl, (if_neg (by omega)).trans (if_pos rfl), (if_neg (by omega)).trans ((if_neg (fun e => hMA.ne e.symm)).trans (if_pos rfl))⟩
  generalize (fun g => if g = B then 3 + 4 * ms.length else if g = R then 4 + 4 * ms.length else if g = M then 5 + 4 * ms.length else tag g) = tag6 at hI6 HG
  have y0 : w6.cell? ⟨W, 0, none⟩ = some (.slice aM ms.length cM) := hI6.blk.cell 0
  have yl := hI6.blk.lt
  have HI : Hid (IvC w0 W x1 x2 tag6 ms (.slice aM ms.length cM) w6 ∧ Pair w6 w0.heap.size B R M (.fresh rom cs Rx) (.fresh rom cs) (.slice none 0 0) ∧ (w0.heap.size ≤ B ∧ w0.heap.size ≤ R ∧ w0.heap.size ≤ M)) := ⟨hI6, hP6, by omega, by omega, by omega⟩
  have lo6 : w0.heap.size ≤ w6.heap.size := hI6.bel.size
  clear hI6 hP6 hC6 hMA hb6 RN p6 p7 pl H5 HL2 HT HH lB5 q4
  go_wp2_with (first | (at_builtin; go_must (refine wpList_append_lies _ rfl (.tmp 61) (.tmp 65) 73 rfl w0.heap.size 134 i2 _ 2 16 und_ms hj hj0 hj1 hj2 rfl (by decide) (.slice aM ms.length cM) ms.length (mcs ms) rfl ?_ ⟨w6.heap.size, 0, none⟩ 1 1 [ptrV B, ptrV R] rfl rfl (two_new _ _ _ _) (ptrs_one _ _) (by decide) ?_ ?_ ?_ _ rfl ?_; exact (HI.out.1.below ((Below.refl _ _).alloc (Nat.le_refl _) _)).own; (unfold maxLen; omega); omega; (simp; omega); intro g' cap' w7 hown hgrow hat hlt7; have HN : Hid (IvC w0 W x1 x2 _ (ms ++ [⟨B, R, M, .fresh rom cs Rx, .fresh rom cs, .slice none 0 0⟩]) (.slice (some ⟨g', 0, none⟩) (ms.length + 1) cap') (w7.setCell ⟨W, 0, none⟩ (.slice (some ⟨g', 0, none⟩) (ms.length + 1) cap'))) := IvC.push (m := ⟨B, R, M, .fresh rom cs Rx, .fresh rom cs, .slice none 0 0⟩) (HI.out.1.below ((Below.refl _ _).alloc (Nat.le_refl _) (.cells #[.pointer (some ⟨B, 0, none⟩), .pointer (some ⟨R, 0, none⟩)] 134))) (HI.out.2.1.kept ((Below.refl _ _).alloc (Nat.le_refl _) _)) rfl HI.out.2.2 HG.out.1 HG.out.2.1 HG.out.2.2 hown hgrow hat; have hw7 : w7.heap[W]? = w6.heap[W]? := ((hgrow.block W (by have := World.size_alloc w6 (.cells #[.pointer (some ⟨B, 0, none⟩), .pointer (some ⟨R, 0, none⟩)] 134); omega) (fun e => by have z := HI.out.1.tV W e.symm; rw [HI.out.1.tW] at z; cases z)).trans (Below.heap_alloc _ _ _ yl)); have z0 := (World.cell?_of_block (a := ⟨W, 0, none⟩) hw7).trans y0; have zf : w7.frozen? ⟨W, 0, none⟩ = false := ((World.frozen?_of_block (a := ⟨W, 0, none⟩) hw7).trans (HI.out.1.blk.free 0)); have zl : W < w7.heap.size := (by have z1 := hgrow.size; have z2 := World.size_alloc w6 (.cells #[.pointer (some ⟨B, 0, none⟩), .pointer (some ⟨R, 0, none⟩)] 134); omega); clear hown hgrow hat hlt7 hw7)))
  go_ret
  exact ⟨rfl, _, _, _, by simp, HN.out⟩

end Go.Proofs.YtcgjliflnnklnaaGreat
