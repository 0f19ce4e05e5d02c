/-
  Joined texts.
-/
import Derived.Test.YtcgjliflnnklnabGreatQE
import Derived.Lib.SlBytesConst
import Derived.Test.YtcgjliflnnklnabGreatQB
namespace Go.Proofs.YtcgjliflnnklnabGreat
open Go.RowKit

/-
  A program run: the statements' own steps.
-/
section
/-- So many cycles, the pins off. -/
def PC.runN (s : PC) : Nat → PC
  | 0 => s
  | n + 1 => (cycV (s.runN n) false false).1

/-- A computer is never in the midst of nothing. -/
def WF (s : PC) : Prop := s.st = 1 → s.md ≠ 0

theorem jam_stays (s : PC) (h : s.st = 5) (a b : Bool) : cycV s a b = (s, ⟨0, 0, false, false⟩, false) := by unfold cycV; rw [if_pos h]
theorem go_on (s : PC) (h : s.st ≠ 5) (a b : Bool) : cycV s a b = ((s.cycle a b).1, (s.cycle a b).2, true) := by unfold cycV; rw [if_neg h]

set_option maxRecDepth 100000 in
set_option maxHeartbeats 2000000 in
theorem runs_any {B : Nat} {s : PC} {w0 w : World} (h : Tn B s w0 w) (most n : Nat) (hn : n < most) (hm : most ≤ 1000) (hw : ∀ k, k ≤ n → WF (s.runN k)) (hg : ∀ k, k < n → (s.runN k).st ≠ 5) (hj : (s.runN n).st = 5) :
    Calls Tryz.prog 15 #[.pointer (some ⟨B, 0, none⟩), .int .i64 most] w fun e w' => e = .returned (.tuple #[(s.runN n).regs.val, .bool true]) ∧ Tn B (s.runN n) w0 w' := by
  have hlt := h.c.lt
  have hsz := h.g.size
  have n0 : w.heap.size ≠ B := by omega
  have m0 : B ≠ w.heap.size := by omega
  have HW : Hid (∀ k, k ≤ n → WF (s.runN k)) := hw
  have HGo : Hid (∀ k, k < n → (s.runN k).st ≠ 5) := hg
  have HJ : Hid ((s.runN n).st = 5) := hj
  have HT : Hid (Tn B s w0 w) := h
  clear hw hg hj h
  go_enter Tryz.func15, Tryz.ntmps15
  go_wp2_with fail
  obtain ⟨W0, hW0, hWs⟩ : ∃ W0, Hid (W0 = w.alloc (.cells #[.int .i64 0, .int .i64 0, .int .i64 0, .int .i64 0, .int .i64 0, .int .i64 0, .int .i64 0, .bool false] 47)) ∧ W0.heap.size = w.heap.size + 1 := ⟨_, rfl, by simp⟩
  have hcell : ∀ j, W0.cell? ⟨w.heap.size, j, none⟩ = (#[.int .i64 0, .int .i64 0, .int .i64 0, .int .i64 0, .int .i64 0, .int .i64 0, .int .i64 0, .bool false] : Array Value)[j]? := fun j => by rw [hW0.out]; exact World.cell?_alloc_at _ _ _ _ rfl
  have hfz : ∀ j, W0.frozen? ⟨w.heap.size, j, none⟩ = false := fun j => by rw [hW0.out]; exact World.frozen?_alloc_at _ _ _ _ rfl
  have HC : Hid (∀ j, W0.cell? ⟨w.heap.size, j, none⟩ = (#[.int .i64 0, .int .i64 0, .int .i64 0, .int .i64 0, .int .i64 0, .int .i64 0, .int .i64 0, .bool false] : Array Value)[j]?) := hcell
  have HFZ : Hid (∀ j, W0.frozen? ⟨w.heap.size, j, none⟩ = false) := hfz
  clear hcell hfz
  go_loopw [6] (fun i wr => ∃ k : Nat, k ≤ n ∧ i = .int .i64 k ∧ Tn B (s.runN k) W0 wr) (fun i _ => n - (intOf i).toNat)
  case atStart => exact ⟨0, by omega, rfl, by rw [hW0.out]; exact Tn.refl HT.out.c.alloc⟩
  case round =>
    obtain ⟨k, hk, rfl, hT⟩ := hrel
    have hkm : (k : Int) < (most : Int) := by omega
    have C := mCycle_any hT false false (HW.out k hk)
    have l1 := hT.c.lt
    have l2 := hT.g.size
    by_cases hlt1 : k < n
    · have e1 : (cycV (s.runN k) false false).2.2 = true := by rw [go_on _ (HGo.out k hlt1)]
      have e2 : (cycV (s.runN k) false false).1 = s.runN (k + 1) := rfl
      rw [e1, e2] at C
      generalize (cycV (s.runN k) false false).2.1 = b at *
      obtain ⟨ba, bd, bw, bf⟩ := b
      clear e1 e2 hT
      go_wp2_with (first | (go_at_call 11; refine C.mono ?_; rintro e w2 ⟨rfl, T2⟩; have HT2 := Hid.mk' T2; clear T2 C; simp only [BusI.val]))
      go_roundw
      case rel => exact ⟨k + 1, by omega, by go_num, HT2.out.alloc _⟩
      case measure => simp [intOf]; omega
    · have ek : k = n := by omega
      have e1 : cycV (s.runN k) false false = (s.runN k, ⟨0, 0, false, false⟩, false) := jam_stays _ (by rw [ek]; exact HJ.out) _ _
      rw [e1] at C
      have HE : Hid (k = n) := ek
      clear e1 hT ek
      go_wp2_with (first | (go_at_call 11; refine C.mono ?_; rintro e w2 ⟨rfl, T2⟩; have HT2 := Hid.mk' T2; have RG := mRegs_any (T2.alloc (.cells #[.int .i64 0, .int .i64 0, .bool false, .bool false] 43)); clear T2 C; simp only [BusI.val]) | (go_at_call 12; refine RG.mono ?_; rintro e w3 ⟨rfl, hb⟩; have HT3 := Hid.mk' (below_thru (HT2.out.alloc _) hb); clear RG hb; simp only [RegI.val]))
      have hK := kept HT3.out
      have rr : ∀ j, w3.cell? ⟨w.heap.size, j, none⟩ = (#[.int .i64 0, .int .i64 0, .int .i64 0, .int .i64 0, .int .i64 0, .int .i64 0, .int .i64 0, .bool false] : Array Value)[j]? := fun j => (hK.1 _ _ n0 (by omega)).trans (HC.out j)
      have r0 : w3.cell? ⟨w.heap.size, 0, none⟩ = some (.int .i64 0) := rr 0
      have r1 : w3.cell? ⟨w.heap.size, 1, none⟩ = some (.int .i64 0) := rr 1
      have r2 : w3.cell? ⟨w.heap.size, 2, none⟩ = some (.int .i64 0) := rr 2
      have r3 : w3.cell? ⟨w.heap.size, 3, none⟩ = some (.int .i64 0) := rr 3
      have r4 : w3.cell? ⟨w.heap.size, 4, none⟩ = some (.int .i64 0) := rr 4
      have r5 : w3.cell? ⟨w.heap.size, 5, none⟩ = some (.int .i64 0) := rr 5
      have r6 : w3.cell? ⟨w.heap.size, 6, none⟩ = some (.int .i64 0) := rr 6
      have r7 : w3.cell? ⟨w.heap.size, 7, none⟩ = some (.bool false) := rr 7
      have rf : ∀ j, w3.frozen? ⟨w.heap.size, j, none⟩ = false := fun j => (hK.2 _ _ n0 (by omega)).trans (HFZ.out j)
      have l3 := HT3.out.g.size
      have l4 : w.heap.size < w3.heap.size := by omega
      have l5 : w.heap.size ≠ w3.heap.size := by omega
      have l6 : w3.heap.size ≠ w.heap.size := by omega
      have jj : Hid ((s.runN k).regs.jam = true) := by show ((s.runN k).st == 5) = true; rw [HE.out, HJ.out]; rfl
      have HV : Hid ((s.runN n).regs.val = .agg #[.int .i64 (s.runN k).regs.A, .int .i64 (s.runN k).regs.X, .int .i64 (s.runN k).regs.Y, .int .i64 (s.runN k).regs.S, .int .i64 (s.runN k).regs.P, .int .i64 (s.runN k).regs.PC, .int .i64 (s.runN k).regs.cyc, .bool true]) := by show _ = _; rw [← HE.out]; unfold RegI.val; rw [jj.out]
      rw [jj.out]
      have T9 : Hid (Tn B (s.runN n) w0 w3) := by show Tn B (s.runN n) w0 w3; rw [← HE.out]; exact Tn.trans (b := W0) (by rw [hW0.out]; exact HT.out.alloc _) HT3.out
      clear rr hK
      generalize (s.runN k).regs = r at *
      go_region
      all_goals go_wp2
      all_goals (refine bodyPost_ret (v := .tuple #[.agg #[.int .i64 r.A, .int .i64 r.X, .int .i64 r.Y, .int .i64 r.S, .int .i64 r.P, .int .i64 r.PC, .int .i64 r.cyc, .bool true], .bool true]) (by simp [results, Tryz.results15, go_sem, *]) rfl ⟨by rw [HV.out], ?_⟩)
      all_goals exact (((((((((T9.out.other n0 hsz).other n0 hsz).other n0 hsz).other n0 hsz).other n0 hsz).other n0 hsz).other n0 hsz).other n0 hsz).alloc _).drew

/-- A slice of bytes of which nothing is asked but that it is one: none, or a new row. -/
def keepCs (code low data : List UInt8) (v1 v2 v3 v4 : Value) : List Chn := [⟨1024, v1, code⟩, ⟨128, v2, low⟩, ⟨768, v3, data⟩, ⟨65530, v4, [0, 5, 0, 4, 0, 6]⟩]

theorem ChV.mono {N M : Nat} {w : World} {v : Value} {bs : List UInt8} (h : ChV N w v bs) (hm : N ≤ M) : ChV M w v bs := by
  obtain ⟨p, cap, e, H⟩ := h
  exact ⟨p, cap, e, fun hn => by obtain ⟨b, off, e2, hb, hB⟩ := H hn; exact ⟨b, off, e2, by omega, hB⟩⟩
theorem ChV.below {N : Nat} {w w' : World} {v : Value} {bs : List UInt8} (h : ChV N w v bs) (g : Below w.heap.size w w') : ChV N w' v bs := h.kept fun b o _ hc => g.cell (p := ⟨b, o, none⟩) (lt_of_cell hc)
theorem ChV.none (N : Nat) (w : World) : ChV N w (.slice none 0 0) [] := ⟨_, _, rfl, fun h => absurd rfl h⟩
theorem bytes_lit (w : World) (l : List UInt8) (t : TypeId) : BytesAt (w.alloc (.cells (vals l).toArray t)) w.heap.size 0 l := by
  intro i hi
  rw [Nat.zero_add, World.cell?_alloc_at _ _ _ _ rfl]
  simp [vals, hi]

theorem keep_valid (code low data : List UInt8) (v1 v2 v3 v4 : Value) (hl : code.length + low.length + data.length ≤ 4000) : validI 256 (keepCs code low data v1 v2 v3 v4) = true := by
  unfold validI keepCs total okChn
  simp
  omega

set_option maxRecDepth 100000 in
set_option maxHeartbeats 2000000 in
theorem computer_ok (w : World) (v1 v2 v3 : Value) (code low data : List UInt8) (h1 : ChV w.heap.size w v1 code) (h2 : ChV w.heap.size w v2 low) (h3 : ChV w.heap.size w v3 data) (hl : code.length + low.length + data.length ≤ 4000) :
    Calls Tryz.prog 14 #[v1, v2, v3] w fun e w' => ∃ B R v4, w.heap.size ≤ B ∧ e = .returned (.pointer (some ⟨B, 0, none⟩)) ∧ CAt w' B (.fresh 256 (keepCs code low data v1 v2 v3 v4) R) ∧ Below w.heap.size w w' := by
  obtain ⟨p1, c1, rfl, H1⟩ := h1
  obtain ⟨p2, c2, rfl, H2⟩ := h2
  obtain ⟨p3, c3, rfl, H3⟩ := h3
  have NW := fun (t1 t2 : TypeId) => new_ok (w.heap.size + 2) (.slice (some ⟨w.heap.size + 1, 0, none⟩) 4 4) (keepCs code low data (.slice p1 code.length c1) (.slice p2 low.length c2) (.slice p3 data.length c3) (.slice (some ⟨w.heap.size, 0, none⟩) 6 6)) 256
    ((w.alloc (.cells #[.int .u8 0, .int .u8 5, .int .u8 0, .int .u8 4, .int .u8 0, .int .u8 6] t1)).alloc (.cells #[.int .i64 1024, .slice p1 code.length c1, .int .i64 128, .slice p2 low.length c2, .int .i64 768, .slice p3 data.length c3, .int .i64 65530, .slice (some ⟨w.heap.size, 0, none⟩) 6 6] t2))
    (by simp) (by
      have hb2 : ∀ o1 o2, Below w.heap.size w ((w.alloc o1).alloc o2) := fun o1 o2 => ((Below.refl _ _).alloc (Nat.le_refl _) _).alloc (by simp) _
      have hs : ∀ o, (w.alloc o).heap.size = w.heap.size + 1 := fun o => by simp
      refine ⟨_, _, rfl, fun _ => ⟨w.heap.size + 1, 0, rfl, by omega, fun i hi => ?_⟩⟩
      have hc : ∀ (o : Obj) (cs : Array Value) (t : TypeId) j, ((w.alloc o).alloc (.cells cs t)).cell? ⟨w.heap.size + 1, j, none⟩ = cs[j]? := fun o cs t j => by rw [← hs o]; exact World.cell?_alloc_at _ _ _ _ rfl
      have hi4 : i < 4 := hi
      rcases (show i = 0 ∨ i = 1 ∨ i = 2 ∨ i = 3 from by omega) with rfl | rfl | rfl | rfl
      · exact ⟨hc _ _ _ _, hc _ _ _ _, ((ChV.mono (N := w.heap.size) ⟨_, _, rfl, H1⟩ (by omega)).below (hb2 _ _))⟩
      · exact ⟨hc _ _ _ _, hc _ _ _ _, ((ChV.mono (N := w.heap.size) ⟨_, _, rfl, H2⟩ (by omega)).below (hb2 _ _))⟩
      · exact ⟨hc _ _ _ _, hc _ _ _ _, ((ChV.mono (N := w.heap.size) ⟨_, _, rfl, H3⟩ (by omega)).below (hb2 _ _))⟩
      · exact ⟨hc _ _ _ _, hc _ _ _ _, ⟨_, _, rfl, fun _ => ⟨w.heap.size, 0, rfl, by omega, bytes_alloc (bytes_lit w [0, 5, 0, 4, 0, 6] _) (by simp) _⟩⟩⟩)
    (keep_valid _ _ _ _ _ _ _ hl) (by show 4 ≤ 140737488355328; decide) (by
      intro c hc
      unfold keepCs at hc
      simp at hc
      rcases hc with rfl | rfl | rfl | rfl
      · show code.length ≤ _; omega
      · show low.length ≤ _; omega
      · show data.length ≤ _; omega
      · show 6 ≤ 140737488355328; decide)
  have HH : Hid (∀ o1 o2, Below w.heap.size w ((w.alloc o1).alloc o2)) := fun o1 o2 => ((Below.refl _ _).alloc (Nat.le_refl _) _).alloc (by simp) _
  clear H1 H2 H3
  go_enter Tryz.func14, Tryz.ntmps14
  go_wp2_with fail
  refine (NW _ _).mono ?_
  rintro e w2 ⟨B, R, hB, rfl, hC, hb⟩
  have H2 : Hid (∃ B' R' v4, w.heap.size ≤ B' ∧ Value.pointer (some ⟨B, 0, none⟩) = .pointer (some ⟨B', 0, none⟩) ∧ CAt w2 B' (.fresh 256 (keepCs code low data (.slice p1 code.length c1) (.slice p2 low.length c2) (.slice p3 data.length c3) v4) R') ∧ Below w.heap.size w w2) := ⟨B, R, _, by simp at hB; omega, rfl, hC, (HH.out _ _).trans (hb.mono (by simp; omega))⟩
  clear hB hC hb NW
  go_wp2
  go_ret
  obtain ⟨B', R', v4, a, b, c, d⟩ := H2.out
  exact ⟨B', R', v4, a, congrArg Ending.returned b, c, d⟩
end

/-
  known: the head of the statements.
-/
section
def kCode : List UInt8 := [169, 5, 105, 254, 141, 0, 3, 2]
def kPC (v1 v2 v3 v4 : Value) (R : Nat → Option Value) : PC := .fresh 256 (keepCs kCode [] [] v1 v2 v3 v4) R

theorem k_regs (v1 v2 v3 v4 : Value) (R : Nat → Option Value) : ((kPC v1 v2 v3 v4 R).runN 9).regs = ⟨3, 0, 0, 253, 37, 1031, 9, true⟩ := by kernel_rfl
theorem k_peek (v1 v2 v3 v4 : Value) (R : Nat → Option Value) : ((kPC v1 v2 v3 v4 R).runN 9).peek 768 = 3 := by kernel_rfl
/-- Of each cycle up to the n-th: it goes on, and in the midst of something. -/
def goesB (s : PC) : Nat → Bool
  | 0 => true
  | n + 1 => goesB s n && ((s.runN n).st != 5 && !((s.runN n).st == 1 && (s.runN n).md == 0))
theorem goesB_at {s : PC} : ∀ {n : Nat}, goesB s n = true → ∀ k, k < n → (s.runN k).st ≠ 5 ∧ WF (s.runN k)
  | 0, _, k, hk => by omega
  | n + 1, h, k, hk => by
    simp only [goesB, Bool.and_eq_true] at h
    by_cases e : k = n
    · subst e
      refine ⟨by simpa using h.2.1, fun e1 e2 => ?_⟩
      have := h.2.2
      rw [e1, e2] at this
      cases this
    · exact goesB_at h.1 k (by omega)
theorem k_goes (v1 v2 v3 v4 : Value) (R : Nat → Option Value) : goesB (kPC v1 v2 v3 v4 R) 9 = true := by kernel_rfl
theorem k_jams (v1 v2 v3 v4 : Value) (R : Nat → Option Value) : ((kPC v1 v2 v3 v4 R).runN 9).st = 5 := by kernel_rfl

/-- A computer run until it jams, by the kernel's reckoning. -/
theorem runs_by {B : Nat} {s : PC} {w0 w : World} (h : Tn B s w0 w) (most n : Nat) (hn : n < most) (hm : most ≤ 1000) (hg : goesB s n = true) (hj : (s.runN n).st = 5) :
    Calls Tryz.prog 15 #[.pointer (some ⟨B, 0, none⟩), .int .i64 most] w fun e w' => e = .returned (.tuple #[(s.runN n).regs.val, .bool true]) ∧ Tn B (s.runN n) w0 w' :=
  runs_any h most n hn hm (fun k hk => by
    by_cases e : k = n
    · subst e; intro e1; rw [hj] at e1; cases e1
    · exact (goesB_at hg k (by omega)).2) (fun k hk => (goesB_at hg k hk).1) hj

theorem CAt.beside {w w' : World} {B C : Nat} {s : PC} (h : CAt w B s) (g : w.grownBy w' (some C)) (hne : B ≠ C) : CAt w' B s := h.same (g.block B h.lt (by intro e; injection e with e; exact hne e))
theorem CAt.bel {w w' : World} {B : Nat} {s : PC} (h : CAt w B s) (g : Below w.heap.size w w') : CAt w' B s := h.same (g.block B h.lt)

theorem bytes_const (w : World) (l : List UInt8) (t : TypeId) (fr : Nat × Nat) : BytesAt (w.alloc (.cells (vals l).toArray t fr)) w.heap.size 0 l := by
  intro i hi
  have hb : (w.alloc (.cells (vals l).toArray t fr)).heap[w.heap.size]? = some (.cells (vals l).toArray t fr) := heap_alloc_new w _
  rw [Nat.zero_add]
  have : (w.alloc (.cells (vals l).toArray t fr)).cell? ⟨w.heap.size, i, none⟩ = (vals l).toArray[i]? := by unfold World.cell?; rw [hb]; rfl
  rw [this]; simp [vals, hi]

set_option maxRecDepth 100000 in
set_option maxHeartbeats 2000000 in
theorem known_any (w : World) : Calls Tryz.prog 4 #[] w fun e w' => e = .returned (.bool true) ∧ Below w.heap.size w w' := by
  have C1 := fun t => computer_ok (w.alloc (.cells (vals kCode).toArray t)) (.slice (some ⟨w.heap.size, 0, none⟩) 8 8) (.slice none 0 0) (.slice none 0 0) kCode [] [] ⟨_, _, rfl, fun _ => ⟨w.heap.size, 0, rfl, by simp, bytes_lit w kCode t⟩⟩ (ChV.none _ _) (ChV.none _ _) (by decide)
  have ec : (vals kCode).toArray = #[.int .u8 169, .int .u8 5, .int .u8 105, .int .u8 254, .int .u8 141, .int .u8 0, .int .u8 3, .int .u8 2] := rfl
  rw [ec] at C1
  clear ec
  go_enter Tryz.func4, Tryz.ntmps4
  go_wp2_with fail
  refine (C1 _).mono ?_
  rintro e w1 ⟨Bm, Rm, v4, hBm, rfl, hCm, hb1⟩
  have hS := hb1.size
  simp only [World.size_alloc] at hBm hS
  have HB1 : Hid (Below w.heap.size w w1) := ((Below.refl _ _).alloc (Nat.le_refl _) _).trans (hb1.mono (by simp))
  have HCm : Hid (CAt w1 Bm (kPC (.slice (some ⟨w.heap.size, 0, none⟩) 8 8) (.slice none 0 0) (.slice none 0 0) v4 Rm)) := hCm
  have N2 := newStub_ok 0 (.slice none 0 0) [] 0 w1 (Nat.zero_le _) ⟨_, _, rfl, fun h => absurd rfl h⟩ rfl (by decide) (by simp)
  clear hCm hb1 C1
  go_wp2_with fail
  refine N2.mono ?_
  rintro e w2 ⟨Bs, Rs, hBs, rfl, hCs, hR, hb2⟩
  have lm := HCm.out.lt
  have HCm2 : Hid (CAt w2 Bm (kPC (.slice (some ⟨w.heap.size, 0, none⟩) 8 8) (.slice none 0 0) (.slice none 0 0) v4 Rm)) := HCm.out.bel hb2
  have HB2 : Hid (Below w.heap.size w w2) := HB1.out.trans (hb2.mono (by omega))
  have HCs : Hid (CAt w2 Bs (.fresh 0 [] Rs) ∧ ZRest Rs) := ⟨hCs, hR⟩
  have l2 := hb2.size
  have RN := runs_by (Tn.refl HCm2.out) 20 9 (by decide) (by decide) (k_goes _ _ _ _ _) (k_jams _ _ _ _ _)
  rw [k_regs] at RN
  clear HCm HB1 hCs hR hb2 N2
  go_wp2_with fail
  refine RN.mono ?_
  rintro e w3 ⟨rfl, T3⟩
  have l3 := T3.g.size
  have ls := HCs.out.1.lt
  have HB3 : Hid (Below w.heap.size w w3) := below_grown HB2.out T3.g (by omega) (by omega)
  have HCs3 : Hid (CAt w3 Bs (.fresh 0 [] Rs)) := HCs.out.1.beside T3.g (by omega)
  have PK := fun o => mPeek_any (T3.alloc o) 768
  rw [k_peek] at PK
  have lm3 := T3.c.lt
  simp only [RegI.val]
  clear T3 RN HCm2
  have cv := fun (W : World) => Go.Lib.run_convert_bytes_const (P := Tryz.prog) W 22 5 #[.int .u8 36, .int .u8 48, .int .u8 48, .int .u8 103, .int .u8 35, .int .u8 99, .int .u8 55] 7 7 und_bytes und_u8
  have cv1 := fun (o : Obj) => cv (w3.alloc o)
  simp only [World.size_alloc] at cv1
  clear cv
  have FG := fun (o : Obj) (t : TypeId) => sFeedG_any (s := .fresh 0 [] Rs) (w := (w3.alloc o).alloc (.cells (vals gBytes).toArray t (7, 8))) ((HCs3.out.alloc (o := o)).alloc (o := .cells (vals gBytes).toArray t (7, 8))) (by show (0 : Int) ≤ 0; decide) HCs.out.2 (w3.alloc o).heap.size 0 7 (bytes_const (w3.alloc o) gBytes t (7, 8)) (by have := HCs3.out.lt; simp; omega)
  have ec : (vals gBytes).toArray = #[.int .u8 36, .int .u8 48, .int .u8 48, .int .u8 103, .int .u8 35, .int .u8 99, .int .u8 55] := rfl
  rw [ec] at FG
  simp only [World.size_alloc] at FG
  clear ec
  have HLen : Hid ((frameOf 0 (regText (.fresh 0 [] Rs))).length = 28) := frameG_len _ _
  generalize frameOf 0 (regText (.fresh 0 [] Rs)) = L at *
  have ls3 := HCs3.out.lt
  go_wp2_with (first | (go_at_call 16; refine (PK _).mono ?_; rintro e w' ⟨rfl, rfl⟩))
  refine (FG _ _).mono ?_
  rintro e w5 ⟨g, cap, rfl, hBy, hg, G5⟩
  have HG5 := Hid.mk' G5
  have b0 : w5.cell? ⟨g, 0, none⟩ = some (.int .u8 43) := hBy 0 (by simp)
  have hc5 : ∀ j, w5.cell? ⟨w3.heap.size, j, none⟩ = (#[.int .i64 3, .int .i64 0, .int .i64 0, .int .i64 253, .int .i64 37, .int .i64 1031, .int .i64 9, .bool true] : Array Value)[j]? :=
    fun j => (World.cell?_of_block (a := ⟨w3.heap.size, j, none⟩) ((G5.block _ (by simp; omega) (fun e => by injection e with e; exact absurd e (Nat.ne_of_gt HCs3.out.lt))).trans (Below.heap_alloc _ _ _ (by simp)))).trans (World.cell?_alloc_at _ _ _ _ rfl)
  have q0 : w5.cell? ⟨w3.heap.size, 0, none⟩ = some (.int .i64 3) := hc5 0
  have q4 : w5.cell? ⟨w3.heap.size, 4, none⟩ = some (.int .i64 37) := hc5 4
  have q5 : w5.cell? ⟨w3.heap.size, 5, none⟩ = some (.int .i64 1031) := hc5 5
  have q6 : w5.cell? ⟨w3.heap.size, 6, none⟩ = some (.int .i64 9) := hc5 6
  clear hc5 G5 hBy FG hg cv1 PK
  go_wp2
  go_ret
  exact ⟨rfl, below_grown ((HB3.out.alloc HB3.out.size _).alloc (by simp; omega) _) HG5.out (by omega) (by simp; omega)⟩
end

/-
  Two computers of one configuration are alike to the last cell; config's contract.
-/
section
theorem CAt.bare {w : World} {B : Nat} {s : PC} (h : CAt w B s) (R : Nat → Option Value) (e : ∀ o, 65562 ≤ o → s.rest o = R o) : CAt w B { s with rest := R } :=
  { h with crest := fun o ho => (h.crest o ho).trans (e o ho) }

theorem zero_mach2 : ∃ (z : Array Value), (∀ w : World, Sem.run Tryz.prog (zeroValue 93) w = .ok (.agg z) w) ∧ z.size = 65562 ∧ ∀ (w : World) (t : TypeId), CAt (w.alloc (.cells z t)) w.heap.size (zeroPC fun _ => none) := by
  obtain ⟨R, z, h1, h2, h3⟩ := zero_mach
  refine ⟨z, h1, h2, fun w t => (h3 w t).bare _ fun o ho => ?_⟩
  have q := (h3 w t).crest o ho
  rw [World.cell?_alloc_at _ _ _ _ rfl] at q
  rw [← q]
  simp [h2, ho]

set_option maxRecDepth 100000 in
set_option maxHeartbeats 1000000 in
theorem new_bare (N : Nat) (v : Value) (cs : List Chn) (rom : Int) (w : World) (hN : N ≤ w.heap.size) (hc : CfAt N w v cs) (hv : validI rom cs = true)
    (hl : cs.length ≤ 140737488355328) (hb : ∀ c ∈ cs, c.bs.length ≤ 140737488355328) :
    Calls Tryz.prog 7 #[.agg #[v, .int .i64 rom]] w fun e w' => ∃ B, w.heap.size ≤ B ∧ e = .returned (.tuple #[.pointer (some ⟨B, 0, none⟩), .int .i64 0]) ∧
      CAt w' B (.fresh rom cs fun _ => none) ∧ Below w.heap.size w w' := by
  obtain ⟨zz, hz, hzs, HZ⟩ := zero_mach2
  have hne : zz ≠ #[] := by intro e; rw [e] at hzs; cases hzs
  have S : ∀ (o : Obj) (t : TypeId), Calls Tryz.prog 18 #[.pointer (some ⟨w.heap.size + 1, 0, none⟩), .agg #[v, .int .i64 rom]] ((w.alloc o).alloc (.cells zz t)).drew fun e w' => e = .returned (.int .i64 0) ∧ Tn (w.heap.size + 1) (.fresh rom cs fun _ => none) ((w.alloc o).alloc (.cells zz t)) w' := by
    intro o t
    have q := start_ok (Tn.refl (HZ (w.alloc o) t)).drew N (by simp; omega) v cs rom ((hc.below (((Below.refl _ _).alloc (Nat.le_refl _) o).alloc (by simp) _)).below (bl_drew (Below.refl _ _))) hv hl hb
    rwa [show (w.alloc o).heap.size = w.heap.size + 1 from by simp] at q
  have HH : Hid (∀ (w : World) (t : TypeId), CAt (w.alloc (.cells zz t)) w.heap.size (zeroPC fun _ => none)) := HZ
  obtain ⟨p, cap, rfl, -⟩ := hc
  clear HZ
  go_enter Tryz.func7, Tryz.ntmps7
  go_wp2_with fail
  go_region_with (first | (go_at_call 18; refine (S _ _).mono ?_; rintro e w2 ⟨rfl, T2⟩; have HT : Hid (CAt w2 (w.heap.size + 1) (.fresh rom cs fun _ => none) ∧ Below w.heap.size w w2) := ⟨T2.c, below_grown (((Below.refl _ _).alloc (Nat.le_refl _) _).alloc (by simp) _) T2.g (by omega) (by simp; omega)⟩; clear T2 S))
  all_goals go_wp2
  all_goals go_ret2
  all_goals exact ⟨w.heap.size + 1, by omega, rfl, HT.out.1, HT.out.2⟩

/-- Traced's configuration. -/
def trCs (bs : List UInt8) (v1 v2 : Value) : List Chn := [⟨1024, v1, bs⟩, ⟨65530, v2, [128, 4, 0, 4, 192, 4]⟩]
def trPC (bs : List UInt8) : PC := .fresh 250 (trCs bs (.slice none 0 0) (.slice none 0 0)) fun _ => none
theorem trPC_eq (bs : List UInt8) (v1 v2 : Value) : PC.fresh 250 (trCs bs v1 v2) (fun _ => none) = trPC bs := rfl
theorem trPC_tr (bs : List UInt8) : TrI (trPC bs) 0 ∧ (trPC bs).rom = 64000 := ⟨.idle rfl rfl (by decide), rfl⟩
theorem tr_valid (bs : List UInt8) (h : bs.length ≤ 200) (v1 v2 : Value) : validI 250 (trCs bs v1 v2) = true := by
  unfold validI trCs total okChn
  simp
  omega

theorem ChV.take {N : Nat} {w : World} {p : Option Addr} {cap : Nat} {bs : List UInt8} (h : ChV N w (.slice p bs.length cap) bs) (hl : 200 ≤ bs.length) (cap' : Nat) : ChV N w (.slice p 200 cap') (bs.take 200) := by
  obtain ⟨p', c', e, H⟩ := h
  injection e with e1 e2 e3
  subst e1
  refine ⟨p, cap', by rw [List.length_take, Nat.min_eq_left hl], fun _ => ?_⟩
  obtain ⟨b, off, e4, hb, hB⟩ := H (by intro e; rw [e] at hl; exact absurd hl (by decide))
  refine ⟨b, off, e4, hb, fun i hi => ?_⟩
  rw [List.length_take] at hi
  rw [List.getElem_take]
  exact hB i (by omega)
end

/-
  config's contract.
-/
section
/-- Traced's configuration, as it lies when it is built. -/
theorem tr_cf (w : World) (v1 : Value) (bs : List UInt8) (hv : ChV w.heap.size w v1 bs) (o : Obj) (t : TypeId) :
    CfAt (w.heap.size + 3) (((w.alloc o).alloc (.cells #[.int .u8 128, .int .u8 4, .int .u8 0, .int .u8 4, .int .u8 192, .int .u8 4] 5)).alloc (.cells #[.int .i64 1024, v1, .int .i64 65530, .slice (some ⟨w.heap.size + 1, 0, none⟩) 6 6] t)) (.slice (some ⟨w.heap.size + 1 + 1, 0, none⟩) 2 2) (trCs bs v1 (.slice (some ⟨w.heap.size + 1, 0, none⟩) 6 6)) := by
  have hb3 : ∀ o1 o2 o3, Below w.heap.size w (((w.alloc o1).alloc o2).alloc o3) := fun o1 o2 o3 => (((Below.refl _ _).alloc (Nat.le_refl _) _).alloc (by simp) _).alloc (by simp; omega) _
  refine ⟨_, _, rfl, fun _ => ⟨w.heap.size + 1 + 1, 0, rfl, by omega, fun i hi => ?_⟩⟩
  have hc : ∀ (o1 o2 : Obj) (cs : Array Value) (t : TypeId) j, (((w.alloc o1).alloc o2).alloc (.cells cs t)).cell? ⟨w.heap.size + 1 + 1, j, none⟩ = cs[j]? := fun o1 o2 cs t j => by
    have hs : ((w.alloc o1).alloc o2).heap.size = w.heap.size + 1 + 1 := by simp
    rw [← hs]; exact World.cell?_alloc_at _ _ _ _ rfl
  have hi2 : i < 2 := hi
  rcases (show i = 0 ∨ i = 1 from by omega) with rfl | rfl
  · exact ⟨hc _ _ _ _ _, hc _ _ _ _ _, (hv.below (hb3 _ _ _)).mono (by omega)⟩
  · refine ⟨hc _ _ _ _ _, hc _ _ _ _ _, ⟨_, _, rfl, fun _ => ⟨w.heap.size + 1, 0, rfl, by omega, ?_⟩⟩⟩
    have q := bytes_lit (w.alloc o) [128, 4, 0, 4, 192, 4] 5
    rw [World.size_alloc] at q
    exact bytes_alloc q (by simp) _

set_option maxRecDepth 100000 in
set_option maxHeartbeats 1000000 in
theorem config_any (w : World) (p : Option Addr) (cap : Nat) (bs : List UInt8) (hV : ChV w.heap.size w (.slice p bs.length cap) bs) (hcap : bs.length ≤ cap) (hc2 : cap ≤ 140737488355328) :
    Calls Tryz.prog 6 #[.slice p bs.length cap] w fun e w' => ∃ b v1 v2, e = .returned (.agg #[.slice (some ⟨b, 0, none⟩) 2 2, .int .i64 250]) ∧ CfAt w'.heap.size w' (.slice (some ⟨b, 0, none⟩) 2 2) (trCs (bs.take 200) v1 v2) ∧ Below w.heap.size w w' := by
  by_cases h : 200 < bs.length
  · obtain ⟨p', c', e, H⟩ := id hV
    injection e with e1 e2 e3
    subst e1
    obtain ⟨b, off, rfl, hb, hB⟩ := H (by intro e; rw [e] at h; exact absurd h (by decide))
    have HV := Hid.mk' (hV.take (by omega) cap)
    clear H hB hV e2 e3
    go_enter Tryz.func6, Tryz.ntmps6
    go_wp2
    refine bodyPost_ret (v := .agg #[.slice (some ⟨w.heap.size + 1 + 1, 0, none⟩) 2 2, .int .i64 250]) (by simp [results, Tryz.results6, go_sem, *]) rfl ?_
    exact ⟨_, _, _, rfl, by have q := tr_cf w _ _ HV.out (.cells #[.slice (some ⟨w.heap.size + 1 + 1, 0, none⟩) 2 2, .int .i64 250] 31) 91; simpa only [World.size_alloc] using q, (((Below.refl _ _).alloc (Nat.le_refl _) _).alloc (by simp) _).alloc (by simp; omega) _⟩
  · have HV := Hid.mk' hV
    clear hV
    go_enter Tryz.func6, Tryz.ntmps6
    go_wp2
    refine bodyPost_ret (v := .agg #[.slice (some ⟨w.heap.size + 1 + 1, 0, none⟩) 2 2, .int .i64 250]) (by simp [results, Tryz.results6, go_sem, *]) rfl ?_
    exact ⟨_, _, _, rfl, by have q := tr_cf w _ _ HV.out (.cells #[.slice (some ⟨w.heap.size + 1 + 1, 0, none⟩) 2 2, .int .i64 250] 31) 91; rw [List.take_of_length_le (by omega)]; simpa only [World.size_alloc] using q, (((Below.refl _ _).alloc (Nat.le_refl _) _).alloc (by simp) _).alloc (by simp; omega) _⟩
end

end Go.Proofs.YtcgjliflnnklnabGreat
