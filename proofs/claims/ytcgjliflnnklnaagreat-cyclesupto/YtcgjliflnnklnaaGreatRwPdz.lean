/-
  The law Cycles, walked: a step of a computer.
-/
import Derived.Test.YtcgjliflnnklnaaGreatJ13
import Derived.Deep.RegionHeld3
import Derived.Deep.Cut
namespace Go.Proofs.YtcgjliflnnklnaaGreat
open Go.RowKit
set_option maxRecDepth 100000
set_option maxHeartbeats 8000000

def opW (k a b : Int) (S : BA) (n q : Bool) (ca : Option Addr) (cl cc : Nat) (rom : Int) : Array Value := #[.int .i64 k, .int .i64 a, .int .i64 b, .string S, .bool n, .bool q, .slice ca cl cc, .int .i64 rom]

/-- What a step of a computer leaves. -/
def Ran (w : World) (base B R M : Nat) (vh : Value) (w' : World) : Prop := ∃ s' t' vh', Pair w' base B R M s' t' vh' ∧ Four B R M vh.ownBlock w w' ∧ ∀ g, vh'.ownBlock = some g → vh.ownBlock = some g ∨ w.heap.size ≤ g

theorem Ran.below {w w1 w2 : World} {base B R M : Nat} {vh : Value} (h : Ran w base B R M vh w1) (hb : Below w1.heap.size w1 w2) : Ran w base B R M vh w2 := by
  obtain ⟨s', t', vh', p, f, o⟩ := h
  exact ⟨s', t', vh', p.kept hb, f.trans (Four.below hb), o⟩

theorem runs_cycle (w : World) (base B R M : Nat) (s : PC) (t : RS) (vh : Value) (h : Pair w base B R M s t vh) (hbs : base ≤ w.heap.size) (a b : Int) (S : BA) (n q : Bool) (ca : Option Addr) (cl cc : Nat) (rom : Int) (hb1 : -9223372036854775808 ≤ b) (hb2 : b ≤ 9223372036854775807) :
    Calls Tryz.prog 42 #[.agg (opW 2 a b S n q ca cl cc rom), .agg #[.pointer (some ⟨B, 0, none⟩), .pointer (some ⟨R, 0, none⟩)]] w fun e w' => e = .returned (.bool true) ∧ Ran w base B R M vh w' := by
  have lB := h.x.lt
  have lR := h.y.lt
  have lM := h.y.ltM
  have HG : Hid (∀ g, vh.ownBlock = some g → g < w.heap.size) := fun g hg => (h.o.o.lt g hg).2
  have PK := fun w => pickL b 300 w (by decide) (by decide) hb1 hb2
  unfold opW
  go_enter Tryz.func42, Tryz.ntmps42
  go_wp2_with (first | (go_at_call 43; refine (PK _).mono ?_; rintro e w1 ⟨⟨r0, hr0, rfl⟩, rfl⟩))
  have hO : Blk ((w.alloc (.cells #[.int .i64 2, .int .i64 a, .int .i64 b, .string S, .bool n, .bool q, .slice ca cl cc, .int .i64 rom] 29)).alloc (.cells #[.pointer (some ⟨B, 0, none⟩), .pointer (some ⟨R, 0, none⟩)] 134)) w.heap.size #[.int .i64 2, .int .i64 a, .int .i64 b, .string S, .bool n, .bool q, .slice ca cl cc, .int .i64 rom] 29 := (Blk.new w _ _).alloc _
  have hQ : Blk ((w.alloc (.cells #[.int .i64 2, .int .i64 a, .int .i64 b, .string S, .bool n, .bool q, .slice ca cl cc, .int .i64 rom] 29)).alloc (.cells #[.pointer (some ⟨B, 0, none⟩), .pointer (some ⟨R, 0, none⟩)] 134)) (w.heap.size + 1) #[.pointer (some ⟨B, 0, none⟩), .pointer (some ⟨R, 0, none⟩)] 134 := blk_new' _ _ _ _ (by simp)
  have hL : Below w.heap.size w ((w.alloc (.cells #[.int .i64 2, .int .i64 a, .int .i64 b, .string S, .bool n, .bool q, .slice ca cl cc, .int .i64 rom] 29)).alloc (.cells #[.pointer (some ⟨B, 0, none⟩), .pointer (some ⟨R, 0, none⟩)] 134)) := ((Below.refl _ _).alloc (Nat.le_refl _) _).alloc (by simp) _
  generalize (w.alloc (.cells #[.int .i64 2, .int .i64 a, .int .i64 b, .string S, .bool n, .bool q, .slice ca cl cc, .int .i64 rom] 29)).alloc (.cells #[.pointer (some ⟨B, 0, none⟩), .pointer (some ⟨R, 0, none⟩)] 134) = W at *
  have HW : Hid (Blk W w.heap.size #[.int .i64 2, .int .i64 a, .int .i64 b, .string S, .bool n, .bool q, .slice ca cl cc, .int .i64 rom] 29 ∧ Blk W (w.heap.size + 1) #[.pointer (some ⟨B, 0, none⟩), .pointer (some ⟨R, 0, none⟩)] 134 ∧ Below w.heap.size w W ∧ w.heap.size + 1 < W.heap.size) := ⟨hO, hQ, hL, hQ.lt⟩
  have HP : Hid (Pair W base B R M s t vh) := h.kept hL
  clear h hO hQ hL
  go_loopw [5] (fun i wr => ∃ m : Int, -1 ≤ m ∧ m ≤ 300 ∧ i = .int .i64 m ∧ Ran W base B R M vh wr) (fun i _ => ((intOf i) + 1).toNat)
  case atStart => exact ⟨(r0 : Int), by omega, by omega, rfl, s, t, vh, HP.out, Four.refl _ _ _ _ _, fun g hg => .inl hg⟩
  case round =>
    clear HP
    obtain ⟨m, hm1, hm2, rfl, hR⟩ := hrel
    have HR : Hid (Ran W base B R M vh wr) := hR
    clear hR
    by_cases hlt : 0 ≤ m
    · obtain ⟨s', t', vh', hP, hF, hown⟩ := HR.out
      have hW := HW.out
      have k1 : w.heap.size ≠ B := by omega
      have k2 : w.heap.size ≠ R := by omega
      have k3 : w.heap.size ≠ M := by omega
      have k4 : w.heap.size + 1 ≠ B := by omega
      have k5 : w.heap.size + 1 ≠ R := by omega
      have k6 : w.heap.size + 1 ≠ M := by omega
      have k7 : ∀ g, vh'.ownBlock = some g → w.heap.size ≠ g ∧ w.heap.size + 1 ≠ g := fun g hg => by
        rcases hown g hg with z | z
        · have := HG.out g z; omega
        · have := hW.2.2.2; omega
      have hO1 := hW.1.by4 hF k1 k2 k3 (fun e => by have := HG.out _ e.symm; omega)
      have hQ1 := hW.2.1.by4 hF k4 k5 k6 (fun e => by have := HG.out _ e.symm; omega)
      have HX := mCycle_any (Tn.refl hP.x) n q (md_alike hP.al)
      have HY := fun (w1 : World) (o : Obj) (hT : Tn B (cycV s' n q).1 wr w1) => rcycle_all (s := s') (nmi := n) (irq := q) (base := base) ((TM.refl (hP.half hT).1).alloc o).c ((hP.half hT).2.kept ((TM.refl (hP.half hT).1).alloc o).g) (by have h1 := hT.g.size; have h2 := hF.size; have h3 := hW.2.2.1.size; simp; omega) hP.al (rn_cat hP.x)
      have HC : Hid (Pair wr base B R M s' t' vh' ∧ Four B R M vh.ownBlock W wr ∧ ∀ g, vh'.ownBlock = some g → vh.ownBlock = some g ∨ W.heap.size ≤ g) := ⟨hP, hF, hown⟩
      have lw : W.heap.size ≤ wr.heap.size := hF.size
      clear HR hP hF hown
      generalize (cycV s' n q).1 = sX at *
      generalize (cycV s' n q).2.1 = bx at *
      generalize (cycV s' n q).2.2 = ox at *
      have SB := fun w => sameBus_same bx w
      unfold BusI.val at HX HY SB
      have o4 : wr.cell? ⟨w.heap.size, 4, none⟩ = some (.bool n) := hO1.cell 4
      have o5 : wr.cell? ⟨w.heap.size, 5, none⟩ = some (.bool q) := hO1.cell 5
      have q0 : wr.cell? ⟨w.heap.size + 1, 0, none⟩ = some (.pointer (some ⟨B, 0, none⟩)) := hQ1.cell 0
      go_wp2_with fail
      refine HX.mono ?_
      rintro e w1 ⟨rfl, hT1⟩
      clear o4 o5 q0 HX
      have f1 : Four B R M vh'.ownBlock wr w1 := Four.tn hT1.g
      have hO2 := hO1.by4 f1 k1 k2 k3 (fun e => (k7 _ e.symm).1 rfl)
      have hQ2 := hQ1.by4 f1 k4 k5 k6 (fun e => (k7 _ e.symm).2 rfl)
      have HY2 := HY w1 (.cells #[.int .i64 bx.addr, .int .i64 bx.data, .bool bx.wr, .bool bx.ft] 53) hT1
      have o4 : w1.cell? ⟨w.heap.size, 4, none⟩ = some (.bool n) := hO2.cell 4
      have o5 : w1.cell? ⟨w.heap.size, 5, none⟩ = some (.bool q) := hO2.cell 5
      have q1 : w1.cell? ⟨w.heap.size + 1, 1, none⟩ = some (.pointer (some ⟨R, 0, none⟩)) := hQ2.cell 1
      have l1 := hO2.lt
      have l2 := hQ2.lt
      go_wp2_with fail
      refine HY2.mono ?_
      rintro e w2 ⟨rfl, t2, vh2, al2, y2, ov2, tri2, own2⟩
      clear o4 o5 q1 HY HY2
      have hA2 := (Blk.new w1 #[.int .i64 bx.addr, .int .i64 bx.data, .bool bx.wr, .bool bx.ft] 53).same (tri2.block w1.heap.size (by simp) (by omega) (by omega) (fun e => by have := HC.out.1.o.o.lt _ e.symm; have := f1.size; omega))
      obtain ⟨y0, y1, y3, y4, -, yl⟩ := hA2.four
      go_wp2_with fail
      refine (SB _).mono ?_
      rintro e w3 ⟨rfl, hb3⟩
      have hsz : (w1.alloc (.cells #[.int .i64 bx.addr, .int .i64 bx.data, .bool bx.wr, .bool bx.ft] 53)).heap.size = w1.heap.size + 1 := World.size_alloc _ _
      have HN : Hid (Ran W base B R M vh w3) := by
        obtain ⟨hP, hF, hown⟩ := HC.out
        have f2 : Four B R M vh'.ownBlock wr w2 := (f1.trans (Four.below ((Below.refl _ _).alloc (Nat.le_refl _) _))).trans (Four.tri tri2)
        have f3 : Four B R M vh'.ownBlock w2 w3 := (Four.below ((Below.refl _ _).alloc (Nat.le_refl _) _)).trans (Four.below hb3)
        have lx := hT1.c.lt
        have x2 : CAt w2 B sX := (hT1.c.same (Below.heap_alloc _ _ _ lx)).same (tri2.block B (by rw [hsz]; omega) hP.nr hP.nm (fun e => hP.nv _ e.symm rfl))
        have p2 : Pair w2 base B R M sX t2 vh2 := ⟨x2, y2, ov2, al2, hP.nr, hP.nm, fun g hg => by
          rcases own2 g hg with z | z
          · exact hP.nv g z
          · rw [hsz] at z; omega⟩
        have p3 := (p2.kept ((Below.refl _ _).alloc (Nat.le_refl _) _)).kept hb3
        refine ⟨sX, t2, vh2, p3, hF.row (f2.trans f3) hown, fun g hg => ?_⟩
        rcases own2 g hg with z | z
        · exact hown g z
        · rw [hsz] at z; exact .inr (by have := f1.size; omega)
      clear hb3 y2 ov2 al2 tri2 own2 hA2 y0 y1 y3 y4 yl SB HC hT1 f1 hO1 hO2 hQ1 hQ2
      go_wp2_with fail
      go_roundw
      case rel => exact ⟨m - 1, by omega, by omega, by go_num, HN.out⟩
      case measure => simp [intOf]; omega
    · have HE : Hid (Ran w base B R M vh wr) := by
        obtain ⟨s', t', vh', p, f, o⟩ := HR.out
        have hs := HW.out.2.2.1.size
        exact ⟨s', t', vh', p, (Four.below (HW.out.2.2.1)).trans f, fun g hg => (o g hg).imp id (fun z => by omega)⟩
      clear HR
      go_wp2
      go_ret
      exact ⟨rfl, HE.out⟩

theorem regs_alike {s : PC} {t : RS} (H : Alike s t) : s.regs.val = t.r.val := by
  have b := H.way.beh
  have j := alike_jam s t H
  unfold PC.regs RegI.val RG.val
  dsimp only
  rw [b.a, b.x, b.y, b.sp, b.p, b.pc, H.cyc, j]
theorem peek_alike {s : PC} {t : RS} (H : Alike s t) (b : Int) : s.peek b = t.peek (b % 65536) := by
  unfold PC.peek PC.look RS.peek
  rw [H.cnt, H.calls, H.mem]

theorem runs_peek (w : World) (base B R M : Nat) (s : PC) (t : RS) (vh : Value) (h : Pair w base B R M s t vh) (a b : Int) (S : BA) (n q : Bool) (ca : Option Addr) (cl cc : Nat) (rom : Int) :
    Calls Tryz.prog 42 #[.agg (opW 4 a b S n q ca cl cc rom), .agg #[.pointer (some ⟨B, 0, none⟩), .pointer (some ⟨R, 0, none⟩)]] w fun e w' => e = .returned (.bool true) ∧ Ran w base B R M vh w' := by
  have hL : Below w.heap.size w ((w.alloc (.cells #[.int .i64 4, .int .i64 a, .int .i64 b, .string S, .bool n, .bool q, .slice ca cl cc, .int .i64 rom] 29)).alloc (.cells #[.pointer (some ⟨B, 0, none⟩), .pointer (some ⟨R, 0, none⟩)] 134)) := ((Below.refl _ _).alloc (Nat.le_refl _) _).alloc (by simp) _
  have hP := h.kept hL
  have HX := mPeek_any (Tn.refl hP.x) b
  have HY := rpeek (TM.refl hP.y) b
  rw [peek_alike hP.al b] at HX
  have HE : Hid (Ran w base B R M vh ((w.alloc (.cells #[.int .i64 4, .int .i64 a, .int .i64 b, .string S, .bool n, .bool q, .slice ca cl cc, .int .i64 rom] 29)).alloc (.cells #[.pointer (some ⟨B, 0, none⟩), .pointer (some ⟨R, 0, none⟩)] 134))) := ⟨s, t, vh, hP, Four.below hL, fun g hg => .inl hg⟩
  generalize t.peek (b % 65536) = v at *
  clear h hP hL
  unfold opW
  go_enter Tryz.func42, Tryz.ntmps42
  go_wp2_with (first | (go_at_call 21; refine HX.mono ?_; rintro e w1 ⟨rfl, rfl⟩) | (go_at_call 67; refine HY.mono ?_; rintro e w1 ⟨rfl, rfl⟩))
  go_ret
  exact ⟨by simp, HE.out⟩

theorem runs_regs (w : World) (base B R M : Nat) (s : PC) (t : RS) (vh : Value) (h : Pair w base B R M s t vh) (a b : Int) (S : BA) (n q : Bool) (ca : Option Addr) (cl cc : Nat) (rom : Int) :
    Calls Tryz.prog 42 #[.agg (opW 3 a b S n q ca cl cc rom), .agg #[.pointer (some ⟨B, 0, none⟩), .pointer (some ⟨R, 0, none⟩)]] w fun e w' => e = .returned (.bool true) ∧ Ran w base B R M vh w' := by
  have hL : Below w.heap.size w ((w.alloc (.cells #[.int .i64 3, .int .i64 a, .int .i64 b, .string S, .bool n, .bool q, .slice ca cl cc, .int .i64 rom] 29)).alloc (.cells #[.pointer (some ⟨B, 0, none⟩), .pointer (some ⟨R, 0, none⟩)] 134)) := ((Below.refl _ _).alloc (Nat.le_refl _) _).alloc (by simp) _
  have hQ : Blk ((w.alloc (.cells #[.int .i64 3, .int .i64 a, .int .i64 b, .string S, .bool n, .bool q, .slice ca cl cc, .int .i64 rom] 29)).alloc (.cells #[.pointer (some ⟨B, 0, none⟩), .pointer (some ⟨R, 0, none⟩)] 134)) (w.heap.size + 1) #[.pointer (some ⟨B, 0, none⟩), .pointer (some ⟨R, 0, none⟩)] 134 := blk_new' _ _ _ _ (by simp)
  have hP := h.kept hL
  have HX := mRegs_any (Tn.refl hP.x)
  rw [regs_alike hP.al] at HX
  unfold RG.val at HX
  have HY := fun w' (hb : Below ((w.alloc (.cells #[.int .i64 3, .int .i64 a, .int .i64 b, .string S, .bool n, .bool q, .slice ca cl cc, .int .i64 rom] 29)).alloc (.cells #[.pointer (some ⟨B, 0, none⟩), .pointer (some ⟨R, 0, none⟩)] 134)).heap.size ((w.alloc (.cells #[.int .i64 3, .int .i64 a, .int .i64 b, .string S, .bool n, .bool q, .slice ca cl cc, .int .i64 rom] 29)).alloc (.cells #[.pointer (some ⟨B, 0, none⟩), .pointer (some ⟨R, 0, none⟩)] 134)) w') => rregs (TM.refl (hP.kept hb).y)
  have SR := fun w => sameRegs_same t.r w
  unfold RG.val at HY SR
  have HP : Hid (Pair ((w.alloc (.cells #[.int .i64 3, .int .i64 a, .int .i64 b, .string S, .bool n, .bool q, .slice ca cl cc, .int .i64 rom] 29)).alloc (.cells #[.pointer (some ⟨B, 0, none⟩), .pointer (some ⟨R, 0, none⟩)] 134)) base B R M s t vh ∧ Below w.heap.size w ((w.alloc (.cells #[.int .i64 3, .int .i64 a, .int .i64 b, .string S, .bool n, .bool q, .slice ca cl cc, .int .i64 rom] 29)).alloc (.cells #[.pointer (some ⟨B, 0, none⟩), .pointer (some ⟨R, 0, none⟩)] 134))) := ⟨hP, hL⟩
  clear h hP hL
  unfold opW
  go_enter Tryz.func42, Tryz.ntmps42
  go_wp2_with fail
  refine HX.mono ?_
  rintro e w1 ⟨rfl, hb1⟩
  have hQ1 := hQ.below hb1
  have q1 : w1.cell? ⟨w.heap.size + 1, 1, none⟩ = some (.pointer (some ⟨R, 0, none⟩)) := hQ1.cell 1
  have l1 := hQ1.lt
  go_upto_region 14 with fail
  have hA := Blk.new w1 #[.int .i64 t.r.A, .int .i64 t.r.X, .int .i64 t.r.Y, .int .i64 t.r.S, .int .i64 t.r.P, .int .i64 t.r.PC, .int .i64 t.r.cyc, .bool t.r.jam] 37
  have hQ2 := hQ1.alloc (.cells #[.int .i64 t.r.A, .int .i64 t.r.X, .int .i64 t.r.Y, .int .i64 t.r.S, .int .i64 t.r.P, .int .i64 t.r.PC, .int .i64 t.r.cyc, .bool t.r.jam] 37)
  have hW2 : Below ((w.alloc (.cells #[.int .i64 3, .int .i64 a, .int .i64 b, .string S, .bool n, .bool q, .slice ca cl cc, .int .i64 rom] 29)).alloc (.cells #[.pointer (some ⟨B, 0, none⟩), .pointer (some ⟨R, 0, none⟩)] 134)).heap.size ((w.alloc (.cells #[.int .i64 3, .int .i64 a, .int .i64 b, .string S, .bool n, .bool q, .slice ca cl cc, .int .i64 rom] 29)).alloc (.cells #[.pointer (some ⟨B, 0, none⟩), .pointer (some ⟨R, 0, none⟩)] 134)) (w1.alloc (.cells #[.int .i64 t.r.A, .int .i64 t.r.X, .int .i64 t.r.Y, .int .i64 t.r.S, .int .i64 t.r.P, .int .i64 t.r.PC, .int .i64 t.r.cyc, .bool t.r.jam] 37)) := hb1.trans (((Below.refl _ _).alloc (Nat.le_refl _) _).mono hb1.size)
  generalize w1.alloc (.cells #[.int .i64 t.r.A, .int .i64 t.r.X, .int .i64 t.r.Y, .int .i64 t.r.S, .int .i64 t.r.P, .int .i64 t.r.PC, .int .i64 t.r.cyc, .bool t.r.jam] 37) = W2 at *
  generalize w1.heap.size = A0 at *
  have HW2 : Hid (Below ((w.alloc (.cells #[.int .i64 3, .int .i64 a, .int .i64 b, .string S, .bool n, .bool q, .slice ca cl cc, .int .i64 rom] 29)).alloc (.cells #[.pointer (some ⟨B, 0, none⟩), .pointer (some ⟨R, 0, none⟩)] 134)).heap.size ((w.alloc (.cells #[.int .i64 3, .int .i64 a, .int .i64 b, .string S, .bool n, .bool q, .slice ca cl cc, .int .i64 rom] 29)).alloc (.cells #[.pointer (some ⟨B, 0, none⟩), .pointer (some ⟨R, 0, none⟩)] 134)) W2) := hW2
  have x0 : W2.cell? ⟨A0, 0, none⟩ = some (.int .i64 t.r.A) := hA.cell 0
  have x1 : W2.cell? ⟨A0, 1, none⟩ = some (.int .i64 t.r.X) := hA.cell 1
  have x2 : W2.cell? ⟨A0, 2, none⟩ = some (.int .i64 t.r.Y) := hA.cell 2
  have x3 : W2.cell? ⟨A0, 3, none⟩ = some (.int .i64 t.r.S) := hA.cell 3
  have x4 : W2.cell? ⟨A0, 4, none⟩ = some (.int .i64 t.r.P) := hA.cell 4
  have x5 : W2.cell? ⟨A0, 5, none⟩ = some (.int .i64 t.r.PC) := hA.cell 5
  have x6 : W2.cell? ⟨A0, 6, none⟩ = some (.int .i64 t.r.cyc) := hA.cell 6
  have x7 : W2.cell? ⟨A0, 7, none⟩ = some (.bool t.r.jam) := hA.cell 7
  have lA := hA.lt
  have q2 : W2.cell? ⟨w.heap.size + 1, 1, none⟩ = some (.pointer (some ⟨R, 0, none⟩)) := hQ2.cell 1
  have lQ := hQ2.lt
  clear HX hb1 q1 l1 hA hQ hQ1 hQ2 hW2
  go_region_held3 (fun w' => w'.cell? ⟨A0, 0, none⟩ = some (.int .i64 t.r.A) ∧ w'.cell? ⟨A0, 1, none⟩ = some (.int .i64 t.r.X) ∧ w'.cell? ⟨A0, 2, none⟩ = some (.int .i64 t.r.Y) ∧ w'.cell? ⟨A0, 3, none⟩ = some (.int .i64 t.r.S) ∧ w'.cell? ⟨A0, 4, none⟩ = some (.int .i64 t.r.P) ∧ w'.cell? ⟨A0, 5, none⟩ = some (.int .i64 t.r.PC) ∧ w'.cell? ⟨A0, 6, none⟩ = some (.int .i64 t.r.cyc) ∧ w'.cell? ⟨A0, 7, none⟩ = some (.bool t.r.jam) ∧ w'.cell? ⟨w.heap.size + 1, 1, none⟩ = some (.pointer (some ⟨R, 0, none⟩))) (go_keep) (first | (go_at_call 66; refine (HY _ HW2.out.drew).mono ?_; rintro e w5 ⟨rfl, hb5⟩; obtain ⟨cA, fA, sz5, bl5⟩ := held_r hb5; have k0 := (cA _ 0 lA).trans x0; have k1 := (cA _ 1 lA).trans x1; have k2 := (cA _ 2 lA).trans x2; have k3 := (cA _ 3 lA).trans x3; have k4 := (cA _ 4 lA).trans x4; have k5 := (cA _ 5 lA).trans x5; have k6 := (cA _ 6 lA).trans x6; have k7 := (cA _ 7 lA).trans x7; have kq := (cA _ 1 lQ).trans q2; have lA3 := Nat.lt_of_lt_of_le lA sz5; have lQ3 := Nat.lt_of_lt_of_le lQ sz5; have HB5 : Hid (Below W2.heap.size W2 w5) := bl5; clear hb5 cA fA bl5 sz5) | (go_at_call 65; refine (SR _).mono ?_; rintro e w6 ⟨rfl, hb4⟩; have j0 := (hb4.cell (p := ⟨A0, 0, none⟩) lA3).trans k0; have j1 := (hb4.cell (p := ⟨A0, 1, none⟩) lA3).trans k1; have j2 := (hb4.cell (p := ⟨A0, 2, none⟩) lA3).trans k2; have j3 := (hb4.cell (p := ⟨A0, 3, none⟩) lA3).trans k3; have j4 := (hb4.cell (p := ⟨A0, 4, none⟩) lA3).trans k4; have j5 := (hb4.cell (p := ⟨A0, 5, none⟩) lA3).trans k5; have j6 := (hb4.cell (p := ⟨A0, 6, none⟩) lA3).trans k6; have j7 := (hb4.cell (p := ⟨A0, 7, none⟩) lA3).trans k7; have jq := (hb4.cell (p := ⟨w.heap.size + 1, 1, none⟩) lQ3).trans kq; have HB6 : Hid (Below W2.heap.size W2 w6) := HB5.out.trans (hb4.mono HB5.out.size); clear hb4))
  all_goals
    have HE : Hid (Ran w base B R M vh w6) := by
      obtain ⟨hP, hL⟩ := HP.out
      have h2 := hP.kept (HW2.out.trans (HB6.out.mono HW2.out.size))
      exact ⟨s, t, vh, h2, (Four.below hL).trans (Four.below (HW2.out.trans (HB6.out.mono HW2.out.size))), fun g hg => .inl hg⟩
    clear HB6 HB5 HP HY SR HW2
    go_wp2
    go_ret
    exact ⟨rfl, HE.out⟩

end Go.Proofs.YtcgjliflnnklnaaGreat
