/-
  Joined texts.
-/
import Derived.Deep.RegionHeld3
import Derived.Test.YtcgjliflnnklnaaGreatJ14
import Derived.Test.YtcgjliflnnklnaaGreatJ02
import Derived.Test.YtcgjliflnnklnaaGreatJ01
namespace Go.Proofs.YtcgjliflnnklnaaGreat
open Go.RowKit

/-
  A cycle, registers and a look: the program's calls of a computer.
-/
section
set_option maxRecDepth 100000
set_option maxHeartbeats 4000000

theorem jammed_any {B : Nat} {s : PC} {w0 w : World} (h : Tn B s w0 w) :
    Calls Tryz.prog 53 #[.pointer (some ⟨B, 0, none⟩)] w fun e w' => e = .returned (.bool (s.st == 5)) ∧ w' = w := by
  have c_st := h.c.cst
  go_enter Tryz.func53, Tryz.ntmps53
  go_wp2
  go_ret
  exact ⟨rfl, rfl⟩

theorem cycle_jam {B : Nat} {s : PC} {w0 w : World} (h : Tn B s w0 w) (nmi irq : Bool) (h5 : s.st = 5) :
    Calls Tryz.prog 35 #[.pointer (some ⟨B, 0, none⟩), .bool nmi, .bool irq] w fun e w' => e = .returned (.tuple #[BusI.val ⟨0, 0, false, false⟩, .bool false]) ∧ Tn B s w0 w' := by
  have hlt := h.c.lt
  have hsz := h.g.size
  have k0 := Ck.mk' h (R := w.heap.size) rfl
  obtain ⟨⟨rr0, rr1, rr2, rr3⟩, g1, g2, g3, g4, g5, g6, g7, g8, g9, g10⟩ := k0.facts
  have j := jammed_any k0.t
  rw [h5] at j
  go_enter Tryz.func35, Tryz.ntmps35
  go_wp2_with (first | (go_at_call 53; refine j.mono ?_; rintro e w' ⟨rfl, rfl⟩))
  refine bodyPost_ret (v := .tuple #[BusI.val ⟨0, 0, false, false⟩, .bool false]) (by simp [results, Tryz.results35, go_sem, BusI.val, *]) rfl (And.intro rfl ?_)
  apply Tn.eq; (case h => repeat (first | with_reducible exact h | with_reducible apply Tn.drew | with_reducible apply Tn.drewN | with_reducible apply Tn.alloc | ((with_reducible apply Tn.other); (case hne => omega); (case hb => omega)))); (case e => rfl)

theorem wr_cyc (s : PC) (v : Int) : ({ s with cyc := IntKind.wrap .i64 v } : PC) = { s with cyc := wrap64 v } := by rw [wrap64_eq]

theorem cycle_go {B : Nat} {s : PC} {w0 w : World} (h : Tn B s w0 w) (nmi irq : Bool) (h5 : s.st ≠ 5) (hm : s.st = 1 → s.md ≠ 0) :
    Calls Tryz.prog 35 #[.pointer (some ⟨B, 0, none⟩), .bool nmi, .bool irq] w fun e w' => e = .returned (.tuple #[(s.cycle nmi irq).2.val, .bool true]) ∧ Tn B (s.cycle nmi irq).1 w0 w' := by
  have hlt := h.c.lt
  have hsz := h.g.size
  have n0 : w.heap.size ≠ B := by omega
  have m0 : B ≠ w.heap.size := by omega
  have k0 := Ck.mk' h (R := w.heap.size) rfl
  obtain ⟨⟨rr0, rr1, rr2, rr3⟩, g1, g2, g3, g4, g5, g6, g7, g8, g9, g10⟩ := k0.facts
  have j := jammed_any k0.t
  rw [show (s.st == 5) = false from by simpa using h5] at j
  have con := h.c.cnmiOn
  have cdue := h.c.cnmiDue
  have fz0 := h.c.free
  obtain ⟨b, T9, hR⟩ : ∃ b T9, Hid (s.cycle nmi irq = ({ (T9 : PC) with cyc := wrap64 (T9.cyc + 1) }, b) ∧ b = ((s.pins nmi).turn irq).2 ∧ T9 = ((s.pins nmi).turn irq).1.ends b) := ⟨_, _, by rw [pc_cycle, wr_cyc], rfl, rfl⟩
  obtain ⟨ba, bd, bw, bf⟩ := b
  have hP : Hid ((s.pins nmi).st = s.st ∧ (s.pins nmi).md = s.md) := ⟨rfl, rfl⟩
  cases nmi
  · have k1 := Ck.mk' (Tn.eq (h.setNmiOn false) (show ({ s with nmiOn := false } : PC) = s.pins false from by unfold PC.pins; simp)) (R := w.heap.size) (by simp)
    go_enter Tryz.func35, Tryz.ntmps35
    go_wp2_with (first | (go_at_call 53; refine j.mono ?_; rintro e w' ⟨rfl, rfl⟩))
    refine (Ck.call k1 (fun h => turn_any h irq (by rw [hP.out.1]; exact h5) (by rw [hP.out.1, hP.out.2]; exact hm))).mono ?_
    rintro e w1 ⟨rfl, k2, q1, q2, zz⟩
    rw [← hR.out.2.1]
    have hT : Hid (T9 = ((s.pins false).turn irq).1.ends ⟨ba, bd, bw, bf⟩) := hR.out.2.2
    generalize hS : ((s.pins false).turn irq).1 = S at *
    clear q1 q2 zz k1 j rr0 rr1 rr2 rr3 g1 g2 g3 g4 g5 g6 g7 g8 g9 g10 con cdue fz0
    have KL := Bk.late k2 ⟨ba, bd, bw, bf⟩
    have z1 := k2.facts
    obtain ⟨-, -, z0, z1, z2, z3, z4, z5, z6, z7, z8⟩ := z1
    simp only [BusI.val]
    cases bw
    · have e9 : Hid (T9 = S.tick) := by show _ = _; rw [hT.out]; unfold PC.ends; rw [if_pos (Or.inl rfl)]
      go_wp2_with fail
      refine (Bk.call KL (fun h => tick_any h)).mono ?_
      rintro e wx ⟨rfl, K9⟩
      rw [← e9.out] at K9
      obtain ⟨⟨rr0, rr1, rr2, rr3⟩, g1, g2, g3, g4, g5, g6, g7, g8, g9, g10⟩ := K9.k.facts
      have t0 := K9.c0
      have t1 := K9.c1
      have t2 := K9.c2
      have t3 := K9.c3
      have tf := K9.f
      have tr := K9.nr
      have tb := K9.nb
      have tl := K9.lt
      have ccyc := K9.k.c.ccyc
      have KC := K9.thru ((Tn.refl K9.k.c).setCyc (wrap64 (T9.cyc + 1)) (wr64_r _))
      go_wp2
      refine bodyPost_ret (v := .tuple #[BusI.val ⟨ba, bd, false, bf⟩, .bool true]) (by simp [results, Tryz.results35, go_sem, BusI.val, *]) rfl (And.intro (by rw [hR.out.1]) ?_)
      rw [hR.out.1]
      apply Tn.eq; (case h => repeat (first | with_reducible exact KC.k.t | with_reducible apply Tn.drew | with_reducible apply Tn.drewN | with_reducible apply Tn.alloc | ((with_reducible apply Tn.other); (case hne => omega); (case hb => omega)))); (case e => rfl)
    · by_cases ha : ba = 53248
      · subst ha
        have e9 : Hid (T9 = S) := by show _ = _; rw [hT.out]; unfold PC.ends; rw [if_neg (by simp)]
        obtain rfl := e9.out
        obtain ⟨⟨rr0, rr1, rr2, rr3⟩, g1, g2, g3, g4, g5, g6, g7, g8, g9, g10⟩ := k2.facts
        have ccyc := k2.c.ccyc
        have KC := k2.t.setCyc (wrap64 (T9.cyc + 1)) (wr64_r _)
        clear e9 hT KL
        go_wp2
        refine bodyPost_ret (v := .tuple #[BusI.val ⟨53248, bd, true, bf⟩, .bool true]) (by simp [results, Tryz.results35, go_sem, BusI.val, *]) rfl (And.intro (by rw [hR.out.1]) ?_)
        rw [hR.out.1]
        apply Tn.eq; (case h => repeat (first | with_reducible exact KC | with_reducible apply Tn.drew | with_reducible apply Tn.drewN | with_reducible apply Tn.alloc | ((with_reducible apply Tn.other); (case hne => omega); (case hb => omega)))); (case e => rfl)
      · have e9 : Hid (T9 = S.tick) := by show _ = _; rw [hT.out]; unfold PC.ends; rw [if_pos (Or.inr ha)]
        have ha' : (ba == 53248) = false := by simpa using ha
        clear ha
        go_wp2_with fail
        refine (Bk.call KL (fun h => tick_any h)).mono ?_
        rintro e wx ⟨rfl, K9⟩
        rw [← e9.out] at K9
        obtain ⟨⟨rr0, rr1, rr2, rr3⟩, g1, g2, g3, g4, g5, g6, g7, g8, g9, g10⟩ := K9.k.facts
        have t0 := K9.c0
        have t1 := K9.c1
        have t2 := K9.c2
        have t3 := K9.c3
        have tf := K9.f
        have tr := K9.nr
        have tb := K9.nb
        have tl := K9.lt
        have ccyc := K9.k.c.ccyc
        have KC := K9.thru ((Tn.refl K9.k.c).setCyc (wrap64 (T9.cyc + 1)) (wr64_r _))
        go_wp2
        refine bodyPost_ret (v := .tuple #[BusI.val ⟨ba, bd, true, bf⟩, .bool true]) (by simp [results, Tryz.results35, go_sem, BusI.val, *]) rfl (And.intro (by rw [hR.out.1]) ?_)
        rw [hR.out.1]
        apply Tn.eq; (case h => repeat (first | with_reducible exact KC.k.t | with_reducible apply Tn.drew | with_reducible apply Tn.drewN | with_reducible apply Tn.alloc | ((with_reducible apply Tn.other); (case hne => omega); (case hb => omega)))); (case e => rfl)
  · cases hon : s.nmiOn
    · rw [hon] at con
      have k1 := Ck.mk' (Tn.eq ((h.setNmiDue true).setNmiOn true) (show ({ s with nmiDue := true, nmiOn := true } : PC) = s.pins true from by unfold PC.pins; simp [hon])) (R := w.heap.size) (by simp)
      clear hon
      go_enter Tryz.func35, Tryz.ntmps35
      go_wp2_with (first | (go_at_call 53; refine j.mono ?_; rintro e w' ⟨rfl, rfl⟩))
      refine (Ck.call k1 (fun h => turn_any h irq (by rw [hP.out.1]; exact h5) (by rw [hP.out.1, hP.out.2]; exact hm))).mono ?_
      rintro e w1 ⟨rfl, k2, q1, q2, zz⟩
      rw [← hR.out.2.1]
      have hT : Hid (T9 = ((s.pins true).turn irq).1.ends ⟨ba, bd, bw, bf⟩) := hR.out.2.2
      generalize hS : ((s.pins true).turn irq).1 = S at *
      clear q1 q2 zz k1 j rr0 rr1 rr2 rr3 g1 g2 g3 g4 g5 g6 g7 g8 g9 g10 con cdue fz0
      have KL := Bk.late k2 ⟨ba, bd, bw, bf⟩
      have z1 := k2.facts
      obtain ⟨-, -, z0, z1, z2, z3, z4, z5, z6, z7, z8⟩ := z1
      simp only [BusI.val]
      cases bw
      · have e9 : Hid (T9 = S.tick) := by show _ = _; rw [hT.out]; unfold PC.ends; rw [if_pos (Or.inl rfl)]
        go_wp2_with fail
        refine (Bk.call KL (fun h => tick_any h)).mono ?_
        rintro e wx ⟨rfl, K9⟩
        rw [← e9.out] at K9
        obtain ⟨⟨rr0, rr1, rr2, rr3⟩, g1, g2, g3, g4, g5, g6, g7, g8, g9, g10⟩ := K9.k.facts
        have t0 := K9.c0
        have t1 := K9.c1
        have t2 := K9.c2
        have t3 := K9.c3
        have tf := K9.f
        have tr := K9.nr
        have tb := K9.nb
        have tl := K9.lt
        have ccyc := K9.k.c.ccyc
        have KC := K9.thru ((Tn.refl K9.k.c).setCyc (wrap64 (T9.cyc + 1)) (wr64_r _))
        go_wp2
        refine bodyPost_ret (v := .tuple #[BusI.val ⟨ba, bd, false, bf⟩, .bool true]) (by simp [results, Tryz.results35, go_sem, BusI.val, *]) rfl (And.intro (by rw [hR.out.1]) ?_)
        rw [hR.out.1]
        apply Tn.eq; (case h => repeat (first | with_reducible exact KC.k.t | with_reducible apply Tn.drew | with_reducible apply Tn.drewN | with_reducible apply Tn.alloc | ((with_reducible apply Tn.other); (case hne => omega); (case hb => omega)))); (case e => rfl)
      · by_cases ha : ba = 53248
        · subst ha
          have e9 : Hid (T9 = S) := by show _ = _; rw [hT.out]; unfold PC.ends; rw [if_neg (by simp)]
          obtain rfl := e9.out
          obtain ⟨⟨rr0, rr1, rr2, rr3⟩, g1, g2, g3, g4, g5, g6, g7, g8, g9, g10⟩ := k2.facts
          have ccyc := k2.c.ccyc
          have KC := k2.t.setCyc (wrap64 (T9.cyc + 1)) (wr64_r _)
          clear e9 hT KL
          go_wp2
          refine bodyPost_ret (v := .tuple #[BusI.val ⟨53248, bd, true, bf⟩, .bool true]) (by simp [results, Tryz.results35, go_sem, BusI.val, *]) rfl (And.intro (by rw [hR.out.1]) ?_)
          rw [hR.out.1]
          apply Tn.eq; (case h => repeat (first | with_reducible exact KC | with_reducible apply Tn.drew | with_reducible apply Tn.drewN | with_reducible apply Tn.alloc | ((with_reducible apply Tn.other); (case hne => omega); (case hb => omega)))); (case e => rfl)
        · have e9 : Hid (T9 = S.tick) := by show _ = _; rw [hT.out]; unfold PC.ends; rw [if_pos (Or.inr ha)]
          have ha' : (ba == 53248) = false := by simpa using ha
          clear ha
          go_wp2_with fail
          refine (Bk.call KL (fun h => tick_any h)).mono ?_
          rintro e wx ⟨rfl, K9⟩
          rw [← e9.out] at K9
          obtain ⟨⟨rr0, rr1, rr2, rr3⟩, g1, g2, g3, g4, g5, g6, g7, g8, g9, g10⟩ := K9.k.facts
          have t0 := K9.c0
          have t1 := K9.c1
          have t2 := K9.c2
          have t3 := K9.c3
          have tf := K9.f
          have tr := K9.nr
          have tb := K9.nb
          have tl := K9.lt
          have ccyc := K9.k.c.ccyc
          have KC := K9.thru ((Tn.refl K9.k.c).setCyc (wrap64 (T9.cyc + 1)) (wr64_r _))
          go_wp2
          refine bodyPost_ret (v := .tuple #[BusI.val ⟨ba, bd, true, bf⟩, .bool true]) (by simp [results, Tryz.results35, go_sem, BusI.val, *]) rfl (And.intro (by rw [hR.out.1]) ?_)
          rw [hR.out.1]
          apply Tn.eq; (case h => repeat (first | with_reducible exact KC.k.t | with_reducible apply Tn.drew | with_reducible apply Tn.drewN | with_reducible apply Tn.alloc | ((with_reducible apply Tn.other); (case hne => omega); (case hb => omega)))); (case e => rfl)
    · rw [hon] at con
      have k1 := Ck.mk' (Tn.eq (h.setNmiOn true) (show ({ s with nmiOn := true } : PC) = s.pins true from by unfold PC.pins; simp [hon])) (R := w.heap.size) (by simp)
      clear hon
      go_enter Tryz.func35, Tryz.ntmps35
      go_wp2_with (first | (go_at_call 53; refine j.mono ?_; rintro e w' ⟨rfl, rfl⟩))
      refine (Ck.call k1 (fun h => turn_any h irq (by rw [hP.out.1]; exact h5) (by rw [hP.out.1, hP.out.2]; exact hm))).mono ?_
      rintro e w1 ⟨rfl, k2, q1, q2, zz⟩
      rw [← hR.out.2.1]
      have hT : Hid (T9 = ((s.pins true).turn irq).1.ends ⟨ba, bd, bw, bf⟩) := hR.out.2.2
      generalize hS : ((s.pins true).turn irq).1 = S at *
      clear q1 q2 zz k1 j rr0 rr1 rr2 rr3 g1 g2 g3 g4 g5 g6 g7 g8 g9 g10 con cdue fz0
      have KL := Bk.late k2 ⟨ba, bd, bw, bf⟩
      have z1 := k2.facts
      obtain ⟨-, -, z0, z1, z2, z3, z4, z5, z6, z7, z8⟩ := z1
      simp only [BusI.val]
      cases bw
      · have e9 : Hid (T9 = S.tick) := by show _ = _; rw [hT.out]; unfold PC.ends; rw [if_pos (Or.inl rfl)]
        go_wp2_with fail
        refine (Bk.call KL (fun h => tick_any h)).mono ?_
        rintro e wx ⟨rfl, K9⟩
        rw [← e9.out] at K9
        obtain ⟨⟨rr0, rr1, rr2, rr3⟩, g1, g2, g3, g4, g5, g6, g7, g8, g9, g10⟩ := K9.k.facts
        have t0 := K9.c0
        have t1 := K9.c1
        have t2 := K9.c2
        have t3 := K9.c3
        have tf := K9.f
        have tr := K9.nr
        have tb := K9.nb
        have tl := K9.lt
        have ccyc := K9.k.c.ccyc
        have KC := K9.thru ((Tn.refl K9.k.c).setCyc (wrap64 (T9.cyc + 1)) (wr64_r _))
        go_wp2
        refine bodyPost_ret (v := .tuple #[BusI.val ⟨ba, bd, false, bf⟩, .bool true]) (by simp [results, Tryz.results35, go_sem, BusI.val, *]) rfl (And.intro (by rw [hR.out.1]) ?_)
        rw [hR.out.1]
        apply Tn.eq; (case h => repeat (first | with_reducible exact KC.k.t | with_reducible apply Tn.drew | with_reducible apply Tn.drewN | with_reducible apply Tn.alloc | ((with_reducible apply Tn.other); (case hne => omega); (case hb => omega)))); (case e => rfl)
      · by_cases ha : ba = 53248
        · subst ha
          have e9 : Hid (T9 = S) := by show _ = _; rw [hT.out]; unfold PC.ends; rw [if_neg (by simp)]
          obtain rfl := e9.out
          obtain ⟨⟨rr0, rr1, rr2, rr3⟩, g1, g2, g3, g4, g5, g6, g7, g8, g9, g10⟩ := k2.facts
          have ccyc := k2.c.ccyc
          have KC := k2.t.setCyc (wrap64 (T9.cyc + 1)) (wr64_r _)
          clear e9 hT KL
          go_wp2
          refine bodyPost_ret (v := .tuple #[BusI.val ⟨53248, bd, true, bf⟩, .bool true]) (by simp [results, Tryz.results35, go_sem, BusI.val, *]) rfl (And.intro (by rw [hR.out.1]) ?_)
          rw [hR.out.1]
          apply Tn.eq; (case h => repeat (first | with_reducible exact KC | with_reducible apply Tn.drew | with_reducible apply Tn.drewN | with_reducible apply Tn.alloc | ((with_reducible apply Tn.other); (case hne => omega); (case hb => omega)))); (case e => rfl)
        · have e9 : Hid (T9 = S.tick) := by show _ = _; rw [hT.out]; unfold PC.ends; rw [if_pos (Or.inr ha)]
          have ha' : (ba == 53248) = false := by simpa using ha
          clear ha
          go_wp2_with fail
          refine (Bk.call KL (fun h => tick_any h)).mono ?_
          rintro e wx ⟨rfl, K9⟩
          rw [← e9.out] at K9
          obtain ⟨⟨rr0, rr1, rr2, rr3⟩, g1, g2, g3, g4, g5, g6, g7, g8, g9, g10⟩ := K9.k.facts
          have t0 := K9.c0
          have t1 := K9.c1
          have t2 := K9.c2
          have t3 := K9.c3
          have tf := K9.f
          have tr := K9.nr
          have tb := K9.nb
          have tl := K9.lt
          have ccyc := K9.k.c.ccyc
          have KC := K9.thru ((Tn.refl K9.k.c).setCyc (wrap64 (T9.cyc + 1)) (wr64_r _))
          go_wp2
          refine bodyPost_ret (v := .tuple #[BusI.val ⟨ba, bd, true, bf⟩, .bool true]) (by simp [results, Tryz.results35, go_sem, BusI.val, *]) rfl (And.intro (by rw [hR.out.1]) ?_)
          rw [hR.out.1]
          apply Tn.eq; (case h => repeat (first | with_reducible exact KC.k.t | with_reducible apply Tn.drew | with_reducible apply Tn.drewN | with_reducible apply Tn.alloc | ((with_reducible apply Tn.other); (case hne => omega); (case hb => omega)))); (case e => rfl)
end

/-
  Registers and a look: the program's calls of a computer, and of a machine.
-/
section
set_option maxRecDepth 100000
set_option maxHeartbeats 2000000

structure RegI where
  A : Int
  X : Int
  Y : Int
  S : Int
  P : Int
  PC : Int
  cyc : Int
  jam : Bool
def RegI.val (r : RegI) : Value := .agg #[.int .i64 r.A, .int .i64 r.X, .int .i64 r.Y, .int .i64 r.S, .int .i64 r.P, .int .i64 r.PC, .int .i64 r.cyc, .bool r.jam]
def PC.regs (s : PC) : RegI := ⟨s.ba, s.bx, s.b_y, s.bs, s.bp, s.bpc, s.cyc, s.st == 5⟩
def PC.peek (s : PC) (a : Int) : Int := s.look (a % 65536)

theorem wrap_id (x : Int) (h0 : 0 ≤ x) (h1 : x < 65536) : IntKind.i64.wrap x = x := by rw [IntKind.wrap_i64]; omega
theorem wrap_id8 (x : Int) (h0 : 0 ≤ x) (h1 : x < 256) : IntKind.i64.wrap x = x := wrap_id x h0 (by omega)
theorem bcellR {W w1 : World} (hb : Below W.heap.size W w1) : (∀ b o, b < W.heap.size → w1.cell? ⟨b, o, none⟩ = W.cell? ⟨b, o, none⟩) ∧ (∀ b o, b < W.heap.size → w1.frozen? ⟨b, o, none⟩ = W.frozen? ⟨b, o, none⟩) :=
  ⟨fun b o h => hb.cell (p := ⟨b, o, none⟩) h, fun b o h => hb.frozen (p := ⟨b, o, none⟩) h⟩
theorem bl_drew {w w' : World} (h : Below w.heap.size w w') : Below w.heap.size w w'.drew := ⟨h.os, h.tape, h.output, h.size, h.block⟩
theorem bl_alloc {w w' : World} {o : Obj} (h : Below w.heap.size w w') : Below w.heap.size w (w'.alloc o) := h.alloc h.size o
theorem bl_thru {w w1 : World} {o : Obj} (hb : Below (w.alloc o).heap.size (w.alloc o) w1) : Below w.heap.size w w1 := ((Below.refl _ _).alloc (Nat.le_refl _) _).trans (hb.mono (by simp))
theorem bl_set {w w' : World} {b o : Nat} {v : Value} (h : Below w.heap.size w w') (hb : w.heap.size ≤ b) : Below w.heap.size w (w'.setCell ⟨b, o, none⟩ v) := h.setCell hb v

theorem peek_any {B : Nat} {s : PC} {w0 w : World} (h : Tn B s w0 w) (a : Int) :
    Calls Tryz.prog 33 #[.pointer (some ⟨B, 0, none⟩), .int .i64 a] w fun e w' => e = .returned (.int .i64 (s.peek a)) ∧ w' = w := by
  have r0 : 0 ≤ a % 65536 := by omega
  have r1 : a % 65536 < 65536 := by omega
  obtain ⟨l0, l1⟩ := look_r h.c (a % 65536) r1
  have hl := look_a h (a % 65536) r0 r1
  unfold PC.peek
  generalize s.look (a % 65536) = L at *
  go_enter Tryz.func33, Tryz.ntmps33
  go_wp2_with (first | (go_at_call 49; refine hl.mono ?_; rintro e w' ⟨rfl, rfl⟩))
  go_ret
  exact ⟨rfl, rfl⟩

theorem regs_any {B : Nat} {s : PC} {w0 w : World} (h : Tn B s w0 w) :
    Calls Tryz.prog 36 #[.pointer (some ⟨B, 0, none⟩)] w fun e w' => e = .returned s.regs.val ∧ Below w.heap.size w w' := by
  have c0 := h.c.cba
  have c1 := h.c.cbx
  have c2 := h.c.cb_y
  have c3 := h.c.cbs
  have c4 := h.c.cbp
  have c5 := h.c.cbpc
  have c6 := h.c.ccyc
  obtain ⟨a0, a1⟩ := h.c.rba
  obtain ⟨x0, x1⟩ := h.c.rbx
  obtain ⟨y0, y1⟩ := h.c.rb_y
  obtain ⟨s0, s1⟩ := h.c.rbs
  obtain ⟨p0, p1⟩ := h.c.rbp
  obtain ⟨q0, q1⟩ := h.c.rbpc
  have hlt := h.c.lt
  have n0 : w.heap.size ≠ B := by omega
  have m0 : B ≠ w.heap.size := by omega
  have n1 : w.heap.size + 1 ≠ B := by omega
  have m1 : B ≠ w.heap.size + 1 := by omega
  have J := fun o o' => jammed_any ((h.alloc o).alloc o').drew
  go_enter Tryz.func36, Tryz.ntmps36
  go_wp2_with fail
  go_region_held3 (fun w' => w'.cell? ⟨w.heap.size + 1, 0, none⟩ = some (.int .u8 s.ba) ∧ w'.cell? ⟨w.heap.size + 1, 1, none⟩ = some (.int .u8 s.bx) ∧ w'.cell? ⟨w.heap.size + 1, 2, none⟩ = some (.int .u8 s.b_y) ∧ w'.cell? ⟨w.heap.size + 1, 3, none⟩ = some (.int .u8 s.bs) ∧ w'.cell? ⟨w.heap.size + 1, 4, none⟩ = some (.int .u8 s.bp) ∧ w'.cell? ⟨w.heap.size + 1, 5, none⟩ = some (.int .u16 s.bpc) ∧ w'.cell? ⟨B, 65561, none⟩ = some (.int .i64 s.cyc)) (go_keep) (first | (go_at_call 53; refine (J _ _).mono ?_; rintro e w1 ⟨rfl, rfl⟩))
  all_goals go_wp2
  all_goals (refine bodyPost_ret (v := s.regs.val) (by simp [results, Tryz.results36, go_sem, RegI.val, PC.regs, *]; exact ⟨wrap_id8 _ a0 a1, wrap_id8 _ x0 x1, wrap_id8 _ y0 y1, wrap_id8 _ s0 s1, wrap_id8 _ p0 p1, wrap_id _ q0 q1⟩) rfl (And.intro rfl ?_))
  all_goals (repeat (first | exact Below.refl _ _ | with_reducible apply bl_drew | with_reducible apply bl_alloc | ((with_reducible apply bl_set); (case hb => omega))))

/-- A machine's calls. -/
def cycV (s : PC) (nmi irq : Bool) : PC × BusI × Bool := if s.st = 5 then (s, ⟨0, 0, false, false⟩, false) else ((s.cycle nmi irq).1, (s.cycle nmi irq).2, true)

theorem cycle_any {B : Nat} {s : PC} {w0 w : World} (h : Tn B s w0 w) (nmi irq : Bool) (hm : s.st = 1 → s.md ≠ 0) :
    Calls Tryz.prog 35 #[.pointer (some ⟨B, 0, none⟩), .bool nmi, .bool irq] w fun e w' => e = .returned (.tuple #[(cycV s nmi irq).2.1.val, .bool (cycV s nmi irq).2.2]) ∧ Tn B (cycV s nmi irq).1 w0 w' := by
  unfold cycV
  by_cases h5 : s.st = 5
  · simp only [if_pos h5]; exact cycle_jam h nmi irq h5
  · simp only [if_neg h5]; exact cycle_go h nmi irq h5 hm

theorem mCycle_any {B : Nat} {s : PC} {w0 w : World} (h : Tn B s w0 w) (nmi irq : Bool) (hm : s.st = 1 → s.md ≠ 0) :
    Calls Tryz.prog 23 #[.pointer (some ⟨B, 0, none⟩), .bool nmi, .bool irq] w fun e w' => e = .returned (.tuple #[(cycV s nmi irq).2.1.val, .bool (cycV s nmi irq).2.2]) ∧ Tn B (cycV s nmi irq).1 w0 w' := by
  have hlt := h.c.lt
  have hsz := h.g.size
  have k0 := Ck.mk' h (R := w.heap.size) rfl
  have H := Ck.call k0 (fun h => cycle_any h nmi irq hm)
  generalize (cycV s nmi irq).1 = S at *
  generalize (cycV s nmi irq).2.1 = b at *
  generalize (cycV s nmi irq).2.2 = o at *
  obtain ⟨ba, bd, bw, bf⟩ := b
  go_enter Tryz.func23, Tryz.ntmps23
  go_wp2_with fail
  refine H.mono ?_
  rintro e w1 ⟨rfl, k2, -, -, -⟩
  obtain ⟨⟨rr0, rr1, rr2, rr3⟩, g1, g2, g3, g4, g5, g6, g7, g8, g9, g10⟩ := k2.facts
  simp only [BusI.val]
  go_wp2
  refine bodyPost_ret (v := .tuple #[BusI.val ⟨ba, bd, bw, bf⟩, .bool o]) (by simp [results, Tryz.results23, go_sem, BusI.val, *]) rfl (And.intro rfl ?_)
  apply Tn.eq; (case h => repeat (first | with_reducible exact k2.t | with_reducible apply Tn.drew | with_reducible apply Tn.alloc | ((with_reducible apply Tn.other); (case hne => omega); (case hb => omega)))); (case e => rfl)

theorem mPeek_any {B : Nat} {s : PC} {w0 w : World} (h : Tn B s w0 w) (a : Int) :
    Calls Tryz.prog 21 #[.pointer (some ⟨B, 0, none⟩), .int .i64 a] w fun e w' => e = .returned (.int .i64 (s.peek a)) ∧ w' = w := by
  have hl := peek_any h a
  go_enter Tryz.func21, Tryz.ntmps21
  go_wp2_with (first | (go_at_call 33; refine hl.mono ?_; rintro e w' ⟨rfl, rfl⟩))
  go_ret
  exact ⟨rfl, rfl⟩

theorem mRegs_any {B : Nat} {s : PC} {w0 w : World} (h : Tn B s w0 w) :
    Calls Tryz.prog 24 #[.pointer (some ⟨B, 0, none⟩)] w fun e w' => e = .returned s.regs.val ∧ Below w.heap.size w w' := by
  have hl := fun o => regs_any (h.alloc o)
  generalize s.regs = r at *
  go_enter Tryz.func24, Tryz.ntmps24
  go_wp2_with (first | (go_at_call 36; refine (hl _).mono ?_; rintro e w1 ⟨rfl, hb⟩; obtain ⟨hc, hf⟩ := bcellR hb; have hz : w.heap.size < w1.heap.size := (by have := hb.size; simp at this; omega); have HB : Hid (Below w.heap.size w w1) := bl_thru hb; clear hb; simp only [RegI.val]))
  refine bodyPost_ret (v := r.val) (by simp [results, Tryz.results24, go_sem, RegI.val, *]) rfl (And.intro rfl ?_)
  have H9 := HB.out
  clear hc hf hl
  clear HB h
  exact bl_set (bl_set (bl_set (bl_set (bl_set (bl_set (bl_set (bl_set H9 (Nat.le_refl _)) (Nat.le_refl _)) (Nat.le_refl _)) (Nat.le_refl _)) (Nat.le_refl _)) (Nat.le_refl _)) (Nat.le_refl _)) (Nat.le_refl _)
end

/-
  Joined texts.
-/
section
set_option maxRecDepth 100000
set_option maxHeartbeats 4000000

/-
  A computer started, a machine made.
-/
section
/-- A zero computer started. -/
def PC.start (s : PC) (rom : Int) (cs : List Chn) : PC :=
  let t : PC := { s with rom := rom * 256, mem := fillI s.mem cs, s := 253, p := 36 }
  let q := joinI (t.look 65532) (t.look 65533)
  { t with pc := q, ba := t.a, bx := t.x, b_y := t.y, bs := 253, bp := 36, bpc := q }

theorem start_no {B : Nat} {w : World} (N : Nat) (v : Value) (cs : List Chn) (rom : Int) (hc : CfAt N w v cs) (hv : validI rom cs = false)
    (hl : cs.length ≤ 140737488355328) (hb : ∀ c ∈ cs, c.bs.length ≤ 140737488355328) :
    Calls Tryz.prog 34 #[.pointer (some ⟨B, 0, none⟩), .agg #[v, .int .i64 rom]] w fun e w' => e = .returned (.int .i64 1) ∧ Below w.heap.size w w' := by
  have V := fun o => valid_any N v cs rom (w.alloc o) (hc.below (Below.refl _ _ |>.alloc (Nat.le_refl _) _)) hl hb
  rw [hv] at V
  obtain ⟨p, cap, rfl, -⟩ := hc
  go_enter Tryz.func34, Tryz.ntmps34
  go_wp2_with (first | (go_at_call 50; refine (V _).mono ?_; rintro e w1 ⟨rfl, hbl⟩))
  go_ret
  exact ⟨rfl, ((Below.refl _ _).alloc (Nat.le_refl _) _).trans (hbl.mono (by simp))⟩

theorem start_ok {B : Nat} {s : PC} {w0 w : World} (h : Tn B s w0 w) (N : Nat) (hN : N ≤ B) (v : Value) (cs : List Chn) (rom : Int) (hc : CfAt N w v cs) (hv : validI rom cs = true)
    (hl : cs.length ≤ 140737488355328) (hb : ∀ c ∈ cs, c.bs.length ≤ 140737488355328) :
    Calls Tryz.prog 34 #[.pointer (some ⟨B, 0, none⟩), .agg #[v, .int .i64 rom]] w fun e w' => e = .returned (.int .i64 0) ∧ Tn B (s.start rom cs) w0 w' := by
  have V := fun o => valid_any N v cs rom (w.alloc o) (hc.below (Below.refl _ _ |>.alloc (Nat.le_refl _) _)) hl hb
  rw [hv] at V
  have hlt := h.c.lt
  have hsz := h.g.size
  have n0 : w.heap.size ≠ B := by omega
  have m0 : B ≠ w.heap.size := by omega
  have HC : Hid (CfAt N w v cs) := hc
  have Hh : Hid (Tn B s w0 w) := h
  have HV : Hid (validI rom cs = true) := hv
  obtain ⟨p, cap, rfl, -⟩ := hc
  clear h hv
  go_enter Tryz.func34, Tryz.ntmps34
  go_wp2_with (first | (go_at_call 50; refine (V _).mono ?_; rintro e w1 ⟨rfl, hbl⟩; have e0 := hbl.cell (p := ⟨w.heap.size, 0, none⟩) (by simp); have e1 := hbl.cell (p := ⟨w.heap.size, 1, none⟩) (by simp); have hs1 := hbl.size))
  have T1 : Tn B s w0 w1 := below_thru (Hh.out.alloc _) hbl
  have C1 : CfAt N w1 (.slice p cs.length cap) cs := (HC.out.below ((Below.refl _ _).alloc (Nat.le_refl _) _)).below hbl
  clear V hbl
  rw [World.cell?_alloc_at _ _ _ _ rfl] at e0 e1
  go_region_with (first | (go_at_call 51; refine (fill_any T1.drew N hN _ cs rom C1 HV.out).mono ?_; rintro e w2 ⟨rfl, T2⟩))
  clear T1 C1 e0 e1
  obtain ⟨S1, hS1⟩ : ∃ S1 : PC, Hid (S1 = { s with rom := rom * 256, mem := fillI s.mem cs }) := ⟨_, rfl⟩
  rw [← hS1.out] at T2
  have hst : Hid (s.start rom cs = { ({ S1 with s := 253, p := 36 } : PC) with pc := joinI (({ S1 with s := 253, p := 36 } : PC).look 65532) (({ S1 with s := 253, p := 36 } : PC).look 65533), ba := S1.a, bx := S1.x, b_y := S1.y, bs := 253, bp := 36, bpc := joinI (({ S1 with s := 253, p := 36 } : PC).look 65532) (({ S1 with s := 253, p := 36 } : PC).look 65533) }) := by
    show _ = _
    rw [hS1.out]; rfl
  clear hS1
  have cs_ := T2.c.cs
  have cp_ := T2.c.cp
  have cpc_ := T2.c.cpc
  have ca_ := T2.c.ca
  have cx_ := T2.c.cx
  have cy_ := T2.c.cy
  have d1 := T2.c.cba
  have d2 := T2.c.cbx
  have d3 := T2.c.cb_y
  have d4 := T2.c.cbs
  have d5 := T2.c.cbp
  have d6 := T2.c.cbpc
  have fz := T2.c.free
  have r1 := T2.c.ra
  have r2 := T2.c.rx
  have r3 := T2.c.ry
  have T3 := (T2.setS 253 (by decide)).setP 36 (by decide)
  have HT3 : Hid (Tn B { S1 with s := 253, p := 36 } w0 ((w2.setCell ⟨B, 65542, none⟩ (.int .u8 253)).setCell ⟨B, 65543, none⟩ (.int .u8 36))) := T3
  obtain ⟨l0, l1⟩ := look_r T3.c 65532 (by decide)
  obtain ⟨l2, l3⟩ := look_r T3.c 65533 (by decide)
  obtain ⟨j0, j1⟩ := join_r _ _ l0 l1 l2 l3
  go_wp2_with fail
  go_region_with (first | (go_at_call 49; refine (look_a T3.drew _ (by decide) (by decide)).mono ?_; rintro e w' ⟨rfl, rfl⟩) | (go_at_call 52; refine (join_any _ _ _ l0 l1 l2 l3).mono ?_; rintro e w' ⟨rfl, rfl⟩))
  all_goals (generalize (({ S1 with s := 253, p := 36 } : PC).look 65532) = L0 at *)
  all_goals (generalize (({ S1 with s := 253, p := 36 } : PC).look 65533) = L1 at *)
  all_goals (generalize joinI L0 L1 = J at *)
  all_goals go_wp2
  all_goals go_ret
  all_goals refine ⟨rfl, ?_⟩
  all_goals rw [hst.out]
  all_goals exact (((((((HT3.out.setPc J ⟨j0, j1⟩).setBa _ r1).setBx _ r2).setB_y _ r3).setBs 253 (by decide)).setBp 36 (by decide)).setBpc J ⟨j0, j1⟩).drew

/-- The zero computer. -/
def zeroPC (R : Nat → Option Value) : PC := ⟨fun _ => 0, 0, 0, false, 0, 0, 0, 0, 0, 0, 0, 0, 0, 0, 0, 0, 0, 0, 0, 0, 0, 0, 0, false, false, false, 0, R⟩

def isZ : Value → Bool
  | .int .u8 v => v == 0
  | _ => false
def allZ : List Value → Nat → Bool
  | [], n => n == 0
  | v :: l, n => match n with
    | 0 => true
    | n + 1 => isZ v && allZ l n
theorem isZ_eq {v : Value} (h : isZ v = true) : v = .int .u8 0 := by
  unfold isZ at h
  split at h
  · rw [eq_of_beq h]
  · cases h
theorem allZ_at : ∀ (l : List Value) (n : Nat), allZ l n = true → ∀ i, i < n → l[i]? = some (.int .u8 0)
  | [], n, h, i, hi => by simp [allZ] at h; omega
  | v :: l, 0, h, i, hi => by omega
  | v :: l, n + 1, h, i, hi => by
    simp only [allZ, Bool.and_eq_true] at h
    cases i with
    | zero => simp [isZ_eq h.1]
    | succ i => simpa using allZ_at l n h.2 i (by omega)

/-- What stands behind the memory of a zero computer. -/
def zTail : List Value := [.int .i64 0, .int .u8 0, .bool false, .int .u8 0, .int .u8 0, .int .u8 0, .int .u8 0, .int .u8 0, .int .u16 0, .int .u8 0, .int .u8 0, .int .u8 0, .int .u8 0, .int .u8 0, .int .u16 0, .int .u8 0, .int .u8 0, .int .u8 0, .int .i64 0, .int .u16 0, .int .u16 0, .int .u8 0, .bool false, .bool false, .bool false, .int .i64 0]

theorem cat_zero (w : World) (t : TypeId) (z : Array Value) (h1 : allZ z.toList 65536 = true) (h2 : (z.toList.drop 65536).take 26 = zTail) : CAt (w.alloc (.cells z t)) w.heap.size (zeroPC fun o => z[o]?) := by
  have hc : ∀ i, (w.alloc (.cells z t)).cell? ⟨w.heap.size, i, none⟩ = z[i]? := fun i => World.cell?_alloc_at _ _ _ _ rfl
  have hz : ∀ i, i < 65536 → z[i]? = some (.int .u8 0) := fun i hi => by rw [← Array.getElem?_toList]; exact allZ_at _ _ h1 i hi
  have ht : ∀ k, k < 26 → z[65536 + k]? = zTail[k]? := fun k hk => by rw [← h2, ← Array.getElem?_toList, List.getElem?_take, if_pos hk, List.getElem?_drop]
  exact { mem := fun i hi => (hc i).trans (hz i hi), rmem := fun _ _ => (by decide : (0 : Int) ≤ 0 ∧ (0 : Int) < 256), crom := (hc _).trans (ht 0 (by decide)), ccnt := (hc _).trans (ht 1 (by decide)), ccalls := (hc _).trans (ht 2 (by decide)), ca := (hc _).trans (ht 3 (by decide)), cx := (hc _).trans (ht 4 (by decide)), cy := (hc _).trans (ht 5 (by decide)), cs := (hc _).trans (ht 6 (by decide)), cp := (hc _).trans (ht 7 (by decide)), cpc := (hc _).trans (ht 8 (by decide)), cba := (hc _).trans (ht 9 (by decide)), cbx := (hc _).trans (ht 10 (by decide)), cb_y := (hc _).trans (ht 11 (by decide)), cbs := (hc _).trans (ht 12 (by decide)), cbp := (hc _).trans (ht 13 (by decide)), cbpc := (hc _).trans (ht 14 (by decide)), cst := (hc _).trans (ht 15 (by decide)), cins := (hc _).trans (ht 16 (by decide)), cmd := (hc _).trans (ht 17 (by decide)), cstep := (hc _).trans (ht 18 (by decide)), cad := (hc _).trans (ht 19 (by decide)), chop := (hc _).trans (ht 20 (by decide)), cdata := (hc _).trans (ht 21 (by decide)), ctaken := (hc _).trans (ht 22 (by decide)), cnmiOn := (hc _).trans (ht 23 (by decide)), cnmiDue := (hc _).trans (ht 24 (by decide)), ccyc := (hc _).trans (ht 25 (by decide)), rrom := (by decide : (0 : Int) ≤ 0 ∧ (0 : Int) < 65537), rcnt := (by decide : (0 : Int) ≤ 0 ∧ (0 : Int) < 256), ra := (by decide : (0 : Int) ≤ 0 ∧ (0 : Int) < 256), rx := (by decide : (0 : Int) ≤ 0 ∧ (0 : Int) < 256), ry := (by decide : (0 : Int) ≤ 0 ∧ (0 : Int) < 256), rs := (by decide : (0 : Int) ≤ 0 ∧ (0 : Int) < 256), rp := (by decide : (0 : Int) ≤ 0 ∧ (0 : Int) < 256), rpc := (by decide : (0 : Int) ≤ 0 ∧ (0 : Int) < 65536), rba := (by decide : (0 : Int) ≤ 0 ∧ (0 : Int) < 256), rbx := (by decide : (0 : Int) ≤ 0 ∧ (0 : Int) < 256), rb_y := (by decide : (0 : Int) ≤ 0 ∧ (0 : Int) < 256), rbs := (by decide : (0 : Int) ≤ 0 ∧ (0 : Int) < 256), rbp := (by decide : (0 : Int) ≤ 0 ∧ (0 : Int) < 256), rbpc := (by decide : (0 : Int) ≤ 0 ∧ (0 : Int) < 65536), rst := (by decide : (0 : Int) ≤ 0 ∧ (0 : Int) < 6), rins := (by decide : (0 : Int) ≤ 0 ∧ (0 : Int) < 56), rmd := (by decide : (0 : Int) ≤ 0 ∧ (0 : Int) < 23), rstep := (by decide : (-9223372036854775808 : Int) ≤ 0 ∧ (0 : Int) < 9223372036854775808), rad := (by decide : (0 : Int) ≤ 0 ∧ (0 : Int) < 65536), rhop := (by decide : (0 : Int) ≤ 0 ∧ (0 : Int) < 65536), rdata := (by decide : (0 : Int) ≤ 0 ∧ (0 : Int) < 256), rcyc := (by decide : (-9223372036854775808 : Int) ≤ 0 ∧ (0 : Int) < 9223372036854775808), free := fun o => World.frozen?_alloc_at _ _ _ _ rfl, crest := fun o _ => hc o }

theorem zero_ok : allZ Tryz.zeroCells105.toList 65536 = true := by kernel_rfl
theorem zero_tail : (Tryz.zeroCells105.toList.drop 65536).take 26 = zTail := by kernel_rfl

theorem below_grown {N B : Nat} {w w2 w3 : World} (hb : Below N w w2) (g : w2.grownBy w3 (some B)) (hB : N ≤ B) (hN : N ≤ w2.heap.size) : Below N w w3 :=
  ⟨g.os.trans hb.os, g.tape.trans hb.tape, g.output.trans hb.output, Nat.le_trans hb.size g.size, fun k hk => (g.block k (by omega) (by intro e; injection e with e; omega)).trans (hb.block k hk)⟩
end

/-
  A machine made.
-/
section
/-- A computer fresh from its configuration. -/
def PC.fresh (rom : Int) (cs : List Chn) (R : Nat → Option Value) : PC := (zeroPC R).start rom cs

theorem zero_mach : ∃ (R : Nat → Option Value) (z : Array Value), (∀ w : World, Sem.run Tryz.prog (zeroValue 105) w = .ok (.agg z) w) ∧ z.size = 65562 ∧ ∀ (w : World) (t : TypeId), CAt (w.alloc (.cells z t)) w.heap.size (zeroPC R) :=
  ⟨_, _, Tryz.zeroValue105, Tryz.zeroCells105_size, fun w t => cat_zero w t _ zero_ok zero_tail⟩

theorem new_ok (N : Nat) (v : Value) (cs : List Chn) (rom : Int) (w : World) (hN : N ≤ w.heap.size) (hc : CfAt N w v cs) (hv : validI rom cs = true)
    (hl : cs.length ≤ 140737488355328) (hb : ∀ c ∈ cs, c.bs.length ≤ 140737488355328) :
    Calls Tryz.prog 22 #[.agg #[v, .int .i64 rom]] w fun e w' => ∃ B R, w.heap.size ≤ B ∧ e = .returned (.tuple #[.pointer (some ⟨B, 0, none⟩), .int .i64 0]) ∧
      CAt w' B (.fresh rom cs R) ∧ Below w.heap.size w w' := by
  obtain ⟨R, zz, hz, hzs, HZ⟩ := zero_mach
  have hne : zz ≠ #[] := by intro e; rw [e] at hzs; cases hzs
  have S : ∀ (o : Obj) (t : TypeId), Calls Tryz.prog 34 #[.pointer (some ⟨w.heap.size + 1, 0, none⟩), .agg #[v, .int .i64 rom]] ((w.alloc o).alloc (.cells zz t)).drew fun e w' => e = .returned (.int .i64 0) ∧ Tn (w.heap.size + 1) (.fresh rom cs R) ((w.alloc o).alloc (.cells zz t)) w' := by
    intro o t
    have q := start_ok (Tn.refl (HZ (w.alloc o) t)).drew N (by simp; omega) v cs rom ((hc.below (((Below.refl _ _).alloc (Nat.le_refl _) o).alloc (by simp) _)).below (bl_drew (Below.refl _ _))) hv hl hb
    rwa [show (w.alloc o).heap.size = w.heap.size + 1 from by simp] at q
  have HH : Hid (∀ (w : World) (t : TypeId), CAt (w.alloc (.cells zz t)) w.heap.size (zeroPC R)) := HZ
  obtain ⟨p, cap, rfl, -⟩ := hc
  clear HZ
  go_enter Tryz.func22, Tryz.ntmps22
  go_wp2_with fail
  go_region_with (first | (go_at_call 34; refine (S _ _).mono ?_; rintro e w2 ⟨rfl, T2⟩; have HT : Hid (CAt w2 (w.heap.size + 1) (.fresh rom cs R) ∧ Below w.heap.size w w2) := ⟨T2.c, below_grown (((Below.refl _ _).alloc (Nat.le_refl _) _).alloc (by simp) _) T2.g (by omega) (by simp; omega)⟩; clear T2 S))
  all_goals go_wp2
  all_goals go_ret2
  all_goals exact ⟨w.heap.size + 1, R, by omega, rfl, HT.out.1, HT.out.2⟩
end

/-
  The command g: registers, told.
-/
section
theorem Hid.mk' {p : Prop} (h : p) : Hid p := h

end

/-
  The command g, answered.
-/
section
theorem G.bel {w x y : World} {B : Nat} (h : w.grownBy x (some B)) (b : Below x.heap.size x y) : w.grownBy y (some B) :=
  ⟨b.os.trans h.os, b.tape.trans h.tape, b.output.trans h.output, Nat.le_trans h.size b.size, fun k hk hne => (b.block k (Nat.lt_of_lt_of_le hk h.size)).trans (h.block k hk hne)⟩
theorem G.row {w x y : World} {B : Nat} {r : Option Nat} (h : w.grownBy x (some B)) (b : x.grownBy y r) (hr : ∀ k, r = some k → w.heap.size ≤ k) : w.grownBy y (some B) :=
  ⟨b.os.trans h.os, b.tape.trans h.tape, b.output.trans h.output, Nat.le_trans h.size b.size, fun k hk hne => (b.block k (Nat.lt_of_lt_of_le hk h.size) (fun e => by have := hr k e.symm; omega)).trans (h.block k hk hne)⟩

end

/-
  A stub fed with the command g.
-/
section
end

/-
  A stub made.
-/
section
end
end

end Go.Proofs.YtcgjliflnnklnaaGreat
