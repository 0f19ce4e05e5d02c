/-
  Joined texts.
-/
import Derived.Deep.RegionHeld3
import Derived.Deep.QuietTactic
import Derived.BigQuiet
import Derived.Lib.SliceRun
import Derived.Test.YtcgjliflnnklnaaGreatJ12
import Derived.Test.YtcgjliflnnklnaaGreatJ02
import Derived.Test.YtcgjliflnnklnaaGreatJ09
import Derived.Test.YtcgjliflnnklnaaGreatJ04
import Derived.Test.YtcgjliflnnklnaaGreatJ01
import Derived.Test.YtcgjliflnnklnaaGreatRwNbz
import Derived.Test.YtcgjliflnnklnaaGreatRwZez
namespace Go.Proofs.YtcgjliflnnklnaaGreat
open Go.RowKit

/-
  A cycle, registers and a look: the program's calls of a computer.
-/
section
set_option maxRecDepth 100000
set_option maxHeartbeats 4000000

theorem jammed_any {B : Nat} {s : PC} {w0 w : World} (h : Tn B s w0 w) :
    Calls Tryz.prog 53 #[.pointer (some ⟨B, 0, none⟩)] w fun e w' => e = .returned (.bool (s.st == 5)) ∧ w' = w := by
  have c_st := h.c.cst
  go_enter Tryz.func53, Tryz.ntmps53
  go_wp2
  go_ret
  exact ⟨rfl, rfl⟩

theorem cycle_jam {B : Nat} {s : PC} {w0 w : World} (h : Tn B s w0 w) (nmi irq : Bool) (h5 : s.st = 5) :
    Calls Tryz.prog 35 #[.pointer (some ⟨B, 0, none⟩), .bool nmi, .bool irq] w fun e w' => e = .returned (.tuple #[BusI.val ⟨0, 0, false, false⟩, .bool false]) ∧ Tn B s w0 w' := by
  have hlt := h.c.lt
  have hsz := h.g.size
  have k0 := Ck.mk' h (R := w.heap.size) rfl
  obtain ⟨⟨rr0, rr1, rr2, rr3⟩, g1, g2, g3, g4, g5, g6, g7, g8, g9, g10⟩ := k0.facts
  have j := jammed_any k0.t
  rw [h5] at j
  go_enter Tryz.func35, Tryz.ntmps35
  go_wp2_with (first | (go_at_call 53; refine j.mono ?_; rintro e w' ⟨rfl, rfl⟩))
  refine bodyPost_ret (v := .tuple #[BusI.val ⟨0, 0, false, false⟩, .bool false]) (by simp [results, Tryz.results35, go_sem, BusI.val, *]) rfl (And.intro rfl ?_)
  apply Tn.eq; (case h => repeat (first | with_reducible exact h | with_reducible apply Tn.drew | with_reducible apply Tn.drewN | with_reducible apply Tn.alloc | ((with_reducible apply Tn.other); (case hne => omega); (case hb => omega)))); (case e => rfl)

theorem wr_cyc (s : PC) (v : Int) : ({ s with cyc := IntKind.wrap .i64 v } : PC) = { s with cyc := wrap64 v } := by rw [wrap64_eq]

theorem cycle_go {B : Nat} {s : PC} {w0 w : World} (h : Tn B s w0 w) (nmi irq : Bool) (h5 : s.st ≠ 5) (hm : s.st = 1 → s.md ≠ 0) :
    Calls Tryz.prog 35 #[.pointer (some ⟨B, 0, none⟩), .bool nmi, .bool irq] w fun e w' => e = .returned (.tuple #[(s.cycle nmi irq).2.val, .bool true]) ∧ Tn B (s.cycle nmi irq).1 w0 w' := by
  have hlt := h.c.lt
  have hsz := h.g.size
  have n0 : w.heap.size ≠ B := by omega
  have m0 : B ≠ w.heap.size := by omega
  have k0 := Ck.mk' h (R := w.heap.size) rfl
  obtain ⟨⟨rr0, rr1, rr2, rr3⟩, g1, g2, g3, g4, g5, g6, g7, g8, g9, g10⟩ := k0.facts
  have j := jammed_any k0.t
  rw [show (s.st == 5) = false from by simpa using h5] at j
  have con := h.c.cnmiOn
  have cdue := h.c.cnmiDue
  have fz0 := h.c.free
  obtain ⟨b, T9, hR⟩ : ∃ b T9, Hid (s.cycle nmi irq = ({ (T9 : PC) with cyc := wrap64 (T9.cyc + 1) }, b) ∧ b = ((s.pins nmi).turn irq).2 ∧ T9 = ((s.pins nmi).turn irq).1.ends b) := ⟨_, _, by rw [pc_cycle, wr_cyc], rfl, rfl⟩
  obtain ⟨ba, bd, bw, bf⟩ := b
  have hP : Hid ((s.pins nmi).st = s.st ∧ (s.pins nmi).md = s.md) := ⟨rfl, rfl⟩
  cases nmi
  · have k1 := Ck.mk' (Tn.eq (h.setNmiOn false) (show ({ s with nmiOn := false } : PC) = s.pins false from by unfold PC.pins; simp)) (R := w.heap.size) (by simp)
    go_enter Tryz.func35, Tryz.ntmps35
    go_wp2_with (first | (go_at_call 53; refine j.mono ?_; rintro e w' ⟨rfl, rfl⟩))
    refine (Ck.call k1 (fun h => turn_any h irq (by rw [hP.out.1]; exact h5) (by rw [hP.out.1, hP.out.2]; exact hm))).mono ?_
    rintro e w1 ⟨rfl, k2, q1, q2, zz⟩
    rw [← hR.out.2.1]
    have hT : Hid (T9 = ((s.pins false).turn irq).1.ends ⟨ba, bd, bw, bf⟩) := hR.out.2.2
    generalize hS : ((s.pins false).turn irq).1 = S at *
    clear q1 q2 zz k1 j rr0 rr1 rr2 rr3 g1 g2 g3 g4 g5 g6 g7 g8 g9 g10 con cdue fz0
    have KL := Bk.late k2 ⟨ba, bd, bw, bf⟩
    have z1 := k2.facts
    obtain ⟨-, -, z0, z1, z2, z3, z4, z5, z6, z7, z8⟩ := z1
    simp only [BusI.val]
    cases bw
    · have e9 : Hid (T9 = S.tick) := by show _ = _; rw [hT.out]; unfold PC.ends; rw [if_pos (Or.inl rfl)]
      go_wp2_with fail
      refine (Bk.call KL (fun h => tick_any h)).mono ?_
      rintro e wx ⟨rfl, K9⟩
      rw [← e9.out] at K9
      obtain ⟨⟨rr0, rr1, rr2, rr3⟩, g1, g2, g3, g4, g5, g6, g7, g8, g9, g10⟩ := K9.k.facts
      have t0 := K9.c0
      have t1 := K9.c1
      have t2 := K9.c2
      have t3 := K9.c3
      have tf := K9.f
      have tr := K9.nr
      have tb := K9.nb
      have tl := K9.lt
      have ccyc := K9.k.c.ccyc
      have KC := K9.thru ((Tn.refl K9.k.c).setCyc (wrap64 (T9.cyc + 1)) (wr64_r _))
      go_wp2
      refine bodyPost_ret (v := .tuple #[BusI.val ⟨ba, bd, false, bf⟩, .bool true]) (by simp [results, Tryz.results35, go_sem, BusI.val, *]) rfl (And.intro (by rw [hR.out.1]) ?_)
      rw [hR.out.1]
      apply Tn.eq; (case h => repeat (first | with_reducible exact KC.k.t | with_reducible apply Tn.drew | with_reducible apply Tn.drewN | with_reducible apply Tn.alloc | ((with_reducible apply Tn.other); (case hne => omega); (case hb => omega)))); (case e => rfl)
    · by_cases ha : ba = 53248
      · subst ha
        have e9 : Hid (T9 = S) := by show _ = _; rw [hT.out]; unfold PC.ends; rw [if_neg (by simp)]
        obtain rfl := e9.out
        obtain ⟨⟨rr0, rr1, rr2, rr3⟩, g1, g2, g3, g4, g5, g6, g7, g8, g9, g10⟩ := k2.facts
        have ccyc := k2.c.ccyc
        have KC := k2.t.setCyc (wrap64 (T9.cyc + 1)) (wr64_r _)
        clear e9 hT KL
        go_wp2
        refine bodyPost_ret (v := .tuple #[BusI.val ⟨53248, bd, true, bf⟩, .bool true]) (by simp [results, Tryz.results35, go_sem, BusI.val, *]) rfl (And.intro (by rw [hR.out.1]) ?_)
        rw [hR.out.1]
        apply Tn.eq; (case h => repeat (first | with_reducible exact KC | with_reducible apply Tn.drew | with_reducible apply Tn.drewN | with_reducible apply Tn.alloc | ((with_reducible apply Tn.other); (case hne => omega); (case hb => omega)))); (case e => rfl)
      · have e9 : Hid (T9 = S.tick) := by show _ = _; rw [hT.out]; unfold PC.ends; rw [if_pos (Or.inr ha)]
        have ha' : (ba == 53248) = false := by simpa using ha
        clear ha
        go_wp2_with fail
        refine (Bk.call KL (fun h => tick_any h)).mono ?_
        rintro e wx ⟨rfl, K9⟩
        rw [← e9.out] at K9
        obtain ⟨⟨rr0, rr1, rr2, rr3⟩, g1, g2, g3, g4, g5, g6, g7, g8, g9, g10⟩ := K9.k.facts
        have t0 := K9.c0
        have t1 := K9.c1
        have t2 := K9.c2
        have t3 := K9.c3
        have tf := K9.f
        have tr := K9.nr
        have tb := K9.nb
        have tl := K9.lt
        have ccyc := K9.k.c.ccyc
        have KC := K9.thru ((Tn.refl K9.k.c).setCyc (wrap64 (T9.cyc + 1)) (wr64_r _))
        go_wp2
        refine bodyPost_ret (v := .tuple #[BusI.val ⟨ba, bd, true, bf⟩, .bool true]) (by simp [results, Tryz.results35, go_sem, BusI.val, *]) rfl (And.intro (by rw [hR.out.1]) ?_)
        rw [hR.out.1]
        apply Tn.eq; (case h => repeat (first | with_reducible exact KC.k.t | with_reducible apply Tn.drew | with_reducible apply Tn.drewN | with_reducible apply Tn.alloc | ((with_reducible apply Tn.other); (case hne => omega); (case hb => omega)))); (case e => rfl)
  · cases hon : s.nmiOn
    · rw [hon] at con
      have k1 := Ck.mk' (Tn.eq ((h.setNmiDue true).setNmiOn true) (show ({ s with nmiDue := true, nmiOn := true } : PC) = s.pins true from by unfold PC.pins; simp [hon])) (R := w.heap.size) (by simp)
      clear hon
      go_enter Tryz.func35, Tryz.ntmps35
      go_wp2_with (first | (go_at_call 53; refine j.mono ?_; rintro e w' ⟨rfl, rfl⟩))
      refine (Ck.call k1 (fun h => turn_any h irq (by rw [hP.out.1]; exact h5) (by rw [hP.out.1, hP.out.2]; exact hm))).mono ?_
      rintro e w1 ⟨rfl, k2, q1, q2, zz⟩
      rw [← hR.out.2.1]
      have hT : Hid (T9 = ((s.pins true).turn irq).1.ends ⟨ba, bd, bw, bf⟩) := hR.out.2.2
      generalize hS : ((s.pins true).turn irq).1 = S at *
      clear q1 q2 zz k1 j rr0 rr1 rr2 rr3 g1 g2 g3 g4 g5 g6 g7 g8 g9 g10 con cdue fz0
      have KL := Bk.late k2 ⟨ba, bd, bw, bf⟩
      have z1 := k2.facts
      obtain ⟨-, -, z0, z1, z2, z3, z4, z5, z6, z7, z8⟩ := z1
      simp only [BusI.val]
      cases bw
      · have e9 : Hid (T9 = S.tick) := by show _ = _; rw [hT.out]; unfold PC.ends; rw [if_pos (Or.inl rfl)]
        go_wp2_with fail
        refine (Bk.call KL (fun h => tick_any h)).mono ?_
        rintro e wx ⟨rfl, K9⟩
        rw [← e9.out] at K9
        obtain ⟨⟨rr0, rr1, rr2, rr3⟩, g1, g2, g3, g4, g5, g6, g7, g8, g9, g10⟩ := K9.k.facts
        have t0 := K9.c0
        have t1 := K9.c1
        have t2 := K9.c2
        have t3 := K9.c3
        have tf := K9.f
        have tr := K9.nr
        have tb := K9.nb
        have tl := K9.lt
        have ccyc := K9.k.c.ccyc
        have KC := K9.thru ((Tn.refl K9.k.c).setCyc (wrap64 (T9.cyc + 1)) (wr64_r _))
        go_wp2
        refine bodyPost_ret (v := .tuple #[BusI.val ⟨ba, bd, false, bf⟩, .bool true]) (by simp [results, Tryz.results35, go_sem, BusI.val, *]) rfl (And.intro (by rw [hR.out.1]) ?_)
        rw [hR.out.1]
        apply Tn.eq; (case h => repeat (first | with_reducible exact KC.k.t | with_reducible apply Tn.drew | with_reducible apply Tn.drewN | with_reducible apply Tn.alloc | ((with_reducible apply Tn.other); (case hne => omega); (case hb => omega)))); (case e => rfl)
      · by_cases ha : ba = 53248
        · subst ha
          have e9 : Hid (T9 = S) := by show _ = _; rw [hT.out]; unfold PC.ends; rw [if_neg (by simp)]
          obtain rfl := e9.out
          obtain ⟨⟨rr0, rr1, rr2, rr3⟩, g1, g2, g3, g4, g5, g6, g7, g8, g9, g10⟩ := k2.facts
          have ccyc := k2.c.ccyc
          have KC := k2.t.setCyc (wrap64 (T9.cyc + 1)) (wr64_r _)
          clear e9 hT KL
          go_wp2
          refine bodyPost_ret (v := .tuple #[BusI.val ⟨53248, bd, true, bf⟩, .bool true]) (by simp [results, Tryz.results35, go_sem, BusI.val, *]) rfl (And.intro (by rw [hR.out.1]) ?_)
          rw [hR.out.1]
          apply Tn.eq; (case h => repeat (first | with_reducible exact KC | with_reducible apply Tn.drew | with_reducible apply Tn.drewN | with_reducible apply Tn.alloc | ((with_reducible apply Tn.other); (case hne => omega); (case hb => omega)))); (case e => rfl)
        · have e9 : Hid (T9 = S.tick) := by show _ = _; rw [hT.out]; unfold PC.ends; rw [if_pos (Or.inr ha)]
          have ha' : (ba == 53248) = false := by simpa using ha
          clear ha
          go_wp2_with fail
          refine (Bk.call KL (fun h => tick_any h)).mono ?_
          rintro e wx ⟨rfl, K9⟩
          rw [← e9.out] at K9
          obtain ⟨⟨rr0, rr1, rr2, rr3⟩, g1, g2, g3, g4, g5, g6, g7, g8, g9, g10⟩ := K9.k.facts
          have t0 := K9.c0
          have t1 := K9.c1
          have t2 := K9.c2
          have t3 := K9.c3
          have tf := K9.f
          have tr := K9.nr
          have tb := K9.nb
          have tl := K9.lt
          have ccyc := K9.k.c.ccyc
          have KC := K9.thru ((Tn.refl K9.k.c).setCyc (wrap64 (T9.cyc + 1)) (wr64_r _))
          go_wp2
          refine bodyPost_ret (v := .tuple #[BusI.val ⟨ba, bd, true, bf⟩, .bool true]) (by simp [results, Tryz.results35, go_sem, BusI.val, *]) rfl (And.intro (by rw [hR.out.1]) ?_)
          rw [hR.out.1]
          apply Tn.eq; (case h => repeat (first | with_reducible exact KC.k.t | with_reducible apply Tn.drew | with_reducible apply Tn.drewN | with_reducible apply Tn.alloc | ((with_reducible apply Tn.other); (case hne => omega); (case hb => omega)))); (case e => rfl)
    · rw [hon] at con
      have k1 := Ck.mk' (Tn.eq (h.setNmiOn true) (show ({ s with nmiOn := true } : PC) = s.pins true from by unfold PC.pins; simp [hon])) (R := w.heap.size) (by simp)
      clear hon
      go_enter Tryz.func35, Tryz.ntmps35
      go_wp2_with (first | (go_at_call 53; refine j.mono ?_; rintro e w' ⟨rfl, rfl⟩))
      refine (Ck.call k1 (fun h => turn_any h irq (by rw [hP.out.1]; exact h5) (by rw [hP.out.1, hP.out.2]; exact hm))).mono ?_
      rintro e w1 ⟨rfl, k2, q1, q2, zz⟩
      rw [← hR.out.2.1]
      have hT : Hid (T9 = ((s.pins true).turn irq).1.ends ⟨ba, bd, bw, bf⟩) := hR.out.2.2
      generalize hS : ((s.pins true).turn irq).1 = S at *
      clear q1 q2 zz k1 j rr0 rr1 rr2 rr3 g1 g2 g3 g4 g5 g6 g7 g8 g9 g10 con cdue fz0
      have KL := Bk.late k2 ⟨ba, bd, bw, bf⟩
      have z1 := k2.facts
      obtain ⟨-, -, z0, z1, z2, z3, z4, z5, z6, z7, z8⟩ := z1
      simp only [BusI.val]
      cases bw
      · have e9 : Hid (T9 = S.tick) := by show _ = _; rw [hT.out]; unfold PC.ends; rw [if_pos (Or.inl rfl)]
        go_wp2_with fail
        refine (Bk.call KL (fun h => tick_any h)).mono ?_
        rintro e wx ⟨rfl, K9⟩
        rw [← e9.out] at K9
        obtain ⟨⟨rr0, rr1, rr2, rr3⟩, g1, g2, g3, g4, g5, g6, g7, g8, g9, g10⟩ := K9.k.facts
        have t0 := K9.c0
        have t1 := K9.c1
        have t2 := K9.c2
        have t3 := K9.c3
        have tf := K9.f
        have tr := K9.nr
        have tb := K9.nb
        have tl := K9.lt
        have ccyc := K9.k.c.ccyc
        have KC := K9.thru ((Tn.refl K9.k.c).setCyc (wrap64 (T9.cyc + 1)) (wr64_r _))
        go_wp2
        refine bodyPost_ret (v := .tuple #[BusI.val ⟨ba, bd, false, bf⟩, .bool true]) (by simp [results, Tryz.results35, go_sem, BusI.val, *]) rfl (And.intro (by rw [hR.out.1]) ?_)
        rw [hR.out.1]
        apply Tn.eq; (case h => repeat (first | with_reducible exact KC.k.t | with_reducible apply Tn.drew | with_reducible apply Tn.drewN | with_reducible apply Tn.alloc | ((with_reducible apply Tn.other); (case hne => omega); (case hb => omega)))); (case e => rfl)
      · by_cases ha : ba = 53248
        · subst ha
          have e9 : Hid (T9 = S) := by show _ = _; rw [hT.out]; unfold PC.ends; rw [if_neg (by simp)]
          obtain rfl := e9.out
          obtain ⟨⟨rr0, rr1, rr2, rr3⟩, g1, g2, g3, g4, g5, g6, g7, g8, g9, g10⟩ := k2.facts
          have ccyc := k2.c.ccyc
          have KC := k2.t.setCyc (wrap64 (T9.cyc + 1)) (wr64_r _)
          clear e9 hT KL
          go_wp2
          refine bodyPost_ret (v := .tuple #[BusI.val ⟨53248, bd, true, bf⟩, .bool true]) (by simp [results, Tryz.results35, go_sem, BusI.val, *]) rfl (And.intro (by rw [hR.out.1]) ?_)
          rw [hR.out.1]
          apply Tn.eq; (case h => repeat (first | with_reducible exact KC | with_reducible apply Tn.drew | with_reducible apply Tn.drewN | with_reducible apply Tn.alloc | ((with_reducible apply Tn.other); (case hne => omega); (case hb => omega)))); (case e => rfl)
        · have e9 : Hid (T9 = S.tick) := by show _ = _; rw [hT.out]; unfold PC.ends; rw [if_pos (Or.inr ha)]
          have ha' : (ba == 53248) = false := by simpa using ha
          clear ha
          go_wp2_with fail
          refine (Bk.call KL (fun h => tick_any h)).mono ?_
          rintro e wx ⟨rfl, K9⟩
          rw [← e9.out] at K9
          obtain ⟨⟨rr0, rr1, rr2, rr3⟩, g1, g2, g3, g4, g5, g6, g7, g8, g9, g10⟩ := K9.k.facts
          have t0 := K9.c0
          have t1 := K9.c1
          have t2 := K9.c2
          have t3 := K9.c3
          have tf := K9.f
          have tr := K9.nr
          have tb := K9.nb
          have tl := K9.lt
          have ccyc := K9.k.c.ccyc
          have KC := K9.thru ((Tn.refl K9.k.c).setCyc (wrap64 (T9.cyc + 1)) (wr64_r _))
          go_wp2
          refine bodyPost_ret (v := .tuple #[BusI.val ⟨ba, bd, true, bf⟩, .bool true]) (by simp [results, Tryz.results35, go_sem, BusI.val, *]) rfl (And.intro (by rw [hR.out.1]) ?_)
          rw [hR.out.1]
          apply Tn.eq; (case h => repeat (first | with_reducible exact KC.k.t | with_reducible apply Tn.drew | with_reducible apply Tn.drewN | with_reducible apply Tn.alloc | ((with_reducible apply Tn.other); (case hne => omega); (case hb => omega)))); (case e => rfl)
end

/-
  Registers and a look: the program's calls of a computer, and of a machine.
-/
section
set_option maxRecDepth 100000
set_option maxHeartbeats 2000000

structure RegI where
  A : Int
  X : Int
  Y : Int
  S : Int
  P : Int
  PC : Int
  cyc : Int
  jam : Bool
def RegI.val (r : RegI) : Value := .agg #[.int .i64 r.A, .int .i64 r.X, .int .i64 r.Y, .int .i64 r.S, .int .i64 r.P, .int .i64 r.PC, .int .i64 r.cyc, .bool r.jam]
def PC.regs (s : PC) : RegI := ⟨s.ba, s.bx, s.b_y, s.bs, s.bp, s.bpc, s.cyc, s.st == 5⟩
def PC.peek (s : PC) (a : Int) : Int := s.look (a % 65536)

theorem wrap_id (x : Int) (h0 : 0 ≤ x) (h1 : x < 65536) : IntKind.i64.wrap x = x := by rw [IntKind.wrap_i64]; omega
theorem wrap_id8 (x : Int) (h0 : 0 ≤ x) (h1 : x < 256) : IntKind.i64.wrap x = x := wrap_id x h0 (by omega)
theorem bcellR {W w1 : World} (hb : Below W.heap.size W w1) : (∀ b o, b < W.heap.size → w1.cell? ⟨b, o, none⟩ = W.cell? ⟨b, o, none⟩) ∧ (∀ b o, b < W.heap.size → w1.frozen? ⟨b, o, none⟩ = W.frozen? ⟨b, o, none⟩) :=
  ⟨fun b o h => hb.cell (p := ⟨b, o, none⟩) h, fun b o h => hb.frozen (p := ⟨b, o, none⟩) h⟩
theorem bl_drew {w w' : World} (h : Below w.heap.size w w') : Below w.heap.size w w'.drew := ⟨h.os, h.tape, h.output, h.size, h.block⟩
theorem bl_alloc {w w' : World} {o : Obj} (h : Below w.heap.size w w') : Below w.heap.size w (w'.alloc o) := h.alloc h.size o
theorem bl_thru {w w1 : World} {o : Obj} (hb : Below (w.alloc o).heap.size (w.alloc o) w1) : Below w.heap.size w w1 := ((Below.refl _ _).alloc (Nat.le_refl _) _).trans (hb.mono (by simp))
theorem bl_set {w w' : World} {b o : Nat} {v : Value} (h : Below w.heap.size w w') (hb : w.heap.size ≤ b) : Below w.heap.size w (w'.setCell ⟨b, o, none⟩ v) := h.setCell hb v

theorem peek_any {B : Nat} {s : PC} {w0 w : World} (h : Tn B s w0 w) (a : Int) :
    Calls Tryz.prog 33 #[.pointer (some ⟨B, 0, none⟩), .int .i64 a] w fun e w' => e = .returned (.int .i64 (s.peek a)) ∧ w' = w := by
  have r0 : 0 ≤ a % 65536 := by omega
  have r1 : a % 65536 < 65536 := by omega
  obtain ⟨l0, l1⟩ := look_r h.c (a % 65536) r1
  have hl := look_a h (a % 65536) r0 r1
  unfold PC.peek
  generalize s.look (a % 65536) = L at *
  go_enter Tryz.func33, Tryz.ntmps33
  go_wp2_with (first | (go_at_call 49; refine hl.mono ?_; rintro e w' ⟨rfl, rfl⟩))
  go_ret
  exact ⟨rfl, rfl⟩

theorem regs_any {B : Nat} {s : PC} {w0 w : World} (h : Tn B s w0 w) :
    Calls Tryz.prog 36 #[.pointer (some ⟨B, 0, none⟩)] w fun e w' => e = .returned s.regs.val ∧ Below w.heap.size w w' := by
  have c0 := h.c.cba
  have c1 := h.c.cbx
  have c2 := h.c.cb_y
  have c3 := h.c.cbs
  have c4 := h.c.cbp
  have c5 := h.c.cbpc
  have c6 := h.c.ccyc
  obtain ⟨a0, a1⟩ := h.c.rba
  obtain ⟨x0, x1⟩ := h.c.rbx
  obtain ⟨y0, y1⟩ := h.c.rb_y
  obtain ⟨s0, s1⟩ := h.c.rbs
  obtain ⟨p0, p1⟩ := h.c.rbp
  obtain ⟨q0, q1⟩ := h.c.rbpc
  have hlt := h.c.lt
  have n0 : w.heap.size ≠ B := by omega
  have m0 : B ≠ w.heap.size := by omega
  have n1 : w.heap.size + 1 ≠ B := by omega
  have m1 : B ≠ w.heap.size + 1 := by omega
  have J := fun o o' => jammed_any ((h.alloc o).alloc o').drew
  go_enter Tryz.func36, Tryz.ntmps36
  go_wp2_with fail
  go_region_held3 (fun w' => w'.cell? ⟨w.heap.size + 1, 0, none⟩ = some (.int .u8 s.ba) ∧ w'.cell? ⟨w.heap.size + 1, 1, none⟩ = some (.int .u8 s.bx) ∧ w'.cell? ⟨w.heap.size + 1, 2, none⟩ = some (.int .u8 s.b_y) ∧ w'.cell? ⟨w.heap.size + 1, 3, none⟩ = some (.int .u8 s.bs) ∧ w'.cell? ⟨w.heap.size + 1, 4, none⟩ = some (.int .u8 s.bp) ∧ w'.cell? ⟨w.heap.size + 1, 5, none⟩ = some (.int .u16 s.bpc) ∧ w'.cell? ⟨B, 65561, none⟩ = some (.int .i64 s.cyc)) (go_keep) (first | (go_at_call 53; refine (J _ _).mono ?_; rintro e w1 ⟨rfl, rfl⟩))
  all_goals go_wp2
  all_goals (refine bodyPost_ret (v := s.regs.val) (by simp [results, Tryz.results36, go_sem, RegI.val, PC.regs, *]; exact ⟨wrap_id8 _ a0 a1, wrap_id8 _ x0 x1, wrap_id8 _ y0 y1, wrap_id8 _ s0 s1, wrap_id8 _ p0 p1, wrap_id _ q0 q1⟩) rfl (And.intro rfl ?_))
  all_goals (repeat (first | exact Below.refl _ _ | with_reducible apply bl_drew | with_reducible apply bl_alloc | ((with_reducible apply bl_set); (case hb => omega))))

/-- A machine's calls. -/
def cycV (s : PC) (nmi irq : Bool) : PC × BusI × Bool := if s.st = 5 then (s, ⟨0, 0, false, false⟩, false) else ((s.cycle nmi irq).1, (s.cycle nmi irq).2, true)

theorem cycle_any {B : Nat} {s : PC} {w0 w : World} (h : Tn B s w0 w) (nmi irq : Bool) (hm : s.st = 1 → s.md ≠ 0) :
    Calls Tryz.prog 35 #[.pointer (some ⟨B, 0, none⟩), .bool nmi, .bool irq] w fun e w' => e = .returned (.tuple #[(cycV s nmi irq).2.1.val, .bool (cycV s nmi irq).2.2]) ∧ Tn B (cycV s nmi irq).1 w0 w' := by
  unfold cycV
  by_cases h5 : s.st = 5
  · simp only [if_pos h5]; exact cycle_jam h nmi irq h5
  · simp only [if_neg h5]; exact cycle_go h nmi irq h5 hm

theorem mCycle_any {B : Nat} {s : PC} {w0 w : World} (h : Tn B s w0 w) (nmi irq : Bool) (hm : s.st = 1 → s.md ≠ 0) :
    Calls Tryz.prog 23 #[.pointer (some ⟨B, 0, none⟩), .bool nmi, .bool irq] w fun e w' => e = .returned (.tuple #[(cycV s nmi irq).2.1.val, .bool (cycV s nmi irq).2.2]) ∧ Tn B (cycV s nmi irq).1 w0 w' := by
  have hlt := h.c.lt
  have hsz := h.g.size
  have k0 := Ck.mk' h (R := w.heap.size) rfl
  have H := Ck.call k0 (fun h => cycle_any h nmi irq hm)
  generalize (cycV s nmi irq).1 = S at *
  generalize (cycV s nmi irq).2.1 = b at *
  generalize (cycV s nmi irq).2.2 = o at *
  obtain ⟨ba, bd, bw, bf⟩ := b
  go_enter Tryz.func23, Tryz.ntmps23
  go_wp2_with fail
  refine H.mono ?_
  rintro e w1 ⟨rfl, k2, -, -, -⟩
  obtain ⟨⟨rr0, rr1, rr2, rr3⟩, g1, g2, g3, g4, g5, g6, g7, g8, g9, g10⟩ := k2.facts
  simp only [BusI.val]
  go_wp2
  refine bodyPost_ret (v := .tuple #[BusI.val ⟨ba, bd, bw, bf⟩, .bool o]) (by simp [results, Tryz.results23, go_sem, BusI.val, *]) rfl (And.intro rfl ?_)
  apply Tn.eq; (case h => repeat (first | with_reducible exact k2.t | with_reducible apply Tn.drew | with_reducible apply Tn.alloc | ((with_reducible apply Tn.other); (case hne => omega); (case hb => omega)))); (case e => rfl)

theorem mPeek_any {B : Nat} {s : PC} {w0 w : World} (h : Tn B s w0 w) (a : Int) :
    Calls Tryz.prog 21 #[.pointer (some ⟨B, 0, none⟩), .int .i64 a] w fun e w' => e = .returned (.int .i64 (s.peek a)) ∧ w' = w := by
  have hl := peek_any h a
  go_enter Tryz.func21, Tryz.ntmps21
  go_wp2_with (first | (go_at_call 33; refine hl.mono ?_; rintro e w' ⟨rfl, rfl⟩))
  go_ret
  exact ⟨rfl, rfl⟩

theorem mRegs_any {B : Nat} {s : PC} {w0 w : World} (h : Tn B s w0 w) :
    Calls Tryz.prog 24 #[.pointer (some ⟨B, 0, none⟩)] w fun e w' => e = .returned s.regs.val ∧ Below w.heap.size w w' := by
  have hl := fun o => regs_any (h.alloc o)
  generalize s.regs = r at *
  go_enter Tryz.func24, Tryz.ntmps24
  go_wp2_with (first | (go_at_call 36; refine (hl _).mono ?_; rintro e w1 ⟨rfl, hb⟩; obtain ⟨hc, hf⟩ := bcellR hb; have hz : w.heap.size < w1.heap.size := (by have := hb.size; simp at this; omega); have HB : Hid (Below w.heap.size w w1) := bl_thru hb; clear hb; simp only [RegI.val]))
  refine bodyPost_ret (v := r.val) (by simp [results, Tryz.results24, go_sem, RegI.val, *]) rfl (And.intro rfl ?_)
  have H9 := HB.out
  clear hc hf hl
  clear HB h
  exact bl_set (bl_set (bl_set (bl_set (bl_set (bl_set (bl_set (bl_set H9 (Nat.le_refl _)) (Nat.le_refl _)) (Nat.le_refl _)) (Nat.le_refl _)) (Nat.le_refl _)) (Nat.le_refl _)) (Nat.le_refl _)) (Nat.le_refl _)
end

/-
  The two computers side by side: what a cycle of the document's wants of its state.
-/
section
theorem rn_cat {w : World} {B : Nat} {s : PC} (h : CAt w B s) : Rn s :=
  ⟨⟨h.rmem, h.rcnt⟩, h.rdata, h.rba, h.rbx, h.rb_y, h.rbs, h.rbp, h.rbpc⟩

theorem pair_all : ((List.range 56).all fun i => (List.range 23).all fun m => !okPair i m || (m == 20) || (m == 21) || cdB (opName i m) (modeName m)) = true := by kernel_rfl
theorem pair_lt {i m : Nat} (h : okPair i m = true) : m < 23 := by
  unfold okPair at h
  simp only [Bool.or_eq_true, Bool.and_eq_true, beq_iff_eq] at h
  rcases h with h | ⟨_, h⟩
  · obtain ⟨e, he, q⟩ := List.any_eq_true.1 h
    have : ∀ e ∈ opTable, e.2.2 < 23 := by
      intro e he
      have := List.all_eq_true.1 (show (opTable.all fun e => decide (e.2.2 < 23)) = true from by kernel_rfl) e he
      exact of_decide_eq_true this
    have h1 := this e he
    simp only [Bool.and_eq_true, beq_iff_eq] at q
    omega
  · omega
theorem cd_pair {i m : Nat} (hi : i < 56) (h : okPair i m = true) : Cd (opName i m) (modeName m) := by
  have hm := pair_lt h
  have := List.all_eq_true.1 (List.all_eq_true.1 pair_all i (List.mem_range.2 hi)) m (List.mem_range.2 hm)
  rw [h] at this
  simp only [Bool.not_true, Bool.false_or, Bool.or_eq_true, beq_iff_eq] at this
  rcases this with (q | q) | q
  · subst q; exact .seq (.inl rfl)
  · subst q; exact .seq (.inr (.inl rfl))
  · exact cdB_ok q

theorem place_five (op md : BA) (r : RG) (h : List Int) : (placeR op md r h).2.1 ≤ 5 := by
  unfold placeR indexedR
  dsimp only
  generalize (if md = (b3 122 112 121) ∨ md = (b3 97 98 121) ∨ md = (b3 105 122 121) then r.Y else r.X) = ix
  generalize (if (h.length : Int) = 2 then hd h 1 else if (h.length : Int) = 3 then hd h 1 + r.X else hd h 1 + r.X + 1) = iz
  repeat' split
  all_goals (dsimp only; decide)
theorem mid_len {s : PC} {r : RG} {i m : Nat} {h : List Int} (q : Midst s r i m h) : h.length ≤ 7 := by
  cases q with
  | one b0 e => rw [e]; simp
  | plc _ _ q =>
    cases q with
    | acc a fr _ _ _ p w =>
      have h5 := place_five (insName i) (modeName m) r (h ++ [])
      rw [p []] at h5
      have h6 : (fr : Int) ≤ 5 := h5
      cases w with
      | due e => omega
      | was _ e => omega
      | new _ e => omega
    | _ => simp
  | rel _ q => cases q <;> simp
  | jmp _ q => cases q <;> simp
  | jsr _ q => cases q <;> simp
  | back _ q => cases q <;> simp
  | push _ q => cases q <;> simp
  | pull _ q => cases q <;> simp
  | int _ q => cases q <;> simp

theorem jmp_mode : ((List.range 56).all fun i => (List.range 23).all fun m => !okPair i m || !(decide (opName i m = b3 74 77 80)) || (m == 13) || (m == 14)) = true := by kernel_rfl
theorem mid_jmp {s : PC} {r : RG} {i m : Nat} {h : List Int} (hi : i < 56) (hok : okPair i m = true) (q : Midst s r i m h) (e : opName i m = b3 74 77 80) : h.length ≤ 4 := by
  have := List.all_eq_true.1 (List.all_eq_true.1 jmp_mode i (List.mem_range.2 hi)) m (List.mem_range.2 (pair_lt hok))
  rw [hok, e] at this
  simp only [Bool.not_true, Bool.false_or, decide_true, Bool.or_eq_true, beq_iff_eq] at this
  cases q with
  | one b0 e => rw [e]; simp
  | jmp _ q => cases q <;> simp
  | plc h1 h2 _ => omega
  | rel h1 _ => omega
  | jsr h1 _ => omega
  | back h1 _ => omega
  | push h1 _ => omega
  | pull h1 _ => omega
  | int h1 _ => omega

/-- What a cycle of the document's computer wants of its state. -/
theorem mid_want {s : PC} {t : RS} (H : Alike s t) (hj : t.r.jam = false) : (t.h ≠ [] → Cd t.op t.md) ∧ t.h.length ≤ 90 ∧ (t.op = b3 74 77 80 → t.h.length ≤ 4) ∧ Byt t.h := by
  cases H.way with
  | idle e _ _ => exact ⟨fun q => absurd e q, by rw [e]; simp, fun _ => by rw [e]; simp, by rw [e]; intro b hb; cases hb⟩
  | midst i m _ _ hi hok hop hmd _ hB _ hM => exact ⟨fun _ => by rw [hop, hmd]; exact cd_pair hi hok, by have := mid_len hM; omega, fun e => mid_jmp hi hok hM (hop.symm.trans e), hB⟩
  | jam e _ _ => rw [hj] at e; cases e

theorem peek_byte {t : RS} (hm : ∀ i, i < 65536 → 0 ≤ t.mem i ∧ t.mem i < 256) (k0 : 0 ≤ t.cnt ∧ t.cnt < 256) {a : Int} (ha : 0 ≤ a ∧ a < 65536) : 0 ≤ t.peek a ∧ t.peek a < 256 := by
  unfold RS.peek
  split
  · exact k0
  · split
    · split <;> decide
    · exact hm _ (by omega)

/-- The bus of a cycle is in its bounds. -/
theorem cycle_range {t : RS} (nmi irq : Bool) (rg : Rg t.r) (hB : Byt t.h) (hm : ∀ i, i < 65536 → 0 ≤ t.mem i ∧ t.mem i < 256) (k0 : 0 ≤ t.cnt ∧ t.cnt < 256) :
    (0 ≤ (t.cycle nmi irq).2.data ∧ (t.cycle nmi irq).2.data < 256) ∧ 0 ≤ (t.cycle nmi irq).2.addr ∧ (t.cycle nmi irq).2.addr < 65536 := by
  obtain ⟨a, ea⟩ : ∃ a, (if (t.pins nmi).h.length > 0 then (nextR (t.pins nmi).op (t.pins nmi).md (t.pins nmi).r (t.pins nmi).h).1 else ⟨(t.pins nmi).r.PC, false, 0, true⟩) = a := ⟨_, rfl⟩
  have rg1 : Rg (t.pins nmi).r := ⟨rg.A, rg.X, rg.Y, rg.S, rg.P, rg.PC⟩
  have oa : (a.wr = true → 0 ≤ a.data ∧ a.data < 256) ∧ a.addr < 65536 ∧ 0 ≤ a.addr := by
    rw [← ea]
    split
    · exact (ok_next _ _ _ _ rg1 hB).2
    · exact ⟨fun q => (by cases q), rg1.PC.2, rg1.PC.1⟩
  obtain ⟨tb, b, eb⟩ : ∃ tb b, (t.pins nmi).bus a = (tb, b) := ⟨_, _, rfl⟩
  have e : (t.cycle nmi irq).2 = b := by rw [cycle_turnR]; exact turn_bus ea eb
  rw [e]
  have e2 : ((t.pins nmi).bus a).2 = b := by rw [eb]
  rw [← e2]
  refine ⟨?_, by rw [bus_addr]; exact ⟨oa.2.2, oa.2.1⟩⟩
  unfold RS.bus
  by_cases q : a.wr = false
  · rw [if_pos q]; exact peek_byte (t := t.pins nmi) hm k0 ⟨oa.2.2, oa.2.1⟩
  · have q2 : a.wr = true := by cases h : a.wr; exact absurd h q; rfl
    rw [if_neg q]
    split
    · exact oa.1 q2
    · split <;> exact oa.1 q2
end

/-
  Joined texts.
-/
section
set_option maxRecDepth 100000
set_option maxHeartbeats 4000000

/-
  A computer started, a machine made.
-/
section
/-- A zero computer started. -/
def PC.start (s : PC) (rom : Int) (cs : List Chn) : PC :=
  let t : PC := { s with rom := rom * 256, mem := fillI s.mem cs, s := 253, p := 36 }
  let q := joinI (t.look 65532) (t.look 65533)
  { t with pc := q, ba := t.a, bx := t.x, b_y := t.y, bs := 253, bp := 36, bpc := q }

theorem start_no {B : Nat} {w : World} (N : Nat) (v : Value) (cs : List Chn) (rom : Int) (hc : CfAt N w v cs) (hv : validI rom cs = false)
    (hl : cs.length ≤ 140737488355328) (hb : ∀ c ∈ cs, c.bs.length ≤ 140737488355328) :
    Calls Tryz.prog 34 #[.pointer (some ⟨B, 0, none⟩), .agg #[v, .int .i64 rom]] w fun e w' => e = .returned (.int .i64 1) ∧ Below w.heap.size w w' := by
  have V := fun o => valid_any N v cs rom (w.alloc o) (hc.below (Below.refl _ _ |>.alloc (Nat.le_refl _) _)) hl hb
  rw [hv] at V
  obtain ⟨p, cap, rfl, -⟩ := hc
  go_enter Tryz.func34, Tryz.ntmps34
  go_wp2_with (first | (go_at_call 50; refine (V _).mono ?_; rintro e w1 ⟨rfl, hbl⟩))
  go_ret
  exact ⟨rfl, ((Below.refl _ _).alloc (Nat.le_refl _) _).trans (hbl.mono (by simp))⟩

theorem start_ok {B : Nat} {s : PC} {w0 w : World} (h : Tn B s w0 w) (N : Nat) (hN : N ≤ B) (v : Value) (cs : List Chn) (rom : Int) (hc : CfAt N w v cs) (hv : validI rom cs = true)
    (hl : cs.length ≤ 140737488355328) (hb : ∀ c ∈ cs, c.bs.length ≤ 140737488355328) :
    Calls Tryz.prog 34 #[.pointer (some ⟨B, 0, none⟩), .agg #[v, .int .i64 rom]] w fun e w' => e = .returned (.int .i64 0) ∧ Tn B (s.start rom cs) w0 w' := by
  have V := fun o => valid_any N v cs rom (w.alloc o) (hc.below (Below.refl _ _ |>.alloc (Nat.le_refl _) _)) hl hb
  rw [hv] at V
  have hlt := h.c.lt
  have hsz := h.g.size
  have n0 : w.heap.size ≠ B := by omega
  have m0 : B ≠ w.heap.size := by omega
  have HC : Hid (CfAt N w v cs) := hc
  have Hh : Hid (Tn B s w0 w) := h
  have HV : Hid (validI rom cs = true) := hv
  obtain ⟨p, cap, rfl, -⟩ := hc
  clear h hv
  go_enter Tryz.func34, Tryz.ntmps34
  go_wp2_with (first | (go_at_call 50; refine (V _).mono ?_; rintro e w1 ⟨rfl, hbl⟩; have e0 := hbl.cell (p := ⟨w.heap.size, 0, none⟩) (by simp); have e1 := hbl.cell (p := ⟨w.heap.size, 1, none⟩) (by simp); have hs1 := hbl.size))
  have T1 : Tn B s w0 w1 := below_thru (Hh.out.alloc _) hbl
  have C1 : CfAt N w1 (.slice p cs.length cap) cs := (HC.out.below ((Below.refl _ _).alloc (Nat.le_refl _) _)).below hbl
  clear V hbl
  rw [World.cell?_alloc_at _ _ _ _ rfl] at e0 e1
  go_region_with (first | (go_at_call 51; refine (fill_any T1.drew N hN _ cs rom C1 HV.out).mono ?_; rintro e w2 ⟨rfl, T2⟩))
  clear T1 C1 e0 e1
  obtain ⟨S1, hS1⟩ : ∃ S1 : PC, Hid (S1 = { s with rom := rom * 256, mem := fillI s.mem cs }) := ⟨_, rfl⟩
  rw [← hS1.out] at T2
  have hst : Hid (s.start rom cs = { ({ S1 with s := 253, p := 36 } : PC) with pc := joinI (({ S1 with s := 253, p := 36 } : PC).look 65532) (({ S1 with s := 253, p := 36 } : PC).look 65533), ba := S1.a, bx := S1.x, b_y := S1.y, bs := 253, bp := 36, bpc := joinI (({ S1 with s := 253, p := 36 } : PC).look 65532) (({ S1 with s := 253, p := 36 } : PC).look 65533) }) := by
    show _ = _
    rw [hS1.out]; rfl
  clear hS1
  have cs_ := T2.c.cs
  have cp_ := T2.c.cp
  have cpc_ := T2.c.cpc
  have ca_ := T2.c.ca
  have cx_ := T2.c.cx
  have cy_ := T2.c.cy
  have d1 := T2.c.cba
  have d2 := T2.c.cbx
  have d3 := T2.c.cb_y
  have d4 := T2.c.cbs
  have d5 := T2.c.cbp
  have d6 := T2.c.cbpc
  have fz := T2.c.free
  have r1 := T2.c.ra
  have r2 := T2.c.rx
  have r3 := T2.c.ry
  have T3 := (T2.setS 253 (by decide)).setP 36 (by decide)
  have HT3 : Hid (Tn B { S1 with s := 253, p := 36 } w0 ((w2.setCell ⟨B, 65542, none⟩ (.int .u8 253)).setCell ⟨B, 65543, none⟩ (.int .u8 36))) := T3
  obtain ⟨l0, l1⟩ := look_r T3.c 65532 (by decide)
  obtain ⟨l2, l3⟩ := look_r T3.c 65533 (by decide)
  obtain ⟨j0, j1⟩ := join_r _ _ l0 l1 l2 l3
  go_wp2_with fail
  go_region_with (first | (go_at_call 49; refine (look_a T3.drew _ (by decide) (by decide)).mono ?_; rintro e w' ⟨rfl, rfl⟩) | (go_at_call 52; refine (join_any _ _ _ l0 l1 l2 l3).mono ?_; rintro e w' ⟨rfl, rfl⟩))
  all_goals (generalize (({ S1 with s := 253, p := 36 } : PC).look 65532) = L0 at *)
  all_goals (generalize (({ S1 with s := 253, p := 36 } : PC).look 65533) = L1 at *)
  all_goals (generalize joinI L0 L1 = J at *)
  all_goals go_wp2
  all_goals go_ret
  all_goals refine ⟨rfl, ?_⟩
  all_goals rw [hst.out]
  all_goals exact (((((((HT3.out.setPc J ⟨j0, j1⟩).setBa _ r1).setBx _ r2).setB_y _ r3).setBs 253 (by decide)).setBp 36 (by decide)).setBpc J ⟨j0, j1⟩).drew

/-- The zero computer. -/
def zeroPC (R : Nat → Option Value) : PC := ⟨fun _ => 0, 0, 0, false, 0, 0, 0, 0, 0, 0, 0, 0, 0, 0, 0, 0, 0, 0, 0, 0, 0, 0, 0, false, false, false, 0, R⟩

def isZ : Value → Bool
  | .int .u8 v => v == 0
  | _ => false
def allZ : List Value → Nat → Bool
  | [], n => n == 0
  | v :: l, n => match n with
    | 0 => true
    | n + 1 => isZ v && allZ l n
theorem isZ_eq {v : Value} (h : isZ v = true) : v = .int .u8 0 := by
  unfold isZ at h
  split at h
  · rw [eq_of_beq h]
  · cases h
theorem allZ_at : ∀ (l : List Value) (n : Nat), allZ l n = true → ∀ i, i < n → l[i]? = some (.int .u8 0)
  | [], n, h, i, hi => by simp [allZ] at h; omega
  | v :: l, 0, h, i, hi => by omega
  | v :: l, n + 1, h, i, hi => by
    simp only [allZ, Bool.and_eq_true] at h
    cases i with
    | zero => simp [isZ_eq h.1]
    | succ i => simpa using allZ_at l n h.2 i (by omega)

/-- What stands behind the memory of a zero computer. -/
def zTail : List Value := [.int .i64 0, .int .u8 0, .bool false, .int .u8 0, .int .u8 0, .int .u8 0, .int .u8 0, .int .u8 0, .int .u16 0, .int .u8 0, .int .u8 0, .int .u8 0, .int .u8 0, .int .u8 0, .int .u16 0, .int .u8 0, .int .u8 0, .int .u8 0, .int .i64 0, .int .u16 0, .int .u16 0, .int .u8 0, .bool false, .bool false, .bool false, .int .i64 0]

theorem cat_zero (w : World) (t : TypeId) (z : Array Value) (h1 : allZ z.toList 65536 = true) (h2 : (z.toList.drop 65536).take 26 = zTail) : CAt (w.alloc (.cells z t)) w.heap.size (zeroPC fun o => z[o]?) := by
  have hc : ∀ i, (w.alloc (.cells z t)).cell? ⟨w.heap.size, i, none⟩ = z[i]? := fun i => World.cell?_alloc_at _ _ _ _ rfl
  have hz : ∀ i, i < 65536 → z[i]? = some (.int .u8 0) := fun i hi => by rw [← Array.getElem?_toList]; exact allZ_at _ _ h1 i hi
  have ht : ∀ k, k < 26 → z[65536 + k]? = zTail[k]? := fun k hk => by rw [← h2, ← Array.getElem?_toList, List.getElem?_take, if_pos hk, List.getElem?_drop]
  exact { mem := fun i hi => (hc i).trans (hz i hi), rmem := fun _ _ => (by decide : (0 : Int) ≤ 0 ∧ (0 : Int) < 256), crom := (hc _).trans (ht 0 (by decide)), ccnt := (hc _).trans (ht 1 (by decide)), ccalls := (hc _).trans (ht 2 (by decide)), ca := (hc _).trans (ht 3 (by decide)), cx := (hc _).trans (ht 4 (by decide)), cy := (hc _).trans (ht 5 (by decide)), cs := (hc _).trans (ht 6 (by decide)), cp := (hc _).trans (ht 7 (by decide)), cpc := (hc _).trans (ht 8 (by decide)), cba := (hc _).trans (ht 9 (by decide)), cbx := (hc _).trans (ht 10 (by decide)), cb_y := (hc _).trans (ht 11 (by decide)), cbs := (hc _).trans (ht 12 (by decide)), cbp := (hc _).trans (ht 13 (by decide)), cbpc := (hc _).trans (ht 14 (by decide)), cst := (hc _).trans (ht 15 (by decide)), cins := (hc _).trans (ht 16 (by decide)), cmd := (hc _).trans (ht 17 (by decide)), cstep := (hc _).trans (ht 18 (by decide)), cad := (hc _).trans (ht 19 (by decide)), chop := (hc _).trans (ht 20 (by decide)), cdata := (hc _).trans (ht 21 (by decide)), ctaken := (hc _).trans (ht 22 (by decide)), cnmiOn := (hc _).trans (ht 23 (by decide)), cnmiDue := (hc _).trans (ht 24 (by decide)), ccyc := (hc _).trans (ht 25 (by decide)), rrom := (by decide : (0 : Int) ≤ 0 ∧ (0 : Int) < 65537), rcnt := (by decide : (0 : Int) ≤ 0 ∧ (0 : Int) < 256), ra := (by decide : (0 : Int) ≤ 0 ∧ (0 : Int) < 256), rx := (by decide : (0 : Int) ≤ 0 ∧ (0 : Int) < 256), ry := (by decide : (0 : Int) ≤ 0 ∧ (0 : Int) < 256), rs := (by decide : (0 : Int) ≤ 0 ∧ (0 : Int) < 256), rp := (by decide : (0 : Int) ≤ 0 ∧ (0 : Int) < 256), rpc := (by decide : (0 : Int) ≤ 0 ∧ (0 : Int) < 65536), rba := (by decide : (0 : Int) ≤ 0 ∧ (0 : Int) < 256), rbx := (by decide : (0 : Int) ≤ 0 ∧ (0 : Int) < 256), rb_y := (by decide : (0 : Int) ≤ 0 ∧ (0 : Int) < 256), rbs := (by decide : (0 : Int) ≤ 0 ∧ (0 : Int) < 256), rbp := (by decide : (0 : Int) ≤ 0 ∧ (0 : Int) < 256), rbpc := (by decide : (0 : Int) ≤ 0 ∧ (0 : Int) < 65536), rst := (by decide : (0 : Int) ≤ 0 ∧ (0 : Int) < 6), rins := (by decide : (0 : Int) ≤ 0 ∧ (0 : Int) < 56), rmd := (by decide : (0 : Int) ≤ 0 ∧ (0 : Int) < 23), rstep := (by decide : (-9223372036854775808 : Int) ≤ 0 ∧ (0 : Int) < 9223372036854775808), rad := (by decide : (0 : Int) ≤ 0 ∧ (0 : Int) < 65536), rhop := (by decide : (0 : Int) ≤ 0 ∧ (0 : Int) < 65536), rdata := (by decide : (0 : Int) ≤ 0 ∧ (0 : Int) < 256), rcyc := (by decide : (-9223372036854775808 : Int) ≤ 0 ∧ (0 : Int) < 9223372036854775808), free := fun o => World.frozen?_alloc_at _ _ _ _ rfl, crest := fun o _ => hc o }

theorem zero_ok : allZ Tryz.zeroCells105.toList 65536 = true := by kernel_rfl
theorem zero_tail : (Tryz.zeroCells105.toList.drop 65536).take 26 = zTail := by kernel_rfl

theorem below_grown {N B : Nat} {w w2 w3 : World} (hb : Below N w w2) (g : w2.grownBy w3 (some B)) (hB : N ≤ B) (hN : N ≤ w2.heap.size) : Below N w w3 :=
  ⟨g.os.trans hb.os, g.tape.trans hb.tape, g.output.trans hb.output, Nat.le_trans hb.size g.size, fun k hk => (g.block k (by omega) (by intro e; injection e with e; omega)).trans (hb.block k hk)⟩
end

/-
  A machine made.
-/
section
/-- A computer fresh from its configuration. -/
def PC.fresh (rom : Int) (cs : List Chn) (R : Nat → Option Value) : PC := (zeroPC R).start rom cs

theorem zero_mach : ∃ (R : Nat → Option Value) (z : Array Value), (∀ w : World, Sem.run Tryz.prog (zeroValue 105) w = .ok (.agg z) w) ∧ z.size = 65562 ∧ ∀ (w : World) (t : TypeId), CAt (w.alloc (.cells z t)) w.heap.size (zeroPC R) :=
  ⟨_, _, Tryz.zeroValue105, Tryz.zeroCells105_size, fun w t => cat_zero w t _ zero_ok zero_tail⟩

theorem new_ok (N : Nat) (v : Value) (cs : List Chn) (rom : Int) (w : World) (hN : N ≤ w.heap.size) (hc : CfAt N w v cs) (hv : validI rom cs = true)
    (hl : cs.length ≤ 140737488355328) (hb : ∀ c ∈ cs, c.bs.length ≤ 140737488355328) :
    Calls Tryz.prog 22 #[.agg #[v, .int .i64 rom]] w fun e w' => ∃ B R, w.heap.size ≤ B ∧ e = .returned (.tuple #[.pointer (some ⟨B, 0, none⟩), .int .i64 0]) ∧
      CAt w' B (.fresh rom cs R) ∧ Below w.heap.size w w' := by
  obtain ⟨R, zz, hz, hzs, HZ⟩ := zero_mach
  have hne : zz ≠ #[] := by intro e; rw [e] at hzs; cases hzs
  have S : ∀ (o : Obj) (t : TypeId), Calls Tryz.prog 34 #[.pointer (some ⟨w.heap.size + 1, 0, none⟩), .agg #[v, .int .i64 rom]] ((w.alloc o).alloc (.cells zz t)).drew fun e w' => e = .returned (.int .i64 0) ∧ Tn (w.heap.size + 1) (.fresh rom cs R) ((w.alloc o).alloc (.cells zz t)) w' := by
    intro o t
    have q := start_ok (Tn.refl (HZ (w.alloc o) t)).drew N (by simp; omega) v cs rom ((hc.below (((Below.refl _ _).alloc (Nat.le_refl _) o).alloc (by simp) _)).below (bl_drew (Below.refl _ _))) hv hl hb
    rwa [show (w.alloc o).heap.size = w.heap.size + 1 from by simp] at q
  have HH : Hid (∀ (w : World) (t : TypeId), CAt (w.alloc (.cells zz t)) w.heap.size (zeroPC R)) := HZ
  obtain ⟨p, cap, rfl, -⟩ := hc
  clear HZ
  go_enter Tryz.func22, Tryz.ntmps22
  go_wp2_with fail
  go_region_with (first | (go_at_call 34; refine (S _ _).mono ?_; rintro e w2 ⟨rfl, T2⟩; have HT : Hid (CAt w2 (w.heap.size + 1) (.fresh rom cs R) ∧ Below w.heap.size w w2) := ⟨T2.c, below_grown (((Below.refl _ _).alloc (Nat.le_refl _) _).alloc (by simp) _) T2.g (by omega) (by simp; omega)⟩; clear T2 S))
  all_goals go_wp2
  all_goals go_ret2
  all_goals exact ⟨w.heap.size + 1, R, by omega, rfl, HT.out.1, HT.out.2⟩
end

/-
  The command g: registers, told.
-/
section
theorem Hid.mk' {p : Prop} (h : p) : Hid p := h

end

/-
  The command g, answered.
-/
section
theorem G.bel {w x y : World} {B : Nat} (h : w.grownBy x (some B)) (b : Below x.heap.size x y) : w.grownBy y (some B) :=
  ⟨b.os.trans h.os, b.tape.trans h.tape, b.output.trans h.output, Nat.le_trans h.size b.size, fun k hk hne => (b.block k (Nat.lt_of_lt_of_le hk h.size)).trans (h.block k hk hne)⟩
theorem G.row {w x y : World} {B : Nat} {r : Option Nat} (h : w.grownBy x (some B)) (b : x.grownBy y r) (hr : ∀ k, r = some k → w.heap.size ≤ k) : w.grownBy y (some B) :=
  ⟨b.os.trans h.os, b.tape.trans h.tape, b.output.trans h.output, Nat.le_trans h.size b.size, fun k hk hne => (b.block k (Nat.lt_of_lt_of_le hk h.size) (fun e => by have := hr k e.symm; omega)).trans (h.block k hk hne)⟩

end

/-
  A stub fed with the command g.
-/
section
end

/-
  A stub made.
-/
section
end
end

/-
  The two computers side by side in memory, and the law's small functions.
-/
section
set_option maxRecDepth 100000
set_option maxHeartbeats 4000000

theorem fresh_alike {rom : Int} {cs : List Chn} {R : Nat → Option Value} : Alike (PC.fresh rom cs R) (RS.fresh rom cs) := by
  have e : (PC.fresh rom cs R).bpc = (RS.fresh rom cs).r.PC := by
    show joinI (fillI (fun _ => 0) cs 65532) (fillI (fun _ => 0) cs 65533) = fillI (fun _ => 0) cs 65532 + 256 * fillI (fun _ => 0) cs 65533
    unfold joinI
    omega
  exact ⟨rfl, rfl, rfl, rfl, rfl, rfl, rfl, .idle rfl rfl ⟨rfl, ⟨rfl, rfl, rfl, rfl, rfl, e⟩, rfl, rfl, rfl, rfl, rfl, e⟩⟩

theorem sameBus_same (b : BusI) (w : World) :
    Calls Tryz.prog 64 #[b.val, b.val] w fun e w' => e = .returned (.bool true) ∧ Below w.heap.size w w' := by
  obtain ⟨a, d, r, f⟩ := b
  unfold BusI.val
  go_enter Tryz.func64, Tryz.ntmps64
  go_wp2
  go_ret
  exact ⟨by simp, ((Below.refl _ _).alloc (Nat.le_refl _) _).alloc (by simp) _⟩

theorem sameRegs_same (r : RG) (w : World) :
    Calls Tryz.prog 65 #[r.val, r.val] w fun e w' => e = .returned (.bool true) ∧ Below w.heap.size w w' := by
  obtain ⟨a, x, y, s, p, pc, c, j⟩ := r
  unfold RG.val
  go_enter Tryz.func65, Tryz.ntmps65
  go_wp2
  go_ret
  exact ⟨by simp, ((Below.refl _ _).alloc (Nat.le_refl _) _).alloc (by simp) _⟩

theorem pickL (c n : Int) (w : World) (h : 1 ≤ n) (h2 : n ≤ 9223372036854775807) (hc1 : -9223372036854775808 ≤ c) (hc2 : c ≤ 9223372036854775807) :
    Calls Tryz.prog 43 #[.int .i64 c, .int .i64 n] w fun e w' => (∃ r : Nat, (r : Int) < n ∧ e = .returned (.int .i64 r)) ∧ w' = w := by
  go_enter Tryz.func43, Tryz.ntmps43
  go_wp2
  all_goals go_ret
  · have hc : c < 0 := by assumption
    have := pick_lt c n h hc
    exact ⟨⟨(-(c + 1).tmod n).toNat, by omega, ret_int (by omega)⟩, rfl⟩
  · have h0 := Int.emod_nonneg c (show n ≠ 0 by omega)
    have h1 := Int.emod_lt_of_pos c (show 0 < n by omega)
    exact ⟨⟨(c % n).toNat, by omega, ret_int (by omega)⟩, rfl⟩

theorem rcycle_jam {B M : Nat} {t : RS} {vh : Value} {w : World} (h0 : MAt w B M (MV M vh t) t.mem) (hj : t.r.jam = true) (nmi irq : Bool) :
    Calls Tryz.prog 63 #[.pointer (some ⟨B, 0, none⟩), .bool nmi, .bool irq] w fun e w' => e = .returned (.tuple #[BusI.val ⟨0, 0, false, false⟩, .bool false]) ∧ Below w.heap.size w w' := by
  have lt1 := h0.lt
  have m1 : w.heap.size ≠ B := by omega
  have m3 : B ≠ w.heap.size := by omega
  have c9 := h0.cs.2.2.2.2.2.2.2.2.2.1
  rw [hj] at c9
  clear h0
  unfold BusI.val
  go_enter Tryz.func63, Tryz.ntmps63
  go_wp2_with fail
  go_returns
  exact ⟨rfl, by go_grown⟩
end

/-
  The two computers side by side in memory: a cycle of both.
-/
section
theorem pair_md : (opTable.all fun e => decide (e.2.2 ≠ 0)) = true := by kernel_rfl
theorem pair_ne {i m : Nat} (h : okPair i m = true) : m ≠ 0 := by
  unfold okPair at h
  simp only [Bool.or_eq_true, Bool.and_eq_true, beq_iff_eq] at h
  rcases h with h | ⟨_, h⟩
  · obtain ⟨e, he, q⟩ := List.any_eq_true.1 h
    have h1 := of_decide_eq_true (List.all_eq_true.1 pair_md e he)
    simp only [Bool.and_eq_true, beq_iff_eq] at q
    omega
  · omega
theorem md_alike {s : PC} {t : RS} (H : Alike s t) : s.st = 1 → s.md ≠ 0 := by
  intro h
  cases H.way with
  | idle _ _ f => rw [f.st] at h; cases h
  | midst i m _ _ _ hok _ _ hL _ _ _ => rw [hL.md]; have := pair_ne hok; omega
  | jam _ e _ => rw [e] at h; cases h

theorem RgR.of {r : RG} (h : Rg r) : RgR r := ⟨h.A, h.X, h.Y, h.S, h.P, h.PC⟩

/-- A cycle of the document's computer that is like the program's. -/
theorem rcycle_all {R M base : Nat} {s : PC} {t : RS} {vh : Value} {w : World} (h0 : MAt w R M (MV M vh t) t.mem) (hv : HV w base R M vh t.h) (hbs : base ≤ w.heap.size) (al : Alike s t) (rn : Rn s) (nmi irq : Bool) :
    Calls Tryz.prog 63 #[.pointer (some ⟨R, 0, none⟩), .bool nmi, .bool irq] w fun e w' => e = .returned (.tuple #[(cycV s nmi irq).2.1.val, .bool (cycV s nmi irq).2.2]) ∧
      ∃ t' vh', Alike (cycV s nmi irq).1 t' ∧ MAt w' R M (MV M vh' t') t'.mem ∧ HV w' base R M vh' t'.h ∧ Tri R M vh.ownBlock w w' ∧ ∀ g, vh'.ownBlock = some g → vh.ownBlock = some g ∨ w.heap.size < g := by
  have hjm := alike_jam s t al
  unfold cycV
  cases hj : t.r.jam
  · rw [hj] at hjm
    have h5 : ¬ s.st = 5 := by simpa using hjm
    simp only [if_neg h5]
    obtain ⟨q1, q2, q3, q4⟩ := mid_want al hj
    have rg := al.rg rn
    have hmem : ∀ i, i < 65536 → 0 ≤ t.mem i ∧ t.mem i < 256 := al.mem ▸ rn.bytes.1
    have hcnt : 0 ≤ t.cnt ∧ t.cnt < 256 := al.cnt ▸ rn.bytes.2
    obtain ⟨e1, e2⟩ := cycle_alike s t nmi irq al rn hj
    obtain ⟨d, ad⟩ := cycle_range nmi irq rg q4 hmem hcnt
    refine (rcycle h0 hv hbs hj (RgR.of rg) hcnt q1 q2 q3 (fun i _ => hd_byte t.h q4 i) nmi irq d ad).mono ?_
    rintro e w' ⟨rfl, vh', p1, p2, p3, p4⟩
    exact ⟨by rw [e1], (t.cycle nmi irq).1, vh', e2, p1, p2, p3, p4⟩
  · rw [hj] at hjm
    have h5 : s.st = 5 := by simpa using hjm
    simp only [if_pos h5]
    refine (rcycle_jam h0 hj nmi irq).mono ?_
    rintro e w' ⟨rfl, hb⟩
    have hT := (TM.refl h0).below hb
    exact ⟨rfl, t, vh, al, hT.c, hv.kept hT.g, Tri.two hT.g, fun g hg => .inl hg⟩

structure Pair (w : World) (base B R M : Nat) (s : PC) (t : RS) (vh : Value) : Prop where
  x : CAt w B s
  y : MAt w R M (MV M vh t) t.mem
  o : HV w base R M vh t.h
  al : Alike s t
  nr : B ≠ R
  nm : B ≠ M
  nv : ∀ g, vh.ownBlock = some g → g ≠ B

/-- Nothing but blocks B, R, M, r and new ones has turned. -/
structure Four (B R M : Nat) (r : Option Nat) (w w' : World) : Prop where
  os : w'.os = w.os
  tape : w'.tape = w.tape
  output : w'.output = w.output
  size : w.heap.size ≤ w'.heap.size
  block : ∀ k, k < w.heap.size → k ≠ B → k ≠ R → k ≠ M → some k ≠ r → w'.heap[k]? = w.heap[k]?

section
variable {B R M : Nat} {r : Option Nat} {w w' : World}
theorem Four.refl (B R M : Nat) (r : Option Nat) (w : World) : Four B R M r w w := ⟨rfl, rfl, rfl, Nat.le_refl _, fun _ _ _ _ _ _ => rfl⟩
theorem Four.trans {a b c : World} (h : Four B R M r a b) (k : Four B R M r b c) : Four B R M r a c :=
  ⟨k.os.trans h.os, k.tape.trans h.tape, k.output.trans h.output, Nat.le_trans h.size k.size, fun i h1 h2 h3 h4 h5 => (k.block i (Nat.lt_of_lt_of_le h1 h.size) h2 h3 h4 h5).trans (h.block i h1 h2 h3 h4 h5)⟩
theorem Four.below (h : Below w.heap.size w w') : Four B R M r w w' := ⟨h.os, h.tape, h.output, h.size, fun k hk _ _ _ _ => h.block k hk⟩
theorem Four.tri (h : Tri R M r w w') : Four B R M r w w' := ⟨h.os, h.tape, h.output, h.size, fun k hk _ h2 h3 h4 => h.block k hk h2 h3 h4⟩
theorem Four.tn (h : w.grownBy w' (some B)) : Four B R M r w w' := ⟨h.os, h.tape, h.output, h.size, fun k hk h1 _ _ _ => h.block k hk (by intro e; injection e with e; exact h1 e)⟩
/-- Another row since. -/
theorem Four.row {r2 : Option Nat} {a b c : World} (h : Four B R M r a b) (k : Four B R M r2 b c) (hr : ∀ g, r2 = some g → r = some g ∨ a.heap.size ≤ g) : Four B R M r a c :=
  ⟨k.os.trans h.os, k.tape.trans h.tape, k.output.trans h.output, Nat.le_trans h.size k.size, fun i h1 h2 h3 h4 h5 => (k.block i (Nat.lt_of_lt_of_le h1 h.size) h2 h3 h4 (fun e => by
    rcases hr i e.symm with q | q
    · exact h5 q.symm
    · omega)).trans (h.block i h1 h2 h3 h4 h5)⟩
theorem Blk.by4 {n : Nat} {vs : Array Value} {T : TypeId} (b : Blk w n vs T) (h : Four B R M r w w') (h1 : n ≠ B) (h2 : n ≠ R) (h3 : n ≠ M) (h4 : some n ≠ r) : Blk w' n vs T := b.same (h.block n b.lt h1 h2 h3 h4)

variable {base : Nat} {s : PC} {t : RS} {vh : Value}
theorem Pair.kept (p : Pair w base B R M s t vh) (hb : Below w.heap.size w w') : Pair w' base B R M s t vh :=
  ⟨p.x.same (hb.block _ p.x.lt), p.y.same (hb.block _ p.y.lt) (hb.block _ p.y.ltM), p.o.kept (Two.below hb), p.al, p.nr, p.nm, p.nv⟩
/-- The program's computer has turned. -/
theorem Pair.half {s' : PC} (p : Pair w base B R M s t vh) (h : Tn B s' w w') : MAt w' R M (MV M vh t) t.mem ∧ HV w' base R M vh t.h :=
  have k : ∀ n, n ≠ B → n < w.heap.size → w'.heap[n]? = w.heap[n]? := fun n h1 h2 => h.g.block n h2 (by intro e; injection e with e; exact h1 e)
  ⟨p.y.same (k _ p.nr.symm p.y.lt) (k _ p.nm.symm p.y.ltM), ⟨row_same p.o.o (fun g hg => k g (p.nv g hg) (p.o.o.lt g hg).2), p.o.ne⟩⟩
end
end

/-
  What is given back: back; and lists that are nil.
-/
section
set_option maxRecDepth 100000
set_option maxHeartbeats 2000000

theorem lent_nil (w : World) :
    Calls Tryz.prog 70 #[.string ⟨#[]⟩, .bool true] w fun e w' => e = .returned (.slice none 0 0) ∧ w' = w := by
  go_enter Tryz.func70, Tryz.ntmps70
  go_wp2
  go_ret
  exact ⟨rfl, rfl⟩

theorem back_nil (w : World) :
    Calls Tryz.prog 72 #[.slice none 0 0, .string ⟨#[]⟩] w fun e w' => e = .returned (.bool true) ∧ w' = w := by
  have hnil := fun (w : World) (a : Option Addr) (n c : Nat) => Lib.run_eql_slice_nil (P := Tryz.prog) w 35 5 a n c 0 0 und_bytes
  go_enter Tryz.func72, Tryz.ntmps72
  go_wp2
  go_ret
  exact ⟨rfl, rfl⟩

theorem lent_str {w : World} {g c : Nat} {s : ByteArray} (h : LentAt w g s.data.toList) : (convert 35 9 (.slice (some ⟨g, 0, none⟩) s.size c)).run Tryz.prog w = .ok (.string s) w := by
  have hl : s.data.toList.length = s.size := by simp
  have := run_convert_bytes_back (P := Tryz.prog) w 35 9 5 ⟨g, 0, none⟩ c s.data.toList und_bytes und_u8 und_str
    (fun j hj => by
      have hb := h.bytes j hj
      rw [Nat.zero_add] at hb
      rw [show (⟨g, 0, none⟩ : Addr).add j = ⟨g, j, none⟩ from by unfold Addr.add; split <;> simp_all]; exact hb)
  rw [hl] at this
  rw [this, ← ba_eq (h := s) rfl]

theorem back_any (s : ByteArray) (g : Nat) (w : World) (hs : s.size ≤ 10000000) (h : LentAt w g s.data.toList) :
    Calls Tryz.prog 72 #[.slice (some ⟨g, 0, none⟩) s.size (s.size + 8), .string s] w fun e w' => e = .returned (.bool true) ∧ w.grownBy w' (some g) ∧ w'.heap.size = w.heap.size := by
  have hconv := lent_str (c := s.size + 8) h
  have hlen : s.data.toList.length = s.size := by simp
  have HR : Hid (RowAt w g 5 1 (s.size + 8) ∧ ∀ j, j < 8 → w.cell? ⟨g, s.size + j, none⟩ = some (.int .u8 77)) := by have := h.row; have h2 := h.spare; rw [hlen] at this h2; exact ⟨this, h2⟩
  clear h
  have hnil := fun (w : World) (a : Option Addr) (n c : Nat) => Lib.run_eql_slice_nil (P := Tryz.prog) w 35 5 a n c 0 0 und_bytes
  go_enter Tryz.func72, Tryz.ntmps72
  go_wp2
  go_loopw [5, 7] (fun b i wr => ∃ k : Nat, k ≤ s.size + 8 ∧ b = .bool true ∧ i = .int .i64 k ∧ RowAt wr g 5 1 (s.size + 8) ∧ (∀ j, k ≤ s.size + j → j < 8 → wr.cell? ⟨g, s.size + j, none⟩ = some (.int .u8 77)) ∧ w.grownBy wr (some g) ∧ wr.heap.size = w.heap.size) (fun _ i _ => s.size + 8 - (intOf i).toNat)
  case atStart => exact ⟨0, by omega, by simp, rfl, HR.out.1, fun j _ hj => HR.out.2 j hj, World.grownBy.refl _ _, rfl⟩
  case round =>
    obtain ⟨k, hk, rfl, rfl, p0, p1, p2, p3⟩ := hrel
    have HP : Hid (RowAt wr g 5 1 (s.size + 8) ∧ (∀ j, k ≤ s.size + j → j < 8 → wr.cell? ⟨g, s.size + j, none⟩ = some (.int .u8 77)) ∧ w.grownBy wr (some g) ∧ wr.heap.size = w.heap.size) := ⟨p0, p1, p2, p3⟩
    clear p0 p1 p2 p3 HR hconv
    by_cases hlt : k < s.size + 8
    · obtain ⟨u, hu⟩ := HP.out.1.there k (by omega)
      have hfu := HP.out.1.free k
      have HN : Hid (RowAt (wr.setCell ⟨g, k, none⟩ (.int .u8 78)) g 5 1 (s.size + 8) ∧ (∀ j, k + 1 ≤ s.size + j → j < 8 → (wr.setCell ⟨g, k, none⟩ (.int .u8 78)).cell? ⟨g, s.size + j, none⟩ = some (.int .u8 77)) ∧ w.grownBy (wr.setCell ⟨g, k, none⟩ (.int .u8 78)) (some g) ∧ (wr.setCell ⟨g, k, none⟩ (.int .u8 78)).heap.size = w.heap.size) :=
        ⟨HP.out.1.setCell _ _ _, fun j h1 h2 => by rw [World.cell?_setCell_other _ _ _ _ (addr_ne _ _ _ (by omega))]; exact HP.out.2.1 j (by omega) h2, grown_trans HP.out.2.2.1 (grown_set _ _ _ _), by simpa using HP.out.2.2.2⟩
      by_cases hin : k < s.size
      · have hin' : (k : Int) < (s.size : Int) := by omega
        clear HP
        go_wp2
        go_roundw
        case rel => exact ⟨k + 1, by omega, rfl, by go_num, HN.out⟩
        case measure => simp [intOf]; omega
      · have hcell : wr.cell? ⟨g, k, none⟩ = some (.int .u8 77) := by
          have := HP.out.2.1 (k - s.size) (by omega) (by omega); rw [show s.size + (k - s.size) = k from by omega] at this; exact this
        have hd : decide ((k : Int) < (s.size : Int)) = false := by rw [decide_eq_false_iff_not]; omega
        clear HP hu
        go_wp2
        go_roundw
        case rel => exact ⟨k + 1, by omega, rfl, by go_num, HN.out⟩
        case measure => simp [intOf]; omega
    · go_wp2
      go_ret
      exact ⟨rfl, HP.out.2.2⟩
end

/-
  A configuration that was lent: how it lies.
-/
section
/-- A chunk's bytes that were lent. -/
def LV (w : World) (lo : Nat) (bs : List UInt8) (v : Value) : Prop := (bs = [] ∧ v = .slice none 0 0) ∨ ∃ g, lo ≤ g ∧ v = .slice (some ⟨g, 0, none⟩) bs.length (bs.length + 8) ∧ LentAt w g bs

theorem LentAt.same {w w' : World} {g : Nat} {l : List UInt8} (h : LentAt w g l) (e : w'.heap[g]? = w.heap[g]?) : LentAt w' g l :=
  ⟨by obtain ⟨cur, h1, h2⟩ := h.row; exact ⟨cur, e.trans h1, h2⟩, fun i hi => (World.cell?_of_block (a := ⟨g, 0 + i, none⟩) e).trans (h.bytes i hi), fun j hj => (World.cell?_of_block (a := ⟨g, l.length + j, none⟩) e).trans (h.spare j hj)⟩
theorem LV.blk {w : World} {lo g : Nat} {bs : List UInt8} {v : Value} (h : LV w lo bs v) (hg : v.ownBlock = some g) : lo ≤ g ∧ g < w.heap.size := by
  rcases h with ⟨_, rfl⟩ | ⟨g', h1, rfl, h2⟩
  · simp [Value.ownBlock] at hg
  · simp [Value.ownBlock] at hg; subst hg; exact ⟨h1, h2.row.lt⟩
theorem LV.same {w w' : World} {lo : Nat} {bs : List UInt8} {v : Value} (h : LV w lo bs v) (hk : ∀ g, v.ownBlock = some g → w'.heap[g]? = w.heap[g]?) : LV w' lo bs v := by
  rcases h with h | ⟨g', h1, rfl, h2⟩
  · exact .inl h
  · exact .inr ⟨g', h1, rfl, h2.same (hk g' rfl)⟩
theorem LV.chv {w : World} {lo : Nat} {bs : List UInt8} {v : Value} (h : LV w lo bs v) : ChV w.heap.size w v bs := by
  rcases h with ⟨rfl, rfl⟩ | ⟨g, _, rfl, h2⟩
  · exact ⟨none, 0, rfl, fun q => absurd rfl q⟩
  · exact ⟨_, _, rfl, fun _ => ⟨g, 0, rfl, h2.row.lt, h2.bytes⟩⟩

structure Lnt (w : World) (lo : Nat) (tag : Nat → Nat) (cs : List Chn) (kc ko : Nat) (vs : List Value) (G : Nat) (V : Value) : Prop where
  len : vs.length = ko
  kn : kc ≤ ko ∧ ko ≤ cs.length
  row : RowAt w G 51 2 (cs.length + 8)
  c : ∀ i, (h : i < cs.length) → i < kc → w.cell? ⟨G, i * 2, none⟩ = some (.int .i64 cs[i].at_) ∧ w.cell? ⟨G, i * 2 + 1, none⟩ = vs[i]?
  own : w.ownsRow lo 35 1 V ko vs
  lv : ∀ i, (h : i < cs.length) → i < ko → ∃ v, vs[i]? = some v ∧ LV w lo cs[i].bs v
  loG : lo ≤ G
  tG : tag G = 1
  tV : ∀ g, V.ownBlock = some g → tag g = 2
  tv : ∀ (i : Nat) v g, vs[i]? = some v → v.ownBlock = some g → tag g = 3 + i

section
variable {w w' : World} {lo : Nat} {tag tag' : Nat → Nat} {cs : List Chn} {kc ko : Nat} {vs : List Value} {G : Nat} {V : Value}

theorem RowAt.same {g e size cap : Nat} (h : RowAt w g e size cap) (q : w'.heap[g]? = w.heap[g]?) : RowAt w' g e size cap := by
  obtain ⟨cur, h1, h2⟩ := h; exact ⟨cur, q.trans h1, h2⟩
theorem Lnt.vlt (h : Lnt w lo tag cs kc ko vs G V) {i g : Nat} {v : Value} (hi : vs[i]? = some v) (hg : v.ownBlock = some g) : lo ≤ g ∧ g < w.heap.size := by
  have hl : i < ko := by
    have := h.len
    rcases Nat.lt_or_ge i vs.length with q | q
    · omega
    · rw [List.getElem?_eq_none q] at hi; cases hi
  obtain ⟨v', e, q⟩ := h.lv i (by have := h.kn.2; omega) hl
  rw [hi] at e
  injection e with e
  subst e
  exact q.blk hg
/-- Blocks with a tag are as they were. -/
theorem Lnt.kept (h : Lnt w lo tag cs kc ko vs G V) (hk : ∀ g, g < w.heap.size → tag g ≠ 0 → w'.heap[g]? = w.heap[g]?) (ht : ∀ g, g < w.heap.size → tag' g = tag g) : Lnt w' lo tag' cs kc ko vs G V := by
  have hG : w'.heap[G]? = w.heap[G]? := hk G h.row.lt (by rw [h.tG]; decide)
  refine ⟨h.len, h.kn, h.row.same hG, fun i hi hc => ?_, row_same h.own (fun g hg => hk g (h.own.lt g hg).2 (by rw [h.tV g hg]; decide)), fun i hi hc => ?_, h.loG, (ht G h.row.lt).trans h.tG, fun g hg => (ht g (h.own.lt g hg).2).trans (h.tV g hg), fun i v g hi hg => (ht g (h.vlt hi hg).2).trans (h.tv i v g hi hg)⟩
  · rw [World.cell?_of_block (a := ⟨G, i * 2, none⟩) hG, World.cell?_of_block (a := ⟨G, i * 2 + 1, none⟩) hG]; exact h.c i hi hc
  · obtain ⟨v, e, q⟩ := h.lv i hi hc
    exact ⟨v, e, q.same (fun g hg => hk g (h.vlt e hg).2 (by rw [h.tv i v g e hg]; omega))⟩
theorem Lnt.below (h : Lnt w lo tag cs kc ko vs G V) (hb : Below w.heap.size w w') : Lnt w' lo tag cs kc ko vs G V := h.kept (fun g hg _ => hb.block g hg) (fun _ _ => rfl)

/-- The list of the chunks' bytes has grown. -/
theorem Lnt.app {g' cap' : Nat} {v : Value} (h : Lnt w lo tag cs kc ko vs G V) (hko : (q : ko < cs.length) → LV w lo cs[ko].bs v) (hlt : ko < cs.length) (htv : ∀ g, v.ownBlock = some g → tag g = 3 + ko)
    (hgrow : w.grownBy w' V.ownBlock) (hown : w'.ownsRow lo 35 1 (.slice (some ⟨g', 0, none⟩) (ko + 1) cap') (ko + 1) (vs ++ [v])) (hat : V.ownBlock = some g' ∨ g' = w.heap.size) :
    Lnt w' lo (fun g => if w.heap.size ≤ g then 2 else tag g) cs kc (ko + 1) (vs ++ [v]) G (.slice (some ⟨g', 0, none⟩) (ko + 1) cap') := by
  have hk : ∀ g, g < w.heap.size → tag g ≠ 2 → w'.heap[g]? = w.heap[g]? := fun g hg ht => hgrow.block g hg (fun e => ht (h.tV g e.symm))
  have tt : ∀ g, g < w.heap.size → (if w.heap.size ≤ g then 2 else tag g) = tag g := fun g hg => if_neg (by omega)
  have hG := hk G h.row.lt (by rw [h.tG]; decide)
  have hvb : ∀ g, v.ownBlock = some g → g < w.heap.size := fun g hg => ((hko hlt).blk hg).2
  refine ⟨by simp [h.len], ⟨Nat.le_succ_of_le h.kn.1, hlt⟩, h.row.same hG, fun i hi hc => ?_, hown, fun i hi hc => ?_, h.loG, (tt G h.row.lt).trans h.tG, fun g hg => ?_, fun i u g hi hg => ?_⟩
  · rw [World.cell?_of_block (a := ⟨G, i * 2, none⟩) hG, World.cell?_of_block (a := ⟨G, i * 2 + 1, none⟩) hG]
    exact ⟨(h.c i hi hc).1, (h.c i hi hc).2.trans (List.getElem?_append_left (by rw [h.len]; have := h.kn.1; omega)).symm⟩
  · by_cases q : i < ko
    · obtain ⟨u, e, r⟩ := h.lv i hi q
      exact ⟨u, by rw [List.getElem?_append_left (by rw [h.len]; exact q)]; exact e, r.same (fun g hg => hk g (h.vlt e hg).2 (by rw [h.tv i u g e hg]; omega))⟩
    · obtain rfl : i = ko := by omega
      exact ⟨v, by rw [List.getElem?_append_right (by rw [h.len]; exact Nat.le_refl _), h.len, Nat.sub_self]; rfl, (hko hlt).same (fun g hg => hk g (hvb g hg) (by rw [htv g hg]; omega))⟩
  · have e1 : g' = g := by simp [Value.ownBlock] at hg; exact hg
    subst e1
    rcases hat with q | q
    · rw [tt g' (h.own.lt g' q).2]; exact h.tV g' q
    · exact if_pos (by omega)
  · by_cases q : i < ko
    · rw [List.getElem?_append_left (by rw [h.len]; exact q)] at hi
      rw [tt g (h.vlt hi hg).2]; exact h.tv i u g hi hg
    · rw [List.getElem?_append_right (by rw [h.len]; omega), h.len] at hi
      have : i - ko = 0 := by
        rcases Nat.eq_zero_or_pos (i - ko) with z | z
        · exact z
        · rw [List.getElem?_eq_none (by simp; omega)] at hi; cases hi
      rw [this] at hi
      injection hi with hi
      subst hi
      rw [tt g (hvb g hg)]
      have e : i = ko := by omega
      rw [e]; exact htv g hg

/-- A chunk is laid. -/
theorem Lnt.lay (h : Lnt w lo tag cs kc (kc + 1) vs G V) (q : kc < cs.length) {v : Value} (hv : vs[kc]? = some v) :
    Lnt ((w.setCell ⟨G, kc * 2, none⟩ (.int .i64 cs[kc].at_)).setCell ⟨G, kc * 2 + 1, none⟩ v) lo tag cs (kc + 1) (kc + 1) vs G V := by
  have hk : ∀ g, g ≠ G → ((w.setCell ⟨G, kc * 2, none⟩ (.int .i64 cs[kc].at_)).setCell ⟨G, kc * 2 + 1, none⟩ v).heap[g]? = w.heap[g]? := fun g hg => (Below.heap_setCell _ _ _ _ hg).trans (Below.heap_setCell _ _ _ _ hg)
  have nG : ∀ g t, tag g = t → t ≠ 1 → g ≠ G := fun g t e1 e2 e => by rw [e, h.tG] at e1; exact e2 e1.symm
  refine ⟨h.len, ⟨Nat.le_refl _, h.kn.2⟩, (h.row.setCell _ _ _).setCell _ _ _, fun i hi hc => ?_, row_same h.own (fun g hg => hk g (nG g 2 (h.tV g hg) (by decide))), fun i hi hc => ?_, h.loG, h.tG, h.tV, h.tv⟩
  · obtain ⟨u1, hu1⟩ := h.row.there (kc * 2) (by omega)
    obtain ⟨u2, hu2⟩ := (h.row.setCell G (kc * 2) (.int .i64 cs[kc].at_)).there (kc * 2 + 1) (by omega)
    by_cases e : i = kc
    · subst e
      exact ⟨by rw [World.cell?_setCell_other _ _ _ _ (addr_ne _ _ _ (by omega)), World.cell?_setCell_same _ _ _ hu1], by rw [World.cell?_setCell_same _ _ _ hu2, hv]⟩
    · have := h.c i hi (by omega)
      refine ⟨?_, ?_⟩
      · rw [World.cell?_setCell_other _ _ _ _ (addr_ne _ _ _ (by omega)), World.cell?_setCell_other _ _ _ _ (addr_ne _ _ _ (by omega))]; exact this.1
      · rw [World.cell?_setCell_other _ _ _ _ (addr_ne _ _ _ (by omega)), World.cell?_setCell_other _ _ _ _ (addr_ne _ _ _ (by omega))]; exact this.2
  · obtain ⟨u, e, r⟩ := h.lv i hi hc
    exact ⟨u, e, r.same (fun g hg => hk g (nG g _ (h.tv i u g e hg) (by omega)))⟩
end
end

/-
  What is made of a configuration that was lent, and of one that is none.
-/
section
set_option maxRecDepth 100000
set_option maxHeartbeats 2000000

def lentCs : List Chn → List Value → List Chn
  | c :: cs, v :: vs => ⟨c.at_, v, c.bs⟩ :: lentCs cs vs
  | _, _ => []

theorem lentCs_len : ∀ (cs : List Chn) (vs : List Value), vs.length = cs.length → (lentCs cs vs).length = cs.length
  | [], [], _ => rfl
  | c :: cs, v :: vs, h => by simp [lentCs, lentCs_len cs vs (by simpa using h)]
theorem lentCs_get : ∀ (cs : List Chn) (vs : List Value) (_ : vs.length = cs.length) (i : Nat) (h : i < (lentCs cs vs).length) (h2 : i < cs.length), (lentCs cs vs)[i].at_ = cs[i].at_ ∧ (lentCs cs vs)[i].bs = cs[i].bs ∧ vs[i]? = some (lentCs cs vs)[i].v
  | [], [], _, i, _, h2 => by simp at h2
  | c :: cs, v :: vs, e, 0, _, _ => ⟨rfl, rfl, rfl⟩
  | c :: cs, v :: vs, e, i + 1, h, h2 => by
    have := lentCs_get cs vs (by simpa using e) i (by simpa [lentCs] using h) (by simpa using h2)
    simpa [lentCs] using this
theorem lentCs_total : ∀ (cs : List Chn) (vs : List Value), vs.length = cs.length → total (lentCs cs vs) = total cs
  | [], [], _ => rfl
  | c :: cs, v :: vs, h => by
    have := lentCs_total cs vs (by simpa using h)
    unfold total at this ⊢
    simp [lentCs, this]
theorem lentCs_all : ∀ (cs : List Chn) (vs : List Value), vs.length = cs.length → (lentCs cs vs).all okChn = cs.all okChn
  | [], [], _ => rfl
  | c :: cs, v :: vs, h => by
    have := lentCs_all cs vs (by simpa using h)
    simp only [lentCs, List.all_cons, this]
    rfl
theorem lentCs_fill : ∀ (cs : List Chn) (vs : List Value) (m : Nat → Int), vs.length = cs.length → fillI m (lentCs cs vs) = fillI m cs
  | [], [], _, _ => rfl
  | c :: cs, v :: vs, m, h => by
    have := lentCs_fill cs vs (fillB m c.at_ c.bs) (by simpa using h)
    unfold fillI at this ⊢
    simp only [lentCs, List.foldl_cons]
    exact this
theorem lentCs_valid {rom : Int} {cs : List Chn} {vs : List Value} (h : vs.length = cs.length) : validI rom (lentCs cs vs) = validI rom cs := by
  unfold validI
  rw [lentCs_len cs vs h, lentCs_all cs vs h, lentCs_total cs vs h]
theorem lentCs_fresh {rom : Int} {cs : List Chn} {vs : List Value} {R : Nat → Option Value} (h : vs.length = cs.length) : PC.fresh rom (lentCs cs vs) R = PC.fresh rom cs R := by
  unfold PC.fresh PC.start
  rw [lentCs_fill cs vs _ h]

theorem lnt_cf {w : World} {lo : Nat} {tag : Nat → Nat} {cs : List Chn} {vs : List Value} {G : Nat} {V : Value} (h : Lnt w lo tag cs cs.length cs.length vs G V) : CfAt w.heap.size w (.slice (some ⟨G, 0, none⟩) cs.length (cs.length + 8)) (lentCs cs vs) := by
  have hl := lentCs_len cs vs h.len
  refine ⟨_, _, by rw [hl], fun _ => ⟨G, 0, rfl, h.row.lt, fun i hi => ?_⟩⟩
  have hi2 : i < cs.length := by omega
  obtain ⟨e1, e2, e3⟩ := lentCs_get cs vs h.len i hi hi2
  obtain ⟨c1, c2⟩ := h.c i hi2 hi2
  obtain ⟨v, q1, q2⟩ := h.lv i hi2 hi2
  rw [e3] at q1
  injection q1 with q1
  rw [Nat.zero_add, e1, e2, q1]
  exact ⟨c1, by rw [c2, e3, q1], q2.chv⟩

theorem new_no (N : Nat) (v : Value) (cs : List Chn) (rom : Int) (w : World) (hc : CfAt N w v cs) (hv : validI rom cs = false) (hl : cs.length ≤ 140737488355328) (hb : ∀ c ∈ cs, c.bs.length ≤ 140737488355328) :
    Calls Tryz.prog 22 #[.agg #[v, .int .i64 rom]] w fun e w' => e = .returned (.tuple #[.pointer none, .int .i64 1]) ∧ Below w.heap.size w w' := by
  obtain ⟨R, zz, hz, hzs, HZ⟩ := zero_mach
  have hne : zz ≠ #[] := by intro e; rw [e] at hzs; cases hzs
  have S : ∀ (o : Obj) (t : TypeId), Calls Tryz.prog 34 #[.pointer (some ⟨w.heap.size + 1, 0, none⟩), .agg #[v, .int .i64 rom]] ((w.alloc o).alloc (.cells zz t)).drew fun e w' => e = .returned (.int .i64 1) ∧ Below ((w.alloc o).alloc (.cells zz t)).drew.heap.size ((w.alloc o).alloc (.cells zz t)).drew w' := by
    intro o t
    exact start_no N v cs rom ((hc.below (((Below.refl _ _).alloc (Nat.le_refl _) o).alloc (by simp) _)).below (bl_drew (Below.refl _ _))) hv hl hb
  clear HZ
  obtain ⟨p, cap, rfl, -⟩ := hc
  go_enter Tryz.func22, Tryz.ntmps22
  go_wp2_with fail
  go_region_with (first | (go_at_call 34; refine (S _ _).mono ?_; rintro e w2 ⟨rfl, T2⟩; have HT : Hid (Below w.heap.size w w2) := (((Below.refl _ _).alloc (Nat.le_refl _) _).alloc (by simp) _).drew.trans (T2.mono (by simp; omega)); clear T2 S))
  all_goals go_wp2
  all_goals go_ret2
  all_goals exact ⟨rfl, HT.out⟩
end

end Go.Proofs.YtcgjliflnnklnaaGreat
