/-
  A cycle, registers and a look: the program's calls of a computer.
-/
import Derived.Test.YtcgjliflnnklnabGreatCpTu
import Derived.Test.YtcgjliflnnklnabGreatQO
namespace Go.Proofs.YtcgjliflnnklnabGreat
open Go.RowKit

set_option maxRecDepth 100000 in
set_option maxHeartbeats 1000000 in
theorem jammed_any {B : Nat} {s : PC} {w0 w : World} (h : Tn B s w0 w) :
    Calls Tryz.prog 31 #[.pointer (some ⟨B, 0, none⟩)] w fun e w' => e = .returned (.bool (s.st == 5)) ∧ w' = w := by
  have c_st := h.c.cst
  go_enter Tryz.func31, Tryz.ntmps31
  go_wp2
  go_ret
  exact ⟨rfl, rfl⟩

set_option maxRecDepth 100000 in
set_option maxHeartbeats 1000000 in
theorem cycle_jam {B : Nat} {s : PC} {w0 w : World} (h : Tn B s w0 w) (nmi irq : Bool) (h5 : s.st = 5) :
    Calls Tryz.prog 21 #[.pointer (some ⟨B, 0, none⟩), .bool nmi, .bool irq] w fun e w' => e = .returned (.tuple #[BusI.val ⟨0, 0, false, false⟩, .bool false]) ∧ Tn B s w0 w' := by
  have hlt := h.c.lt
  have hsz := h.g.size
  have k0 := Ck.mk' h (R := w.heap.size) rfl
  obtain ⟨⟨rr0, rr1, rr2, rr3⟩, g1, g2, g3, g4, g5, g6, g7, g8, g9, g10⟩ := k0.facts
  have j := jammed_any k0.t
  rw [h5] at j
  go_enter Tryz.func21, Tryz.ntmps21
  go_wp2_with (first | (go_at_call 31; refine j.mono ?_; rintro e w' ⟨rfl, rfl⟩))
  refine bodyPost_ret (v := .tuple #[BusI.val ⟨0, 0, false, false⟩, .bool false]) (by simp [results, Tryz.results21, go_sem, BusI.val, *]) rfl (And.intro rfl ?_)
  apply Tn.eq; (case h => repeat (first | with_reducible exact h | with_reducible apply Tn.drew | with_reducible apply Tn.drewN | with_reducible apply Tn.alloc | ((with_reducible apply Tn.other); (case hne => omega); (case hb => omega)))); (case e => rfl)

theorem wr_cyc (s : PC) (v : Int) : ({ s with cyc := IntKind.wrap .i64 v } : PC) = { s with cyc := wrap64 v } := by rw [wrap64_eq]

set_option maxRecDepth 100000 in
set_option maxHeartbeats 4000000 in
theorem cycle_go {B : Nat} {s : PC} {w0 w : World} (h : Tn B s w0 w) (nmi irq : Bool) (h5 : s.st ≠ 5) (hm : s.st = 1 → s.md ≠ 0) :
    Calls Tryz.prog 21 #[.pointer (some ⟨B, 0, none⟩), .bool nmi, .bool irq] w fun e w' => e = .returned (.tuple #[(s.cycle nmi irq).2.val, .bool true]) ∧ Tn B (s.cycle nmi irq).1 w0 w' := by
  have hlt := h.c.lt
  have hsz := h.g.size
  have n0 : w.heap.size ≠ B := by omega
  have m0 : B ≠ w.heap.size := by omega
  have k0 := Ck.mk' h (R := w.heap.size) rfl
  obtain ⟨⟨rr0, rr1, rr2, rr3⟩, g1, g2, g3, g4, g5, g6, g7, g8, g9, g10⟩ := k0.facts
  have j := jammed_any k0.t
  rw [show (s.st == 5) = false from by simpa using h5] at j
  have con := h.c.cnmiOn
  have cdue := h.c.cnmiDue
  have fz0 := h.c.free
  obtain ⟨b, T9, hR⟩ : ∃ b T9, Hid (s.cycle nmi irq = ({ (T9 : PC) with cyc := wrap64 (T9.cyc + 1) }, b) ∧ b = ((s.pins nmi).turn irq).2 ∧ T9 = ((s.pins nmi).turn irq).1.ends b) := ⟨_, _, by rw [pc_cycle, wr_cyc], rfl, rfl⟩
  obtain ⟨ba, bd, bw, bf⟩ := b
  have hP : Hid ((s.pins nmi).st = s.st ∧ (s.pins nmi).md = s.md) := ⟨rfl, rfl⟩
  cases nmi
  · have k1 := Ck.mk' (Tn.eq (h.setNmiOn false) (show ({ s with nmiOn := false } : PC) = s.pins false from by unfold PC.pins; simp)) (R := w.heap.size) (by simp)
    go_enter Tryz.func21, Tryz.ntmps21
    go_wp2_with (first | (go_at_call 31; refine j.mono ?_; rintro e w' ⟨rfl, rfl⟩))
    refine (Ck.call k1 (fun h => turn_any h irq (by rw [hP.out.1]; exact h5) (by rw [hP.out.1, hP.out.2]; exact hm))).mono ?_
    rintro e w1 ⟨rfl, k2, q1, q2, zz⟩
    rw [← hR.out.2.1]
    have hT : Hid (T9 = ((s.pins false).turn irq).1.ends ⟨ba, bd, bw, bf⟩) := hR.out.2.2
    generalize hS : ((s.pins false).turn irq).1 = S at *
    clear q1 q2 zz k1 j rr0 rr1 rr2 rr3 g1 g2 g3 g4 g5 g6 g7 g8 g9 g10 con cdue fz0
    have KL := Bk.late k2 ⟨ba, bd, bw, bf⟩
    have z1 := k2.facts
    obtain ⟨-, -, z0, z1, z2, z3, z4, z5, z6, z7, z8⟩ := z1
    simp only [BusI.val]
    cases bw
    · have e9 : Hid (T9 = S.tick) := by show _ = _; rw [hT.out]; unfold PC.ends; rw [if_pos (Or.inl rfl)]
      go_wp2_with fail
      refine (Bk.call KL (fun h => tick_any h)).mono ?_
      rintro e wx ⟨rfl, K9⟩
      rw [← e9.out] at K9
      obtain ⟨⟨rr0, rr1, rr2, rr3⟩, g1, g2, g3, g4, g5, g6, g7, g8, g9, g10⟩ := K9.k.facts
      have t0 := K9.c0
      have t1 := K9.c1
      have t2 := K9.c2
      have t3 := K9.c3
      have tf := K9.f
      have tr := K9.nr
      have tb := K9.nb
      have tl := K9.lt
      have ccyc := K9.k.c.ccyc
      have KC := K9.thru ((Tn.refl K9.k.c).setCyc (wrap64 (T9.cyc + 1)) (wr64_r _))
      go_wp2
      refine bodyPost_ret (v := .tuple #[BusI.val ⟨ba, bd, false, bf⟩, .bool true]) (by simp [results, Tryz.results21, go_sem, BusI.val, *]) rfl (And.intro (by rw [hR.out.1]) ?_)
      rw [hR.out.1]
      apply Tn.eq; (case h => repeat (first | with_reducible exact KC.k.t | with_reducible apply Tn.drew | with_reducible apply Tn.drewN | with_reducible apply Tn.alloc | ((with_reducible apply Tn.other); (case hne => omega); (case hb => omega)))); (case e => rfl)
    · by_cases ha : ba = 53248
      · subst ha
        have e9 : Hid (T9 = S) := by show _ = _; rw [hT.out]; unfold PC.ends; rw [if_neg (by simp)]
        obtain rfl := e9.out
        obtain ⟨⟨rr0, rr1, rr2, rr3⟩, g1, g2, g3, g4, g5, g6, g7, g8, g9, g10⟩ := k2.facts
        have ccyc := k2.c.ccyc
        have KC := k2.t.setCyc (wrap64 (T9.cyc + 1)) (wr64_r _)
        clear e9 hT KL
        go_wp2
        refine bodyPost_ret (v := .tuple #[BusI.val ⟨53248, bd, true, bf⟩, .bool true]) (by simp [results, Tryz.results21, go_sem, BusI.val, *]) rfl (And.intro (by rw [hR.out.1]) ?_)
        rw [hR.out.1]
        apply Tn.eq; (case h => repeat (first | with_reducible exact KC | with_reducible apply Tn.drew | with_reducible apply Tn.drewN | with_reducible apply Tn.alloc | ((with_reducible apply Tn.other); (case hne => omega); (case hb => omega)))); (case e => rfl)
      · have e9 : Hid (T9 = S.tick) := by show _ = _; rw [hT.out]; unfold PC.ends; rw [if_pos (Or.inr ha)]
        have ha' : (ba == 53248) = false := by simpa using ha
        clear ha
        go_wp2_with fail
        refine (Bk.call KL (fun h => tick_any h)).mono ?_
        rintro e wx ⟨rfl, K9⟩
        rw [← e9.out] at K9
        obtain ⟨⟨rr0, rr1, rr2, rr3⟩, g1, g2, g3, g4, g5, g6, g7, g8, g9, g10⟩ := K9.k.facts
        have t0 := K9.c0
        have t1 := K9.c1
        have t2 := K9.c2
        have t3 := K9.c3
        have tf := K9.f
        have tr := K9.nr
        have tb := K9.nb
        have tl := K9.lt
        have ccyc := K9.k.c.ccyc
        have KC := K9.thru ((Tn.refl K9.k.c).setCyc (wrap64 (T9.cyc + 1)) (wr64_r _))
        go_wp2
        refine bodyPost_ret (v := .tuple #[BusI.val ⟨ba, bd, true, bf⟩, .bool true]) (by simp [results, Tryz.results21, go_sem, BusI.val, *]) rfl (And.intro (by rw [hR.out.1]) ?_)
        rw [hR.out.1]
        apply Tn.eq; (case h => repeat (first | with_reducible exact KC.k.t | with_reducible apply Tn.drew | with_reducible apply Tn.drewN | with_reducible apply Tn.alloc | ((with_reducible apply Tn.other); (case hne => omega); (case hb => omega)))); (case e => rfl)
  · cases hon : s.nmiOn
    · rw [hon] at con
      have k1 := Ck.mk' (Tn.eq ((h.setNmiDue true).setNmiOn true) (show ({ s with nmiDue := true, nmiOn := true } : PC) = s.pins true from by unfold PC.pins; simp [hon])) (R := w.heap.size) (by simp)
      clear hon
      go_enter Tryz.func21, Tryz.ntmps21
      go_wp2_with (first | (go_at_call 31; refine j.mono ?_; rintro e w' ⟨rfl, rfl⟩))
      refine (Ck.call k1 (fun h => turn_any h irq (by rw [hP.out.1]; exact h5) (by rw [hP.out.1, hP.out.2]; exact hm))).mono ?_
      rintro e w1 ⟨rfl, k2, q1, q2, zz⟩
      rw [← hR.out.2.1]
      have hT : Hid (T9 = ((s.pins true).turn irq).1.ends ⟨ba, bd, bw, bf⟩) := hR.out.2.2
      generalize hS : ((s.pins true).turn irq).1 = S at *
      clear q1 q2 zz k1 j rr0 rr1 rr2 rr3 g1 g2 g3 g4 g5 g6 g7 g8 g9 g10 con cdue fz0
      have KL := Bk.late k2 ⟨ba, bd, bw, bf⟩
      have z1 := k2.facts
      obtain ⟨-, -, z0, z1, z2, z3, z4, z5, z6, z7, z8⟩ := z1
      simp only [BusI.val]
      cases bw
      · have e9 : Hid (T9 = S.tick) := by show _ = _; rw [hT.out]; unfold PC.ends; rw [if_pos (Or.inl rfl)]
        go_wp2_with fail
        refine (Bk.call KL (fun h => tick_any h)).mono ?_
        rintro e wx ⟨rfl, K9⟩
        rw [← e9.out] at K9
        obtain ⟨⟨rr0, rr1, rr2, rr3⟩, g1, g2, g3, g4, g5, g6, g7, g8, g9, g10⟩ := K9.k.facts
        have t0 := K9.c0
        have t1 := K9.c1
        have t2 := K9.c2
        have t3 := K9.c3
        have tf := K9.f
        have tr := K9.nr
        have tb := K9.nb
        have tl := K9.lt
        have ccyc := K9.k.c.ccyc
        have KC := K9.thru ((Tn.refl K9.k.c).setCyc (wrap64 (T9.cyc + 1)) (wr64_r _))
        go_wp2
        refine bodyPost_ret (v := .tuple #[BusI.val ⟨ba, bd, false, bf⟩, .bool true]) (by simp [results, Tryz.results21, go_sem, BusI.val, *]) rfl (And.intro (by rw [hR.out.1]) ?_)
        rw [hR.out.1]
        apply Tn.eq; (case h => repeat (first | with_reducible exact KC.k.t | with_reducible apply Tn.drew | with_reducible apply Tn.drewN | with_reducible apply Tn.alloc | ((with_reducible apply Tn.other); (case hne => omega); (case hb => omega)))); (case e => rfl)
      · by_cases ha : ba = 53248
        · subst ha
          have e9 : Hid (T9 = S) := by show _ = _; rw [hT.out]; unfold PC.ends; rw [if_neg (by simp)]
          obtain rfl := e9.out
          obtain ⟨⟨rr0, rr1, rr2, rr3⟩, g1, g2, g3, g4, g5, g6, g7, g8, g9, g10⟩ := k2.facts
          have ccyc := k2.c.ccyc
          have KC := k2.t.setCyc (wrap64 (T9.cyc + 1)) (wr64_r _)
          clear e9 hT KL
          go_wp2
          refine bodyPost_ret (v := .tuple #[BusI.val ⟨53248, bd, true, bf⟩, .bool true]) (by simp [results, Tryz.results21, go_sem, BusI.val, *]) rfl (And.intro (by rw [hR.out.1]) ?_)
          rw [hR.out.1]
          apply Tn.eq; (case h => repeat (first | with_reducible exact KC | with_reducible apply Tn.drew | with_reducible apply Tn.drewN | with_reducible apply Tn.alloc | ((with_reducible apply Tn.other); (case hne => omega); (case hb => omega)))); (case e => rfl)
        · have e9 : Hid (T9 = S.tick) := by show _ = _; rw [hT.out]; unfold PC.ends; rw [if_pos (Or.inr ha)]
          have ha' : (ba == 53248) = false := by simpa using ha
          clear ha
          go_wp2_with fail
          refine (Bk.call KL (fun h => tick_any h)).mono ?_
          rintro e wx ⟨rfl, K9⟩
          rw [← e9.out] at K9
          obtain ⟨⟨rr0, rr1, rr2, rr3⟩, g1, g2, g3, g4, g5, g6, g7, g8, g9, g10⟩ := K9.k.facts
          have t0 := K9.c0
          have t1 := K9.c1
          have t2 := K9.c2
          have t3 := K9.c3
          have tf := K9.f
          have tr := K9.nr
          have tb := K9.nb
          have tl := K9.lt
          have ccyc := K9.k.c.ccyc
          have KC := K9.thru ((Tn.refl K9.k.c).setCyc (wrap64 (T9.cyc + 1)) (wr64_r _))
          go_wp2
          refine bodyPost_ret (v := .tuple #[BusI.val ⟨ba, bd, true, bf⟩, .bool true]) (by simp [results, Tryz.results21, go_sem, BusI.val, *]) rfl (And.intro (by rw [hR.out.1]) ?_)
          rw [hR.out.1]
          apply Tn.eq; (case h => repeat (first | with_reducible exact KC.k.t | with_reducible apply Tn.drew | with_reducible apply Tn.drewN | with_reducible apply Tn.alloc | ((with_reducible apply Tn.other); (case hne => omega); (case hb => omega)))); (case e => rfl)
    · rw [hon] at con
      have k1 := Ck.mk' (Tn.eq (h.setNmiOn true) (show ({ s with nmiOn := true } : PC) = s.pins true from by unfold PC.pins; simp [hon])) (R := w.heap.size) (by simp)
      clear hon
      go_enter Tryz.func21, Tryz.ntmps21
      go_wp2_with (first | (go_at_call 31; refine j.mono ?_; rintro e w' ⟨rfl, rfl⟩))
      refine (Ck.call k1 (fun h => turn_any h irq (by rw [hP.out.1]; exact h5) (by rw [hP.out.1, hP.out.2]; exact hm))).mono ?_
      rintro e w1 ⟨rfl, k2, q1, q2, zz⟩
      rw [← hR.out.2.1]
      have hT : Hid (T9 = ((s.pins true).turn irq).1.ends ⟨ba, bd, bw, bf⟩) := hR.out.2.2
      generalize hS : ((s.pins true).turn irq).1 = S at *
      clear q1 q2 zz k1 j rr0 rr1 rr2 rr3 g1 g2 g3 g4 g5 g6 g7 g8 g9 g10 con cdue fz0
      have KL := Bk.late k2 ⟨ba, bd, bw, bf⟩
      have z1 := k2.facts
      obtain ⟨-, -, z0, z1, z2, z3, z4, z5, z6, z7, z8⟩ := z1
      simp only [BusI.val]
      cases bw
      · have e9 : Hid (T9 = S.tick) := by show _ = _; rw [hT.out]; unfold PC.ends; rw [if_pos (Or.inl rfl)]
        go_wp2_with fail
        refine (Bk.call KL (fun h => tick_any h)).mono ?_
        rintro e wx ⟨rfl, K9⟩
        rw [← e9.out] at K9
        obtain ⟨⟨rr0, rr1, rr2, rr3⟩, g1, g2, g3, g4, g5, g6, g7, g8, g9, g10⟩ := K9.k.facts
        have t0 := K9.c0
        have t1 := K9.c1
        have t2 := K9.c2
        have t3 := K9.c3
        have tf := K9.f
        have tr := K9.nr
        have tb := K9.nb
        have tl := K9.lt
        have ccyc := K9.k.c.ccyc
        have KC := K9.thru ((Tn.refl K9.k.c).setCyc (wrap64 (T9.cyc + 1)) (wr64_r _))
        go_wp2
        refine bodyPost_ret (v := .tuple #[BusI.val ⟨ba, bd, false, bf⟩, .bool true]) (by simp [results, Tryz.results21, go_sem, BusI.val, *]) rfl (And.intro (by rw [hR.out.1]) ?_)
        rw [hR.out.1]
        apply Tn.eq; (case h => repeat (first | with_reducible exact KC.k.t | with_reducible apply Tn.drew | with_reducible apply Tn.drewN | with_reducible apply Tn.alloc | ((with_reducible apply Tn.other); (case hne => omega); (case hb => omega)))); (case e => rfl)
      · by_cases ha : ba = 53248
        · subst ha
          have e9 : Hid (T9 = S) := by show _ = _; rw [hT.out]; unfold PC.ends; rw [if_neg (by simp)]
          obtain rfl := e9.out
          obtain ⟨⟨rr0, rr1, rr2, rr3⟩, g1, g2, g3, g4, g5, g6, g7, g8, g9, g10⟩ := k2.facts
          have ccyc := k2.c.ccyc
          have KC := k2.t.setCyc (wrap64 (T9.cyc + 1)) (wr64_r _)
          clear e9 hT KL
          go_wp2
          refine bodyPost_ret (v := .tuple #[BusI.val ⟨53248, bd, true, bf⟩, .bool true]) (by simp [results, Tryz.results21, go_sem, BusI.val, *]) rfl (And.intro (by rw [hR.out.1]) ?_)
          rw [hR.out.1]
          apply Tn.eq; (case h => repeat (first | with_reducible exact KC | with_reducible apply Tn.drew | with_reducible apply Tn.drewN | with_reducible apply Tn.alloc | ((with_reducible apply Tn.other); (case hne => omega); (case hb => omega)))); (case e => rfl)
        · have e9 : Hid (T9 = S.tick) := by show _ = _; rw [hT.out]; unfold PC.ends; rw [if_pos (Or.inr ha)]
          have ha' : (ba == 53248) = false := by simpa using ha
          clear ha
          go_wp2_with fail
          refine (Bk.call KL (fun h => tick_any h)).mono ?_
          rintro e wx ⟨rfl, K9⟩
          rw [← e9.out] at K9
          obtain ⟨⟨rr0, rr1, rr2, rr3⟩, g1, g2, g3, g4, g5, g6, g7, g8, g9, g10⟩ := K9.k.facts
          have t0 := K9.c0
          have t1 := K9.c1
          have t2 := K9.c2
          have t3 := K9.c3
          have tf := K9.f
          have tr := K9.nr
          have tb := K9.nb
          have tl := K9.lt
          have ccyc := K9.k.c.ccyc
          have KC := K9.thru ((Tn.refl K9.k.c).setCyc (wrap64 (T9.cyc + 1)) (wr64_r _))
          go_wp2
          refine bodyPost_ret (v := .tuple #[BusI.val ⟨ba, bd, true, bf⟩, .bool true]) (by simp [results, Tryz.results21, go_sem, BusI.val, *]) rfl (And.intro (by rw [hR.out.1]) ?_)
          rw [hR.out.1]
          apply Tn.eq; (case h => repeat (first | with_reducible exact KC.k.t | with_reducible apply Tn.drew | with_reducible apply Tn.drewN | with_reducible apply Tn.alloc | ((with_reducible apply Tn.other); (case hne => omega); (case hb => omega)))); (case e => rfl)

end Go.Proofs.YtcgjliflnnklnabGreat
