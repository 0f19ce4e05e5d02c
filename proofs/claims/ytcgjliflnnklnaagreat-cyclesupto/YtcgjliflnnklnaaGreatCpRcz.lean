/-
  Branches, walked: the last cycle.
-/
import Derived.Test.YtcgjliflnnklnaaGreatJ11
import Derived.Test.YtcgjliflnnklnaaGreatCpRbz
namespace Go.Proofs.YtcgjliflnnklnaaGreat
open Go.RowKit
set_option maxRecDepth 100000
set_option maxHeartbeats 8000000
variable {B : Nat} {s : PC} {w0 w : World}

theorem relative_d (h : Tn B s w0 w) (hk1 : s.step ≠ 1) (hk2 : s.step ≠ 2) :
    Calls Tryz.prog 122 #[.pointer (some ⟨B, 0, none⟩)] w fun e w' => e = .returned (s.relative).2.val ∧ Tn B (s.relative).1 w0 w' := by
  have c_step := h.c.cstep
  obtain ⟨hlt, hsz, n0, m0, fz0, n01, m01⟩ := h.pre
  have c_pc := h.c.cpc
  obtain ⟨p0, p1⟩ := h.c.rpc
  have k0 := Ck.mk' h (R := w.heap.size) rfl
  have e1 : (s.step == 1) = false := by simpa using hk1
  have e2 : (s.step == 2) = false := by simpa using hk2
  have c_ad := h.c.cad
  obtain ⟨a0, a1⟩ := h.c.rad
  obtain ⟨j1, j2⟩ := lo_r s.ad
  obtain ⟨j3, j4⟩ := hi_r s.pc p0 p1
  obtain ⟨j5, j6⟩ := join_r _ _ j1 j2 j3 j4
  have hrel : Hid (s.relative = ((s.read (joinI (loI s.ad) (hiI s.pc))).1.branch, (s.read (joinI (loI s.ad) (hiI s.pc))).2)) := by
    show _ = _
    unfold PC.relative; rw [if_neg hk1, if_neg hk2]
  rw [hrel.out]
  clear hrel
  generalize hA : (joinI (loI s.ad) (hiI s.pc)) = A at *
  go_enter Tryz.func122, Tryz.ntmps122
  go_upto_region 14 with fail
  go_cut [5] from 63 to 78 (fun q wc => ∃ Q, q = .pointer (some ⟨Q, 0, none⟩) ∧ Bk w0 B w.heap.size Q (s.read A).1 (s.read A).2 wc)
  case first =>
    go_region_with (first | (go_at_call 179; refine (lowOf_any _ _).mono ?_; rintro e w' ⟨rfl, rfl⟩) | (go_at_call 177; refine (highOf_any _ _ (by assumption) (by assumption)).mono ?_; rintro e w' ⟨rfl, rfl⟩) | (go_at_call 52; refine (join_any _ _ _ (by assumption) (by assumption) (by assumption) (by assumption)).mono ?_; rintro e w' ⟨rfl, rfl⟩; rw [hA]) | (go_at_call 103; refine Ck.gq w0 w.heap.size kq8 (fun h => read_any h _ nq5 nq5) ?_; intro w1 k q1 q2 zz; intros; (try simp at zz); (try replace zz := Nat.lt_of_succ_le zz); (try have zl : w.heap.size + 1 < w1.heap.size := (by omega)); (try have zm : w.heap.size < w1.heap.size := (by omega)); (try simp only [BusI.val])))
    all_goals (go_wp2_with fail; go_meet)
    all_goals first
      | exact ⟨_, rfl, Bk.late k _⟩
      | exact ⟨_, rfl, Bk.early k _ zl n01 (by omega) (by omega) ⟨_, (q1 _ 0 n01 (by simp)).trans (second4 _ _ _ _ 0)⟩ ⟨_, (q1 _ 1 n01 (by simp)).trans (second4 _ _ _ _ 1)⟩ ⟨_, (q1 _ 2 n01 (by simp)).trans (second4 _ _ _ _ 2)⟩ ⟨_, (q1 _ 3 n01 (by simp)).trans (second4 _ _ _ _ 3)⟩ (fun o => (q2 _ o n01 (by simp)).trans (second4f _ _ _ _ o)) rfl⟩
  case rest =>
  obtain ⟨Q, rfl, K⟩ := hcut
  clear k0 c_step c_pc fz0
  generalize hS : (s.read A).1 = S at *
  generalize hb : (s.read A).2 = b at *

  go_wp2_with fail
  refine (Bk.call K (fun h => branch_any h)).mono ?_
  rintro e w2 ⟨rfl, K2⟩
  obtain ⟨⟨rr0, rr1, rr2, rr3⟩, g1, g2, g3, g4, g5, g6, g7, g8, g9, g10⟩ := K2.k.facts
  have t0 := K2.c0
  have t1 := K2.c1
  have t2 := K2.c2
  have t3 := K2.c3
  have tf := K2.f
  have tr := K2.nr
  have tl := K2.lt
  go_wp2
  refine bodyPost_ret (v := BusI.val b) (by simp [results, Tryz.results122, go_sem, BusI.val, *]) rfl (And.intro (by rw [hb]) ?_)
  apply Tn.eq; (case h => repeat (first | with_reducible exact K2.k.t | with_reducible apply Tn.drew | with_reducible apply Tn.drewN | with_reducible apply Tn.alloc | ((with_reducible apply Tn.other); (case hne => omega); (case hb => omega)))); (case e => rw [hS])

end Go.Proofs.YtcgjliflnnklnaaGreat
