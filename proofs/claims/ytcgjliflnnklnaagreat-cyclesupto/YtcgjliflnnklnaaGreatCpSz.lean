/-
  Jumps: walked.
-/
import Derived.Test.YtcgjliflnnklnaaGreatJ11
import Derived.Test.YtcgjliflnnklnaaGreatCpEz
import Derived.Test.YtcgjliflnnklnaaGreatJ12
namespace Go.Proofs.YtcgjliflnnklnaaGreat
open Go.RowKit
set_option maxRecDepth 100000
set_option maxHeartbeats 1000000
variable {B : Nat} {s : PC} {w0 w : World}

theorem jumpAbsolute_1 (h : Tn B s w0 w) (hk : s.step = 1) :
    Calls Tryz.prog 123 #[.pointer (some ⟨B, 0, none⟩)] w fun e w' => e = .returned (s.jumpAbsolute).2.val ∧ Tn B (s.jumpAbsolute).1 w0 w' := by
  have c_step := h.c.cstep; obtain ⟨l_step, u_step⟩ := h.c.rstep; have c_pc := h.c.cpc; obtain ⟨l_pc, u_pc⟩ := h.c.rpc
  have hu : Hid (s.jumpAbsolute = takeLow s.readNext) := by show _ = _; unfold PC.jumpAbsolute; rw [if_pos hk]
  rw [hu.out]
  rw [hk] at c_step
  obtain ⟨hlt, hsz, n0, m0, fz0, -⟩ := h.pre
  go_enter Tryz.func123, Tryz.ntmps123
  go_wp2_with (first | (go_at_call 169; refine Ck.go w0 w.heap.size kq6 (fun h => readNext_any h) ?_; intro w1 k; intros; have c_pc := k.c.cpc; obtain ⟨l_pc, u_pc⟩ := k.c.rpc; (try simp only [BusI.val])) | (go_at_call 170; refine Ck.go w0 w.heap.size kq6 (fun h => takeLow_any h ⟨_, _, _, _⟩) ?_; intro w1 k; intros; have c_pc := k.c.cpc; obtain ⟨l_pc, u_pc⟩ := k.c.rpc; (try simp only [BusI.val])))
  all_goals (have hr := Tryz.results123; exact bodyPost_ret brq rfl ⟨rfl, tq1⟩)

theorem jumpAbsolute_d (h : Tn B s w0 w) (hk1 : (s.step == 1) = false) :
    Calls Tryz.prog 123 #[.pointer (some ⟨B, 0, none⟩)] w fun e w' => e = .returned (s.jumpAbsolute).2.val ∧ Tn B (s.jumpAbsolute).1 w0 w' := by
  have c_step := h.c.cstep; obtain ⟨l_step, u_step⟩ := h.c.rstep; have c_pc := h.c.cpc; obtain ⟨l_pc, u_pc⟩ := h.c.rpc
  have hu : Hid (s.jumpAbsolute = goThere (s.read s.pc)) := by show _ = _; unfold PC.jumpAbsolute; rw [if_neg (by simpa using hk1)]
  rw [hu.out]
  obtain ⟨hlt, hsz, n0, m0, fz0, -⟩ := h.pre
  go_enter Tryz.func123, Tryz.ntmps123
  go_wp2_with (first | (go_at_call 103; refine Ck.go w0 w.heap.size kq6 (fun h => read_any h _ nq5 nq5) ?_; intro w1 k; intros; have c_pc := k.c.cpc; obtain ⟨l_pc, u_pc⟩ := k.c.rpc; (try simp only [BusI.val])) | (go_at_call 180; refine Ck.go w0 w.heap.size kq6 (fun h => goThere_any h ⟨_, _, _, _⟩) ?_; intro w1 k; intros; have c_pc := k.c.cpc; obtain ⟨l_pc, u_pc⟩ := k.c.rpc; (try simp only [BusI.val])))
  all_goals (try go_region_with (first | (go_at_call 103; refine Ck.go w0 w.heap.size kq6 (fun h => read_any h _ nq5 nq5) ?_; intro w1 k; intros; have c_pc := k.c.cpc; obtain ⟨l_pc, u_pc⟩ := k.c.rpc; (try simp only [BusI.val])) | (go_at_call 180; refine Ck.go w0 w.heap.size kq6 (fun h => goThere_any h ⟨_, _, _, _⟩) ?_; intro w1 k; intros; have c_pc := k.c.cpc; obtain ⟨l_pc, u_pc⟩ := k.c.rpc; (try simp only [BusI.val]))))
  all_goals (try go_wp2_with (first | (go_at_call 103; refine Ck.go w0 w.heap.size kq6 (fun h => read_any h _ nq5 nq5) ?_; intro w1 k; intros; have c_pc := k.c.cpc; obtain ⟨l_pc, u_pc⟩ := k.c.rpc; (try simp only [BusI.val])) | (go_at_call 180; refine Ck.go w0 w.heap.size kq6 (fun h => goThere_any h ⟨_, _, _, _⟩) ?_; intro w1 k; intros; have c_pc := k.c.cpc; obtain ⟨l_pc, u_pc⟩ := k.c.rpc; (try simp only [BusI.val]))))
  all_goals (have hr := Tryz.results123; exact bodyPost_ret brq rfl ⟨rfl, tq1⟩)

theorem jumpAbsolute_any (h : Tn B s w0 w) :
    Calls Tryz.prog 123 #[.pointer (some ⟨B, 0, none⟩)] w fun e w' => e = .returned (s.jumpAbsolute).2.val ∧ Tn B (s.jumpAbsolute).1 w0 w' := by
  by_cases e1 : s.step = 1
  · exact jumpAbsolute_1 h  e1
  exact jumpAbsolute_d h  (by simpa using e1)

theorem jumpIndirect_1 (h : Tn B s w0 w) (hk : s.step = 1) :
    Calls Tryz.prog 124 #[.pointer (some ⟨B, 0, none⟩)] w fun e w' => e = .returned (s.jumpIndirect).2.val ∧ Tn B (s.jumpIndirect).1 w0 w' := by
  have c_step := h.c.cstep; obtain ⟨l_step, u_step⟩ := h.c.rstep; have c_pc := h.c.cpc; obtain ⟨l_pc, u_pc⟩ := h.c.rpc; have c_hop := h.c.chop; obtain ⟨l_hop, u_hop⟩ := h.c.rhop; have c_ad := h.c.cad; obtain ⟨l_ad, u_ad⟩ := h.c.rad
  have hu : Hid (s.jumpIndirect = takeLow s.readNext) := by show _ = _; unfold PC.jumpIndirect; rw [if_pos hk]
  rw [hu.out]
  rw [hk] at c_step
  obtain ⟨hlt, hsz, n0, m0, fz0, -⟩ := h.pre
  go_enter Tryz.func124, Tryz.ntmps124
  go_wp2_with (first | (go_at_call 169; refine Ck.go w0 w.heap.size kq14 (fun h => readNext_any h) ?_; intro w1 k; intros; have c_hop := k.c.chop; obtain ⟨l_hop, u_hop⟩ := k.c.rhop; have c_ad := k.c.cad; obtain ⟨l_ad, u_ad⟩ := k.c.rad; (try simp only [BusI.val])) | (go_at_call 170; refine Ck.go w0 w.heap.size kq14 (fun h => takeLow_any h ⟨_, _, _, _⟩) ?_; intro w1 k; intros; have c_hop := k.c.chop; obtain ⟨l_hop, u_hop⟩ := k.c.rhop; have c_ad := k.c.cad; obtain ⟨l_ad, u_ad⟩ := k.c.rad; (try simp only [BusI.val])))
  all_goals (have hr := Tryz.results124; exact bodyPost_ret brq rfl ⟨rfl, tq6⟩)

theorem jumpIndirect_2 (h : Tn B s w0 w) (hk : s.step = 2) :
    Calls Tryz.prog 124 #[.pointer (some ⟨B, 0, none⟩)] w fun e w' => e = .returned (s.jumpIndirect).2.val ∧ Tn B (s.jumpIndirect).1 w0 w' := by
  have c_step := h.c.cstep; obtain ⟨l_step, u_step⟩ := h.c.rstep; have c_pc := h.c.cpc; obtain ⟨l_pc, u_pc⟩ := h.c.rpc; have c_hop := h.c.chop; obtain ⟨l_hop, u_hop⟩ := h.c.rhop; have c_ad := h.c.cad; obtain ⟨l_ad, u_ad⟩ := h.c.rad
  have hu : Hid (s.jumpIndirect = ({ (takeHigh s.readNext).1 with hop := (takeHigh s.readNext).1.ad }, (takeHigh s.readNext).2)) := by show _ = _; unfold PC.jumpIndirect; rw [if_neg (by rw [hk]; decide), if_pos hk]
  rw [hu.out]
  rw [hk] at c_step
  obtain ⟨hlt, hsz, n0, m0, fz0, n01, m01⟩ := h.pre
  go_enter Tryz.func124, Tryz.ntmps124
  go_wp2_with (first | (go_at_call 169; refine Ck.gq w0 w.heap.size kq15 (fun h => readNext_any h) ?_; intro w1 k q1 q2 zz; intros; (try simp at zz); (try replace zz := Nat.lt_of_succ_le zz); (try have zl : w.heap.size + 1 < w1.heap.size := (by omega)); (try have zm : w.heap.size < w1.heap.size := (by omega)); have c_hop := k.c.chop; obtain ⟨l_hop, u_hop⟩ := k.c.rhop; have c_ad := k.c.cad; obtain ⟨l_ad, u_ad⟩ := k.c.rad; (try simp only [BusI.val])) | (go_at_call 172; refine Ck.gq w0 w.heap.size kq15 (fun h => takeHigh_any h ⟨_, _, _, _⟩) ?_; intro w1 k q1 q2 zz; intros; (try simp at zz); (try replace zz := Nat.lt_of_succ_le zz); (try have zl : w.heap.size + 1 < w1.heap.size := (by omega)); (try have zm : w.heap.size < w1.heap.size := (by omega)); have c_hop := k.c.chop; obtain ⟨l_hop, u_hop⟩ := k.c.rhop; have c_ad := k.c.cad; obtain ⟨l_ad, u_ad⟩ := k.c.rad; (try simp only [BusI.val])))
  all_goals (have hr := Tryz.results124; exact bodyPost_ret brq rfl ⟨rfl, tq6⟩)

theorem jumpIndirect_3 (h : Tn B s w0 w) (hk : s.step = 3) :
    Calls Tryz.prog 124 #[.pointer (some ⟨B, 0, none⟩)] w fun e w' => e = .returned (s.jumpIndirect).2.val ∧ Tn B (s.jumpIndirect).1 w0 w' := by
  have c_step := h.c.cstep; obtain ⟨l_step, u_step⟩ := h.c.rstep; have c_pc := h.c.cpc; obtain ⟨l_pc, u_pc⟩ := h.c.rpc; have c_hop := h.c.chop; obtain ⟨l_hop, u_hop⟩ := h.c.rhop; have c_ad := h.c.cad; obtain ⟨l_ad, u_ad⟩ := h.c.rad
  have hu : Hid (s.jumpIndirect = takeLow (s.read s.hop)) := by show _ = _; unfold PC.jumpIndirect; rw [if_neg (by rw [hk]; decide), if_neg (by rw [hk]; decide), if_pos hk]
  rw [hu.out]
  rw [hk] at c_step
  obtain ⟨hlt, hsz, n0, m0, fz0, -⟩ := h.pre
  go_enter Tryz.func124, Tryz.ntmps124
  go_wp2_with (first | (go_at_call 103; refine Ck.go w0 w.heap.size kq14 (fun h => read_any h _ nq5 nq5) ?_; intro w1 k; intros; have c_hop := k.c.chop; obtain ⟨l_hop, u_hop⟩ := k.c.rhop; have c_ad := k.c.cad; obtain ⟨l_ad, u_ad⟩ := k.c.rad; (try simp only [BusI.val])) | (go_at_call 170; refine Ck.go w0 w.heap.size kq14 (fun h => takeLow_any h ⟨_, _, _, _⟩) ?_; intro w1 k; intros; have c_hop := k.c.chop; obtain ⟨l_hop, u_hop⟩ := k.c.rhop; have c_ad := k.c.cad; obtain ⟨l_ad, u_ad⟩ := k.c.rad; (try simp only [BusI.val])))
  all_goals (try go_region_with (first | (go_at_call 103; refine Ck.go w0 w.heap.size kq14 (fun h => read_any h _ nq5 nq5) ?_; intro w1 k; intros; have c_hop := k.c.chop; obtain ⟨l_hop, u_hop⟩ := k.c.rhop; have c_ad := k.c.cad; obtain ⟨l_ad, u_ad⟩ := k.c.rad; (try simp only [BusI.val])) | (go_at_call 170; refine Ck.go w0 w.heap.size kq14 (fun h => takeLow_any h ⟨_, _, _, _⟩) ?_; intro w1 k; intros; have c_hop := k.c.chop; obtain ⟨l_hop, u_hop⟩ := k.c.rhop; have c_ad := k.c.cad; obtain ⟨l_ad, u_ad⟩ := k.c.rad; (try simp only [BusI.val]))))
  all_goals (try go_wp2_with (first | (go_at_call 103; refine Ck.go w0 w.heap.size kq14 (fun h => read_any h _ nq5 nq5) ?_; intro w1 k; intros; have c_hop := k.c.chop; obtain ⟨l_hop, u_hop⟩ := k.c.rhop; have c_ad := k.c.cad; obtain ⟨l_ad, u_ad⟩ := k.c.rad; (try simp only [BusI.val])) | (go_at_call 170; refine Ck.go w0 w.heap.size kq14 (fun h => takeLow_any h ⟨_, _, _, _⟩) ?_; intro w1 k; intros; have c_hop := k.c.chop; obtain ⟨l_hop, u_hop⟩ := k.c.rhop; have c_ad := k.c.cad; obtain ⟨l_ad, u_ad⟩ := k.c.rad; (try simp only [BusI.val]))))
  all_goals (have hr := Tryz.results124; exact bodyPost_ret brq rfl ⟨rfl, tq6⟩)

theorem jumpIndirect_d (h : Tn B s w0 w) (hk1 : (s.step == 1) = false) (hk2 : (s.step == 2) = false) (hk3 : (s.step == 3) = false) :
    Calls Tryz.prog 124 #[.pointer (some ⟨B, 0, none⟩)] w fun e w' => e = .returned (s.jumpIndirect).2.val ∧ Tn B (s.jumpIndirect).1 w0 w' := by
  have c_step := h.c.cstep; obtain ⟨l_step, u_step⟩ := h.c.rstep; have c_pc := h.c.cpc; obtain ⟨l_pc, u_pc⟩ := h.c.rpc; have c_hop := h.c.chop; obtain ⟨l_hop, u_hop⟩ := h.c.rhop; have c_ad := h.c.cad; obtain ⟨l_ad, u_ad⟩ := h.c.rad
  have hu : Hid (s.jumpIndirect = goThere (s.read (withinI s.hop 1))) := by show _ = _; unfold PC.jumpIndirect; rw [if_neg (by simpa using hk1), if_neg (by simpa using hk2), if_neg (by simpa using hk3)]
  rw [hu.out]
  obtain ⟨hlt, hsz, n0, m0, fz0, -⟩ := h.pre
  go_enter Tryz.func124, Tryz.ntmps124
  go_wp2_with (first | (go_at_call 175; refine (within_any _ _ _ nq5 nq5).mono ?_; rintro e w' ⟨rfl, rfl⟩) | (go_at_call 103; refine Ck.go w0 w.heap.size kq14 (fun h => read_any h _ nq5 nq5) ?_; intro w1 k; intros; have c_hop := k.c.chop; obtain ⟨l_hop, u_hop⟩ := k.c.rhop; have c_ad := k.c.cad; obtain ⟨l_ad, u_ad⟩ := k.c.rad; (try simp only [BusI.val])) | (go_at_call 180; refine Ck.go w0 w.heap.size kq14 (fun h => goThere_any h ⟨_, _, _, _⟩) ?_; intro w1 k; intros; have c_hop := k.c.chop; obtain ⟨l_hop, u_hop⟩ := k.c.rhop; have c_ad := k.c.cad; obtain ⟨l_ad, u_ad⟩ := k.c.rad; (try simp only [BusI.val])))
  all_goals (try go_region_with (first | (go_at_call 175; refine (within_any _ _ _ nq5 nq5).mono ?_; rintro e w' ⟨rfl, rfl⟩) | (go_at_call 103; refine Ck.go w0 w.heap.size kq14 (fun h => read_any h _ nq5 nq5) ?_; intro w1 k; intros; have c_hop := k.c.chop; obtain ⟨l_hop, u_hop⟩ := k.c.rhop; have c_ad := k.c.cad; obtain ⟨l_ad, u_ad⟩ := k.c.rad; (try simp only [BusI.val])) | (go_at_call 180; refine Ck.go w0 w.heap.size kq14 (fun h => goThere_any h ⟨_, _, _, _⟩) ?_; intro w1 k; intros; have c_hop := k.c.chop; obtain ⟨l_hop, u_hop⟩ := k.c.rhop; have c_ad := k.c.cad; obtain ⟨l_ad, u_ad⟩ := k.c.rad; (try simp only [BusI.val]))))
  all_goals (try go_wp2_with (first | (go_at_call 175; refine (within_any _ _ _ nq5 nq5).mono ?_; rintro e w' ⟨rfl, rfl⟩) | (go_at_call 103; refine Ck.go w0 w.heap.size kq14 (fun h => read_any h _ nq5 nq5) ?_; intro w1 k; intros; have c_hop := k.c.chop; obtain ⟨l_hop, u_hop⟩ := k.c.rhop; have c_ad := k.c.cad; obtain ⟨l_ad, u_ad⟩ := k.c.rad; (try simp only [BusI.val])) | (go_at_call 180; refine Ck.go w0 w.heap.size kq14 (fun h => goThere_any h ⟨_, _, _, _⟩) ?_; intro w1 k; intros; have c_hop := k.c.chop; obtain ⟨l_hop, u_hop⟩ := k.c.rhop; have c_ad := k.c.cad; obtain ⟨l_ad, u_ad⟩ := k.c.rad; (try simp only [BusI.val]))))
  all_goals (have hr := Tryz.results124; exact bodyPost_ret brq rfl ⟨rfl, tq6⟩)

theorem jumpIndirect_any (h : Tn B s w0 w) :
    Calls Tryz.prog 124 #[.pointer (some ⟨B, 0, none⟩)] w fun e w' => e = .returned (s.jumpIndirect).2.val ∧ Tn B (s.jumpIndirect).1 w0 w' := by
  by_cases e1 : s.step = 1
  · exact jumpIndirect_1 h  e1
  by_cases e2 : s.step = 2
  · exact jumpIndirect_2 h  e2
  by_cases e3 : s.step = 3
  · exact jumpIndirect_3 h  e3
  exact jumpIndirect_d h  (by simpa using e1) (by simpa using e2) (by simpa using e3)

theorem callSubroutine_1 (h : Tn B s w0 w) (hk : s.step = 1) :
    Calls Tryz.prog 125 #[.pointer (some ⟨B, 0, none⟩)] w fun e w' => e = .returned (s.callSubroutine).2.val ∧ Tn B (s.callSubroutine).1 w0 w' := by
  have c_step := h.c.cstep; obtain ⟨l_step, u_step⟩ := h.c.rstep; have c_pc := h.c.cpc; obtain ⟨l_pc, u_pc⟩ := h.c.rpc; have c_s := h.c.cs; obtain ⟨l_s, u_s⟩ := h.c.rs
  have hu : Hid (s.callSubroutine = takeLow s.readNext) := by show _ = _; unfold PC.callSubroutine; rw [if_pos hk]
  rw [hu.out]
  rw [hk] at c_step
  obtain ⟨hlt, hsz, n0, m0, fz0, -⟩ := h.pre
  go_enter Tryz.func125, Tryz.ntmps125
  go_wp2_with (first | (go_at_call 169; refine Ck.go w0 w.heap.size kq6 (fun h => readNext_any h) ?_; intro w1 k; intros; have c_pc := k.c.cpc; obtain ⟨l_pc, u_pc⟩ := k.c.rpc; (try simp only [BusI.val])) | (go_at_call 170; refine Ck.go w0 w.heap.size kq6 (fun h => takeLow_any h ⟨_, _, _, _⟩) ?_; intro w1 k; intros; have c_pc := k.c.cpc; obtain ⟨l_pc, u_pc⟩ := k.c.rpc; (try simp only [BusI.val])))
  all_goals (have hr := Tryz.results125; exact bodyPost_ret brq rfl ⟨rfl, tq1⟩)

theorem callSubroutine_2 (h : Tn B s w0 w) (hk : s.step = 2) :
    Calls Tryz.prog 125 #[.pointer (some ⟨B, 0, none⟩)] w fun e w' => e = .returned (s.callSubroutine).2.val ∧ Tn B (s.callSubroutine).1 w0 w' := by
  have c_step := h.c.cstep; obtain ⟨l_step, u_step⟩ := h.c.rstep; have c_pc := h.c.cpc; obtain ⟨l_pc, u_pc⟩ := h.c.rpc; have c_s := h.c.cs; obtain ⟨l_s, u_s⟩ := h.c.rs
  have hu : Hid (s.callSubroutine = s.read s.stackTop) := by show _ = _; unfold PC.callSubroutine; rw [if_neg (by rw [hk]; decide), if_pos hk]
  rw [hu.out]
  rw [hk] at c_step
  obtain ⟨hlt, hsz, n0, m0, fz0, -⟩ := h.pre
  go_enter Tryz.func125, Tryz.ntmps125
  go_wp2_with (first | (go_at_call 181; refine (Ck.same (w0 := w0) (R := w.heap.size) kq6 (fun h => stackTop_any h)).mono ?_; rintro e w' ⟨rfl, rfl⟩) | (go_at_call 103; refine Ck.go w0 w.heap.size kq6 (fun h => read_any h _ nq5 nq5) ?_; intro w1 k; intros; have c_pc := k.c.cpc; obtain ⟨l_pc, u_pc⟩ := k.c.rpc; (try simp only [BusI.val])))
  all_goals (try go_region_with (first | (go_at_call 181; refine (Ck.same (w0 := w0) (R := w.heap.size) kq6 (fun h => stackTop_any h)).mono ?_; rintro e w' ⟨rfl, rfl⟩) | (go_at_call 103; refine Ck.go w0 w.heap.size kq6 (fun h => read_any h _ nq5 nq5) ?_; intro w1 k; intros; have c_pc := k.c.cpc; obtain ⟨l_pc, u_pc⟩ := k.c.rpc; (try simp only [BusI.val]))))
  all_goals (try go_wp2_with (first | (go_at_call 181; refine (Ck.same (w0 := w0) (R := w.heap.size) kq6 (fun h => stackTop_any h)).mono ?_; rintro e w' ⟨rfl, rfl⟩) | (go_at_call 103; refine Ck.go w0 w.heap.size kq6 (fun h => read_any h _ nq5 nq5) ?_; intro w1 k; intros; have c_pc := k.c.cpc; obtain ⟨l_pc, u_pc⟩ := k.c.rpc; (try simp only [BusI.val]))))
  all_goals (have hr := Tryz.results125; exact bodyPost_ret brq rfl ⟨rfl, tq1⟩)

theorem callSubroutine_3 (h : Tn B s w0 w) (hk : s.step = 3) :
    Calls Tryz.prog 125 #[.pointer (some ⟨B, 0, none⟩)] w fun e w' => e = .returned (s.callSubroutine).2.val ∧ Tn B (s.callSubroutine).1 w0 w' := by
  have c_step := h.c.cstep; obtain ⟨l_step, u_step⟩ := h.c.rstep; have c_pc := h.c.cpc; obtain ⟨l_pc, u_pc⟩ := h.c.rpc; have c_s := h.c.cs; obtain ⟨l_s, u_s⟩ := h.c.rs
  have hu : Hid (s.callSubroutine = s.pushed (hiI s.pc)) := by show _ = _; unfold PC.callSubroutine; rw [if_neg (by rw [hk]; decide), if_neg (by rw [hk]; decide), if_pos hk]
  rw [hu.out]
  rw [hk] at c_step
  obtain ⟨hlt, hsz, n0, m0, fz0, -⟩ := h.pre
  go_enter Tryz.func125, Tryz.ntmps125
  go_wp2_with (first | (go_at_call 177; refine (highOf_any _ _ nq5 nq5).mono ?_; rintro e w' ⟨rfl, rfl⟩) | (go_at_call 182; refine Ck.go w0 w.heap.size kq6 (fun h => pushed_any h _ nq5 nq5) ?_; intro w1 k; intros; have c_pc := k.c.cpc; obtain ⟨l_pc, u_pc⟩ := k.c.rpc; (try simp only [BusI.val])))
  all_goals (have hr := Tryz.results125; exact bodyPost_ret brq rfl ⟨rfl, tq1⟩)

theorem callSubroutine_4 (h : Tn B s w0 w) (hk : s.step = 4) :
    Calls Tryz.prog 125 #[.pointer (some ⟨B, 0, none⟩)] w fun e w' => e = .returned (s.callSubroutine).2.val ∧ Tn B (s.callSubroutine).1 w0 w' := by
  have c_step := h.c.cstep; obtain ⟨l_step, u_step⟩ := h.c.rstep; have c_pc := h.c.cpc; obtain ⟨l_pc, u_pc⟩ := h.c.rpc; have c_s := h.c.cs; obtain ⟨l_s, u_s⟩ := h.c.rs
  have hu : Hid (s.callSubroutine = s.pushed (loI s.pc)) := by show _ = _; unfold PC.callSubroutine; rw [if_neg (by rw [hk]; decide), if_neg (by rw [hk]; decide), if_neg (by rw [hk]; decide), if_pos hk]
  rw [hu.out]
  rw [hk] at c_step
  obtain ⟨hlt, hsz, n0, m0, fz0, -⟩ := h.pre
  go_enter Tryz.func125, Tryz.ntmps125
  go_wp2_with (first | (go_at_call 179; refine (lowOf_any _ _).mono ?_; rintro e w' ⟨rfl, rfl⟩) | (go_at_call 182; refine Ck.go w0 w.heap.size kq6 (fun h => pushed_any h _ nq5 nq5) ?_; intro w1 k; intros; have c_pc := k.c.cpc; obtain ⟨l_pc, u_pc⟩ := k.c.rpc; (try simp only [BusI.val])))
  all_goals (have hr := Tryz.results125; exact bodyPost_ret brq rfl ⟨rfl, tq1⟩)

theorem callSubroutine_d (h : Tn B s w0 w) (hk1 : (s.step == 1) = false) (hk2 : (s.step == 2) = false) (hk3 : (s.step == 3) = false) (hk4 : (s.step == 4) = false) :
    Calls Tryz.prog 125 #[.pointer (some ⟨B, 0, none⟩)] w fun e w' => e = .returned (s.callSubroutine).2.val ∧ Tn B (s.callSubroutine).1 w0 w' := by
  have c_step := h.c.cstep; obtain ⟨l_step, u_step⟩ := h.c.rstep; have c_pc := h.c.cpc; obtain ⟨l_pc, u_pc⟩ := h.c.rpc; have c_s := h.c.cs; obtain ⟨l_s, u_s⟩ := h.c.rs
  have hu : Hid (s.callSubroutine = goThere (s.read s.pc)) := by show _ = _; unfold PC.callSubroutine; rw [if_neg (by simpa using hk1), if_neg (by simpa using hk2), if_neg (by simpa using hk3), if_neg (by simpa using hk4)]
  rw [hu.out]
  obtain ⟨hlt, hsz, n0, m0, fz0, -⟩ := h.pre
  go_enter Tryz.func125, Tryz.ntmps125
  go_wp2_with (first | (go_at_call 103; refine Ck.go w0 w.heap.size kq6 (fun h => read_any h _ nq5 nq5) ?_; intro w1 k; intros; have c_pc := k.c.cpc; obtain ⟨l_pc, u_pc⟩ := k.c.rpc; (try simp only [BusI.val])) | (go_at_call 180; refine Ck.go w0 w.heap.size kq6 (fun h => goThere_any h ⟨_, _, _, _⟩) ?_; intro w1 k; intros; have c_pc := k.c.cpc; obtain ⟨l_pc, u_pc⟩ := k.c.rpc; (try simp only [BusI.val])))
  all_goals (try go_region_with (first | (go_at_call 103; refine Ck.go w0 w.heap.size kq6 (fun h => read_any h _ nq5 nq5) ?_; intro w1 k; intros; have c_pc := k.c.cpc; obtain ⟨l_pc, u_pc⟩ := k.c.rpc; (try simp only [BusI.val])) | (go_at_call 180; refine Ck.go w0 w.heap.size kq6 (fun h => goThere_any h ⟨_, _, _, _⟩) ?_; intro w1 k; intros; have c_pc := k.c.cpc; obtain ⟨l_pc, u_pc⟩ := k.c.rpc; (try simp only [BusI.val]))))
  all_goals (try go_wp2_with (first | (go_at_call 103; refine Ck.go w0 w.heap.size kq6 (fun h => read_any h _ nq5 nq5) ?_; intro w1 k; intros; have c_pc := k.c.cpc; obtain ⟨l_pc, u_pc⟩ := k.c.rpc; (try simp only [BusI.val])) | (go_at_call 180; refine Ck.go w0 w.heap.size kq6 (fun h => goThere_any h ⟨_, _, _, _⟩) ?_; intro w1 k; intros; have c_pc := k.c.cpc; obtain ⟨l_pc, u_pc⟩ := k.c.rpc; (try simp only [BusI.val]))))
  all_goals (have hr := Tryz.results125; exact bodyPost_ret brq rfl ⟨rfl, tq1⟩)

theorem callSubroutine_any (h : Tn B s w0 w) :
    Calls Tryz.prog 125 #[.pointer (some ⟨B, 0, none⟩)] w fun e w' => e = .returned (s.callSubroutine).2.val ∧ Tn B (s.callSubroutine).1 w0 w' := by
  by_cases e1 : s.step = 1
  · exact callSubroutine_1 h  e1
  by_cases e2 : s.step = 2
  · exact callSubroutine_2 h  e2
  by_cases e3 : s.step = 3
  · exact callSubroutine_3 h  e3
  by_cases e4 : s.step = 4
  · exact callSubroutine_4 h  e4
  exact callSubroutine_d h  (by simpa using e1) (by simpa using e2) (by simpa using e3) (by simpa using e4)

end Go.Proofs.YtcgjliflnnklnaaGreat
