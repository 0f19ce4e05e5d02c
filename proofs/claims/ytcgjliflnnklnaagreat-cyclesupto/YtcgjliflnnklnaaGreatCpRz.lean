/-
  Indirect modes: walked.
-/
import Derived.Test.YtcgjliflnnklnaaGreatJ11
import Derived.Test.YtcgjliflnnklnaaGreatCpQz
namespace Go.Proofs.YtcgjliflnnklnaaGreat
open Go.RowKit
set_option maxRecDepth 100000
set_option maxHeartbeats 1000000
variable {B : Nat} {s : PC} {w0 w : World}

theorem indirectX_1 (h : Tn B s w0 w) (hk : s.step = 1) :
    Calls Tryz.prog 120 #[.pointer (some ⟨B, 0, none⟩)] w fun e w' => e = .returned (s.indirectX).2.val ∧ Tn B (s.indirectX).1 w0 w' := by
  have c_step := h.c.cstep; obtain ⟨l_step, u_step⟩ := h.c.rstep; have c_pc := h.c.cpc; obtain ⟨l_pc, u_pc⟩ := h.c.rpc; have c_hop := h.c.chop; obtain ⟨l_hop, u_hop⟩ := h.c.rhop; have c_x := h.c.cx; obtain ⟨l_x, u_x⟩ := h.c.rx; have c_st := h.c.cst; obtain ⟨l_st, u_st⟩ := h.c.rst
  have hu : Hid (s.indirectX = takeHop s.readNext) := by show _ = _; unfold PC.indirectX; rw [if_pos hk]
  rw [hu.out]
  rw [hk] at c_step
  obtain ⟨hlt, hsz, n0, m0, fz0, -⟩ := h.pre
  go_enter Tryz.func120, Tryz.ntmps120
  go_wp2_with (first | (go_at_call 169; refine Ck.go w0 w.heap.size kq12 (fun h => readNext_any h) ?_; intro w1 k; intros; have c_hop := k.c.chop; obtain ⟨l_hop, u_hop⟩ := k.c.rhop; have c_x := k.c.cx; obtain ⟨l_x, u_x⟩ := k.c.rx; (try simp only [BusI.val])) | (go_at_call 174; refine Ck.go w0 w.heap.size kq12 (fun h => takeHop_any h ⟨_, _, _, _⟩) ?_; intro w1 k; intros; have c_hop := k.c.chop; obtain ⟨l_hop, u_hop⟩ := k.c.rhop; have c_x := k.c.cx; obtain ⟨l_x, u_x⟩ := k.c.rx; (try simp only [BusI.val])))
  all_goals (have hr := Tryz.results120; exact bodyPost_ret brq rfl ⟨rfl, tq5⟩)

theorem indirectX_2 (h : Tn B s w0 w) (hk : s.step = 2) :
    Calls Tryz.prog 120 #[.pointer (some ⟨B, 0, none⟩)] w fun e w' => e = .returned (s.indirectX).2.val ∧ Tn B (s.indirectX).1 w0 w' := by
  have c_step := h.c.cstep; obtain ⟨l_step, u_step⟩ := h.c.rstep; have c_pc := h.c.cpc; obtain ⟨l_pc, u_pc⟩ := h.c.rpc; have c_hop := h.c.chop; obtain ⟨l_hop, u_hop⟩ := h.c.rhop; have c_x := h.c.cx; obtain ⟨l_x, u_x⟩ := h.c.rx; have c_st := h.c.cst; obtain ⟨l_st, u_st⟩ := h.c.rst
  have hu : Hid (s.indirectX = ({ (s.read s.hop).1 with hop := withinI (s.read s.hop).1.hop (s.read s.hop).1.x }, (s.read s.hop).2)) := by show _ = _; unfold PC.indirectX; rw [if_neg (by rw [hk]; decide), if_pos hk]
  rw [hu.out]
  rw [hk] at c_step
  obtain ⟨hlt, hsz, n0, m0, fz0, n01, m01⟩ := h.pre
  go_enter Tryz.func120, Tryz.ntmps120
  go_wp2_with (first | (go_at_call 103; refine Ck.gq w0 w.heap.size kq13 (fun h => read_any h _ nq5 nq5) ?_; intro w1 k q1 q2 zz; intros; (try simp at zz); (try replace zz := Nat.lt_of_succ_le zz); (try have zl : w.heap.size + 1 < w1.heap.size := (by omega)); (try have zm : w.heap.size < w1.heap.size := (by omega)); have c_hop := k.c.chop; obtain ⟨l_hop, u_hop⟩ := k.c.rhop; have c_x := k.c.cx; obtain ⟨l_x, u_x⟩ := k.c.rx; (try simp only [BusI.val])) | (go_at_call 175; refine (within_any _ _ _ nq5 nq5).mono ?_; rintro e w' ⟨rfl, rfl⟩))
  all_goals (try go_region_with (first | (go_at_call 103; refine Ck.gq w0 w.heap.size kq13 (fun h => read_any h _ nq5 nq5) ?_; intro w1 k q1 q2 zz; intros; (try simp at zz); (try replace zz := Nat.lt_of_succ_le zz); (try have zl : w.heap.size + 1 < w1.heap.size := (by omega)); (try have zm : w.heap.size < w1.heap.size := (by omega)); have c_hop := k.c.chop; obtain ⟨l_hop, u_hop⟩ := k.c.rhop; have c_x := k.c.cx; obtain ⟨l_x, u_x⟩ := k.c.rx; (try simp only [BusI.val])) | (go_at_call 175; refine (within_any _ _ _ nq5 nq5).mono ?_; rintro e w' ⟨rfl, rfl⟩)))
  all_goals (try go_wp2_with (first | (go_at_call 103; refine Ck.gq w0 w.heap.size kq13 (fun h => read_any h _ nq5 nq5) ?_; intro w1 k q1 q2 zz; intros; (try simp at zz); (try replace zz := Nat.lt_of_succ_le zz); (try have zl : w.heap.size + 1 < w1.heap.size := (by omega)); (try have zm : w.heap.size < w1.heap.size := (by omega)); have c_hop := k.c.chop; obtain ⟨l_hop, u_hop⟩ := k.c.rhop; have c_x := k.c.cx; obtain ⟨l_x, u_x⟩ := k.c.rx; (try simp only [BusI.val])) | (go_at_call 175; refine (within_any _ _ _ nq5 nq5).mono ?_; rintro e w' ⟨rfl, rfl⟩)))
  all_goals (try go_region_with (first | (go_at_call 103; refine Ck.gq w0 w.heap.size kq13 (fun h => read_any h _ nq5 nq5) ?_; intro w1 k q1 q2 zz; intros; (try simp at zz); (try replace zz := Nat.lt_of_succ_le zz); (try have zl : w.heap.size + 1 < w1.heap.size := (by omega)); (try have zm : w.heap.size < w1.heap.size := (by omega)); have c_hop := k.c.chop; obtain ⟨l_hop, u_hop⟩ := k.c.rhop; have c_x := k.c.cx; obtain ⟨l_x, u_x⟩ := k.c.rx; (try simp only [BusI.val])) | (go_at_call 175; refine (within_any _ _ _ nq5 nq5).mono ?_; rintro e w' ⟨rfl, rfl⟩)))
  all_goals (try go_wp2_with (first | (go_at_call 103; refine Ck.gq w0 w.heap.size kq13 (fun h => read_any h _ nq5 nq5) ?_; intro w1 k q1 q2 zz; intros; (try simp at zz); (try replace zz := Nat.lt_of_succ_le zz); (try have zl : w.heap.size + 1 < w1.heap.size := (by omega)); (try have zm : w.heap.size < w1.heap.size := (by omega)); have c_hop := k.c.chop; obtain ⟨l_hop, u_hop⟩ := k.c.rhop; have c_x := k.c.cx; obtain ⟨l_x, u_x⟩ := k.c.rx; (try simp only [BusI.val])) | (go_at_call 175; refine (within_any _ _ _ nq5 nq5).mono ?_; rintro e w' ⟨rfl, rfl⟩)))
  all_goals (have hr := Tryz.results120; exact bodyPost_ret brq rfl ⟨rfl, tq5⟩)

theorem indirectX_3 (h : Tn B s w0 w) (hk : s.step = 3) :
    Calls Tryz.prog 120 #[.pointer (some ⟨B, 0, none⟩)] w fun e w' => e = .returned (s.indirectX).2.val ∧ Tn B (s.indirectX).1 w0 w' := by
  have c_step := h.c.cstep; obtain ⟨l_step, u_step⟩ := h.c.rstep; have c_pc := h.c.cpc; obtain ⟨l_pc, u_pc⟩ := h.c.rpc; have c_hop := h.c.chop; obtain ⟨l_hop, u_hop⟩ := h.c.rhop; have c_x := h.c.cx; obtain ⟨l_x, u_x⟩ := h.c.rx; have c_st := h.c.cst; obtain ⟨l_st, u_st⟩ := h.c.rst
  have hu : Hid (s.indirectX = takeLow (s.read s.hop)) := by show _ = _; unfold PC.indirectX; rw [if_neg (by rw [hk]; decide), if_neg (by rw [hk]; decide), if_pos hk]
  rw [hu.out]
  rw [hk] at c_step
  obtain ⟨hlt, hsz, n0, m0, fz0, -⟩ := h.pre
  go_enter Tryz.func120, Tryz.ntmps120
  go_wp2_with (first | (go_at_call 103; refine Ck.go w0 w.heap.size kq12 (fun h => read_any h _ nq5 nq5) ?_; intro w1 k; intros; have c_hop := k.c.chop; obtain ⟨l_hop, u_hop⟩ := k.c.rhop; have c_x := k.c.cx; obtain ⟨l_x, u_x⟩ := k.c.rx; (try simp only [BusI.val])) | (go_at_call 170; refine Ck.go w0 w.heap.size kq12 (fun h => takeLow_any h ⟨_, _, _, _⟩) ?_; intro w1 k; intros; have c_hop := k.c.chop; obtain ⟨l_hop, u_hop⟩ := k.c.rhop; have c_x := k.c.cx; obtain ⟨l_x, u_x⟩ := k.c.rx; (try simp only [BusI.val])))
  all_goals (try go_region_with (first | (go_at_call 103; refine Ck.go w0 w.heap.size kq12 (fun h => read_any h _ nq5 nq5) ?_; intro w1 k; intros; have c_hop := k.c.chop; obtain ⟨l_hop, u_hop⟩ := k.c.rhop; have c_x := k.c.cx; obtain ⟨l_x, u_x⟩ := k.c.rx; (try simp only [BusI.val])) | (go_at_call 170; refine Ck.go w0 w.heap.size kq12 (fun h => takeLow_any h ⟨_, _, _, _⟩) ?_; intro w1 k; intros; have c_hop := k.c.chop; obtain ⟨l_hop, u_hop⟩ := k.c.rhop; have c_x := k.c.cx; obtain ⟨l_x, u_x⟩ := k.c.rx; (try simp only [BusI.val]))))
  all_goals (try go_wp2_with (first | (go_at_call 103; refine Ck.go w0 w.heap.size kq12 (fun h => read_any h _ nq5 nq5) ?_; intro w1 k; intros; have c_hop := k.c.chop; obtain ⟨l_hop, u_hop⟩ := k.c.rhop; have c_x := k.c.cx; obtain ⟨l_x, u_x⟩ := k.c.rx; (try simp only [BusI.val])) | (go_at_call 170; refine Ck.go w0 w.heap.size kq12 (fun h => takeLow_any h ⟨_, _, _, _⟩) ?_; intro w1 k; intros; have c_hop := k.c.chop; obtain ⟨l_hop, u_hop⟩ := k.c.rhop; have c_x := k.c.cx; obtain ⟨l_x, u_x⟩ := k.c.rx; (try simp only [BusI.val]))))
  all_goals (have hr := Tryz.results120; exact bodyPost_ret brq rfl ⟨rfl, tq5⟩)

theorem indirectX_d (h : Tn B s w0 w) (hk1 : (s.step == 1) = false) (hk2 : (s.step == 2) = false) (hk3 : (s.step == 3) = false) :
    Calls Tryz.prog 120 #[.pointer (some ⟨B, 0, none⟩)] w fun e w' => e = .returned (s.indirectX).2.val ∧ Tn B (s.indirectX).1 w0 w' := by
  have c_step := h.c.cstep; obtain ⟨l_step, u_step⟩ := h.c.rstep; have c_pc := h.c.cpc; obtain ⟨l_pc, u_pc⟩ := h.c.rpc; have c_hop := h.c.chop; obtain ⟨l_hop, u_hop⟩ := h.c.rhop; have c_x := h.c.cx; obtain ⟨l_x, u_x⟩ := h.c.rx; have c_st := h.c.cst; obtain ⟨l_st, u_st⟩ := h.c.rst
  have hu : Hid (s.indirectX = takeHigh (({ s with st := 2 } : PC).read (withinI s.hop 1))) := by show _ = _; unfold PC.indirectX; rw [if_neg (by simpa using hk1), if_neg (by simpa using hk2), if_neg (by simpa using hk3)]
  rw [hu.out]
  obtain ⟨hlt, hsz, n0, m0, fz0, -⟩ := h.pre
  go_enter Tryz.func120, Tryz.ntmps120
  go_wp2_with (first | (go_at_call 175; refine (within_any _ _ _ nq5 nq5).mono ?_; rintro e w' ⟨rfl, rfl⟩) | (go_at_call 103; refine Ck.go w0 w.heap.size kq12 (fun h => read_any h _ nq5 nq5) ?_; intro w1 k; intros; have c_hop := k.c.chop; obtain ⟨l_hop, u_hop⟩ := k.c.rhop; have c_x := k.c.cx; obtain ⟨l_x, u_x⟩ := k.c.rx; (try simp only [BusI.val])) | (go_at_call 172; refine Ck.go w0 w.heap.size kq12 (fun h => takeHigh_any h ⟨_, _, _, _⟩) ?_; intro w1 k; intros; have c_hop := k.c.chop; obtain ⟨l_hop, u_hop⟩ := k.c.rhop; have c_x := k.c.cx; obtain ⟨l_x, u_x⟩ := k.c.rx; (try simp only [BusI.val])))
  all_goals (try go_region_with (first | (go_at_call 175; refine (within_any _ _ _ nq5 nq5).mono ?_; rintro e w' ⟨rfl, rfl⟩) | (go_at_call 103; refine Ck.go w0 w.heap.size kq12 (fun h => read_any h _ nq5 nq5) ?_; intro w1 k; intros; have c_hop := k.c.chop; obtain ⟨l_hop, u_hop⟩ := k.c.rhop; have c_x := k.c.cx; obtain ⟨l_x, u_x⟩ := k.c.rx; (try simp only [BusI.val])) | (go_at_call 172; refine Ck.go w0 w.heap.size kq12 (fun h => takeHigh_any h ⟨_, _, _, _⟩) ?_; intro w1 k; intros; have c_hop := k.c.chop; obtain ⟨l_hop, u_hop⟩ := k.c.rhop; have c_x := k.c.cx; obtain ⟨l_x, u_x⟩ := k.c.rx; (try simp only [BusI.val]))))
  all_goals (try go_wp2_with (first | (go_at_call 175; refine (within_any _ _ _ nq5 nq5).mono ?_; rintro e w' ⟨rfl, rfl⟩) | (go_at_call 103; refine Ck.go w0 w.heap.size kq12 (fun h => read_any h _ nq5 nq5) ?_; intro w1 k; intros; have c_hop := k.c.chop; obtain ⟨l_hop, u_hop⟩ := k.c.rhop; have c_x := k.c.cx; obtain ⟨l_x, u_x⟩ := k.c.rx; (try simp only [BusI.val])) | (go_at_call 172; refine Ck.go w0 w.heap.size kq12 (fun h => takeHigh_any h ⟨_, _, _, _⟩) ?_; intro w1 k; intros; have c_hop := k.c.chop; obtain ⟨l_hop, u_hop⟩ := k.c.rhop; have c_x := k.c.cx; obtain ⟨l_x, u_x⟩ := k.c.rx; (try simp only [BusI.val]))))
  all_goals (have hr := Tryz.results120; exact bodyPost_ret brq rfl ⟨rfl, tq5⟩)

theorem indirectX_any (h : Tn B s w0 w) :
    Calls Tryz.prog 120 #[.pointer (some ⟨B, 0, none⟩)] w fun e w' => e = .returned (s.indirectX).2.val ∧ Tn B (s.indirectX).1 w0 w' := by
  by_cases e1 : s.step = 1
  · exact indirectX_1 h  e1
  by_cases e2 : s.step = 2
  · exact indirectX_2 h  e2
  by_cases e3 : s.step = 3
  · exact indirectX_3 h  e3
  exact indirectX_d h  (by simpa using e1) (by simpa using e2) (by simpa using e3)

theorem indirectY_1 (h : Tn B s w0 w) (hk : s.step = 1) :
    Calls Tryz.prog 121 #[.pointer (some ⟨B, 0, none⟩)] w fun e w' => e = .returned (s.indirectY).2.val ∧ Tn B (s.indirectY).1 w0 w' := by
  have c_step := h.c.cstep; obtain ⟨l_step, u_step⟩ := h.c.rstep; have c_pc := h.c.cpc; obtain ⟨l_pc, u_pc⟩ := h.c.rpc; have c_hop := h.c.chop; obtain ⟨l_hop, u_hop⟩ := h.c.rhop; have c_y := h.c.cy; obtain ⟨l_y, u_y⟩ := h.c.ry
  have hu : Hid (s.indirectY = takeHop s.readNext) := by show _ = _; unfold PC.indirectY; rw [if_pos hk]
  rw [hu.out]
  rw [hk] at c_step
  obtain ⟨hlt, hsz, n0, m0, fz0, -⟩ := h.pre
  go_enter Tryz.func121, Tryz.ntmps121
  go_wp2_with (first | (go_at_call 169; refine Ck.go w0 w.heap.size kq6 (fun h => readNext_any h) ?_; intro w1 k; intros; have c_hop := k.c.chop; obtain ⟨l_hop, u_hop⟩ := k.c.rhop; (try simp only [BusI.val])) | (go_at_call 174; refine Ck.go w0 w.heap.size kq6 (fun h => takeHop_any h ⟨_, _, _, _⟩) ?_; intro w1 k; intros; have c_hop := k.c.chop; obtain ⟨l_hop, u_hop⟩ := k.c.rhop; (try simp only [BusI.val])))
  all_goals (have hr := Tryz.results121; exact bodyPost_ret brq rfl ⟨rfl, tq1⟩)

theorem indirectY_2 (h : Tn B s w0 w) (hk : s.step = 2) :
    Calls Tryz.prog 121 #[.pointer (some ⟨B, 0, none⟩)] w fun e w' => e = .returned (s.indirectY).2.val ∧ Tn B (s.indirectY).1 w0 w' := by
  have c_step := h.c.cstep; obtain ⟨l_step, u_step⟩ := h.c.rstep; have c_pc := h.c.cpc; obtain ⟨l_pc, u_pc⟩ := h.c.rpc; have c_hop := h.c.chop; obtain ⟨l_hop, u_hop⟩ := h.c.rhop; have c_y := h.c.cy; obtain ⟨l_y, u_y⟩ := h.c.ry
  have hu : Hid (s.indirectY = takeLow (s.read s.hop)) := by show _ = _; unfold PC.indirectY; rw [if_neg (by rw [hk]; decide), if_pos hk]
  rw [hu.out]
  rw [hk] at c_step
  obtain ⟨hlt, hsz, n0, m0, fz0, -⟩ := h.pre
  go_enter Tryz.func121, Tryz.ntmps121
  go_wp2_with (first | (go_at_call 103; refine Ck.go w0 w.heap.size kq6 (fun h => read_any h _ nq5 nq5) ?_; intro w1 k; intros; have c_hop := k.c.chop; obtain ⟨l_hop, u_hop⟩ := k.c.rhop; (try simp only [BusI.val])) | (go_at_call 170; refine Ck.go w0 w.heap.size kq6 (fun h => takeLow_any h ⟨_, _, _, _⟩) ?_; intro w1 k; intros; have c_hop := k.c.chop; obtain ⟨l_hop, u_hop⟩ := k.c.rhop; (try simp only [BusI.val])))
  all_goals (try go_region_with (first | (go_at_call 103; refine Ck.go w0 w.heap.size kq6 (fun h => read_any h _ nq5 nq5) ?_; intro w1 k; intros; have c_hop := k.c.chop; obtain ⟨l_hop, u_hop⟩ := k.c.rhop; (try simp only [BusI.val])) | (go_at_call 170; refine Ck.go w0 w.heap.size kq6 (fun h => takeLow_any h ⟨_, _, _, _⟩) ?_; intro w1 k; intros; have c_hop := k.c.chop; obtain ⟨l_hop, u_hop⟩ := k.c.rhop; (try simp only [BusI.val]))))
  all_goals (try go_wp2_with (first | (go_at_call 103; refine Ck.go w0 w.heap.size kq6 (fun h => read_any h _ nq5 nq5) ?_; intro w1 k; intros; have c_hop := k.c.chop; obtain ⟨l_hop, u_hop⟩ := k.c.rhop; (try simp only [BusI.val])) | (go_at_call 170; refine Ck.go w0 w.heap.size kq6 (fun h => takeLow_any h ⟨_, _, _, _⟩) ?_; intro w1 k; intros; have c_hop := k.c.chop; obtain ⟨l_hop, u_hop⟩ := k.c.rhop; (try simp only [BusI.val]))))
  all_goals (have hr := Tryz.results121; exact bodyPost_ret brq rfl ⟨rfl, tq1⟩)

theorem indirectY_3 (h : Tn B s w0 w) (hk : s.step = 3) :
    Calls Tryz.prog 121 #[.pointer (some ⟨B, 0, none⟩)] w fun e w' => e = .returned (s.indirectY).2.val ∧ Tn B (s.indirectY).1 w0 w' := by
  have c_step := h.c.cstep; obtain ⟨l_step, u_step⟩ := h.c.rstep; have c_pc := h.c.cpc; obtain ⟨l_pc, u_pc⟩ := h.c.rpc; have c_hop := h.c.chop; obtain ⟨l_hop, u_hop⟩ := h.c.rhop; have c_y := h.c.cy; obtain ⟨l_y, u_y⟩ := h.c.ry
  have hu : Hid (s.indirectY = takeHigh (s.read (withinI s.hop 1))) := by show _ = _; unfold PC.indirectY; rw [if_neg (by rw [hk]; decide), if_neg (by rw [hk]; decide), if_pos hk]
  rw [hu.out]
  rw [hk] at c_step
  obtain ⟨hlt, hsz, n0, m0, fz0, -⟩ := h.pre
  go_enter Tryz.func121, Tryz.ntmps121
  go_wp2_with (first | (go_at_call 175; refine (within_any _ _ _ nq5 nq5).mono ?_; rintro e w' ⟨rfl, rfl⟩) | (go_at_call 103; refine Ck.go w0 w.heap.size kq6 (fun h => read_any h _ nq5 nq5) ?_; intro w1 k; intros; have c_hop := k.c.chop; obtain ⟨l_hop, u_hop⟩ := k.c.rhop; (try simp only [BusI.val])) | (go_at_call 172; refine Ck.go w0 w.heap.size kq6 (fun h => takeHigh_any h ⟨_, _, _, _⟩) ?_; intro w1 k; intros; have c_hop := k.c.chop; obtain ⟨l_hop, u_hop⟩ := k.c.rhop; (try simp only [BusI.val])))
  all_goals (try go_region_with (first | (go_at_call 175; refine (within_any _ _ _ nq5 nq5).mono ?_; rintro e w' ⟨rfl, rfl⟩) | (go_at_call 103; refine Ck.go w0 w.heap.size kq6 (fun h => read_any h _ nq5 nq5) ?_; intro w1 k; intros; have c_hop := k.c.chop; obtain ⟨l_hop, u_hop⟩ := k.c.rhop; (try simp only [BusI.val])) | (go_at_call 172; refine Ck.go w0 w.heap.size kq6 (fun h => takeHigh_any h ⟨_, _, _, _⟩) ?_; intro w1 k; intros; have c_hop := k.c.chop; obtain ⟨l_hop, u_hop⟩ := k.c.rhop; (try simp only [BusI.val]))))
  all_goals (try go_wp2_with (first | (go_at_call 175; refine (within_any _ _ _ nq5 nq5).mono ?_; rintro e w' ⟨rfl, rfl⟩) | (go_at_call 103; refine Ck.go w0 w.heap.size kq6 (fun h => read_any h _ nq5 nq5) ?_; intro w1 k; intros; have c_hop := k.c.chop; obtain ⟨l_hop, u_hop⟩ := k.c.rhop; (try simp only [BusI.val])) | (go_at_call 172; refine Ck.go w0 w.heap.size kq6 (fun h => takeHigh_any h ⟨_, _, _, _⟩) ?_; intro w1 k; intros; have c_hop := k.c.chop; obtain ⟨l_hop, u_hop⟩ := k.c.rhop; (try simp only [BusI.val]))))
  all_goals (have hr := Tryz.results121; exact bodyPost_ret brq rfl ⟨rfl, tq1⟩)

theorem indirectY_d (h : Tn B s w0 w) (hk1 : (s.step == 1) = false) (hk2 : (s.step == 2) = false) (hk3 : (s.step == 3) = false) :
    Calls Tryz.prog 121 #[.pointer (some ⟨B, 0, none⟩)] w fun e w' => e = .returned (s.indirectY).2.val ∧ Tn B (s.indirectY).1 w0 w' := by
  have c_step := h.c.cstep; obtain ⟨l_step, u_step⟩ := h.c.rstep; have c_pc := h.c.cpc; obtain ⟨l_pc, u_pc⟩ := h.c.rpc; have c_hop := h.c.chop; obtain ⟨l_hop, u_hop⟩ := h.c.rhop; have c_y := h.c.cy; obtain ⟨l_y, u_y⟩ := h.c.ry
  have hu : Hid (s.indirectY = s.indexed s.y) := by show _ = _; unfold PC.indirectY; rw [if_neg (by simpa using hk1), if_neg (by simpa using hk2), if_neg (by simpa using hk3)]
  rw [hu.out]
  obtain ⟨hlt, hsz, n0, m0, fz0, -⟩ := h.pre
  go_enter Tryz.func121, Tryz.ntmps121
  go_wp2_with (first | (go_at_call 176; refine Ck.go w0 w.heap.size kq6 (fun h => indexed_any h _ nq5 nq5) ?_; intro w1 k; intros; have c_hop := k.c.chop; obtain ⟨l_hop, u_hop⟩ := k.c.rhop; (try simp only [BusI.val])))
  all_goals (have hr := Tryz.results121; exact bodyPost_ret brq rfl ⟨rfl, tq1⟩)

theorem indirectY_any (h : Tn B s w0 w) :
    Calls Tryz.prog 121 #[.pointer (some ⟨B, 0, none⟩)] w fun e w' => e = .returned (s.indirectY).2.val ∧ Tn B (s.indirectY).1 w0 w' := by
  by_cases e1 : s.step = 1
  · exact indirectY_1 h  e1
  by_cases e2 : s.step = 2
  · exact indirectY_2 h  e2
  by_cases e3 : s.step = 3
  · exact indirectY_3 h  e3
  exact indirectY_d h  (by simpa using e1) (by simpa using e2) (by simpa using e3)

end Go.Proofs.YtcgjliflnnklnaaGreat
