/-
  Ways back: walked.
-/
import Derived.Test.YtcgjliflnnklnaaGreatJ11
import Derived.Test.YtcgjliflnnklnaaGreatCpEz
import Derived.Test.YtcgjliflnnklnaaGreatJ12
namespace Go.Proofs.YtcgjliflnnklnaaGreat
open Go.RowKit
set_option maxRecDepth 100000
set_option maxHeartbeats 1000000
variable {B : Nat} {s : PC} {w0 w : World}

theorem leaveSubroutine_1 (h : Tn B s w0 w) (hk : s.step = 1) :
    Calls Tryz.prog 126 #[.pointer (some ⟨B, 0, none⟩)] w fun e w' => e = .returned (s.leaveSubroutine).2.val ∧ Tn B (s.leaveSubroutine).1 w0 w' := by
  have c_step := h.c.cstep; obtain ⟨l_step, u_step⟩ := h.c.rstep; have c_pc := h.c.cpc; obtain ⟨l_pc, u_pc⟩ := h.c.rpc; have c_s := h.c.cs; obtain ⟨l_s, u_s⟩ := h.c.rs; have c_ad := h.c.cad; obtain ⟨l_ad, u_ad⟩ := h.c.rad
  have hu : Hid (s.leaveSubroutine = s.read s.pc) := by show _ = _; unfold PC.leaveSubroutine; rw [if_pos hk]
  rw [hu.out]
  rw [hk] at c_step
  obtain ⟨hlt, hsz, n0, m0, fz0, -⟩ := h.pre
  go_enter Tryz.func126, Tryz.ntmps126
  go_wp2_with (first | (go_at_call 103; refine Ck.go w0 w.heap.size kq6 (fun h => read_any h _ nq5 nq5) ?_; intro w1 k; intros; have c_pc := k.c.cpc; obtain ⟨l_pc, u_pc⟩ := k.c.rpc; (try simp only [BusI.val])))
  all_goals (try go_region_with (first | (go_at_call 103; refine Ck.go w0 w.heap.size kq6 (fun h => read_any h _ nq5 nq5) ?_; intro w1 k; intros; have c_pc := k.c.cpc; obtain ⟨l_pc, u_pc⟩ := k.c.rpc; (try simp only [BusI.val]))))
  all_goals (try go_wp2_with (first | (go_at_call 103; refine Ck.go w0 w.heap.size kq6 (fun h => read_any h _ nq5 nq5) ?_; intro w1 k; intros; have c_pc := k.c.cpc; obtain ⟨l_pc, u_pc⟩ := k.c.rpc; (try simp only [BusI.val]))))
  all_goals (have hr := Tryz.results126; exact bodyPost_ret brq rfl ⟨rfl, tq1⟩)

theorem leaveSubroutine_2 (h : Tn B s w0 w) (hk : s.step = 2) :
    Calls Tryz.prog 126 #[.pointer (some ⟨B, 0, none⟩)] w fun e w' => e = .returned (s.leaveSubroutine).2.val ∧ Tn B (s.leaveSubroutine).1 w0 w' := by
  have c_step := h.c.cstep; obtain ⟨l_step, u_step⟩ := h.c.rstep; have c_pc := h.c.cpc; obtain ⟨l_pc, u_pc⟩ := h.c.rpc; have c_s := h.c.cs; obtain ⟨l_s, u_s⟩ := h.c.rs; have c_ad := h.c.cad; obtain ⟨l_ad, u_ad⟩ := h.c.rad
  have hu : Hid (s.leaveSubroutine = s.read s.stackTop) := by show _ = _; unfold PC.leaveSubroutine; rw [if_neg (by rw [hk]; decide), if_pos hk]
  rw [hu.out]
  rw [hk] at c_step
  obtain ⟨hlt, hsz, n0, m0, fz0, -⟩ := h.pre
  go_enter Tryz.func126, Tryz.ntmps126
  go_wp2_with (first | (go_at_call 181; refine (Ck.same (w0 := w0) (R := w.heap.size) kq6 (fun h => stackTop_any h)).mono ?_; rintro e w' ⟨rfl, rfl⟩) | (go_at_call 103; refine Ck.go w0 w.heap.size kq6 (fun h => read_any h _ nq5 nq5) ?_; intro w1 k; intros; have c_pc := k.c.cpc; obtain ⟨l_pc, u_pc⟩ := k.c.rpc; (try simp only [BusI.val])))
  all_goals (try go_region_with (first | (go_at_call 181; refine (Ck.same (w0 := w0) (R := w.heap.size) kq6 (fun h => stackTop_any h)).mono ?_; rintro e w' ⟨rfl, rfl⟩) | (go_at_call 103; refine Ck.go w0 w.heap.size kq6 (fun h => read_any h _ nq5 nq5) ?_; intro w1 k; intros; have c_pc := k.c.cpc; obtain ⟨l_pc, u_pc⟩ := k.c.rpc; (try simp only [BusI.val]))))
  all_goals (try go_wp2_with (first | (go_at_call 181; refine (Ck.same (w0 := w0) (R := w.heap.size) kq6 (fun h => stackTop_any h)).mono ?_; rintro e w' ⟨rfl, rfl⟩) | (go_at_call 103; refine Ck.go w0 w.heap.size kq6 (fun h => read_any h _ nq5 nq5) ?_; intro w1 k; intros; have c_pc := k.c.cpc; obtain ⟨l_pc, u_pc⟩ := k.c.rpc; (try simp only [BusI.val]))))
  all_goals (have hr := Tryz.results126; exact bodyPost_ret brq rfl ⟨rfl, tq1⟩)

theorem leaveSubroutine_3 (h : Tn B s w0 w) (hk : s.step = 3) :
    Calls Tryz.prog 126 #[.pointer (some ⟨B, 0, none⟩)] w fun e w' => e = .returned (s.leaveSubroutine).2.val ∧ Tn B (s.leaveSubroutine).1 w0 w' := by
  have c_step := h.c.cstep; obtain ⟨l_step, u_step⟩ := h.c.rstep; have c_pc := h.c.cpc; obtain ⟨l_pc, u_pc⟩ := h.c.rpc; have c_s := h.c.cs; obtain ⟨l_s, u_s⟩ := h.c.rs; have c_ad := h.c.cad; obtain ⟨l_ad, u_ad⟩ := h.c.rad
  have hu : Hid (s.leaveSubroutine = takeLow s.pulled) := by show _ = _; unfold PC.leaveSubroutine; rw [if_neg (by rw [hk]; decide), if_neg (by rw [hk]; decide), if_pos hk]
  rw [hu.out]
  rw [hk] at c_step
  obtain ⟨hlt, hsz, n0, m0, fz0, -⟩ := h.pre
  go_enter Tryz.func126, Tryz.ntmps126
  go_wp2_with (first | (go_at_call 183; refine Ck.go w0 w.heap.size kq6 (fun h => pulled_any h) ?_; intro w1 k; intros; have c_pc := k.c.cpc; obtain ⟨l_pc, u_pc⟩ := k.c.rpc; (try simp only [BusI.val])) | (go_at_call 170; refine Ck.go w0 w.heap.size kq6 (fun h => takeLow_any h ⟨_, _, _, _⟩) ?_; intro w1 k; intros; have c_pc := k.c.cpc; obtain ⟨l_pc, u_pc⟩ := k.c.rpc; (try simp only [BusI.val])))
  all_goals (have hr := Tryz.results126; exact bodyPost_ret brq rfl ⟨rfl, tq1⟩)

theorem leaveSubroutine_4 (h : Tn B s w0 w) (hk : s.step = 4) :
    Calls Tryz.prog 126 #[.pointer (some ⟨B, 0, none⟩)] w fun e w' => e = .returned (s.leaveSubroutine).2.val ∧ Tn B (s.leaveSubroutine).1 w0 w' := by
  have c_step := h.c.cstep; obtain ⟨l_step, u_step⟩ := h.c.rstep; have c_pc := h.c.cpc; obtain ⟨l_pc, u_pc⟩ := h.c.rpc; have c_s := h.c.cs; obtain ⟨l_s, u_s⟩ := h.c.rs; have c_ad := h.c.cad; obtain ⟨l_ad, u_ad⟩ := h.c.rad
  have hu : Hid (s.leaveSubroutine = takeHigh s.pulled) := by show _ = _; unfold PC.leaveSubroutine; rw [if_neg (by rw [hk]; decide), if_neg (by rw [hk]; decide), if_neg (by rw [hk]; decide), if_pos hk]
  rw [hu.out]
  rw [hk] at c_step
  obtain ⟨hlt, hsz, n0, m0, fz0, -⟩ := h.pre
  go_enter Tryz.func126, Tryz.ntmps126
  go_wp2_with (first | (go_at_call 183; refine Ck.go w0 w.heap.size kq6 (fun h => pulled_any h) ?_; intro w1 k; intros; have c_pc := k.c.cpc; obtain ⟨l_pc, u_pc⟩ := k.c.rpc; (try simp only [BusI.val])) | (go_at_call 172; refine Ck.go w0 w.heap.size kq6 (fun h => takeHigh_any h ⟨_, _, _, _⟩) ?_; intro w1 k; intros; have c_pc := k.c.cpc; obtain ⟨l_pc, u_pc⟩ := k.c.rpc; (try simp only [BusI.val])))
  all_goals (have hr := Tryz.results126; exact bodyPost_ret brq rfl ⟨rfl, tq1⟩)

theorem leaveSubroutine_d (h : Tn B s w0 w) (hk1 : (s.step == 1) = false) (hk2 : (s.step == 2) = false) (hk3 : (s.step == 3) = false) (hk4 : (s.step == 4) = false) :
    Calls Tryz.prog 126 #[.pointer (some ⟨B, 0, none⟩)] w fun e w' => e = .returned (s.leaveSubroutine).2.val ∧ Tn B (s.leaveSubroutine).1 w0 w' := by
  have c_step := h.c.cstep; obtain ⟨l_step, u_step⟩ := h.c.rstep; have c_pc := h.c.cpc; obtain ⟨l_pc, u_pc⟩ := h.c.rpc; have c_s := h.c.cs; obtain ⟨l_s, u_s⟩ := h.c.rs; have c_ad := h.c.cad; obtain ⟨l_ad, u_ad⟩ := h.c.rad
  have hu : Hid (s.leaveSubroutine = ((s.read s.ad).1.performLast, (s.read s.ad).2)) := by show _ = _; unfold PC.leaveSubroutine; rw [if_neg (by simpa using hk1), if_neg (by simpa using hk2), if_neg (by simpa using hk3), if_neg (by simpa using hk4)]
  rw [hu.out]
  obtain ⟨hlt, hsz, n0, m0, fz0, n01, m01⟩ := h.pre
  go_enter Tryz.func126, Tryz.ntmps126
  go_wp2_with (first | (go_at_call 103; refine Ck.gq w0 w.heap.size kq8 (fun h => read_any h _ nq5 nq5) ?_; intro w1 k q1 q2 zz; intros; (try simp at zz); (try replace zz := Nat.lt_of_succ_le zz); (try have zl : w.heap.size + 1 < w1.heap.size := (by omega)); (try have zm : w.heap.size < w1.heap.size := (by omega)); have c_pc := k.c.cpc; obtain ⟨l_pc, u_pc⟩ := k.c.rpc; (try simp only [BusI.val])) | (go_at_call 108; refine Ck.gq w0 w.heap.size kq8 (fun h => performLast_any h) ?_; intro w1 k q1 q2 zz; intros; (try simp at zz); (try replace zz := Nat.lt_of_succ_le zz); (try have zl : w.heap.size + 1 < w1.heap.size := (by omega)); (try have zm : w.heap.size < w1.heap.size := (by omega)); have c_pc := k.c.cpc; obtain ⟨l_pc, u_pc⟩ := k.c.rpc; skip))
  all_goals (try go_region_with (first | (go_at_call 103; refine Ck.gq w0 w.heap.size kq8 (fun h => read_any h _ nq5 nq5) ?_; intro w1 k q1 q2 zz; intros; (try simp at zz); (try replace zz := Nat.lt_of_succ_le zz); (try have zl : w.heap.size + 1 < w1.heap.size := (by omega)); (try have zm : w.heap.size < w1.heap.size := (by omega)); have c_pc := k.c.cpc; obtain ⟨l_pc, u_pc⟩ := k.c.rpc; (try simp only [BusI.val])) | (go_at_call 108; refine Ck.gq w0 w.heap.size kq8 (fun h => performLast_any h) ?_; intro w1 k q1 q2 zz; intros; (try simp at zz); (try replace zz := Nat.lt_of_succ_le zz); (try have zl : w.heap.size + 1 < w1.heap.size := (by omega)); (try have zm : w.heap.size < w1.heap.size := (by omega)); have c_pc := k.c.cpc; obtain ⟨l_pc, u_pc⟩ := k.c.rpc; skip)))
  all_goals (try go_wp2_with (first | (go_at_call 103; refine Ck.gq w0 w.heap.size kq8 (fun h => read_any h _ nq5 nq5) ?_; intro w1 k q1 q2 zz; intros; (try simp at zz); (try replace zz := Nat.lt_of_succ_le zz); (try have zl : w.heap.size + 1 < w1.heap.size := (by omega)); (try have zm : w.heap.size < w1.heap.size := (by omega)); have c_pc := k.c.cpc; obtain ⟨l_pc, u_pc⟩ := k.c.rpc; (try simp only [BusI.val])) | (go_at_call 108; refine Ck.gq w0 w.heap.size kq8 (fun h => performLast_any h) ?_; intro w1 k q1 q2 zz; intros; (try simp at zz); (try replace zz := Nat.lt_of_succ_le zz); (try have zl : w.heap.size + 1 < w1.heap.size := (by omega)); (try have zm : w.heap.size < w1.heap.size := (by omega)); have c_pc := k.c.cpc; obtain ⟨l_pc, u_pc⟩ := k.c.rpc; skip)))
  all_goals (try go_region_with (first | (go_at_call 103; refine Ck.gq w0 w.heap.size kq8 (fun h => read_any h _ nq5 nq5) ?_; intro w1 k q1 q2 zz; intros; (try simp at zz); (try replace zz := Nat.lt_of_succ_le zz); (try have zl : w.heap.size + 1 < w1.heap.size := (by omega)); (try have zm : w.heap.size < w1.heap.size := (by omega)); have c_pc := k.c.cpc; obtain ⟨l_pc, u_pc⟩ := k.c.rpc; (try simp only [BusI.val])) | (go_at_call 108; refine Ck.gq w0 w.heap.size kq8 (fun h => performLast_any h) ?_; intro w1 k q1 q2 zz; intros; (try simp at zz); (try replace zz := Nat.lt_of_succ_le zz); (try have zl : w.heap.size + 1 < w1.heap.size := (by omega)); (try have zm : w.heap.size < w1.heap.size := (by omega)); have c_pc := k.c.cpc; obtain ⟨l_pc, u_pc⟩ := k.c.rpc; skip)))
  all_goals (try go_wp2_with (first | (go_at_call 103; refine Ck.gq w0 w.heap.size kq8 (fun h => read_any h _ nq5 nq5) ?_; intro w1 k q1 q2 zz; intros; (try simp at zz); (try replace zz := Nat.lt_of_succ_le zz); (try have zl : w.heap.size + 1 < w1.heap.size := (by omega)); (try have zm : w.heap.size < w1.heap.size := (by omega)); have c_pc := k.c.cpc; obtain ⟨l_pc, u_pc⟩ := k.c.rpc; (try simp only [BusI.val])) | (go_at_call 108; refine Ck.gq w0 w.heap.size kq8 (fun h => performLast_any h) ?_; intro w1 k q1 q2 zz; intros; (try simp at zz); (try replace zz := Nat.lt_of_succ_le zz); (try have zl : w.heap.size + 1 < w1.heap.size := (by omega)); (try have zm : w.heap.size < w1.heap.size := (by omega)); have c_pc := k.c.cpc; obtain ⟨l_pc, u_pc⟩ := k.c.rpc; skip)))
  all_goals (have hr := Tryz.results126; exact bodyPost_ret brq rfl ⟨rfl, tq1⟩)

theorem leaveSubroutine_any (h : Tn B s w0 w) :
    Calls Tryz.prog 126 #[.pointer (some ⟨B, 0, none⟩)] w fun e w' => e = .returned (s.leaveSubroutine).2.val ∧ Tn B (s.leaveSubroutine).1 w0 w' := by
  by_cases e1 : s.step = 1
  · exact leaveSubroutine_1 h  e1
  by_cases e2 : s.step = 2
  · exact leaveSubroutine_2 h  e2
  by_cases e3 : s.step = 3
  · exact leaveSubroutine_3 h  e3
  by_cases e4 : s.step = 4
  · exact leaveSubroutine_4 h  e4
  exact leaveSubroutine_d h  (by simpa using e1) (by simpa using e2) (by simpa using e3) (by simpa using e4)

theorem leaveInterrupt_1 (h : Tn B s w0 w) (hk : s.step = 1) :
    Calls Tryz.prog 132 #[.pointer (some ⟨B, 0, none⟩)] w fun e w' => e = .returned (s.leaveInterrupt).2.val ∧ Tn B (s.leaveInterrupt).1 w0 w' := by
  have c_step := h.c.cstep; obtain ⟨l_step, u_step⟩ := h.c.rstep; have c_pc := h.c.cpc; obtain ⟨l_pc, u_pc⟩ := h.c.rpc; have c_s := h.c.cs; obtain ⟨l_s, u_s⟩ := h.c.rs
  have hu : Hid (s.leaveInterrupt = s.read s.pc) := by show _ = _; unfold PC.leaveInterrupt; rw [if_pos hk]
  rw [hu.out]
  rw [hk] at c_step
  obtain ⟨hlt, hsz, n0, m0, fz0, -⟩ := h.pre
  go_enter Tryz.func132, Tryz.ntmps132
  go_wp2_with (first | (go_at_call 103; refine Ck.go w0 w.heap.size kq6 (fun h => read_any h _ nq5 nq5) ?_; intro w1 k; intros; have c_pc := k.c.cpc; obtain ⟨l_pc, u_pc⟩ := k.c.rpc; (try simp only [BusI.val])))
  all_goals (try go_region_with (first | (go_at_call 103; refine Ck.go w0 w.heap.size kq6 (fun h => read_any h _ nq5 nq5) ?_; intro w1 k; intros; have c_pc := k.c.cpc; obtain ⟨l_pc, u_pc⟩ := k.c.rpc; (try simp only [BusI.val]))))
  all_goals (try go_wp2_with (first | (go_at_call 103; refine Ck.go w0 w.heap.size kq6 (fun h => read_any h _ nq5 nq5) ?_; intro w1 k; intros; have c_pc := k.c.cpc; obtain ⟨l_pc, u_pc⟩ := k.c.rpc; (try simp only [BusI.val]))))
  all_goals (have hr := Tryz.results132; exact bodyPost_ret brq rfl ⟨rfl, tq1⟩)

theorem leaveInterrupt_2 (h : Tn B s w0 w) (hk : s.step = 2) :
    Calls Tryz.prog 132 #[.pointer (some ⟨B, 0, none⟩)] w fun e w' => e = .returned (s.leaveInterrupt).2.val ∧ Tn B (s.leaveInterrupt).1 w0 w' := by
  have c_step := h.c.cstep; obtain ⟨l_step, u_step⟩ := h.c.rstep; have c_pc := h.c.cpc; obtain ⟨l_pc, u_pc⟩ := h.c.rpc; have c_s := h.c.cs; obtain ⟨l_s, u_s⟩ := h.c.rs
  have hu : Hid (s.leaveInterrupt = s.read s.stackTop) := by show _ = _; unfold PC.leaveInterrupt; rw [if_neg (by rw [hk]; decide), if_pos hk]
  rw [hu.out]
  rw [hk] at c_step
  obtain ⟨hlt, hsz, n0, m0, fz0, -⟩ := h.pre
  go_enter Tryz.func132, Tryz.ntmps132
  go_wp2_with (first | (go_at_call 181; refine (Ck.same (w0 := w0) (R := w.heap.size) kq6 (fun h => stackTop_any h)).mono ?_; rintro e w' ⟨rfl, rfl⟩) | (go_at_call 103; refine Ck.go w0 w.heap.size kq6 (fun h => read_any h _ nq5 nq5) ?_; intro w1 k; intros; have c_pc := k.c.cpc; obtain ⟨l_pc, u_pc⟩ := k.c.rpc; (try simp only [BusI.val])))
  all_goals (try go_region_with (first | (go_at_call 181; refine (Ck.same (w0 := w0) (R := w.heap.size) kq6 (fun h => stackTop_any h)).mono ?_; rintro e w' ⟨rfl, rfl⟩) | (go_at_call 103; refine Ck.go w0 w.heap.size kq6 (fun h => read_any h _ nq5 nq5) ?_; intro w1 k; intros; have c_pc := k.c.cpc; obtain ⟨l_pc, u_pc⟩ := k.c.rpc; (try simp only [BusI.val]))))
  all_goals (try go_wp2_with (first | (go_at_call 181; refine (Ck.same (w0 := w0) (R := w.heap.size) kq6 (fun h => stackTop_any h)).mono ?_; rintro e w' ⟨rfl, rfl⟩) | (go_at_call 103; refine Ck.go w0 w.heap.size kq6 (fun h => read_any h _ nq5 nq5) ?_; intro w1 k; intros; have c_pc := k.c.cpc; obtain ⟨l_pc, u_pc⟩ := k.c.rpc; (try simp only [BusI.val]))))
  all_goals (have hr := Tryz.results132; exact bodyPost_ret brq rfl ⟨rfl, tq1⟩)

theorem leaveInterrupt_3 (h : Tn B s w0 w) (hk : s.step = 3) :
    Calls Tryz.prog 132 #[.pointer (some ⟨B, 0, none⟩)] w fun e w' => e = .returned (s.leaveInterrupt).2.val ∧ Tn B (s.leaveInterrupt).1 w0 w' := by
  have c_step := h.c.cstep; obtain ⟨l_step, u_step⟩ := h.c.rstep; have c_pc := h.c.cpc; obtain ⟨l_pc, u_pc⟩ := h.c.rpc; have c_s := h.c.cs; obtain ⟨l_s, u_s⟩ := h.c.rs
  have hu : Hid (s.leaveInterrupt = takeData s.pulled) := by show _ = _; unfold PC.leaveInterrupt; rw [if_neg (by rw [hk]; decide), if_neg (by rw [hk]; decide), if_pos hk]
  rw [hu.out]
  rw [hk] at c_step
  obtain ⟨hlt, hsz, n0, m0, fz0, -⟩ := h.pre
  go_enter Tryz.func132, Tryz.ntmps132
  go_wp2_with (first | (go_at_call 183; refine Ck.go w0 w.heap.size kq6 (fun h => pulled_any h) ?_; intro w1 k; intros; have c_pc := k.c.cpc; obtain ⟨l_pc, u_pc⟩ := k.c.rpc; (try simp only [BusI.val])) | (go_at_call 110; refine Ck.go w0 w.heap.size kq6 (fun h => takeData_any h ⟨_, _, _, _⟩) ?_; intro w1 k; intros; have c_pc := k.c.cpc; obtain ⟨l_pc, u_pc⟩ := k.c.rpc; (try simp only [BusI.val])))
  all_goals (have hr := Tryz.results132; exact bodyPost_ret brq rfl ⟨rfl, tq1⟩)

theorem leaveInterrupt_4 (h : Tn B s w0 w) (hk : s.step = 4) :
    Calls Tryz.prog 132 #[.pointer (some ⟨B, 0, none⟩)] w fun e w' => e = .returned (s.leaveInterrupt).2.val ∧ Tn B (s.leaveInterrupt).1 w0 w' := by
  have c_step := h.c.cstep; obtain ⟨l_step, u_step⟩ := h.c.rstep; have c_pc := h.c.cpc; obtain ⟨l_pc, u_pc⟩ := h.c.rpc; have c_s := h.c.cs; obtain ⟨l_s, u_s⟩ := h.c.rs
  have hu : Hid (s.leaveInterrupt = takeLow s.pulled) := by show _ = _; unfold PC.leaveInterrupt; rw [if_neg (by rw [hk]; decide), if_neg (by rw [hk]; decide), if_neg (by rw [hk]; decide), if_pos hk]
  rw [hu.out]
  rw [hk] at c_step
  obtain ⟨hlt, hsz, n0, m0, fz0, -⟩ := h.pre
  go_enter Tryz.func132, Tryz.ntmps132
  go_wp2_with (first | (go_at_call 183; refine Ck.go w0 w.heap.size kq6 (fun h => pulled_any h) ?_; intro w1 k; intros; have c_pc := k.c.cpc; obtain ⟨l_pc, u_pc⟩ := k.c.rpc; (try simp only [BusI.val])) | (go_at_call 170; refine Ck.go w0 w.heap.size kq6 (fun h => takeLow_any h ⟨_, _, _, _⟩) ?_; intro w1 k; intros; have c_pc := k.c.cpc; obtain ⟨l_pc, u_pc⟩ := k.c.rpc; (try simp only [BusI.val])))
  all_goals (have hr := Tryz.results132; exact bodyPost_ret brq rfl ⟨rfl, tq1⟩)

theorem leaveInterrupt_d (h : Tn B s w0 w) (hk1 : (s.step == 1) = false) (hk2 : (s.step == 2) = false) (hk3 : (s.step == 3) = false) (hk4 : (s.step == 4) = false) :
    Calls Tryz.prog 132 #[.pointer (some ⟨B, 0, none⟩)] w fun e w' => e = .returned (s.leaveInterrupt).2.val ∧ Tn B (s.leaveInterrupt).1 w0 w' := by
  have c_step := h.c.cstep; obtain ⟨l_step, u_step⟩ := h.c.rstep; have c_pc := h.c.cpc; obtain ⟨l_pc, u_pc⟩ := h.c.rpc; have c_s := h.c.cs; obtain ⟨l_s, u_s⟩ := h.c.rs
  have hu : Hid (s.leaveInterrupt = goThere s.pulled) := by show _ = _; unfold PC.leaveInterrupt; rw [if_neg (by simpa using hk1), if_neg (by simpa using hk2), if_neg (by simpa using hk3), if_neg (by simpa using hk4)]
  rw [hu.out]
  obtain ⟨hlt, hsz, n0, m0, fz0, -⟩ := h.pre
  go_enter Tryz.func132, Tryz.ntmps132
  go_wp2_with (first | (go_at_call 183; refine Ck.go w0 w.heap.size kq6 (fun h => pulled_any h) ?_; intro w1 k; intros; have c_pc := k.c.cpc; obtain ⟨l_pc, u_pc⟩ := k.c.rpc; (try simp only [BusI.val])) | (go_at_call 180; refine Ck.go w0 w.heap.size kq6 (fun h => goThere_any h ⟨_, _, _, _⟩) ?_; intro w1 k; intros; have c_pc := k.c.cpc; obtain ⟨l_pc, u_pc⟩ := k.c.rpc; (try simp only [BusI.val])))
  all_goals (have hr := Tryz.results132; exact bodyPost_ret brq rfl ⟨rfl, tq1⟩)

theorem leaveInterrupt_any (h : Tn B s w0 w) :
    Calls Tryz.prog 132 #[.pointer (some ⟨B, 0, none⟩)] w fun e w' => e = .returned (s.leaveInterrupt).2.val ∧ Tn B (s.leaveInterrupt).1 w0 w' := by
  by_cases e1 : s.step = 1
  · exact leaveInterrupt_1 h  e1
  by_cases e2 : s.step = 2
  · exact leaveInterrupt_2 h  e2
  by_cases e3 : s.step = 3
  · exact leaveInterrupt_3 h  e3
  by_cases e4 : s.step = 4
  · exact leaveInterrupt_4 h  e4
  exact leaveInterrupt_d h  (by simpa using e1) (by simpa using e2) (by simpa using e3) (by simpa using e4)

end Go.Proofs.YtcgjliflnnklnaaGreat
