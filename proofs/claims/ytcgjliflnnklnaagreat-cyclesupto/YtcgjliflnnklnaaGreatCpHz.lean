/-
  Modes of a page, and absolute ones: walked.
-/
import Derived.Test.YtcgjliflnnklnaaGreatJ11
import Derived.Test.YtcgjliflnnklnaaGreatCpEz
import Derived.Test.YtcgjliflnnklnaaGreatJ12
namespace Go.Proofs.YtcgjliflnnklnaaGreat
open Go.RowKit
set_option maxRecDepth 100000
set_option maxHeartbeats 1000000
variable {B : Nat} {s : PC} {w0 w : World}

theorem zeroPageBy_1 (h : Tn B s w0 w) (i : Int) (i1 : 0 ≤ i) (i2 : i < 256) (hk : s.step = 1) :
    Calls Tryz.prog 171 #[.pointer (some ⟨B, 0, none⟩), .int .u8 i] w fun e w' => e = .returned (s.zeroPageBy i).2.val ∧ Tn B (s.zeroPageBy i).1 w0 w' := by
  have c_step := h.c.cstep; obtain ⟨l_step, u_step⟩ := h.c.rstep; have c_pc := h.c.cpc; obtain ⟨l_pc, u_pc⟩ := h.c.rpc; have c_ad := h.c.cad; obtain ⟨l_ad, u_ad⟩ := h.c.rad; have c_st := h.c.cst; obtain ⟨l_st, u_st⟩ := h.c.rst
  have hu : Hid (s.zeroPageBy i = takeLow s.readNext) := by show _ = _; unfold PC.zeroPageBy; rw [if_pos hk]
  rw [hu.out]
  rw [hk] at c_step
  have _ := i1
  have _ := i2
  obtain ⟨hlt, hsz, n0, m0, fz0, -⟩ := h.pre
  go_enter Tryz.func171, Tryz.ntmps171
  go_wp2_with (first | (go_at_call 169; refine Ck.go w0 w.heap.size kq10 (fun h => readNext_any h) ?_; intro w1 k; intros; have c_ad := k.c.cad; obtain ⟨l_ad, u_ad⟩ := k.c.rad; have c_st := k.c.cst; obtain ⟨l_st, u_st⟩ := k.c.rst; (try simp only [BusI.val])) | (go_at_call 170; refine Ck.go w0 w.heap.size kq10 (fun h => takeLow_any h ⟨_, _, _, _⟩) ?_; intro w1 k; intros; have c_ad := k.c.cad; obtain ⟨l_ad, u_ad⟩ := k.c.rad; have c_st := k.c.cst; obtain ⟨l_st, u_st⟩ := k.c.rst; (try simp only [BusI.val])))
  all_goals (have hr := Tryz.results171; exact bodyPost_ret brq rfl ⟨rfl, tq4⟩)

theorem zeroPageBy_d (h : Tn B s w0 w) (i : Int) (i1 : 0 ≤ i) (i2 : i < 256) (hk1 : (s.step == 1) = false) :
    Calls Tryz.prog 171 #[.pointer (some ⟨B, 0, none⟩), .int .u8 i] w fun e w' => e = .returned (s.zeroPageBy i).2.val ∧ Tn B (s.zeroPageBy i).1 w0 w' := by
  have c_step := h.c.cstep; obtain ⟨l_step, u_step⟩ := h.c.rstep; have c_pc := h.c.cpc; obtain ⟨l_pc, u_pc⟩ := h.c.rpc; have c_ad := h.c.cad; obtain ⟨l_ad, u_ad⟩ := h.c.rad; have c_st := h.c.cst; obtain ⟨l_st, u_st⟩ := h.c.rst
  have hu : Hid (s.zeroPageBy i = ({ (s.read s.ad).1 with ad := withinI (s.read s.ad).1.ad i, st := 2 }, (s.read s.ad).2)) := by show _ = _; unfold PC.zeroPageBy; rw [if_neg (by simpa using hk1)]
  rw [hu.out]
  have _ := i1
  have _ := i2
  obtain ⟨hlt, hsz, n0, m0, fz0, n01, m01⟩ := h.pre
  go_enter Tryz.func171, Tryz.ntmps171
  go_wp2_with (first | (go_at_call 103; refine Ck.gq w0 w.heap.size kq11 (fun h => read_any h _ nq5 nq5) ?_; intro w1 k q1 q2 zz; intros; (try simp at zz); (try replace zz := Nat.lt_of_succ_le zz); (try have zl : w.heap.size + 1 < w1.heap.size := (by omega)); (try have zm : w.heap.size < w1.heap.size := (by omega)); have c_ad := k.c.cad; obtain ⟨l_ad, u_ad⟩ := k.c.rad; have c_st := k.c.cst; obtain ⟨l_st, u_st⟩ := k.c.rst; (try simp only [BusI.val])) | (go_at_call 175; refine (within_any _ _ _ nq5 nq5).mono ?_; rintro e w' ⟨rfl, rfl⟩))
  all_goals (try go_region_with (first | (go_at_call 103; refine Ck.gq w0 w.heap.size kq11 (fun h => read_any h _ nq5 nq5) ?_; intro w1 k q1 q2 zz; intros; (try simp at zz); (try replace zz := Nat.lt_of_succ_le zz); (try have zl : w.heap.size + 1 < w1.heap.size := (by omega)); (try have zm : w.heap.size < w1.heap.size := (by omega)); have c_ad := k.c.cad; obtain ⟨l_ad, u_ad⟩ := k.c.rad; have c_st := k.c.cst; obtain ⟨l_st, u_st⟩ := k.c.rst; (try simp only [BusI.val])) | (go_at_call 175; refine (within_any _ _ _ nq5 nq5).mono ?_; rintro e w' ⟨rfl, rfl⟩)))
  all_goals (try go_wp2_with (first | (go_at_call 103; refine Ck.gq w0 w.heap.size kq11 (fun h => read_any h _ nq5 nq5) ?_; intro w1 k q1 q2 zz; intros; (try simp at zz); (try replace zz := Nat.lt_of_succ_le zz); (try have zl : w.heap.size + 1 < w1.heap.size := (by omega)); (try have zm : w.heap.size < w1.heap.size := (by omega)); have c_ad := k.c.cad; obtain ⟨l_ad, u_ad⟩ := k.c.rad; have c_st := k.c.cst; obtain ⟨l_st, u_st⟩ := k.c.rst; (try simp only [BusI.val])) | (go_at_call 175; refine (within_any _ _ _ nq5 nq5).mono ?_; rintro e w' ⟨rfl, rfl⟩)))
  all_goals (try go_region_with (first | (go_at_call 103; refine Ck.gq w0 w.heap.size kq11 (fun h => read_any h _ nq5 nq5) ?_; intro w1 k q1 q2 zz; intros; (try simp at zz); (try replace zz := Nat.lt_of_succ_le zz); (try have zl : w.heap.size + 1 < w1.heap.size := (by omega)); (try have zm : w.heap.size < w1.heap.size := (by omega)); have c_ad := k.c.cad; obtain ⟨l_ad, u_ad⟩ := k.c.rad; have c_st := k.c.cst; obtain ⟨l_st, u_st⟩ := k.c.rst; (try simp only [BusI.val])) | (go_at_call 175; refine (within_any _ _ _ nq5 nq5).mono ?_; rintro e w' ⟨rfl, rfl⟩)))
  all_goals (try go_wp2_with (first | (go_at_call 103; refine Ck.gq w0 w.heap.size kq11 (fun h => read_any h _ nq5 nq5) ?_; intro w1 k q1 q2 zz; intros; (try simp at zz); (try replace zz := Nat.lt_of_succ_le zz); (try have zl : w.heap.size + 1 < w1.heap.size := (by omega)); (try have zm : w.heap.size < w1.heap.size := (by omega)); have c_ad := k.c.cad; obtain ⟨l_ad, u_ad⟩ := k.c.rad; have c_st := k.c.cst; obtain ⟨l_st, u_st⟩ := k.c.rst; (try simp only [BusI.val])) | (go_at_call 175; refine (within_any _ _ _ nq5 nq5).mono ?_; rintro e w' ⟨rfl, rfl⟩)))
  all_goals (have hr := Tryz.results171; exact bodyPost_ret brq rfl ⟨rfl, tq4⟩)

theorem zeroPageBy_any (h : Tn B s w0 w) (i : Int) (i1 : 0 ≤ i) (i2 : i < 256) :
    Calls Tryz.prog 171 #[.pointer (some ⟨B, 0, none⟩), .int .u8 i] w fun e w' => e = .returned (s.zeroPageBy i).2.val ∧ Tn B (s.zeroPageBy i).1 w0 w' := by
  by_cases e1 : s.step = 1
  · exact zeroPageBy_1 h i i1 i2 e1
  exact zeroPageBy_d h i i1 i2 (by simpa using e1)

theorem zeroPageX_any (h : Tn B s w0 w) :
    Calls Tryz.prog 115 #[.pointer (some ⟨B, 0, none⟩)] w fun e w' => e = .returned (s.zeroPageBy s.x).2.val ∧ Tn B (s.zeroPageBy s.x).1 w0 w' := by
  have c_x := h.c.cx; obtain ⟨l_x, u_x⟩ := h.c.rx
  obtain ⟨hlt, hsz, n0, m0, fz0, -⟩ := h.pre
  go_enter Tryz.func115, Tryz.ntmps115
  go_wp2_with (first | (go_at_call 171; refine Ck.go w0 w.heap.size kq6 (fun h => zeroPageBy_any h _ nq5 nq5) ?_; intro w1 k; intros; (try simp only [BusI.val])))
  all_goals (have hr := Tryz.results115; exact bodyPost_ret brq rfl ⟨rfl, tq1⟩)

theorem zeroPageY_any (h : Tn B s w0 w) :
    Calls Tryz.prog 116 #[.pointer (some ⟨B, 0, none⟩)] w fun e w' => e = .returned (s.zeroPageBy s.y).2.val ∧ Tn B (s.zeroPageBy s.y).1 w0 w' := by
  have c_y := h.c.cy; obtain ⟨l_y, u_y⟩ := h.c.ry
  obtain ⟨hlt, hsz, n0, m0, fz0, -⟩ := h.pre
  go_enter Tryz.func116, Tryz.ntmps116
  go_wp2_with (first | (go_at_call 171; refine Ck.go w0 w.heap.size kq6 (fun h => zeroPageBy_any h _ nq5 nq5) ?_; intro w1 k; intros; (try simp only [BusI.val])))
  all_goals (have hr := Tryz.results116; exact bodyPost_ret brq rfl ⟨rfl, tq1⟩)

theorem absolute_1 (h : Tn B s w0 w) (hk : s.step = 1) :
    Calls Tryz.prog 117 #[.pointer (some ⟨B, 0, none⟩)] w fun e w' => e = .returned (s.absolute).2.val ∧ Tn B (s.absolute).1 w0 w' := by
  have c_step := h.c.cstep; obtain ⟨l_step, u_step⟩ := h.c.rstep; have c_pc := h.c.cpc; obtain ⟨l_pc, u_pc⟩ := h.c.rpc; have c_st := h.c.cst; obtain ⟨l_st, u_st⟩ := h.c.rst
  have hu : Hid (s.absolute = takeLow s.readNext) := by show _ = _; unfold PC.absolute; rw [if_pos hk]
  rw [hu.out]
  rw [hk] at c_step
  obtain ⟨hlt, hsz, n0, m0, fz0, -⟩ := h.pre
  go_enter Tryz.func117, Tryz.ntmps117
  go_wp2_with (first | (go_at_call 169; refine Ck.go w0 w.heap.size kq4 (fun h => readNext_any h) ?_; intro w1 k; intros; have c_pc := k.c.cpc; obtain ⟨l_pc, u_pc⟩ := k.c.rpc; (try simp only [BusI.val])) | (go_at_call 170; refine Ck.go w0 w.heap.size kq4 (fun h => takeLow_any h ⟨_, _, _, _⟩) ?_; intro w1 k; intros; have c_pc := k.c.cpc; obtain ⟨l_pc, u_pc⟩ := k.c.rpc; (try simp only [BusI.val])))
  all_goals (have hr := Tryz.results117; exact bodyPost_ret brq rfl ⟨rfl, tq2⟩)

theorem absolute_d (h : Tn B s w0 w) (hk1 : (s.step == 1) = false) :
    Calls Tryz.prog 117 #[.pointer (some ⟨B, 0, none⟩)] w fun e w' => e = .returned (s.absolute).2.val ∧ Tn B (s.absolute).1 w0 w' := by
  have c_step := h.c.cstep; obtain ⟨l_step, u_step⟩ := h.c.rstep; have c_pc := h.c.cpc; obtain ⟨l_pc, u_pc⟩ := h.c.rpc; have c_st := h.c.cst; obtain ⟨l_st, u_st⟩ := h.c.rst
  have hu : Hid (s.absolute = takeHigh ({ s with st := 2 } : PC).readNext) := by show _ = _; unfold PC.absolute; rw [if_neg (by simpa using hk1)]
  rw [hu.out]
  obtain ⟨hlt, hsz, n0, m0, fz0, -⟩ := h.pre
  go_enter Tryz.func117, Tryz.ntmps117
  go_wp2_with (first | (go_at_call 169; refine Ck.go w0 w.heap.size kq4 (fun h => readNext_any h) ?_; intro w1 k; intros; have c_pc := k.c.cpc; obtain ⟨l_pc, u_pc⟩ := k.c.rpc; (try simp only [BusI.val])) | (go_at_call 172; refine Ck.go w0 w.heap.size kq4 (fun h => takeHigh_any h ⟨_, _, _, _⟩) ?_; intro w1 k; intros; have c_pc := k.c.cpc; obtain ⟨l_pc, u_pc⟩ := k.c.rpc; (try simp only [BusI.val])))
  all_goals (have hr := Tryz.results117; exact bodyPost_ret brq rfl ⟨rfl, tq2⟩)

theorem absolute_any (h : Tn B s w0 w) :
    Calls Tryz.prog 117 #[.pointer (some ⟨B, 0, none⟩)] w fun e w' => e = .returned (s.absolute).2.val ∧ Tn B (s.absolute).1 w0 w' := by
  by_cases e1 : s.step = 1
  · exact absolute_1 h  e1
  exact absolute_d h  (by simpa using e1)

end Go.Proofs.YtcgjliflnnklnaaGreat
