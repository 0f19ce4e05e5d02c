/-
  Modes with an index: walked.
-/
import Derived.Test.YtcgjliflnnklnaaGreatJ11
import Derived.Test.YtcgjliflnnklnaaGreatCpEz
import Derived.Test.YtcgjliflnnklnaaGreatJ12
namespace Go.Proofs.YtcgjliflnnklnaaGreat
open Go.RowKit
set_option maxRecDepth 100000
set_option maxHeartbeats 1000000
variable {B : Nat} {s : PC} {w0 w : World}

theorem indexed_e (h : Tn B s w0 w) (i : Int) (i1 : 0 ≤ i) (i2 : i < 256) (e1 : ((s.ad + i) % 65536 == withinI s.ad i) = true) (e2 : kindI s.ins = 0) :
    Calls Tryz.prog 176 #[.pointer (some ⟨B, 0, none⟩), .int .u8 i] w fun e w' => e = .returned (s.indexed i).2.val ∧ Tn B (s.indexed i).1 w0 w' := by
  have c_ad := h.c.cad; obtain ⟨l_ad, u_ad⟩ := h.c.rad; have c_st := h.c.cst; obtain ⟨l_st, u_st⟩ := h.c.rst; have c_ins := h.c.cins; obtain ⟨l_ins, u_ins⟩ := h.c.rins
  have near : Hid (s.indexed i = ({ s with ad := (s.ad + i) % 65536, st := 2 } : PC).access) := by show _ = _; unfold PC.indexed; simp only []; rw [if_pos ⟨by simpa using e1, e2⟩]
  rw [near.out]
  have wn := within_r s.ad i l_ad u_ad
  obtain ⟨v1, v2⟩ := wn
  have sm : IntKind.u16.wrap (s.ad + i) = (s.ad + i) % 65536 := IntKind.wrap_u16 _
  obtain ⟨hlt, hsz, n0, m0, fz0, -⟩ := h.pre
  go_enter Tryz.func176, Tryz.ntmps176
  go_wp2_with (first | (go_at_call 175; refine (within_any _ _ _ nq5 nq5).mono ?_; rintro e w' ⟨rfl, rfl⟩) | (go_at_call 107; refine (kind_any _ _).mono ?_; rintro e w' ⟨rfl, rfl⟩) | (go_at_call 80; refine Ck.go w0 w.heap.size kq10 (fun h => access_any h) ?_; intro w1 k; intros; have c_ad := k.c.cad; obtain ⟨l_ad, u_ad⟩ := k.c.rad; (try simp only [BusI.val])))
  all_goals (have hr := Tryz.results176; exact bodyPost_ret brq rfl ⟨rfl, tq4⟩)

theorem indexed_k (h : Tn B s w0 w) (i : Int) (i1 : 0 ≤ i) (i2 : i < 256) (e1 : ((s.ad + i) % 65536 == withinI s.ad i) = true) (e2 : (kindI s.ins == 0) = false) :
    Calls Tryz.prog 176 #[.pointer (some ⟨B, 0, none⟩), .int .u8 i] w fun e w' => e = .returned (s.indexed i).2.val ∧ Tn B (s.indexed i).1 w0 w' := by
  have c_ad := h.c.cad; obtain ⟨l_ad, u_ad⟩ := h.c.rad; have c_st := h.c.cst; obtain ⟨l_st, u_st⟩ := h.c.rst; have c_ins := h.c.cins; obtain ⟨l_ins, u_ins⟩ := h.c.rins
  have near : Hid (s.indexed i = ({ s with ad := (s.ad + i) % 65536, st := 2 } : PC).read (withinI s.ad i)) := by show _ = _; unfold PC.indexed; simp only []; rw [if_neg (fun q => by have := q.2; simp [this] at e2)]
  rw [near.out]
  have wn := within_r s.ad i l_ad u_ad
  obtain ⟨v1, v2⟩ := wn
  have sm : IntKind.u16.wrap (s.ad + i) = (s.ad + i) % 65536 := IntKind.wrap_u16 _
  obtain ⟨hlt, hsz, n0, m0, fz0, -⟩ := h.pre
  go_enter Tryz.func176, Tryz.ntmps176
  go_wp2_with (first | (go_at_call 175; refine (within_any _ _ _ nq5 nq5).mono ?_; rintro e w' ⟨rfl, rfl⟩) | (go_at_call 107; refine (kind_any _ _).mono ?_; rintro e w' ⟨rfl, rfl⟩) | (go_at_call 103; refine Ck.go w0 w.heap.size kq10 (fun h => read_any h _ nq5 nq5) ?_; intro w1 k; intros; have c_ad := k.c.cad; obtain ⟨l_ad, u_ad⟩ := k.c.rad; (try simp only [BusI.val])))
  all_goals (have hr := Tryz.results176; exact bodyPost_ret brq rfl ⟨rfl, tq4⟩)

theorem indexed_n (h : Tn B s w0 w) (i : Int) (i1 : 0 ≤ i) (i2 : i < 256) (e1 : ((s.ad + i) % 65536 == withinI s.ad i) = false) :
    Calls Tryz.prog 176 #[.pointer (some ⟨B, 0, none⟩), .int .u8 i] w fun e w' => e = .returned (s.indexed i).2.val ∧ Tn B (s.indexed i).1 w0 w' := by
  have c_ad := h.c.cad; obtain ⟨l_ad, u_ad⟩ := h.c.rad; have c_st := h.c.cst; obtain ⟨l_st, u_st⟩ := h.c.rst; have c_ins := h.c.cins; obtain ⟨l_ins, u_ins⟩ := h.c.rins
  have near : Hid (s.indexed i = ({ s with ad := (s.ad + i) % 65536, st := 2 } : PC).read (withinI s.ad i)) := by show _ = _; unfold PC.indexed; simp only []; rw [if_neg (fun q => by have := q.1; simp [this] at e1)]
  rw [near.out]
  have wn := within_r s.ad i l_ad u_ad
  obtain ⟨v1, v2⟩ := wn
  have sm : IntKind.u16.wrap (s.ad + i) = (s.ad + i) % 65536 := IntKind.wrap_u16 _
  obtain ⟨hlt, hsz, n0, m0, fz0, -⟩ := h.pre
  go_enter Tryz.func176, Tryz.ntmps176
  go_wp2_with (first | (go_at_call 175; refine (within_any _ _ _ nq5 nq5).mono ?_; rintro e w' ⟨rfl, rfl⟩) | (go_at_call 107; refine (kind_any _ _).mono ?_; rintro e w' ⟨rfl, rfl⟩) | (go_at_call 103; refine Ck.go w0 w.heap.size kq10 (fun h => read_any h _ nq5 nq5) ?_; intro w1 k; intros; have c_ad := k.c.cad; obtain ⟨l_ad, u_ad⟩ := k.c.rad; (try simp only [BusI.val])))
  all_goals (have hr := Tryz.results176; exact bodyPost_ret brq rfl ⟨rfl, tq4⟩)

theorem indexed_any (h : Tn B s w0 w) (i : Int) (i1 : 0 ≤ i) (i2 : i < 256) :
    Calls Tryz.prog 176 #[.pointer (some ⟨B, 0, none⟩), .int .u8 i] w fun e w' => e = .returned (s.indexed i).2.val ∧ Tn B (s.indexed i).1 w0 w' := by
  by_cases e1 : (s.ad + i) % 65536 = withinI s.ad i
  · by_cases e2 : kindI s.ins = 0
    · exact indexed_e h i i1 i2 (by simpa using e1) e2
    · exact indexed_k h i i1 i2 (by simpa using e1) (by simpa using e2)
  · exact indexed_n h i i1 i2 (by simpa using e1)

theorem absoluteBy_1 (h : Tn B s w0 w) (i : Int) (i1 : 0 ≤ i) (i2 : i < 256) (hk : s.step = 1) :
    Calls Tryz.prog 173 #[.pointer (some ⟨B, 0, none⟩), .int .u8 i] w fun e w' => e = .returned (s.absoluteBy i).2.val ∧ Tn B (s.absoluteBy i).1 w0 w' := by
  have c_step := h.c.cstep; obtain ⟨l_step, u_step⟩ := h.c.rstep; have c_pc := h.c.cpc; obtain ⟨l_pc, u_pc⟩ := h.c.rpc
  have hu : Hid (s.absoluteBy i = takeLow s.readNext) := by show _ = _; unfold PC.absoluteBy; rw [if_pos hk]
  rw [hu.out]
  rw [hk] at c_step
  have _ := i1
  have _ := i2
  obtain ⟨hlt, hsz, n0, m0, fz0, -⟩ := h.pre
  go_enter Tryz.func173, Tryz.ntmps173
  go_wp2_with (first | (go_at_call 169; refine Ck.go w0 w.heap.size kq6 (fun h => readNext_any h) ?_; intro w1 k; intros; have c_pc := k.c.cpc; obtain ⟨l_pc, u_pc⟩ := k.c.rpc; (try simp only [BusI.val])) | (go_at_call 170; refine Ck.go w0 w.heap.size kq6 (fun h => takeLow_any h ⟨_, _, _, _⟩) ?_; intro w1 k; intros; have c_pc := k.c.cpc; obtain ⟨l_pc, u_pc⟩ := k.c.rpc; (try simp only [BusI.val])))
  all_goals (have hr := Tryz.results173; exact bodyPost_ret brq rfl ⟨rfl, tq1⟩)

theorem absoluteBy_2 (h : Tn B s w0 w) (i : Int) (i1 : 0 ≤ i) (i2 : i < 256) (hk : s.step = 2) :
    Calls Tryz.prog 173 #[.pointer (some ⟨B, 0, none⟩), .int .u8 i] w fun e w' => e = .returned (s.absoluteBy i).2.val ∧ Tn B (s.absoluteBy i).1 w0 w' := by
  have c_step := h.c.cstep; obtain ⟨l_step, u_step⟩ := h.c.rstep; have c_pc := h.c.cpc; obtain ⟨l_pc, u_pc⟩ := h.c.rpc
  have hu : Hid (s.absoluteBy i = takeHigh s.readNext) := by show _ = _; unfold PC.absoluteBy; rw [if_neg (by rw [hk]; decide), if_pos hk]
  rw [hu.out]
  rw [hk] at c_step
  have _ := i1
  have _ := i2
  obtain ⟨hlt, hsz, n0, m0, fz0, -⟩ := h.pre
  go_enter Tryz.func173, Tryz.ntmps173
  go_wp2_with (first | (go_at_call 169; refine Ck.go w0 w.heap.size kq6 (fun h => readNext_any h) ?_; intro w1 k; intros; have c_pc := k.c.cpc; obtain ⟨l_pc, u_pc⟩ := k.c.rpc; (try simp only [BusI.val])) | (go_at_call 172; refine Ck.go w0 w.heap.size kq6 (fun h => takeHigh_any h ⟨_, _, _, _⟩) ?_; intro w1 k; intros; have c_pc := k.c.cpc; obtain ⟨l_pc, u_pc⟩ := k.c.rpc; (try simp only [BusI.val])))
  all_goals (have hr := Tryz.results173; exact bodyPost_ret brq rfl ⟨rfl, tq1⟩)

theorem absoluteBy_d (h : Tn B s w0 w) (i : Int) (i1 : 0 ≤ i) (i2 : i < 256) (hk1 : (s.step == 1) = false) (hk2 : (s.step == 2) = false) :
    Calls Tryz.prog 173 #[.pointer (some ⟨B, 0, none⟩), .int .u8 i] w fun e w' => e = .returned (s.absoluteBy i).2.val ∧ Tn B (s.absoluteBy i).1 w0 w' := by
  have c_step := h.c.cstep; obtain ⟨l_step, u_step⟩ := h.c.rstep; have c_pc := h.c.cpc; obtain ⟨l_pc, u_pc⟩ := h.c.rpc
  have hu : Hid (s.absoluteBy i = s.indexed i) := by show _ = _; unfold PC.absoluteBy; rw [if_neg (by simpa using hk1), if_neg (by simpa using hk2)]
  rw [hu.out]
  have _ := i1
  have _ := i2
  obtain ⟨hlt, hsz, n0, m0, fz0, -⟩ := h.pre
  go_enter Tryz.func173, Tryz.ntmps173
  go_wp2_with (first | (go_at_call 176; refine Ck.go w0 w.heap.size kq6 (fun h => indexed_any h _ nq5 nq5) ?_; intro w1 k; intros; have c_pc := k.c.cpc; obtain ⟨l_pc, u_pc⟩ := k.c.rpc; (try simp only [BusI.val])))
  all_goals (have hr := Tryz.results173; exact bodyPost_ret brq rfl ⟨rfl, tq1⟩)

theorem absoluteBy_any (h : Tn B s w0 w) (i : Int) (i1 : 0 ≤ i) (i2 : i < 256) :
    Calls Tryz.prog 173 #[.pointer (some ⟨B, 0, none⟩), .int .u8 i] w fun e w' => e = .returned (s.absoluteBy i).2.val ∧ Tn B (s.absoluteBy i).1 w0 w' := by
  by_cases e1 : s.step = 1
  · exact absoluteBy_1 h i i1 i2 e1
  by_cases e2 : s.step = 2
  · exact absoluteBy_2 h i i1 i2 e2
  exact absoluteBy_d h i i1 i2 (by simpa using e1) (by simpa using e2)

theorem absoluteX_any (h : Tn B s w0 w) :
    Calls Tryz.prog 118 #[.pointer (some ⟨B, 0, none⟩)] w fun e w' => e = .returned (s.absoluteBy s.x).2.val ∧ Tn B (s.absoluteBy s.x).1 w0 w' := by
  have c_x := h.c.cx; obtain ⟨l_x, u_x⟩ := h.c.rx
  obtain ⟨hlt, hsz, n0, m0, fz0, -⟩ := h.pre
  go_enter Tryz.func118, Tryz.ntmps118
  go_wp2_with (first | (go_at_call 173; refine Ck.go w0 w.heap.size kq6 (fun h => absoluteBy_any h _ nq5 nq5) ?_; intro w1 k; intros; (try simp only [BusI.val])))
  all_goals (have hr := Tryz.results118; exact bodyPost_ret brq rfl ⟨rfl, tq1⟩)

theorem absoluteY_any (h : Tn B s w0 w) :
    Calls Tryz.prog 119 #[.pointer (some ⟨B, 0, none⟩)] w fun e w' => e = .returned (s.absoluteBy s.y).2.val ∧ Tn B (s.absoluteBy s.y).1 w0 w' := by
  have c_y := h.c.cy; obtain ⟨l_y, u_y⟩ := h.c.ry
  obtain ⟨hlt, hsz, n0, m0, fz0, -⟩ := h.pre
  go_enter Tryz.func119, Tryz.ntmps119
  go_wp2_with (first | (go_at_call 173; refine Ck.go w0 w.heap.size kq6 (fun h => absoluteBy_any h _ nq5 nq5) ?_; intro w1 k; intros; (try simp only [BusI.val])))
  all_goals (have hr := Tryz.results119; exact bodyPost_ret brq rfl ⟨rfl, tq1⟩)

end Go.Proofs.YtcgjliflnnklnaaGreat
