/-
  Pushes, pulls, interrupts: walked.
-/
import Derived.Test.YtcgjliflnnklnaaGreatJ11
import Derived.Test.YtcgjliflnnklnaaGreatCpEz
import Derived.Test.YtcgjliflnnklnaaGreatJ12
namespace Go.Proofs.YtcgjliflnnklnaaGreat
open Go.RowKit
set_option maxRecDepth 100000
set_option maxHeartbeats 1000000
variable {B : Nat} {s : PC} {w0 w : World}

theorem pushByte_1 (h : Tn B s w0 w) (hk : s.step = 1) :
    Calls Tryz.prog 127 #[.pointer (some ⟨B, 0, none⟩)] w fun e w' => e = .returned (s.pushByte).2.val ∧ Tn B (s.pushByte).1 w0 w' := by
  have c_step := h.c.cstep; obtain ⟨l_step, u_step⟩ := h.c.rstep; have c_pc := h.c.cpc; obtain ⟨l_pc, u_pc⟩ := h.c.rpc
  have hu : Hid (s.pushByte = s.read s.pc) := by show _ = _; unfold PC.pushByte; rw [if_pos hk]
  rw [hu.out]
  rw [hk] at c_step
  obtain ⟨hlt, hsz, n0, m0, fz0, -⟩ := h.pre
  go_enter Tryz.func127, Tryz.ntmps127
  go_wp2_with (first | (go_at_call 103; refine Ck.go w0 w.heap.size kq6 (fun h => read_any h _ nq5 nq5) ?_; intro w1 k; intros; have c_data := k.c.cdata; obtain ⟨l_data, u_data⟩ := k.c.rdata; (try simp only [BusI.val])))
  all_goals (try go_region_with (first | (go_at_call 103; refine Ck.go w0 w.heap.size kq6 (fun h => read_any h _ nq5 nq5) ?_; intro w1 k; intros; have c_data := k.c.cdata; obtain ⟨l_data, u_data⟩ := k.c.rdata; (try simp only [BusI.val]))))
  all_goals (try go_wp2_with (first | (go_at_call 103; refine Ck.go w0 w.heap.size kq6 (fun h => read_any h _ nq5 nq5) ?_; intro w1 k; intros; have c_data := k.c.cdata; obtain ⟨l_data, u_data⟩ := k.c.rdata; (try simp only [BusI.val]))))
  all_goals (have hr := Tryz.results127; exact bodyPost_ret brq rfl ⟨rfl, tq1⟩)

theorem pushByte_d (h : Tn B s w0 w) (hk1 : (s.step == 1) = false) :
    Calls Tryz.prog 127 #[.pointer (some ⟨B, 0, none⟩)] w fun e w' => e = .returned (s.pushByte).2.val ∧ Tn B (s.pushByte).1 w0 w' := by
  have c_step := h.c.cstep; obtain ⟨l_step, u_step⟩ := h.c.rstep; have c_pc := h.c.cpc; obtain ⟨l_pc, u_pc⟩ := h.c.rpc
  have hu : Hid (s.pushByte = ((s.perform.pushed s.perform.data).1.finish, (s.perform.pushed s.perform.data).2)) := by show _ = _; unfold PC.pushByte; rw [if_neg (by simpa using hk1)]
  rw [hu.out]
  obtain ⟨hlt, hsz, n0, m0, fz0, n01, m01⟩ := h.pre
  go_enter Tryz.func127, Tryz.ntmps127
  go_wp2_with (first | (go_at_call 167; refine Ck.gq w0 w.heap.size kq8 (fun h => perform_any h) ?_; intro w1 k q1 q2 zz; intros; (try simp at zz); (try replace zz := Nat.lt_of_succ_le zz); (try have zl : w.heap.size + 1 < w1.heap.size := (by omega)); (try have zm : w.heap.size < w1.heap.size := (by omega)); have c_data := k.c.cdata; obtain ⟨l_data, u_data⟩ := k.c.rdata; skip) | (go_at_call 182; refine Ck.gq w0 w.heap.size kq8 (fun h => pushed_any h _ nq5 nq5) ?_; intro w1 k q1 q2 zz; intros; (try simp at zz); (try replace zz := Nat.lt_of_succ_le zz); (try have zl : w.heap.size + 1 < w1.heap.size := (by omega)); (try have zm : w.heap.size < w1.heap.size := (by omega)); have c_data := k.c.cdata; obtain ⟨l_data, u_data⟩ := k.c.rdata; (try simp only [BusI.val])) | (go_at_call 168; refine Ck.gq w0 w.heap.size kq8 (fun h => finish_any h) ?_; intro w1 k q1 q2 zz; intros; (try simp at zz); (try replace zz := Nat.lt_of_succ_le zz); (try have zl : w.heap.size + 1 < w1.heap.size := (by omega)); (try have zm : w.heap.size < w1.heap.size := (by omega)); have c_data := k.c.cdata; obtain ⟨l_data, u_data⟩ := k.c.rdata; skip))
  all_goals (have hr := Tryz.results127; exact bodyPost_ret brq rfl ⟨rfl, tq1⟩)

theorem pushByte_any (h : Tn B s w0 w) :
    Calls Tryz.prog 127 #[.pointer (some ⟨B, 0, none⟩)] w fun e w' => e = .returned (s.pushByte).2.val ∧ Tn B (s.pushByte).1 w0 w' := by
  by_cases e1 : s.step = 1
  · exact pushByte_1 h  e1
  exact pushByte_d h  (by simpa using e1)

theorem pullByte_1 (h : Tn B s w0 w) (hk : s.step = 1) :
    Calls Tryz.prog 128 #[.pointer (some ⟨B, 0, none⟩)] w fun e w' => e = .returned (s.pullByte).2.val ∧ Tn B (s.pullByte).1 w0 w' := by
  have c_step := h.c.cstep; obtain ⟨l_step, u_step⟩ := h.c.rstep; have c_pc := h.c.cpc; obtain ⟨l_pc, u_pc⟩ := h.c.rpc; have c_s := h.c.cs; obtain ⟨l_s, u_s⟩ := h.c.rs
  have hu : Hid (s.pullByte = s.read s.pc) := by show _ = _; unfold PC.pullByte; rw [if_pos hk]
  rw [hu.out]
  rw [hk] at c_step
  obtain ⟨hlt, hsz, n0, m0, fz0, -⟩ := h.pre
  go_enter Tryz.func128, Tryz.ntmps128
  go_wp2_with (first | (go_at_call 103; refine Ck.go w0 w.heap.size kq6 (fun h => read_any h _ nq5 nq5) ?_; intro w1 k; intros; have c_pc := k.c.cpc; obtain ⟨l_pc, u_pc⟩ := k.c.rpc; (try simp only [BusI.val])))
  all_goals (try go_region_with (first | (go_at_call 103; refine Ck.go w0 w.heap.size kq6 (fun h => read_any h _ nq5 nq5) ?_; intro w1 k; intros; have c_pc := k.c.cpc; obtain ⟨l_pc, u_pc⟩ := k.c.rpc; (try simp only [BusI.val]))))
  all_goals (try go_wp2_with (first | (go_at_call 103; refine Ck.go w0 w.heap.size kq6 (fun h => read_any h _ nq5 nq5) ?_; intro w1 k; intros; have c_pc := k.c.cpc; obtain ⟨l_pc, u_pc⟩ := k.c.rpc; (try simp only [BusI.val]))))
  all_goals (have hr := Tryz.results128; exact bodyPost_ret brq rfl ⟨rfl, tq1⟩)

theorem pullByte_2 (h : Tn B s w0 w) (hk : s.step = 2) :
    Calls Tryz.prog 128 #[.pointer (some ⟨B, 0, none⟩)] w fun e w' => e = .returned (s.pullByte).2.val ∧ Tn B (s.pullByte).1 w0 w' := by
  have c_step := h.c.cstep; obtain ⟨l_step, u_step⟩ := h.c.rstep; have c_pc := h.c.cpc; obtain ⟨l_pc, u_pc⟩ := h.c.rpc; have c_s := h.c.cs; obtain ⟨l_s, u_s⟩ := h.c.rs
  have hu : Hid (s.pullByte = s.read s.stackTop) := by show _ = _; unfold PC.pullByte; rw [if_neg (by rw [hk]; decide), if_pos hk]
  rw [hu.out]
  rw [hk] at c_step
  obtain ⟨hlt, hsz, n0, m0, fz0, -⟩ := h.pre
  go_enter Tryz.func128, Tryz.ntmps128
  go_wp2_with (first | (go_at_call 181; refine (Ck.same (w0 := w0) (R := w.heap.size) kq6 (fun h => stackTop_any h)).mono ?_; rintro e w' ⟨rfl, rfl⟩) | (go_at_call 103; refine Ck.go w0 w.heap.size kq6 (fun h => read_any h _ nq5 nq5) ?_; intro w1 k; intros; have c_pc := k.c.cpc; obtain ⟨l_pc, u_pc⟩ := k.c.rpc; (try simp only [BusI.val])))
  all_goals (try go_region_with (first | (go_at_call 181; refine (Ck.same (w0 := w0) (R := w.heap.size) kq6 (fun h => stackTop_any h)).mono ?_; rintro e w' ⟨rfl, rfl⟩) | (go_at_call 103; refine Ck.go w0 w.heap.size kq6 (fun h => read_any h _ nq5 nq5) ?_; intro w1 k; intros; have c_pc := k.c.cpc; obtain ⟨l_pc, u_pc⟩ := k.c.rpc; (try simp only [BusI.val]))))
  all_goals (try go_wp2_with (first | (go_at_call 181; refine (Ck.same (w0 := w0) (R := w.heap.size) kq6 (fun h => stackTop_any h)).mono ?_; rintro e w' ⟨rfl, rfl⟩) | (go_at_call 103; refine Ck.go w0 w.heap.size kq6 (fun h => read_any h _ nq5 nq5) ?_; intro w1 k; intros; have c_pc := k.c.cpc; obtain ⟨l_pc, u_pc⟩ := k.c.rpc; (try simp only [BusI.val]))))
  all_goals (have hr := Tryz.results128; exact bodyPost_ret brq rfl ⟨rfl, tq1⟩)

theorem pullByte_d (h : Tn B s w0 w) (hk1 : (s.step == 1) = false) (hk2 : (s.step == 2) = false) :
    Calls Tryz.prog 128 #[.pointer (some ⟨B, 0, none⟩)] w fun e w' => e = .returned (s.pullByte).2.val ∧ Tn B (s.pullByte).1 w0 w' := by
  have c_step := h.c.cstep; obtain ⟨l_step, u_step⟩ := h.c.rstep; have c_pc := h.c.cpc; obtain ⟨l_pc, u_pc⟩ := h.c.rpc; have c_s := h.c.cs; obtain ⟨l_s, u_s⟩ := h.c.rs
  have hu : Hid (s.pullByte = ((takeData s.pulled).1.performLast, (takeData s.pulled).2)) := by show _ = _; unfold PC.pullByte; rw [if_neg (by simpa using hk1), if_neg (by simpa using hk2)]
  rw [hu.out]
  obtain ⟨hlt, hsz, n0, m0, fz0, n01, m01⟩ := h.pre
  go_enter Tryz.func128, Tryz.ntmps128
  go_wp2_with (first | (go_at_call 183; refine Ck.gq w0 w.heap.size kq8 (fun h => pulled_any h) ?_; intro w1 k q1 q2 zz; intros; (try simp at zz); (try replace zz := Nat.lt_of_succ_le zz); (try have zl : w.heap.size + 1 < w1.heap.size := (by omega)); (try have zm : w.heap.size < w1.heap.size := (by omega)); have c_pc := k.c.cpc; obtain ⟨l_pc, u_pc⟩ := k.c.rpc; (try simp only [BusI.val])) | (go_at_call 110; refine Ck.gq w0 w.heap.size kq8 (fun h => takeData_any h ⟨_, _, _, _⟩) ?_; intro w1 k q1 q2 zz; intros; (try simp at zz); (try replace zz := Nat.lt_of_succ_le zz); (try have zl : w.heap.size + 1 < w1.heap.size := (by omega)); (try have zm : w.heap.size < w1.heap.size := (by omega)); have c_pc := k.c.cpc; obtain ⟨l_pc, u_pc⟩ := k.c.rpc; (try simp only [BusI.val])) | (go_at_call 108; refine Ck.gq w0 w.heap.size kq8 (fun h => performLast_any h) ?_; intro w1 k q1 q2 zz; intros; (try simp at zz); (try replace zz := Nat.lt_of_succ_le zz); (try have zl : w.heap.size + 1 < w1.heap.size := (by omega)); (try have zm : w.heap.size < w1.heap.size := (by omega)); have c_pc := k.c.cpc; obtain ⟨l_pc, u_pc⟩ := k.c.rpc; skip))
  all_goals (have hr := Tryz.results128; exact bodyPost_ret brq rfl ⟨rfl, tq1⟩)

theorem pullByte_any (h : Tn B s w0 w) :
    Calls Tryz.prog 128 #[.pointer (some ⟨B, 0, none⟩)] w fun e w' => e = .returned (s.pullByte).2.val ∧ Tn B (s.pullByte).1 w0 w' := by
  by_cases e1 : s.step = 1
  · exact pullByte_1 h  e1
  by_cases e2 : s.step = 2
  · exact pullByte_2 h  e2
  exact pullByte_d h  (by simpa using e1) (by simpa using e2)

theorem enter_2 (h : Tn B s w0 w) (v f : Int) (v1 : 0 ≤ v) (v2 : v < 65536) (f1 : 0 ≤ f) (f2 : f < 256) (hk : s.step = 2) :
    Calls Tryz.prog 184 #[.pointer (some ⟨B, 0, none⟩), .int .u16 v, .int .u8 f] w fun e w' => e = .returned (s.enter v f).2.val ∧ Tn B (s.enter v f).1 w0 w' := by
  have c_step := h.c.cstep; obtain ⟨l_step, u_step⟩ := h.c.rstep; have c_pc := h.c.cpc; obtain ⟨l_pc, u_pc⟩ := h.c.rpc; have c_s := h.c.cs; obtain ⟨l_s, u_s⟩ := h.c.rs
  have hu : Hid (s.enter v f = s.pushed (hiI s.pc)) := by show _ = _; unfold PC.enter; rw [if_pos hk]
  rw [hu.out]
  rw [hk] at c_step
  have _ := v1
  have _ := v2
  have _ := f1
  have _ := f2
  obtain ⟨hlt, hsz, n0, m0, fz0, -⟩ := h.pre
  go_enter Tryz.func184, Tryz.ntmps184
  go_wp2_with (first | (go_at_call 177; refine (highOf_any _ _ nq5 nq5).mono ?_; rintro e w' ⟨rfl, rfl⟩) | (go_at_call 182; refine Ck.go w0 w.heap.size kq6 (fun h => pushed_any h _ nq5 nq5) ?_; intro w1 k; intros; have c_pc := k.c.cpc; obtain ⟨l_pc, u_pc⟩ := k.c.rpc; (try simp only [BusI.val])))
  all_goals (have hr := Tryz.results184; exact bodyPost_ret brq rfl ⟨rfl, tq1⟩)

theorem enter_3 (h : Tn B s w0 w) (v f : Int) (v1 : 0 ≤ v) (v2 : v < 65536) (f1 : 0 ≤ f) (f2 : f < 256) (hk : s.step = 3) :
    Calls Tryz.prog 184 #[.pointer (some ⟨B, 0, none⟩), .int .u16 v, .int .u8 f] w fun e w' => e = .returned (s.enter v f).2.val ∧ Tn B (s.enter v f).1 w0 w' := by
  have c_step := h.c.cstep; obtain ⟨l_step, u_step⟩ := h.c.rstep; have c_pc := h.c.cpc; obtain ⟨l_pc, u_pc⟩ := h.c.rpc; have c_s := h.c.cs; obtain ⟨l_s, u_s⟩ := h.c.rs
  have hu : Hid (s.enter v f = s.pushed (loI s.pc)) := by show _ = _; unfold PC.enter; rw [if_neg (by rw [hk]; decide), if_pos hk]
  rw [hu.out]
  rw [hk] at c_step
  have _ := v1
  have _ := v2
  have _ := f1
  have _ := f2
  obtain ⟨hlt, hsz, n0, m0, fz0, -⟩ := h.pre
  go_enter Tryz.func184, Tryz.ntmps184
  go_wp2_with (first | (go_at_call 179; refine (lowOf_any _ _).mono ?_; rintro e w' ⟨rfl, rfl⟩) | (go_at_call 182; refine Ck.go w0 w.heap.size kq6 (fun h => pushed_any h _ nq5 nq5) ?_; intro w1 k; intros; have c_pc := k.c.cpc; obtain ⟨l_pc, u_pc⟩ := k.c.rpc; (try simp only [BusI.val])))
  all_goals (have hr := Tryz.results184; exact bodyPost_ret brq rfl ⟨rfl, tq1⟩)

theorem enter_4 (h : Tn B s w0 w) (v f : Int) (v1 : 0 ≤ v) (v2 : v < 65536) (f1 : 0 ≤ f) (f2 : f < 256) (hk : s.step = 4) :
    Calls Tryz.prog 184 #[.pointer (some ⟨B, 0, none⟩), .int .u16 v, .int .u8 f] w fun e w' => e = .returned (s.enter v f).2.val ∧ Tn B (s.enter v f).1 w0 w' := by
  have c_step := h.c.cstep; obtain ⟨l_step, u_step⟩ := h.c.rstep; have c_pc := h.c.cpc; obtain ⟨l_pc, u_pc⟩ := h.c.rpc; have c_s := h.c.cs; obtain ⟨l_s, u_s⟩ := h.c.rs
  have hu : Hid (s.enter v f = s.pushed f) := by show _ = _; unfold PC.enter; rw [if_neg (by rw [hk]; decide), if_neg (by rw [hk]; decide), if_pos hk]
  rw [hu.out]
  rw [hk] at c_step
  have _ := v1
  have _ := v2
  have _ := f1
  have _ := f2
  obtain ⟨hlt, hsz, n0, m0, fz0, -⟩ := h.pre
  go_enter Tryz.func184, Tryz.ntmps184
  go_wp2_with (first | (go_at_call 182; refine Ck.go w0 w.heap.size kq6 (fun h => pushed_any h _ nq5 nq5) ?_; intro w1 k; intros; have c_pc := k.c.cpc; obtain ⟨l_pc, u_pc⟩ := k.c.rpc; (try simp only [BusI.val])))
  all_goals (have hr := Tryz.results184; exact bodyPost_ret brq rfl ⟨rfl, tq1⟩)

theorem enter_5 (h : Tn B s w0 w) (v f : Int) (v1 : 0 ≤ v) (v2 : v < 65536) (f1 : 0 ≤ f) (f2 : f < 256) (hk : s.step = 5) :
    Calls Tryz.prog 184 #[.pointer (some ⟨B, 0, none⟩), .int .u16 v, .int .u8 f] w fun e w' => e = .returned (s.enter v f).2.val ∧ Tn B (s.enter v f).1 w0 w' := by
  have c_step := h.c.cstep; obtain ⟨l_step, u_step⟩ := h.c.rstep; have c_pc := h.c.cpc; obtain ⟨l_pc, u_pc⟩ := h.c.rpc; have c_s := h.c.cs; obtain ⟨l_s, u_s⟩ := h.c.rs
  have hu : Hid (s.enter v f = takeLow (s.read v)) := by show _ = _; unfold PC.enter; rw [if_neg (by rw [hk]; decide), if_neg (by rw [hk]; decide), if_neg (by rw [hk]; decide), if_pos hk]
  rw [hu.out]
  rw [hk] at c_step
  have _ := v1
  have _ := v2
  have _ := f1
  have _ := f2
  obtain ⟨hlt, hsz, n0, m0, fz0, -⟩ := h.pre
  go_enter Tryz.func184, Tryz.ntmps184
  go_wp2_with (first | (go_at_call 103; refine Ck.go w0 w.heap.size kq6 (fun h => read_any h _ nq5 nq5) ?_; intro w1 k; intros; have c_pc := k.c.cpc; obtain ⟨l_pc, u_pc⟩ := k.c.rpc; (try simp only [BusI.val])) | (go_at_call 170; refine Ck.go w0 w.heap.size kq6 (fun h => takeLow_any h ⟨_, _, _, _⟩) ?_; intro w1 k; intros; have c_pc := k.c.cpc; obtain ⟨l_pc, u_pc⟩ := k.c.rpc; (try simp only [BusI.val])))
  all_goals (have hr := Tryz.results184; exact bodyPost_ret brq rfl ⟨rfl, tq1⟩)

theorem enter_d (h : Tn B s w0 w) (v f : Int) (v1 : 0 ≤ v) (v2 : v < 65536) (f1 : 0 ≤ f) (f2 : f < 256) (hk2 : (s.step == 2) = false) (hk3 : (s.step == 3) = false) (hk4 : (s.step == 4) = false) (hk5 : (s.step == 5) = false) :
    Calls Tryz.prog 184 #[.pointer (some ⟨B, 0, none⟩), .int .u16 v, .int .u8 f] w fun e w' => e = .returned (s.enter v f).2.val ∧ Tn B (s.enter v f).1 w0 w' := by
  have c_step := h.c.cstep; obtain ⟨l_step, u_step⟩ := h.c.rstep; have c_pc := h.c.cpc; obtain ⟨l_pc, u_pc⟩ := h.c.rpc; have c_s := h.c.cs; obtain ⟨l_s, u_s⟩ := h.c.rs
  have hu : Hid (s.enter v f = goThere (s.read ((v + 1) % 65536))) := by show _ = _; unfold PC.enter; rw [if_neg (by simpa using hk2), if_neg (by simpa using hk3), if_neg (by simpa using hk4), if_neg (by simpa using hk5)]
  rw [hu.out]
  have _ := v1
  have _ := v2
  have _ := f1
  have _ := f2
  obtain ⟨hlt, hsz, n0, m0, fz0, -⟩ := h.pre
  go_enter Tryz.func184, Tryz.ntmps184
  go_wp2_with (first | (go_at_call 103; refine Ck.go w0 w.heap.size kq6 (fun h => read_any h _ nq5 nq5) ?_; intro w1 k; intros; have c_pc := k.c.cpc; obtain ⟨l_pc, u_pc⟩ := k.c.rpc; (try simp only [BusI.val])) | (go_at_call 180; refine Ck.go w0 w.heap.size kq6 (fun h => goThere_any h ⟨_, _, _, _⟩) ?_; intro w1 k; intros; have c_pc := k.c.cpc; obtain ⟨l_pc, u_pc⟩ := k.c.rpc; (try simp only [BusI.val])))
  all_goals (have hr := Tryz.results184; exact bodyPost_ret brq rfl ⟨rfl, tq1⟩)

theorem enter_any (h : Tn B s w0 w) (v f : Int) (v1 : 0 ≤ v) (v2 : v < 65536) (f1 : 0 ≤ f) (f2 : f < 256) :
    Calls Tryz.prog 184 #[.pointer (some ⟨B, 0, none⟩), .int .u16 v, .int .u8 f] w fun e w' => e = .returned (s.enter v f).2.val ∧ Tn B (s.enter v f).1 w0 w' := by
  by_cases e2 : s.step = 2
  · exact enter_2 h v f v1 v2 f1 f2 e2
  by_cases e3 : s.step = 3
  · exact enter_3 h v f v1 v2 f1 f2 e3
  by_cases e4 : s.step = 4
  · exact enter_4 h v f v1 v2 f1 f2 e4
  by_cases e5 : s.step = 5
  · exact enter_5 h v f v1 v2 f1 f2 e5
  exact enter_d h v f v1 v2 f1 f2 (by simpa using e2) (by simpa using e3) (by simpa using e4) (by simpa using e5)

end Go.Proofs.YtcgjliflnnklnaaGreat
