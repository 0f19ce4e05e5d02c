/-
  Joined texts.
-/
import Derived.Test.YtcgjliflnnklnaaGreatJ11
import Derived.Test.YtcgjliflnnklnaaGreatCpEz
namespace Go.Proofs.YtcgjliflnnklnaaGreat
open Go.RowKit

/-
  Where jumps end; simple modes: walked.
-/
section
set_option maxRecDepth 100000
set_option maxHeartbeats 1000000
variable {B : Nat} {s : PC} {w0 w : World}

theorem goThere_any (h : Tn B s w0 w) (b : BusI) :
    Calls Tryz.prog 180 #[.pointer (some ⟨B, 0, none⟩), b.val] w fun e w' => e = .returned (goThere (s, b)).2.val ∧ Tn B (goThere (s, b)).1 w0 w' := by
  have c_ad := h.c.cad; obtain ⟨l_ad, u_ad⟩ := h.c.rad
  obtain ⟨ba, bd, bw, bf⟩ := b
  rw [← val_mk]
  obtain ⟨hlt, hsz, n0, m0, fz0, n01, m01⟩ := h.pre
  go_enter Tryz.func180, Tryz.ntmps180
  go_wp2_with (first | (go_at_call 172; refine (Ck.call (w0 := w0) (R := (w.heap.size + 1)) kq8 (fun h => takeHigh_any h ⟨_, _, _, _⟩)).mono ?_; rintro e w1 ⟨rfl, k, q1, q2, zz⟩; obtain ⟨⟨r0, r1, r2, r3⟩, r4, z0, n1, n2, m1, m2, fz, b1, nr, mr⟩ := k.facts; (try simp at zz); (try replace zz := Nat.lt_of_succ_le zz); (try have zl : w.heap.size + 1 < w1.heap.size := (by omega)); (try have zm : w.heap.size < w1.heap.size := (by omega)); have c_ad := k.c.cad; obtain ⟨l_ad, u_ad⟩ := k.c.rad; (try simp only [BusI.val])) | (go_at_call 108; refine (Ck.call (w0 := w0) (R := (w.heap.size + 1)) kq8 (fun h => performLast_any h)).mono ?_; rintro e w1 ⟨rfl, k, q1, q2, zz⟩; obtain ⟨⟨r0, r1, r2, r3⟩, r4, z0, n1, n2, m1, m2, fz, b1, nr, mr⟩ := k.facts; (try simp at zz); (try replace zz := Nat.lt_of_succ_le zz); (try have zl : w.heap.size + 1 < w1.heap.size := (by omega)); (try have zm : w.heap.size < w1.heap.size := (by omega)); have c_ad := k.c.cad; obtain ⟨l_ad, u_ad⟩ := k.c.rad; skip))
  all_goals (have hr := Tryz.results180; exact bodyPost_ret brq rfl ⟨rfl, tq1⟩)

theorem implied_any (h : Tn B s w0 w) :
    Calls Tryz.prog 111 #[.pointer (some ⟨B, 0, none⟩)] w fun e w' => e = .returned (s.implied).2.val ∧ Tn B (s.implied).1 w0 w' := by
  have c_pc := h.c.cpc; obtain ⟨l_pc, u_pc⟩ := h.c.rpc
  obtain ⟨hlt, hsz, n0, m0, fz0, n01, m01⟩ := h.pre
  go_enter Tryz.func111, Tryz.ntmps111
  go_wp2_with (first | (go_at_call 103; refine Ck.gq w0 w.heap.size kq8 (fun h => read_any h _ nq5 nq5) ?_; intro w1 k q1 q2 zz; intros; (try simp at zz); (try replace zz := Nat.lt_of_succ_le zz); (try have zl : w.heap.size + 1 < w1.heap.size := (by omega)); (try have zm : w.heap.size < w1.heap.size := (by omega)); have c_pc := k.c.cpc; obtain ⟨l_pc, u_pc⟩ := k.c.rpc; (try simp only [BusI.val])) | (go_at_call 108; refine Ck.gq w0 w.heap.size kq8 (fun h => performLast_any h) ?_; intro w1 k q1 q2 zz; intros; (try simp at zz); (try replace zz := Nat.lt_of_succ_le zz); (try have zl : w.heap.size + 1 < w1.heap.size := (by omega)); (try have zm : w.heap.size < w1.heap.size := (by omega)); have c_pc := k.c.cpc; obtain ⟨l_pc, u_pc⟩ := k.c.rpc; skip))
  all_goals (try go_region_with (first | (go_at_call 103; refine Ck.gq w0 w.heap.size kq8 (fun h => read_any h _ nq5 nq5) ?_; intro w1 k q1 q2 zz; intros; (try simp at zz); (try replace zz := Nat.lt_of_succ_le zz); (try have zl : w.heap.size + 1 < w1.heap.size := (by omega)); (try have zm : w.heap.size < w1.heap.size := (by omega)); have c_pc := k.c.cpc; obtain ⟨l_pc, u_pc⟩ := k.c.rpc; (try simp only [BusI.val])) | (go_at_call 108; refine Ck.gq w0 w.heap.size kq8 (fun h => performLast_any h) ?_; intro w1 k q1 q2 zz; intros; (try simp at zz); (try replace zz := Nat.lt_of_succ_le zz); (try have zl : w.heap.size + 1 < w1.heap.size := (by omega)); (try have zm : w.heap.size < w1.heap.size := (by omega)); have c_pc := k.c.cpc; obtain ⟨l_pc, u_pc⟩ := k.c.rpc; skip)))
  all_goals (try go_wp2_with (first | (go_at_call 103; refine Ck.gq w0 w.heap.size kq8 (fun h => read_any h _ nq5 nq5) ?_; intro w1 k q1 q2 zz; intros; (try simp at zz); (try replace zz := Nat.lt_of_succ_le zz); (try have zl : w.heap.size + 1 < w1.heap.size := (by omega)); (try have zm : w.heap.size < w1.heap.size := (by omega)); have c_pc := k.c.cpc; obtain ⟨l_pc, u_pc⟩ := k.c.rpc; (try simp only [BusI.val])) | (go_at_call 108; refine Ck.gq w0 w.heap.size kq8 (fun h => performLast_any h) ?_; intro w1 k q1 q2 zz; intros; (try simp at zz); (try replace zz := Nat.lt_of_succ_le zz); (try have zl : w.heap.size + 1 < w1.heap.size := (by omega)); (try have zm : w.heap.size < w1.heap.size := (by omega)); have c_pc := k.c.cpc; obtain ⟨l_pc, u_pc⟩ := k.c.rpc; skip)))
  all_goals (try go_region_with (first | (go_at_call 103; refine Ck.gq w0 w.heap.size kq8 (fun h => read_any h _ nq5 nq5) ?_; intro w1 k q1 q2 zz; intros; (try simp at zz); (try replace zz := Nat.lt_of_succ_le zz); (try have zl : w.heap.size + 1 < w1.heap.size := (by omega)); (try have zm : w.heap.size < w1.heap.size := (by omega)); have c_pc := k.c.cpc; obtain ⟨l_pc, u_pc⟩ := k.c.rpc; (try simp only [BusI.val])) | (go_at_call 108; refine Ck.gq w0 w.heap.size kq8 (fun h => performLast_any h) ?_; intro w1 k q1 q2 zz; intros; (try simp at zz); (try replace zz := Nat.lt_of_succ_le zz); (try have zl : w.heap.size + 1 < w1.heap.size := (by omega)); (try have zm : w.heap.size < w1.heap.size := (by omega)); have c_pc := k.c.cpc; obtain ⟨l_pc, u_pc⟩ := k.c.rpc; skip)))
  all_goals (try go_wp2_with (first | (go_at_call 103; refine Ck.gq w0 w.heap.size kq8 (fun h => read_any h _ nq5 nq5) ?_; intro w1 k q1 q2 zz; intros; (try simp at zz); (try replace zz := Nat.lt_of_succ_le zz); (try have zl : w.heap.size + 1 < w1.heap.size := (by omega)); (try have zm : w.heap.size < w1.heap.size := (by omega)); have c_pc := k.c.cpc; obtain ⟨l_pc, u_pc⟩ := k.c.rpc; (try simp only [BusI.val])) | (go_at_call 108; refine Ck.gq w0 w.heap.size kq8 (fun h => performLast_any h) ?_; intro w1 k q1 q2 zz; intros; (try simp at zz); (try replace zz := Nat.lt_of_succ_le zz); (try have zl : w.heap.size + 1 < w1.heap.size := (by omega)); (try have zm : w.heap.size < w1.heap.size := (by omega)); have c_pc := k.c.cpc; obtain ⟨l_pc, u_pc⟩ := k.c.rpc; skip)))
  all_goals (have hr := Tryz.results111; exact bodyPost_ret brq rfl ⟨rfl, tq1⟩)

theorem immediate_any (h : Tn B s w0 w) :
    Calls Tryz.prog 113 #[.pointer (some ⟨B, 0, none⟩)] w fun e w' => e = .returned (s.immediate).2.val ∧ Tn B (s.immediate).1 w0 w' := by
  have c_pc := h.c.cpc; obtain ⟨l_pc, u_pc⟩ := h.c.rpc
  obtain ⟨hlt, hsz, n0, m0, fz0, n01, m01⟩ := h.pre
  go_enter Tryz.func113, Tryz.ntmps113
  go_wp2_with (first | (go_at_call 169; refine Ck.gq w0 w.heap.size kq8 (fun h => readNext_any h) ?_; intro w1 k q1 q2 zz; intros; (try simp at zz); (try replace zz := Nat.lt_of_succ_le zz); (try have zl : w.heap.size + 1 < w1.heap.size := (by omega)); (try have zm : w.heap.size < w1.heap.size := (by omega)); have c_pc := k.c.cpc; obtain ⟨l_pc, u_pc⟩ := k.c.rpc; (try simp only [BusI.val])) | (go_at_call 110; refine Ck.gq w0 w.heap.size kq8 (fun h => takeData_any h ⟨_, _, _, _⟩) ?_; intro w1 k q1 q2 zz; intros; (try simp at zz); (try replace zz := Nat.lt_of_succ_le zz); (try have zl : w.heap.size + 1 < w1.heap.size := (by omega)); (try have zm : w.heap.size < w1.heap.size := (by omega)); have c_pc := k.c.cpc; obtain ⟨l_pc, u_pc⟩ := k.c.rpc; (try simp only [BusI.val])) | (go_at_call 108; refine Ck.gq w0 w.heap.size kq8 (fun h => performLast_any h) ?_; intro w1 k q1 q2 zz; intros; (try simp at zz); (try replace zz := Nat.lt_of_succ_le zz); (try have zl : w.heap.size + 1 < w1.heap.size := (by omega)); (try have zm : w.heap.size < w1.heap.size := (by omega)); have c_pc := k.c.cpc; obtain ⟨l_pc, u_pc⟩ := k.c.rpc; skip))
  all_goals (have hr := Tryz.results113; exact bodyPost_ret brq rfl ⟨rfl, tq1⟩)

theorem accumulator_any (h : Tn B s w0 w) :
    Calls Tryz.prog 112 #[.pointer (some ⟨B, 0, none⟩)] w fun e w' => e = .returned (s.accumulator).2.val ∧ Tn B (s.accumulator).1 w0 w' := by
  have c_pc := h.c.cpc; obtain ⟨l_pc, u_pc⟩ := h.c.rpc; have c_a := h.c.ca; obtain ⟨l_a, u_a⟩ := h.c.ra; have c_data := h.c.cdata; obtain ⟨l_data, u_data⟩ := h.c.rdata
  obtain ⟨hlt, hsz, n0, m0, fz0, n01, m01⟩ := h.pre
  go_enter Tryz.func112, Tryz.ntmps112
  go_wp2_with (first | (go_at_call 103; refine Ck.gq w0 w.heap.size kq9 (fun h => read_any h _ nq5 nq5) ?_; intro w1 k q1 q2 zz; intros; (try simp at zz); (try replace zz := Nat.lt_of_succ_le zz); (try have zl : w.heap.size + 1 < w1.heap.size := (by omega)); (try have zm : w.heap.size < w1.heap.size := (by omega)); have c_pc := k.c.cpc; obtain ⟨l_pc, u_pc⟩ := k.c.rpc; have c_a := k.c.ca; obtain ⟨l_a, u_a⟩ := k.c.ra; have c_data := k.c.cdata; obtain ⟨l_data, u_data⟩ := k.c.rdata; (try simp only [BusI.val])) | (go_at_call 167; refine Ck.gq w0 w.heap.size kq9 (fun h => perform_any h) ?_; intro w1 k q1 q2 zz; intros; (try simp at zz); (try replace zz := Nat.lt_of_succ_le zz); (try have zl : w.heap.size + 1 < w1.heap.size := (by omega)); (try have zm : w.heap.size < w1.heap.size := (by omega)); have c_pc := k.c.cpc; obtain ⟨l_pc, u_pc⟩ := k.c.rpc; have c_a := k.c.ca; obtain ⟨l_a, u_a⟩ := k.c.ra; have c_data := k.c.cdata; obtain ⟨l_data, u_data⟩ := k.c.rdata; skip) | (go_at_call 168; refine Ck.gq w0 w.heap.size kq9 (fun h => finish_any h) ?_; intro w1 k q1 q2 zz; intros; (try simp at zz); (try replace zz := Nat.lt_of_succ_le zz); (try have zl : w.heap.size + 1 < w1.heap.size := (by omega)); (try have zm : w.heap.size < w1.heap.size := (by omega)); have c_pc := k.c.cpc; obtain ⟨l_pc, u_pc⟩ := k.c.rpc; have c_a := k.c.ca; obtain ⟨l_a, u_a⟩ := k.c.ra; have c_data := k.c.cdata; obtain ⟨l_data, u_data⟩ := k.c.rdata; skip))
  all_goals (try go_region_with (first | (go_at_call 103; refine Ck.gq w0 w.heap.size kq9 (fun h => read_any h _ nq5 nq5) ?_; intro w1 k q1 q2 zz; intros; (try simp at zz); (try replace zz := Nat.lt_of_succ_le zz); (try have zl : w.heap.size + 1 < w1.heap.size := (by omega)); (try have zm : w.heap.size < w1.heap.size := (by omega)); have c_pc := k.c.cpc; obtain ⟨l_pc, u_pc⟩ := k.c.rpc; have c_a := k.c.ca; obtain ⟨l_a, u_a⟩ := k.c.ra; have c_data := k.c.cdata; obtain ⟨l_data, u_data⟩ := k.c.rdata; (try simp only [BusI.val])) | (go_at_call 167; refine Ck.gq w0 w.heap.size kq9 (fun h => perform_any h) ?_; intro w1 k q1 q2 zz; intros; (try simp at zz); (try replace zz := Nat.lt_of_succ_le zz); (try have zl : w.heap.size + 1 < w1.heap.size := (by omega)); (try have zm : w.heap.size < w1.heap.size := (by omega)); have c_pc := k.c.cpc; obtain ⟨l_pc, u_pc⟩ := k.c.rpc; have c_a := k.c.ca; obtain ⟨l_a, u_a⟩ := k.c.ra; have c_data := k.c.cdata; obtain ⟨l_data, u_data⟩ := k.c.rdata; skip) | (go_at_call 168; refine Ck.gq w0 w.heap.size kq9 (fun h => finish_any h) ?_; intro w1 k q1 q2 zz; intros; (try simp at zz); (try replace zz := Nat.lt_of_succ_le zz); (try have zl : w.heap.size + 1 < w1.heap.size := (by omega)); (try have zm : w.heap.size < w1.heap.size := (by omega)); have c_pc := k.c.cpc; obtain ⟨l_pc, u_pc⟩ := k.c.rpc; have c_a := k.c.ca; obtain ⟨l_a, u_a⟩ := k.c.ra; have c_data := k.c.cdata; obtain ⟨l_data, u_data⟩ := k.c.rdata; skip)))
  all_goals (try go_wp2_with (first | (go_at_call 103; refine Ck.gq w0 w.heap.size kq9 (fun h => read_any h _ nq5 nq5) ?_; intro w1 k q1 q2 zz; intros; (try simp at zz); (try replace zz := Nat.lt_of_succ_le zz); (try have zl : w.heap.size + 1 < w1.heap.size := (by omega)); (try have zm : w.heap.size < w1.heap.size := (by omega)); have c_pc := k.c.cpc; obtain ⟨l_pc, u_pc⟩ := k.c.rpc; have c_a := k.c.ca; obtain ⟨l_a, u_a⟩ := k.c.ra; have c_data := k.c.cdata; obtain ⟨l_data, u_data⟩ := k.c.rdata; (try simp only [BusI.val])) | (go_at_call 167; refine Ck.gq w0 w.heap.size kq9 (fun h => perform_any h) ?_; intro w1 k q1 q2 zz; intros; (try simp at zz); (try replace zz := Nat.lt_of_succ_le zz); (try have zl : w.heap.size + 1 < w1.heap.size := (by omega)); (try have zm : w.heap.size < w1.heap.size := (by omega)); have c_pc := k.c.cpc; obtain ⟨l_pc, u_pc⟩ := k.c.rpc; have c_a := k.c.ca; obtain ⟨l_a, u_a⟩ := k.c.ra; have c_data := k.c.cdata; obtain ⟨l_data, u_data⟩ := k.c.rdata; skip) | (go_at_call 168; refine Ck.gq w0 w.heap.size kq9 (fun h => finish_any h) ?_; intro w1 k q1 q2 zz; intros; (try simp at zz); (try replace zz := Nat.lt_of_succ_le zz); (try have zl : w.heap.size + 1 < w1.heap.size := (by omega)); (try have zm : w.heap.size < w1.heap.size := (by omega)); have c_pc := k.c.cpc; obtain ⟨l_pc, u_pc⟩ := k.c.rpc; have c_a := k.c.ca; obtain ⟨l_a, u_a⟩ := k.c.ra; have c_data := k.c.cdata; obtain ⟨l_data, u_data⟩ := k.c.rdata; skip)))
  all_goals (try go_region_with (first | (go_at_call 103; refine Ck.gq w0 w.heap.size kq9 (fun h => read_any h _ nq5 nq5) ?_; intro w1 k q1 q2 zz; intros; (try simp at zz); (try replace zz := Nat.lt_of_succ_le zz); (try have zl : w.heap.size + 1 < w1.heap.size := (by omega)); (try have zm : w.heap.size < w1.heap.size := (by omega)); have c_pc := k.c.cpc; obtain ⟨l_pc, u_pc⟩ := k.c.rpc; have c_a := k.c.ca; obtain ⟨l_a, u_a⟩ := k.c.ra; have c_data := k.c.cdata; obtain ⟨l_data, u_data⟩ := k.c.rdata; (try simp only [BusI.val])) | (go_at_call 167; refine Ck.gq w0 w.heap.size kq9 (fun h => perform_any h) ?_; intro w1 k q1 q2 zz; intros; (try simp at zz); (try replace zz := Nat.lt_of_succ_le zz); (try have zl : w.heap.size + 1 < w1.heap.size := (by omega)); (try have zm : w.heap.size < w1.heap.size := (by omega)); have c_pc := k.c.cpc; obtain ⟨l_pc, u_pc⟩ := k.c.rpc; have c_a := k.c.ca; obtain ⟨l_a, u_a⟩ := k.c.ra; have c_data := k.c.cdata; obtain ⟨l_data, u_data⟩ := k.c.rdata; skip) | (go_at_call 168; refine Ck.gq w0 w.heap.size kq9 (fun h => finish_any h) ?_; intro w1 k q1 q2 zz; intros; (try simp at zz); (try replace zz := Nat.lt_of_succ_le zz); (try have zl : w.heap.size + 1 < w1.heap.size := (by omega)); (try have zm : w.heap.size < w1.heap.size := (by omega)); have c_pc := k.c.cpc; obtain ⟨l_pc, u_pc⟩ := k.c.rpc; have c_a := k.c.ca; obtain ⟨l_a, u_a⟩ := k.c.ra; have c_data := k.c.cdata; obtain ⟨l_data, u_data⟩ := k.c.rdata; skip)))
  all_goals (try go_wp2_with (first | (go_at_call 103; refine Ck.gq w0 w.heap.size kq9 (fun h => read_any h _ nq5 nq5) ?_; intro w1 k q1 q2 zz; intros; (try simp at zz); (try replace zz := Nat.lt_of_succ_le zz); (try have zl : w.heap.size + 1 < w1.heap.size := (by omega)); (try have zm : w.heap.size < w1.heap.size := (by omega)); have c_pc := k.c.cpc; obtain ⟨l_pc, u_pc⟩ := k.c.rpc; have c_a := k.c.ca; obtain ⟨l_a, u_a⟩ := k.c.ra; have c_data := k.c.cdata; obtain ⟨l_data, u_data⟩ := k.c.rdata; (try simp only [BusI.val])) | (go_at_call 167; refine Ck.gq w0 w.heap.size kq9 (fun h => perform_any h) ?_; intro w1 k q1 q2 zz; intros; (try simp at zz); (try replace zz := Nat.lt_of_succ_le zz); (try have zl : w.heap.size + 1 < w1.heap.size := (by omega)); (try have zm : w.heap.size < w1.heap.size := (by omega)); have c_pc := k.c.cpc; obtain ⟨l_pc, u_pc⟩ := k.c.rpc; have c_a := k.c.ca; obtain ⟨l_a, u_a⟩ := k.c.ra; have c_data := k.c.cdata; obtain ⟨l_data, u_data⟩ := k.c.rdata; skip) | (go_at_call 168; refine Ck.gq w0 w.heap.size kq9 (fun h => finish_any h) ?_; intro w1 k q1 q2 zz; intros; (try simp at zz); (try replace zz := Nat.lt_of_succ_le zz); (try have zl : w.heap.size + 1 < w1.heap.size := (by omega)); (try have zm : w.heap.size < w1.heap.size := (by omega)); have c_pc := k.c.cpc; obtain ⟨l_pc, u_pc⟩ := k.c.rpc; have c_a := k.c.ca; obtain ⟨l_a, u_a⟩ := k.c.ra; have c_data := k.c.cdata; obtain ⟨l_data, u_data⟩ := k.c.rdata; skip)))
  all_goals (have hr := Tryz.results112; refine bodyPost_ret brq rfl ⟨rfl, ?_⟩)
  all_goals (apply Tn.eq; (case h => repeat (first | with_reducible exact k.t | with_reducible exact h | with_reducible apply Tn.drew | with_reducible apply Tn.alloc | ((with_reducible apply Tn.setData); (case hv => (first | omega | exact wr_r _ | exact wr16_r _ | exact within_r _ _ (by omega) (by omega)))) | ((with_reducible apply Tn.setA); (case hv => (first | omega | exact wr_r _ | exact wr16_r _ | exact within_r _ _ (by omega) (by omega)))) | ((with_reducible apply Tn.other); (case hne => omega); (case hb => omega)))); (case e => rfl))

theorem zeroPage_any (h : Tn B s w0 w) :
    Calls Tryz.prog 114 #[.pointer (some ⟨B, 0, none⟩)] w fun e w' => e = .returned (s.zeroPage).2.val ∧ Tn B (s.zeroPage).1 w0 w' := by
  have c_pc := h.c.cpc; obtain ⟨l_pc, u_pc⟩ := h.c.rpc; have c_st := h.c.cst; obtain ⟨l_st, u_st⟩ := h.c.rst
  obtain ⟨hlt, hsz, n0, m0, fz0, -⟩ := h.pre
  go_enter Tryz.func114, Tryz.ntmps114
  go_wp2_with (first | (go_at_call 169; refine Ck.go w0 w.heap.size kq4 (fun h => readNext_any h) ?_; intro w1 k; intros; have c_pc := k.c.cpc; obtain ⟨l_pc, u_pc⟩ := k.c.rpc; (try simp only [BusI.val])) | (go_at_call 170; refine Ck.go w0 w.heap.size kq4 (fun h => takeLow_any h ⟨_, _, _, _⟩) ?_; intro w1 k; intros; have c_pc := k.c.cpc; obtain ⟨l_pc, u_pc⟩ := k.c.rpc; (try simp only [BusI.val])))
  all_goals (have hr := Tryz.results114; exact bodyPost_ret brq rfl ⟨rfl, tq2⟩)
end

/-
  Branches, walked.
-/
section
set_option maxRecDepth 100000
set_option maxHeartbeats 1000000

theorem sgn_eq (p d : Int) (h0 : 0 ≤ d) (h1 : d < 256) : IntKind.u16.wrap (p + IntKind.u16.wrap (IntKind.i8.wrap d)) = (p + sgn d) % 65536 := by
  have e8 : IntKind.i8.wrap d = (d + 128) % 256 - 128 := by simp only [IntKind.wrap, IntKind.bits, IntKind.signed]; simp; omega
  rw [IntKind.wrap_u16, IntKind.wrap_u16, e8]
  unfold sgn
  split <;> omega

/-- A cell of a struct that was laid a moment ago, behind a call. -/
theorem laid4 {w1 w2 : World} {B o : Nat} {v : Value} {cs : Array Value} {t : TypeId} (W : World) (hW : W = ((w1.setCell ⟨B, o, none⟩ v).alloc (.cells cs t)).drew) (hB : B < w1.heap.size) (q : ∀ b o, b ≠ B → b < W.heap.size → w2.cell? ⟨b, o, none⟩ = W.cell? ⟨b, o, none⟩) (f : ∀ b o, b ≠ B → b < W.heap.size → w2.frozen? ⟨b, o, none⟩ = W.frozen? ⟨b, o, none⟩) :
    (∀ i, w2.cell? ⟨w1.heap.size, i, none⟩ = cs[i]?) ∧ (∀ i, w2.frozen? ⟨w1.heap.size, i, none⟩ = false) := by
  subst hW
  have hs : (w1.setCell ⟨B, o, none⟩ v).heap.size = w1.heap.size := by simp
  have lt : w1.heap.size < (((w1.setCell ⟨B, o, none⟩ v).alloc (.cells cs t)).drew).heap.size := by simp
  refine ⟨fun i => ?_, fun i => ?_⟩
  · rw [q _ _ (by omega) lt]
    show ((w1.setCell ⟨B, o, none⟩ v).alloc (.cells cs t)).cell? _ = _
    rw [← hs]; exact World.cell?_alloc_at _ _ _ _ rfl
  · rw [f _ _ (by omega) lt]
    show ((w1.setCell ⟨B, o, none⟩ v).alloc (.cells cs t)).frozen? _ = _
    rw [← hs]; exact World.frozen?_alloc_at _ _ _ _ rfl

theorem relative_1 {B : Nat} {s : PC} {w0 w : World} (h : Tn B s w0 w) (hk : s.step = 1) :
    Calls Tryz.prog 122 #[.pointer (some ⟨B, 0, none⟩)] w fun e w' => e = .returned (s.relative).2.val ∧ Tn B (s.relative).1 w0 w' := by
  have c_step := h.c.cstep
  rw [hk] at c_step
  have hlt := h.c.lt
  have hsz := h.g.size
  have n0 : w.heap.size ≠ B := by omega
  have m0 : B ≠ w.heap.size := by omega
  have fz0 := h.c.free
  have hd := look_r h.c s.pc h.c.rpc.2
  have k0 := Ck.mk' h (R := w.heap.size) rfl
  have hrel : Hid (s.relative = ((if (({ s.readNext.1 with ad := (s.readNext.1.pc + sgn s.readNext.2.data) % 65536 } : PC).perform).taken = true then (({ s.readNext.1 with ad := (s.readNext.1.pc + sgn s.readNext.2.data) % 65536 } : PC).perform) else (({ s.readNext.1 with ad := (s.readNext.1.pc + sgn s.readNext.2.data) % 65536 } : PC).perform).finish), s.readNext.2)) := by
    show _ = _
    unfold PC.relative; rw [if_pos hk]
  rw [hrel.out]
  clear hrel
  obtain ⟨F, hF⟩ : ∃ F : PC, F = (if (({ s.readNext.1 with ad := (s.readNext.1.pc + sgn s.readNext.2.data) % 65536 } : PC).perform).taken = true then (({ s.readNext.1 with ad := (s.readNext.1.pc + sgn s.readNext.2.data) % 65536 } : PC).perform) else (({ s.readNext.1 with ad := (s.readNext.1.pc + sgn s.readNext.2.data) % 65536 } : PC).perform).finish) := ⟨_, rfl⟩
  rw [← hF]
  have HF : Hid (F = (if (({ s.readNext.1 with ad := (s.readNext.1.pc + sgn s.readNext.2.data) % 65536 } : PC).perform).taken = true then (({ s.readNext.1 with ad := (s.readNext.1.pc + sgn s.readNext.2.data) % 65536 } : PC).perform) else (({ s.readNext.1 with ad := (s.readNext.1.pc + sgn s.readNext.2.data) % 65536 } : PC).perform).finish)) := hF
  clear hF
  go_enter Tryz.func122, Tryz.ntmps122
  go_wp2_with fail
  refine (Ck.call k0 (fun h => readNext_any h)).mono ?_
  rintro e w1 ⟨rfl, k1, q1, q2, q3⟩
  have hdd : s.readNext.2.data = s.look s.pc := rfl
  rw [← hdd] at hd
  obtain ⟨d0, d1⟩ := hd
  have c1 := k1.c.cpc
  have c1a := k1.c.cad
  obtain ⟨p0, p1⟩ := k1.c.rpc
  obtain ⟨⟨r0, r1, r2, r3⟩, f1, f2, f3, f4, f5, f6, f7, f8, f9, f10⟩ := k1.facts
  generalize hS : s.readNext.1 = S at *
  generalize hb : s.readNext.2 = b at *
  clear q1 q2 c_step hdd
  simp only [BusI.val]
  go_wp2_with fail
  go_region_with fail
  all_goals (go_wp2_with fail)
  all_goals
    rw [sgn_eq S.pc b.data d0 d1]
    have k2 := ((k1.setAd (v := (S.pc + sgn b.data) % 65536) (by omega)).alloc (o := .cells #[.int .i64 b.addr, .int .i64 b.data, .bool b.wr, .bool b.ft] 53)).drew
    refine (Ck.call k2 (fun h => perform_any h)).mono ?_
    rintro e w2 ⟨rfl, k3, q1, q2, q4⟩
    obtain ⟨l1, l2⟩ := laid4 _ rfl k1.c.lt q1 q2
    have t0 := l1 0
    have t1 := l1 1
    have t2 := l1 2
    have t3 := l1 3
    simp only [List.getElem?_toArray, List.getElem?_cons_zero, List.getElem?_cons_succ] at t0 t1 t2 t3
    generalize hT : ({ S with ad := (S.pc + sgn b.data) % 65536 } : PC).perform = T at *
    obtain ⟨⟨rr0, rr1, rr2, rr3⟩, g1, g2, g3, g4, g5, g6, g7, g8, g9, g10⟩ := k3.facts
    have c3 := k3.c.ctaken
    clear q1 q2 l1 k2 r0 r1 r2 r3 f1 c1 c1a
    have hlw : w1.heap.size < w2.heap.size := by simp at q4; omega
    have hne : w1.heap.size ≠ B := f3
    cases ht : T.taken
    · rw [ht] at c3
      have eF : F = T.finish := by rw [HF.out, ht]; rfl
      go_wp2_with fail
      refine (Ck.call k3 (fun h => finish_any h)).mono ?_
      rintro e w3 ⟨rfl, k4, u1, u2, u3⟩
      have t0 := (u1 _ 0 hne hlw).trans t0
      have t1 := (u1 _ 1 hne hlw).trans t1
      have t2 := (u1 _ 2 hne hlw).trans t2
      have t3 := (u1 _ 3 hne hlw).trans t3
      obtain ⟨⟨rr0, rr1, rr2, rr3⟩, g1, g2, g3, g4, g5, g6, g7, g8, g9, g10⟩ := k4.facts
      clear u1 u2
      go_wp2
      refine bodyPost_ret (v := BusI.val b) (by simp [results, Tryz.results122, go_sem, BusI.val, *]) rfl (And.intro (by rw [hb]) ?_)
      rw [eF]
      apply Tn.eq; (case h => repeat (first | with_reducible exact k4.t | with_reducible exact h | with_reducible apply Tn.drew | with_reducible apply Tn.alloc | ((with_reducible apply Tn.other); (case hne => omega); (case hb => omega)))); (case e => rfl)
    · rw [ht] at c3
      have eF : F = T := by rw [HF.out, ht]; rfl
      go_wp2
      refine bodyPost_ret (v := BusI.val b) (by simp [results, Tryz.results122, go_sem, BusI.val, *]) rfl (And.intro (by rw [hb]) ?_)
      rw [eF]
      apply Tn.eq; (case h => repeat (first | with_reducible exact k3.t | with_reducible exact h | with_reducible apply Tn.drew | with_reducible apply Tn.alloc | ((with_reducible apply Tn.other); (case hne => omega); (case hb => omega)))); (case e => rfl)
end

end Go.Proofs.YtcgjliflnnklnaaGreat
