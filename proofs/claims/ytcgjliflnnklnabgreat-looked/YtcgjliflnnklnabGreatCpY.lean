/-
  Ways into an interrupt: walked.
-/
import Derived.Test.YtcgjliflnnklnabGreatCpX
namespace Go.Proofs.YtcgjliflnnklnabGreat
open Go.RowKit

set_option maxRecDepth 100000 in
set_option maxHeartbeats 1000000 in
theorem enterByBreak_1 {B : Nat} {s : PC} {w0 w : World} (h : Tn B s w0 w) (hk : s.step = 1) :
    Calls Tryz.prog 79 #[.pointer (some ⟨B, 0, none⟩)] w fun e w' => e = .returned (s.enterByBreak).2.val ∧ Tn B (s.enterByBreak).1 w0 w' := by
  have c_step := h.c.cstep; obtain ⟨l_step, u_step⟩ := h.c.rstep; have c_pc := h.c.cpc; obtain ⟨l_pc, u_pc⟩ := h.c.rpc; have c_p := h.c.cp; obtain ⟨l_p, u_p⟩ := h.c.rp
  have hu : Hid (s.enterByBreak = s.readNext) := by show _ = _; unfold PC.enterByBreak; rw [if_pos hk]
  rw [hu.out]
  rw [hk] at c_step
  have hlt := h.c.lt
  have hsz := h.g.size
  have n0 : w.heap.size ≠ B := by omega
  have m0 : B ≠ w.heap.size := by omega
  have fz0 := h.c.free
  go_enter Tryz.func79, Tryz.ntmps79
  go_wp2_with (first | (go_at_call 94; refine (Ck.call (w0 := w0) (R := w.heap.size) (by repeat (first | with_reducible exact k | with_reducible apply Ck.drew | ((with_reducible apply Ck.mk'); (case hR => (simp; done)); (case h => (repeat (first | with_reducible exact h | with_reducible apply Tn.drew | with_reducible apply Tn.alloc | ((with_reducible apply Tn.other); (case hne => omega); (case hb => omega)))))) | with_reducible apply Ck.alloc)) (fun h => readNext_any h)).mono ?_; rintro e w1 ⟨rfl, k, -, -, -⟩; obtain ⟨⟨r0, r1, r2, r3⟩, r4, z0, n1, n2, m1, m2, fz, b1, nr, mr⟩ := k.facts; have c_pc := k.c.cpc; obtain ⟨l_pc, u_pc⟩ := k.c.rpc; (try simp only [BusI.val])))
  all_goals (refine bodyPost_ret (v := BusI.val (s.readNext).2) (by simp [results, Tryz.results79, go_sem, BusI.val, *] <;> (repeat' (first | rfl | constructor))) rfl (And.intro rfl ?_))
  all_goals (apply Tn.eq; (case h => repeat (first | with_reducible exact k.t | with_reducible exact h | with_reducible apply Tn.drew | with_reducible apply Tn.alloc | ((with_reducible apply Tn.other); (case hne => omega); (case hb => omega)))); (case e => rfl))

set_option maxRecDepth 100000 in
set_option maxHeartbeats 1000000 in
theorem enterByBreak_d {B : Nat} {s : PC} {w0 w : World} (h : Tn B s w0 w) (hk1 : (s.step == 1) = false) :
    Calls Tryz.prog 79 #[.pointer (some ⟨B, 0, none⟩)] w fun e w' => e = .returned (s.enterByBreak).2.val ∧ Tn B (s.enterByBreak).1 w0 w' := by
  have c_step := h.c.cstep; obtain ⟨l_step, u_step⟩ := h.c.rstep; have c_pc := h.c.cpc; obtain ⟨l_pc, u_pc⟩ := h.c.rpc; have c_p := h.c.cp; obtain ⟨l_p, u_p⟩ := h.c.rp
  have hu : Hid (s.enterByBreak = s.enter 65534 (bits .or .u8 s.p 16)) := by show _ = _; unfold PC.enterByBreak; rw [if_neg (by simpa using hk1)]
  rw [hu.out]
  have hlt := h.c.lt
  have hsz := h.g.size
  have n0 : w.heap.size ≠ B := by omega
  have m0 : B ≠ w.heap.size := by omega
  have fz0 := h.c.free
  go_enter Tryz.func79, Tryz.ntmps79
  go_wp2_with (first | (go_at_call 109; refine (Ck.call (w0 := w0) (R := w.heap.size) (by repeat (first | with_reducible exact k | with_reducible apply Ck.drew | ((with_reducible apply Ck.mk'); (case hR => (simp; done)); (case h => (repeat (first | with_reducible exact h | with_reducible apply Tn.drew | with_reducible apply Tn.alloc | ((with_reducible apply Tn.other); (case hne => omega); (case hb => omega)))))) | with_reducible apply Ck.alloc)) (fun h => enter_any h _ _ (by first | assumption | omega | exact (top_r _).1 | exact (top_r _).2 | exact (wr16_r _).1 | exact (wr16_r _).2 | (unfold PC.stackTop joinI; omega) | (unfold withinI joinI loI hiI; omega) | (unfold joinI loI hiI; omega) | (unfold loI; omega) | (unfold hiI; omega)) (by first | assumption | omega | exact (top_r _).1 | exact (top_r _).2 | exact (wr16_r _).1 | exact (wr16_r _).2 | (unfold PC.stackTop joinI; omega) | (unfold withinI joinI loI hiI; omega) | (unfold joinI loI hiI; omega) | (unfold loI; omega) | (unfold hiI; omega)) (by first | assumption | omega | exact (bit_r _ _ _).1) (by first | assumption | omega | exact (bit_r _ _ _).2))).mono ?_; rintro e w1 ⟨rfl, k, -, -, -⟩; obtain ⟨⟨r0, r1, r2, r3⟩, r4, z0, n1, n2, m1, m2, fz, b1, nr, mr⟩ := k.facts; have c_pc := k.c.cpc; obtain ⟨l_pc, u_pc⟩ := k.c.rpc; (try simp only [BusI.val])))
  all_goals (refine bodyPost_ret (v := BusI.val (s.enter 65534 (bits .or .u8 s.p 16)).2) (by simp [results, Tryz.results79, go_sem, BusI.val, *] <;> (repeat' (first | rfl | constructor))) rfl (And.intro rfl ?_))
  all_goals (apply Tn.eq; (case h => repeat (first | with_reducible exact k.t | with_reducible exact h | with_reducible apply Tn.drew | with_reducible apply Tn.alloc | ((with_reducible apply Tn.other); (case hne => omega); (case hb => omega)))); (case e => rfl))

theorem enterByBreak_any {B : Nat} {s : PC} {w0 w : World} (h : Tn B s w0 w) :
    Calls Tryz.prog 79 #[.pointer (some ⟨B, 0, none⟩)] w fun e w' => e = .returned (s.enterByBreak).2.val ∧ Tn B (s.enterByBreak).1 w0 w' := by
  by_cases e1 : s.step = 1
  · exact enterByBreak_1 h  e1
  exact enterByBreak_d h  (by simpa using e1)

set_option maxRecDepth 100000 in
set_option maxHeartbeats 1000000 in
theorem enterByIRQ_1 {B : Nat} {s : PC} {w0 w : World} (h : Tn B s w0 w) (hk : s.step = 1) :
    Calls Tryz.prog 81 #[.pointer (some ⟨B, 0, none⟩)] w fun e w' => e = .returned (s.enterByIRQ).2.val ∧ Tn B (s.enterByIRQ).1 w0 w' := by
  have c_step := h.c.cstep; obtain ⟨l_step, u_step⟩ := h.c.rstep; have c_pc := h.c.cpc; obtain ⟨l_pc, u_pc⟩ := h.c.rpc; have c_p := h.c.cp; obtain ⟨l_p, u_p⟩ := h.c.rp
  have hu : Hid (s.enterByIRQ = s.read s.pc) := by show _ = _; unfold PC.enterByIRQ; rw [if_pos hk]
  rw [hu.out]
  rw [hk] at c_step
  have hlt := h.c.lt
  have hsz := h.g.size
  have n0 : w.heap.size ≠ B := by omega
  have m0 : B ≠ w.heap.size := by omega
  have fz0 := h.c.free
  go_enter Tryz.func81, Tryz.ntmps81
  go_wp2_with (first | (go_at_call 53; refine (Ck.call (w0 := w0) (R := w.heap.size) (by repeat (first | with_reducible exact k | with_reducible apply Ck.drew | ((with_reducible apply Ck.mk'); (case hR => (simp; done)); (case h => (repeat (first | with_reducible exact h | with_reducible apply Tn.drew | with_reducible apply Tn.alloc | ((with_reducible apply Tn.other); (case hne => omega); (case hb => omega)))))) | with_reducible apply Ck.alloc)) (fun h => read_any h _ (by first | assumption | omega | exact (top_r _).1 | exact (top_r _).2 | exact (wr16_r _).1 | exact (wr16_r _).2 | (unfold PC.stackTop joinI; omega) | (unfold withinI joinI loI hiI; omega) | (unfold joinI loI hiI; omega) | (unfold loI; omega) | (unfold hiI; omega)) (by first | assumption | omega | exact (top_r _).1 | exact (top_r _).2 | exact (wr16_r _).1 | exact (wr16_r _).2 | (unfold PC.stackTop joinI; omega) | (unfold withinI joinI loI hiI; omega) | (unfold joinI loI hiI; omega) | (unfold loI; omega) | (unfold hiI; omega)))).mono ?_; rintro e w1 ⟨rfl, k, -, -, -⟩; obtain ⟨⟨r0, r1, r2, r3⟩, r4, z0, n1, n2, m1, m2, fz, b1, nr, mr⟩ := k.facts; have c_pc := k.c.cpc; obtain ⟨l_pc, u_pc⟩ := k.c.rpc; (try simp only [BusI.val])))
  all_goals (try go_region_with (first | (go_at_call 53; refine (Ck.call (w0 := w0) (R := w.heap.size) (by repeat (first | with_reducible exact k | with_reducible apply Ck.drew | ((with_reducible apply Ck.mk'); (case hR => (simp; done)); (case h => (repeat (first | with_reducible exact h | with_reducible apply Tn.drew | with_reducible apply Tn.alloc | ((with_reducible apply Tn.other); (case hne => omega); (case hb => omega)))))) | with_reducible apply Ck.alloc)) (fun h => read_any h _ (by first | assumption | omega | exact (top_r _).1 | exact (top_r _).2 | exact (wr16_r _).1 | exact (wr16_r _).2 | (unfold PC.stackTop joinI; omega) | (unfold withinI joinI loI hiI; omega) | (unfold joinI loI hiI; omega) | (unfold loI; omega) | (unfold hiI; omega)) (by first | assumption | omega | exact (top_r _).1 | exact (top_r _).2 | exact (wr16_r _).1 | exact (wr16_r _).2 | (unfold PC.stackTop joinI; omega) | (unfold withinI joinI loI hiI; omega) | (unfold joinI loI hiI; omega) | (unfold loI; omega) | (unfold hiI; omega)))).mono ?_; rintro e w1 ⟨rfl, k, -, -, -⟩; obtain ⟨⟨r0, r1, r2, r3⟩, r4, z0, n1, n2, m1, m2, fz, b1, nr, mr⟩ := k.facts; have c_pc := k.c.cpc; obtain ⟨l_pc, u_pc⟩ := k.c.rpc; (try simp only [BusI.val]))))
  all_goals (try go_wp2_with (first | (go_at_call 53; refine (Ck.call (w0 := w0) (R := w.heap.size) (by repeat (first | with_reducible exact k | with_reducible apply Ck.drew | ((with_reducible apply Ck.mk'); (case hR => (simp; done)); (case h => (repeat (first | with_reducible exact h | with_reducible apply Tn.drew | with_reducible apply Tn.alloc | ((with_reducible apply Tn.other); (case hne => omega); (case hb => omega)))))) | with_reducible apply Ck.alloc)) (fun h => read_any h _ (by first | assumption | omega | exact (top_r _).1 | exact (top_r _).2 | exact (wr16_r _).1 | exact (wr16_r _).2 | (unfold PC.stackTop joinI; omega) | (unfold withinI joinI loI hiI; omega) | (unfold joinI loI hiI; omega) | (unfold loI; omega) | (unfold hiI; omega)) (by first | assumption | omega | exact (top_r _).1 | exact (top_r _).2 | exact (wr16_r _).1 | exact (wr16_r _).2 | (unfold PC.stackTop joinI; omega) | (unfold withinI joinI loI hiI; omega) | (unfold joinI loI hiI; omega) | (unfold loI; omega) | (unfold hiI; omega)))).mono ?_; rintro e w1 ⟨rfl, k, -, -, -⟩; obtain ⟨⟨r0, r1, r2, r3⟩, r4, z0, n1, n2, m1, m2, fz, b1, nr, mr⟩ := k.facts; have c_pc := k.c.cpc; obtain ⟨l_pc, u_pc⟩ := k.c.rpc; (try simp only [BusI.val]))))
  all_goals (refine bodyPost_ret (v := BusI.val (s.read s.pc).2) (by simp [results, Tryz.results81, go_sem, BusI.val, *] <;> (repeat' (first | rfl | constructor))) rfl (And.intro rfl ?_))
  all_goals (apply Tn.eq; (case h => repeat (first | with_reducible exact k.t | with_reducible exact h | with_reducible apply Tn.drew | with_reducible apply Tn.alloc | ((with_reducible apply Tn.other); (case hne => omega); (case hb => omega)))); (case e => rfl))

set_option maxRecDepth 100000 in
set_option maxHeartbeats 1000000 in
theorem enterByIRQ_d {B : Nat} {s : PC} {w0 w : World} (h : Tn B s w0 w) (hk1 : (s.step == 1) = false) :
    Calls Tryz.prog 81 #[.pointer (some ⟨B, 0, none⟩)] w fun e w' => e = .returned (s.enterByIRQ).2.val ∧ Tn B (s.enterByIRQ).1 w0 w' := by
  have c_step := h.c.cstep; obtain ⟨l_step, u_step⟩ := h.c.rstep; have c_pc := h.c.cpc; obtain ⟨l_pc, u_pc⟩ := h.c.rpc; have c_p := h.c.cp; obtain ⟨l_p, u_p⟩ := h.c.rp
  have hu : Hid (s.enterByIRQ = s.enter 65534 (s.p)) := by show _ = _; unfold PC.enterByIRQ; rw [if_neg (by simpa using hk1)]
  rw [hu.out]
  have hlt := h.c.lt
  have hsz := h.g.size
  have n0 : w.heap.size ≠ B := by omega
  have m0 : B ≠ w.heap.size := by omega
  have fz0 := h.c.free
  go_enter Tryz.func81, Tryz.ntmps81
  go_wp2_with (first | (go_at_call 109; refine (Ck.call (w0 := w0) (R := w.heap.size) (by repeat (first | with_reducible exact k | with_reducible apply Ck.drew | ((with_reducible apply Ck.mk'); (case hR => (simp; done)); (case h => (repeat (first | with_reducible exact h | with_reducible apply Tn.drew | with_reducible apply Tn.alloc | ((with_reducible apply Tn.other); (case hne => omega); (case hb => omega)))))) | with_reducible apply Ck.alloc)) (fun h => enter_any h _ _ (by first | assumption | omega | exact (top_r _).1 | exact (top_r _).2 | exact (wr16_r _).1 | exact (wr16_r _).2 | (unfold PC.stackTop joinI; omega) | (unfold withinI joinI loI hiI; omega) | (unfold joinI loI hiI; omega) | (unfold loI; omega) | (unfold hiI; omega)) (by first | assumption | omega | exact (top_r _).1 | exact (top_r _).2 | exact (wr16_r _).1 | exact (wr16_r _).2 | (unfold PC.stackTop joinI; omega) | (unfold withinI joinI loI hiI; omega) | (unfold joinI loI hiI; omega) | (unfold loI; omega) | (unfold hiI; omega)) (by first | assumption | omega | exact (bit_r _ _ _).1) (by first | assumption | omega | exact (bit_r _ _ _).2))).mono ?_; rintro e w1 ⟨rfl, k, -, -, -⟩; obtain ⟨⟨r0, r1, r2, r3⟩, r4, z0, n1, n2, m1, m2, fz, b1, nr, mr⟩ := k.facts; have c_pc := k.c.cpc; obtain ⟨l_pc, u_pc⟩ := k.c.rpc; (try simp only [BusI.val])))
  all_goals (refine bodyPost_ret (v := BusI.val (s.enter 65534 (s.p)).2) (by simp [results, Tryz.results81, go_sem, BusI.val, *] <;> (repeat' (first | rfl | constructor))) rfl (And.intro rfl ?_))
  all_goals (apply Tn.eq; (case h => repeat (first | with_reducible exact k.t | with_reducible exact h | with_reducible apply Tn.drew | with_reducible apply Tn.alloc | ((with_reducible apply Tn.other); (case hne => omega); (case hb => omega)))); (case e => rfl))

theorem enterByIRQ_any {B : Nat} {s : PC} {w0 w : World} (h : Tn B s w0 w) :
    Calls Tryz.prog 81 #[.pointer (some ⟨B, 0, none⟩)] w fun e w' => e = .returned (s.enterByIRQ).2.val ∧ Tn B (s.enterByIRQ).1 w0 w' := by
  by_cases e1 : s.step = 1
  · exact enterByIRQ_1 h  e1
  exact enterByIRQ_d h  (by simpa using e1)

set_option maxRecDepth 100000 in
set_option maxHeartbeats 1000000 in
theorem enterByNMI_1 {B : Nat} {s : PC} {w0 w : World} (h : Tn B s w0 w) (hk : s.step = 1) :
    Calls Tryz.prog 80 #[.pointer (some ⟨B, 0, none⟩)] w fun e w' => e = .returned (s.enterByNMI).2.val ∧ Tn B (s.enterByNMI).1 w0 w' := by
  have c_step := h.c.cstep; obtain ⟨l_step, u_step⟩ := h.c.rstep; have c_pc := h.c.cpc; obtain ⟨l_pc, u_pc⟩ := h.c.rpc; have c_p := h.c.cp; obtain ⟨l_p, u_p⟩ := h.c.rp
  have hu : Hid (s.enterByNMI = s.read s.pc) := by show _ = _; unfold PC.enterByNMI; rw [if_pos hk]
  rw [hu.out]
  rw [hk] at c_step
  have hlt := h.c.lt
  have hsz := h.g.size
  have n0 : w.heap.size ≠ B := by omega
  have m0 : B ≠ w.heap.size := by omega
  have fz0 := h.c.free
  go_enter Tryz.func80, Tryz.ntmps80
  go_wp2_with (first | (go_at_call 53; refine (Ck.call (w0 := w0) (R := w.heap.size) (by repeat (first | with_reducible exact k | with_reducible apply Ck.drew | ((with_reducible apply Ck.mk'); (case hR => (simp; done)); (case h => (repeat (first | with_reducible exact h | with_reducible apply Tn.drew | with_reducible apply Tn.alloc | ((with_reducible apply Tn.other); (case hne => omega); (case hb => omega)))))) | with_reducible apply Ck.alloc)) (fun h => read_any h _ (by first | assumption | omega | exact (top_r _).1 | exact (top_r _).2 | exact (wr16_r _).1 | exact (wr16_r _).2 | (unfold PC.stackTop joinI; omega) | (unfold withinI joinI loI hiI; omega) | (unfold joinI loI hiI; omega) | (unfold loI; omega) | (unfold hiI; omega)) (by first | assumption | omega | exact (top_r _).1 | exact (top_r _).2 | exact (wr16_r _).1 | exact (wr16_r _).2 | (unfold PC.stackTop joinI; omega) | (unfold withinI joinI loI hiI; omega) | (unfold joinI loI hiI; omega) | (unfold loI; omega) | (unfold hiI; omega)))).mono ?_; rintro e w1 ⟨rfl, k, -, -, -⟩; obtain ⟨⟨r0, r1, r2, r3⟩, r4, z0, n1, n2, m1, m2, fz, b1, nr, mr⟩ := k.facts; have c_pc := k.c.cpc; obtain ⟨l_pc, u_pc⟩ := k.c.rpc; (try simp only [BusI.val])))
  all_goals (try go_region_with (first | (go_at_call 53; refine (Ck.call (w0 := w0) (R := w.heap.size) (by repeat (first | with_reducible exact k | with_reducible apply Ck.drew | ((with_reducible apply Ck.mk'); (case hR => (simp; done)); (case h => (repeat (first | with_reducible exact h | with_reducible apply Tn.drew | with_reducible apply Tn.alloc | ((with_reducible apply Tn.other); (case hne => omega); (case hb => omega)))))) | with_reducible apply Ck.alloc)) (fun h => read_any h _ (by first | assumption | omega | exact (top_r _).1 | exact (top_r _).2 | exact (wr16_r _).1 | exact (wr16_r _).2 | (unfold PC.stackTop joinI; omega) | (unfold withinI joinI loI hiI; omega) | (unfold joinI loI hiI; omega) | (unfold loI; omega) | (unfold hiI; omega)) (by first | assumption | omega | exact (top_r _).1 | exact (top_r _).2 | exact (wr16_r _).1 | exact (wr16_r _).2 | (unfold PC.stackTop joinI; omega) | (unfold withinI joinI loI hiI; omega) | (unfold joinI loI hiI; omega) | (unfold loI; omega) | (unfold hiI; omega)))).mono ?_; rintro e w1 ⟨rfl, k, -, -, -⟩; obtain ⟨⟨r0, r1, r2, r3⟩, r4, z0, n1, n2, m1, m2, fz, b1, nr, mr⟩ := k.facts; have c_pc := k.c.cpc; obtain ⟨l_pc, u_pc⟩ := k.c.rpc; (try simp only [BusI.val]))))
  all_goals (try go_wp2_with (first | (go_at_call 53; refine (Ck.call (w0 := w0) (R := w.heap.size) (by repeat (first | with_reducible exact k | with_reducible apply Ck.drew | ((with_reducible apply Ck.mk'); (case hR => (simp; done)); (case h => (repeat (first | with_reducible exact h | with_reducible apply Tn.drew | with_reducible apply Tn.alloc | ((with_reducible apply Tn.other); (case hne => omega); (case hb => omega)))))) | with_reducible apply Ck.alloc)) (fun h => read_any h _ (by first | assumption | omega | exact (top_r _).1 | exact (top_r _).2 | exact (wr16_r _).1 | exact (wr16_r _).2 | (unfold PC.stackTop joinI; omega) | (unfold withinI joinI loI hiI; omega) | (unfold joinI loI hiI; omega) | (unfold loI; omega) | (unfold hiI; omega)) (by first | assumption | omega | exact (top_r _).1 | exact (top_r _).2 | exact (wr16_r _).1 | exact (wr16_r _).2 | (unfold PC.stackTop joinI; omega) | (unfold withinI joinI loI hiI; omega) | (unfold joinI loI hiI; omega) | (unfold loI; omega) | (unfold hiI; omega)))).mono ?_; rintro e w1 ⟨rfl, k, -, -, -⟩; obtain ⟨⟨r0, r1, r2, r3⟩, r4, z0, n1, n2, m1, m2, fz, b1, nr, mr⟩ := k.facts; have c_pc := k.c.cpc; obtain ⟨l_pc, u_pc⟩ := k.c.rpc; (try simp only [BusI.val]))))
  all_goals (refine bodyPost_ret (v := BusI.val (s.read s.pc).2) (by simp [results, Tryz.results80, go_sem, BusI.val, *] <;> (repeat' (first | rfl | constructor))) rfl (And.intro rfl ?_))
  all_goals (apply Tn.eq; (case h => repeat (first | with_reducible exact k.t | with_reducible exact h | with_reducible apply Tn.drew | with_reducible apply Tn.alloc | ((with_reducible apply Tn.other); (case hne => omega); (case hb => omega)))); (case e => rfl))

set_option maxRecDepth 100000 in
set_option maxHeartbeats 1000000 in
theorem enterByNMI_d {B : Nat} {s : PC} {w0 w : World} (h : Tn B s w0 w) (hk1 : (s.step == 1) = false) :
    Calls Tryz.prog 80 #[.pointer (some ⟨B, 0, none⟩)] w fun e w' => e = .returned (s.enterByNMI).2.val ∧ Tn B (s.enterByNMI).1 w0 w' := by
  have c_step := h.c.cstep; obtain ⟨l_step, u_step⟩ := h.c.rstep; have c_pc := h.c.cpc; obtain ⟨l_pc, u_pc⟩ := h.c.rpc; have c_p := h.c.cp; obtain ⟨l_p, u_p⟩ := h.c.rp
  have hu : Hid (s.enterByNMI = s.enter 65530 (s.p)) := by show _ = _; unfold PC.enterByNMI; rw [if_neg (by simpa using hk1)]
  rw [hu.out]
  have hlt := h.c.lt
  have hsz := h.g.size
  have n0 : w.heap.size ≠ B := by omega
  have m0 : B ≠ w.heap.size := by omega
  have fz0 := h.c.free
  go_enter Tryz.func80, Tryz.ntmps80
  go_wp2_with (first | (go_at_call 109; refine (Ck.call (w0 := w0) (R := w.heap.size) (by repeat (first | with_reducible exact k | with_reducible apply Ck.drew | ((with_reducible apply Ck.mk'); (case hR => (simp; done)); (case h => (repeat (first | with_reducible exact h | with_reducible apply Tn.drew | with_reducible apply Tn.alloc | ((with_reducible apply Tn.other); (case hne => omega); (case hb => omega)))))) | with_reducible apply Ck.alloc)) (fun h => enter_any h _ _ (by first | assumption | omega | exact (top_r _).1 | exact (top_r _).2 | exact (wr16_r _).1 | exact (wr16_r _).2 | (unfold PC.stackTop joinI; omega) | (unfold withinI joinI loI hiI; omega) | (unfold joinI loI hiI; omega) | (unfold loI; omega) | (unfold hiI; omega)) (by first | assumption | omega | exact (top_r _).1 | exact (top_r _).2 | exact (wr16_r _).1 | exact (wr16_r _).2 | (unfold PC.stackTop joinI; omega) | (unfold withinI joinI loI hiI; omega) | (unfold joinI loI hiI; omega) | (unfold loI; omega) | (unfold hiI; omega)) (by first | assumption | omega | exact (bit_r _ _ _).1) (by first | assumption | omega | exact (bit_r _ _ _).2))).mono ?_; rintro e w1 ⟨rfl, k, -, -, -⟩; obtain ⟨⟨r0, r1, r2, r3⟩, r4, z0, n1, n2, m1, m2, fz, b1, nr, mr⟩ := k.facts; have c_pc := k.c.cpc; obtain ⟨l_pc, u_pc⟩ := k.c.rpc; (try simp only [BusI.val])))
  all_goals (refine bodyPost_ret (v := BusI.val (s.enter 65530 (s.p)).2) (by simp [results, Tryz.results80, go_sem, BusI.val, *] <;> (repeat' (first | rfl | constructor))) rfl (And.intro rfl ?_))
  all_goals (apply Tn.eq; (case h => repeat (first | with_reducible exact k.t | with_reducible exact h | with_reducible apply Tn.drew | with_reducible apply Tn.alloc | ((with_reducible apply Tn.other); (case hne => omega); (case hb => omega)))); (case e => rfl))

theorem enterByNMI_any {B : Nat} {s : PC} {w0 w : World} (h : Tn B s w0 w) :
    Calls Tryz.prog 80 #[.pointer (some ⟨B, 0, none⟩)] w fun e w' => e = .returned (s.enterByNMI).2.val ∧ Tn B (s.enterByNMI).1 w0 w' := by
  by_cases e1 : s.step = 1
  · exact enterByNMI_1 h  e1
  exact enterByNMI_d h  (by simpa using e1)

end Go.Proofs.YtcgjliflnnklnabGreat
