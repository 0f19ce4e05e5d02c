/-
  Pushes, pulls, interrupts: walked.
-/
import Derived.Test.YtcgjliflnnklnabGreatCpE
import Derived.Test.YtcgjliflnnklnabGreatCpF
namespace Go.Proofs.YtcgjliflnnklnabGreat
open Go.RowKit

set_option maxRecDepth 100000 in
set_option maxHeartbeats 1000000 in
theorem pushByte_1 {B : Nat} {s : PC} {w0 w : World} (h : Tn B s w0 w) (hk : s.step = 1) :
    Calls Tryz.prog 77 #[.pointer (some ⟨B, 0, none⟩)] w fun e w' => e = .returned (s.pushByte).2.val ∧ Tn B (s.pushByte).1 w0 w' := by
  have c_step := h.c.cstep; obtain ⟨l_step, u_step⟩ := h.c.rstep; have c_pc := h.c.cpc; obtain ⟨l_pc, u_pc⟩ := h.c.rpc
  have hu : Hid (s.pushByte = s.read s.pc) := by show _ = _; unfold PC.pushByte; rw [if_pos hk]
  rw [hu.out]
  rw [hk] at c_step
  have hlt := h.c.lt
  have hsz := h.g.size
  have n0 : w.heap.size ≠ B := by omega
  have m0 : B ≠ w.heap.size := by omega
  have fz0 := h.c.free
  go_enter Tryz.func77, Tryz.ntmps77
  go_wp2_with (first | (go_at_call 53; refine (Ck.call (w0 := w0) (R := w.heap.size) (by repeat (first | with_reducible exact k | with_reducible apply Ck.drew | ((with_reducible apply Ck.mk'); (case hR => (simp; done)); (case h => (repeat (first | with_reducible exact h | with_reducible apply Tn.drew | with_reducible apply Tn.alloc | ((with_reducible apply Tn.other); (case hne => omega); (case hb => omega)))))) | with_reducible apply Ck.alloc)) (fun h => read_any h _ (by first | assumption | omega | exact (top_r _).1 | exact (top_r _).2 | exact (wr16_r _).1 | exact (wr16_r _).2 | (unfold PC.stackTop joinI; omega) | (unfold withinI joinI loI hiI; omega) | (unfold joinI loI hiI; omega) | (unfold loI; omega) | (unfold hiI; omega)) (by first | assumption | omega | exact (top_r _).1 | exact (top_r _).2 | exact (wr16_r _).1 | exact (wr16_r _).2 | (unfold PC.stackTop joinI; omega) | (unfold withinI joinI loI hiI; omega) | (unfold joinI loI hiI; omega) | (unfold loI; omega) | (unfold hiI; omega)))).mono ?_; rintro e w1 ⟨rfl, k, -, -, -⟩; obtain ⟨⟨r0, r1, r2, r3⟩, r4, z0, n1, n2, m1, m2, fz, b1, nr, mr⟩ := k.facts; have c_data := k.c.cdata; obtain ⟨l_data, u_data⟩ := k.c.rdata; (try simp only [BusI.val])))
  all_goals (try go_region_with (first | (go_at_call 53; refine (Ck.call (w0 := w0) (R := w.heap.size) (by repeat (first | with_reducible exact k | with_reducible apply Ck.drew | ((with_reducible apply Ck.mk'); (case hR => (simp; done)); (case h => (repeat (first | with_reducible exact h | with_reducible apply Tn.drew | with_reducible apply Tn.alloc | ((with_reducible apply Tn.other); (case hne => omega); (case hb => omega)))))) | with_reducible apply Ck.alloc)) (fun h => read_any h _ (by first | assumption | omega | exact (top_r _).1 | exact (top_r _).2 | exact (wr16_r _).1 | exact (wr16_r _).2 | (unfold PC.stackTop joinI; omega) | (unfold withinI joinI loI hiI; omega) | (unfold joinI loI hiI; omega) | (unfold loI; omega) | (unfold hiI; omega)) (by first | assumption | omega | exact (top_r _).1 | exact (top_r _).2 | exact (wr16_r _).1 | exact (wr16_r _).2 | (unfold PC.stackTop joinI; omega) | (unfold withinI joinI loI hiI; omega) | (unfold joinI loI hiI; omega) | (unfold loI; omega) | (unfold hiI; omega)))).mono ?_; rintro e w1 ⟨rfl, k, -, -, -⟩; obtain ⟨⟨r0, r1, r2, r3⟩, r4, z0, n1, n2, m1, m2, fz, b1, nr, mr⟩ := k.facts; have c_data := k.c.cdata; obtain ⟨l_data, u_data⟩ := k.c.rdata; (try simp only [BusI.val]))))
  all_goals (try go_wp2_with (first | (go_at_call 53; refine (Ck.call (w0 := w0) (R := w.heap.size) (by repeat (first | with_reducible exact k | with_reducible apply Ck.drew | ((with_reducible apply Ck.mk'); (case hR => (simp; done)); (case h => (repeat (first | with_reducible exact h | with_reducible apply Tn.drew | with_reducible apply Tn.alloc | ((with_reducible apply Tn.other); (case hne => omega); (case hb => omega)))))) | with_reducible apply Ck.alloc)) (fun h => read_any h _ (by first | assumption | omega | exact (top_r _).1 | exact (top_r _).2 | exact (wr16_r _).1 | exact (wr16_r _).2 | (unfold PC.stackTop joinI; omega) | (unfold withinI joinI loI hiI; omega) | (unfold joinI loI hiI; omega) | (unfold loI; omega) | (unfold hiI; omega)) (by first | assumption | omega | exact (top_r _).1 | exact (top_r _).2 | exact (wr16_r _).1 | exact (wr16_r _).2 | (unfold PC.stackTop joinI; omega) | (unfold withinI joinI loI hiI; omega) | (unfold joinI loI hiI; omega) | (unfold loI; omega) | (unfold hiI; omega)))).mono ?_; rintro e w1 ⟨rfl, k, -, -, -⟩; obtain ⟨⟨r0, r1, r2, r3⟩, r4, z0, n1, n2, m1, m2, fz, b1, nr, mr⟩ := k.facts; have c_data := k.c.cdata; obtain ⟨l_data, u_data⟩ := k.c.rdata; (try simp only [BusI.val]))))
  all_goals (refine bodyPost_ret (v := BusI.val (s.read s.pc).2) (by simp [results, Tryz.results77, go_sem, BusI.val, *] <;> (repeat' (first | rfl | constructor))) rfl (And.intro rfl ?_))
  all_goals (apply Tn.eq; (case h => repeat (first | with_reducible exact k.t | with_reducible exact h | with_reducible apply Tn.drew | with_reducible apply Tn.alloc | ((with_reducible apply Tn.other); (case hne => omega); (case hb => omega)))); (case e => rfl))

set_option maxRecDepth 100000 in
set_option maxHeartbeats 1000000 in
theorem pushByte_d {B : Nat} {s : PC} {w0 w : World} (h : Tn B s w0 w) (hk1 : (s.step == 1) = false) :
    Calls Tryz.prog 77 #[.pointer (some ⟨B, 0, none⟩)] w fun e w' => e = .returned (s.pushByte).2.val ∧ Tn B (s.pushByte).1 w0 w' := by
  have c_step := h.c.cstep; obtain ⟨l_step, u_step⟩ := h.c.rstep; have c_pc := h.c.cpc; obtain ⟨l_pc, u_pc⟩ := h.c.rpc
  have hu : Hid (s.pushByte = ((s.perform.pushed s.perform.data).1.finish, (s.perform.pushed s.perform.data).2)) := by show _ = _; unfold PC.pushByte; rw [if_neg (by simpa using hk1)]
  rw [hu.out]
  have hlt := h.c.lt
  have hsz := h.g.size
  have n0 : w.heap.size ≠ B := by omega
  have m0 : B ≠ w.heap.size := by omega
  have fz0 := h.c.free
  have n01 : w.heap.size + 1 ≠ B := by omega
  have m01 : B ≠ w.heap.size + 1 := by omega
  go_enter Tryz.func77, Tryz.ntmps77
  go_wp2_with (first | (go_at_call 92; refine (Ck.call (w0 := w0) (R := w.heap.size) (by repeat (first | with_reducible exact k | with_reducible apply Ck.drew | ((with_reducible apply Ck.mk'); (case hR => (simp; done)); (case h => (repeat (first | with_reducible exact h | with_reducible apply Tn.drew | with_reducible apply Tn.alloc | ((with_reducible apply Tn.other); (case hne => omega); (case hb => omega)))))) | with_reducible apply Ck.alloc | ((with_reducible apply Ck.other); (case hne => omega); (case hnr => omega); (case hb => omega)))) (fun h => perform_any h)).mono ?_; rintro e w1 ⟨rfl, k, q1, q2, zz⟩; obtain ⟨⟨r0, r1, r2, r3⟩, r4, z0, n1, n2, m1, m2, fz, b1, nr, mr⟩ := k.facts; (try simp at zz); (try replace zz := Nat.lt_of_succ_le zz); (try have zl : w.heap.size + 1 < w1.heap.size := (by omega)); (try have zm : w.heap.size < w1.heap.size := (by omega)); have c_data := k.c.cdata; obtain ⟨l_data, u_data⟩ := k.c.rdata; skip) | (go_at_call 107; refine (Ck.call (w0 := w0) (R := w.heap.size) (by repeat (first | with_reducible exact k | with_reducible apply Ck.drew | ((with_reducible apply Ck.mk'); (case hR => (simp; done)); (case h => (repeat (first | with_reducible exact h | with_reducible apply Tn.drew | with_reducible apply Tn.alloc | ((with_reducible apply Tn.other); (case hne => omega); (case hb => omega)))))) | with_reducible apply Ck.alloc | ((with_reducible apply Ck.other); (case hne => omega); (case hnr => omega); (case hb => omega)))) (fun h => pushed_any h _ (by first | assumption | omega | exact (top_r _).1 | exact (top_r _).2 | exact (wr16_r _).1 | exact (wr16_r _).2 | (unfold PC.stackTop joinI; omega) | (unfold withinI joinI loI hiI; omega) | (unfold joinI loI hiI; omega) | (unfold loI; omega) | (unfold hiI; omega)) (by first | assumption | omega | exact (top_r _).1 | exact (top_r _).2 | exact (wr16_r _).1 | exact (wr16_r _).2 | (unfold PC.stackTop joinI; omega) | (unfold withinI joinI loI hiI; omega) | (unfold joinI loI hiI; omega) | (unfold loI; omega) | (unfold hiI; omega)))).mono ?_; rintro e w1 ⟨rfl, k, q1, q2, zz⟩; obtain ⟨⟨r0, r1, r2, r3⟩, r4, z0, n1, n2, m1, m2, fz, b1, nr, mr⟩ := k.facts; (try simp at zz); (try replace zz := Nat.lt_of_succ_le zz); (try have zl : w.heap.size + 1 < w1.heap.size := (by omega)); (try have zm : w.heap.size < w1.heap.size := (by omega)); have c_data := k.c.cdata; obtain ⟨l_data, u_data⟩ := k.c.rdata; (try simp only [BusI.val])) | (go_at_call 93; refine (Ck.call (w0 := w0) (R := w.heap.size) (by repeat (first | with_reducible exact k | with_reducible apply Ck.drew | ((with_reducible apply Ck.mk'); (case hR => (simp; done)); (case h => (repeat (first | with_reducible exact h | with_reducible apply Tn.drew | with_reducible apply Tn.alloc | ((with_reducible apply Tn.other); (case hne => omega); (case hb => omega)))))) | with_reducible apply Ck.alloc | ((with_reducible apply Ck.other); (case hne => omega); (case hnr => omega); (case hb => omega)))) (fun h => finish_any h)).mono ?_; rintro e w1 ⟨rfl, k, q1, q2, zz⟩; obtain ⟨⟨r0, r1, r2, r3⟩, r4, z0, n1, n2, m1, m2, fz, b1, nr, mr⟩ := k.facts; (try simp at zz); (try replace zz := Nat.lt_of_succ_le zz); (try have zl : w.heap.size + 1 < w1.heap.size := (by omega)); (try have zm : w.heap.size < w1.heap.size := (by omega)); have c_data := k.c.cdata; obtain ⟨l_data, u_data⟩ := k.c.rdata; skip))
  all_goals (refine bodyPost_ret (v := BusI.val (((s.perform.pushed s.perform.data).1.finish, (s.perform.pushed s.perform.data).2)).2) (by simp [results, Tryz.results77, go_sem, BusI.val, *] <;> (repeat' (first | rfl | constructor))) rfl (And.intro rfl ?_))
  all_goals (apply Tn.eq; (case h => repeat (first | with_reducible exact k.t | with_reducible exact h | with_reducible apply Tn.drew | with_reducible apply Tn.alloc | ((with_reducible apply Tn.other); (case hne => omega); (case hb => omega)))); (case e => rfl))

theorem pushByte_any {B : Nat} {s : PC} {w0 w : World} (h : Tn B s w0 w) :
    Calls Tryz.prog 77 #[.pointer (some ⟨B, 0, none⟩)] w fun e w' => e = .returned (s.pushByte).2.val ∧ Tn B (s.pushByte).1 w0 w' := by
  by_cases e1 : s.step = 1
  · exact pushByte_1 h  e1
  exact pushByte_d h  (by simpa using e1)

set_option maxRecDepth 100000 in
set_option maxHeartbeats 1000000 in
theorem pullByte_1 {B : Nat} {s : PC} {w0 w : World} (h : Tn B s w0 w) (hk : s.step = 1) :
    Calls Tryz.prog 78 #[.pointer (some ⟨B, 0, none⟩)] w fun e w' => e = .returned (s.pullByte).2.val ∧ Tn B (s.pullByte).1 w0 w' := by
  have c_step := h.c.cstep; obtain ⟨l_step, u_step⟩ := h.c.rstep; have c_pc := h.c.cpc; obtain ⟨l_pc, u_pc⟩ := h.c.rpc; have c_s := h.c.cs; obtain ⟨l_s, u_s⟩ := h.c.rs
  have hu : Hid (s.pullByte = s.read s.pc) := by show _ = _; unfold PC.pullByte; rw [if_pos hk]
  rw [hu.out]
  rw [hk] at c_step
  have hlt := h.c.lt
  have hsz := h.g.size
  have n0 : w.heap.size ≠ B := by omega
  have m0 : B ≠ w.heap.size := by omega
  have fz0 := h.c.free
  go_enter Tryz.func78, Tryz.ntmps78
  go_wp2_with (first | (go_at_call 53; refine (Ck.call (w0 := w0) (R := w.heap.size) (by repeat (first | with_reducible exact k | with_reducible apply Ck.drew | ((with_reducible apply Ck.mk'); (case hR => (simp; done)); (case h => (repeat (first | with_reducible exact h | with_reducible apply Tn.drew | with_reducible apply Tn.alloc | ((with_reducible apply Tn.other); (case hne => omega); (case hb => omega)))))) | with_reducible apply Ck.alloc)) (fun h => read_any h _ (by first | assumption | omega | exact (top_r _).1 | exact (top_r _).2 | exact (wr16_r _).1 | exact (wr16_r _).2 | (unfold PC.stackTop joinI; omega) | (unfold withinI joinI loI hiI; omega) | (unfold joinI loI hiI; omega) | (unfold loI; omega) | (unfold hiI; omega)) (by first | assumption | omega | exact (top_r _).1 | exact (top_r _).2 | exact (wr16_r _).1 | exact (wr16_r _).2 | (unfold PC.stackTop joinI; omega) | (unfold withinI joinI loI hiI; omega) | (unfold joinI loI hiI; omega) | (unfold loI; omega) | (unfold hiI; omega)))).mono ?_; rintro e w1 ⟨rfl, k, -, -, -⟩; obtain ⟨⟨r0, r1, r2, r3⟩, r4, z0, n1, n2, m1, m2, fz, b1, nr, mr⟩ := k.facts; have c_pc := k.c.cpc; obtain ⟨l_pc, u_pc⟩ := k.c.rpc; (try simp only [BusI.val])))
  all_goals (try go_region_with (first | (go_at_call 53; refine (Ck.call (w0 := w0) (R := w.heap.size) (by repeat (first | with_reducible exact k | with_reducible apply Ck.drew | ((with_reducible apply Ck.mk'); (case hR => (simp; done)); (case h => (repeat (first | with_reducible exact h | with_reducible apply Tn.drew | with_reducible apply Tn.alloc | ((with_reducible apply Tn.other); (case hne => omega); (case hb => omega)))))) | with_reducible apply Ck.alloc)) (fun h => read_any h _ (by first | assumption | omega | exact (top_r _).1 | exact (top_r _).2 | exact (wr16_r _).1 | exact (wr16_r _).2 | (unfold PC.stackTop joinI; omega) | (unfold withinI joinI loI hiI; omega) | (unfold joinI loI hiI; omega) | (unfold loI; omega) | (unfold hiI; omega)) (by first | assumption | omega | exact (top_r _).1 | exact (top_r _).2 | exact (wr16_r _).1 | exact (wr16_r _).2 | (unfold PC.stackTop joinI; omega) | (unfold withinI joinI loI hiI; omega) | (unfold joinI loI hiI; omega) | (unfold loI; omega) | (unfold hiI; omega)))).mono ?_; rintro e w1 ⟨rfl, k, -, -, -⟩; obtain ⟨⟨r0, r1, r2, r3⟩, r4, z0, n1, n2, m1, m2, fz, b1, nr, mr⟩ := k.facts; have c_pc := k.c.cpc; obtain ⟨l_pc, u_pc⟩ := k.c.rpc; (try simp only [BusI.val]))))
  all_goals (try go_wp2_with (first | (go_at_call 53; refine (Ck.call (w0 := w0) (R := w.heap.size) (by repeat (first | with_reducible exact k | with_reducible apply Ck.drew | ((with_reducible apply Ck.mk'); (case hR => (simp; done)); (case h => (repeat (first | with_reducible exact h | with_reducible apply Tn.drew | with_reducible apply Tn.alloc | ((with_reducible apply Tn.other); (case hne => omega); (case hb => omega)))))) | with_reducible apply Ck.alloc)) (fun h => read_any h _ (by first | assumption | omega | exact (top_r _).1 | exact (top_r _).2 | exact (wr16_r _).1 | exact (wr16_r _).2 | (unfold PC.stackTop joinI; omega) | (unfold withinI joinI loI hiI; omega) | (unfold joinI loI hiI; omega) | (unfold loI; omega) | (unfold hiI; omega)) (by first | assumption | omega | exact (top_r _).1 | exact (top_r _).2 | exact (wr16_r _).1 | exact (wr16_r _).2 | (unfold PC.stackTop joinI; omega) | (unfold withinI joinI loI hiI; omega) | (unfold joinI loI hiI; omega) | (unfold loI; omega) | (unfold hiI; omega)))).mono ?_; rintro e w1 ⟨rfl, k, -, -, -⟩; obtain ⟨⟨r0, r1, r2, r3⟩, r4, z0, n1, n2, m1, m2, fz, b1, nr, mr⟩ := k.facts; have c_pc := k.c.cpc; obtain ⟨l_pc, u_pc⟩ := k.c.rpc; (try simp only [BusI.val]))))
  all_goals (refine bodyPost_ret (v := BusI.val (s.read s.pc).2) (by simp [results, Tryz.results78, go_sem, BusI.val, *] <;> (repeat' (first | rfl | constructor))) rfl (And.intro rfl ?_))
  all_goals (apply Tn.eq; (case h => repeat (first | with_reducible exact k.t | with_reducible exact h | with_reducible apply Tn.drew | with_reducible apply Tn.alloc | ((with_reducible apply Tn.other); (case hne => omega); (case hb => omega)))); (case e => rfl))

set_option maxRecDepth 100000 in
set_option maxHeartbeats 1000000 in
theorem pullByte_2 {B : Nat} {s : PC} {w0 w : World} (h : Tn B s w0 w) (hk : s.step = 2) :
    Calls Tryz.prog 78 #[.pointer (some ⟨B, 0, none⟩)] w fun e w' => e = .returned (s.pullByte).2.val ∧ Tn B (s.pullByte).1 w0 w' := by
  have c_step := h.c.cstep; obtain ⟨l_step, u_step⟩ := h.c.rstep; have c_pc := h.c.cpc; obtain ⟨l_pc, u_pc⟩ := h.c.rpc; have c_s := h.c.cs; obtain ⟨l_s, u_s⟩ := h.c.rs
  have hu : Hid (s.pullByte = s.read s.stackTop) := by show _ = _; unfold PC.pullByte; rw [if_neg (by rw [hk]; decide), if_pos hk]
  rw [hu.out]
  rw [hk] at c_step
  have hlt := h.c.lt
  have hsz := h.g.size
  have n0 : w.heap.size ≠ B := by omega
  have m0 : B ≠ w.heap.size := by omega
  have fz0 := h.c.free
  go_enter Tryz.func78, Tryz.ntmps78
  go_wp2_with (first | (go_at_call 106; refine (Ck.same (w0 := w0) (R := w.heap.size) (by repeat (first | with_reducible exact k | with_reducible apply Ck.drew | ((with_reducible apply Ck.mk'); (case hR => (simp; done)); (case h => (repeat (first | with_reducible exact h | with_reducible apply Tn.drew | with_reducible apply Tn.alloc | ((with_reducible apply Tn.other); (case hne => omega); (case hb => omega)))))) | with_reducible apply Ck.alloc)) (fun h => stackTop_any h)).mono ?_; rintro e w' ⟨rfl, rfl⟩) | (go_at_call 53; refine (Ck.call (w0 := w0) (R := w.heap.size) (by repeat (first | with_reducible exact k | with_reducible apply Ck.drew | ((with_reducible apply Ck.mk'); (case hR => (simp; done)); (case h => (repeat (first | with_reducible exact h | with_reducible apply Tn.drew | with_reducible apply Tn.alloc | ((with_reducible apply Tn.other); (case hne => omega); (case hb => omega)))))) | with_reducible apply Ck.alloc)) (fun h => read_any h _ (by first | assumption | omega | exact (top_r _).1 | exact (top_r _).2 | exact (wr16_r _).1 | exact (wr16_r _).2 | (unfold PC.stackTop joinI; omega) | (unfold withinI joinI loI hiI; omega) | (unfold joinI loI hiI; omega) | (unfold loI; omega) | (unfold hiI; omega)) (by first | assumption | omega | exact (top_r _).1 | exact (top_r _).2 | exact (wr16_r _).1 | exact (wr16_r _).2 | (unfold PC.stackTop joinI; omega) | (unfold withinI joinI loI hiI; omega) | (unfold joinI loI hiI; omega) | (unfold loI; omega) | (unfold hiI; omega)))).mono ?_; rintro e w1 ⟨rfl, k, -, -, -⟩; obtain ⟨⟨r0, r1, r2, r3⟩, r4, z0, n1, n2, m1, m2, fz, b1, nr, mr⟩ := k.facts; have c_pc := k.c.cpc; obtain ⟨l_pc, u_pc⟩ := k.c.rpc; (try simp only [BusI.val])))
  all_goals (try go_region_with (first | (go_at_call 106; refine (Ck.same (w0 := w0) (R := w.heap.size) (by repeat (first | with_reducible exact k | with_reducible apply Ck.drew | ((with_reducible apply Ck.mk'); (case hR => (simp; done)); (case h => (repeat (first | with_reducible exact h | with_reducible apply Tn.drew | with_reducible apply Tn.alloc | ((with_reducible apply Tn.other); (case hne => omega); (case hb => omega)))))) | with_reducible apply Ck.alloc)) (fun h => stackTop_any h)).mono ?_; rintro e w' ⟨rfl, rfl⟩) | (go_at_call 53; refine (Ck.call (w0 := w0) (R := w.heap.size) (by repeat (first | with_reducible exact k | with_reducible apply Ck.drew | ((with_reducible apply Ck.mk'); (case hR => (simp; done)); (case h => (repeat (first | with_reducible exact h | with_reducible apply Tn.drew | with_reducible apply Tn.alloc | ((with_reducible apply Tn.other); (case hne => omega); (case hb => omega)))))) | with_reducible apply Ck.alloc)) (fun h => read_any h _ (by first | assumption | omega | exact (top_r _).1 | exact (top_r _).2 | exact (wr16_r _).1 | exact (wr16_r _).2 | (unfold PC.stackTop joinI; omega) | (unfold withinI joinI loI hiI; omega) | (unfold joinI loI hiI; omega) | (unfold loI; omega) | (unfold hiI; omega)) (by first | assumption | omega | exact (top_r _).1 | exact (top_r _).2 | exact (wr16_r _).1 | exact (wr16_r _).2 | (unfold PC.stackTop joinI; omega) | (unfold withinI joinI loI hiI; omega) | (unfold joinI loI hiI; omega) | (unfold loI; omega) | (unfold hiI; omega)))).mono ?_; rintro e w1 ⟨rfl, k, -, -, -⟩; obtain ⟨⟨r0, r1, r2, r3⟩, r4, z0, n1, n2, m1, m2, fz, b1, nr, mr⟩ := k.facts; have c_pc := k.c.cpc; obtain ⟨l_pc, u_pc⟩ := k.c.rpc; (try simp only [BusI.val]))))
  all_goals (try go_wp2_with (first | (go_at_call 106; refine (Ck.same (w0 := w0) (R := w.heap.size) (by repeat (first | with_reducible exact k | with_reducible apply Ck.drew | ((with_reducible apply Ck.mk'); (case hR => (simp; done)); (case h => (repeat (first | with_reducible exact h | with_reducible apply Tn.drew | with_reducible apply Tn.alloc | ((with_reducible apply Tn.other); (case hne => omega); (case hb => omega)))))) | with_reducible apply Ck.alloc)) (fun h => stackTop_any h)).mono ?_; rintro e w' ⟨rfl, rfl⟩) | (go_at_call 53; refine (Ck.call (w0 := w0) (R := w.heap.size) (by repeat (first | with_reducible exact k | with_reducible apply Ck.drew | ((with_reducible apply Ck.mk'); (case hR => (simp; done)); (case h => (repeat (first | with_reducible exact h | with_reducible apply Tn.drew | with_reducible apply Tn.alloc | ((with_reducible apply Tn.other); (case hne => omega); (case hb => omega)))))) | with_reducible apply Ck.alloc)) (fun h => read_any h _ (by first | assumption | omega | exact (top_r _).1 | exact (top_r _).2 | exact (wr16_r _).1 | exact (wr16_r _).2 | (unfold PC.stackTop joinI; omega) | (unfold withinI joinI loI hiI; omega) | (unfold joinI loI hiI; omega) | (unfold loI; omega) | (unfold hiI; omega)) (by first | assumption | omega | exact (top_r _).1 | exact (top_r _).2 | exact (wr16_r _).1 | exact (wr16_r _).2 | (unfold PC.stackTop joinI; omega) | (unfold withinI joinI loI hiI; omega) | (unfold joinI loI hiI; omega) | (unfold loI; omega) | (unfold hiI; omega)))).mono ?_; rintro e w1 ⟨rfl, k, -, -, -⟩; obtain ⟨⟨r0, r1, r2, r3⟩, r4, z0, n1, n2, m1, m2, fz, b1, nr, mr⟩ := k.facts; have c_pc := k.c.cpc; obtain ⟨l_pc, u_pc⟩ := k.c.rpc; (try simp only [BusI.val]))))
  all_goals (refine bodyPost_ret (v := BusI.val (s.read s.stackTop).2) (by simp [results, Tryz.results78, go_sem, BusI.val, *] <;> (repeat' (first | rfl | constructor))) rfl (And.intro rfl ?_))
  all_goals (apply Tn.eq; (case h => repeat (first | with_reducible exact k.t | with_reducible exact h | with_reducible apply Tn.drew | with_reducible apply Tn.alloc | ((with_reducible apply Tn.other); (case hne => omega); (case hb => omega)))); (case e => rfl))

set_option maxRecDepth 100000 in
set_option maxHeartbeats 1000000 in
theorem pullByte_d {B : Nat} {s : PC} {w0 w : World} (h : Tn B s w0 w) (hk1 : (s.step == 1) = false) (hk2 : (s.step == 2) = false) :
    Calls Tryz.prog 78 #[.pointer (some ⟨B, 0, none⟩)] w fun e w' => e = .returned (s.pullByte).2.val ∧ Tn B (s.pullByte).1 w0 w' := by
  have c_step := h.c.cstep; obtain ⟨l_step, u_step⟩ := h.c.rstep; have c_pc := h.c.cpc; obtain ⟨l_pc, u_pc⟩ := h.c.rpc; have c_s := h.c.cs; obtain ⟨l_s, u_s⟩ := h.c.rs
  have hu : Hid (s.pullByte = ((takeData s.pulled).1.performLast, (takeData s.pulled).2)) := by show _ = _; unfold PC.pullByte; rw [if_neg (by simpa using hk1), if_neg (by simpa using hk2)]
  rw [hu.out]
  have hlt := h.c.lt
  have hsz := h.g.size
  have n0 : w.heap.size ≠ B := by omega
  have m0 : B ≠ w.heap.size := by omega
  have fz0 := h.c.free
  have n01 : w.heap.size + 1 ≠ B := by omega
  have m01 : B ≠ w.heap.size + 1 := by omega
  go_enter Tryz.func78, Tryz.ntmps78
  go_wp2_with (first | (go_at_call 108; refine (Ck.call (w0 := w0) (R := w.heap.size) (by repeat (first | with_reducible exact k | with_reducible apply Ck.drew | ((with_reducible apply Ck.mk'); (case hR => (simp; done)); (case h => (repeat (first | with_reducible exact h | with_reducible apply Tn.drew | with_reducible apply Tn.alloc | ((with_reducible apply Tn.other); (case hne => omega); (case hb => omega)))))) | with_reducible apply Ck.alloc | ((with_reducible apply Ck.other); (case hne => omega); (case hnr => omega); (case hb => omega)))) (fun h => pulled_any h)).mono ?_; rintro e w1 ⟨rfl, k, q1, q2, zz⟩; obtain ⟨⟨r0, r1, r2, r3⟩, r4, z0, n1, n2, m1, m2, fz, b1, nr, mr⟩ := k.facts; (try simp at zz); (try replace zz := Nat.lt_of_succ_le zz); (try have zl : w.heap.size + 1 < w1.heap.size := (by omega)); (try have zm : w.heap.size < w1.heap.size := (by omega)); have c_pc := k.c.cpc; obtain ⟨l_pc, u_pc⟩ := k.c.rpc; (try simp only [BusI.val])) | (go_at_call 60; refine (Ck.call (w0 := w0) (R := w.heap.size) (by repeat (first | with_reducible exact k | with_reducible apply Ck.drew | ((with_reducible apply Ck.mk'); (case hR => (simp; done)); (case h => (repeat (first | with_reducible exact h | with_reducible apply Tn.drew | with_reducible apply Tn.alloc | ((with_reducible apply Tn.other); (case hne => omega); (case hb => omega)))))) | with_reducible apply Ck.alloc | ((with_reducible apply Ck.other); (case hne => omega); (case hnr => omega); (case hb => omega)))) (fun h => takeData_any h ⟨_, _, _, _⟩)).mono ?_; rintro e w1 ⟨rfl, k, q1, q2, zz⟩; obtain ⟨⟨r0, r1, r2, r3⟩, r4, z0, n1, n2, m1, m2, fz, b1, nr, mr⟩ := k.facts; (try simp at zz); (try replace zz := Nat.lt_of_succ_le zz); (try have zl : w.heap.size + 1 < w1.heap.size := (by omega)); (try have zm : w.heap.size < w1.heap.size := (by omega)); have c_pc := k.c.cpc; obtain ⟨l_pc, u_pc⟩ := k.c.rpc; (try simp only [BusI.val])) | (go_at_call 58; refine (Ck.call (w0 := w0) (R := w.heap.size) (by repeat (first | with_reducible exact k | with_reducible apply Ck.drew | ((with_reducible apply Ck.mk'); (case hR => (simp; done)); (case h => (repeat (first | with_reducible exact h | with_reducible apply Tn.drew | with_reducible apply Tn.alloc | ((with_reducible apply Tn.other); (case hne => omega); (case hb => omega)))))) | with_reducible apply Ck.alloc | ((with_reducible apply Ck.other); (case hne => omega); (case hnr => omega); (case hb => omega)))) (fun h => performLast_any h)).mono ?_; rintro e w1 ⟨rfl, k, q1, q2, zz⟩; obtain ⟨⟨r0, r1, r2, r3⟩, r4, z0, n1, n2, m1, m2, fz, b1, nr, mr⟩ := k.facts; (try simp at zz); (try replace zz := Nat.lt_of_succ_le zz); (try have zl : w.heap.size + 1 < w1.heap.size := (by omega)); (try have zm : w.heap.size < w1.heap.size := (by omega)); have c_pc := k.c.cpc; obtain ⟨l_pc, u_pc⟩ := k.c.rpc; skip))
  all_goals (refine bodyPost_ret (v := BusI.val (((takeData s.pulled).1.performLast, (takeData s.pulled).2)).2) (by simp [results, Tryz.results78, go_sem, BusI.val, *] <;> (repeat' (first | rfl | constructor))) rfl (And.intro rfl ?_))
  all_goals (apply Tn.eq; (case h => repeat (first | with_reducible exact k.t | with_reducible exact h | with_reducible apply Tn.drew | with_reducible apply Tn.alloc | ((with_reducible apply Tn.other); (case hne => omega); (case hb => omega)))); (case e => rfl))

theorem pullByte_any {B : Nat} {s : PC} {w0 w : World} (h : Tn B s w0 w) :
    Calls Tryz.prog 78 #[.pointer (some ⟨B, 0, none⟩)] w fun e w' => e = .returned (s.pullByte).2.val ∧ Tn B (s.pullByte).1 w0 w' := by
  by_cases e1 : s.step = 1
  · exact pullByte_1 h  e1
  by_cases e2 : s.step = 2
  · exact pullByte_2 h  e2
  exact pullByte_d h  (by simpa using e1) (by simpa using e2)

set_option maxRecDepth 100000 in
set_option maxHeartbeats 1000000 in
theorem enter_2 {B : Nat} {s : PC} {w0 w : World} (h : Tn B s w0 w) (v f : Int) (v1 : 0 ≤ v) (v2 : v < 65536) (f1 : 0 ≤ f) (f2 : f < 256) (hk : s.step = 2) :
    Calls Tryz.prog 109 #[.pointer (some ⟨B, 0, none⟩), .int .u16 v, .int .u8 f] w fun e w' => e = .returned (s.enter v f).2.val ∧ Tn B (s.enter v f).1 w0 w' := by
  have c_step := h.c.cstep; obtain ⟨l_step, u_step⟩ := h.c.rstep; have c_pc := h.c.cpc; obtain ⟨l_pc, u_pc⟩ := h.c.rpc; have c_s := h.c.cs; obtain ⟨l_s, u_s⟩ := h.c.rs
  have hu : Hid (s.enter v f = s.pushed (hiI s.pc)) := by show _ = _; unfold PC.enter; rw [if_pos hk]
  rw [hu.out]
  rw [hk] at c_step
  have _ := v1
  have _ := v2
  have _ := f1
  have _ := f2
  have hlt := h.c.lt
  have hsz := h.g.size
  have n0 : w.heap.size ≠ B := by omega
  have m0 : B ≠ w.heap.size := by omega
  have fz0 := h.c.free
  go_enter Tryz.func109, Tryz.ntmps109
  go_wp2_with (first | (go_at_call 102; refine (highOf_any _ _ (by first | assumption | omega | exact (top_r _).1 | exact (top_r _).2 | exact (wr16_r _).1 | exact (wr16_r _).2 | (unfold PC.stackTop joinI; omega) | (unfold withinI joinI loI hiI; omega) | (unfold joinI loI hiI; omega) | (unfold loI; omega) | (unfold hiI; omega)) (by first | assumption | omega | exact (top_r _).1 | exact (top_r _).2 | exact (wr16_r _).1 | exact (wr16_r _).2 | (unfold PC.stackTop joinI; omega) | (unfold withinI joinI loI hiI; omega) | (unfold joinI loI hiI; omega) | (unfold loI; omega) | (unfold hiI; omega))).mono ?_; rintro e w' ⟨rfl, rfl⟩) | (go_at_call 107; refine (Ck.call (w0 := w0) (R := w.heap.size) (by repeat (first | with_reducible exact k | with_reducible apply Ck.drew | ((with_reducible apply Ck.mk'); (case hR => (simp; done)); (case h => (repeat (first | with_reducible exact h | with_reducible apply Tn.drew | with_reducible apply Tn.alloc | ((with_reducible apply Tn.other); (case hne => omega); (case hb => omega)))))) | with_reducible apply Ck.alloc)) (fun h => pushed_any h _ (by first | assumption | omega | exact (top_r _).1 | exact (top_r _).2 | exact (wr16_r _).1 | exact (wr16_r _).2 | (unfold PC.stackTop joinI; omega) | (unfold withinI joinI loI hiI; omega) | (unfold joinI loI hiI; omega) | (unfold loI; omega) | (unfold hiI; omega)) (by first | assumption | omega | exact (top_r _).1 | exact (top_r _).2 | exact (wr16_r _).1 | exact (wr16_r _).2 | (unfold PC.stackTop joinI; omega) | (unfold withinI joinI loI hiI; omega) | (unfold joinI loI hiI; omega) | (unfold loI; omega) | (unfold hiI; omega)))).mono ?_; rintro e w1 ⟨rfl, k, -, -, -⟩; obtain ⟨⟨r0, r1, r2, r3⟩, r4, z0, n1, n2, m1, m2, fz, b1, nr, mr⟩ := k.facts; have c_pc := k.c.cpc; obtain ⟨l_pc, u_pc⟩ := k.c.rpc; (try simp only [BusI.val])))
  all_goals (refine bodyPost_ret (v := BusI.val (s.pushed (hiI s.pc)).2) (by simp [results, Tryz.results109, go_sem, BusI.val, *] <;> (repeat' (first | rfl | constructor))) rfl (And.intro rfl ?_))
  all_goals (apply Tn.eq; (case h => repeat (first | with_reducible exact k.t | with_reducible exact h | with_reducible apply Tn.drew | with_reducible apply Tn.alloc | ((with_reducible apply Tn.other); (case hne => omega); (case hb => omega)))); (case e => rfl))

set_option maxRecDepth 100000 in
set_option maxHeartbeats 1000000 in
theorem enter_3 {B : Nat} {s : PC} {w0 w : World} (h : Tn B s w0 w) (v f : Int) (v1 : 0 ≤ v) (v2 : v < 65536) (f1 : 0 ≤ f) (f2 : f < 256) (hk : s.step = 3) :
    Calls Tryz.prog 109 #[.pointer (some ⟨B, 0, none⟩), .int .u16 v, .int .u8 f] w fun e w' => e = .returned (s.enter v f).2.val ∧ Tn B (s.enter v f).1 w0 w' := by
  have c_step := h.c.cstep; obtain ⟨l_step, u_step⟩ := h.c.rstep; have c_pc := h.c.cpc; obtain ⟨l_pc, u_pc⟩ := h.c.rpc; have c_s := h.c.cs; obtain ⟨l_s, u_s⟩ := h.c.rs
  have hu : Hid (s.enter v f = s.pushed (loI s.pc)) := by show _ = _; unfold PC.enter; rw [if_neg (by rw [hk]; decide), if_pos hk]
  rw [hu.out]
  rw [hk] at c_step
  have _ := v1
  have _ := v2
  have _ := f1
  have _ := f2
  have hlt := h.c.lt
  have hsz := h.g.size
  have n0 : w.heap.size ≠ B := by omega
  have m0 : B ≠ w.heap.size := by omega
  have fz0 := h.c.free
  go_enter Tryz.func109, Tryz.ntmps109
  go_wp2_with (first | (go_at_call 104; refine (lowOf_any _ _).mono ?_; rintro e w' ⟨rfl, rfl⟩) | (go_at_call 107; refine (Ck.call (w0 := w0) (R := w.heap.size) (by repeat (first | with_reducible exact k | with_reducible apply Ck.drew | ((with_reducible apply Ck.mk'); (case hR => (simp; done)); (case h => (repeat (first | with_reducible exact h | with_reducible apply Tn.drew | with_reducible apply Tn.alloc | ((with_reducible apply Tn.other); (case hne => omega); (case hb => omega)))))) | with_reducible apply Ck.alloc)) (fun h => pushed_any h _ (by first | assumption | omega | exact (top_r _).1 | exact (top_r _).2 | exact (wr16_r _).1 | exact (wr16_r _).2 | (unfold PC.stackTop joinI; omega) | (unfold withinI joinI loI hiI; omega) | (unfold joinI loI hiI; omega) | (unfold loI; omega) | (unfold hiI; omega)) (by first | assumption | omega | exact (top_r _).1 | exact (top_r _).2 | exact (wr16_r _).1 | exact (wr16_r _).2 | (unfold PC.stackTop joinI; omega) | (unfold withinI joinI loI hiI; omega) | (unfold joinI loI hiI; omega) | (unfold loI; omega) | (unfold hiI; omega)))).mono ?_; rintro e w1 ⟨rfl, k, -, -, -⟩; obtain ⟨⟨r0, r1, r2, r3⟩, r4, z0, n1, n2, m1, m2, fz, b1, nr, mr⟩ := k.facts; have c_pc := k.c.cpc; obtain ⟨l_pc, u_pc⟩ := k.c.rpc; (try simp only [BusI.val])))
  all_goals (refine bodyPost_ret (v := BusI.val (s.pushed (loI s.pc)).2) (by simp [results, Tryz.results109, go_sem, BusI.val, *] <;> (repeat' (first | rfl | constructor))) rfl (And.intro rfl ?_))
  all_goals (apply Tn.eq; (case h => repeat (first | with_reducible exact k.t | with_reducible exact h | with_reducible apply Tn.drew | with_reducible apply Tn.alloc | ((with_reducible apply Tn.other); (case hne => omega); (case hb => omega)))); (case e => rfl))

set_option maxRecDepth 100000 in
set_option maxHeartbeats 1000000 in
theorem enter_4 {B : Nat} {s : PC} {w0 w : World} (h : Tn B s w0 w) (v f : Int) (v1 : 0 ≤ v) (v2 : v < 65536) (f1 : 0 ≤ f) (f2 : f < 256) (hk : s.step = 4) :
    Calls Tryz.prog 109 #[.pointer (some ⟨B, 0, none⟩), .int .u16 v, .int .u8 f] w fun e w' => e = .returned (s.enter v f).2.val ∧ Tn B (s.enter v f).1 w0 w' := by
  have c_step := h.c.cstep; obtain ⟨l_step, u_step⟩ := h.c.rstep; have c_pc := h.c.cpc; obtain ⟨l_pc, u_pc⟩ := h.c.rpc; have c_s := h.c.cs; obtain ⟨l_s, u_s⟩ := h.c.rs
  have hu : Hid (s.enter v f = s.pushed f) := by show _ = _; unfold PC.enter; rw [if_neg (by rw [hk]; decide), if_neg (by rw [hk]; decide), if_pos hk]
  rw [hu.out]
  rw [hk] at c_step
  have _ := v1
  have _ := v2
  have _ := f1
  have _ := f2
  have hlt := h.c.lt
  have hsz := h.g.size
  have n0 : w.heap.size ≠ B := by omega
  have m0 : B ≠ w.heap.size := by omega
  have fz0 := h.c.free
  go_enter Tryz.func109, Tryz.ntmps109
  go_wp2_with (first | (go_at_call 107; refine (Ck.call (w0 := w0) (R := w.heap.size) (by repeat (first | with_reducible exact k | with_reducible apply Ck.drew | ((with_reducible apply Ck.mk'); (case hR => (simp; done)); (case h => (repeat (first | with_reducible exact h | with_reducible apply Tn.drew | with_reducible apply Tn.alloc | ((with_reducible apply Tn.other); (case hne => omega); (case hb => omega)))))) | with_reducible apply Ck.alloc)) (fun h => pushed_any h _ (by first | assumption | omega | exact (top_r _).1 | exact (top_r _).2 | exact (wr16_r _).1 | exact (wr16_r _).2 | (unfold PC.stackTop joinI; omega) | (unfold withinI joinI loI hiI; omega) | (unfold joinI loI hiI; omega) | (unfold loI; omega) | (unfold hiI; omega)) (by first | assumption | omega | exact (top_r _).1 | exact (top_r _).2 | exact (wr16_r _).1 | exact (wr16_r _).2 | (unfold PC.stackTop joinI; omega) | (unfold withinI joinI loI hiI; omega) | (unfold joinI loI hiI; omega) | (unfold loI; omega) | (unfold hiI; omega)))).mono ?_; rintro e w1 ⟨rfl, k, -, -, -⟩; obtain ⟨⟨r0, r1, r2, r3⟩, r4, z0, n1, n2, m1, m2, fz, b1, nr, mr⟩ := k.facts; have c_pc := k.c.cpc; obtain ⟨l_pc, u_pc⟩ := k.c.rpc; (try simp only [BusI.val])))
  all_goals (refine bodyPost_ret (v := BusI.val (s.pushed f).2) (by simp [results, Tryz.results109, go_sem, BusI.val, *] <;> (repeat' (first | rfl | constructor))) rfl (And.intro rfl ?_))
  all_goals (apply Tn.eq; (case h => repeat (first | with_reducible exact k.t | with_reducible exact h | with_reducible apply Tn.drew | with_reducible apply Tn.alloc | ((with_reducible apply Tn.other); (case hne => omega); (case hb => omega)))); (case e => rfl))

set_option maxRecDepth 100000 in
set_option maxHeartbeats 1000000 in
theorem enter_5 {B : Nat} {s : PC} {w0 w : World} (h : Tn B s w0 w) (v f : Int) (v1 : 0 ≤ v) (v2 : v < 65536) (f1 : 0 ≤ f) (f2 : f < 256) (hk : s.step = 5) :
    Calls Tryz.prog 109 #[.pointer (some ⟨B, 0, none⟩), .int .u16 v, .int .u8 f] w fun e w' => e = .returned (s.enter v f).2.val ∧ Tn B (s.enter v f).1 w0 w' := by
  have c_step := h.c.cstep; obtain ⟨l_step, u_step⟩ := h.c.rstep; have c_pc := h.c.cpc; obtain ⟨l_pc, u_pc⟩ := h.c.rpc; have c_s := h.c.cs; obtain ⟨l_s, u_s⟩ := h.c.rs
  have hu : Hid (s.enter v f = takeLow (s.read v)) := by show _ = _; unfold PC.enter; rw [if_neg (by rw [hk]; decide), if_neg (by rw [hk]; decide), if_neg (by rw [hk]; decide), if_pos hk]
  rw [hu.out]
  rw [hk] at c_step
  have _ := v1
  have _ := v2
  have _ := f1
  have _ := f2
  have hlt := h.c.lt
  have hsz := h.g.size
  have n0 : w.heap.size ≠ B := by omega
  have m0 : B ≠ w.heap.size := by omega
  have fz0 := h.c.free
  go_enter Tryz.func109, Tryz.ntmps109
  go_wp2_with (first | (go_at_call 53; refine (Ck.call (w0 := w0) (R := w.heap.size) (by repeat (first | with_reducible exact k | with_reducible apply Ck.drew | ((with_reducible apply Ck.mk'); (case hR => (simp; done)); (case h => (repeat (first | with_reducible exact h | with_reducible apply Tn.drew | with_reducible apply Tn.alloc | ((with_reducible apply Tn.other); (case hne => omega); (case hb => omega)))))) | with_reducible apply Ck.alloc)) (fun h => read_any h _ (by first | assumption | omega | exact (top_r _).1 | exact (top_r _).2 | exact (wr16_r _).1 | exact (wr16_r _).2 | (unfold PC.stackTop joinI; omega) | (unfold withinI joinI loI hiI; omega) | (unfold joinI loI hiI; omega) | (unfold loI; omega) | (unfold hiI; omega)) (by first | assumption | omega | exact (top_r _).1 | exact (top_r _).2 | exact (wr16_r _).1 | exact (wr16_r _).2 | (unfold PC.stackTop joinI; omega) | (unfold withinI joinI loI hiI; omega) | (unfold joinI loI hiI; omega) | (unfold loI; omega) | (unfold hiI; omega)))).mono ?_; rintro e w1 ⟨rfl, k, -, -, -⟩; obtain ⟨⟨r0, r1, r2, r3⟩, r4, z0, n1, n2, m1, m2, fz, b1, nr, mr⟩ := k.facts; have c_pc := k.c.cpc; obtain ⟨l_pc, u_pc⟩ := k.c.rpc; (try simp only [BusI.val])) | (go_at_call 95; refine (Ck.call (w0 := w0) (R := w.heap.size) (by repeat (first | with_reducible exact k | with_reducible apply Ck.drew | ((with_reducible apply Ck.mk'); (case hR => (simp; done)); (case h => (repeat (first | with_reducible exact h | with_reducible apply Tn.drew | with_reducible apply Tn.alloc | ((with_reducible apply Tn.other); (case hne => omega); (case hb => omega)))))) | with_reducible apply Ck.alloc)) (fun h => takeLow_any h ⟨_, _, _, _⟩)).mono ?_; rintro e w1 ⟨rfl, k, -, -, -⟩; obtain ⟨⟨r0, r1, r2, r3⟩, r4, z0, n1, n2, m1, m2, fz, b1, nr, mr⟩ := k.facts; have c_pc := k.c.cpc; obtain ⟨l_pc, u_pc⟩ := k.c.rpc; (try simp only [BusI.val])))
  all_goals (refine bodyPost_ret (v := BusI.val (takeLow (s.read v)).2) (by simp [results, Tryz.results109, go_sem, BusI.val, *] <;> (repeat' (first | rfl | constructor))) rfl (And.intro rfl ?_))
  all_goals (apply Tn.eq; (case h => repeat (first | with_reducible exact k.t | with_reducible exact h | with_reducible apply Tn.drew | with_reducible apply Tn.alloc | ((with_reducible apply Tn.other); (case hne => omega); (case hb => omega)))); (case e => rfl))

set_option maxRecDepth 100000 in
set_option maxHeartbeats 1000000 in
theorem enter_d {B : Nat} {s : PC} {w0 w : World} (h : Tn B s w0 w) (v f : Int) (v1 : 0 ≤ v) (v2 : v < 65536) (f1 : 0 ≤ f) (f2 : f < 256) (hk2 : (s.step == 2) = false) (hk3 : (s.step == 3) = false) (hk4 : (s.step == 4) = false) (hk5 : (s.step == 5) = false) :
    Calls Tryz.prog 109 #[.pointer (some ⟨B, 0, none⟩), .int .u16 v, .int .u8 f] w fun e w' => e = .returned (s.enter v f).2.val ∧ Tn B (s.enter v f).1 w0 w' := by
  have c_step := h.c.cstep; obtain ⟨l_step, u_step⟩ := h.c.rstep; have c_pc := h.c.cpc; obtain ⟨l_pc, u_pc⟩ := h.c.rpc; have c_s := h.c.cs; obtain ⟨l_s, u_s⟩ := h.c.rs
  have hu : Hid (s.enter v f = goThere (s.read ((v + 1) % 65536))) := by show _ = _; unfold PC.enter; rw [if_neg (by simpa using hk2), if_neg (by simpa using hk3), if_neg (by simpa using hk4), if_neg (by simpa using hk5)]
  rw [hu.out]
  have _ := v1
  have _ := v2
  have _ := f1
  have _ := f2
  have hlt := h.c.lt
  have hsz := h.g.size
  have n0 : w.heap.size ≠ B := by omega
  have m0 : B ≠ w.heap.size := by omega
  have fz0 := h.c.free
  go_enter Tryz.func109, Tryz.ntmps109
  go_wp2_with (first | (go_at_call 53; refine (Ck.call (w0 := w0) (R := w.heap.size) (by repeat (first | with_reducible exact k | with_reducible apply Ck.drew | ((with_reducible apply Ck.mk'); (case hR => (simp; done)); (case h => (repeat (first | with_reducible exact h | with_reducible apply Tn.drew | with_reducible apply Tn.alloc | ((with_reducible apply Tn.other); (case hne => omega); (case hb => omega)))))) | with_reducible apply Ck.alloc)) (fun h => read_any h _ (by first | assumption | omega | exact (top_r _).1 | exact (top_r _).2 | exact (wr16_r _).1 | exact (wr16_r _).2 | (unfold PC.stackTop joinI; omega) | (unfold withinI joinI loI hiI; omega) | (unfold joinI loI hiI; omega) | (unfold loI; omega) | (unfold hiI; omega)) (by first | assumption | omega | exact (top_r _).1 | exact (top_r _).2 | exact (wr16_r _).1 | exact (wr16_r _).2 | (unfold PC.stackTop joinI; omega) | (unfold withinI joinI loI hiI; omega) | (unfold joinI loI hiI; omega) | (unfold loI; omega) | (unfold hiI; omega)))).mono ?_; rintro e w1 ⟨rfl, k, -, -, -⟩; obtain ⟨⟨r0, r1, r2, r3⟩, r4, z0, n1, n2, m1, m2, fz, b1, nr, mr⟩ := k.facts; have c_pc := k.c.cpc; obtain ⟨l_pc, u_pc⟩ := k.c.rpc; (try simp only [BusI.val])) | (go_at_call 105; refine (Ck.call (w0 := w0) (R := w.heap.size) (by repeat (first | with_reducible exact k | with_reducible apply Ck.drew | ((with_reducible apply Ck.mk'); (case hR => (simp; done)); (case h => (repeat (first | with_reducible exact h | with_reducible apply Tn.drew | with_reducible apply Tn.alloc | ((with_reducible apply Tn.other); (case hne => omega); (case hb => omega)))))) | with_reducible apply Ck.alloc)) (fun h => goThere_any h ⟨_, _, _, _⟩)).mono ?_; rintro e w1 ⟨rfl, k, -, -, -⟩; obtain ⟨⟨r0, r1, r2, r3⟩, r4, z0, n1, n2, m1, m2, fz, b1, nr, mr⟩ := k.facts; have c_pc := k.c.cpc; obtain ⟨l_pc, u_pc⟩ := k.c.rpc; (try simp only [BusI.val])))
  all_goals (refine bodyPost_ret (v := BusI.val (goThere (s.read ((v + 1) % 65536))).2) (by simp [results, Tryz.results109, go_sem, BusI.val, *] <;> (repeat' (first | rfl | constructor))) rfl (And.intro rfl ?_))
  all_goals (apply Tn.eq; (case h => repeat (first | with_reducible exact k.t | with_reducible exact h | with_reducible apply Tn.drew | with_reducible apply Tn.alloc | ((with_reducible apply Tn.other); (case hne => omega); (case hb => omega)))); (case e => rfl))

theorem enter_any {B : Nat} {s : PC} {w0 w : World} (h : Tn B s w0 w) (v f : Int) (v1 : 0 ≤ v) (v2 : v < 65536) (f1 : 0 ≤ f) (f2 : f < 256) :
    Calls Tryz.prog 109 #[.pointer (some ⟨B, 0, none⟩), .int .u16 v, .int .u8 f] w fun e w' => e = .returned (s.enter v f).2.val ∧ Tn B (s.enter v f).1 w0 w' := by
  by_cases e2 : s.step = 2
  · exact enter_2 h v f v1 v2 f1 f2 e2
  by_cases e3 : s.step = 3
  · exact enter_3 h v f v1 v2 f1 f2 e3
  by_cases e4 : s.step = 4
  · exact enter_4 h v f v1 v2 f1 f2 e4
  by_cases e5 : s.step = 5
  · exact enter_5 h v f v1 v2 f1 f2 e5
  exact enter_d h v f v1 v2 f1 f2 (by simpa using e2) (by simpa using e3) (by simpa using e4) (by simpa using e5)

end Go.Proofs.YtcgjliflnnklnabGreat
