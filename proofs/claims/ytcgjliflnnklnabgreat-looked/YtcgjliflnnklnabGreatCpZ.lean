/-
  A turn: the state says what is done.
-/
import Derived.Test.YtcgjliflnnklnabGreatCpH
import Derived.Test.YtcgjliflnnklnabGreatCpR
import Derived.Test.YtcgjliflnnklnabGreatCpS
import Derived.Test.YtcgjliflnnklnabGreatCpW
import Derived.Test.YtcgjliflnnklnabGreatCpY
namespace Go.Proofs.YtcgjliflnnklnabGreat
open Go.RowKit

theorem Ck.below {w0 W w1 : World} {B R : Nat} {s : PC} (k : Ck w0 B R s W) (hb : Below W.heap.size W w1) : Ck w0 B R s w1 :=
  ⟨(below_thru k.t hb).c, (below_thru k.t hb).g, by rw [hb.block _ k.lt]; exact k.r, k.ne, k.le⟩
theorem wr64_r (x : Int) : -9223372036854775808 ≤ wrap64 x ∧ wrap64 x < 9223372036854775808 := by
  simp only [wrap64]; omega
theorem wrap64_eq (x : Int) : IntKind.wrap .i64 x = wrap64 x := by simp only [wrap64, IntKind.wrap_i64]

set_option maxRecDepth 100000 in
set_option maxHeartbeats 1000000 in
theorem turn_s2 {B : Nat} {s : PC} {w0 w : World} (h : Tn B s w0 w) (irq : Bool) (hs : s.st = 2) :
    Calls Tryz.prog 32 #[.pointer (some ⟨B, 0, none⟩), .bool irq] w fun e w' => e = .returned (s.turn irq).2.val ∧ Tn B (s.turn irq).1 w0 w' := by
  have c_st := h.c.cst; obtain ⟨l_st, u_st⟩ := h.c.rst
  have hu : Hid (s.turn irq = s.access) := by show _ = _; unfold PC.turn; rw [if_neg (by rw [hs]; decide), if_pos hs]
  rw [hu.out]
  rw [hs] at c_st
  have hlt := h.c.lt
  have hsz := h.g.size
  have n0 : w.heap.size ≠ B := by omega
  have m0 : B ≠ w.heap.size := by omega
  have fz0 := h.c.free
  go_enter Tryz.func32, Tryz.ntmps32
  go_wp2_with (first | (go_at_call 41; refine (Ck.call (w0 := w0) (R := w.heap.size) (by repeat (first | with_reducible exact k | with_reducible apply Ck.drew | ((with_reducible apply Ck.mk'); (case hR => (simp; done)); (case h => (repeat (first | with_reducible exact h | with_reducible apply Tn.drew | with_reducible apply Tn.alloc | ((with_reducible apply Tn.other); (case hne => omega); (case hb => omega)))))) | with_reducible apply Ck.alloc)) (fun h => access_any h)).mono ?_; rintro e w1 ⟨rfl, k, -, -, -⟩; obtain ⟨⟨r0, r1, r2, r3⟩, r4, z0, n1, n2, m1, m2, fz, b1, nr, mr⟩ := k.facts; (try simp only [BusI.val])))
  all_goals (try go_region_with (first | (go_at_call 41; refine (Ck.call (w0 := w0) (R := w.heap.size) (by repeat (first | with_reducible exact k | with_reducible apply Ck.drew | ((with_reducible apply Ck.mk'); (case hR => (simp; done)); (case h => (repeat (first | with_reducible exact h | with_reducible apply Tn.drew | with_reducible apply Tn.alloc | ((with_reducible apply Tn.other); (case hne => omega); (case hb => omega)))))) | with_reducible apply Ck.alloc)) (fun h => access_any h)).mono ?_; rintro e w1 ⟨rfl, k, -, -, -⟩; obtain ⟨⟨r0, r1, r2, r3⟩, r4, z0, n1, n2, m1, m2, fz, b1, nr, mr⟩ := k.facts; (try simp only [BusI.val]))))
  all_goals (try go_wp2_with (first | (go_at_call 41; refine (Ck.call (w0 := w0) (R := w.heap.size) (by repeat (first | with_reducible exact k | with_reducible apply Ck.drew | ((with_reducible apply Ck.mk'); (case hR => (simp; done)); (case h => (repeat (first | with_reducible exact h | with_reducible apply Tn.drew | with_reducible apply Tn.alloc | ((with_reducible apply Tn.other); (case hne => omega); (case hb => omega)))))) | with_reducible apply Ck.alloc)) (fun h => access_any h)).mono ?_; rintro e w1 ⟨rfl, k, -, -, -⟩; obtain ⟨⟨r0, r1, r2, r3⟩, r4, z0, n1, n2, m1, m2, fz, b1, nr, mr⟩ := k.facts; (try simp only [BusI.val]))))
  all_goals (refine bodyPost_ret (v := BusI.val (s.access).2) (by simp [results, Tryz.results32, go_sem, BusI.val, *] <;> (repeat' (first | rfl | constructor))) rfl (And.intro rfl ?_))
  all_goals (apply Tn.eq; (case h => repeat (first | with_reducible exact k.t | with_reducible exact h | with_reducible apply Tn.drew | with_reducible apply Tn.alloc | ((with_reducible apply Tn.other); (case hne => omega); (case hb => omega)))); (case e => rfl))

set_option maxRecDepth 100000 in
set_option maxHeartbeats 1000000 in
theorem turn_s3 {B : Nat} {s : PC} {w0 w : World} (h : Tn B s w0 w) (irq : Bool) (hs : s.st = 3) :
    Calls Tryz.prog 32 #[.pointer (some ⟨B, 0, none⟩), .bool irq] w fun e w' => e = .returned (s.turn irq).2.val ∧ Tn B (s.turn irq).1 w0 w' := by
  have c_st := h.c.cst; obtain ⟨l_st, u_st⟩ := h.c.rst
  have hu : Hid (s.turn irq = s.restore) := by show _ = _; unfold PC.turn; rw [if_neg (by rw [hs]; decide), if_neg (by rw [hs]; decide), if_pos hs]
  rw [hu.out]
  rw [hs] at c_st
  have hlt := h.c.lt
  have hsz := h.g.size
  have n0 : w.heap.size ≠ B := by omega
  have m0 : B ≠ w.heap.size := by omega
  have fz0 := h.c.free
  go_enter Tryz.func32, Tryz.ntmps32
  go_wp2_with (first | (go_at_call 42; refine (Ck.call (w0 := w0) (R := w.heap.size) (by repeat (first | with_reducible exact k | with_reducible apply Ck.drew | ((with_reducible apply Ck.mk'); (case hR => (simp; done)); (case h => (repeat (first | with_reducible exact h | with_reducible apply Tn.drew | with_reducible apply Tn.alloc | ((with_reducible apply Tn.other); (case hne => omega); (case hb => omega)))))) | with_reducible apply Ck.alloc)) (fun h => restore_any h)).mono ?_; rintro e w1 ⟨rfl, k, -, -, -⟩; obtain ⟨⟨r0, r1, r2, r3⟩, r4, z0, n1, n2, m1, m2, fz, b1, nr, mr⟩ := k.facts; (try simp only [BusI.val])))
  all_goals (try go_region_with (first | (go_at_call 42; refine (Ck.call (w0 := w0) (R := w.heap.size) (by repeat (first | with_reducible exact k | with_reducible apply Ck.drew | ((with_reducible apply Ck.mk'); (case hR => (simp; done)); (case h => (repeat (first | with_reducible exact h | with_reducible apply Tn.drew | with_reducible apply Tn.alloc | ((with_reducible apply Tn.other); (case hne => omega); (case hb => omega)))))) | with_reducible apply Ck.alloc)) (fun h => restore_any h)).mono ?_; rintro e w1 ⟨rfl, k, -, -, -⟩; obtain ⟨⟨r0, r1, r2, r3⟩, r4, z0, n1, n2, m1, m2, fz, b1, nr, mr⟩ := k.facts; (try simp only [BusI.val]))))
  all_goals (try go_wp2_with (first | (go_at_call 42; refine (Ck.call (w0 := w0) (R := w.heap.size) (by repeat (first | with_reducible exact k | with_reducible apply Ck.drew | ((with_reducible apply Ck.mk'); (case hR => (simp; done)); (case h => (repeat (first | with_reducible exact h | with_reducible apply Tn.drew | with_reducible apply Tn.alloc | ((with_reducible apply Tn.other); (case hne => omega); (case hb => omega)))))) | with_reducible apply Ck.alloc)) (fun h => restore_any h)).mono ?_; rintro e w1 ⟨rfl, k, -, -, -⟩; obtain ⟨⟨r0, r1, r2, r3⟩, r4, z0, n1, n2, m1, m2, fz, b1, nr, mr⟩ := k.facts; (try simp only [BusI.val]))))
  all_goals (refine bodyPost_ret (v := BusI.val (s.restore).2) (by simp [results, Tryz.results32, go_sem, BusI.val, *] <;> (repeat' (first | rfl | constructor))) rfl (And.intro rfl ?_))
  all_goals (apply Tn.eq; (case h => repeat (first | with_reducible exact k.t | with_reducible exact h | with_reducible apply Tn.drew | with_reducible apply Tn.alloc | ((with_reducible apply Tn.other); (case hne => omega); (case hb => omega)))); (case e => rfl))

set_option maxRecDepth 100000 in
set_option maxHeartbeats 1000000 in
theorem turn_s4 {B : Nat} {s : PC} {w0 w : World} (h : Tn B s w0 w) (irq : Bool) (hs : s.st = 4) :
    Calls Tryz.prog 32 #[.pointer (some ⟨B, 0, none⟩), .bool irq] w fun e w' => e = .returned (s.turn irq).2.val ∧ Tn B (s.turn irq).1 w0 w' := by
  have c_st := h.c.cst; obtain ⟨l_st, u_st⟩ := h.c.rst
  have hu : Hid (s.turn irq = s.change) := by show _ = _; unfold PC.turn; rw [if_neg (by rw [hs]; decide), if_neg (by rw [hs]; decide), if_neg (by rw [hs]; decide), if_pos hs]
  rw [hu.out]
  rw [hs] at c_st
  have hlt := h.c.lt
  have hsz := h.g.size
  have n0 : w.heap.size ≠ B := by omega
  have m0 : B ≠ w.heap.size := by omega
  have fz0 := h.c.free
  go_enter Tryz.func32, Tryz.ntmps32
  go_wp2_with (first | (go_at_call 43; refine (Ck.call (w0 := w0) (R := w.heap.size) (by repeat (first | with_reducible exact k | with_reducible apply Ck.drew | ((with_reducible apply Ck.mk'); (case hR => (simp; done)); (case h => (repeat (first | with_reducible exact h | with_reducible apply Tn.drew | with_reducible apply Tn.alloc | ((with_reducible apply Tn.other); (case hne => omega); (case hb => omega)))))) | with_reducible apply Ck.alloc)) (fun h => change_any h)).mono ?_; rintro e w1 ⟨rfl, k, -, -, -⟩; obtain ⟨⟨r0, r1, r2, r3⟩, r4, z0, n1, n2, m1, m2, fz, b1, nr, mr⟩ := k.facts; (try simp only [BusI.val])))
  all_goals (try go_region_with (first | (go_at_call 43; refine (Ck.call (w0 := w0) (R := w.heap.size) (by repeat (first | with_reducible exact k | with_reducible apply Ck.drew | ((with_reducible apply Ck.mk'); (case hR => (simp; done)); (case h => (repeat (first | with_reducible exact h | with_reducible apply Tn.drew | with_reducible apply Tn.alloc | ((with_reducible apply Tn.other); (case hne => omega); (case hb => omega)))))) | with_reducible apply Ck.alloc)) (fun h => change_any h)).mono ?_; rintro e w1 ⟨rfl, k, -, -, -⟩; obtain ⟨⟨r0, r1, r2, r3⟩, r4, z0, n1, n2, m1, m2, fz, b1, nr, mr⟩ := k.facts; (try simp only [BusI.val]))))
  all_goals (try go_wp2_with (first | (go_at_call 43; refine (Ck.call (w0 := w0) (R := w.heap.size) (by repeat (first | with_reducible exact k | with_reducible apply Ck.drew | ((with_reducible apply Ck.mk'); (case hR => (simp; done)); (case h => (repeat (first | with_reducible exact h | with_reducible apply Tn.drew | with_reducible apply Tn.alloc | ((with_reducible apply Tn.other); (case hne => omega); (case hb => omega)))))) | with_reducible apply Ck.alloc)) (fun h => change_any h)).mono ?_; rintro e w1 ⟨rfl, k, -, -, -⟩; obtain ⟨⟨r0, r1, r2, r3⟩, r4, z0, n1, n2, m1, m2, fz, b1, nr, mr⟩ := k.facts; (try simp only [BusI.val]))))
  all_goals (refine bodyPost_ret (v := BusI.val (s.change).2) (by simp [results, Tryz.results32, go_sem, BusI.val, *] <;> (repeat' (first | rfl | constructor))) rfl (And.intro rfl ?_))
  all_goals (apply Tn.eq; (case h => repeat (first | with_reducible exact k.t | with_reducible exact h | with_reducible apply Tn.drew | with_reducible apply Tn.alloc | ((with_reducible apply Tn.other); (case hne => omega); (case hb => omega)))); (case e => rfl))

end Go.Proofs.YtcgjliflnnklnabGreat
