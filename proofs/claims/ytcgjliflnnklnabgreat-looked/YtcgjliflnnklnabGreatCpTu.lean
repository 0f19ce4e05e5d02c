/-
  A turn in every state.
-/
import Derived.Test.YtcgjliflnnklnabGreatCpFt
import Derived.Test.YtcgjliflnnklnabGreatCpRc
import Derived.Test.YtcgjliflnnklnabGreatCpZa
import Derived.Test.YtcgjliflnnklnabGreatCpZb
namespace Go.Proofs.YtcgjliflnnklnabGreat
open Go.RowKit

theorem relative_any {B : Nat} {s : PC} {w0 w : World} (h : Tn B s w0 w) :
    Calls Tryz.prog 72 #[.pointer (some ⟨B, 0, none⟩)] w fun e w' => e = .returned (s.relative).2.val ∧ Tn B (s.relative).1 w0 w' := by
  by_cases h1 : s.step = 1
  · exact relative_1 h h1
  · by_cases h2 : s.step = 2
    · exact relative_2 h h2
    · exact relative_d h h1 h2

set_option maxRecDepth 100000 in
set_option maxHeartbeats 1000000 in
theorem turn_m12 {B : Nat} {s : PC} {w0 w : World} (h : Tn B s w0 w) (irq : Bool) (hs : s.st = 1) (hm : s.md = 12) :
    Calls Tryz.prog 32 #[.pointer (some ⟨B, 0, none⟩), .bool irq] w fun e w' => e = .returned (s.turn irq).2.val ∧ Tn B (s.turn irq).1 w0 w' := by
  have hu : Hid (s.turn irq = ({ s with step := wrap64 (s.step + 1) } : PC).doMode 12) := by show _ = _; unfold PC.turn; rw [if_neg (by rw [hs]; decide), if_neg (by rw [hs]; decide), if_neg (by rw [hs]; decide), if_neg (by rw [hs]; decide), wrap64_eq]; simp only [hm]; rfl
  rw [hu.out]
  have c_st := h.c.cst; obtain ⟨l_st, u_st⟩ := h.c.rst; have c_md := h.c.cmd; obtain ⟨l_md, u_md⟩ := h.c.rmd; have c_step := h.c.cstep; obtain ⟨l_step, u_step⟩ := h.c.rstep
  rw [hs] at c_st
  rw [hm] at c_md
  clear hs hm
  have hlt := h.c.lt
  have hsz := h.g.size
  have n0 : w.heap.size ≠ B := by omega
  have m0 : B ≠ w.heap.size := by omega
  have fz0 := h.c.free
  go_enter Tryz.func32, Tryz.ntmps32
  go_wp2_with (first | (go_at_call 44; refine (mmeth_at 12 (by decide) (.func (.func 72) #[] #[]) rfl _).mono ?_; rintro e w1 ⟨rfl, hb⟩; have k := Ck.below (w0 := w0) (B := B) (R := w.heap.size) (by repeat (first | with_reducible exact k | with_reducible apply Ck.drew | ((with_reducible apply Ck.mk'); (case hR => (simp; done)); (case h => (repeat (first | with_reducible exact h | with_reducible apply Tn.drew | with_reducible apply Tn.alloc | ((with_reducible apply Tn.setStep); (case hv => (first | omega | exact wr64_r _))) | ((with_reducible apply Tn.other); (case hne => omega); (case hb => omega)))))) | with_reducible apply Ck.alloc | ((with_reducible apply Ck.setStep); (case hv => (first | omega | exact wr64_r _))))) hb; obtain ⟨⟨r0, r1, r2, r3⟩, r4, z0, n1, n2, m1, m2, fz, b1, nr, mr⟩ := k.facts) | (go_at_call 72; refine (Ck.call (w0 := w0) (R := w.heap.size) (by repeat (first | with_reducible exact k | with_reducible apply Ck.drew | ((with_reducible apply Ck.mk'); (case hR => (simp; done)); (case h => (repeat (first | with_reducible exact h | with_reducible apply Tn.drew | with_reducible apply Tn.alloc | ((with_reducible apply Tn.setStep); (case hv => (first | omega | exact wr64_r _))) | ((with_reducible apply Tn.other); (case hne => omega); (case hb => omega)))))) | with_reducible apply Ck.alloc | ((with_reducible apply Ck.setStep); (case hv => (first | omega | exact wr64_r _))))) (fun h => relative_any h)).mono ?_; rintro e w1 ⟨rfl, k, -, -, -⟩; obtain ⟨⟨r0, r1, r2, r3⟩, r4, z0, n1, n2, m1, m2, fz, b1, nr, mr⟩ := k.facts; (try simp only [BusI.val])))
  all_goals (refine bodyPost_ret (v := BusI.val (({ s with step := wrap64 (s.step + 1) } : PC).doMode 12).2) (by simp [results, Tryz.results32, go_sem, BusI.val, *] <;> (repeat' (first | rfl | constructor))) rfl (And.intro rfl ?_))
  all_goals (apply Tn.eq; (case h => repeat (first | with_reducible exact k.t | with_reducible exact h | with_reducible apply Tn.drew | with_reducible apply Tn.alloc | ((with_reducible apply Tn.setStep); (case hv => (first | omega | exact wr64_r _))) | ((with_reducible apply Tn.other); (case hne => omega); (case hb => omega)))); (case e => rfl))

set_option maxRecDepth 100000 in
set_option maxHeartbeats 1000000 in
theorem turn_s0 {B : Nat} {s : PC} {w0 w : World} (h : Tn B s w0 w) (irq : Bool) (hs : s.st = 0) :
    Calls Tryz.prog 32 #[.pointer (some ⟨B, 0, none⟩), .bool irq] w fun e w' => e = .returned (s.turn irq).2.val ∧ Tn B (s.turn irq).1 w0 w' := by
  have c_st := h.c.cst; obtain ⟨l_st, u_st⟩ := h.c.rst
  have hu : Hid (s.turn irq = s.fetch irq) := by show _ = _; unfold PC.turn; rw [if_pos hs]
  rw [hu.out]
  rw [hs] at c_st
  have hlt := h.c.lt
  have hsz := h.g.size
  have n0 : w.heap.size ≠ B := by omega
  have m0 : B ≠ w.heap.size := by omega
  have fz0 := h.c.free
  go_enter Tryz.func32, Tryz.ntmps32
  go_wp2_with (first | (go_at_call 40; refine (Ck.call (w0 := w0) (R := w.heap.size) (by repeat (first | with_reducible exact k | with_reducible apply Ck.drew | ((with_reducible apply Ck.mk'); (case hR => (simp; done)); (case h => (repeat (first | with_reducible exact h | with_reducible apply Tn.drew | with_reducible apply Tn.alloc | ((with_reducible apply Tn.other); (case hne => omega); (case hb => omega)))))) | with_reducible apply Ck.alloc)) (fun h => fetch_any h irq)).mono ?_; rintro e w1 ⟨rfl, k, -, -, -⟩; obtain ⟨⟨r0, r1, r2, r3⟩, r4, z0, n1, n2, m1, m2, fz, b1, nr, mr⟩ := k.facts; (try simp only [BusI.val])))
  all_goals (try go_region_with (first | (go_at_call 40; refine (Ck.call (w0 := w0) (R := w.heap.size) (by repeat (first | with_reducible exact k | with_reducible apply Ck.drew | ((with_reducible apply Ck.mk'); (case hR => (simp; done)); (case h => (repeat (first | with_reducible exact h | with_reducible apply Tn.drew | with_reducible apply Tn.alloc | ((with_reducible apply Tn.other); (case hne => omega); (case hb => omega)))))) | with_reducible apply Ck.alloc)) (fun h => fetch_any h irq)).mono ?_; rintro e w1 ⟨rfl, k, -, -, -⟩; obtain ⟨⟨r0, r1, r2, r3⟩, r4, z0, n1, n2, m1, m2, fz, b1, nr, mr⟩ := k.facts; (try simp only [BusI.val]))))
  all_goals (try go_wp2_with (first | (go_at_call 40; refine (Ck.call (w0 := w0) (R := w.heap.size) (by repeat (first | with_reducible exact k | with_reducible apply Ck.drew | ((with_reducible apply Ck.mk'); (case hR => (simp; done)); (case h => (repeat (first | with_reducible exact h | with_reducible apply Tn.drew | with_reducible apply Tn.alloc | ((with_reducible apply Tn.other); (case hne => omega); (case hb => omega)))))) | with_reducible apply Ck.alloc)) (fun h => fetch_any h irq)).mono ?_; rintro e w1 ⟨rfl, k, -, -, -⟩; obtain ⟨⟨r0, r1, r2, r3⟩, r4, z0, n1, n2, m1, m2, fz, b1, nr, mr⟩ := k.facts; (try simp only [BusI.val]))))
  all_goals (refine bodyPost_ret (v := BusI.val (s.fetch irq).2) (by simp [results, Tryz.results32, go_sem, BusI.val, *] <;> (repeat' (first | rfl | constructor))) rfl (And.intro rfl ?_))
  all_goals (apply Tn.eq; (case h => repeat (first | with_reducible exact k.t | with_reducible exact h | with_reducible apply Tn.drew | with_reducible apply Tn.alloc | ((with_reducible apply Tn.other); (case hne => omega); (case hb => omega)))); (case e => rfl))


theorem turn_any {B : Nat} {s : PC} {w0 w : World} (h : Tn B s w0 w) (irq : Bool) (h5 : s.st ≠ 5) (hm : s.st = 1 → s.md ≠ 0) :
    Calls Tryz.prog 32 #[.pointer (some ⟨B, 0, none⟩), .bool irq] w fun e w' => e = .returned (s.turn irq).2.val ∧ Tn B (s.turn irq).1 w0 w' := by
  have r1 := h.c.rst
  have r2 := h.c.rmd
  rcases (show s.st = 0 ∨ s.st = 1 ∨ s.st = 2 ∨ s.st = 3 ∨ s.st = 4 from by omega) with e | e | e | e | e
  · exact turn_s0 h irq e
  · have hm' := hm e
    rcases (show s.md = 1 ∨ s.md = 2 ∨ s.md = 3 ∨ s.md = 4 ∨ s.md = 5 ∨ s.md = 6 ∨ s.md = 7 ∨ s.md = 8 ∨ s.md = 9 ∨ s.md = 10 ∨ s.md = 11 ∨ s.md = 12 ∨ s.md = 13 ∨ s.md = 14 ∨ s.md = 15 ∨ s.md = 16 ∨ s.md = 17 ∨ s.md = 18 ∨ s.md = 19 ∨ s.md = 20 ∨ s.md = 21 ∨ s.md = 22 from by omega) with q | q | q | q | q | q | q | q | q | q | q | q | q | q | q | q | q | q | q | q | q | q
    · exact turn_m1 h irq e q
    · exact turn_m2 h irq e q
    · exact turn_m3 h irq e q
    · exact turn_m4 h irq e q
    · exact turn_m5 h irq e q
    · exact turn_m6 h irq e q
    · exact turn_m7 h irq e q
    · exact turn_m8 h irq e q
    · exact turn_m9 h irq e q
    · exact turn_m10 h irq e q
    · exact turn_m11 h irq e q
    · exact turn_m12 h irq e q
    · exact turn_m13 h irq e q
    · exact turn_m14 h irq e q
    · exact turn_m15 h irq e q
    · exact turn_m16 h irq e q
    · exact turn_m17 h irq e q
    · exact turn_m18 h irq e q
    · exact turn_m19 h irq e q
    · exact turn_m20 h irq e q
    · exact turn_m21 h irq e q
    · exact turn_m22 h irq e q
  · exact turn_s2 h irq e
  · exact turn_s3 h irq e
  · exact turn_s4 h irq e

end Go.Proofs.YtcgjliflnnklnabGreat
