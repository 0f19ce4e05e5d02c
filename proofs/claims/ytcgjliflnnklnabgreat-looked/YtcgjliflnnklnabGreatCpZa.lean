/-
  A turn, mode by mode.
-/
import Derived.Test.YtcgjliflnnklnabGreatCpZ
namespace Go.Proofs.YtcgjliflnnklnabGreat
open Go.RowKit


set_option maxRecDepth 100000 in
set_option maxHeartbeats 1000000 in
theorem turn_m1 {B : Nat} {s : PC} {w0 w : World} (h : Tn B s w0 w) (irq : Bool) (hs : s.st = 1) (hm : s.md = 1) :
    Calls Tryz.prog 32 #[.pointer (some ⟨B, 0, none⟩), .bool irq] w fun e w' => e = .returned (s.turn irq).2.val ∧ Tn B (s.turn irq).1 w0 w' := by
  have hu : Hid (s.turn irq = ({ s with step := wrap64 (s.step + 1) } : PC).doMode 1) := by show _ = _; unfold PC.turn; rw [if_neg (by rw [hs]; decide), if_neg (by rw [hs]; decide), if_neg (by rw [hs]; decide), if_neg (by rw [hs]; decide), wrap64_eq]; simp only [hm]; rfl
  rw [hu.out]
  have c_st := h.c.cst; obtain ⟨l_st, u_st⟩ := h.c.rst; have c_md := h.c.cmd; obtain ⟨l_md, u_md⟩ := h.c.rmd; have c_step := h.c.cstep; obtain ⟨l_step, u_step⟩ := h.c.rstep
  rw [hs] at c_st
  rw [hm] at c_md
  clear hs hm
  have hlt := h.c.lt
  have hsz := h.g.size
  have n0 : w.heap.size ≠ B := by omega
  have m0 : B ≠ w.heap.size := by omega
  have fz0 := h.c.free
  go_enter Tryz.func32, Tryz.ntmps32
  go_wp2_with (first | (go_at_call 44; refine (mmeth_at 1 (by decide) (.func (.func 61) #[] #[]) rfl _).mono ?_; rintro e w1 ⟨rfl, hb⟩; have k := Ck.below (w0 := w0) (B := B) (R := w.heap.size) (by repeat (first | with_reducible exact k | with_reducible apply Ck.drew | ((with_reducible apply Ck.mk'); (case hR => (simp; done)); (case h => (repeat (first | with_reducible exact h | with_reducible apply Tn.drew | with_reducible apply Tn.alloc | ((with_reducible apply Tn.setStep); (case hv => (first | omega | exact wr64_r _))) | ((with_reducible apply Tn.other); (case hne => omega); (case hb => omega)))))) | with_reducible apply Ck.alloc | ((with_reducible apply Ck.setStep); (case hv => (first | omega | exact wr64_r _))))) hb; obtain ⟨⟨r0, r1, r2, r3⟩, r4, z0, n1, n2, m1, m2, fz, b1, nr, mr⟩ := k.facts) | (go_at_call 61; refine (Ck.call (w0 := w0) (R := w.heap.size) (by repeat (first | with_reducible exact k | with_reducible apply Ck.drew | ((with_reducible apply Ck.mk'); (case hR => (simp; done)); (case h => (repeat (first | with_reducible exact h | with_reducible apply Tn.drew | with_reducible apply Tn.alloc | ((with_reducible apply Tn.setStep); (case hv => (first | omega | exact wr64_r _))) | ((with_reducible apply Tn.other); (case hne => omega); (case hb => omega)))))) | with_reducible apply Ck.alloc | ((with_reducible apply Ck.setStep); (case hv => (first | omega | exact wr64_r _))))) (fun h => implied_any h)).mono ?_; rintro e w1 ⟨rfl, k, -, -, -⟩; obtain ⟨⟨r0, r1, r2, r3⟩, r4, z0, n1, n2, m1, m2, fz, b1, nr, mr⟩ := k.facts; (try simp only [BusI.val])))
  all_goals (refine bodyPost_ret (v := BusI.val (({ s with step := wrap64 (s.step + 1) } : PC).doMode 1).2) (by simp [results, Tryz.results32, go_sem, BusI.val, *] <;> (repeat' (first | rfl | constructor))) rfl (And.intro rfl ?_))
  all_goals (apply Tn.eq; (case h => repeat (first | with_reducible exact k.t | with_reducible exact h | with_reducible apply Tn.drew | with_reducible apply Tn.alloc | ((with_reducible apply Tn.setStep); (case hv => (first | omega | exact wr64_r _))) | ((with_reducible apply Tn.other); (case hne => omega); (case hb => omega)))); (case e => rfl))

set_option maxRecDepth 100000 in
set_option maxHeartbeats 1000000 in
theorem turn_m2 {B : Nat} {s : PC} {w0 w : World} (h : Tn B s w0 w) (irq : Bool) (hs : s.st = 1) (hm : s.md = 2) :
    Calls Tryz.prog 32 #[.pointer (some ⟨B, 0, none⟩), .bool irq] w fun e w' => e = .returned (s.turn irq).2.val ∧ Tn B (s.turn irq).1 w0 w' := by
  have hu : Hid (s.turn irq = ({ s with step := wrap64 (s.step + 1) } : PC).doMode 2) := by show _ = _; unfold PC.turn; rw [if_neg (by rw [hs]; decide), if_neg (by rw [hs]; decide), if_neg (by rw [hs]; decide), if_neg (by rw [hs]; decide), wrap64_eq]; simp only [hm]; rfl
  rw [hu.out]
  have c_st := h.c.cst; obtain ⟨l_st, u_st⟩ := h.c.rst; have c_md := h.c.cmd; obtain ⟨l_md, u_md⟩ := h.c.rmd; have c_step := h.c.cstep; obtain ⟨l_step, u_step⟩ := h.c.rstep
  rw [hs] at c_st
  rw [hm] at c_md
  clear hs hm
  have hlt := h.c.lt
  have hsz := h.g.size
  have n0 : w.heap.size ≠ B := by omega
  have m0 : B ≠ w.heap.size := by omega
  have fz0 := h.c.free
  go_enter Tryz.func32, Tryz.ntmps32
  go_wp2_with (first | (go_at_call 44; refine (mmeth_at 2 (by decide) (.func (.func 62) #[] #[]) rfl _).mono ?_; rintro e w1 ⟨rfl, hb⟩; have k := Ck.below (w0 := w0) (B := B) (R := w.heap.size) (by repeat (first | with_reducible exact k | with_reducible apply Ck.drew | ((with_reducible apply Ck.mk'); (case hR => (simp; done)); (case h => (repeat (first | with_reducible exact h | with_reducible apply Tn.drew | with_reducible apply Tn.alloc | ((with_reducible apply Tn.setStep); (case hv => (first | omega | exact wr64_r _))) | ((with_reducible apply Tn.other); (case hne => omega); (case hb => omega)))))) | with_reducible apply Ck.alloc | ((with_reducible apply Ck.setStep); (case hv => (first | omega | exact wr64_r _))))) hb; obtain ⟨⟨r0, r1, r2, r3⟩, r4, z0, n1, n2, m1, m2, fz, b1, nr, mr⟩ := k.facts) | (go_at_call 62; refine (Ck.call (w0 := w0) (R := w.heap.size) (by repeat (first | with_reducible exact k | with_reducible apply Ck.drew | ((with_reducible apply Ck.mk'); (case hR => (simp; done)); (case h => (repeat (first | with_reducible exact h | with_reducible apply Tn.drew | with_reducible apply Tn.alloc | ((with_reducible apply Tn.setStep); (case hv => (first | omega | exact wr64_r _))) | ((with_reducible apply Tn.other); (case hne => omega); (case hb => omega)))))) | with_reducible apply Ck.alloc | ((with_reducible apply Ck.setStep); (case hv => (first | omega | exact wr64_r _))))) (fun h => accumulator_any h)).mono ?_; rintro e w1 ⟨rfl, k, -, -, -⟩; obtain ⟨⟨r0, r1, r2, r3⟩, r4, z0, n1, n2, m1, m2, fz, b1, nr, mr⟩ := k.facts; (try simp only [BusI.val])))
  all_goals (refine bodyPost_ret (v := BusI.val (({ s with step := wrap64 (s.step + 1) } : PC).doMode 2).2) (by simp [results, Tryz.results32, go_sem, BusI.val, *] <;> (repeat' (first | rfl | constructor))) rfl (And.intro rfl ?_))
  all_goals (apply Tn.eq; (case h => repeat (first | with_reducible exact k.t | with_reducible exact h | with_reducible apply Tn.drew | with_reducible apply Tn.alloc | ((with_reducible apply Tn.setStep); (case hv => (first | omega | exact wr64_r _))) | ((with_reducible apply Tn.other); (case hne => omega); (case hb => omega)))); (case e => rfl))

set_option maxRecDepth 100000 in
set_option maxHeartbeats 1000000 in
theorem turn_m3 {B : Nat} {s : PC} {w0 w : World} (h : Tn B s w0 w) (irq : Bool) (hs : s.st = 1) (hm : s.md = 3) :
    Calls Tryz.prog 32 #[.pointer (some ⟨B, 0, none⟩), .bool irq] w fun e w' => e = .returned (s.turn irq).2.val ∧ Tn B (s.turn irq).1 w0 w' := by
  have hu : Hid (s.turn irq = ({ s with step := wrap64 (s.step + 1) } : PC).doMode 3) := by show _ = _; unfold PC.turn; rw [if_neg (by rw [hs]; decide), if_neg (by rw [hs]; decide), if_neg (by rw [hs]; decide), if_neg (by rw [hs]; decide), wrap64_eq]; simp only [hm]; rfl
  rw [hu.out]
  have c_st := h.c.cst; obtain ⟨l_st, u_st⟩ := h.c.rst; have c_md := h.c.cmd; obtain ⟨l_md, u_md⟩ := h.c.rmd; have c_step := h.c.cstep; obtain ⟨l_step, u_step⟩ := h.c.rstep
  rw [hs] at c_st
  rw [hm] at c_md
  clear hs hm
  have hlt := h.c.lt
  have hsz := h.g.size
  have n0 : w.heap.size ≠ B := by omega
  have m0 : B ≠ w.heap.size := by omega
  have fz0 := h.c.free
  go_enter Tryz.func32, Tryz.ntmps32
  go_wp2_with (first | (go_at_call 44; refine (mmeth_at 3 (by decide) (.func (.func 63) #[] #[]) rfl _).mono ?_; rintro e w1 ⟨rfl, hb⟩; have k := Ck.below (w0 := w0) (B := B) (R := w.heap.size) (by repeat (first | with_reducible exact k | with_reducible apply Ck.drew | ((with_reducible apply Ck.mk'); (case hR => (simp; done)); (case h => (repeat (first | with_reducible exact h | with_reducible apply Tn.drew | with_reducible apply Tn.alloc | ((with_reducible apply Tn.setStep); (case hv => (first | omega | exact wr64_r _))) | ((with_reducible apply Tn.other); (case hne => omega); (case hb => omega)))))) | with_reducible apply Ck.alloc | ((with_reducible apply Ck.setStep); (case hv => (first | omega | exact wr64_r _))))) hb; obtain ⟨⟨r0, r1, r2, r3⟩, r4, z0, n1, n2, m1, m2, fz, b1, nr, mr⟩ := k.facts) | (go_at_call 63; refine (Ck.call (w0 := w0) (R := w.heap.size) (by repeat (first | with_reducible exact k | with_reducible apply Ck.drew | ((with_reducible apply Ck.mk'); (case hR => (simp; done)); (case h => (repeat (first | with_reducible exact h | with_reducible apply Tn.drew | with_reducible apply Tn.alloc | ((with_reducible apply Tn.setStep); (case hv => (first | omega | exact wr64_r _))) | ((with_reducible apply Tn.other); (case hne => omega); (case hb => omega)))))) | with_reducible apply Ck.alloc | ((with_reducible apply Ck.setStep); (case hv => (first | omega | exact wr64_r _))))) (fun h => immediate_any h)).mono ?_; rintro e w1 ⟨rfl, k, -, -, -⟩; obtain ⟨⟨r0, r1, r2, r3⟩, r4, z0, n1, n2, m1, m2, fz, b1, nr, mr⟩ := k.facts; (try simp only [BusI.val])))
  all_goals (refine bodyPost_ret (v := BusI.val (({ s with step := wrap64 (s.step + 1) } : PC).doMode 3).2) (by simp [results, Tryz.results32, go_sem, BusI.val, *] <;> (repeat' (first | rfl | constructor))) rfl (And.intro rfl ?_))
  all_goals (apply Tn.eq; (case h => repeat (first | with_reducible exact k.t | with_reducible exact h | with_reducible apply Tn.drew | with_reducible apply Tn.alloc | ((with_reducible apply Tn.setStep); (case hv => (first | omega | exact wr64_r _))) | ((with_reducible apply Tn.other); (case hne => omega); (case hb => omega)))); (case e => rfl))

set_option maxRecDepth 100000 in
set_option maxHeartbeats 1000000 in
theorem turn_m4 {B : Nat} {s : PC} {w0 w : World} (h : Tn B s w0 w) (irq : Bool) (hs : s.st = 1) (hm : s.md = 4) :
    Calls Tryz.prog 32 #[.pointer (some ⟨B, 0, none⟩), .bool irq] w fun e w' => e = .returned (s.turn irq).2.val ∧ Tn B (s.turn irq).1 w0 w' := by
  have hu : Hid (s.turn irq = ({ s with step := wrap64 (s.step + 1) } : PC).doMode 4) := by show _ = _; unfold PC.turn; rw [if_neg (by rw [hs]; decide), if_neg (by rw [hs]; decide), if_neg (by rw [hs]; decide), if_neg (by rw [hs]; decide), wrap64_eq]; simp only [hm]; rfl
  rw [hu.out]
  have c_st := h.c.cst; obtain ⟨l_st, u_st⟩ := h.c.rst; have c_md := h.c.cmd; obtain ⟨l_md, u_md⟩ := h.c.rmd; have c_step := h.c.cstep; obtain ⟨l_step, u_step⟩ := h.c.rstep
  rw [hs] at c_st
  rw [hm] at c_md
  clear hs hm
  have hlt := h.c.lt
  have hsz := h.g.size
  have n0 : w.heap.size ≠ B := by omega
  have m0 : B ≠ w.heap.size := by omega
  have fz0 := h.c.free
  go_enter Tryz.func32, Tryz.ntmps32
  go_wp2_with (first | (go_at_call 44; refine (mmeth_at 4 (by decide) (.func (.func 64) #[] #[]) rfl _).mono ?_; rintro e w1 ⟨rfl, hb⟩; have k := Ck.below (w0 := w0) (B := B) (R := w.heap.size) (by repeat (first | with_reducible exact k | with_reducible apply Ck.drew | ((with_reducible apply Ck.mk'); (case hR => (simp; done)); (case h => (repeat (first | with_reducible exact h | with_reducible apply Tn.drew | with_reducible apply Tn.alloc | ((with_reducible apply Tn.setStep); (case hv => (first | omega | exact wr64_r _))) | ((with_reducible apply Tn.other); (case hne => omega); (case hb => omega)))))) | with_reducible apply Ck.alloc | ((with_reducible apply Ck.setStep); (case hv => (first | omega | exact wr64_r _))))) hb; obtain ⟨⟨r0, r1, r2, r3⟩, r4, z0, n1, n2, m1, m2, fz, b1, nr, mr⟩ := k.facts) | (go_at_call 64; refine (Ck.call (w0 := w0) (R := w.heap.size) (by repeat (first | with_reducible exact k | with_reducible apply Ck.drew | ((with_reducible apply Ck.mk'); (case hR => (simp; done)); (case h => (repeat (first | with_reducible exact h | with_reducible apply Tn.drew | with_reducible apply Tn.alloc | ((with_reducible apply Tn.setStep); (case hv => (first | omega | exact wr64_r _))) | ((with_reducible apply Tn.other); (case hne => omega); (case hb => omega)))))) | with_reducible apply Ck.alloc | ((with_reducible apply Ck.setStep); (case hv => (first | omega | exact wr64_r _))))) (fun h => zeroPage_any h)).mono ?_; rintro e w1 ⟨rfl, k, -, -, -⟩; obtain ⟨⟨r0, r1, r2, r3⟩, r4, z0, n1, n2, m1, m2, fz, b1, nr, mr⟩ := k.facts; (try simp only [BusI.val])))
  all_goals (refine bodyPost_ret (v := BusI.val (({ s with step := wrap64 (s.step + 1) } : PC).doMode 4).2) (by simp [results, Tryz.results32, go_sem, BusI.val, *] <;> (repeat' (first | rfl | constructor))) rfl (And.intro rfl ?_))
  all_goals (apply Tn.eq; (case h => repeat (first | with_reducible exact k.t | with_reducible exact h | with_reducible apply Tn.drew | with_reducible apply Tn.alloc | ((with_reducible apply Tn.setStep); (case hv => (first | omega | exact wr64_r _))) | ((with_reducible apply Tn.other); (case hne => omega); (case hb => omega)))); (case e => rfl))

set_option maxRecDepth 100000 in
set_option maxHeartbeats 1000000 in
theorem turn_m5 {B : Nat} {s : PC} {w0 w : World} (h : Tn B s w0 w) (irq : Bool) (hs : s.st = 1) (hm : s.md = 5) :
    Calls Tryz.prog 32 #[.pointer (some ⟨B, 0, none⟩), .bool irq] w fun e w' => e = .returned (s.turn irq).2.val ∧ Tn B (s.turn irq).1 w0 w' := by
  have hu : Hid (s.turn irq = ({ s with step := wrap64 (s.step + 1) } : PC).doMode 5) := by show _ = _; unfold PC.turn; rw [if_neg (by rw [hs]; decide), if_neg (by rw [hs]; decide), if_neg (by rw [hs]; decide), if_neg (by rw [hs]; decide), wrap64_eq]; simp only [hm]; rfl
  rw [hu.out]
  have c_st := h.c.cst; obtain ⟨l_st, u_st⟩ := h.c.rst; have c_md := h.c.cmd; obtain ⟨l_md, u_md⟩ := h.c.rmd; have c_step := h.c.cstep; obtain ⟨l_step, u_step⟩ := h.c.rstep
  rw [hs] at c_st
  rw [hm] at c_md
  clear hs hm
  have hlt := h.c.lt
  have hsz := h.g.size
  have n0 : w.heap.size ≠ B := by omega
  have m0 : B ≠ w.heap.size := by omega
  have fz0 := h.c.free
  go_enter Tryz.func32, Tryz.ntmps32
  go_wp2_with (first | (go_at_call 44; refine (mmeth_at 5 (by decide) (.func (.func 65) #[] #[]) rfl _).mono ?_; rintro e w1 ⟨rfl, hb⟩; have k := Ck.below (w0 := w0) (B := B) (R := w.heap.size) (by repeat (first | with_reducible exact k | with_reducible apply Ck.drew | ((with_reducible apply Ck.mk'); (case hR => (simp; done)); (case h => (repeat (first | with_reducible exact h | with_reducible apply Tn.drew | with_reducible apply Tn.alloc | ((with_reducible apply Tn.setStep); (case hv => (first | omega | exact wr64_r _))) | ((with_reducible apply Tn.other); (case hne => omega); (case hb => omega)))))) | with_reducible apply Ck.alloc | ((with_reducible apply Ck.setStep); (case hv => (first | omega | exact wr64_r _))))) hb; obtain ⟨⟨r0, r1, r2, r3⟩, r4, z0, n1, n2, m1, m2, fz, b1, nr, mr⟩ := k.facts) | (go_at_call 65; refine (Ck.call (w0 := w0) (R := w.heap.size) (by repeat (first | with_reducible exact k | with_reducible apply Ck.drew | ((with_reducible apply Ck.mk'); (case hR => (simp; done)); (case h => (repeat (first | with_reducible exact h | with_reducible apply Tn.drew | with_reducible apply Tn.alloc | ((with_reducible apply Tn.setStep); (case hv => (first | omega | exact wr64_r _))) | ((with_reducible apply Tn.other); (case hne => omega); (case hb => omega)))))) | with_reducible apply Ck.alloc | ((with_reducible apply Ck.setStep); (case hv => (first | omega | exact wr64_r _))))) (fun h => zeroPageX_any h)).mono ?_; rintro e w1 ⟨rfl, k, -, -, -⟩; obtain ⟨⟨r0, r1, r2, r3⟩, r4, z0, n1, n2, m1, m2, fz, b1, nr, mr⟩ := k.facts; (try simp only [BusI.val])))
  all_goals (refine bodyPost_ret (v := BusI.val (({ s with step := wrap64 (s.step + 1) } : PC).doMode 5).2) (by simp [results, Tryz.results32, go_sem, BusI.val, *] <;> (repeat' (first | rfl | constructor))) rfl (And.intro rfl ?_))
  all_goals (apply Tn.eq; (case h => repeat (first | with_reducible exact k.t | with_reducible exact h | with_reducible apply Tn.drew | with_reducible apply Tn.alloc | ((with_reducible apply Tn.setStep); (case hv => (first | omega | exact wr64_r _))) | ((with_reducible apply Tn.other); (case hne => omega); (case hb => omega)))); (case e => rfl))

set_option maxRecDepth 100000 in
set_option maxHeartbeats 1000000 in
theorem turn_m6 {B : Nat} {s : PC} {w0 w : World} (h : Tn B s w0 w) (irq : Bool) (hs : s.st = 1) (hm : s.md = 6) :
    Calls Tryz.prog 32 #[.pointer (some ⟨B, 0, none⟩), .bool irq] w fun e w' => e = .returned (s.turn irq).2.val ∧ Tn B (s.turn irq).1 w0 w' := by
  have hu : Hid (s.turn irq = ({ s with step := wrap64 (s.step + 1) } : PC).doMode 6) := by show _ = _; unfold PC.turn; rw [if_neg (by rw [hs]; decide), if_neg (by rw [hs]; decide), if_neg (by rw [hs]; decide), if_neg (by rw [hs]; decide), wrap64_eq]; simp only [hm]; rfl
  rw [hu.out]
  have c_st := h.c.cst; obtain ⟨l_st, u_st⟩ := h.c.rst; have c_md := h.c.cmd; obtain ⟨l_md, u_md⟩ := h.c.rmd; have c_step := h.c.cstep; obtain ⟨l_step, u_step⟩ := h.c.rstep
  rw [hs] at c_st
  rw [hm] at c_md
  clear hs hm
  have hlt := h.c.lt
  have hsz := h.g.size
  have n0 : w.heap.size ≠ B := by omega
  have m0 : B ≠ w.heap.size := by omega
  have fz0 := h.c.free
  go_enter Tryz.func32, Tryz.ntmps32
  go_wp2_with (first | (go_at_call 44; refine (mmeth_at 6 (by decide) (.func (.func 66) #[] #[]) rfl _).mono ?_; rintro e w1 ⟨rfl, hb⟩; have k := Ck.below (w0 := w0) (B := B) (R := w.heap.size) (by repeat (first | with_reducible exact k | with_reducible apply Ck.drew | ((with_reducible apply Ck.mk'); (case hR => (simp; done)); (case h => (repeat (first | with_reducible exact h | with_reducible apply Tn.drew | with_reducible apply Tn.alloc | ((with_reducible apply Tn.setStep); (case hv => (first | omega | exact wr64_r _))) | ((with_reducible apply Tn.other); (case hne => omega); (case hb => omega)))))) | with_reducible apply Ck.alloc | ((with_reducible apply Ck.setStep); (case hv => (first | omega | exact wr64_r _))))) hb; obtain ⟨⟨r0, r1, r2, r3⟩, r4, z0, n1, n2, m1, m2, fz, b1, nr, mr⟩ := k.facts) | (go_at_call 66; refine (Ck.call (w0 := w0) (R := w.heap.size) (by repeat (first | with_reducible exact k | with_reducible apply Ck.drew | ((with_reducible apply Ck.mk'); (case hR => (simp; done)); (case h => (repeat (first | with_reducible exact h | with_reducible apply Tn.drew | with_reducible apply Tn.alloc | ((with_reducible apply Tn.setStep); (case hv => (first | omega | exact wr64_r _))) | ((with_reducible apply Tn.other); (case hne => omega); (case hb => omega)))))) | with_reducible apply Ck.alloc | ((with_reducible apply Ck.setStep); (case hv => (first | omega | exact wr64_r _))))) (fun h => zeroPageY_any h)).mono ?_; rintro e w1 ⟨rfl, k, -, -, -⟩; obtain ⟨⟨r0, r1, r2, r3⟩, r4, z0, n1, n2, m1, m2, fz, b1, nr, mr⟩ := k.facts; (try simp only [BusI.val])))
  all_goals (refine bodyPost_ret (v := BusI.val (({ s with step := wrap64 (s.step + 1) } : PC).doMode 6).2) (by simp [results, Tryz.results32, go_sem, BusI.val, *] <;> (repeat' (first | rfl | constructor))) rfl (And.intro rfl ?_))
  all_goals (apply Tn.eq; (case h => repeat (first | with_reducible exact k.t | with_reducible exact h | with_reducible apply Tn.drew | with_reducible apply Tn.alloc | ((with_reducible apply Tn.setStep); (case hv => (first | omega | exact wr64_r _))) | ((with_reducible apply Tn.other); (case hne => omega); (case hb => omega)))); (case e => rfl))

set_option maxRecDepth 100000 in
set_option maxHeartbeats 1000000 in
theorem turn_m7 {B : Nat} {s : PC} {w0 w : World} (h : Tn B s w0 w) (irq : Bool) (hs : s.st = 1) (hm : s.md = 7) :
    Calls Tryz.prog 32 #[.pointer (some ⟨B, 0, none⟩), .bool irq] w fun e w' => e = .returned (s.turn irq).2.val ∧ Tn B (s.turn irq).1 w0 w' := by
  have hu : Hid (s.turn irq = ({ s with step := wrap64 (s.step + 1) } : PC).doMode 7) := by show _ = _; unfold PC.turn; rw [if_neg (by rw [hs]; decide), if_neg (by rw [hs]; decide), if_neg (by rw [hs]; decide), if_neg (by rw [hs]; decide), wrap64_eq]; simp only [hm]; rfl
  rw [hu.out]
  have c_st := h.c.cst; obtain ⟨l_st, u_st⟩ := h.c.rst; have c_md := h.c.cmd; obtain ⟨l_md, u_md⟩ := h.c.rmd; have c_step := h.c.cstep; obtain ⟨l_step, u_step⟩ := h.c.rstep
  rw [hs] at c_st
  rw [hm] at c_md
  clear hs hm
  have hlt := h.c.lt
  have hsz := h.g.size
  have n0 : w.heap.size ≠ B := by omega
  have m0 : B ≠ w.heap.size := by omega
  have fz0 := h.c.free
  go_enter Tryz.func32, Tryz.ntmps32
  go_wp2_with (first | (go_at_call 44; refine (mmeth_at 7 (by decide) (.func (.func 67) #[] #[]) rfl _).mono ?_; rintro e w1 ⟨rfl, hb⟩; have k := Ck.below (w0 := w0) (B := B) (R := w.heap.size) (by repeat (first | with_reducible exact k | with_reducible apply Ck.drew | ((with_reducible apply Ck.mk'); (case hR => (simp; done)); (case h => (repeat (first | with_reducible exact h | with_reducible apply Tn.drew | with_reducible apply Tn.alloc | ((with_reducible apply Tn.setStep); (case hv => (first | omega | exact wr64_r _))) | ((with_reducible apply Tn.other); (case hne => omega); (case hb => omega)))))) | with_reducible apply Ck.alloc | ((with_reducible apply Ck.setStep); (case hv => (first | omega | exact wr64_r _))))) hb; obtain ⟨⟨r0, r1, r2, r3⟩, r4, z0, n1, n2, m1, m2, fz, b1, nr, mr⟩ := k.facts) | (go_at_call 67; refine (Ck.call (w0 := w0) (R := w.heap.size) (by repeat (first | with_reducible exact k | with_reducible apply Ck.drew | ((with_reducible apply Ck.mk'); (case hR => (simp; done)); (case h => (repeat (first | with_reducible exact h | with_reducible apply Tn.drew | with_reducible apply Tn.alloc | ((with_reducible apply Tn.setStep); (case hv => (first | omega | exact wr64_r _))) | ((with_reducible apply Tn.other); (case hne => omega); (case hb => omega)))))) | with_reducible apply Ck.alloc | ((with_reducible apply Ck.setStep); (case hv => (first | omega | exact wr64_r _))))) (fun h => absolute_any h)).mono ?_; rintro e w1 ⟨rfl, k, -, -, -⟩; obtain ⟨⟨r0, r1, r2, r3⟩, r4, z0, n1, n2, m1, m2, fz, b1, nr, mr⟩ := k.facts; (try simp only [BusI.val])))
  all_goals (refine bodyPost_ret (v := BusI.val (({ s with step := wrap64 (s.step + 1) } : PC).doMode 7).2) (by simp [results, Tryz.results32, go_sem, BusI.val, *] <;> (repeat' (first | rfl | constructor))) rfl (And.intro rfl ?_))
  all_goals (apply Tn.eq; (case h => repeat (first | with_reducible exact k.t | with_reducible exact h | with_reducible apply Tn.drew | with_reducible apply Tn.alloc | ((with_reducible apply Tn.setStep); (case hv => (first | omega | exact wr64_r _))) | ((with_reducible apply Tn.other); (case hne => omega); (case hb => omega)))); (case e => rfl))

set_option maxRecDepth 100000 in
set_option maxHeartbeats 1000000 in
theorem turn_m8 {B : Nat} {s : PC} {w0 w : World} (h : Tn B s w0 w) (irq : Bool) (hs : s.st = 1) (hm : s.md = 8) :
    Calls Tryz.prog 32 #[.pointer (some ⟨B, 0, none⟩), .bool irq] w fun e w' => e = .returned (s.turn irq).2.val ∧ Tn B (s.turn irq).1 w0 w' := by
  have hu : Hid (s.turn irq = ({ s with step := wrap64 (s.step + 1) } : PC).doMode 8) := by show _ = _; unfold PC.turn; rw [if_neg (by rw [hs]; decide), if_neg (by rw [hs]; decide), if_neg (by rw [hs]; decide), if_neg (by rw [hs]; decide), wrap64_eq]; simp only [hm]; rfl
  rw [hu.out]
  have c_st := h.c.cst; obtain ⟨l_st, u_st⟩ := h.c.rst; have c_md := h.c.cmd; obtain ⟨l_md, u_md⟩ := h.c.rmd; have c_step := h.c.cstep; obtain ⟨l_step, u_step⟩ := h.c.rstep
  rw [hs] at c_st
  rw [hm] at c_md
  clear hs hm
  have hlt := h.c.lt
  have hsz := h.g.size
  have n0 : w.heap.size ≠ B := by omega
  have m0 : B ≠ w.heap.size := by omega
  have fz0 := h.c.free
  go_enter Tryz.func32, Tryz.ntmps32
  go_wp2_with (first | (go_at_call 44; refine (mmeth_at 8 (by decide) (.func (.func 68) #[] #[]) rfl _).mono ?_; rintro e w1 ⟨rfl, hb⟩; have k := Ck.below (w0 := w0) (B := B) (R := w.heap.size) (by repeat (first | with_reducible exact k | with_reducible apply Ck.drew | ((with_reducible apply Ck.mk'); (case hR => (simp; done)); (case h => (repeat (first | with_reducible exact h | with_reducible apply Tn.drew | with_reducible apply Tn.alloc | ((with_reducible apply Tn.setStep); (case hv => (first | omega | exact wr64_r _))) | ((with_reducible apply Tn.other); (case hne => omega); (case hb => omega)))))) | with_reducible apply Ck.alloc | ((with_reducible apply Ck.setStep); (case hv => (first | omega | exact wr64_r _))))) hb; obtain ⟨⟨r0, r1, r2, r3⟩, r4, z0, n1, n2, m1, m2, fz, b1, nr, mr⟩ := k.facts) | (go_at_call 68; refine (Ck.call (w0 := w0) (R := w.heap.size) (by repeat (first | with_reducible exact k | with_reducible apply Ck.drew | ((with_reducible apply Ck.mk'); (case hR => (simp; done)); (case h => (repeat (first | with_reducible exact h | with_reducible apply Tn.drew | with_reducible apply Tn.alloc | ((with_reducible apply Tn.setStep); (case hv => (first | omega | exact wr64_r _))) | ((with_reducible apply Tn.other); (case hne => omega); (case hb => omega)))))) | with_reducible apply Ck.alloc | ((with_reducible apply Ck.setStep); (case hv => (first | omega | exact wr64_r _))))) (fun h => absoluteX_any h)).mono ?_; rintro e w1 ⟨rfl, k, -, -, -⟩; obtain ⟨⟨r0, r1, r2, r3⟩, r4, z0, n1, n2, m1, m2, fz, b1, nr, mr⟩ := k.facts; (try simp only [BusI.val])))
  all_goals (refine bodyPost_ret (v := BusI.val (({ s with step := wrap64 (s.step + 1) } : PC).doMode 8).2) (by simp [results, Tryz.results32, go_sem, BusI.val, *] <;> (repeat' (first | rfl | constructor))) rfl (And.intro rfl ?_))
  all_goals (apply Tn.eq; (case h => repeat (first | with_reducible exact k.t | with_reducible exact h | with_reducible apply Tn.drew | with_reducible apply Tn.alloc | ((with_reducible apply Tn.setStep); (case hv => (first | omega | exact wr64_r _))) | ((with_reducible apply Tn.other); (case hne => omega); (case hb => omega)))); (case e => rfl))

set_option maxRecDepth 100000 in
set_option maxHeartbeats 1000000 in
theorem turn_m9 {B : Nat} {s : PC} {w0 w : World} (h : Tn B s w0 w) (irq : Bool) (hs : s.st = 1) (hm : s.md = 9) :
    Calls Tryz.prog 32 #[.pointer (some ⟨B, 0, none⟩), .bool irq] w fun e w' => e = .returned (s.turn irq).2.val ∧ Tn B (s.turn irq).1 w0 w' := by
  have hu : Hid (s.turn irq = ({ s with step := wrap64 (s.step + 1) } : PC).doMode 9) := by show _ = _; unfold PC.turn; rw [if_neg (by rw [hs]; decide), if_neg (by rw [hs]; decide), if_neg (by rw [hs]; decide), if_neg (by rw [hs]; decide), wrap64_eq]; simp only [hm]; rfl
  rw [hu.out]
  have c_st := h.c.cst; obtain ⟨l_st, u_st⟩ := h.c.rst; have c_md := h.c.cmd; obtain ⟨l_md, u_md⟩ := h.c.rmd; have c_step := h.c.cstep; obtain ⟨l_step, u_step⟩ := h.c.rstep
  rw [hs] at c_st
  rw [hm] at c_md
  clear hs hm
  have hlt := h.c.lt
  have hsz := h.g.size
  have n0 : w.heap.size ≠ B := by omega
  have m0 : B ≠ w.heap.size := by omega
  have fz0 := h.c.free
  go_enter Tryz.func32, Tryz.ntmps32
  go_wp2_with (first | (go_at_call 44; refine (mmeth_at 9 (by decide) (.func (.func 69) #[] #[]) rfl _).mono ?_; rintro e w1 ⟨rfl, hb⟩; have k := Ck.below (w0 := w0) (B := B) (R := w.heap.size) (by repeat (first | with_reducible exact k | with_reducible apply Ck.drew | ((with_reducible apply Ck.mk'); (case hR => (simp; done)); (case h => (repeat (first | with_reducible exact h | with_reducible apply Tn.drew | with_reducible apply Tn.alloc | ((with_reducible apply Tn.setStep); (case hv => (first | omega | exact wr64_r _))) | ((with_reducible apply Tn.other); (case hne => omega); (case hb => omega)))))) | with_reducible apply Ck.alloc | ((with_reducible apply Ck.setStep); (case hv => (first | omega | exact wr64_r _))))) hb; obtain ⟨⟨r0, r1, r2, r3⟩, r4, z0, n1, n2, m1, m2, fz, b1, nr, mr⟩ := k.facts) | (go_at_call 69; refine (Ck.call (w0 := w0) (R := w.heap.size) (by repeat (first | with_reducible exact k | with_reducible apply Ck.drew | ((with_reducible apply Ck.mk'); (case hR => (simp; done)); (case h => (repeat (first | with_reducible exact h | with_reducible apply Tn.drew | with_reducible apply Tn.alloc | ((with_reducible apply Tn.setStep); (case hv => (first | omega | exact wr64_r _))) | ((with_reducible apply Tn.other); (case hne => omega); (case hb => omega)))))) | with_reducible apply Ck.alloc | ((with_reducible apply Ck.setStep); (case hv => (first | omega | exact wr64_r _))))) (fun h => absoluteY_any h)).mono ?_; rintro e w1 ⟨rfl, k, -, -, -⟩; obtain ⟨⟨r0, r1, r2, r3⟩, r4, z0, n1, n2, m1, m2, fz, b1, nr, mr⟩ := k.facts; (try simp only [BusI.val])))
  all_goals (refine bodyPost_ret (v := BusI.val (({ s with step := wrap64 (s.step + 1) } : PC).doMode 9).2) (by simp [results, Tryz.results32, go_sem, BusI.val, *] <;> (repeat' (first | rfl | constructor))) rfl (And.intro rfl ?_))
  all_goals (apply Tn.eq; (case h => repeat (first | with_reducible exact k.t | with_reducible exact h | with_reducible apply Tn.drew | with_reducible apply Tn.alloc | ((with_reducible apply Tn.setStep); (case hv => (first | omega | exact wr64_r _))) | ((with_reducible apply Tn.other); (case hne => omega); (case hb => omega)))); (case e => rfl))

set_option maxRecDepth 100000 in
set_option maxHeartbeats 1000000 in
theorem turn_m10 {B : Nat} {s : PC} {w0 w : World} (h : Tn B s w0 w) (irq : Bool) (hs : s.st = 1) (hm : s.md = 10) :
    Calls Tryz.prog 32 #[.pointer (some ⟨B, 0, none⟩), .bool irq] w fun e w' => e = .returned (s.turn irq).2.val ∧ Tn B (s.turn irq).1 w0 w' := by
  have hu : Hid (s.turn irq = ({ s with step := wrap64 (s.step + 1) } : PC).doMode 10) := by show _ = _; unfold PC.turn; rw [if_neg (by rw [hs]; decide), if_neg (by rw [hs]; decide), if_neg (by rw [hs]; decide), if_neg (by rw [hs]; decide), wrap64_eq]; simp only [hm]; rfl
  rw [hu.out]
  have c_st := h.c.cst; obtain ⟨l_st, u_st⟩ := h.c.rst; have c_md := h.c.cmd; obtain ⟨l_md, u_md⟩ := h.c.rmd; have c_step := h.c.cstep; obtain ⟨l_step, u_step⟩ := h.c.rstep
  rw [hs] at c_st
  rw [hm] at c_md
  clear hs hm
  have hlt := h.c.lt
  have hsz := h.g.size
  have n0 : w.heap.size ≠ B := by omega
  have m0 : B ≠ w.heap.size := by omega
  have fz0 := h.c.free
  go_enter Tryz.func32, Tryz.ntmps32
  go_wp2_with (first | (go_at_call 44; refine (mmeth_at 10 (by decide) (.func (.func 70) #[] #[]) rfl _).mono ?_; rintro e w1 ⟨rfl, hb⟩; have k := Ck.below (w0 := w0) (B := B) (R := w.heap.size) (by repeat (first | with_reducible exact k | with_reducible apply Ck.drew | ((with_reducible apply Ck.mk'); (case hR => (simp; done)); (case h => (repeat (first | with_reducible exact h | with_reducible apply Tn.drew | with_reducible apply Tn.alloc | ((with_reducible apply Tn.setStep); (case hv => (first | omega | exact wr64_r _))) | ((with_reducible apply Tn.other); (case hne => omega); (case hb => omega)))))) | with_reducible apply Ck.alloc | ((with_reducible apply Ck.setStep); (case hv => (first | omega | exact wr64_r _))))) hb; obtain ⟨⟨r0, r1, r2, r3⟩, r4, z0, n1, n2, m1, m2, fz, b1, nr, mr⟩ := k.facts) | (go_at_call 70; refine (Ck.call (w0 := w0) (R := w.heap.size) (by repeat (first | with_reducible exact k | with_reducible apply Ck.drew | ((with_reducible apply Ck.mk'); (case hR => (simp; done)); (case h => (repeat (first | with_reducible exact h | with_reducible apply Tn.drew | with_reducible apply Tn.alloc | ((with_reducible apply Tn.setStep); (case hv => (first | omega | exact wr64_r _))) | ((with_reducible apply Tn.other); (case hne => omega); (case hb => omega)))))) | with_reducible apply Ck.alloc | ((with_reducible apply Ck.setStep); (case hv => (first | omega | exact wr64_r _))))) (fun h => indirectX_any h)).mono ?_; rintro e w1 ⟨rfl, k, -, -, -⟩; obtain ⟨⟨r0, r1, r2, r3⟩, r4, z0, n1, n2, m1, m2, fz, b1, nr, mr⟩ := k.facts; (try simp only [BusI.val])))
  all_goals (refine bodyPost_ret (v := BusI.val (({ s with step := wrap64 (s.step + 1) } : PC).doMode 10).2) (by simp [results, Tryz.results32, go_sem, BusI.val, *] <;> (repeat' (first | rfl | constructor))) rfl (And.intro rfl ?_))
  all_goals (apply Tn.eq; (case h => repeat (first | with_reducible exact k.t | with_reducible exact h | with_reducible apply Tn.drew | with_reducible apply Tn.alloc | ((with_reducible apply Tn.setStep); (case hv => (first | omega | exact wr64_r _))) | ((with_reducible apply Tn.other); (case hne => omega); (case hb => omega)))); (case e => rfl))

set_option maxRecDepth 100000 in
set_option maxHeartbeats 1000000 in
theorem turn_m11 {B : Nat} {s : PC} {w0 w : World} (h : Tn B s w0 w) (irq : Bool) (hs : s.st = 1) (hm : s.md = 11) :
    Calls Tryz.prog 32 #[.pointer (some ⟨B, 0, none⟩), .bool irq] w fun e w' => e = .returned (s.turn irq).2.val ∧ Tn B (s.turn irq).1 w0 w' := by
  have hu : Hid (s.turn irq = ({ s with step := wrap64 (s.step + 1) } : PC).doMode 11) := by show _ = _; unfold PC.turn; rw [if_neg (by rw [hs]; decide), if_neg (by rw [hs]; decide), if_neg (by rw [hs]; decide), if_neg (by rw [hs]; decide), wrap64_eq]; simp only [hm]; rfl
  rw [hu.out]
  have c_st := h.c.cst; obtain ⟨l_st, u_st⟩ := h.c.rst; have c_md := h.c.cmd; obtain ⟨l_md, u_md⟩ := h.c.rmd; have c_step := h.c.cstep; obtain ⟨l_step, u_step⟩ := h.c.rstep
  rw [hs] at c_st
  rw [hm] at c_md
  clear hs hm
  have hlt := h.c.lt
  have hsz := h.g.size
  have n0 : w.heap.size ≠ B := by omega
  have m0 : B ≠ w.heap.size := by omega
  have fz0 := h.c.free
  go_enter Tryz.func32, Tryz.ntmps32
  go_wp2_with (first | (go_at_call 44; refine (mmeth_at 11 (by decide) (.func (.func 71) #[] #[]) rfl _).mono ?_; rintro e w1 ⟨rfl, hb⟩; have k := Ck.below (w0 := w0) (B := B) (R := w.heap.size) (by repeat (first | with_reducible exact k | with_reducible apply Ck.drew | ((with_reducible apply Ck.mk'); (case hR => (simp; done)); (case h => (repeat (first | with_reducible exact h | with_reducible apply Tn.drew | with_reducible apply Tn.alloc | ((with_reducible apply Tn.setStep); (case hv => (first | omega | exact wr64_r _))) | ((with_reducible apply Tn.other); (case hne => omega); (case hb => omega)))))) | with_reducible apply Ck.alloc | ((with_reducible apply Ck.setStep); (case hv => (first | omega | exact wr64_r _))))) hb; obtain ⟨⟨r0, r1, r2, r3⟩, r4, z0, n1, n2, m1, m2, fz, b1, nr, mr⟩ := k.facts) | (go_at_call 71; refine (Ck.call (w0 := w0) (R := w.heap.size) (by repeat (first | with_reducible exact k | with_reducible apply Ck.drew | ((with_reducible apply Ck.mk'); (case hR => (simp; done)); (case h => (repeat (first | with_reducible exact h | with_reducible apply Tn.drew | with_reducible apply Tn.alloc | ((with_reducible apply Tn.setStep); (case hv => (first | omega | exact wr64_r _))) | ((with_reducible apply Tn.other); (case hne => omega); (case hb => omega)))))) | with_reducible apply Ck.alloc | ((with_reducible apply Ck.setStep); (case hv => (first | omega | exact wr64_r _))))) (fun h => indirectY_any h)).mono ?_; rintro e w1 ⟨rfl, k, -, -, -⟩; obtain ⟨⟨r0, r1, r2, r3⟩, r4, z0, n1, n2, m1, m2, fz, b1, nr, mr⟩ := k.facts; (try simp only [BusI.val])))
  all_goals (refine bodyPost_ret (v := BusI.val (({ s with step := wrap64 (s.step + 1) } : PC).doMode 11).2) (by simp [results, Tryz.results32, go_sem, BusI.val, *] <;> (repeat' (first | rfl | constructor))) rfl (And.intro rfl ?_))
  all_goals (apply Tn.eq; (case h => repeat (first | with_reducible exact k.t | with_reducible exact h | with_reducible apply Tn.drew | with_reducible apply Tn.alloc | ((with_reducible apply Tn.setStep); (case hv => (first | omega | exact wr64_r _))) | ((with_reducible apply Tn.other); (case hne => omega); (case hb => omega)))); (case e => rfl))

end Go.Proofs.YtcgjliflnnklnabGreat
