/-
  A turn, mode by mode, further.
-/
import Derived.Test.YtcgjliflnnklnabGreatCpZ
namespace Go.Proofs.YtcgjliflnnklnabGreat
open Go.RowKit


set_option maxRecDepth 100000 in
set_option maxHeartbeats 1000000 in
theorem turn_m13 {B : Nat} {s : PC} {w0 w : World} (h : Tn B s w0 w) (irq : Bool) (hs : s.st = 1) (hm : s.md = 13) :
    Calls Tryz.prog 32 #[.pointer (some ⟨B, 0, none⟩), .bool irq] w fun e w' => e = .returned (s.turn irq).2.val ∧ Tn B (s.turn irq).1 w0 w' := by
  have hu : Hid (s.turn irq = ({ s with step := wrap64 (s.step + 1) } : PC).doMode 13) := by show _ = _; unfold PC.turn; rw [if_neg (by rw [hs]; decide), if_neg (by rw [hs]; decide), if_neg (by rw [hs]; decide), if_neg (by rw [hs]; decide), wrap64_eq]; simp only [hm]; rfl
  rw [hu.out]
  have c_st := h.c.cst; obtain ⟨l_st, u_st⟩ := h.c.rst; have c_md := h.c.cmd; obtain ⟨l_md, u_md⟩ := h.c.rmd; have c_step := h.c.cstep; obtain ⟨l_step, u_step⟩ := h.c.rstep
  rw [hs] at c_st
  rw [hm] at c_md
  clear hs hm
  have hlt := h.c.lt
  have hsz := h.g.size
  have n0 : w.heap.size ≠ B := by omega
  have m0 : B ≠ w.heap.size := by omega
  have fz0 := h.c.free
  go_enter Tryz.func32, Tryz.ntmps32
  go_wp2_with (first | (go_at_call 44; refine (mmeth_at 13 (by decide) (.func (.func 73) #[] #[]) rfl _).mono ?_; rintro e w1 ⟨rfl, hb⟩; have k := Ck.below (w0 := w0) (B := B) (R := w.heap.size) (by repeat (first | with_reducible exact k | with_reducible apply Ck.drew | ((with_reducible apply Ck.mk'); (case hR => (simp; done)); (case h => (repeat (first | with_reducible exact h | with_reducible apply Tn.drew | with_reducible apply Tn.alloc | ((with_reducible apply Tn.setStep); (case hv => (first | omega | exact wr64_r _))) | ((with_reducible apply Tn.other); (case hne => omega); (case hb => omega)))))) | with_reducible apply Ck.alloc | ((with_reducible apply Ck.setStep); (case hv => (first | omega | exact wr64_r _))))) hb; obtain ⟨⟨r0, r1, r2, r3⟩, r4, z0, n1, n2, m1, m2, fz, b1, nr, mr⟩ := k.facts) | (go_at_call 73; refine (Ck.call (w0 := w0) (R := w.heap.size) (by repeat (first | with_reducible exact k | with_reducible apply Ck.drew | ((with_reducible apply Ck.mk'); (case hR => (simp; done)); (case h => (repeat (first | with_reducible exact h | with_reducible apply Tn.drew | with_reducible apply Tn.alloc | ((with_reducible apply Tn.setStep); (case hv => (first | omega | exact wr64_r _))) | ((with_reducible apply Tn.other); (case hne => omega); (case hb => omega)))))) | with_reducible apply Ck.alloc | ((with_reducible apply Ck.setStep); (case hv => (first | omega | exact wr64_r _))))) (fun h => jumpAbsolute_any h)).mono ?_; rintro e w1 ⟨rfl, k, -, -, -⟩; obtain ⟨⟨r0, r1, r2, r3⟩, r4, z0, n1, n2, m1, m2, fz, b1, nr, mr⟩ := k.facts; (try simp only [BusI.val])))
  all_goals (refine bodyPost_ret (v := BusI.val (({ s with step := wrap64 (s.step + 1) } : PC).doMode 13).2) (by simp [results, Tryz.results32, go_sem, BusI.val, *] <;> (repeat' (first | rfl | constructor))) rfl (And.intro rfl ?_))
  all_goals (apply Tn.eq; (case h => repeat (first | with_reducible exact k.t | with_reducible exact h | with_reducible apply Tn.drew | with_reducible apply Tn.alloc | ((with_reducible apply Tn.setStep); (case hv => (first | omega | exact wr64_r _))) | ((with_reducible apply Tn.other); (case hne => omega); (case hb => omega)))); (case e => rfl))

set_option maxRecDepth 100000 in
set_option maxHeartbeats 1000000 in
theorem turn_m14 {B : Nat} {s : PC} {w0 w : World} (h : Tn B s w0 w) (irq : Bool) (hs : s.st = 1) (hm : s.md = 14) :
    Calls Tryz.prog 32 #[.pointer (some ⟨B, 0, none⟩), .bool irq] w fun e w' => e = .returned (s.turn irq).2.val ∧ Tn B (s.turn irq).1 w0 w' := by
  have hu : Hid (s.turn irq = ({ s with step := wrap64 (s.step + 1) } : PC).doMode 14) := by show _ = _; unfold PC.turn; rw [if_neg (by rw [hs]; decide), if_neg (by rw [hs]; decide), if_neg (by rw [hs]; decide), if_neg (by rw [hs]; decide), wrap64_eq]; simp only [hm]; rfl
  rw [hu.out]
  have c_st := h.c.cst; obtain ⟨l_st, u_st⟩ := h.c.rst; have c_md := h.c.cmd; obtain ⟨l_md, u_md⟩ := h.c.rmd; have c_step := h.c.cstep; obtain ⟨l_step, u_step⟩ := h.c.rstep
  rw [hs] at c_st
  rw [hm] at c_md
  clear hs hm
  have hlt := h.c.lt
  have hsz := h.g.size
  have n0 : w.heap.size ≠ B := by omega
  have m0 : B ≠ w.heap.size := by omega
  have fz0 := h.c.free
  go_enter Tryz.func32, Tryz.ntmps32
  go_wp2_with (first | (go_at_call 44; refine (mmeth_at 14 (by decide) (.func (.func 74) #[] #[]) rfl _).mono ?_; rintro e w1 ⟨rfl, hb⟩; have k := Ck.below (w0 := w0) (B := B) (R := w.heap.size) (by repeat (first | with_reducible exact k | with_reducible apply Ck.drew | ((with_reducible apply Ck.mk'); (case hR => (simp; done)); (case h => (repeat (first | with_reducible exact h | with_reducible apply Tn.drew | with_reducible apply Tn.alloc | ((with_reducible apply Tn.setStep); (case hv => (first | omega | exact wr64_r _))) | ((with_reducible apply Tn.other); (case hne => omega); (case hb => omega)))))) | with_reducible apply Ck.alloc | ((with_reducible apply Ck.setStep); (case hv => (first | omega | exact wr64_r _))))) hb; obtain ⟨⟨r0, r1, r2, r3⟩, r4, z0, n1, n2, m1, m2, fz, b1, nr, mr⟩ := k.facts) | (go_at_call 74; refine (Ck.call (w0 := w0) (R := w.heap.size) (by repeat (first | with_reducible exact k | with_reducible apply Ck.drew | ((with_reducible apply Ck.mk'); (case hR => (simp; done)); (case h => (repeat (first | with_reducible exact h | with_reducible apply Tn.drew | with_reducible apply Tn.alloc | ((with_reducible apply Tn.setStep); (case hv => (first | omega | exact wr64_r _))) | ((with_reducible apply Tn.other); (case hne => omega); (case hb => omega)))))) | with_reducible apply Ck.alloc | ((with_reducible apply Ck.setStep); (case hv => (first | omega | exact wr64_r _))))) (fun h => jumpIndirect_any h)).mono ?_; rintro e w1 ⟨rfl, k, -, -, -⟩; obtain ⟨⟨r0, r1, r2, r3⟩, r4, z0, n1, n2, m1, m2, fz, b1, nr, mr⟩ := k.facts; (try simp only [BusI.val])))
  all_goals (refine bodyPost_ret (v := BusI.val (({ s with step := wrap64 (s.step + 1) } : PC).doMode 14).2) (by simp [results, Tryz.results32, go_sem, BusI.val, *] <;> (repeat' (first | rfl | constructor))) rfl (And.intro rfl ?_))
  all_goals (apply Tn.eq; (case h => repeat (first | with_reducible exact k.t | with_reducible exact h | with_reducible apply Tn.drew | with_reducible apply Tn.alloc | ((with_reducible apply Tn.setStep); (case hv => (first | omega | exact wr64_r _))) | ((with_reducible apply Tn.other); (case hne => omega); (case hb => omega)))); (case e => rfl))

set_option maxRecDepth 100000 in
set_option maxHeartbeats 1000000 in
theorem turn_m15 {B : Nat} {s : PC} {w0 w : World} (h : Tn B s w0 w) (irq : Bool) (hs : s.st = 1) (hm : s.md = 15) :
    Calls Tryz.prog 32 #[.pointer (some ⟨B, 0, none⟩), .bool irq] w fun e w' => e = .returned (s.turn irq).2.val ∧ Tn B (s.turn irq).1 w0 w' := by
  have hu : Hid (s.turn irq = ({ s with step := wrap64 (s.step + 1) } : PC).doMode 15) := by show _ = _; unfold PC.turn; rw [if_neg (by rw [hs]; decide), if_neg (by rw [hs]; decide), if_neg (by rw [hs]; decide), if_neg (by rw [hs]; decide), wrap64_eq]; simp only [hm]; rfl
  rw [hu.out]
  have c_st := h.c.cst; obtain ⟨l_st, u_st⟩ := h.c.rst; have c_md := h.c.cmd; obtain ⟨l_md, u_md⟩ := h.c.rmd; have c_step := h.c.cstep; obtain ⟨l_step, u_step⟩ := h.c.rstep
  rw [hs] at c_st
  rw [hm] at c_md
  clear hs hm
  have hlt := h.c.lt
  have hsz := h.g.size
  have n0 : w.heap.size ≠ B := by omega
  have m0 : B ≠ w.heap.size := by omega
  have fz0 := h.c.free
  go_enter Tryz.func32, Tryz.ntmps32
  go_wp2_with (first | (go_at_call 44; refine (mmeth_at 15 (by decide) (.func (.func 75) #[] #[]) rfl _).mono ?_; rintro e w1 ⟨rfl, hb⟩; have k := Ck.below (w0 := w0) (B := B) (R := w.heap.size) (by repeat (first | with_reducible exact k | with_reducible apply Ck.drew | ((with_reducible apply Ck.mk'); (case hR => (simp; done)); (case h => (repeat (first | with_reducible exact h | with_reducible apply Tn.drew | with_reducible apply Tn.alloc | ((with_reducible apply Tn.setStep); (case hv => (first | omega | exact wr64_r _))) | ((with_reducible apply Tn.other); (case hne => omega); (case hb => omega)))))) | with_reducible apply Ck.alloc | ((with_reducible apply Ck.setStep); (case hv => (first | omega | exact wr64_r _))))) hb; obtain ⟨⟨r0, r1, r2, r3⟩, r4, z0, n1, n2, m1, m2, fz, b1, nr, mr⟩ := k.facts) | (go_at_call 75; refine (Ck.call (w0 := w0) (R := w.heap.size) (by repeat (first | with_reducible exact k | with_reducible apply Ck.drew | ((with_reducible apply Ck.mk'); (case hR => (simp; done)); (case h => (repeat (first | with_reducible exact h | with_reducible apply Tn.drew | with_reducible apply Tn.alloc | ((with_reducible apply Tn.setStep); (case hv => (first | omega | exact wr64_r _))) | ((with_reducible apply Tn.other); (case hne => omega); (case hb => omega)))))) | with_reducible apply Ck.alloc | ((with_reducible apply Ck.setStep); (case hv => (first | omega | exact wr64_r _))))) (fun h => callSubroutine_any h)).mono ?_; rintro e w1 ⟨rfl, k, -, -, -⟩; obtain ⟨⟨r0, r1, r2, r3⟩, r4, z0, n1, n2, m1, m2, fz, b1, nr, mr⟩ := k.facts; (try simp only [BusI.val])))
  all_goals (refine bodyPost_ret (v := BusI.val (({ s with step := wrap64 (s.step + 1) } : PC).doMode 15).2) (by simp [results, Tryz.results32, go_sem, BusI.val, *] <;> (repeat' (first | rfl | constructor))) rfl (And.intro rfl ?_))
  all_goals (apply Tn.eq; (case h => repeat (first | with_reducible exact k.t | with_reducible exact h | with_reducible apply Tn.drew | with_reducible apply Tn.alloc | ((with_reducible apply Tn.setStep); (case hv => (first | omega | exact wr64_r _))) | ((with_reducible apply Tn.other); (case hne => omega); (case hb => omega)))); (case e => rfl))

set_option maxRecDepth 100000 in
set_option maxHeartbeats 1000000 in
theorem turn_m16 {B : Nat} {s : PC} {w0 w : World} (h : Tn B s w0 w) (irq : Bool) (hs : s.st = 1) (hm : s.md = 16) :
    Calls Tryz.prog 32 #[.pointer (some ⟨B, 0, none⟩), .bool irq] w fun e w' => e = .returned (s.turn irq).2.val ∧ Tn B (s.turn irq).1 w0 w' := by
  have hu : Hid (s.turn irq = ({ s with step := wrap64 (s.step + 1) } : PC).doMode 16) := by show _ = _; unfold PC.turn; rw [if_neg (by rw [hs]; decide), if_neg (by rw [hs]; decide), if_neg (by rw [hs]; decide), if_neg (by rw [hs]; decide), wrap64_eq]; simp only [hm]; rfl
  rw [hu.out]
  have c_st := h.c.cst; obtain ⟨l_st, u_st⟩ := h.c.rst; have c_md := h.c.cmd; obtain ⟨l_md, u_md⟩ := h.c.rmd; have c_step := h.c.cstep; obtain ⟨l_step, u_step⟩ := h.c.rstep
  rw [hs] at c_st
  rw [hm] at c_md
  clear hs hm
  have hlt := h.c.lt
  have hsz := h.g.size
  have n0 : w.heap.size ≠ B := by omega
  have m0 : B ≠ w.heap.size := by omega
  have fz0 := h.c.free
  go_enter Tryz.func32, Tryz.ntmps32
  go_wp2_with (first | (go_at_call 44; refine (mmeth_at 16 (by decide) (.func (.func 76) #[] #[]) rfl _).mono ?_; rintro e w1 ⟨rfl, hb⟩; have k := Ck.below (w0 := w0) (B := B) (R := w.heap.size) (by repeat (first | with_reducible exact k | with_reducible apply Ck.drew | ((with_reducible apply Ck.mk'); (case hR => (simp; done)); (case h => (repeat (first | with_reducible exact h | with_reducible apply Tn.drew | with_reducible apply Tn.alloc | ((with_reducible apply Tn.setStep); (case hv => (first | omega | exact wr64_r _))) | ((with_reducible apply Tn.other); (case hne => omega); (case hb => omega)))))) | with_reducible apply Ck.alloc | ((with_reducible apply Ck.setStep); (case hv => (first | omega | exact wr64_r _))))) hb; obtain ⟨⟨r0, r1, r2, r3⟩, r4, z0, n1, n2, m1, m2, fz, b1, nr, mr⟩ := k.facts) | (go_at_call 76; refine (Ck.call (w0 := w0) (R := w.heap.size) (by repeat (first | with_reducible exact k | with_reducible apply Ck.drew | ((with_reducible apply Ck.mk'); (case hR => (simp; done)); (case h => (repeat (first | with_reducible exact h | with_reducible apply Tn.drew | with_reducible apply Tn.alloc | ((with_reducible apply Tn.setStep); (case hv => (first | omega | exact wr64_r _))) | ((with_reducible apply Tn.other); (case hne => omega); (case hb => omega)))))) | with_reducible apply Ck.alloc | ((with_reducible apply Ck.setStep); (case hv => (first | omega | exact wr64_r _))))) (fun h => leaveSubroutine_any h)).mono ?_; rintro e w1 ⟨rfl, k, -, -, -⟩; obtain ⟨⟨r0, r1, r2, r3⟩, r4, z0, n1, n2, m1, m2, fz, b1, nr, mr⟩ := k.facts; (try simp only [BusI.val])))
  all_goals (refine bodyPost_ret (v := BusI.val (({ s with step := wrap64 (s.step + 1) } : PC).doMode 16).2) (by simp [results, Tryz.results32, go_sem, BusI.val, *] <;> (repeat' (first | rfl | constructor))) rfl (And.intro rfl ?_))
  all_goals (apply Tn.eq; (case h => repeat (first | with_reducible exact k.t | with_reducible exact h | with_reducible apply Tn.drew | with_reducible apply Tn.alloc | ((with_reducible apply Tn.setStep); (case hv => (first | omega | exact wr64_r _))) | ((with_reducible apply Tn.other); (case hne => omega); (case hb => omega)))); (case e => rfl))

set_option maxRecDepth 100000 in
set_option maxHeartbeats 1000000 in
theorem turn_m17 {B : Nat} {s : PC} {w0 w : World} (h : Tn B s w0 w) (irq : Bool) (hs : s.st = 1) (hm : s.md = 17) :
    Calls Tryz.prog 32 #[.pointer (some ⟨B, 0, none⟩), .bool irq] w fun e w' => e = .returned (s.turn irq).2.val ∧ Tn B (s.turn irq).1 w0 w' := by
  have hu : Hid (s.turn irq = ({ s with step := wrap64 (s.step + 1) } : PC).doMode 17) := by show _ = _; unfold PC.turn; rw [if_neg (by rw [hs]; decide), if_neg (by rw [hs]; decide), if_neg (by rw [hs]; decide), if_neg (by rw [hs]; decide), wrap64_eq]; simp only [hm]; rfl
  rw [hu.out]
  have c_st := h.c.cst; obtain ⟨l_st, u_st⟩ := h.c.rst; have c_md := h.c.cmd; obtain ⟨l_md, u_md⟩ := h.c.rmd; have c_step := h.c.cstep; obtain ⟨l_step, u_step⟩ := h.c.rstep
  rw [hs] at c_st
  rw [hm] at c_md
  clear hs hm
  have hlt := h.c.lt
  have hsz := h.g.size
  have n0 : w.heap.size ≠ B := by omega
  have m0 : B ≠ w.heap.size := by omega
  have fz0 := h.c.free
  go_enter Tryz.func32, Tryz.ntmps32
  go_wp2_with (first | (go_at_call 44; refine (mmeth_at 17 (by decide) (.func (.func 77) #[] #[]) rfl _).mono ?_; rintro e w1 ⟨rfl, hb⟩; have k := Ck.below (w0 := w0) (B := B) (R := w.heap.size) (by repeat (first | with_reducible exact k | with_reducible apply Ck.drew | ((with_reducible apply Ck.mk'); (case hR => (simp; done)); (case h => (repeat (first | with_reducible exact h | with_reducible apply Tn.drew | with_reducible apply Tn.alloc | ((with_reducible apply Tn.setStep); (case hv => (first | omega | exact wr64_r _))) | ((with_reducible apply Tn.other); (case hne => omega); (case hb => omega)))))) | with_reducible apply Ck.alloc | ((with_reducible apply Ck.setStep); (case hv => (first | omega | exact wr64_r _))))) hb; obtain ⟨⟨r0, r1, r2, r3⟩, r4, z0, n1, n2, m1, m2, fz, b1, nr, mr⟩ := k.facts) | (go_at_call 77; refine (Ck.call (w0 := w0) (R := w.heap.size) (by repeat (first | with_reducible exact k | with_reducible apply Ck.drew | ((with_reducible apply Ck.mk'); (case hR => (simp; done)); (case h => (repeat (first | with_reducible exact h | with_reducible apply Tn.drew | with_reducible apply Tn.alloc | ((with_reducible apply Tn.setStep); (case hv => (first | omega | exact wr64_r _))) | ((with_reducible apply Tn.other); (case hne => omega); (case hb => omega)))))) | with_reducible apply Ck.alloc | ((with_reducible apply Ck.setStep); (case hv => (first | omega | exact wr64_r _))))) (fun h => pushByte_any h)).mono ?_; rintro e w1 ⟨rfl, k, -, -, -⟩; obtain ⟨⟨r0, r1, r2, r3⟩, r4, z0, n1, n2, m1, m2, fz, b1, nr, mr⟩ := k.facts; (try simp only [BusI.val])))
  all_goals (refine bodyPost_ret (v := BusI.val (({ s with step := wrap64 (s.step + 1) } : PC).doMode 17).2) (by simp [results, Tryz.results32, go_sem, BusI.val, *] <;> (repeat' (first | rfl | constructor))) rfl (And.intro rfl ?_))
  all_goals (apply Tn.eq; (case h => repeat (first | with_reducible exact k.t | with_reducible exact h | with_reducible apply Tn.drew | with_reducible apply Tn.alloc | ((with_reducible apply Tn.setStep); (case hv => (first | omega | exact wr64_r _))) | ((with_reducible apply Tn.other); (case hne => omega); (case hb => omega)))); (case e => rfl))

set_option maxRecDepth 100000 in
set_option maxHeartbeats 1000000 in
theorem turn_m18 {B : Nat} {s : PC} {w0 w : World} (h : Tn B s w0 w) (irq : Bool) (hs : s.st = 1) (hm : s.md = 18) :
    Calls Tryz.prog 32 #[.pointer (some ⟨B, 0, none⟩), .bool irq] w fun e w' => e = .returned (s.turn irq).2.val ∧ Tn B (s.turn irq).1 w0 w' := by
  have hu : Hid (s.turn irq = ({ s with step := wrap64 (s.step + 1) } : PC).doMode 18) := by show _ = _; unfold PC.turn; rw [if_neg (by rw [hs]; decide), if_neg (by rw [hs]; decide), if_neg (by rw [hs]; decide), if_neg (by rw [hs]; decide), wrap64_eq]; simp only [hm]; rfl
  rw [hu.out]
  have c_st := h.c.cst; obtain ⟨l_st, u_st⟩ := h.c.rst; have c_md := h.c.cmd; obtain ⟨l_md, u_md⟩ := h.c.rmd; have c_step := h.c.cstep; obtain ⟨l_step, u_step⟩ := h.c.rstep
  rw [hs] at c_st
  rw [hm] at c_md
  clear hs hm
  have hlt := h.c.lt
  have hsz := h.g.size
  have n0 : w.heap.size ≠ B := by omega
  have m0 : B ≠ w.heap.size := by omega
  have fz0 := h.c.free
  go_enter Tryz.func32, Tryz.ntmps32
  go_wp2_with (first | (go_at_call 44; refine (mmeth_at 18 (by decide) (.func (.func 78) #[] #[]) rfl _).mono ?_; rintro e w1 ⟨rfl, hb⟩; have k := Ck.below (w0 := w0) (B := B) (R := w.heap.size) (by repeat (first | with_reducible exact k | with_reducible apply Ck.drew | ((with_reducible apply Ck.mk'); (case hR => (simp; done)); (case h => (repeat (first | with_reducible exact h | with_reducible apply Tn.drew | with_reducible apply Tn.alloc | ((with_reducible apply Tn.setStep); (case hv => (first | omega | exact wr64_r _))) | ((with_reducible apply Tn.other); (case hne => omega); (case hb => omega)))))) | with_reducible apply Ck.alloc | ((with_reducible apply Ck.setStep); (case hv => (first | omega | exact wr64_r _))))) hb; obtain ⟨⟨r0, r1, r2, r3⟩, r4, z0, n1, n2, m1, m2, fz, b1, nr, mr⟩ := k.facts) | (go_at_call 78; refine (Ck.call (w0 := w0) (R := w.heap.size) (by repeat (first | with_reducible exact k | with_reducible apply Ck.drew | ((with_reducible apply Ck.mk'); (case hR => (simp; done)); (case h => (repeat (first | with_reducible exact h | with_reducible apply Tn.drew | with_reducible apply Tn.alloc | ((with_reducible apply Tn.setStep); (case hv => (first | omega | exact wr64_r _))) | ((with_reducible apply Tn.other); (case hne => omega); (case hb => omega)))))) | with_reducible apply Ck.alloc | ((with_reducible apply Ck.setStep); (case hv => (first | omega | exact wr64_r _))))) (fun h => pullByte_any h)).mono ?_; rintro e w1 ⟨rfl, k, -, -, -⟩; obtain ⟨⟨r0, r1, r2, r3⟩, r4, z0, n1, n2, m1, m2, fz, b1, nr, mr⟩ := k.facts; (try simp only [BusI.val])))
  all_goals (refine bodyPost_ret (v := BusI.val (({ s with step := wrap64 (s.step + 1) } : PC).doMode 18).2) (by simp [results, Tryz.results32, go_sem, BusI.val, *] <;> (repeat' (first | rfl | constructor))) rfl (And.intro rfl ?_))
  all_goals (apply Tn.eq; (case h => repeat (first | with_reducible exact k.t | with_reducible exact h | with_reducible apply Tn.drew | with_reducible apply Tn.alloc | ((with_reducible apply Tn.setStep); (case hv => (first | omega | exact wr64_r _))) | ((with_reducible apply Tn.other); (case hne => omega); (case hb => omega)))); (case e => rfl))

set_option maxRecDepth 100000 in
set_option maxHeartbeats 1000000 in
theorem turn_m19 {B : Nat} {s : PC} {w0 w : World} (h : Tn B s w0 w) (irq : Bool) (hs : s.st = 1) (hm : s.md = 19) :
    Calls Tryz.prog 32 #[.pointer (some ⟨B, 0, none⟩), .bool irq] w fun e w' => e = .returned (s.turn irq).2.val ∧ Tn B (s.turn irq).1 w0 w' := by
  have hu : Hid (s.turn irq = ({ s with step := wrap64 (s.step + 1) } : PC).doMode 19) := by show _ = _; unfold PC.turn; rw [if_neg (by rw [hs]; decide), if_neg (by rw [hs]; decide), if_neg (by rw [hs]; decide), if_neg (by rw [hs]; decide), wrap64_eq]; simp only [hm]; rfl
  rw [hu.out]
  have c_st := h.c.cst; obtain ⟨l_st, u_st⟩ := h.c.rst; have c_md := h.c.cmd; obtain ⟨l_md, u_md⟩ := h.c.rmd; have c_step := h.c.cstep; obtain ⟨l_step, u_step⟩ := h.c.rstep
  rw [hs] at c_st
  rw [hm] at c_md
  clear hs hm
  have hlt := h.c.lt
  have hsz := h.g.size
  have n0 : w.heap.size ≠ B := by omega
  have m0 : B ≠ w.heap.size := by omega
  have fz0 := h.c.free
  go_enter Tryz.func32, Tryz.ntmps32
  go_wp2_with (first | (go_at_call 44; refine (mmeth_at 19 (by decide) (.func (.func 79) #[] #[]) rfl _).mono ?_; rintro e w1 ⟨rfl, hb⟩; have k := Ck.below (w0 := w0) (B := B) (R := w.heap.size) (by repeat (first | with_reducible exact k | with_reducible apply Ck.drew | ((with_reducible apply Ck.mk'); (case hR => (simp; done)); (case h => (repeat (first | with_reducible exact h | with_reducible apply Tn.drew | with_reducible apply Tn.alloc | ((with_reducible apply Tn.setStep); (case hv => (first | omega | exact wr64_r _))) | ((with_reducible apply Tn.other); (case hne => omega); (case hb => omega)))))) | with_reducible apply Ck.alloc | ((with_reducible apply Ck.setStep); (case hv => (first | omega | exact wr64_r _))))) hb; obtain ⟨⟨r0, r1, r2, r3⟩, r4, z0, n1, n2, m1, m2, fz, b1, nr, mr⟩ := k.facts) | (go_at_call 79; refine (Ck.call (w0 := w0) (R := w.heap.size) (by repeat (first | with_reducible exact k | with_reducible apply Ck.drew | ((with_reducible apply Ck.mk'); (case hR => (simp; done)); (case h => (repeat (first | with_reducible exact h | with_reducible apply Tn.drew | with_reducible apply Tn.alloc | ((with_reducible apply Tn.setStep); (case hv => (first | omega | exact wr64_r _))) | ((with_reducible apply Tn.other); (case hne => omega); (case hb => omega)))))) | with_reducible apply Ck.alloc | ((with_reducible apply Ck.setStep); (case hv => (first | omega | exact wr64_r _))))) (fun h => enterByBreak_any h)).mono ?_; rintro e w1 ⟨rfl, k, -, -, -⟩; obtain ⟨⟨r0, r1, r2, r3⟩, r4, z0, n1, n2, m1, m2, fz, b1, nr, mr⟩ := k.facts; (try simp only [BusI.val])))
  all_goals (refine bodyPost_ret (v := BusI.val (({ s with step := wrap64 (s.step + 1) } : PC).doMode 19).2) (by simp [results, Tryz.results32, go_sem, BusI.val, *] <;> (repeat' (first | rfl | constructor))) rfl (And.intro rfl ?_))
  all_goals (apply Tn.eq; (case h => repeat (first | with_reducible exact k.t | with_reducible exact h | with_reducible apply Tn.drew | with_reducible apply Tn.alloc | ((with_reducible apply Tn.setStep); (case hv => (first | omega | exact wr64_r _))) | ((with_reducible apply Tn.other); (case hne => omega); (case hb => omega)))); (case e => rfl))

set_option maxRecDepth 100000 in
set_option maxHeartbeats 1000000 in
theorem turn_m20 {B : Nat} {s : PC} {w0 w : World} (h : Tn B s w0 w) (irq : Bool) (hs : s.st = 1) (hm : s.md = 20) :
    Calls Tryz.prog 32 #[.pointer (some ⟨B, 0, none⟩), .bool irq] w fun e w' => e = .returned (s.turn irq).2.val ∧ Tn B (s.turn irq).1 w0 w' := by
  have hu : Hid (s.turn irq = ({ s with step := wrap64 (s.step + 1) } : PC).doMode 20) := by show _ = _; unfold PC.turn; rw [if_neg (by rw [hs]; decide), if_neg (by rw [hs]; decide), if_neg (by rw [hs]; decide), if_neg (by rw [hs]; decide), wrap64_eq]; simp only [hm]; rfl
  rw [hu.out]
  have c_st := h.c.cst; obtain ⟨l_st, u_st⟩ := h.c.rst; have c_md := h.c.cmd; obtain ⟨l_md, u_md⟩ := h.c.rmd; have c_step := h.c.cstep; obtain ⟨l_step, u_step⟩ := h.c.rstep
  rw [hs] at c_st
  rw [hm] at c_md
  clear hs hm
  have hlt := h.c.lt
  have hsz := h.g.size
  have n0 : w.heap.size ≠ B := by omega
  have m0 : B ≠ w.heap.size := by omega
  have fz0 := h.c.free
  go_enter Tryz.func32, Tryz.ntmps32
  go_wp2_with (first | (go_at_call 44; refine (mmeth_at 20 (by decide) (.func (.func 80) #[] #[]) rfl _).mono ?_; rintro e w1 ⟨rfl, hb⟩; have k := Ck.below (w0 := w0) (B := B) (R := w.heap.size) (by repeat (first | with_reducible exact k | with_reducible apply Ck.drew | ((with_reducible apply Ck.mk'); (case hR => (simp; done)); (case h => (repeat (first | with_reducible exact h | with_reducible apply Tn.drew | with_reducible apply Tn.alloc | ((with_reducible apply Tn.setStep); (case hv => (first | omega | exact wr64_r _))) | ((with_reducible apply Tn.other); (case hne => omega); (case hb => omega)))))) | with_reducible apply Ck.alloc | ((with_reducible apply Ck.setStep); (case hv => (first | omega | exact wr64_r _))))) hb; obtain ⟨⟨r0, r1, r2, r3⟩, r4, z0, n1, n2, m1, m2, fz, b1, nr, mr⟩ := k.facts) | (go_at_call 80; refine (Ck.call (w0 := w0) (R := w.heap.size) (by repeat (first | with_reducible exact k | with_reducible apply Ck.drew | ((with_reducible apply Ck.mk'); (case hR => (simp; done)); (case h => (repeat (first | with_reducible exact h | with_reducible apply Tn.drew | with_reducible apply Tn.alloc | ((with_reducible apply Tn.setStep); (case hv => (first | omega | exact wr64_r _))) | ((with_reducible apply Tn.other); (case hne => omega); (case hb => omega)))))) | with_reducible apply Ck.alloc | ((with_reducible apply Ck.setStep); (case hv => (first | omega | exact wr64_r _))))) (fun h => enterByNMI_any h)).mono ?_; rintro e w1 ⟨rfl, k, -, -, -⟩; obtain ⟨⟨r0, r1, r2, r3⟩, r4, z0, n1, n2, m1, m2, fz, b1, nr, mr⟩ := k.facts; (try simp only [BusI.val])))
  all_goals (refine bodyPost_ret (v := BusI.val (({ s with step := wrap64 (s.step + 1) } : PC).doMode 20).2) (by simp [results, Tryz.results32, go_sem, BusI.val, *] <;> (repeat' (first | rfl | constructor))) rfl (And.intro rfl ?_))
  all_goals (apply Tn.eq; (case h => repeat (first | with_reducible exact k.t | with_reducible exact h | with_reducible apply Tn.drew | with_reducible apply Tn.alloc | ((with_reducible apply Tn.setStep); (case hv => (first | omega | exact wr64_r _))) | ((with_reducible apply Tn.other); (case hne => omega); (case hb => omega)))); (case e => rfl))

set_option maxRecDepth 100000 in
set_option maxHeartbeats 1000000 in
theorem turn_m21 {B : Nat} {s : PC} {w0 w : World} (h : Tn B s w0 w) (irq : Bool) (hs : s.st = 1) (hm : s.md = 21) :
    Calls Tryz.prog 32 #[.pointer (some ⟨B, 0, none⟩), .bool irq] w fun e w' => e = .returned (s.turn irq).2.val ∧ Tn B (s.turn irq).1 w0 w' := by
  have hu : Hid (s.turn irq = ({ s with step := wrap64 (s.step + 1) } : PC).doMode 21) := by show _ = _; unfold PC.turn; rw [if_neg (by rw [hs]; decide), if_neg (by rw [hs]; decide), if_neg (by rw [hs]; decide), if_neg (by rw [hs]; decide), wrap64_eq]; simp only [hm]; rfl
  rw [hu.out]
  have c_st := h.c.cst; obtain ⟨l_st, u_st⟩ := h.c.rst; have c_md := h.c.cmd; obtain ⟨l_md, u_md⟩ := h.c.rmd; have c_step := h.c.cstep; obtain ⟨l_step, u_step⟩ := h.c.rstep
  rw [hs] at c_st
  rw [hm] at c_md
  clear hs hm
  have hlt := h.c.lt
  have hsz := h.g.size
  have n0 : w.heap.size ≠ B := by omega
  have m0 : B ≠ w.heap.size := by omega
  have fz0 := h.c.free
  go_enter Tryz.func32, Tryz.ntmps32
  go_wp2_with (first | (go_at_call 44; refine (mmeth_at 21 (by decide) (.func (.func 81) #[] #[]) rfl _).mono ?_; rintro e w1 ⟨rfl, hb⟩; have k := Ck.below (w0 := w0) (B := B) (R := w.heap.size) (by repeat (first | with_reducible exact k | with_reducible apply Ck.drew | ((with_reducible apply Ck.mk'); (case hR => (simp; done)); (case h => (repeat (first | with_reducible exact h | with_reducible apply Tn.drew | with_reducible apply Tn.alloc | ((with_reducible apply Tn.setStep); (case hv => (first | omega | exact wr64_r _))) | ((with_reducible apply Tn.other); (case hne => omega); (case hb => omega)))))) | with_reducible apply Ck.alloc | ((with_reducible apply Ck.setStep); (case hv => (first | omega | exact wr64_r _))))) hb; obtain ⟨⟨r0, r1, r2, r3⟩, r4, z0, n1, n2, m1, m2, fz, b1, nr, mr⟩ := k.facts) | (go_at_call 81; refine (Ck.call (w0 := w0) (R := w.heap.size) (by repeat (first | with_reducible exact k | with_reducible apply Ck.drew | ((with_reducible apply Ck.mk'); (case hR => (simp; done)); (case h => (repeat (first | with_reducible exact h | with_reducible apply Tn.drew | with_reducible apply Tn.alloc | ((with_reducible apply Tn.setStep); (case hv => (first | omega | exact wr64_r _))) | ((with_reducible apply Tn.other); (case hne => omega); (case hb => omega)))))) | with_reducible apply Ck.alloc | ((with_reducible apply Ck.setStep); (case hv => (first | omega | exact wr64_r _))))) (fun h => enterByIRQ_any h)).mono ?_; rintro e w1 ⟨rfl, k, -, -, -⟩; obtain ⟨⟨r0, r1, r2, r3⟩, r4, z0, n1, n2, m1, m2, fz, b1, nr, mr⟩ := k.facts; (try simp only [BusI.val])))
  all_goals (refine bodyPost_ret (v := BusI.val (({ s with step := wrap64 (s.step + 1) } : PC).doMode 21).2) (by simp [results, Tryz.results32, go_sem, BusI.val, *] <;> (repeat' (first | rfl | constructor))) rfl (And.intro rfl ?_))
  all_goals (apply Tn.eq; (case h => repeat (first | with_reducible exact k.t | with_reducible exact h | with_reducible apply Tn.drew | with_reducible apply Tn.alloc | ((with_reducible apply Tn.setStep); (case hv => (first | omega | exact wr64_r _))) | ((with_reducible apply Tn.other); (case hne => omega); (case hb => omega)))); (case e => rfl))

set_option maxRecDepth 100000 in
set_option maxHeartbeats 1000000 in
theorem turn_m22 {B : Nat} {s : PC} {w0 w : World} (h : Tn B s w0 w) (irq : Bool) (hs : s.st = 1) (hm : s.md = 22) :
    Calls Tryz.prog 32 #[.pointer (some ⟨B, 0, none⟩), .bool irq] w fun e w' => e = .returned (s.turn irq).2.val ∧ Tn B (s.turn irq).1 w0 w' := by
  have hu : Hid (s.turn irq = ({ s with step := wrap64 (s.step + 1) } : PC).doMode 22) := by show _ = _; unfold PC.turn; rw [if_neg (by rw [hs]; decide), if_neg (by rw [hs]; decide), if_neg (by rw [hs]; decide), if_neg (by rw [hs]; decide), wrap64_eq]; simp only [hm]; rfl
  rw [hu.out]
  have c_st := h.c.cst; obtain ⟨l_st, u_st⟩ := h.c.rst; have c_md := h.c.cmd; obtain ⟨l_md, u_md⟩ := h.c.rmd; have c_step := h.c.cstep; obtain ⟨l_step, u_step⟩ := h.c.rstep
  rw [hs] at c_st
  rw [hm] at c_md
  clear hs hm
  have hlt := h.c.lt
  have hsz := h.g.size
  have n0 : w.heap.size ≠ B := by omega
  have m0 : B ≠ w.heap.size := by omega
  have fz0 := h.c.free
  go_enter Tryz.func32, Tryz.ntmps32
  go_wp2_with (first | (go_at_call 44; refine (mmeth_at 22 (by decide) (.func (.func 82) #[] #[]) rfl _).mono ?_; rintro e w1 ⟨rfl, hb⟩; have k := Ck.below (w0 := w0) (B := B) (R := w.heap.size) (by repeat (first | with_reducible exact k | with_reducible apply Ck.drew | ((with_reducible apply Ck.mk'); (case hR => (simp; done)); (case h => (repeat (first | with_reducible exact h | with_reducible apply Tn.drew | with_reducible apply Tn.alloc | ((with_reducible apply Tn.setStep); (case hv => (first | omega | exact wr64_r _))) | ((with_reducible apply Tn.other); (case hne => omega); (case hb => omega)))))) | with_reducible apply Ck.alloc | ((with_reducible apply Ck.setStep); (case hv => (first | omega | exact wr64_r _))))) hb; obtain ⟨⟨r0, r1, r2, r3⟩, r4, z0, n1, n2, m1, m2, fz, b1, nr, mr⟩ := k.facts) | (go_at_call 82; refine (Ck.call (w0 := w0) (R := w.heap.size) (by repeat (first | with_reducible exact k | with_reducible apply Ck.drew | ((with_reducible apply Ck.mk'); (case hR => (simp; done)); (case h => (repeat (first | with_reducible exact h | with_reducible apply Tn.drew | with_reducible apply Tn.alloc | ((with_reducible apply Tn.setStep); (case hv => (first | omega | exact wr64_r _))) | ((with_reducible apply Tn.other); (case hne => omega); (case hb => omega)))))) | with_reducible apply Ck.alloc | ((with_reducible apply Ck.setStep); (case hv => (first | omega | exact wr64_r _))))) (fun h => leaveInterrupt_any h)).mono ?_; rintro e w1 ⟨rfl, k, -, -, -⟩; obtain ⟨⟨r0, r1, r2, r3⟩, r4, z0, n1, n2, m1, m2, fz, b1, nr, mr⟩ := k.facts; (try simp only [BusI.val])))
  all_goals (refine bodyPost_ret (v := BusI.val (({ s with step := wrap64 (s.step + 1) } : PC).doMode 22).2) (by simp [results, Tryz.results32, go_sem, BusI.val, *] <;> (repeat' (first | rfl | constructor))) rfl (And.intro rfl ?_))
  all_goals (apply Tn.eq; (case h => repeat (first | with_reducible exact k.t | with_reducible exact h | with_reducible apply Tn.drew | with_reducible apply Tn.alloc | ((with_reducible apply Tn.setStep); (case hv => (first | omega | exact wr64_r _))) | ((with_reducible apply Tn.other); (case hne => omega); (case hb => omega)))); (case e => rfl))

end Go.Proofs.YtcgjliflnnklnabGreat
