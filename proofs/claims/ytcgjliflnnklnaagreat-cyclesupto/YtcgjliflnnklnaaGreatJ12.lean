/-
  Joined texts.
-/
import Derived.Test.YtcgjliflnnklnaaGreatJ03
import Derived.Test.YtcgjliflnnklnaaGreatCpFtz
import Derived.Test.YtcgjliflnnklnaaGreatCpRcz
import Derived.Test.YtcgjliflnnklnaaGreatJ09
import Derived.Test.YtcgjliflnnklnaaGreatJ07
namespace Go.Proofs.YtcgjliflnnklnaaGreat
open Go.RowKit

/-
  A turn in every state.
-/
section
variable {B : Nat} {s : PC} {w0 w : World}

theorem relative_any (h : Tn B s w0 w) :
    Calls Tryz.prog 122 #[.pointer (some ⟨B, 0, none⟩)] w fun e w' => e = .returned (s.relative).2.val ∧ Tn B (s.relative).1 w0 w' := by
  by_cases h1 : s.step = 1
  · exact relative_1 h h1
  · by_cases h2 : s.step = 2
    · exact relative_2 h h2
    · exact relative_d h h1 h2

set_option maxRecDepth 100000 in
set_option maxHeartbeats 1000000 in
theorem turn_m12 (h : Tn B s w0 w) (irq : Bool) (hs : s.st = 1) (hm : s.md = 12) :
    Calls Tryz.prog 54 #[.pointer (some ⟨B, 0, none⟩), .bool irq] w fun e w' => e = .returned (s.turn irq).2.val ∧ Tn B (s.turn irq).1 w0 w' := by
  have hu : Hid (s.turn irq = ({ s with step := wrap64 (s.step + 1) } : PC).doMode 12) := by show _ = _; unfold PC.turn; rw [if_neg (by rw [hs]; decide), if_neg (by rw [hs]; decide), if_neg (by rw [hs]; decide), if_neg (by rw [hs]; decide), wrap64_eq]; simp only [hm]; rfl
  rw [hu.out]
  have c_st := h.c.cst; obtain ⟨l_st, u_st⟩ := h.c.rst; have c_md := h.c.cmd; obtain ⟨l_md, u_md⟩ := h.c.rmd; have c_step := h.c.cstep; obtain ⟨l_step, u_step⟩ := h.c.rstep
  rw [hs] at c_st
  rw [hm] at c_md
  clear hs hm
  obtain ⟨hlt, hsz, n0, m0, fz0, -⟩ := h.pre
  go_enter Tryz.func54, Tryz.ntmps54
  go_wp2_with (first | (go_at_call 83; refine (mmeth_at 12 (by decide) (.func (.func 122) #[] #[]) rfl _).mono ?_; rintro e w1 ⟨rfl, hb⟩; have k := Ck.below (w0 := w0) (B := B) (R := w.heap.size) kq16 hb; obtain ⟨⟨r0, r1, r2, r3⟩, r4, z0, n1, n2, m1, m2, fz, b1, nr, mr⟩ := k.facts) | (go_at_call 122; refine Ck.go w0 w.heap.size kq16 (fun h => relative_any h) ?_; intro w1 k; intros; (try simp only [BusI.val])))
  all_goals (have hr := Tryz.results54; exact bodyPost_ret brq rfl ⟨rfl, tq8⟩)

set_option maxRecDepth 100000 in
set_option maxHeartbeats 1000000 in
theorem turn_s0 (h : Tn B s w0 w) (irq : Bool) (hs : s.st = 0) :
    Calls Tryz.prog 54 #[.pointer (some ⟨B, 0, none⟩), .bool irq] w fun e w' => e = .returned (s.turn irq).2.val ∧ Tn B (s.turn irq).1 w0 w' := by
  have c_st := h.c.cst; obtain ⟨l_st, u_st⟩ := h.c.rst
  have hu : Hid (s.turn irq = s.fetch irq) := by show _ = _; unfold PC.turn; rw [if_pos hs]
  rw [hu.out]
  rw [hs] at c_st
  obtain ⟨hlt, hsz, n0, m0, fz0, -⟩ := h.pre
  go_enter Tryz.func54, Tryz.ntmps54
  go_wp2_with (first | (go_at_call 79; refine Ck.go w0 w.heap.size kq6 (fun h => fetch_any h irq) ?_; intro w1 k; intros; (try simp only [BusI.val])))
  all_goals (try go_region_with (first | (go_at_call 79; refine Ck.go w0 w.heap.size kq6 (fun h => fetch_any h irq) ?_; intro w1 k; intros; (try simp only [BusI.val]))))
  all_goals (try go_wp2_with (first | (go_at_call 79; refine Ck.go w0 w.heap.size kq6 (fun h => fetch_any h irq) ?_; intro w1 k; intros; (try simp only [BusI.val]))))
  all_goals (have hr := Tryz.results54; exact bodyPost_ret brq rfl ⟨rfl, tq1⟩)


theorem turn_any (h : Tn B s w0 w) (irq : Bool) (h5 : s.st ≠ 5) (hm : s.st = 1 → s.md ≠ 0) :
    Calls Tryz.prog 54 #[.pointer (some ⟨B, 0, none⟩), .bool irq] w fun e w' => e = .returned (s.turn irq).2.val ∧ Tn B (s.turn irq).1 w0 w' := by
  have r1 := h.c.rst
  have r2 := h.c.rmd
  rcases (show s.st = 0 ∨ s.st = 1 ∨ s.st = 2 ∨ s.st = 3 ∨ s.st = 4 from by omega) with e | e | e | e | e
  · exact turn_s0 h irq e
  · have hm' := hm e
    rcases (show s.md = 1 ∨ s.md = 2 ∨ s.md = 3 ∨ s.md = 4 ∨ s.md = 5 ∨ s.md = 6 ∨ s.md = 7 ∨ s.md = 8 ∨ s.md = 9 ∨ s.md = 10 ∨ s.md = 11 ∨ s.md = 12 ∨ s.md = 13 ∨ s.md = 14 ∨ s.md = 15 ∨ s.md = 16 ∨ s.md = 17 ∨ s.md = 18 ∨ s.md = 19 ∨ s.md = 20 ∨ s.md = 21 ∨ s.md = 22 from by omega) with q | q | q | q | q | q | q | q | q | q | q | q | q | q | q | q | q | q | q | q | q | q
    · exact turn_f h irq e 1 (by decide) q _ rfl (fun _ _ => by kernel_rfl) implied_any
    · exact turn_f h irq e 2 (by decide) q _ rfl (fun _ _ => by kernel_rfl) accumulator_any
    · exact turn_f h irq e 3 (by decide) q _ rfl (fun _ _ => by kernel_rfl) immediate_any
    · exact turn_f h irq e 4 (by decide) q _ rfl (fun _ _ => by kernel_rfl) zeroPage_any
    · exact turn_f h irq e 5 (by decide) q _ rfl (fun _ _ => by kernel_rfl) zeroPageX_any
    · exact turn_f h irq e 6 (by decide) q _ rfl (fun _ _ => by kernel_rfl) zeroPageY_any
    · exact turn_f h irq e 7 (by decide) q _ rfl (fun _ _ => by kernel_rfl) absolute_any
    · exact turn_f h irq e 8 (by decide) q _ rfl (fun _ _ => by kernel_rfl) absoluteX_any
    · exact turn_f h irq e 9 (by decide) q _ rfl (fun _ _ => by kernel_rfl) absoluteY_any
    · exact turn_f h irq e 10 (by decide) q _ rfl (fun _ _ => by kernel_rfl) indirectX_any
    · exact turn_f h irq e 11 (by decide) q _ rfl (fun _ _ => by kernel_rfl) indirectY_any
    · exact turn_m12 h irq e q
    · exact turn_f h irq e 13 (by decide) q _ rfl (fun _ _ => by kernel_rfl) jumpAbsolute_any
    · exact turn_f h irq e 14 (by decide) q _ rfl (fun _ _ => by kernel_rfl) jumpIndirect_any
    · exact turn_f h irq e 15 (by decide) q _ rfl (fun _ _ => by kernel_rfl) callSubroutine_any
    · exact turn_f h irq e 16 (by decide) q _ rfl (fun _ _ => by kernel_rfl) leaveSubroutine_any
    · exact turn_f h irq e 17 (by decide) q _ rfl (fun _ _ => by kernel_rfl) pushByte_any
    · exact turn_f h irq e 18 (by decide) q _ rfl (fun _ _ => by kernel_rfl) pullByte_any
    · exact turn_f h irq e 19 (by decide) q _ rfl (fun _ _ => by kernel_rfl) enterByBreak_any
    · exact turn_f h irq e 20 (by decide) q _ rfl (fun _ _ => by kernel_rfl) enterByNMI_any
    · exact turn_f h irq e 21 (by decide) q _ rfl (fun _ _ => by kernel_rfl) enterByIRQ_any
    · exact turn_f h irq e 22 (by decide) q _ rfl (fun _ _ => by kernel_rfl) leaveInterrupt_any
  · exact turn_s2 h irq e
  · exact turn_s3 h irq e
  · exact turn_s4 h irq e
end

/-
  The document's computer, walked: the timer counts; what begins.
-/
section
set_option maxRecDepth 100000
set_option maxHeartbeats 4000000

theorem rcounts {B M : Nat} {vh : Value} {t : RS} {w0 w : World} (h : TM B M (MV M vh t) t.mem w0 w) (b : BusI) (k0 : 0 ≤ t.cnt ∧ t.cnt < 256) :
    Calls Tryz.prog 95 #[.pointer (some ⟨B, 0, none⟩), b.val] w fun e w' => e = .returned (.tuple #[]) ∧ TM B M (MV M vh (t.counts b)) (t.counts b).mem w0 w' := by
  have lt1 := h.c.lt
  have lt2 := h.c.ltM
  have ne := h.c.ne
  have ne2 := h.c.ne.symm
  have hsz := h.g.size
  have f10 := h.c.fr 10
  have f11 := h.c.fr 11
  obtain ⟨-, -, -, -, -, -, -, -, -, -, c10, c11, -, -, -, -, -⟩ := h.c.cs
  obtain ⟨a, d, wr, ft⟩ := b
  obtain ⟨k1, k2⟩ := k0
  unfold BusI.val
  have ec : t.counts ⟨a, d, wr, ft⟩ = if wr = true ∧ a = 53248 ∨ t.cnt = 0 then t else if t.cnt - 1 = 0 then { t with cnt := t.cnt - 1, calls := true } else { t with cnt := t.cnt - 1 } := rfl
  rw [ec]
  clear ec
  obtain ⟨mm, rom, r, cnt, calls, nmi, due, op, md, hh⟩ := t
  simp only at k1 k2 c10 c11 ⊢
  by_cases e1 : wr = true ∧ a = 53248
  · rw [if_pos (.inl e1)]
    obtain ⟨rfl, rfl⟩ := e1
    go_enter Tryz.func95, Tryz.ntmps95
    go_wp2_with fail
    all_goals (try (go_quiet (fail)))
    all_goals (try (go_wp2_with fail))
    all_goals go_returns
    all_goals refine ⟨rfl, ?_⟩
    all_goals (apply TM.eq; (case h => (repeat (first | with_reducible exact h | with_reducible apply TM.drew | with_reducible apply TM.drewN | with_reducible apply TM.alloc | ((with_reducible apply TM.set); (case hi => decide)) | ((with_reducible apply TM.other); (case hb => omega); (case h1 => omega); (case h2 => omega))))); (case e => rfl); (case e2 => rfl))
  · by_cases e2 : cnt = 0
    · rw [if_pos (.inr e2)]
      subst e2
      cases wr
      · clear e1
        go_enter Tryz.func95, Tryz.ntmps95
        go_wp2_with fail
        all_goals (try (go_quiet (fail)))
        all_goals (try (go_wp2_with fail))
        all_goals go_returns
        all_goals refine ⟨rfl, ?_⟩
        all_goals (apply TM.eq; (case h => (repeat (first | with_reducible exact h | with_reducible apply TM.drew | with_reducible apply TM.drewN | with_reducible apply TM.alloc | ((with_reducible apply TM.set); (case hi => decide)) | ((with_reducible apply TM.other); (case hb => omega); (case h1 => omega); (case h2 => omega))))); (case e => rfl); (case e2 => rfl))
      · have q1 : (a == 53248) = false := by rw [beq_eq_false_iff_ne]; exact fun q => e1 ⟨rfl, q⟩
        clear e1
        go_enter Tryz.func95, Tryz.ntmps95
        go_wp2_with fail
        all_goals (try (go_quiet (fail)))
        all_goals (try (go_wp2_with fail))
        all_goals go_returns
        all_goals refine ⟨rfl, ?_⟩
        all_goals (apply TM.eq; (case h => (repeat (first | with_reducible exact h | with_reducible apply TM.drew | with_reducible apply TM.drewN | with_reducible apply TM.alloc | ((with_reducible apply TM.set); (case hi => decide)) | ((with_reducible apply TM.other); (case hb => omega); (case h1 => omega); (case h2 => omega))))); (case e => rfl); (case e2 => rfl))
    · rw [if_neg (by rintro (q | q); exact e1 q; exact e2 q)]
      by_cases e3 : cnt = 1
      · subst e3
        cases wr
        · clear e1
          go_enter Tryz.func95, Tryz.ntmps95
          go_wp2_with fail
          all_goals (try (go_quiet (fail)))
          all_goals (try (go_wp2_with fail))
          all_goals go_returns
          all_goals refine ⟨rfl, ?_⟩
          all_goals (apply TM.eq; (case h => (repeat (first | with_reducible exact h | with_reducible apply TM.drew | with_reducible apply TM.drewN | with_reducible apply TM.alloc | ((with_reducible apply TM.set); (case hi => decide)) | ((with_reducible apply TM.other); (case hb => omega); (case h1 => omega); (case h2 => omega))))); (case e => rfl); (case e2 => rfl))
        · have q1 : (a == 53248) = false := by rw [beq_eq_false_iff_ne]; exact fun q => e1 ⟨rfl, q⟩
          clear e1
          go_enter Tryz.func95, Tryz.ntmps95
          go_wp2_with fail
          all_goals (try (go_quiet (fail)))
          all_goals (try (go_wp2_with fail))
          all_goals go_returns
          all_goals refine ⟨rfl, ?_⟩
          all_goals (apply TM.eq; (case h => (repeat (first | with_reducible exact h | with_reducible apply TM.drew | with_reducible apply TM.drewN | with_reducible apply TM.alloc | ((with_reducible apply TM.set); (case hi => decide)) | ((with_reducible apply TM.other); (case hb => omega); (case h1 => omega); (case h2 => omega))))); (case e => rfl); (case e2 => rfl))
      · rw [if_neg (by omega)]
        have q2 : (cnt == 0) = false := by rw [beq_eq_false_iff_ne]; exact e2
        have q3 : (cnt - 1 == 0) = false := by rw [beq_eq_false_iff_ne]; omega
        clear e2 e3
        cases wr
        · clear e1
          go_enter Tryz.func95, Tryz.ntmps95
          go_wp2_with fail
          all_goals (try (go_quiet (fail)))
          all_goals (try (go_wp2_with fail))
          all_goals go_returns
          all_goals refine ⟨rfl, ?_⟩
          all_goals (apply TM.eq; (case h => (repeat (first | with_reducible exact h | with_reducible apply TM.drew | with_reducible apply TM.drewN | with_reducible apply TM.alloc | ((with_reducible apply TM.set); (case hi => decide)) | ((with_reducible apply TM.other); (case hb => omega); (case h1 => omega); (case h2 => omega))))); (case e => rfl); (case e2 => rfl))
        · have q1 : (a == 53248) = false := by rw [beq_eq_false_iff_ne]; exact fun q => e1 ⟨rfl, q⟩
          clear e1
          go_enter Tryz.func95, Tryz.ntmps95
          go_wp2_with fail
          all_goals (try (go_quiet (fail)))
          all_goals (try (go_wp2_with fail))
          all_goals go_returns
          all_goals refine ⟨rfl, ?_⟩
          all_goals (apply TM.eq; (case h => (repeat (first | with_reducible exact h | with_reducible apply TM.drew | with_reducible apply TM.drewN | with_reducible apply TM.alloc | ((with_reducible apply TM.set); (case hi => decide)) | ((with_reducible apply TM.other); (case hb => omega); (case h1 => omega); (case h2 => omega))))); (case e => rfl); (case e2 => rfl))
end

/-
  The document's computer, walked: what begins behind a fetch.
-/
section
set_option maxRecDepth 100000
set_option maxHeartbeats 4000000

theorem tl_nil : ByteArray.toList ⟨#[]⟩ = [] := by unfold ByteArray.toList; unfold ByteArray.toList.loop; rfl
theorem tl_empty (a : BA) : (ByteArray.toList a).isEmpty = (a == ⟨#[]⟩) := by
  rw [ba_beq]
  by_cases e : a = ⟨#[]⟩
  · subst e; rw [tl_nil]; rfl
  · rw [decide_eq_false e]
    cases h : (ByteArray.toList a).isEmpty
    · rfl
    · exact absurd (tl_inj (a := a) (b := ⟨#[]⟩) (by rw [List.isEmpty_iff.1 h, tl_nil])) e

theorem rbegins {B M : Nat} {vh : Value} {t : RS} {w0 w : World} (h : TM B M (MV M vh t) t.mem w0 w) (b : Int) (irq : Bool) :
    Calls Tryz.prog 94 #[.pointer (some ⟨B, 0, none⟩), .int .i64 b, .bool irq] w fun e w' => e = .returned (.tuple #[]) ∧ TM B M (MV M vh (t.begins b irq)) (t.begins b irq).mem w0 w' := by
  have lt1 := h.c.lt
  have lt2 := h.c.ltM
  have ne := h.c.ne
  have ne2 := h.c.ne.symm
  have hsz := h.g.size
  have f9 := h.c.fr 9
  have f13 := h.c.fr 13
  have f14 := h.c.fr 14
  have f15 := h.c.fr 15
  obtain ⟨-, -, -, -, -, -, c6, -, -, c9, -, c11, -, c13, c14, c15, -⟩ := h.c.cs
  have ec : t.begins b irq = if t.due = true then { t with due := false, op := (b3 78 77 73), md := (b3 115 101 113) } else if (irq || t.calls) = true ∧ i64and t.r.P 4 = 0 then { t with op := (b3 73 82 81), md := (b3 115 101 113) } else { t with op := (codeR b).1, md := (codeR b).2, r := { t.r with jam := (codeR b).1 == ⟨#[]⟩ } } := rfl
  rw [ec]
  clear ec
  obtain ⟨mm, rom, ⟨A, X, Y, S, P, PC, cyc, jam⟩, cnt, calls, nmi, due, op, md, hh⟩ := t
  simp only at c6 c9 c11 c13 c14 c15 ⊢
  unfold i64and
  cases due
  · rw [if_neg (by decide)]
    by_cases e1 : (irq || calls) = true ∧ bits .and .i64 P 4 = 0
    · rw [if_pos e1]
      obtain ⟨e1, e2⟩ := e1
      have q2 : (bits .and .i64 P 4 == 0) = true := by rw [beq_iff_eq]; exact e2
      cases irq
      · cases calls
        · cases e1
        · clear e1 e2
          go_enter Tryz.func94, Tryz.ntmps94
          go_wp2_with fail
          all_goals (try (go_quiet (fail)))
          all_goals (try (go_wp2_with fail))
          all_goals go_returns
          all_goals refine ⟨rfl, ?_⟩
          all_goals (apply TM.eq; (case h => (repeat (first | with_reducible exact h | with_reducible apply TM.drew | with_reducible apply TM.drewN | with_reducible apply TM.alloc | ((with_reducible apply TM.set); (case hi => decide)) | ((with_reducible apply TM.other); (case hb => omega); (case h1 => omega); (case h2 => omega))))); (case e => rfl); (case e2 => rfl))
      · clear e1 e2
        cases calls
        all_goals
          go_enter Tryz.func94, Tryz.ntmps94
          go_wp2_with fail
          all_goals (try (go_quiet (fail)))
          all_goals (try (go_wp2_with fail))
          all_goals go_returns
          all_goals refine ⟨rfl, ?_⟩
          all_goals (apply TM.eq; (case h => (repeat (first | with_reducible exact h | with_reducible apply TM.drew | with_reducible apply TM.drewN | with_reducible apply TM.alloc | ((with_reducible apply TM.set); (case hi => decide)) | ((with_reducible apply TM.other); (case hb => omega); (case h1 => omega); (case h2 => omega))))); (case e => rfl); (case e2 => rfl))
    · rw [if_neg e1]
      have RC := fun w => rcode b w
      generalize codeR b = q at *
      obtain ⟨qo, qm⟩ := q
      unfold cdV at RC
      simp only at RC ⊢
      cases irq
      · cases calls
        · clear e1
          go_enter Tryz.func94, Tryz.ntmps94
          go_wp2_with (go_at_call 150; refine (RC _).mono ?_; rintro e w1 ⟨rfl, hb⟩; have h1 := TM.below (by first | exact h | exact h.drewN _) hb; have lt3 := h1.c.lt; have hs3 := h1.g.size; have g9 := h1.c.fr 9; have g14 := h1.c.fr 14; have g15 := h1.c.fr 15; obtain ⟨-, -, -, -, -, -, -, -, -, d9, -, -, -, -, d14, d15, -⟩ := h1.c.cs; simp only at d9 d14 d15; clear hb)
          all_goals (try (go_quiet (fail)))
          all_goals (try (go_wp2_with (go_at_call 150; refine (RC _).mono ?_; rintro e w1 ⟨rfl, hb⟩; have h1 := TM.below (by first | exact h | exact h.drewN _) hb; have lt3 := h1.c.lt; have hs3 := h1.g.size; have g9 := h1.c.fr 9; have g14 := h1.c.fr 14; have g15 := h1.c.fr 15; obtain ⟨-, -, -, -, -, -, -, -, -, d9, -, -, -, -, d14, d15, -⟩ := h1.c.cs; simp only at d9 d14 d15; clear hb)))
          all_goals go_returns
          all_goals refine ⟨rfl, ?_⟩
          all_goals (rw [tl_empty]; apply TM.eq; (case h => (repeat (first | with_reducible exact h1 | with_reducible apply TM.drew | with_reducible apply TM.drewN | with_reducible apply TM.alloc | ((with_reducible apply TM.set); (case hi => decide)) | ((with_reducible apply TM.other); (case hb => omega); (case h1 => omega); (case h2 => omega))))); (case e => rfl); (case e2 => rfl))
        · have q2 : (bits .and .i64 P 4 == 0) = false := by rw [beq_eq_false_iff_ne]; exact fun q => e1 ⟨rfl, q⟩
          clear e1
          go_enter Tryz.func94, Tryz.ntmps94
          go_wp2_with (go_at_call 150; refine (RC _).mono ?_; rintro e w1 ⟨rfl, hb⟩; have h1 := TM.below (by first | exact h | exact h.drewN _) hb; have lt3 := h1.c.lt; have hs3 := h1.g.size; have g9 := h1.c.fr 9; have g14 := h1.c.fr 14; have g15 := h1.c.fr 15; obtain ⟨-, -, -, -, -, -, -, -, -, d9, -, -, -, -, d14, d15, -⟩ := h1.c.cs; simp only at d9 d14 d15; clear hb)
          all_goals (try (go_quiet (fail)))
          all_goals (try (go_wp2_with (go_at_call 150; refine (RC _).mono ?_; rintro e w1 ⟨rfl, hb⟩; have h1 := TM.below (by first | exact h | exact h.drewN _) hb; have lt3 := h1.c.lt; have hs3 := h1.g.size; have g9 := h1.c.fr 9; have g14 := h1.c.fr 14; have g15 := h1.c.fr 15; obtain ⟨-, -, -, -, -, -, -, -, -, d9, -, -, -, -, d14, d15, -⟩ := h1.c.cs; simp only at d9 d14 d15; clear hb)))
          all_goals go_returns
          all_goals refine ⟨rfl, ?_⟩
          all_goals (rw [tl_empty]; apply TM.eq; (case h => (repeat (first | with_reducible exact h1 | with_reducible apply TM.drew | with_reducible apply TM.drewN | with_reducible apply TM.alloc | ((with_reducible apply TM.set); (case hi => decide)) | ((with_reducible apply TM.other); (case hb => omega); (case h1 => omega); (case h2 => omega))))); (case e => rfl); (case e2 => rfl))
      · have q2 : (bits .and .i64 P 4 == 0) = false := by rw [beq_eq_false_iff_ne]; exact fun q => e1 ⟨rfl, q⟩
        clear e1
        cases calls
        all_goals
          go_enter Tryz.func94, Tryz.ntmps94
          go_wp2_with (go_at_call 150; refine (RC _).mono ?_; rintro e w1 ⟨rfl, hb⟩; have h1 := TM.below (by first | exact h | exact h.drewN _) hb; have lt3 := h1.c.lt; have hs3 := h1.g.size; have g9 := h1.c.fr 9; have g14 := h1.c.fr 14; have g15 := h1.c.fr 15; obtain ⟨-, -, -, -, -, -, -, -, -, d9, -, -, -, -, d14, d15, -⟩ := h1.c.cs; simp only at d9 d14 d15; clear hb)
          all_goals (try (go_quiet (fail)))
          all_goals (try (go_wp2_with (go_at_call 150; refine (RC _).mono ?_; rintro e w1 ⟨rfl, hb⟩; have h1 := TM.below (by first | exact h | exact h.drewN _) hb; have lt3 := h1.c.lt; have hs3 := h1.g.size; have g9 := h1.c.fr 9; have g14 := h1.c.fr 14; have g15 := h1.c.fr 15; obtain ⟨-, -, -, -, -, -, -, -, -, d9, -, -, -, -, d14, d15, -⟩ := h1.c.cs; simp only at d9 d14 d15; clear hb)))
          all_goals go_returns
          all_goals refine ⟨rfl, ?_⟩
          all_goals (rw [tl_empty]; apply TM.eq; (case h => (repeat (first | with_reducible exact h1 | with_reducible apply TM.drew | with_reducible apply TM.drewN | with_reducible apply TM.alloc | ((with_reducible apply TM.set); (case hi => decide)) | ((with_reducible apply TM.other); (case hb => omega); (case h1 => omega); (case h2 => omega))))); (case e => rfl); (case e2 => rfl))
  · rw [if_pos rfl]
    go_enter Tryz.func94, Tryz.ntmps94
    go_wp2_with fail
    all_goals (try (go_quiet (fail)))
    all_goals (try (go_wp2_with fail))
    all_goals go_returns
    all_goals refine ⟨rfl, ?_⟩
    all_goals (apply TM.eq; (case h => (repeat (first | with_reducible exact h | with_reducible apply TM.drew | with_reducible apply TM.drewN | with_reducible apply TM.alloc | ((with_reducible apply TM.set); (case hi => decide)) | ((with_reducible apply TM.other); (case hb => omega); (case h1 => omega); (case h2 => omega))))); (case e => rfl); (case e2 => rfl))
end

end Go.Proofs.YtcgjliflnnklnaaGreat
