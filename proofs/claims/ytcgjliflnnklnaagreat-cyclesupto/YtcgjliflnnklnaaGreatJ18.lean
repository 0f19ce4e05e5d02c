/-
  Joined texts.
-/
import Derived.Handy
import Derived.Test.YtcgjliflnnklnaaGreatRwFz
import Derived.Test.YtcgjliflnnklnaaGreatRwJz
import Derived.Test.YtcgjliflnnklnaaGreatRwUaz
import Derived.Test.YtcgjliflnnklnaaGreatJ17
namespace Go.Proofs.YtcgjliflnnklnaaGreat
open Go.RowKit

/-
  The document's computer, walked: the registers behind an instruction that goes on, in the main.
-/
section
theorem rflowsS (op : BA) (r : RG) (s0 : 0 ≤ r.S ∧ r.S < 256) (b cap : Nat) (h : List Int) (hl : h.length ≤ 100) (hk : FlOk op h.length) (w : World) (H : HdAt w b h) :
    Calls Tryz.prog 152 #[.string op, r.val, hdV b h cap] w fun e w' => e = .returned (flowsR op r h).val ∧ Below w.heap.size w w' := by
  obtain ⟨A, X, Y, S, P, PC, cyc, jam⟩ := r
  rcases hk with ⟨h1 | h1 | h1, hn⟩ | ⟨h1 | h1 | h1, hn⟩ | ⟨h1 | h1, hn⟩ | ⟨h1, hn | hn⟩ | h1
  · rw [h1]; exact flw_NMI A X Y S P PC cyc jam b cap h w H hl s0 hn
  · rw [h1]; exact flw_IRQ A X Y S P PC cyc jam b cap h w H hl s0 hn
  · rw [h1]; exact flw_BRK A X Y S P PC cyc jam b cap h w H hl s0 hn
  · rw [h1]; exact flw_JSR A X Y S P PC cyc jam b cap h w H hl s0 hn
  · rw [h1]; exact flw_RTS A X Y S P PC cyc jam b cap h w H hl s0 hn
  · rw [h1]; exact flw_RTI A X Y S P PC cyc jam b cap h w H hl s0 hn
  · rw [h1]; exact flw_PLA A X Y S P PC cyc jam b cap h w H hl s0 hn
  · rw [h1]; exact flw_PLP A X Y S P PC cyc jam b cap h w H hl s0 hn
  · rw [h1, show flowsR (b3 74 77 80) ⟨A, X, Y, S, P, PC, cyc, jam⟩ h = ⟨A, X, Y, S, P, hd h 1 + 256 * hd h 2, cyc, jam⟩ from by show RG.mk A X Y S P (hd h (h.length - 2) + 256 * hd h (h.length - 1)) cyc jam = _; rw [hn]]; exact flw_JMP3 A X Y S P PC cyc jam b cap h w H hn
  · rw [h1, show flowsR (b3 74 77 80) ⟨A, X, Y, S, P, PC, cyc, jam⟩ h = ⟨A, X, Y, S, P, hd h 3 + 256 * hd h 4, cyc, jam⟩ from by show RG.mk A X Y S P (hd h (h.length - 2) + 256 * hd h (h.length - 1)) cyc jam = _; rw [hn]]; exact flw_JMP5 A X Y S P PC cyc jam b cap h w H hn
  · exact flw_plain op h1 _ b cap h w

theorem plain_s {op : BA} (hop : op ∈ lI) {r : RG} (hr : RgR r) : 0 ≤ (plainR op r).S ∧ (plainR op r).S < 256 := by
  have s := hr.s
  unfold lI at hop
  simp only [List.mem_cons, List.not_mem_nil, or_false] at hop
  rcases hop with rfl | rfl | rfl | rfl | rfl | rfl | rfl | rfl | rfl | rfl | rfl | rfl | rfl | rfl | rfl | rfl | rfl | rfl | rfl | rfl | rfl | rfl
  all_goals first | exact hr.s | exact hr.x | (show 0 ≤ (r.S - 1) % 256 ∧ (r.S - 1) % 256 < 256; omega)
/-- None of those that go elsewhere. -/
def NoF (op : BA) : Prop := op ≠ (b3 78 77 73) ∧ op ≠ (b3 73 82 81) ∧ op ≠ (b3 66 82 75) ∧ op ≠ (b3 74 83 82) ∧ op ≠ (b3 82 84 83) ∧ op ≠ (b3 82 84 73) ∧ op ≠ (b3 74 77 80)
theorem nof_far {op : BA} (h : NoF op) : farR op = false := by
  obtain ⟨a1, a2, a3, a4, a5, a6, a7⟩ := h
  unfold farR
  simp only [ba_beq, decide_eq_false a1, decide_eq_false a2, decide_eq_false a3, decide_eq_false a4, decide_eq_false a5, decide_eq_false a6, decide_eq_false a7, Bool.or_self]
theorem nof_any {op : BA} (h : NoF op) : (lFar.any fun s => decide (s = op)) = false := by
  obtain ⟨a1, a2, a3, a4, a5, a6, a7⟩ := h
  unfold lFar
  simp only [List.any_cons, List.any_nil, decide_eq_false (Ne.symm a4), decide_eq_false (Ne.symm a5), decide_eq_false (Ne.symm a6), decide_eq_false (Ne.symm a7), Bool.or_self]
theorem nof_I {op : BA} (hop : op ∈ lI) : NoF op := by
  unfold lI at hop
  simp only [List.mem_cons, List.not_mem_nil, or_false] at hop
  rcases hop with rfl | rfl | rfl | rfl | rfl | rfl | rfl | rfl | rfl | rfl | rfl | rfl | rfl | rfl | rfl | rfl | rfl | rfl | rfl | rfl | rfl | rfl
  all_goals (unfold NoF; decide)
theorem nof_R {op : BA} (hop : op ∈ lR) : NoF op := by
  unfold lR at hop
  simp only [List.mem_cons, List.not_mem_nil, or_false] at hop
  rcases hop with rfl | rfl | rfl | rfl | rfl | rfl | rfl | rfl | rfl | rfl | rfl | rfl
  all_goals (unfold NoF; decide)
theorem nof_W {op : BA} (hop : op ∈ lW) : NoF op := by
  unfold lW at hop
  simp only [List.mem_cons, List.not_mem_nil, or_false] at hop
  rcases hop with rfl | rfl | rfl
  all_goals (unfold NoF; decide)
theorem nof_C {op : BA} (hop : op ∈ lC) : NoF op := by
  unfold lC at hop
  simp only [List.mem_cons, List.not_mem_nil, or_false] at hop
  rcases hop with rfl | rfl | rfl | rfl | rfl | rfl
  all_goals (unfold NoF; decide)
theorem nof_B {op : BA} (hop : op ∈ lB) : NoF op := by
  unfold lB at hop
  simp only [List.mem_cons, List.not_mem_nil, or_false] at hop
  rcases hop with rfl | rfl | rfl | rfl | rfl | rfl | rfl | rfl
  all_goals (unfold NoF; decide)
theorem RgR.withPC {r : RG} (h : RgR r) (n : Int) : RgR { r with PC := n % 65536 } := ⟨h.a, h.x, h.y, h.s, h.p, by show 0 ≤ n % 65536 ∧ n % 65536 < 65536; omega⟩
end

/-
  The document's computer, walked: the registers behind an instruction: in the accumulator.
-/
section
set_option maxRecDepth 100000
set_option maxHeartbeats 20000000

theorem done_acc (op : BA) (hop : op ∈ lC) (r : RG) (hr : RgR r) (b cap : Nat) (h : List Int) (hl : h.length ≤ 100) (w : World) (H : HdAt w b h) :
    Calls Tryz.prog 96 #[cdV op (b3 97 99 99), r.val, hdV b h cap] w fun e w' => e = .returned (doneR op (b3 97 99 99) r h).val ∧ Below w.heap.size w w' := by
  have _v := H
  have _u := hl
  clear _u _v
  have no := nof_C hop
  rw [show doneR op (b3 97 99 99) r h = { r with PC := (r.PC + 1) % 65536, A := (changedR op r.A r.P).1, P := (changedR op r.A r.P).2 } from by unfold doneR; rw [if_neg (by rw [nof_far no]; decide)]; rfl]
  obtain ⟨A, X, Y, S, P, PC, cyc, jam⟩ := r
  have c0 : 0 ≤ PC ∧ PC < 65536 := hr.pc
  have a0 : 0 ≤ A ∧ A < 256 := hr.a
  have p0 : 0 ≤ P ∧ P < 256 := hr.p
  have CHG := fun w => rchanged op hop A P a0.1 a0.2 p0.1 p0.2 w
  dsimp only
  generalize changedR op A P = cq at *
  obtain ⟨c1, c2⟩ := cq
  unfold chV at CHG
  dsimp only at CHG ⊢
  have z0 := tl_no3 no.1
  have z1 := tl_no3 no.2.1
  have z2 := tl_no3 no.2.2.1
  have AM := ramong4 op false (nof_any no)
  clear no hop H hr
  unfold cdV hdV RG.val b3
  generalize h.length = n at *
  go_enter Tryz.func96, Tryz.ntmps96
  go_wp2_with (first | (go_at_call 151; refine (AM _ _ _ (by simp)).mono ?_; rintro e w1 ⟨rfl, rfl⟩) | (go_at_call 91; with_reducible refine (rcut16 _ _).mono ?_; rintro e w1 ⟨rfl, hw⟩; subst hw) | (go_at_call 156; refine (CHG _).mono ?_; rintro e w1 ⟨rfl, hw⟩; subst hw))
  all_goals (try (go_quiet (fail)))
  all_goals (try (go_wp2_with (first | (go_at_call 151; refine (AM _ _ _ (by simp)).mono ?_; rintro e w1 ⟨rfl, rfl⟩) | (go_at_call 91; with_reducible refine (rcut16 _ _).mono ?_; rintro e w1 ⟨rfl, hw⟩; subst hw) | (go_at_call 156; refine (CHG _).mono ?_; rintro e w1 ⟨rfl, hw⟩; subst hw))))
  all_goals (try (go_region_with (first | (go_at_call 151; refine (AM _ _ _ (by simp)).mono ?_; rintro e w1 ⟨rfl, rfl⟩) | (go_at_call 91; with_reducible refine (rcut16 _ _).mono ?_; rintro e w1 ⟨rfl, hw⟩; subst hw) | (go_at_call 156; refine (CHG _).mono ?_; rintro e w1 ⟨rfl, hw⟩; subst hw))))
  all_goals (try (go_wp2_with (first | (go_at_call 151; refine (AM _ _ _ (by simp)).mono ?_; rintro e w1 ⟨rfl, rfl⟩) | (go_at_call 91; with_reducible refine (rcut16 _ _).mono ?_; rintro e w1 ⟨rfl, hw⟩; subst hw) | (go_at_call 156; refine (CHG _).mono ?_; rintro e w1 ⟨rfl, hw⟩; subst hw))))
  all_goals go_returns
  all_goals exact ⟨rfl, by go_grown⟩
end

/-
  The document's computer, walked: the registers behind an instruction: it has no byte.
-/
section
set_option maxRecDepth 100000
set_option maxHeartbeats 20000000

theorem held_p {W w1 : World} (hb : Below W.heap.size W w1) : (∀ n i, n < W.heap.size → w1.cell? ⟨n, i, none⟩ = W.cell? ⟨n, i, none⟩) ∧ (∀ n i, n < W.heap.size → w1.frozen? ⟨n, i, none⟩ = W.frozen? ⟨n, i, none⟩) ∧ W.heap.size ≤ w1.heap.size ∧ Below W.heap.size W w1 :=
  ⟨fun n i hn => World.cell?_of_block (a := ⟨n, i, none⟩) (hb.block n hn), fun n i hn => World.frozen?_of_block (a := ⟨n, i, none⟩) (hb.block n hn), hb.size, hb⟩
theorem done_imp (op : BA) (hop : op ∈ lI) (r : RG) (hr : RgR r) (b cap : Nat) (h : List Int) (hl : h.length ≤ 100) (hk : FlOk op h.length) (w : World) (H : HdAt w b h) :
    Calls Tryz.prog 96 #[cdV op (b3 105 109 112), r.val, hdV b h cap] w fun e w' => e = .returned (doneR op (b3 105 109 112) r h).val ∧ Below w.heap.size w w' := by
  have no := nof_I hop
  rw [show doneR op (b3 105 109 112) r h = flowsR op (plainR op { r with PC := (r.PC + 1) % 65536 }) h from by unfold doneR; rw [if_neg (by rw [nof_far no]; decide)]; rfl]
  have PLN := fun w => rplain op hop _ (hr.withPC (r.PC + 1)) w
  have FL := fun w' (hb : Below w.heap.size w w') => rflowsS op (plainR op { r with PC := (r.PC + 1) % 65536 }) (plain_s hop (hr.withPC (r.PC + 1))) b cap h hl hk w' (H.later' hb)
  obtain ⟨A, X, Y, S, P, PC, cyc, jam⟩ := r
  have c0 : 0 ≤ PC ∧ PC < 65536 := hr.pc
  dsimp only at PLN FL ⊢
  generalize flowsR op _ h = R at *
  generalize plainR op _ = Q at *
  obtain ⟨A', X', Y', S', P', PC', cyc', jam'⟩ := R
  obtain ⟨A1, X1, Y1, S1, P1, PC1, cyc1, jam1⟩ := Q
  have z0 := tl_no3 no.1
  have z1 := tl_no3 no.2.1
  have z2 := tl_no3 no.2.2.1
  have AM := ramong4 op false (nof_any no)
  clear no hop hk H hr
  unfold cdV hdV RG.val b3 at *
  dsimp only at PLN FL ⊢
  generalize h.length = n at *
  go_enter Tryz.func96, Tryz.ntmps96
  go_wp2_with (first | (go_at_call 151; refine (AM _ _ _ (by simp)).mono ?_; rintro e w1 ⟨rfl, rfl⟩) | (go_at_call 91; with_reducible refine (rcut16 _ _).mono ?_; rintro e w1 ⟨rfl, hw⟩; subst hw))
  generalize hW : World.alloc _ _ = W
  have lt9 : w.heap.size + 1 + 1 < W.heap.size := by rw [← hW]; simp only [World.size_alloc]; omega
  have lt8 : w.heap.size + 1 < W.heap.size := by omega
  have lt7 : w.heap.size < W.heap.size := by omega
  have hB : Below w.heap.size w W := by rw [← hW]; go_grown
  have i0 : W.cell? ⟨w.heap.size, 0, none⟩ = some (.string op) := by rw [← hW]; clear hW; go_cell
  have j0 : W.cell? ⟨w.heap.size + 1, 0, none⟩ = some (.int .i64 A) := by rw [← hW]; clear hW; go_cell
  have j1 : W.cell? ⟨w.heap.size + 1, 1, none⟩ = some (.int .i64 X) := by rw [← hW]; clear hW; go_cell
  have j2 : W.cell? ⟨w.heap.size + 1, 2, none⟩ = some (.int .i64 Y) := by rw [← hW]; clear hW; go_cell
  have j3 : W.cell? ⟨w.heap.size + 1, 3, none⟩ = some (.int .i64 S) := by rw [← hW]; clear hW; go_cell
  have j4 : W.cell? ⟨w.heap.size + 1, 4, none⟩ = some (.int .i64 P) := by rw [← hW]; clear hW; go_cell
  first | (have j5 : W.cell? ⟨w.heap.size + 1, 5, none⟩ = some (.int .i64 ((PC + 2) % 65536)) := (by rw [← hW]; clear hW; go_cell)) | (have j5 : W.cell? ⟨w.heap.size + 1, 5, none⟩ = some (.int .i64 ((PC + 3) % 65536)) := (by rw [← hW]; clear hW; go_cell)) | (have j5 : W.cell? ⟨w.heap.size + 1, 5, none⟩ = some (.int .i64 ((PC + 1) % 65536)) := (by rw [← hW]; clear hW; go_cell))
  have j6 : W.cell? ⟨w.heap.size + 1, 6, none⟩ = some (.int .i64 cyc) := by rw [← hW]; clear hW; go_cell
  have j7 : W.cell? ⟨w.heap.size + 1, 7, none⟩ = some (.bool jam) := by rw [← hW]; clear hW; go_cell
  have jf : ∀ o, W.frozen? ⟨w.heap.size + 1, o, none⟩ = false := by intro o; rw [← hW]; clear hW; go_cell
  have k0 : W.cell? ⟨w.heap.size + 1 + 1, 0, none⟩ = some (.int .i64 0) := by rw [← hW]; clear hW; go_cell
  have k1 : W.cell? ⟨w.heap.size + 1 + 1, 1, none⟩ = some (.int .i64 0) := by rw [← hW]; clear hW; go_cell
  have k2 : W.cell? ⟨w.heap.size + 1 + 1, 2, none⟩ = some (.int .i64 0) := by rw [← hW]; clear hW; go_cell
  have k3 : W.cell? ⟨w.heap.size + 1 + 1, 3, none⟩ = some (.int .i64 0) := by rw [← hW]; clear hW; go_cell
  have k4 : W.cell? ⟨w.heap.size + 1 + 1, 4, none⟩ = some (.int .i64 0) := by rw [← hW]; clear hW; go_cell
  have k5 : W.cell? ⟨w.heap.size + 1 + 1, 5, none⟩ = some (.int .i64 0) := by rw [← hW]; clear hW; go_cell
  have k6 : W.cell? ⟨w.heap.size + 1 + 1, 6, none⟩ = some (.int .i64 0) := by rw [← hW]; clear hW; go_cell
  have k7 : W.cell? ⟨w.heap.size + 1 + 1, 7, none⟩ = some (.bool false) := by rw [← hW]; clear hW; go_cell
  have kf : ∀ o, W.frozen? ⟨w.heap.size + 1 + 1, o, none⟩ = false := by intro o; rw [← hW]; clear hW; go_cell
  have n3 : w.heap.size ≠ w.heap.size + 1 + 1 := by omega
  have n4 : w.heap.size + 1 + 1 ≠ w.heap.size := by omega
  clear hW
  go_region_held3 (fun w' => w'.cell? ⟨w.heap.size, 0, none⟩ = some (.string op) ∧ w'.cell? ⟨w.heap.size + 1, 0, none⟩ = some (.int .i64 A) ∧ w'.cell? ⟨w.heap.size + 1, 1, none⟩ = some (.int .i64 X) ∧ w'.cell? ⟨w.heap.size + 1, 2, none⟩ = some (.int .i64 Y) ∧ w'.cell? ⟨w.heap.size + 1, 3, none⟩ = some (.int .i64 S) ∧ w'.cell? ⟨w.heap.size + 1, 4, none⟩ = some (.int .i64 P) ∧ w'.cell? ⟨w.heap.size + 1, 5, none⟩ = some (.int .i64 ((PC + 1) % 65536)) ∧ w'.cell? ⟨w.heap.size + 1, 6, none⟩ = some (.int .i64 cyc) ∧ w'.cell? ⟨w.heap.size + 1, 7, none⟩ = some (.bool jam)) (go_keep) (first | (go_at_call 155; refine (PLN _).mono ?_; rintro e w1 ⟨rfl, hb⟩; obtain ⟨ca, fa, sz1, bl⟩ := held_r hb; have s1 := (ca _ 0 lt7).trans i0; have s2 := (ca _ 0 lt8).trans j0; have s3 := (ca _ 1 lt8).trans j1; have s4 := (ca _ 2 lt8).trans j2; have s5 := (ca _ 3 lt8).trans j3; have s6 := (ca _ 4 lt8).trans j4; have s7 := (ca _ 5 lt8).trans j5; have s8 := (ca _ 6 lt8).trans j6; have s9 := (ca _ 7 lt8).trans j7; have q0 := (ca _ 0 lt9).trans k0; have q1 := (ca _ 1 lt9).trans k1; have q2 := (ca _ 2 lt9).trans k2; have q3 := (ca _ 3 lt9).trans k3; have q4 := (ca _ 4 lt9).trans k4; have q5 := (ca _ 5 lt9).trans k5; have q6 := (ca _ 6 lt9).trans k6; have q7 := (ca _ 7 lt9).trans k7; have qf := fun o => (fa _ o lt9).trans (kf o); have hC := hB.trans (bl.mono hB.size); have lu9 := Nat.lt_of_lt_of_le lt9 sz1; have lu8 := Nat.lt_of_lt_of_le lt8 sz1; have lu7 := Nat.lt_of_lt_of_le lt7 sz1; clear hb ca fa bl) | (go_at_call 152; refine (FL _ hC).mono ?_; rintro e w2 ⟨rfl, hb⟩; obtain ⟨ca, fa, sz2, bl⟩ := held_p hb; have t1 := (ca _ 0 lu7).trans s1; have t2 := (ca _ 0 lu8).trans s2; have t3 := (ca _ 1 lu8).trans s3; have t4 := (ca _ 2 lu8).trans s4; have t5 := (ca _ 3 lu8).trans s5; have t6 := (ca _ 4 lu8).trans s6; have t7 := (ca _ 5 lu8).trans s7; have t8 := (ca _ 6 lu8).trans s8; have t9 := (ca _ 7 lu8).trans s9; have u0 := (ca _ 0 lu9).trans q0; have u1 := (ca _ 1 lu9).trans q1; have u2 := (ca _ 2 lu9).trans q2; have u3 := (ca _ 3 lu9).trans q3; have u4 := (ca _ 4 lu9).trans q4; have u5 := (ca _ 5 lu9).trans q5; have u6 := (ca _ 6 lu9).trans q6; have u7 := (ca _ 7 lu9).trans q7; have uf := fun o => (fa _ o lu9).trans (qf o); have hD := hC.trans (bl.mono hC.size); have lv9 := Nat.lt_of_lt_of_le lu9 sz2; clear hb ca fa bl))
  all_goals (try (go_wp2_with fail))
  all_goals refine bodyPost_ret (v := RG.val ⟨A', X', Y', S', P', PC', cyc', jam'⟩) (by simp [results, Tryz.results96, go_sem, RG.val, u0, u1, u2, u3, u4, u5, u6, u7]) rfl ⟨rfl, by go_grown⟩
end

end Go.Proofs.YtcgjliflnnklnaaGreat
