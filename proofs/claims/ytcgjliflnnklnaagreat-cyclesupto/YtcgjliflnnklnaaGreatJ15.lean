/-
  Joined texts.
-/
import Derived.Handy
import Derived.Test.YtcgjliflnnklnaaGreatRwHz
import Derived.Test.YtcgjliflnnklnaaGreatJ07
import Derived.Test.YtcgjliflnnklnaaGreatJ04
import Derived.Test.YtcgjliflnnklnaaGreatJ06
namespace Go.Proofs.YtcgjliflnnklnaaGreat
open Go.RowKit

/-
  The document's computer, walked: the cycle that comes next, of sequences, pulls and jumps.
-/
section
set_option maxRecDepth 100000
set_option maxHeartbeats 20000000

theorem next_seq (op md : BA) (hop : op = b3 78 77 73 ∨ op = b3 73 82 81 ∨ op = b3 66 82 75) (r : RG) (hr : RgR r) (b cap : Nat) (h : List Int) (h1 : 1 ≤ h.length) (hl : h.length ≤ 100) (w : World) (H : HdAt w b h) :
    Calls Tryz.prog 92 #[cdV op md, r.val, hdV b h cap] w fun e w' => e = .returned (ruleV (nextR op md r h)) ∧ Below w.heap.size w w' := by
  have _u := hl
  have _v := H
  clear _u _v
  rw [show nextR op md r h = entersR op r h.length from by unfold nextR; rw [if_pos hop]]
  have C := fun w' (_ : Below w.heap.size w w') => renters op md hop r hr h.length h1 w'
  obtain ⟨A, X, Y, S, P, PC, cyc, jam⟩ := r
  have s0 : 0 ≤ S ∧ S < 256 := hr.s
  have c0 : 0 ≤ PC ∧ PC < 65536 := hr.pc
  generalize entersR op ⟨A, X, Y, S, P, PC, cyc, jam⟩ h.length = q at *
  obtain ⟨⟨ad, wr, da, ft⟩, ok⟩ := q
  unfold ruleV Act.val cdV hdV RG.val at *
  dsimp only at C ⊢
  generalize h.length = n at *
  clear H hr
  rcases hop with rfl | rfl | rfl
  all_goals
    unfold b3 at *
    go_enter Tryz.func92, Tryz.ntmps92
    go_wp2_with (go_at_call 141; refine (C _ ?fl).mono ?_; (case fl => go_grown); rintro e w1 ⟨rfl, hb⟩; obtain ⟨-, -, g2, lt9, hB⟩ := own3 hb; obtain ⟨k0, k1, k2, k3, kf⟩ := row4 g2; clear hb g2)
    refine bodyPost_ret (v := ruleV (⟨ad, wr, da, ft⟩, ok)) (by simp [results, Tryz.results92, go_sem, ruleV, Act.val, k0, k1, k2, k3]) rfl ⟨rfl, by go_grown⟩
theorem next_pull (op md : BA) (hop : op ∈ lP) (r : RG) (hr : RgR r) (b cap : Nat) (h : List Int) (h1 : 1 ≤ h.length) (hl : h.length ≤ 100) (w : World) (H : HdAt w b h) :
    Calls Tryz.prog 92 #[cdV op md, r.val, hdV b h cap] w fun e w' => e = .returned (ruleV (nextR op md r h)) ∧ Below w.heap.size w w' := by
  have _u := hl
  have _v := H
  clear _u _v
  have e : nextR op md r h = pullsR op r h := by
    unfold lP at hop
    simp only [List.mem_cons, List.not_mem_nil, or_false] at hop
    rcases hop with rfl | rfl | rfl | rfl <;> rfl
  rw [e]
  have C := fun w' (hb : Below w.heap.size w w') => rpulls op md hop r hr b cap h h1 hl w' (H.later hb)
  obtain ⟨A, X, Y, S, P, PC, cyc, jam⟩ := r
  have s0 : 0 ≤ S ∧ S < 256 := hr.s
  have c0 : 0 ≤ PC ∧ PC < 65536 := hr.pc
  generalize pullsR op ⟨A, X, Y, S, P, PC, cyc, jam⟩ h = q at *
  obtain ⟨⟨ad, wr, da, ft⟩, ok⟩ := q
  unfold ruleV Act.val cdV hdV RG.val at *
  dsimp only at C ⊢
  generalize h.length = n at *
  clear H hr e
  unfold lP at hop
  simp only [List.mem_cons, List.not_mem_nil, or_false] at hop
  rcases hop with rfl | rfl | rfl | rfl
  all_goals
    unfold b3 at *
    go_enter Tryz.func92, Tryz.ntmps92
    go_wp2_with (go_at_call 145; refine (C _ ?fl).mono ?_; (case fl => go_grown); rintro e w1 ⟨rfl, hb⟩; obtain ⟨-, -, g2, lt9, hB⟩ := own3 hb; obtain ⟨k0, k1, k2, k3, kf⟩ := row4 g2; clear hb g2)
    refine bodyPost_ret (v := ruleV (⟨ad, wr, da, ft⟩, ok)) (by simp [results, Tryz.results92, go_sem, ruleV, Act.val, k0, k1, k2, k3]) rfl ⟨rfl, by go_grown⟩
theorem next_jump (md : BA) (hmd : md ∈ mJ) (r : RG) (hr : RgR r) (b cap : Nat) (h : List Int) (h1 : 1 ≤ h.length) (hl : h.length ≤ 100) (w : World) (H : HdAt w b h) :
    Calls Tryz.prog 92 #[cdV (b3 74 77 80) md, r.val, hdV b h cap] w fun e w' => e = .returned (ruleV (nextR (b3 74 77 80) md r h)) ∧ Below w.heap.size w w' := by
  have _u := hl
  have _v := H
  clear _u _v
  rw [show nextR (b3 74 77 80) md r h = jumpsR md r h from rfl]
  have C := fun w' (hb : Below w.heap.size w w') => rjumps md hmd r hr b cap h h1 hl w' (H.later hb)
  obtain ⟨A, X, Y, S, P, PC, cyc, jam⟩ := r
  have s0 : 0 ≤ S ∧ S < 256 := hr.s
  have c0 : 0 ≤ PC ∧ PC < 65536 := hr.pc
  generalize jumpsR md ⟨A, X, Y, S, P, PC, cyc, jam⟩ h = q at *
  obtain ⟨⟨ad, wr, da, ft⟩, ok⟩ := q
  unfold ruleV Act.val cdV hdV RG.val at *
  dsimp only at C ⊢
  generalize h.length = n at *
  clear H hr hmd
  unfold b3 at *
  go_enter Tryz.func92, Tryz.ntmps92
  go_wp2_with (go_at_call 146; refine (C _ ?fl).mono ?_; (case fl => go_grown); rintro e w1 ⟨rfl, hb⟩; obtain ⟨-, -, g2, lt9, hB⟩ := own3 hb; obtain ⟨k0, k1, k2, k3, kf⟩ := row4 g2; clear hb g2)
  refine bodyPost_ret (v := ruleV (⟨ad, wr, da, ft⟩, ok)) (by simp [results, Tryz.results92, go_sem, ruleV, Act.val, k0, k1, k2, k3]) rfl ⟨rfl, by go_grown⟩
end

/-
  The document's computer, walked: the registers behind an instruction: it wrote.
-/
section
set_option maxRecDepth 100000
set_option maxHeartbeats 20000000

def mB : List BA := [b2 122 112, b3 122 112 120, b3 122 112 121, b3 97 98 115, b3 97 98 120, b3 97 98 121, b3 105 122 120, b3 105 122 121, b3 105 109 109]
theorem done_placed' (op md : BA) (r : RG) (h : List Int) (hf : farR op = false) (m1 : md ≠ (b3 105 109 112)) (m2 : md ≠ (b3 97 99 99)) (m4 : md ≠ (b3 114 101 108)) :
    doneR op md r h = (if kindR op = 119 then { r with PC := (r.PC + sizeR md) % 65536 } else if kindR op = 99 then { r with PC := (r.PC + sizeR md) % 65536, P := (changedR op (hd h (h.length - 3)) r.P).2 } else loadsR op { r with PC := (r.PC + sizeR md) % 65536 } (hd h (h.length - 1))) := by
  unfold doneR
  rw [if_neg (by rw [hf]; decide)]
  have e0 : (if md = (b3 114 101 108) ∧ takenR op r.P = true then goalR r (hd h 1) else (r.PC + sizeR md) % 65536) = (r.PC + sizeR md) % 65536 := if_neg (fun q => m4 q.1)
  simp only [e0]
  rw [if_neg m1, if_neg m2]
  by_cases e : kindR op = 119
  · rw [if_pos (.inr e), if_pos e]
  · rw [if_neg (by intro q; rcases q with q | q; exact m4 q; exact e q), if_neg e]
theorem no_B {md : BA} (h : md ∈ mB) : md ≠ (b3 105 109 112) ∧ md ≠ (b3 97 99 99) ∧ md ≠ (b3 114 101 108) := by
  unfold mB at h
  simp only [List.mem_cons, List.not_mem_nil, or_false] at h
  rcases h with rfl | rfl | rfl | rfl | rfl | rfl | rfl | rfl | rfl
  all_goals decide
theorem done_w (op md : BA) (hop : op ∈ lW) (hmd : md ∈ mB) (r : RG) (hr : RgR r) (b cap : Nat) (h : List Int) (hl : h.length ≤ 100) (w : World) (H : HdAt w b h) :
    Calls Tryz.prog 96 #[cdV op md, r.val, hdV b h cap] w fun e w' => e = .returned (doneR op md r h).val ∧ Below w.heap.size w w' := by
  have _v := H
  have _u := hl
  clear _u _v
  have no := nof_W hop
  have KD := fun w => rkind op md w
  have hk : kindR op = 119 := by unfold lW at hop; simp only [List.mem_cons, List.not_mem_nil, or_false] at hop; rcases hop with rfl | rfl | rfl <;> rfl
  rw [hk] at KD
  have nb := no_B hmd
  unfold mB at hmd
  simp only [List.mem_cons, List.not_mem_nil, or_false] at hmd
  have e : doneR op md r h = { r with PC := (r.PC + sizeR md) % 65536 } := by rw [done_placed' op md r h (nof_far no) nb.1 nb.2.1 nb.2.2, if_pos hk]
  clear nb
  rw [e]
  clear e hk
  obtain ⟨A, X, Y, S, P, PC, cyc, jam⟩ := r
  have c0 : 0 ≤ PC ∧ PC < 65536 := hr.pc
  have z0 := tl_no3 no.1
  have z1 := tl_no3 no.2.1
  have z2 := tl_no3 no.2.2.1
  have AM := ramong4 op false (nof_any no)
  clear no hop H hr
  unfold cdV hdV RG.val at *
  generalize h.length = n at *
  rcases hmd with rfl | rfl | rfl | rfl | rfl | rfl | rfl | rfl | rfl
  all_goals
    try unfold b3 at *
    try unfold b2 at *
    go_enter Tryz.func96, Tryz.ntmps96
    go_wp2_with (first | (go_at_call 151; refine (AM _ _ _ (by simp)).mono ?_; rintro e w1 ⟨rfl, rfl⟩) | (go_at_call 91; with_reducible refine (rcut16 _ _).mono ?_; rintro e w1 ⟨rfl, hw⟩; subst hw) | (go_at_call 157; refine (KD _).mono ?_; rintro e w1 ⟨rfl, o1, o2, o3, rfl⟩))
    all_goals (try (go_quiet (fail)))
    all_goals (try (go_wp2_with (first | (go_at_call 151; refine (AM _ _ _ (by simp)).mono ?_; rintro e w1 ⟨rfl, rfl⟩) | (go_at_call 91; with_reducible refine (rcut16 _ _).mono ?_; rintro e w1 ⟨rfl, hw⟩; subst hw) | (go_at_call 157; refine (KD _).mono ?_; rintro e w1 ⟨rfl, o1, o2, o3, rfl⟩))))
    all_goals (try (go_region_with (first | (go_at_call 151; refine (AM _ _ _ (by simp)).mono ?_; rintro e w1 ⟨rfl, rfl⟩) | (go_at_call 91; with_reducible refine (rcut16 _ _).mono ?_; rintro e w1 ⟨rfl, hw⟩; subst hw) | (go_at_call 157; refine (KD _).mono ?_; rintro e w1 ⟨rfl, o1, o2, o3, rfl⟩))))
    all_goals (try (go_wp2_with (first | (go_at_call 151; refine (AM _ _ _ (by simp)).mono ?_; rintro e w1 ⟨rfl, rfl⟩) | (go_at_call 91; with_reducible refine (rcut16 _ _).mono ?_; rintro e w1 ⟨rfl, hw⟩; subst hw) | (go_at_call 157; refine (KD _).mono ?_; rintro e w1 ⟨rfl, o1, o2, o3, rfl⟩))))
    all_goals go_returns
    all_goals exact ⟨rfl, by go_grown⟩
end

end Go.Proofs.YtcgjliflnnklnaaGreat
