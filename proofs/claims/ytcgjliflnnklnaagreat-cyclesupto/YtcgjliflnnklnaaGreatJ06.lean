/-
  Joined texts.
-/
import Derived.Handy
import Derived.Test.YtcgjliflnnklnaaGreatRwEz
import Derived.Test.YtcgjliflnnklnaaGreatRwFz
import Derived.Test.YtcgjliflnnklnaaGreatRwJz
import Derived.Test.YtcgjliflnnklnaaGreatJ14
namespace Go.Proofs.YtcgjliflnnklnaaGreat
open Go.RowKit

/-
  The document's computer, walked: an address with something added.
-/
section
set_option maxRecDepth 100000
set_option maxHeartbeats 2000000

/-- What a place hands back. -/
def plV (q : Int × Int × Act × Bool) : Value := .tuple #[.int .i64 q.1, .int .i64 q.2.1, q.2.2.1.val, .bool q.2.2.2]
theorem ix_a (op md : BA) (lo hi ix n at_ : Int) (l0 : 0 ≤ lo ∧ lo < 256) (h0 : 0 ≤ hi ∧ hi < 256) (i0 : 0 ≤ ix ∧ ix < 256) (a0 : 0 ≤ at_ ∧ at_ < 100) (hk : kindR op = 114) (he : ((lo + ix) % 256 + 256 * hi) = ((lo + ix + 256 * hi) % 65536)) (w : World) :
    Calls Tryz.prog 194 #[cdV op md, .int .i64 lo, .int .i64 hi, .int .i64 ix, .int .i64 n, .int .i64 at_] w fun e w' => e = .returned (plV (((lo + ix + 256 * hi) % 65536), at_, Act.nil, true)) ∧ ∃ o1 o2 o3 o4 o5, w' = ((((w.alloc o1).alloc o2).alloc o3).alloc o4).alloc o5 := by
  have := l0
  have := h0
  have := i0
  have := a0
  have KD := fun w => rkind op md w
  unfold cdV at *
  rw [hk] at KD
  go_enter Tryz.func194, Tryz.ntmps194
  go_wp2_with (first | (go_at_call 157; refine (KD _).mono ?_; rintro e w1 ⟨rfl, o1, o2, o3, rfl⟩) | (go_at_call 91; with_reducible refine (rcut8 _ _).mono ?_; rintro e w1 ⟨rfl, hw⟩; subst hw) | (go_at_call 91; with_reducible refine (rcut16 _ _).mono ?_; rintro e w1 ⟨rfl, hw⟩; subst hw))
  all_goals refine bodyPost_ret (v := plV (((lo + ix + 256 * hi) % 65536), at_, Act.nil, true)) (by simp [results, Tryz.results194, go_sem, plV, Act.val, Act.nil]) rfl (And.intro rfl ?_)
  all_goals exact ⟨_, _, _, _, _, rfl⟩
theorem ix_b (op md : BA) (lo hi ix n at_ : Int) (l0 : 0 ≤ lo ∧ lo < 256) (h0 : 0 ≤ hi ∧ hi < 256) (i0 : 0 ≤ ix ∧ ix < 256) (a0 : 0 ≤ at_ ∧ at_ < 100) (hk : kindR op = 114) (he : ¬ ((lo + ix) % 256 + 256 * hi) = ((lo + ix + 256 * hi) % 65536)) (hn : n = at_) (w : World) :
    Calls Tryz.prog 194 #[cdV op md, .int .i64 lo, .int .i64 hi, .int .i64 ix, .int .i64 n, .int .i64 at_] w fun e w' => e = .returned (plV (0, 0, ⟨((lo + ix) % 256 + 256 * hi), false, 0, false⟩, false)) ∧ ∃ o1 o2 o3 o4 o5, w' = ((((w.alloc o1).alloc o2).alloc o3).alloc o4).alloc o5 := by
  have := l0
  have := h0
  have := i0
  have := a0
  have KD := fun w => rkind op md w
  unfold cdV at *
  rw [hk] at KD
  subst hn
  go_enter Tryz.func194, Tryz.ntmps194
  go_wp2_with (first | (go_at_call 157; refine (KD _).mono ?_; rintro e w1 ⟨rfl, o1, o2, o3, rfl⟩) | (go_at_call 91; with_reducible refine (rcut8 _ _).mono ?_; rintro e w1 ⟨rfl, hw⟩; subst hw) | (go_at_call 91; with_reducible refine (rcut16 _ _).mono ?_; rintro e w1 ⟨rfl, hw⟩; subst hw))
  all_goals refine bodyPost_ret (v := plV (0, 0, ⟨((lo + ix) % 256 + 256 * hi), false, 0, false⟩, false)) (by simp [results, Tryz.results194, go_sem, plV, Act.val]) rfl (And.intro rfl ?_)
  all_goals exact ⟨_, _, _, _, _, rfl⟩
theorem ix_c (op md : BA) (lo hi ix n at_ : Int) (l0 : 0 ≤ lo ∧ lo < 256) (h0 : 0 ≤ hi ∧ hi < 256) (i0 : 0 ≤ ix ∧ ix < 256) (a0 : 0 ≤ at_ ∧ at_ < 100) (hk : kindR op = 114) (he : ¬ ((lo + ix) % 256 + 256 * hi) = ((lo + ix + 256 * hi) % 65536)) (hn : ¬ n = at_) (w : World) :
    Calls Tryz.prog 194 #[cdV op md, .int .i64 lo, .int .i64 hi, .int .i64 ix, .int .i64 n, .int .i64 at_] w fun e w' => e = .returned (plV (((lo + ix + 256 * hi) % 65536), at_ + 1, Act.nil, true)) ∧ ∃ o1 o2 o3 o4 o5, w' = ((((w.alloc o1).alloc o2).alloc o3).alloc o4).alloc o5 := by
  have := l0
  have := h0
  have := i0
  have := a0
  have KD := fun w => rkind op md w
  unfold cdV at *
  rw [hk] at KD
  go_enter Tryz.func194, Tryz.ntmps194
  go_wp2_with (first | (go_at_call 157; refine (KD _).mono ?_; rintro e w1 ⟨rfl, o1, o2, o3, rfl⟩) | (go_at_call 91; with_reducible refine (rcut8 _ _).mono ?_; rintro e w1 ⟨rfl, hw⟩; subst hw) | (go_at_call 91; with_reducible refine (rcut16 _ _).mono ?_; rintro e w1 ⟨rfl, hw⟩; subst hw))
  all_goals refine bodyPost_ret (v := plV (((lo + ix + 256 * hi) % 65536), at_ + 1, Act.nil, true)) (by simp [results, Tryz.results194, go_sem, plV, Act.val, Act.nil]) rfl (And.intro rfl ?_)
  all_goals exact ⟨_, _, _, _, _, rfl⟩
theorem ix_d (op md : BA) (lo hi ix n at_ : Int) (l0 : 0 ≤ lo ∧ lo < 256) (h0 : 0 ≤ hi ∧ hi < 256) (i0 : 0 ≤ ix ∧ ix < 256) (a0 : 0 ≤ at_ ∧ at_ < 100) (hk : ¬ kindR op = 114) (hn : n = at_) (w : World) :
    Calls Tryz.prog 194 #[cdV op md, .int .i64 lo, .int .i64 hi, .int .i64 ix, .int .i64 n, .int .i64 at_] w fun e w' => e = .returned (plV (0, 0, ⟨((lo + ix) % 256 + 256 * hi), false, 0, false⟩, false)) ∧ ∃ o1 o2 o3 o4 o5, w' = ((((w.alloc o1).alloc o2).alloc o3).alloc o4).alloc o5 := by
  have := l0
  have := h0
  have := i0
  have := a0
  have KD := fun w => rkind op md w
  unfold cdV at *
  generalize kindR op = kd at *
  subst hn
  go_enter Tryz.func194, Tryz.ntmps194
  go_wp2_with (first | (go_at_call 157; refine (KD _).mono ?_; rintro e w1 ⟨rfl, o1, o2, o3, rfl⟩) | (go_at_call 91; with_reducible refine (rcut8 _ _).mono ?_; rintro e w1 ⟨rfl, hw⟩; subst hw) | (go_at_call 91; with_reducible refine (rcut16 _ _).mono ?_; rintro e w1 ⟨rfl, hw⟩; subst hw))
  all_goals refine bodyPost_ret (v := plV (0, 0, ⟨((lo + ix) % 256 + 256 * hi), false, 0, false⟩, false)) (by simp [results, Tryz.results194, go_sem, plV, Act.val]) rfl (And.intro rfl ?_)
  all_goals exact ⟨_, _, _, _, _, rfl⟩
theorem ix_e (op md : BA) (lo hi ix n at_ : Int) (l0 : 0 ≤ lo ∧ lo < 256) (h0 : 0 ≤ hi ∧ hi < 256) (i0 : 0 ≤ ix ∧ ix < 256) (a0 : 0 ≤ at_ ∧ at_ < 100) (hk : ¬ kindR op = 114) (hn : ¬ n = at_) (w : World) :
    Calls Tryz.prog 194 #[cdV op md, .int .i64 lo, .int .i64 hi, .int .i64 ix, .int .i64 n, .int .i64 at_] w fun e w' => e = .returned (plV (((lo + ix + 256 * hi) % 65536), at_ + 1, Act.nil, true)) ∧ ∃ o1 o2 o3 o4 o5, w' = ((((w.alloc o1).alloc o2).alloc o3).alloc o4).alloc o5 := by
  have := l0
  have := h0
  have := i0
  have := a0
  have KD := fun w => rkind op md w
  unfold cdV at *
  generalize kindR op = kd at *
  go_enter Tryz.func194, Tryz.ntmps194
  go_wp2_with (first | (go_at_call 157; refine (KD _).mono ?_; rintro e w1 ⟨rfl, o1, o2, o3, rfl⟩) | (go_at_call 91; with_reducible refine (rcut8 _ _).mono ?_; rintro e w1 ⟨rfl, hw⟩; subst hw) | (go_at_call 91; with_reducible refine (rcut16 _ _).mono ?_; rintro e w1 ⟨rfl, hw⟩; subst hw))
  all_goals refine bodyPost_ret (v := plV (((lo + ix + 256 * hi) % 65536), at_ + 1, Act.nil, true)) (by simp [results, Tryz.results194, go_sem, plV, Act.val, Act.nil]) rfl (And.intro rfl ?_)
  all_goals exact ⟨_, _, _, _, _, rfl⟩
theorem rindexed (op md : BA) (lo hi ix n at_ : Int) (l0 : 0 ≤ lo ∧ lo < 256) (h0 : 0 ≤ hi ∧ hi < 256) (i0 : 0 ≤ ix ∧ ix < 256) (a0 : 0 ≤ at_ ∧ at_ < 100) (w : World) :
    Calls Tryz.prog 194 #[cdV op md, .int .i64 lo, .int .i64 hi, .int .i64 ix, .int .i64 n, .int .i64 at_] w fun e w' => e = .returned (plV (indexedR op lo hi ix n at_)) ∧ ∃ o1 o2 o3 o4 o5, w' = ((((w.alloc o1).alloc o2).alloc o3).alloc o4).alloc o5 := by
  unfold indexedR
  dsimp only
  by_cases hk : kindR op = 114
  · by_cases he : ((lo + ix) % 256 + 256 * hi) = ((lo + ix + 256 * hi) % 65536)
    · rw [if_pos ⟨hk, he⟩]; exact ix_a op md lo hi ix n at_ l0 h0 i0 a0 hk he w
    · rw [if_neg (fun h => he h.2)]
      by_cases hn : n = at_
      · rw [if_pos hn]; exact ix_b op md lo hi ix n at_ l0 h0 i0 a0 hk he hn w
      · rw [if_neg hn]; exact ix_c op md lo hi ix n at_ l0 h0 i0 a0 hk he hn w
  · rw [if_neg (fun h => hk h.1)]
    by_cases hn : n = at_
    · rw [if_pos hn]; exact ix_d op md lo hi ix n at_ l0 h0 i0 a0 hk hn w
    · rw [if_neg hn]; exact ix_e op md lo hi ix n at_ l0 h0 i0 a0 hk hn w
end

/-
  The document's computer, walked: the registers behind an instruction that goes on, in the main.
-/
section
theorem rflowsS (op : BA) (r : RG) (s0 : 0 ≤ r.S ∧ r.S < 256) (b cap : Nat) (h : List Int) (hl : h.length ≤ 100) (hk : FlOk op h.length) (w : World) (H : HdAt w b h) :
    Calls Tryz.prog 152 #[.string op, r.val, hdV b h cap] w fun e w' => e = .returned (flowsR op r h).val ∧ Below w.heap.size w w' := by
  obtain ⟨A, X, Y, S, P, PC, cyc, jam⟩ := r
  rcases hk with ⟨h1 | h1 | h1, hn⟩ | ⟨h1 | h1 | h1, hn⟩ | ⟨h1 | h1, hn⟩ | ⟨h1, hn | hn⟩ | h1
  · rw [h1]; exact flw_NMI A X Y S P PC cyc jam b cap h w H hl s0 hn
  · rw [h1]; exact flw_IRQ A X Y S P PC cyc jam b cap h w H hl s0 hn
  · rw [h1]; exact flw_BRK A X Y S P PC cyc jam b cap h w H hl s0 hn
  · rw [h1]; exact flw_JSR A X Y S P PC cyc jam b cap h w H hl s0 hn
  · rw [h1]; exact flw_RTS A X Y S P PC cyc jam b cap h w H hl s0 hn
  · rw [h1]; exact flw_RTI A X Y S P PC cyc jam b cap h w H hl s0 hn
  · rw [h1]; exact flw_PLA A X Y S P PC cyc jam b cap h w H hl s0 hn
  · rw [h1]; exact flw_PLP A X Y S P PC cyc jam b cap h w H hl s0 hn
  · rw [h1, show flowsR (b3 74 77 80) ⟨A, X, Y, S, P, PC, cyc, jam⟩ h = ⟨A, X, Y, S, P, hd h 1 + 256 * hd h 2, cyc, jam⟩ from by show RG.mk A X Y S P (hd h (h.length - 2) + 256 * hd h (h.length - 1)) cyc jam = _; rw [hn]]; exact flw_JMP3 A X Y S P PC cyc jam b cap h w H hn
  · rw [h1, show flowsR (b3 74 77 80) ⟨A, X, Y, S, P, PC, cyc, jam⟩ h = ⟨A, X, Y, S, P, hd h 3 + 256 * hd h 4, cyc, jam⟩ from by show RG.mk A X Y S P (hd h (h.length - 2) + 256 * hd h (h.length - 1)) cyc jam = _; rw [hn]]; exact flw_JMP5 A X Y S P PC cyc jam b cap h w H hn
  · exact flw_plain op h1 _ b cap h w

theorem plain_s {op : BA} (hop : op ∈ lI) {r : RG} (hr : RgR r) : 0 ≤ (plainR op r).S ∧ (plainR op r).S < 256 := by
  have s := hr.s
  unfold lI at hop
  simp only [List.mem_cons, List.not_mem_nil, or_false] at hop
  rcases hop with rfl | rfl | rfl | rfl | rfl | rfl | rfl | rfl | rfl | rfl | rfl | rfl | rfl | rfl | rfl | rfl | rfl | rfl | rfl | rfl | rfl | rfl
  all_goals first | exact hr.s | exact hr.x | (show 0 ≤ (r.S - 1) % 256 ∧ (r.S - 1) % 256 < 256; omega)
/-- None of those that go elsewhere. -/
def NoF (op : BA) : Prop := op ≠ (b3 78 77 73) ∧ op ≠ (b3 73 82 81) ∧ op ≠ (b3 66 82 75) ∧ op ≠ (b3 74 83 82) ∧ op ≠ (b3 82 84 83) ∧ op ≠ (b3 82 84 73) ∧ op ≠ (b3 74 77 80)
theorem nof_far {op : BA} (h : NoF op) : farR op = false := by
  obtain ⟨a1, a2, a3, a4, a5, a6, a7⟩ := h
  unfold farR
  simp only [ba_beq, decide_eq_false a1, decide_eq_false a2, decide_eq_false a3, decide_eq_false a4, decide_eq_false a5, decide_eq_false a6, decide_eq_false a7, Bool.or_self]
theorem nof_any {op : BA} (h : NoF op) : (lFar.any fun s => decide (s = op)) = false := by
  obtain ⟨a1, a2, a3, a4, a5, a6, a7⟩ := h
  unfold lFar
  simp only [List.any_cons, List.any_nil, decide_eq_false (Ne.symm a4), decide_eq_false (Ne.symm a5), decide_eq_false (Ne.symm a6), decide_eq_false (Ne.symm a7), Bool.or_self]
theorem nof_I {op : BA} (hop : op ∈ lI) : NoF op := by
  unfold lI at hop
  simp only [List.mem_cons, List.not_mem_nil, or_false] at hop
  rcases hop with rfl | rfl | rfl | rfl | rfl | rfl | rfl | rfl | rfl | rfl | rfl | rfl | rfl | rfl | rfl | rfl | rfl | rfl | rfl | rfl | rfl | rfl
  all_goals (unfold NoF; decide)
theorem nof_R {op : BA} (hop : op ∈ lR) : NoF op := by
  unfold lR at hop
  simp only [List.mem_cons, List.not_mem_nil, or_false] at hop
  rcases hop with rfl | rfl | rfl | rfl | rfl | rfl | rfl | rfl | rfl | rfl | rfl | rfl
  all_goals (unfold NoF; decide)
theorem nof_W {op : BA} (hop : op ∈ lW) : NoF op := by
  unfold lW at hop
  simp only [List.mem_cons, List.not_mem_nil, or_false] at hop
  rcases hop with rfl | rfl | rfl
  all_goals (unfold NoF; decide)
theorem nof_C {op : BA} (hop : op ∈ lC) : NoF op := by
  unfold lC at hop
  simp only [List.mem_cons, List.not_mem_nil, or_false] at hop
  rcases hop with rfl | rfl | rfl | rfl | rfl | rfl
  all_goals (unfold NoF; decide)
theorem nof_B {op : BA} (hop : op ∈ lB) : NoF op := by
  unfold lB at hop
  simp only [List.mem_cons, List.not_mem_nil, or_false] at hop
  rcases hop with rfl | rfl | rfl | rfl | rfl | rfl | rfl | rfl
  all_goals (unfold NoF; decide)
theorem RgR.withPC {r : RG} (h : RgR r) (n : Int) : RgR { r with PC := n % 65536 } := ⟨h.a, h.x, h.y, h.s, h.p, by show 0 ≤ n % 65536 ∧ n % 65536 < 65536; omega⟩
end

end Go.Proofs.YtcgjliflnnklnaaGreat
