/-
  The document's computer, walked: what a read does.
-/
import Derived.Test.YtcgjliflnnklnaaGreatRwDz
import Derived.Handy
namespace Go.Proofs.YtcgjliflnnklnaaGreat
open Go.RowKit
set_option maxRecDepth 100000
set_option maxHeartbeats 20000000

def lR : List BA := [b3 76 68 65, b3 76 68 88, b3 76 68 89, b3 65 78 68, b3 79 82 65, b3 69 79 82, b3 65 68 67, b3 83 66 67, b3 67 77 80, b3 67 80 88, b3 67 80 89, b3 66 73 84]
/-- The registers hold bytes. -/
structure RgR (r : RG) : Prop where
  a : 0 ≤ r.A ∧ r.A < 256
  x : 0 ≤ r.X ∧ r.X < 256
  y : 0 ≤ r.Y ∧ r.Y < 256
  s : 0 ≤ r.S ∧ r.S < 256
  p : 0 ≤ r.P ∧ r.P < 256
  pc : 0 ≤ r.PC ∧ r.PC < 65536
theorem rloads (op : BA) (hop : op ∈ lR) (r : RG) (m : Int) (hr : RgR r) (m0 : 0 ≤ m) (m1 : m < 256) (w : World) :
    Calls Tryz.prog 158 #[.string op, r.val, .int .i64 m] w fun e w' => e = .returned (loadsR op r m).val ∧ Below w.heap.size w w' := by
  obtain ⟨A, X, Y, S, P, PC, cyc, jam⟩ := r
  have a0 : 0 ≤ A ∧ A < 256 := hr.a
  have x0 : 0 ≤ X ∧ X < 256 := hr.x
  have y0 : 0 ≤ Y ∧ Y < 256 := hr.y
  have p0 : 0 ≤ P ∧ P < 256 := hr.p
  clear hr
  unfold lR at hop
  simp only [List.mem_cons, List.not_mem_nil, or_false] at hop
  rcases hop with rfl | rfl | rfl | rfl | rfl | rfl | rfl | rfl | rfl | rfl | rfl | rfl
  all_goals
    go_enter Tryz.func158, Tryz.ntmps158
    unfold b3 RG.val
    go_wp2_with (first | (go_at_call 196; refine (rnz _ _ _).mono ?_; rintro e w1 ⟨rfl, hw⟩; subst hw) | (go_at_call 198; refine (radded ⟨A, X, Y, S, P, PC, cyc, jam⟩ _ a0.1 a0.2 (by omega) (by omega) p0.1 p0.2 _).mono ?_; rintro e w1 ⟨rfl, o1, o2, rfl⟩; simp only [RG.val]) | (go_at_call 199; refine (rcompared ⟨A, X, Y, S, P, PC, cyc, jam⟩ _ m (by omega) (by omega) m0 m1 _).mono ?_; rintro e w1 ⟨rfl, o1, o2, rfl⟩; simp only [RG.val]))
    all_goals (try (go_region_with (first | (go_at_call 196; refine (rnz _ _ _).mono ?_; rintro e w1 ⟨rfl, hw⟩; subst hw) | (go_at_call 198; refine (radded ⟨A, X, Y, S, P, PC, cyc, jam⟩ _ a0.1 a0.2 (by omega) (by omega) p0.1 p0.2 _).mono ?_; rintro e w1 ⟨rfl, o1, o2, rfl⟩; simp only [RG.val]) | (go_at_call 199; refine (rcompared ⟨A, X, Y, S, P, PC, cyc, jam⟩ _ m (by omega) (by omega) m0 m1 _).mono ?_; rintro e w1 ⟨rfl, o1, o2, rfl⟩; simp only [RG.val]))))
    all_goals (try go_wp2)
    all_goals go_returns
    all_goals exact ⟨rfl, by go_grown⟩

end Go.Proofs.YtcgjliflnnklnaaGreat
