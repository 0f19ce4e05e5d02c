/-
  The document's computer, walked: the cycles of sequences.
-/
import Derived.Test.YtcgjliflnnklnaaGreatRwGz
import Derived.Handy
namespace Go.Proofs.YtcgjliflnnklnaaGreat
open Go.RowKit
set_option maxRecDepth 100000
set_option maxHeartbeats 20000000

theorem renters (op md : BA) (hop : op = b3 78 77 73 ∨ op = b3 73 82 81 ∨ op = b3 66 82 75) (r : RG) (hr : RgR r) (n : Nat) (h1 : 1 ≤ n) (w : World) :
    Calls Tryz.prog 141 #[cdV op md, r.val, .int .i64 (n : Int)] w fun e w' => e = .returned (ruleV (entersR op r n)) ∧ Below w.heap.size w w' := by
  obtain ⟨A, X, Y, S, P, PC, cyc, jam⟩ := r
  have s0 : 0 ≤ S ∧ S < 256 := hr.s
  have c0 : 0 ≤ PC ∧ PC < 65536 := hr.pc
  have e1 : PC.tdiv 256 = PC / 256 := Int.tdiv_eq_ediv_of_nonneg (by omega)
  have e2 : PC.tmod 256 = PC % 256 := Int.tmod_eq_emod_of_nonneg (by omega)
  have e3 : ((PC + 2) % 65536).tdiv 256 = (PC + 2) % 65536 / 256 := Int.tdiv_eq_ediv_of_nonneg (by omega)
  have e4 : ((PC + 2) % 65536).tmod 256 = (PC + 2) % 65536 % 256 := Int.tmod_eq_emod_of_nonneg (by omega)
  clear hr
  unfold cdV
  by_cases h7 : 7 ≤ n
  · rw [show entersR op ⟨A, X, Y, S, P, PC, cyc, jam⟩ (n : Int) = dnR from by
      unfold entersR
      dsimp only
      rw [if_neg (by omega), if_neg (by omega), if_neg (by omega), if_neg (by omega), if_neg (by omega), if_neg (by omega)]]
    have n1 : ¬ (n : Int) = 1 := by omega
    have n2 : ¬ (n : Int) = 2 := by omega
    have n3 : ¬ (n : Int) = 3 := by omega
    have n4 : ¬ (n : Int) = 4 := by omega
    have n5 : ¬ (n : Int) = 5 := by omega
    have n6 : ¬ (n : Int) = 6 := by omega
    rcases hop with rfl | rfl | rfl
    all_goals
      go_enter Tryz.func141, Tryz.ntmps141
      unfold b3 RG.val
      go_wp2_with (first | (go_at_call 91; with_reducible refine (rcut8 _ _).mono ?_; rintro e w1 ⟨rfl, hw⟩; subst hw) | (go_at_call 91; with_reducible refine (rcut16 _ _).mono ?_; rintro e w1 ⟨rfl, hw⟩; subst hw) | (go_at_call 142; refine (rread _ _).mono ?_; rintro e w1 ⟨rfl, o, rfl⟩; simp only [ruleV, Act.val, rdR]) | (go_at_call 143; refine (rwrite _ _ _).mono ?_; rintro e w1 ⟨rfl, o, rfl⟩; simp only [ruleV, Act.val, wrR]) | (go_at_call 144; refine (rdone _).mono ?_; rintro e w1 ⟨rfl, o, rfl⟩; simp only [ruleV, Act.val, dnR, Act.nil]))
      go_returns
      exact ⟨rfl, by go_grown⟩
  · rcases (show (n : Int) = 1 ∨ (n : Int) = 2 ∨ (n : Int) = 3 ∨ (n : Int) = 4 ∨ (n : Int) = 5 ∨ (n : Int) = 6 from by omega) with hn | hn | hn | hn | hn | hn
    all_goals
      rw [hn]
      rcases hop with rfl | rfl | rfl
      all_goals
        go_enter Tryz.func141, Tryz.ntmps141
        unfold b3 RG.val
        go_wp2_with (first | (go_at_call 91; with_reducible refine (rcut8 _ _).mono ?_; rintro e w1 ⟨rfl, hw⟩; subst hw) | (go_at_call 91; with_reducible refine (rcut16 _ _).mono ?_; rintro e w1 ⟨rfl, hw⟩; subst hw) | (go_at_call 142; refine (rread _ _).mono ?_; rintro e w1 ⟨rfl, o, rfl⟩; simp only [ruleV, Act.val, rdR]) | (go_at_call 143; refine (rwrite _ _ _).mono ?_; rintro e w1 ⟨rfl, o, rfl⟩; simp only [ruleV, Act.val, wrR]) | (go_at_call 144; refine (rdone _).mono ?_; rintro e w1 ⟨rfl, o, rfl⟩; simp only [ruleV, Act.val, dnR, Act.nil]))
        go_returns
        first
          | exact ⟨rfl, by go_grown⟩
          | (refine ⟨?_, by go_grown⟩; rw [← Int.emod_emod_of_dvd (PC + 2) (show (256 : Int) ∣ 65536 by decide)]; rfl)

end Go.Proofs.YtcgjliflnnklnaaGreat
