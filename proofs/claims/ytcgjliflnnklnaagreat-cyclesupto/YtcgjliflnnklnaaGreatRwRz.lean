/-
  The document's computer, walked: the cycles that read, write or change an address.
-/
import Derived.Test.YtcgjliflnnklnaaGreatRwGz
import Derived.Handy
namespace Go.Proofs.YtcgjliflnnklnaaGreat
open Go.RowKit
set_option maxRecDepth 100000
set_option maxHeartbeats 2000000

theorem us_wSTA (md : BA) (A X Y S P PC cyc : Int) (jam : Bool) (b cap : Nat) (h : List Int) (a : Int) (fr : Nat) (a0 : h.length ≤ 100 ∧ fr ≤ 100) (hn : h.length = fr) (w : World) :
    Calls Tryz.prog 149 #[cdV (b3 83 84 65) md, .agg #[.int .i64 A, .int .i64 X, .int .i64 Y, .int .i64 S, .int .i64 P, .int .i64 PC, .int .i64 cyc, .bool jam], hdV b h cap, .int .i64 a, .int .i64 (fr : Int)] w fun e w' => e = .returned (ruleV (wrR a A)) ∧ Below w.heap.size w w' := by
  have := a0
  have KD := fun w => rkind (b3 83 84 65) md w
  rw [show kindR (b3 83 84 65) = 119 from rfl] at KD
  have hz : IntKind.i64.wrap ((h.length : Int) - (fr : Int)) = 0 := by rw [IntKind.wrap_i64]; omega
  unfold b3 at *
  have s2 : ∀ q, (⟨#[83, 84, 65]⟩ : ByteArray)[2]'q = 65 := fun _ => rfl
  unfold cdV hdV at *
  generalize h.length = m at *
  go_enter Tryz.func149, Tryz.ntmps149
  go_wp2_with (first | (go_at_call 157; refine (KD _).mono ?_; rintro e w1 ⟨rfl, o1, o2, o3, rfl⟩) | (go_at_call 156; refine (CHG _).mono ?_; rintro e w1 ⟨rfl, hw⟩; subst hw) | (go_at_call 142; refine (rread _ _).mono ?_; rintro e w1 ⟨rfl, o, rfl⟩; simp only [ruleV, Act.val, rdR]) | (go_at_call 143; refine (rwrite _ _ _).mono ?_; rintro e w1 ⟨rfl, o, rfl⟩; simp only [ruleV, Act.val, wrR]) | (go_at_call 144; refine (rdone _).mono ?_; rintro e w1 ⟨rfl, o, rfl⟩; simp only [ruleV, Act.val, dnR, Act.nil]))
  go_region_with (first | (go_at_call 157; refine (KD _).mono ?_; rintro e w1 ⟨rfl, o1, o2, o3, rfl⟩) | (go_at_call 156; refine (CHG _).mono ?_; rintro e w1 ⟨rfl, hw⟩; subst hw) | (go_at_call 142; refine (rread _ _).mono ?_; rintro e w1 ⟨rfl, o, rfl⟩; simp only [ruleV, Act.val, rdR]) | (go_at_call 143; refine (rwrite _ _ _).mono ?_; rintro e w1 ⟨rfl, o, rfl⟩; simp only [ruleV, Act.val, wrR]) | (go_at_call 144; refine (rdone _).mono ?_; rintro e w1 ⟨rfl, o, rfl⟩; simp only [ruleV, Act.val, dnR, Act.nil]))
  all_goals go_wp2_with (first | (go_at_call 157; refine (KD _).mono ?_; rintro e w1 ⟨rfl, o1, o2, o3, rfl⟩) | (go_at_call 156; refine (CHG _).mono ?_; rintro e w1 ⟨rfl, hw⟩; subst hw) | (go_at_call 142; refine (rread _ _).mono ?_; rintro e w1 ⟨rfl, o, rfl⟩; simp only [ruleV, Act.val, rdR]) | (go_at_call 143; refine (rwrite _ _ _).mono ?_; rintro e w1 ⟨rfl, o, rfl⟩; simp only [ruleV, Act.val, wrR]) | (go_at_call 144; refine (rdone _).mono ?_; rintro e w1 ⟨rfl, o, rfl⟩; simp only [ruleV, Act.val, dnR, Act.nil]))
  all_goals refine bodyPost_ret (v := ruleV (wrR a A)) (by simp [results, Tryz.results149, go_sem, ruleV, Act.val, wrR]) rfl (And.intro rfl ?_)
  all_goals repeat (first | exact Below.refl _ _ | apply bw_drewN | apply bw_drew | apply bw_alloc | (refine bw_set ?_ (by omega)))
theorem us_wSTX (md : BA) (A X Y S P PC cyc : Int) (jam : Bool) (b cap : Nat) (h : List Int) (a : Int) (fr : Nat) (a0 : h.length ≤ 100 ∧ fr ≤ 100) (hn : h.length = fr) (w : World) :
    Calls Tryz.prog 149 #[cdV (b3 83 84 88) md, .agg #[.int .i64 A, .int .i64 X, .int .i64 Y, .int .i64 S, .int .i64 P, .int .i64 PC, .int .i64 cyc, .bool jam], hdV b h cap, .int .i64 a, .int .i64 (fr : Int)] w fun e w' => e = .returned (ruleV (wrR a X)) ∧ Below w.heap.size w w' := by
  have := a0
  have KD := fun w => rkind (b3 83 84 88) md w
  rw [show kindR (b3 83 84 88) = 119 from rfl] at KD
  have hz : IntKind.i64.wrap ((h.length : Int) - (fr : Int)) = 0 := by rw [IntKind.wrap_i64]; omega
  unfold b3 at *
  have s2 : ∀ q, (⟨#[83, 84, 88]⟩ : ByteArray)[2]'q = 88 := fun _ => rfl
  unfold cdV hdV at *
  generalize h.length = m at *
  go_enter Tryz.func149, Tryz.ntmps149
  go_wp2_with (first | (go_at_call 157; refine (KD _).mono ?_; rintro e w1 ⟨rfl, o1, o2, o3, rfl⟩) | (go_at_call 156; refine (CHG _).mono ?_; rintro e w1 ⟨rfl, hw⟩; subst hw) | (go_at_call 142; refine (rread _ _).mono ?_; rintro e w1 ⟨rfl, o, rfl⟩; simp only [ruleV, Act.val, rdR]) | (go_at_call 143; refine (rwrite _ _ _).mono ?_; rintro e w1 ⟨rfl, o, rfl⟩; simp only [ruleV, Act.val, wrR]) | (go_at_call 144; refine (rdone _).mono ?_; rintro e w1 ⟨rfl, o, rfl⟩; simp only [ruleV, Act.val, dnR, Act.nil]))
  go_region_with (first | (go_at_call 157; refine (KD _).mono ?_; rintro e w1 ⟨rfl, o1, o2, o3, rfl⟩) | (go_at_call 156; refine (CHG _).mono ?_; rintro e w1 ⟨rfl, hw⟩; subst hw) | (go_at_call 142; refine (rread _ _).mono ?_; rintro e w1 ⟨rfl, o, rfl⟩; simp only [ruleV, Act.val, rdR]) | (go_at_call 143; refine (rwrite _ _ _).mono ?_; rintro e w1 ⟨rfl, o, rfl⟩; simp only [ruleV, Act.val, wrR]) | (go_at_call 144; refine (rdone _).mono ?_; rintro e w1 ⟨rfl, o, rfl⟩; simp only [ruleV, Act.val, dnR, Act.nil]))
  all_goals go_wp2_with (first | (go_at_call 157; refine (KD _).mono ?_; rintro e w1 ⟨rfl, o1, o2, o3, rfl⟩) | (go_at_call 156; refine (CHG _).mono ?_; rintro e w1 ⟨rfl, hw⟩; subst hw) | (go_at_call 142; refine (rread _ _).mono ?_; rintro e w1 ⟨rfl, o, rfl⟩; simp only [ruleV, Act.val, rdR]) | (go_at_call 143; refine (rwrite _ _ _).mono ?_; rintro e w1 ⟨rfl, o, rfl⟩; simp only [ruleV, Act.val, wrR]) | (go_at_call 144; refine (rdone _).mono ?_; rintro e w1 ⟨rfl, o, rfl⟩; simp only [ruleV, Act.val, dnR, Act.nil]))
  all_goals refine bodyPost_ret (v := ruleV (wrR a X)) (by simp [results, Tryz.results149, go_sem, ruleV, Act.val, wrR]) rfl (And.intro rfl ?_)
  all_goals repeat (first | exact Below.refl _ _ | apply bw_drewN | apply bw_drew | apply bw_alloc | (refine bw_set ?_ (by omega)))
theorem us_wSTY (md : BA) (A X Y S P PC cyc : Int) (jam : Bool) (b cap : Nat) (h : List Int) (a : Int) (fr : Nat) (a0 : h.length ≤ 100 ∧ fr ≤ 100) (hn : h.length = fr) (w : World) :
    Calls Tryz.prog 149 #[cdV (b3 83 84 89) md, .agg #[.int .i64 A, .int .i64 X, .int .i64 Y, .int .i64 S, .int .i64 P, .int .i64 PC, .int .i64 cyc, .bool jam], hdV b h cap, .int .i64 a, .int .i64 (fr : Int)] w fun e w' => e = .returned (ruleV (wrR a Y)) ∧ Below w.heap.size w w' := by
  have := a0
  have KD := fun w => rkind (b3 83 84 89) md w
  rw [show kindR (b3 83 84 89) = 119 from rfl] at KD
  have hz : IntKind.i64.wrap ((h.length : Int) - (fr : Int)) = 0 := by rw [IntKind.wrap_i64]; omega
  unfold b3 at *
  have s2 : ∀ q, (⟨#[83, 84, 89]⟩ : ByteArray)[2]'q = 89 := fun _ => rfl
  unfold cdV hdV at *
  generalize h.length = m at *
  go_enter Tryz.func149, Tryz.ntmps149
  go_wp2_with (first | (go_at_call 157; refine (KD _).mono ?_; rintro e w1 ⟨rfl, o1, o2, o3, rfl⟩) | (go_at_call 156; refine (CHG _).mono ?_; rintro e w1 ⟨rfl, hw⟩; subst hw) | (go_at_call 142; refine (rread _ _).mono ?_; rintro e w1 ⟨rfl, o, rfl⟩; simp only [ruleV, Act.val, rdR]) | (go_at_call 143; refine (rwrite _ _ _).mono ?_; rintro e w1 ⟨rfl, o, rfl⟩; simp only [ruleV, Act.val, wrR]) | (go_at_call 144; refine (rdone _).mono ?_; rintro e w1 ⟨rfl, o, rfl⟩; simp only [ruleV, Act.val, dnR, Act.nil]))
  go_region_with (first | (go_at_call 157; refine (KD _).mono ?_; rintro e w1 ⟨rfl, o1, o2, o3, rfl⟩) | (go_at_call 156; refine (CHG _).mono ?_; rintro e w1 ⟨rfl, hw⟩; subst hw) | (go_at_call 142; refine (rread _ _).mono ?_; rintro e w1 ⟨rfl, o, rfl⟩; simp only [ruleV, Act.val, rdR]) | (go_at_call 143; refine (rwrite _ _ _).mono ?_; rintro e w1 ⟨rfl, o, rfl⟩; simp only [ruleV, Act.val, wrR]) | (go_at_call 144; refine (rdone _).mono ?_; rintro e w1 ⟨rfl, o, rfl⟩; simp only [ruleV, Act.val, dnR, Act.nil]))
  all_goals go_wp2_with (first | (go_at_call 157; refine (KD _).mono ?_; rintro e w1 ⟨rfl, o1, o2, o3, rfl⟩) | (go_at_call 156; refine (CHG _).mono ?_; rintro e w1 ⟨rfl, hw⟩; subst hw) | (go_at_call 142; refine (rread _ _).mono ?_; rintro e w1 ⟨rfl, o, rfl⟩; simp only [ruleV, Act.val, rdR]) | (go_at_call 143; refine (rwrite _ _ _).mono ?_; rintro e w1 ⟨rfl, o, rfl⟩; simp only [ruleV, Act.val, wrR]) | (go_at_call 144; refine (rdone _).mono ?_; rintro e w1 ⟨rfl, o, rfl⟩; simp only [ruleV, Act.val, dnR, Act.nil]))
  all_goals refine bodyPost_ret (v := ruleV (wrR a Y)) (by simp [results, Tryz.results149, go_sem, ruleV, Act.val, wrR]) rfl (And.intro rfl ?_)
  all_goals repeat (first | exact Below.refl _ _ | apply bw_drewN | apply bw_drew | apply bw_alloc | (refine bw_set ?_ (by omega)))

end Go.Proofs.YtcgjliflnnklnaaGreat
