/-
  The document's computer, walked: the cycles that read, write or change an address.
-/
import Derived.Test.YtcgjliflnnklnaaGreatRwKz
import Derived.Handy
namespace Go.Proofs.YtcgjliflnnklnaaGreat
open Go.RowKit
set_option maxRecDepth 100000
set_option maxHeartbeats 2000000

theorem us_r0 (op : BA) (md : BA) (A X Y S P PC cyc : Int) (jam : Bool) (b cap : Nat) (h : List Int) (a : Int) (fr : Nat) (a0 : h.length ≤ 100 ∧ fr ≤ 100) (hk : kindR op = 114) (hn : h.length = fr) (w : World) :
    Calls Tryz.prog 149 #[cdV op md, .agg #[.int .i64 A, .int .i64 X, .int .i64 Y, .int .i64 S, .int .i64 P, .int .i64 PC, .int .i64 cyc, .bool jam], hdV b h cap, .int .i64 a, .int .i64 (fr : Int)] w fun e w' => e = .returned (ruleV (rdR a)) ∧ Below w.heap.size w w' := by
  have := a0
  have KD := fun w => rkind op md w
  rw [hk] at KD
  have hz : IntKind.i64.wrap ((h.length : Int) - (fr : Int)) = 0 := by rw [IntKind.wrap_i64]; omega
  unfold cdV hdV at *
  generalize h.length = m at *
  go_enter Tryz.func149, Tryz.ntmps149
  go_wp2_with (first | (go_at_call 157; refine (KD _).mono ?_; rintro e w1 ⟨rfl, o1, o2, o3, rfl⟩) | (go_at_call 156; refine (CHG _).mono ?_; rintro e w1 ⟨rfl, hw⟩; subst hw) | (go_at_call 142; refine (rread _ _).mono ?_; rintro e w1 ⟨rfl, o, rfl⟩; simp only [ruleV, Act.val, rdR]) | (go_at_call 143; refine (rwrite _ _ _).mono ?_; rintro e w1 ⟨rfl, o, rfl⟩; simp only [ruleV, Act.val, wrR]) | (go_at_call 144; refine (rdone _).mono ?_; rintro e w1 ⟨rfl, o, rfl⟩; simp only [ruleV, Act.val, dnR, Act.nil]))
  all_goals refine bodyPost_ret (v := ruleV (rdR a)) (by simp [results, Tryz.results149, go_sem, ruleV, Act.val, rdR]) rfl (And.intro rfl ?_)
  all_goals repeat (first | exact Below.refl _ _ | apply bw_drewN | apply bw_drew | apply bw_alloc | (refine bw_set ?_ (by omega)))
theorem us_rx (op : BA) (md : BA) (A X Y S P PC cyc : Int) (jam : Bool) (b cap : Nat) (h : List Int) (a : Int) (fr : Nat) (a0 : h.length ≤ 100 ∧ fr ≤ 100) (hk : kindR op = 114) (hn : ¬ h.length = fr) (w : World) :
    Calls Tryz.prog 149 #[cdV op md, .agg #[.int .i64 A, .int .i64 X, .int .i64 Y, .int .i64 S, .int .i64 P, .int .i64 PC, .int .i64 cyc, .bool jam], hdV b h cap, .int .i64 a, .int .i64 (fr : Int)] w fun e w' => e = .returned (ruleV (dnR)) ∧ Below w.heap.size w w' := by
  have := a0
  have KD := fun w => rkind op md w
  rw [hk] at KD
  obtain ⟨n, hz⟩ : ∃ n, IntKind.i64.wrap ((h.length : Int) - (fr : Int)) = n := ⟨_, rfl⟩
  have hz2 : n = (h.length : Int) - (fr : Int) := by rw [← hz, IntKind.wrap_i64]; omega
  have hz3 : ¬ n = 0 := by omega
  clear hz2
  unfold cdV hdV at *
  generalize h.length = m at *
  go_enter Tryz.func149, Tryz.ntmps149
  go_wp2_with (first | (go_at_call 157; refine (KD _).mono ?_; rintro e w1 ⟨rfl, o1, o2, o3, rfl⟩) | (go_at_call 156; refine (CHG _).mono ?_; rintro e w1 ⟨rfl, hw⟩; subst hw) | (go_at_call 142; refine (rread _ _).mono ?_; rintro e w1 ⟨rfl, o, rfl⟩; simp only [ruleV, Act.val, rdR]) | (go_at_call 143; refine (rwrite _ _ _).mono ?_; rintro e w1 ⟨rfl, o, rfl⟩; simp only [ruleV, Act.val, wrR]) | (go_at_call 144; refine (rdone _).mono ?_; rintro e w1 ⟨rfl, o, rfl⟩; simp only [ruleV, Act.val, dnR, Act.nil]))
  all_goals refine bodyPost_ret (v := ruleV (dnR)) (by simp [results, Tryz.results149, go_sem, ruleV, Act.val, dnR, Act.nil]) rfl (And.intro rfl ?_)
  all_goals repeat (first | exact Below.refl _ _ | apply bw_drewN | apply bw_drew | apply bw_alloc | (refine bw_set ?_ (by omega)))
theorem us_wx (op : BA) (md : BA) (A X Y S P PC cyc : Int) (jam : Bool) (b cap : Nat) (h : List Int) (a : Int) (fr : Nat) (a0 : h.length ≤ 100 ∧ fr ≤ 100) (hk : kindR op = 119) (hn : ¬ h.length = fr) (w : World) :
    Calls Tryz.prog 149 #[cdV op md, .agg #[.int .i64 A, .int .i64 X, .int .i64 Y, .int .i64 S, .int .i64 P, .int .i64 PC, .int .i64 cyc, .bool jam], hdV b h cap, .int .i64 a, .int .i64 (fr : Int)] w fun e w' => e = .returned (ruleV (dnR)) ∧ Below w.heap.size w w' := by
  have := a0
  have KD := fun w => rkind op md w
  rw [hk] at KD
  obtain ⟨n, hz⟩ : ∃ n, IntKind.i64.wrap ((h.length : Int) - (fr : Int)) = n := ⟨_, rfl⟩
  have hz2 : n = (h.length : Int) - (fr : Int) := by rw [← hz, IntKind.wrap_i64]; omega
  have hz3 : ¬ n = 0 := by omega
  clear hz2
  unfold cdV hdV at *
  generalize h.length = m at *
  go_enter Tryz.func149, Tryz.ntmps149
  go_wp2_with (first | (go_at_call 157; refine (KD _).mono ?_; rintro e w1 ⟨rfl, o1, o2, o3, rfl⟩) | (go_at_call 156; refine (CHG _).mono ?_; rintro e w1 ⟨rfl, hw⟩; subst hw) | (go_at_call 142; refine (rread _ _).mono ?_; rintro e w1 ⟨rfl, o, rfl⟩; simp only [ruleV, Act.val, rdR]) | (go_at_call 143; refine (rwrite _ _ _).mono ?_; rintro e w1 ⟨rfl, o, rfl⟩; simp only [ruleV, Act.val, wrR]) | (go_at_call 144; refine (rdone _).mono ?_; rintro e w1 ⟨rfl, o, rfl⟩; simp only [ruleV, Act.val, dnR, Act.nil]))
  all_goals refine bodyPost_ret (v := ruleV (dnR)) (by simp [results, Tryz.results149, go_sem, ruleV, Act.val, dnR, Act.nil]) rfl (And.intro rfl ?_)
  all_goals repeat (first | exact Below.refl _ _ | apply bw_drewN | apply bw_drew | apply bw_alloc | (refine bw_set ?_ (by omega)))
theorem us_c0 (op : BA) (md : BA) (A X Y S P PC cyc : Int) (jam : Bool) (b cap : Nat) (h : List Int) (a : Int) (fr : Nat) (a0 : h.length ≤ 100 ∧ fr ≤ 100) (hk : kindR op = 99) (hn : h.length = fr) (w : World) :
    Calls Tryz.prog 149 #[cdV op md, .agg #[.int .i64 A, .int .i64 X, .int .i64 Y, .int .i64 S, .int .i64 P, .int .i64 PC, .int .i64 cyc, .bool jam], hdV b h cap, .int .i64 a, .int .i64 (fr : Int)] w fun e w' => e = .returned (ruleV (rdR a)) ∧ Below w.heap.size w w' := by
  have := a0
  have KD := fun w => rkind op md w
  rw [hk] at KD
  have hz : IntKind.i64.wrap ((h.length : Int) - (fr : Int)) = 0 := by rw [IntKind.wrap_i64]; omega
  unfold cdV hdV at *
  generalize h.length = m at *
  go_enter Tryz.func149, Tryz.ntmps149
  go_wp2_with (first | (go_at_call 157; refine (KD _).mono ?_; rintro e w1 ⟨rfl, o1, o2, o3, rfl⟩) | (go_at_call 156; refine (CHG _).mono ?_; rintro e w1 ⟨rfl, hw⟩; subst hw) | (go_at_call 142; refine (rread _ _).mono ?_; rintro e w1 ⟨rfl, o, rfl⟩; simp only [ruleV, Act.val, rdR]) | (go_at_call 143; refine (rwrite _ _ _).mono ?_; rintro e w1 ⟨rfl, o, rfl⟩; simp only [ruleV, Act.val, wrR]) | (go_at_call 144; refine (rdone _).mono ?_; rintro e w1 ⟨rfl, o, rfl⟩; simp only [ruleV, Act.val, dnR, Act.nil]))
  all_goals refine bodyPost_ret (v := ruleV (rdR a)) (by simp [results, Tryz.results149, go_sem, ruleV, Act.val, rdR]) rfl (And.intro rfl ?_)
  all_goals repeat (first | exact Below.refl _ _ | apply bw_drewN | apply bw_drew | apply bw_alloc | (refine bw_set ?_ (by omega)))
theorem us_cx (op : BA) (md : BA) (A X Y S P PC cyc : Int) (jam : Bool) (b cap : Nat) (h : List Int) (a : Int) (fr : Nat) (a0 : h.length ≤ 100 ∧ fr ≤ 100) (hk : kindR op = 99) (hn : ¬ h.length = fr) (hn1 : ¬ h.length = fr + 1) (hn2 : ¬ h.length = fr + 2) (w : World) :
    Calls Tryz.prog 149 #[cdV op md, .agg #[.int .i64 A, .int .i64 X, .int .i64 Y, .int .i64 S, .int .i64 P, .int .i64 PC, .int .i64 cyc, .bool jam], hdV b h cap, .int .i64 a, .int .i64 (fr : Int)] w fun e w' => e = .returned (ruleV (dnR)) ∧ Below w.heap.size w w' := by
  have := a0
  have KD := fun w => rkind op md w
  rw [hk] at KD
  obtain ⟨n, hz⟩ : ∃ n, IntKind.i64.wrap ((h.length : Int) - (fr : Int)) = n := ⟨_, rfl⟩
  have hz2 : n = (h.length : Int) - (fr : Int) := by rw [← hz, IntKind.wrap_i64]; omega
  have hz3 : ¬ n = 0 := by omega
  have hz4 : ¬ n = 1 := by omega
  have hz5 : ¬ n = 2 := by omega
  clear hz2
  unfold cdV hdV at *
  generalize h.length = m at *
  go_enter Tryz.func149, Tryz.ntmps149
  go_wp2_with (first | (go_at_call 157; refine (KD _).mono ?_; rintro e w1 ⟨rfl, o1, o2, o3, rfl⟩) | (go_at_call 156; refine (CHG _).mono ?_; rintro e w1 ⟨rfl, hw⟩; subst hw) | (go_at_call 142; refine (rread _ _).mono ?_; rintro e w1 ⟨rfl, o, rfl⟩; simp only [ruleV, Act.val, rdR]) | (go_at_call 143; refine (rwrite _ _ _).mono ?_; rintro e w1 ⟨rfl, o, rfl⟩; simp only [ruleV, Act.val, wrR]) | (go_at_call 144; refine (rdone _).mono ?_; rintro e w1 ⟨rfl, o, rfl⟩; simp only [ruleV, Act.val, dnR, Act.nil]))
  all_goals refine bodyPost_ret (v := ruleV (dnR)) (by simp [results, Tryz.results149, go_sem, ruleV, Act.val, dnR, Act.nil]) rfl (And.intro rfl ?_)
  all_goals repeat (first | exact Below.refl _ _ | apply bw_drewN | apply bw_drew | apply bw_alloc | (refine bw_set ?_ (by omega)))
theorem us_c1 (op : BA) (md : BA) (A X Y S P PC cyc : Int) (jam : Bool) (b cap : Nat) (h : List Int) (a : Int) (fr : Nat) (a0 : h.length ≤ 100 ∧ fr ≤ 100) (hk : kindR op = 99) (hn : h.length = fr + 1) (w : World) (H : HdAt w b h) :
    Calls Tryz.prog 149 #[cdV op md, .agg #[.int .i64 A, .int .i64 X, .int .i64 Y, .int .i64 S, .int .i64 P, .int .i64 PC, .int .i64 cyc, .bool jam], hdV b h cap, .int .i64 a, .int .i64 (fr : Int)] w fun e w' => e = .returned (ruleV (wrR a (hd h fr))) ∧ Below w.heap.size w w' := by
  have := a0
  have KD := fun w => rkind op md w
  rw [hk] at KD
  have hz : IntKind.i64.wrap ((h.length : Int) - (fr : Int)) = 1 := by rw [IntKind.wrap_i64]; omega
  have l1 := H.lt
  have cv := H.c fr (by omega)
  have pv := H.r fr (by omega)
  have i1 : (fr : Int) < (h.length : Int) := by omega
  have i2 : fr < h.length := by omega
  unfold cdV hdV at *
  generalize hd h fr = hv at *
  have d3 := fun o1 o2 o3 => (cell_al3 w o1 o2 o3 b fr l1).trans cv
  have d6 := fun o1 o2 o3 o4 o5 o6 => (cell_al6 w o1 o2 o3 o4 o5 o6 b fr l1).trans cv
  clear H
  generalize h.length = m at *
  go_enter Tryz.func149, Tryz.ntmps149
  go_wp2_with (first | (go_at_call 157; refine (KD _).mono ?_; rintro e w1 ⟨rfl, o1, o2, o3, rfl⟩) | (go_at_call 156; refine (CHG _).mono ?_; rintro e w1 ⟨rfl, hw⟩; subst hw) | (go_at_call 142; refine (rread _ _).mono ?_; rintro e w1 ⟨rfl, o, rfl⟩; simp only [ruleV, Act.val, rdR]) | (go_at_call 143; refine (rwrite _ _ _).mono ?_; rintro e w1 ⟨rfl, o, rfl⟩; simp only [ruleV, Act.val, wrR]) | (go_at_call 144; refine (rdone _).mono ?_; rintro e w1 ⟨rfl, o, rfl⟩; simp only [ruleV, Act.val, dnR, Act.nil]))
  all_goals refine bodyPost_ret (v := ruleV (wrR a hv)) (by simp [results, Tryz.results149, go_sem, ruleV, Act.val, wrR]) rfl (And.intro rfl ?_)
  all_goals repeat (first | exact Below.refl _ _ | apply bw_drewN | apply bw_drew | apply bw_alloc | (refine bw_set ?_ (by omega)))
theorem us_c2 (op : BA) (md : BA) (A X Y S P PC cyc : Int) (jam : Bool) (b cap : Nat) (h : List Int) (a : Int) (fr : Nat) (a0 : h.length ≤ 100 ∧ fr ≤ 100) (hk : kindR op = 99) (hop : op ∈ lC) (p0 : 0 ≤ P ∧ P < 256) (hn : h.length = fr + 2) (w : World) (H : HdAt w b h) :
    Calls Tryz.prog 149 #[cdV op md, .agg #[.int .i64 A, .int .i64 X, .int .i64 Y, .int .i64 S, .int .i64 P, .int .i64 PC, .int .i64 cyc, .bool jam], hdV b h cap, .int .i64 a, .int .i64 (fr : Int)] w fun e w' => e = .returned (ruleV (wrR a (changedR op (hd h fr) P).1)) ∧ Below w.heap.size w w' := by
  have := a0
  have KD := fun w => rkind op md w
  rw [hk] at KD
  have hz : IntKind.i64.wrap ((h.length : Int) - (fr : Int)) = 2 := by rw [IntKind.wrap_i64]; omega
  have l1 := H.lt
  have cv := H.c fr (by omega)
  have pv := H.r fr (by omega)
  have i1 : (fr : Int) < (h.length : Int) := by omega
  have i2 : fr < h.length := by omega
  have CHG := fun w => rchanged op hop (hd h fr) P pv.1 pv.2 p0.1 p0.2 w
  generalize changedR op (hd h fr) P = cq at *
  obtain ⟨cq1, cq2⟩ := cq
  unfold chV at CHG
  dsimp only at CHG ⊢
  unfold cdV hdV at *
  generalize hd h fr = hv at *
  have d3 := fun o1 o2 o3 => (cell_al3 w o1 o2 o3 b fr l1).trans cv
  have d6 := fun o1 o2 o3 o4 o5 o6 => (cell_al6 w o1 o2 o3 o4 o5 o6 b fr l1).trans cv
  clear H
  generalize h.length = m at *
  go_enter Tryz.func149, Tryz.ntmps149
  go_wp2_with (first | (go_at_call 157; refine (KD _).mono ?_; rintro e w1 ⟨rfl, o1, o2, o3, rfl⟩) | (go_at_call 156; refine (CHG _).mono ?_; rintro e w1 ⟨rfl, hw⟩; subst hw) | (go_at_call 142; refine (rread _ _).mono ?_; rintro e w1 ⟨rfl, o, rfl⟩; simp only [ruleV, Act.val, rdR]) | (go_at_call 143; refine (rwrite _ _ _).mono ?_; rintro e w1 ⟨rfl, o, rfl⟩; simp only [ruleV, Act.val, wrR]) | (go_at_call 144; refine (rdone _).mono ?_; rintro e w1 ⟨rfl, o, rfl⟩; simp only [ruleV, Act.val, dnR, Act.nil]))
  go_region_with (first | (go_at_call 157; refine (KD _).mono ?_; rintro e w1 ⟨rfl, o1, o2, o3, rfl⟩) | (go_at_call 156; refine (CHG _).mono ?_; rintro e w1 ⟨rfl, hw⟩; subst hw) | (go_at_call 142; refine (rread _ _).mono ?_; rintro e w1 ⟨rfl, o, rfl⟩; simp only [ruleV, Act.val, rdR]) | (go_at_call 143; refine (rwrite _ _ _).mono ?_; rintro e w1 ⟨rfl, o, rfl⟩; simp only [ruleV, Act.val, wrR]) | (go_at_call 144; refine (rdone _).mono ?_; rintro e w1 ⟨rfl, o, rfl⟩; simp only [ruleV, Act.val, dnR, Act.nil]))
  all_goals go_wp2_with (first | (go_at_call 157; refine (KD _).mono ?_; rintro e w1 ⟨rfl, o1, o2, o3, rfl⟩) | (go_at_call 156; refine (CHG _).mono ?_; rintro e w1 ⟨rfl, hw⟩; subst hw) | (go_at_call 142; refine (rread _ _).mono ?_; rintro e w1 ⟨rfl, o, rfl⟩; simp only [ruleV, Act.val, rdR]) | (go_at_call 143; refine (rwrite _ _ _).mono ?_; rintro e w1 ⟨rfl, o, rfl⟩; simp only [ruleV, Act.val, wrR]) | (go_at_call 144; refine (rdone _).mono ?_; rintro e w1 ⟨rfl, o, rfl⟩; simp only [ruleV, Act.val, dnR, Act.nil]))
  all_goals refine bodyPost_ret (v := ruleV (wrR a cq1)) (by simp [results, Tryz.results149, go_sem, ruleV, Act.val, wrR]) rfl (And.intro rfl ?_)
  all_goals repeat (first | exact Below.refl _ _ | apply bw_drewN | apply bw_drew | apply bw_alloc | (refine bw_set ?_ (by omega)))

end Go.Proofs.YtcgjliflnnklnaaGreat
