/-
  The document's computer, walked: the cycles of branches.
-/
import Derived.Test.YtcgjliflnnklnaaGreatRwIz
import Derived.Test.YtcgjliflnnklnaaGreatRwJz
import Derived.Handy
namespace Go.Proofs.YtcgjliflnnklnaaGreat
open Go.RowKit
set_option maxRecDepth 100000
set_option maxHeartbeats 2000000

theorem cell_al6 (w : World) (o1 o2 o3 o4 o5 o6 : Obj) (b i : Nat) (h : b < w.heap.size) : ((((((w.alloc o1).alloc o2).alloc o3).alloc o4).alloc o5).alloc o6).cell? ⟨b, i, none⟩ = w.cell? ⟨b, i, none⟩ :=
  (bw_cell (bw_alloc (bw_alloc (bw_alloc (bw_alloc (bw_alloc (bw_alloc (Below.refl _ _) o1) o2) o3) o4) o5) o6)).1 b i h
theorem alloc_drewN (w : World) (o : Obj) (m : Nat) : (w.drewN m).alloc o = (w.alloc o).drewN m := rfl
theorem set_drewN (w : World) (a : Addr) (v : Value) (m : Nat) : (w.drewN m).setCell a v = (w.setCell a v).drewN m := by
  unfold World.setCell
  rfl

theorem br_1 (op md : BA) (hop : op ∈ lB) (A X Y S P PC cyc : Int) (jam : Bool) (c0 : 0 ≤ PC ∧ PC < 65536) (b cap : Nat) (h : List Int) (hn : h.length = 1) (w : World) :
    Calls Tryz.prog 147 #[cdV op md, .agg #[.int .i64 A, .int .i64 X, .int .i64 Y, .int .i64 S, .int .i64 P, .int .i64 PC, .int .i64 cyc, .bool jam], hdV b h cap] w fun e w' => e = .returned (ruleV (rdR (PC + 1))) ∧ Below w.heap.size w w' := by
  have := c0
  have al := alloc_drewN
  have sc := set_drewN
  have TK := fun w => rtaken op md hop P w
  generalize takenR op P = t at *
  unfold hdV cdV at *
  rw [hn]
  go_enter Tryz.func147, Tryz.ntmps147
  go_wp2_with (first | (go_at_call 153; refine (TK _).mono ?_; rintro e w1 ⟨rfl, o1, o2, o3, m1, rfl⟩) | (go_at_call 154; refine (GO _).mono ?_; rintro e w1 ⟨rfl, og, rfl⟩) | (go_at_call 91; with_reducible refine (rcut8 _ _).mono ?_; rintro e w1 ⟨rfl, hw⟩; subst hw) | (go_at_call 91; with_reducible refine (rcut16 _ _).mono ?_; rintro e w1 ⟨rfl, hw⟩; subst hw) | (go_at_call 142; refine (rread _ _).mono ?_; rintro e w1 ⟨rfl, o, rfl⟩; simp only [ruleV, Act.val, rdR]) | (go_at_call 143; refine (rwrite _ _ _).mono ?_; rintro e w1 ⟨rfl, o, rfl⟩; simp only [ruleV, Act.val, wrR]) | (go_at_call 144; refine (rdone _).mono ?_; rintro e w1 ⟨rfl, o, rfl⟩; simp only [ruleV, Act.val, dnR, Act.nil]))
  all_goals refine bodyPost_ret (v := ruleV (rdR (PC + 1))) (by simp [results, Tryz.results147, go_sem, ruleV, Act.val, rdR]) rfl (And.intro rfl ?_)
  all_goals repeat (first | exact Below.refl _ _ | apply bw_drewN | apply bw_drew | apply bw_alloc | (refine bw_set ?_ (by omega)))
theorem br_2t (op md : BA) (hop : op ∈ lB) (A X Y S P PC cyc : Int) (jam : Bool) (c0 : 0 ≤ PC ∧ PC < 65536) (b cap : Nat) (h : List Int) (hn : h.length = 2) (ht : takenR op P = true) (w : World) :
    Calls Tryz.prog 147 #[cdV op md, .agg #[.int .i64 A, .int .i64 X, .int .i64 Y, .int .i64 S, .int .i64 P, .int .i64 PC, .int .i64 cyc, .bool jam], hdV b h cap] w fun e w' => e = .returned (ruleV (rdR ((PC + 2) % 65536))) ∧ Below w.heap.size w w' := by
  have := c0
  have al := alloc_drewN
  have sc := set_drewN
  have TK := fun w => rtaken op md hop P w
  rw [ht] at TK
  unfold hdV cdV at *
  rw [hn]
  go_enter Tryz.func147, Tryz.ntmps147
  go_wp2_with (first | (go_at_call 153; refine (TK _).mono ?_; rintro e w1 ⟨rfl, o1, o2, o3, m1, rfl⟩) | (go_at_call 154; refine (GO _).mono ?_; rintro e w1 ⟨rfl, og, rfl⟩) | (go_at_call 91; with_reducible refine (rcut8 _ _).mono ?_; rintro e w1 ⟨rfl, hw⟩; subst hw) | (go_at_call 91; with_reducible refine (rcut16 _ _).mono ?_; rintro e w1 ⟨rfl, hw⟩; subst hw) | (go_at_call 142; refine (rread _ _).mono ?_; rintro e w1 ⟨rfl, o, rfl⟩; simp only [ruleV, Act.val, rdR]) | (go_at_call 143; refine (rwrite _ _ _).mono ?_; rintro e w1 ⟨rfl, o, rfl⟩; simp only [ruleV, Act.val, wrR]) | (go_at_call 144; refine (rdone _).mono ?_; rintro e w1 ⟨rfl, o, rfl⟩; simp only [ruleV, Act.val, dnR, Act.nil]))
  all_goals refine bodyPost_ret (v := ruleV (rdR ((PC + 2) % 65536))) (by simp [results, Tryz.results147, go_sem, ruleV, Act.val, rdR]) rfl (And.intro rfl ?_)
  all_goals repeat (first | exact Below.refl _ _ | apply bw_drewN | apply bw_drew | apply bw_alloc | (refine bw_set ?_ (by omega)))
theorem br_2f (op md : BA) (hop : op ∈ lB) (A X Y S P PC cyc : Int) (jam : Bool) (c0 : 0 ≤ PC ∧ PC < 65536) (b cap : Nat) (h : List Int) (hn : h.length = 2) (ht : takenR op P = false) (w : World) :
    Calls Tryz.prog 147 #[cdV op md, .agg #[.int .i64 A, .int .i64 X, .int .i64 Y, .int .i64 S, .int .i64 P, .int .i64 PC, .int .i64 cyc, .bool jam], hdV b h cap] w fun e w' => e = .returned (ruleV (dnR)) ∧ Below w.heap.size w w' := by
  have := c0
  have al := alloc_drewN
  have sc := set_drewN
  have TK := fun w => rtaken op md hop P w
  rw [ht] at TK
  unfold hdV cdV at *
  rw [hn]
  go_enter Tryz.func147, Tryz.ntmps147
  go_wp2_with (first | (go_at_call 153; refine (TK _).mono ?_; rintro e w1 ⟨rfl, o1, o2, o3, m1, rfl⟩) | (go_at_call 154; refine (GO _).mono ?_; rintro e w1 ⟨rfl, og, rfl⟩) | (go_at_call 91; with_reducible refine (rcut8 _ _).mono ?_; rintro e w1 ⟨rfl, hw⟩; subst hw) | (go_at_call 91; with_reducible refine (rcut16 _ _).mono ?_; rintro e w1 ⟨rfl, hw⟩; subst hw) | (go_at_call 142; refine (rread _ _).mono ?_; rintro e w1 ⟨rfl, o, rfl⟩; simp only [ruleV, Act.val, rdR]) | (go_at_call 143; refine (rwrite _ _ _).mono ?_; rintro e w1 ⟨rfl, o, rfl⟩; simp only [ruleV, Act.val, wrR]) | (go_at_call 144; refine (rdone _).mono ?_; rintro e w1 ⟨rfl, o, rfl⟩; simp only [ruleV, Act.val, dnR, Act.nil]))
  all_goals refine bodyPost_ret (v := ruleV (dnR)) (by simp [results, Tryz.results147, go_sem, ruleV, Act.val, dnR, Act.nil]) rfl (And.intro rfl ?_)
  all_goals repeat (first | exact Below.refl _ _ | apply bw_drewN | apply bw_drew | apply bw_alloc | (refine bw_set ?_ (by omega)))
theorem br_x (op md : BA) (hop : op ∈ lB) (A X Y S P PC cyc : Int) (jam : Bool) (c0 : 0 ≤ PC ∧ PC < 65536) (b cap : Nat) (h : List Int) (hn : 4 ≤ h.length) (hl : h.length ≤ 100) (w : World) :
    Calls Tryz.prog 147 #[cdV op md, .agg #[.int .i64 A, .int .i64 X, .int .i64 Y, .int .i64 S, .int .i64 P, .int .i64 PC, .int .i64 cyc, .bool jam], hdV b h cap] w fun e w' => e = .returned (ruleV (dnR)) ∧ Below w.heap.size w w' := by
  have := c0
  have al := alloc_drewN
  have sc := set_drewN
  have TK := fun w => rtaken op md hop P w
  generalize takenR op P = t at *
  unfold hdV cdV at *
  generalize h.length = n at *
  have n1 : ¬ (n : Int) = 1 := by omega
  have n2 : ¬ (n : Int) = 2 := by omega
  have n3 : ¬ (n : Int) = 3 := by omega
  go_enter Tryz.func147, Tryz.ntmps147
  go_wp2_with (first | (go_at_call 153; refine (TK _).mono ?_; rintro e w1 ⟨rfl, o1, o2, o3, m1, rfl⟩) | (go_at_call 154; refine (GO _).mono ?_; rintro e w1 ⟨rfl, og, rfl⟩) | (go_at_call 91; with_reducible refine (rcut8 _ _).mono ?_; rintro e w1 ⟨rfl, hw⟩; subst hw) | (go_at_call 91; with_reducible refine (rcut16 _ _).mono ?_; rintro e w1 ⟨rfl, hw⟩; subst hw) | (go_at_call 142; refine (rread _ _).mono ?_; rintro e w1 ⟨rfl, o, rfl⟩; simp only [ruleV, Act.val, rdR]) | (go_at_call 143; refine (rwrite _ _ _).mono ?_; rintro e w1 ⟨rfl, o, rfl⟩; simp only [ruleV, Act.val, wrR]) | (go_at_call 144; refine (rdone _).mono ?_; rintro e w1 ⟨rfl, o, rfl⟩; simp only [ruleV, Act.val, dnR, Act.nil]))
  all_goals refine bodyPost_ret (v := ruleV (dnR)) (by simp [results, Tryz.results147, go_sem, ruleV, Act.val, dnR, Act.nil]) rfl (And.intro rfl ?_)
  all_goals repeat (first | exact Below.refl _ _ | apply bw_drewN | apply bw_drew | apply bw_alloc | (refine bw_set ?_ (by omega)))
theorem br_3n (op md : BA) (hop : op ∈ lB) (A X Y S P PC cyc : Int) (jam : Bool) (c0 : 0 ≤ PC ∧ PC < 65536) (b cap : Nat) (h : List Int) (hn : h.length = 3) (hg : ¬ goalR ⟨A, X, Y, S, P, PC, cyc, jam⟩ (hd h 1) / 256 = (PC + 2) % 65536 / 256) (w : World) (H : HdAt w b h) :
    Calls Tryz.prog 147 #[cdV op md, .agg #[.int .i64 A, .int .i64 X, .int .i64 Y, .int .i64 S, .int .i64 P, .int .i64 PC, .int .i64 cyc, .bool jam], hdV b h cap] w fun e w' => e = .returned (ruleV (rdR ((PC + 2) % 65536 / 256 * 256 + goalR ⟨A, X, Y, S, P, PC, cyc, jam⟩ (hd h 1) % 256))) ∧ Below w.heap.size w w' := by
  have := c0
  have al := alloc_drewN
  have sc := set_drewN
  have TK := fun w => rtaken op md hop P w
  generalize takenR op P = t at *
  unfold hdV cdV at *
  have l1 := H.lt
  have c1 := H.c 1 (by omega)
  obtain ⟨p1, q1⟩ := H.r 1 (by omega)
  have GO := fun w => rgoal ⟨A, X, Y, S, P, PC, cyc, jam⟩ (hd h 1) w c0.1 c0.2 p1 q1
  rw [hn]
  have g0 := Int.emod_nonneg (PC + 2 + (if 127 < hd h 1 then hd h 1 - 256 else hd h 1)) (show (65536 : Int) ≠ 0 by decide)
  have g1 := Int.emod_lt_of_pos (PC + 2 + (if 127 < hd h 1 then hd h 1 - 256 else hd h 1)) (show (0 : Int) < 65536 by decide)
  change 0 ≤ goalR ⟨A, X, Y, S, P, PC, cyc, jam⟩ (hd h 1) at g0
  change goalR ⟨A, X, Y, S, P, PC, cyc, jam⟩ (hd h 1) < 65536 at g1
  unfold RG.val at GO
  generalize goalR ⟨A, X, Y, S, P, PC, cyc, jam⟩ (hd h 1) = g at *
  generalize hd h 1 = h1 at *
  have d1 := fun o1 o2 o3 => (cell_al3 w o1 o2 o3 b 1 l1).trans c1
  have d2 := fun o1 o2 o3 o4 o5 o6 => (cell_al6 w o1 o2 o3 o4 o5 o6 b 1 l1).trans c1
  have e1 : g.tdiv 256 = g / 256 := Int.tdiv_eq_ediv_of_nonneg g0
  have e2 : g.tmod 256 = g % 256 := Int.tmod_eq_emod_of_nonneg g0
  have e3 : ((PC + 2) % 65536).tdiv 256 = (PC + 2) % 65536 / 256 := Int.tdiv_eq_ediv_of_nonneg (by omega)
  have r0 : 0 ≤ (PC + 2) % 65536 := by omega
  have r1 : (PC + 2) % 65536 < 65536 := by omega
  have r2 : 0 ≤ (PC + 2) % 65536 / 256 := by omega
  have r3 : (PC + 2) % 65536 / 256 < 256 := by omega
  clear H
  go_enter Tryz.func147, Tryz.ntmps147
  go_wp2_with (first | (go_at_call 153; refine (TK _).mono ?_; rintro e w1 ⟨rfl, o1, o2, o3, m1, rfl⟩) | (go_at_call 154; refine (GO _).mono ?_; rintro e w1 ⟨rfl, og, rfl⟩) | (go_at_call 91; with_reducible refine (rcut8 _ _).mono ?_; rintro e w1 ⟨rfl, hw⟩; subst hw) | (go_at_call 91; with_reducible refine (rcut16 _ _).mono ?_; rintro e w1 ⟨rfl, hw⟩; subst hw) | (go_at_call 142; refine (rread _ _).mono ?_; rintro e w1 ⟨rfl, o, rfl⟩; simp only [ruleV, Act.val, rdR]) | (go_at_call 143; refine (rwrite _ _ _).mono ?_; rintro e w1 ⟨rfl, o, rfl⟩; simp only [ruleV, Act.val, wrR]) | (go_at_call 144; refine (rdone _).mono ?_; rintro e w1 ⟨rfl, o, rfl⟩; simp only [ruleV, Act.val, dnR, Act.nil]))
  go_region_with (first | (go_at_call 153; refine (TK _).mono ?_; rintro e w1 ⟨rfl, o1, o2, o3, m1, rfl⟩) | (go_at_call 154; refine (GO _).mono ?_; rintro e w1 ⟨rfl, og, rfl⟩) | (go_at_call 91; with_reducible refine (rcut8 _ _).mono ?_; rintro e w1 ⟨rfl, hw⟩; subst hw) | (go_at_call 91; with_reducible refine (rcut16 _ _).mono ?_; rintro e w1 ⟨rfl, hw⟩; subst hw) | (go_at_call 142; refine (rread _ _).mono ?_; rintro e w1 ⟨rfl, o, rfl⟩; simp only [ruleV, Act.val, rdR]) | (go_at_call 143; refine (rwrite _ _ _).mono ?_; rintro e w1 ⟨rfl, o, rfl⟩; simp only [ruleV, Act.val, wrR]) | (go_at_call 144; refine (rdone _).mono ?_; rintro e w1 ⟨rfl, o, rfl⟩; simp only [ruleV, Act.val, dnR, Act.nil]))
  all_goals go_wp2_with (first | (go_at_call 153; refine (TK _).mono ?_; rintro e w1 ⟨rfl, o1, o2, o3, m1, rfl⟩) | (go_at_call 154; refine (GO _).mono ?_; rintro e w1 ⟨rfl, og, rfl⟩) | (go_at_call 91; with_reducible refine (rcut8 _ _).mono ?_; rintro e w1 ⟨rfl, hw⟩; subst hw) | (go_at_call 91; with_reducible refine (rcut16 _ _).mono ?_; rintro e w1 ⟨rfl, hw⟩; subst hw) | (go_at_call 142; refine (rread _ _).mono ?_; rintro e w1 ⟨rfl, o, rfl⟩; simp only [ruleV, Act.val, rdR]) | (go_at_call 143; refine (rwrite _ _ _).mono ?_; rintro e w1 ⟨rfl, o, rfl⟩; simp only [ruleV, Act.val, wrR]) | (go_at_call 144; refine (rdone _).mono ?_; rintro e w1 ⟨rfl, o, rfl⟩; simp only [ruleV, Act.val, dnR, Act.nil]))
  all_goals refine bodyPost_ret (v := ruleV (rdR ((PC + 2) % 65536 / 256 * 256 + g % 256))) (by simp [results, Tryz.results147, go_sem, ruleV, Act.val, rdR]) rfl (And.intro rfl ?_)
  all_goals repeat (first | exact Below.refl _ _ | apply bw_drewN | apply bw_drew | apply bw_alloc | (refine bw_set ?_ (by omega)))
theorem br_3e (op md : BA) (hop : op ∈ lB) (A X Y S P PC cyc : Int) (jam : Bool) (c0 : 0 ≤ PC ∧ PC < 65536) (b cap : Nat) (h : List Int) (hn : h.length = 3) (hg : goalR ⟨A, X, Y, S, P, PC, cyc, jam⟩ (hd h 1) / 256 = (PC + 2) % 65536 / 256) (w : World) (H : HdAt w b h) :
    Calls Tryz.prog 147 #[cdV op md, .agg #[.int .i64 A, .int .i64 X, .int .i64 Y, .int .i64 S, .int .i64 P, .int .i64 PC, .int .i64 cyc, .bool jam], hdV b h cap] w fun e w' => e = .returned (ruleV (dnR)) ∧ Below w.heap.size w w' := by
  have := c0
  have al := alloc_drewN
  have sc := set_drewN
  have TK := fun w => rtaken op md hop P w
  generalize takenR op P = t at *
  unfold hdV cdV at *
  have l1 := H.lt
  have c1 := H.c 1 (by omega)
  obtain ⟨p1, q1⟩ := H.r 1 (by omega)
  have GO := fun w => rgoal ⟨A, X, Y, S, P, PC, cyc, jam⟩ (hd h 1) w c0.1 c0.2 p1 q1
  rw [hn]
  have g0 := Int.emod_nonneg (PC + 2 + (if 127 < hd h 1 then hd h 1 - 256 else hd h 1)) (show (65536 : Int) ≠ 0 by decide)
  have g1 := Int.emod_lt_of_pos (PC + 2 + (if 127 < hd h 1 then hd h 1 - 256 else hd h 1)) (show (0 : Int) < 65536 by decide)
  change 0 ≤ goalR ⟨A, X, Y, S, P, PC, cyc, jam⟩ (hd h 1) at g0
  change goalR ⟨A, X, Y, S, P, PC, cyc, jam⟩ (hd h 1) < 65536 at g1
  unfold RG.val at GO
  generalize goalR ⟨A, X, Y, S, P, PC, cyc, jam⟩ (hd h 1) = g at *
  generalize hd h 1 = h1 at *
  have d1 := fun o1 o2 o3 => (cell_al3 w o1 o2 o3 b 1 l1).trans c1
  have d2 := fun o1 o2 o3 o4 o5 o6 => (cell_al6 w o1 o2 o3 o4 o5 o6 b 1 l1).trans c1
  have e1 : g.tdiv 256 = g / 256 := Int.tdiv_eq_ediv_of_nonneg g0
  have e2 : g.tmod 256 = g % 256 := Int.tmod_eq_emod_of_nonneg g0
  have e3 : ((PC + 2) % 65536).tdiv 256 = (PC + 2) % 65536 / 256 := Int.tdiv_eq_ediv_of_nonneg (by omega)
  have r0 : 0 ≤ (PC + 2) % 65536 := by omega
  have r1 : (PC + 2) % 65536 < 65536 := by omega
  have r2 : 0 ≤ (PC + 2) % 65536 / 256 := by omega
  have r3 : (PC + 2) % 65536 / 256 < 256 := by omega
  clear H
  go_enter Tryz.func147, Tryz.ntmps147
  go_wp2_with (first | (go_at_call 153; refine (TK _).mono ?_; rintro e w1 ⟨rfl, o1, o2, o3, m1, rfl⟩) | (go_at_call 154; refine (GO _).mono ?_; rintro e w1 ⟨rfl, og, rfl⟩) | (go_at_call 91; with_reducible refine (rcut8 _ _).mono ?_; rintro e w1 ⟨rfl, hw⟩; subst hw) | (go_at_call 91; with_reducible refine (rcut16 _ _).mono ?_; rintro e w1 ⟨rfl, hw⟩; subst hw) | (go_at_call 142; refine (rread _ _).mono ?_; rintro e w1 ⟨rfl, o, rfl⟩; simp only [ruleV, Act.val, rdR]) | (go_at_call 143; refine (rwrite _ _ _).mono ?_; rintro e w1 ⟨rfl, o, rfl⟩; simp only [ruleV, Act.val, wrR]) | (go_at_call 144; refine (rdone _).mono ?_; rintro e w1 ⟨rfl, o, rfl⟩; simp only [ruleV, Act.val, dnR, Act.nil]))
  go_region_with (first | (go_at_call 153; refine (TK _).mono ?_; rintro e w1 ⟨rfl, o1, o2, o3, m1, rfl⟩) | (go_at_call 154; refine (GO _).mono ?_; rintro e w1 ⟨rfl, og, rfl⟩) | (go_at_call 91; with_reducible refine (rcut8 _ _).mono ?_; rintro e w1 ⟨rfl, hw⟩; subst hw) | (go_at_call 91; with_reducible refine (rcut16 _ _).mono ?_; rintro e w1 ⟨rfl, hw⟩; subst hw) | (go_at_call 142; refine (rread _ _).mono ?_; rintro e w1 ⟨rfl, o, rfl⟩; simp only [ruleV, Act.val, rdR]) | (go_at_call 143; refine (rwrite _ _ _).mono ?_; rintro e w1 ⟨rfl, o, rfl⟩; simp only [ruleV, Act.val, wrR]) | (go_at_call 144; refine (rdone _).mono ?_; rintro e w1 ⟨rfl, o, rfl⟩; simp only [ruleV, Act.val, dnR, Act.nil]))
  all_goals go_wp2_with (first | (go_at_call 153; refine (TK _).mono ?_; rintro e w1 ⟨rfl, o1, o2, o3, m1, rfl⟩) | (go_at_call 154; refine (GO _).mono ?_; rintro e w1 ⟨rfl, og, rfl⟩) | (go_at_call 91; with_reducible refine (rcut8 _ _).mono ?_; rintro e w1 ⟨rfl, hw⟩; subst hw) | (go_at_call 91; with_reducible refine (rcut16 _ _).mono ?_; rintro e w1 ⟨rfl, hw⟩; subst hw) | (go_at_call 142; refine (rread _ _).mono ?_; rintro e w1 ⟨rfl, o, rfl⟩; simp only [ruleV, Act.val, rdR]) | (go_at_call 143; refine (rwrite _ _ _).mono ?_; rintro e w1 ⟨rfl, o, rfl⟩; simp only [ruleV, Act.val, wrR]) | (go_at_call 144; refine (rdone _).mono ?_; rintro e w1 ⟨rfl, o, rfl⟩; simp only [ruleV, Act.val, dnR, Act.nil]))
  all_goals refine bodyPost_ret (v := ruleV (dnR)) (by simp [results, Tryz.results147, go_sem, ruleV, Act.val, dnR, Act.nil]) rfl (And.intro rfl ?_)
  all_goals repeat (first | exact Below.refl _ _ | apply bw_drewN | apply bw_drew | apply bw_alloc | (refine bw_set ?_ (by omega)))

end Go.Proofs.YtcgjliflnnklnaaGreat
