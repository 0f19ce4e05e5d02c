/-
  The document's computer, walked: where an instruction's byte is.
-/
import Derived.Test.YtcgjliflnnklnaaGreatRwKz
import Derived.Test.YtcgjliflnnklnaaGreatRwLz
import Derived.Handy
namespace Go.Proofs.YtcgjliflnnklnaaGreat
open Go.RowKit
set_option maxRecDepth 100000
set_option maxHeartbeats 2000000

theorem pl_zp1 (op : BA) (A X Y S P PC cyc : Int) (jam : Bool) (x0 : 0 ≤ X ∧ X < 256) (y0 : 0 ≤ Y ∧ Y < 256) (c0 : 0 ≤ PC ∧ PC < 65536) (b cap : Nat) (h : List Int) (hn : h.length = 1) (w : World) :
    Calls Tryz.prog 148 #[cdV op (b2 122 112), .agg #[.int .i64 A, .int .i64 X, .int .i64 Y, .int .i64 S, .int .i64 P, .int .i64 PC, .int .i64 cyc, .bool jam], hdV b h cap] w fun e w' => e = .returned (plV (0, 0, (rdR (PC + 1 + 1 - 1)).1, false)) ∧ Below w.heap.size w w' := by
  have := x0
  have := y0
  have := c0
  have al := alloc_drewN
  have sc := set_drewN
  unfold cdV hdV b2 at *
  rw [hn]
  go_enter Tryz.func148, Tryz.ntmps148
  go_wp2_with (first | (go_at_call 194; refine (IX _).mono ?_; rintro e w1 ⟨rfl, o1, o2, o3, o4, o5, rfl⟩; simp only [plV, Act.val]) | (go_at_call 91; with_reducible refine (rcut8 _ _).mono ?_; rintro e w1 ⟨rfl, hw⟩; subst hw) | (go_at_call 91; with_reducible refine (rcut16 _ _).mono ?_; rintro e w1 ⟨rfl, hw⟩; subst hw) | (go_at_call 142; refine (rread _ _).mono ?_; rintro e w1 ⟨rfl, o, rfl⟩; simp only [ruleV, Act.val, rdR]))
  go_region_with (fail)
  all_goals go_wp2
  all_goals refine bodyPost_ret (v := plV (0, 0, (rdR (PC + 1 + 1 - 1)).1, false)) (by simp [results, Tryz.results148, go_sem, plV, Act.val, rdR]) rfl (And.intro rfl ?_)
  all_goals repeat (first | exact Below.refl _ _ | apply bw_drewN | apply bw_drew | apply bw_alloc | (refine bw_set ?_ (by omega)))
theorem pl_zpx1 (op : BA) (A X Y S P PC cyc : Int) (jam : Bool) (x0 : 0 ≤ X ∧ X < 256) (y0 : 0 ≤ Y ∧ Y < 256) (c0 : 0 ≤ PC ∧ PC < 65536) (b cap : Nat) (h : List Int) (hn : h.length = 1) (w : World) :
    Calls Tryz.prog 148 #[cdV op (b3 122 112 120), .agg #[.int .i64 A, .int .i64 X, .int .i64 Y, .int .i64 S, .int .i64 P, .int .i64 PC, .int .i64 cyc, .bool jam], hdV b h cap] w fun e w' => e = .returned (plV (0, 0, (rdR (PC + 1 + 1 - 1)).1, false)) ∧ Below w.heap.size w w' := by
  have := x0
  have := y0
  have := c0
  have al := alloc_drewN
  have sc := set_drewN
  unfold cdV hdV b3 at *
  rw [hn]
  go_enter Tryz.func148, Tryz.ntmps148
  go_wp2_with (first | (go_at_call 194; refine (IX _).mono ?_; rintro e w1 ⟨rfl, o1, o2, o3, o4, o5, rfl⟩; simp only [plV, Act.val]) | (go_at_call 91; with_reducible refine (rcut8 _ _).mono ?_; rintro e w1 ⟨rfl, hw⟩; subst hw) | (go_at_call 91; with_reducible refine (rcut16 _ _).mono ?_; rintro e w1 ⟨rfl, hw⟩; subst hw) | (go_at_call 142; refine (rread _ _).mono ?_; rintro e w1 ⟨rfl, o, rfl⟩; simp only [ruleV, Act.val, rdR]))
  go_region_with (fail)
  all_goals go_wp2
  all_goals refine bodyPost_ret (v := plV (0, 0, (rdR (PC + 1 + 1 - 1)).1, false)) (by simp [results, Tryz.results148, go_sem, plV, Act.val, rdR]) rfl (And.intro rfl ?_)
  all_goals repeat (first | exact Below.refl _ _ | apply bw_drewN | apply bw_drew | apply bw_alloc | (refine bw_set ?_ (by omega)))
theorem pl_zpy1 (op : BA) (A X Y S P PC cyc : Int) (jam : Bool) (x0 : 0 ≤ X ∧ X < 256) (y0 : 0 ≤ Y ∧ Y < 256) (c0 : 0 ≤ PC ∧ PC < 65536) (b cap : Nat) (h : List Int) (hn : h.length = 1) (w : World) :
    Calls Tryz.prog 148 #[cdV op (b3 122 112 121), .agg #[.int .i64 A, .int .i64 X, .int .i64 Y, .int .i64 S, .int .i64 P, .int .i64 PC, .int .i64 cyc, .bool jam], hdV b h cap] w fun e w' => e = .returned (plV (0, 0, (rdR (PC + 1 + 1 - 1)).1, false)) ∧ Below w.heap.size w w' := by
  have := x0
  have := y0
  have := c0
  have al := alloc_drewN
  have sc := set_drewN
  unfold cdV hdV b3 at *
  rw [hn]
  go_enter Tryz.func148, Tryz.ntmps148
  go_wp2_with (first | (go_at_call 194; refine (IX _).mono ?_; rintro e w1 ⟨rfl, o1, o2, o3, o4, o5, rfl⟩; simp only [plV, Act.val]) | (go_at_call 91; with_reducible refine (rcut8 _ _).mono ?_; rintro e w1 ⟨rfl, hw⟩; subst hw) | (go_at_call 91; with_reducible refine (rcut16 _ _).mono ?_; rintro e w1 ⟨rfl, hw⟩; subst hw) | (go_at_call 142; refine (rread _ _).mono ?_; rintro e w1 ⟨rfl, o, rfl⟩; simp only [ruleV, Act.val, rdR]))
  go_region_with (fail)
  all_goals go_wp2
  all_goals refine bodyPost_ret (v := plV (0, 0, (rdR (PC + 1 + 1 - 1)).1, false)) (by simp [results, Tryz.results148, go_sem, plV, Act.val, rdR]) rfl (And.intro rfl ?_)
  all_goals repeat (first | exact Below.refl _ _ | apply bw_drewN | apply bw_drew | apply bw_alloc | (refine bw_set ?_ (by omega)))
theorem pl_abs1 (op : BA) (A X Y S P PC cyc : Int) (jam : Bool) (x0 : 0 ≤ X ∧ X < 256) (y0 : 0 ≤ Y ∧ Y < 256) (c0 : 0 ≤ PC ∧ PC < 65536) (b cap : Nat) (h : List Int) (hn : h.length = 1) (w : World) :
    Calls Tryz.prog 148 #[cdV op (b3 97 98 115), .agg #[.int .i64 A, .int .i64 X, .int .i64 Y, .int .i64 S, .int .i64 P, .int .i64 PC, .int .i64 cyc, .bool jam], hdV b h cap] w fun e w' => e = .returned (plV (0, 0, (rdR (PC + 1 + 1 - 1)).1, false)) ∧ Below w.heap.size w w' := by
  have := x0
  have := y0
  have := c0
  have al := alloc_drewN
  have sc := set_drewN
  unfold cdV hdV b3 at *
  rw [hn]
  go_enter Tryz.func148, Tryz.ntmps148
  go_wp2_with (first | (go_at_call 194; refine (IX _).mono ?_; rintro e w1 ⟨rfl, o1, o2, o3, o4, o5, rfl⟩; simp only [plV, Act.val]) | (go_at_call 91; with_reducible refine (rcut8 _ _).mono ?_; rintro e w1 ⟨rfl, hw⟩; subst hw) | (go_at_call 91; with_reducible refine (rcut16 _ _).mono ?_; rintro e w1 ⟨rfl, hw⟩; subst hw) | (go_at_call 142; refine (rread _ _).mono ?_; rintro e w1 ⟨rfl, o, rfl⟩; simp only [ruleV, Act.val, rdR]))
  go_region_with (fail)
  all_goals go_wp2
  all_goals refine bodyPost_ret (v := plV (0, 0, (rdR (PC + 1 + 1 - 1)).1, false)) (by simp [results, Tryz.results148, go_sem, plV, Act.val, rdR]) rfl (And.intro rfl ?_)
  all_goals repeat (first | exact Below.refl _ _ | apply bw_drewN | apply bw_drew | apply bw_alloc | (refine bw_set ?_ (by omega)))
theorem pl_abs2 (op : BA) (A X Y S P PC cyc : Int) (jam : Bool) (x0 : 0 ≤ X ∧ X < 256) (y0 : 0 ≤ Y ∧ Y < 256) (c0 : 0 ≤ PC ∧ PC < 65536) (b cap : Nat) (h : List Int) (hn : h.length = 2) (w : World) :
    Calls Tryz.prog 148 #[cdV op (b3 97 98 115), .agg #[.int .i64 A, .int .i64 X, .int .i64 Y, .int .i64 S, .int .i64 P, .int .i64 PC, .int .i64 cyc, .bool jam], hdV b h cap] w fun e w' => e = .returned (plV (0, 0, (rdR (PC + 1 + 2 - 1)).1, false)) ∧ Below w.heap.size w w' := by
  have := x0
  have := y0
  have := c0
  have al := alloc_drewN
  have sc := set_drewN
  unfold cdV hdV b3 at *
  rw [hn]
  go_enter Tryz.func148, Tryz.ntmps148
  go_wp2_with (first | (go_at_call 194; refine (IX _).mono ?_; rintro e w1 ⟨rfl, o1, o2, o3, o4, o5, rfl⟩; simp only [plV, Act.val]) | (go_at_call 91; with_reducible refine (rcut8 _ _).mono ?_; rintro e w1 ⟨rfl, hw⟩; subst hw) | (go_at_call 91; with_reducible refine (rcut16 _ _).mono ?_; rintro e w1 ⟨rfl, hw⟩; subst hw) | (go_at_call 142; refine (rread _ _).mono ?_; rintro e w1 ⟨rfl, o, rfl⟩; simp only [ruleV, Act.val, rdR]))
  go_region_with (fail)
  all_goals go_wp2
  all_goals refine bodyPost_ret (v := plV (0, 0, (rdR (PC + 1 + 2 - 1)).1, false)) (by simp [results, Tryz.results148, go_sem, plV, Act.val, rdR]) rfl (And.intro rfl ?_)
  all_goals repeat (first | exact Below.refl _ _ | apply bw_drewN | apply bw_drew | apply bw_alloc | (refine bw_set ?_ (by omega)))
theorem pl_abx1 (op : BA) (A X Y S P PC cyc : Int) (jam : Bool) (x0 : 0 ≤ X ∧ X < 256) (y0 : 0 ≤ Y ∧ Y < 256) (c0 : 0 ≤ PC ∧ PC < 65536) (b cap : Nat) (h : List Int) (hn : h.length = 1) (w : World) :
    Calls Tryz.prog 148 #[cdV op (b3 97 98 120), .agg #[.int .i64 A, .int .i64 X, .int .i64 Y, .int .i64 S, .int .i64 P, .int .i64 PC, .int .i64 cyc, .bool jam], hdV b h cap] w fun e w' => e = .returned (plV (0, 0, (rdR (PC + 1 + 1 - 1)).1, false)) ∧ Below w.heap.size w w' := by
  have := x0
  have := y0
  have := c0
  have al := alloc_drewN
  have sc := set_drewN
  unfold cdV hdV b3 at *
  rw [hn]
  go_enter Tryz.func148, Tryz.ntmps148
  go_wp2_with (first | (go_at_call 194; refine (IX _).mono ?_; rintro e w1 ⟨rfl, o1, o2, o3, o4, o5, rfl⟩; simp only [plV, Act.val]) | (go_at_call 91; with_reducible refine (rcut8 _ _).mono ?_; rintro e w1 ⟨rfl, hw⟩; subst hw) | (go_at_call 91; with_reducible refine (rcut16 _ _).mono ?_; rintro e w1 ⟨rfl, hw⟩; subst hw) | (go_at_call 142; refine (rread _ _).mono ?_; rintro e w1 ⟨rfl, o, rfl⟩; simp only [ruleV, Act.val, rdR]))
  go_region_with (fail)
  all_goals go_wp2
  all_goals refine bodyPost_ret (v := plV (0, 0, (rdR (PC + 1 + 1 - 1)).1, false)) (by simp [results, Tryz.results148, go_sem, plV, Act.val, rdR]) rfl (And.intro rfl ?_)
  all_goals repeat (first | exact Below.refl _ _ | apply bw_drewN | apply bw_drew | apply bw_alloc | (refine bw_set ?_ (by omega)))
theorem pl_abx2 (op : BA) (A X Y S P PC cyc : Int) (jam : Bool) (x0 : 0 ≤ X ∧ X < 256) (y0 : 0 ≤ Y ∧ Y < 256) (c0 : 0 ≤ PC ∧ PC < 65536) (b cap : Nat) (h : List Int) (hn : h.length = 2) (w : World) :
    Calls Tryz.prog 148 #[cdV op (b3 97 98 120), .agg #[.int .i64 A, .int .i64 X, .int .i64 Y, .int .i64 S, .int .i64 P, .int .i64 PC, .int .i64 cyc, .bool jam], hdV b h cap] w fun e w' => e = .returned (plV (0, 0, (rdR (PC + 1 + 2 - 1)).1, false)) ∧ Below w.heap.size w w' := by
  have := x0
  have := y0
  have := c0
  have al := alloc_drewN
  have sc := set_drewN
  unfold cdV hdV b3 at *
  rw [hn]
  go_enter Tryz.func148, Tryz.ntmps148
  go_wp2_with (first | (go_at_call 194; refine (IX _).mono ?_; rintro e w1 ⟨rfl, o1, o2, o3, o4, o5, rfl⟩; simp only [plV, Act.val]) | (go_at_call 91; with_reducible refine (rcut8 _ _).mono ?_; rintro e w1 ⟨rfl, hw⟩; subst hw) | (go_at_call 91; with_reducible refine (rcut16 _ _).mono ?_; rintro e w1 ⟨rfl, hw⟩; subst hw) | (go_at_call 142; refine (rread _ _).mono ?_; rintro e w1 ⟨rfl, o, rfl⟩; simp only [ruleV, Act.val, rdR]))
  go_region_with (fail)
  all_goals go_wp2
  all_goals refine bodyPost_ret (v := plV (0, 0, (rdR (PC + 1 + 2 - 1)).1, false)) (by simp [results, Tryz.results148, go_sem, plV, Act.val, rdR]) rfl (And.intro rfl ?_)
  all_goals repeat (first | exact Below.refl _ _ | apply bw_drewN | apply bw_drew | apply bw_alloc | (refine bw_set ?_ (by omega)))
theorem pl_aby1 (op : BA) (A X Y S P PC cyc : Int) (jam : Bool) (x0 : 0 ≤ X ∧ X < 256) (y0 : 0 ≤ Y ∧ Y < 256) (c0 : 0 ≤ PC ∧ PC < 65536) (b cap : Nat) (h : List Int) (hn : h.length = 1) (w : World) :
    Calls Tryz.prog 148 #[cdV op (b3 97 98 121), .agg #[.int .i64 A, .int .i64 X, .int .i64 Y, .int .i64 S, .int .i64 P, .int .i64 PC, .int .i64 cyc, .bool jam], hdV b h cap] w fun e w' => e = .returned (plV (0, 0, (rdR (PC + 1 + 1 - 1)).1, false)) ∧ Below w.heap.size w w' := by
  have := x0
  have := y0
  have := c0
  have al := alloc_drewN
  have sc := set_drewN
  unfold cdV hdV b3 at *
  rw [hn]
  go_enter Tryz.func148, Tryz.ntmps148
  go_wp2_with (first | (go_at_call 194; refine (IX _).mono ?_; rintro e w1 ⟨rfl, o1, o2, o3, o4, o5, rfl⟩; simp only [plV, Act.val]) | (go_at_call 91; with_reducible refine (rcut8 _ _).mono ?_; rintro e w1 ⟨rfl, hw⟩; subst hw) | (go_at_call 91; with_reducible refine (rcut16 _ _).mono ?_; rintro e w1 ⟨rfl, hw⟩; subst hw) | (go_at_call 142; refine (rread _ _).mono ?_; rintro e w1 ⟨rfl, o, rfl⟩; simp only [ruleV, Act.val, rdR]))
  go_region_with (fail)
  all_goals go_wp2
  all_goals refine bodyPost_ret (v := plV (0, 0, (rdR (PC + 1 + 1 - 1)).1, false)) (by simp [results, Tryz.results148, go_sem, plV, Act.val, rdR]) rfl (And.intro rfl ?_)
  all_goals repeat (first | exact Below.refl _ _ | apply bw_drewN | apply bw_drew | apply bw_alloc | (refine bw_set ?_ (by omega)))
theorem pl_aby2 (op : BA) (A X Y S P PC cyc : Int) (jam : Bool) (x0 : 0 ≤ X ∧ X < 256) (y0 : 0 ≤ Y ∧ Y < 256) (c0 : 0 ≤ PC ∧ PC < 65536) (b cap : Nat) (h : List Int) (hn : h.length = 2) (w : World) :
    Calls Tryz.prog 148 #[cdV op (b3 97 98 121), .agg #[.int .i64 A, .int .i64 X, .int .i64 Y, .int .i64 S, .int .i64 P, .int .i64 PC, .int .i64 cyc, .bool jam], hdV b h cap] w fun e w' => e = .returned (plV (0, 0, (rdR (PC + 1 + 2 - 1)).1, false)) ∧ Below w.heap.size w w' := by
  have := x0
  have := y0
  have := c0
  have al := alloc_drewN
  have sc := set_drewN
  unfold cdV hdV b3 at *
  rw [hn]
  go_enter Tryz.func148, Tryz.ntmps148
  go_wp2_with (first | (go_at_call 194; refine (IX _).mono ?_; rintro e w1 ⟨rfl, o1, o2, o3, o4, o5, rfl⟩; simp only [plV, Act.val]) | (go_at_call 91; with_reducible refine (rcut8 _ _).mono ?_; rintro e w1 ⟨rfl, hw⟩; subst hw) | (go_at_call 91; with_reducible refine (rcut16 _ _).mono ?_; rintro e w1 ⟨rfl, hw⟩; subst hw) | (go_at_call 142; refine (rread _ _).mono ?_; rintro e w1 ⟨rfl, o, rfl⟩; simp only [ruleV, Act.val, rdR]))
  go_region_with (fail)
  all_goals go_wp2
  all_goals refine bodyPost_ret (v := plV (0, 0, (rdR (PC + 1 + 2 - 1)).1, false)) (by simp [results, Tryz.results148, go_sem, plV, Act.val, rdR]) rfl (And.intro rfl ?_)
  all_goals repeat (first | exact Below.refl _ _ | apply bw_drewN | apply bw_drew | apply bw_alloc | (refine bw_set ?_ (by omega)))
theorem pl_izx1 (op : BA) (A X Y S P PC cyc : Int) (jam : Bool) (x0 : 0 ≤ X ∧ X < 256) (y0 : 0 ≤ Y ∧ Y < 256) (c0 : 0 ≤ PC ∧ PC < 65536) (b cap : Nat) (h : List Int) (hn : h.length = 1) (w : World) :
    Calls Tryz.prog 148 #[cdV op (b3 105 122 120), .agg #[.int .i64 A, .int .i64 X, .int .i64 Y, .int .i64 S, .int .i64 P, .int .i64 PC, .int .i64 cyc, .bool jam], hdV b h cap] w fun e w' => e = .returned (plV (0, 0, (rdR (PC + 1 + 1 - 1)).1, false)) ∧ Below w.heap.size w w' := by
  have := x0
  have := y0
  have := c0
  have al := alloc_drewN
  have sc := set_drewN
  unfold cdV hdV b3 at *
  rw [hn]
  go_enter Tryz.func148, Tryz.ntmps148
  go_wp2_with (first | (go_at_call 194; refine (IX _).mono ?_; rintro e w1 ⟨rfl, o1, o2, o3, o4, o5, rfl⟩; simp only [plV, Act.val]) | (go_at_call 91; with_reducible refine (rcut8 _ _).mono ?_; rintro e w1 ⟨rfl, hw⟩; subst hw) | (go_at_call 91; with_reducible refine (rcut16 _ _).mono ?_; rintro e w1 ⟨rfl, hw⟩; subst hw) | (go_at_call 142; refine (rread _ _).mono ?_; rintro e w1 ⟨rfl, o, rfl⟩; simp only [ruleV, Act.val, rdR]))
  go_region_with (fail)
  all_goals go_wp2
  all_goals refine bodyPost_ret (v := plV (0, 0, (rdR (PC + 1 + 1 - 1)).1, false)) (by simp [results, Tryz.results148, go_sem, plV, Act.val, rdR]) rfl (And.intro rfl ?_)
  all_goals repeat (first | exact Below.refl _ _ | apply bw_drewN | apply bw_drew | apply bw_alloc | (refine bw_set ?_ (by omega)))
theorem pl_izy1 (op : BA) (A X Y S P PC cyc : Int) (jam : Bool) (x0 : 0 ≤ X ∧ X < 256) (y0 : 0 ≤ Y ∧ Y < 256) (c0 : 0 ≤ PC ∧ PC < 65536) (b cap : Nat) (h : List Int) (hn : h.length = 1) (w : World) :
    Calls Tryz.prog 148 #[cdV op (b3 105 122 121), .agg #[.int .i64 A, .int .i64 X, .int .i64 Y, .int .i64 S, .int .i64 P, .int .i64 PC, .int .i64 cyc, .bool jam], hdV b h cap] w fun e w' => e = .returned (plV (0, 0, (rdR (PC + 1 + 1 - 1)).1, false)) ∧ Below w.heap.size w w' := by
  have := x0
  have := y0
  have := c0
  have al := alloc_drewN
  have sc := set_drewN
  unfold cdV hdV b3 at *
  rw [hn]
  go_enter Tryz.func148, Tryz.ntmps148
  go_wp2_with (first | (go_at_call 194; refine (IX _).mono ?_; rintro e w1 ⟨rfl, o1, o2, o3, o4, o5, rfl⟩; simp only [plV, Act.val]) | (go_at_call 91; with_reducible refine (rcut8 _ _).mono ?_; rintro e w1 ⟨rfl, hw⟩; subst hw) | (go_at_call 91; with_reducible refine (rcut16 _ _).mono ?_; rintro e w1 ⟨rfl, hw⟩; subst hw) | (go_at_call 142; refine (rread _ _).mono ?_; rintro e w1 ⟨rfl, o, rfl⟩; simp only [ruleV, Act.val, rdR]))
  go_region_with (fail)
  all_goals go_wp2
  all_goals refine bodyPost_ret (v := plV (0, 0, (rdR (PC + 1 + 1 - 1)).1, false)) (by simp [results, Tryz.results148, go_sem, plV, Act.val, rdR]) rfl (And.intro rfl ?_)
  all_goals repeat (first | exact Below.refl _ _ | apply bw_drewN | apply bw_drew | apply bw_alloc | (refine bw_set ?_ (by omega)))
theorem pl_zpn (op : BA) (A X Y S P PC cyc : Int) (jam : Bool) (x0 : 0 ≤ X ∧ X < 256) (y0 : 0 ≤ Y ∧ Y < 256) (c0 : 0 ≤ PC ∧ PC < 65536) (b cap : Nat) (h : List Int) (hn : 2 ≤ h.length) (hl : h.length ≤ 100) (w : World) (H : HdAt w b h) :
    Calls Tryz.prog 148 #[cdV op (b2 122 112), .agg #[.int .i64 A, .int .i64 X, .int .i64 Y, .int .i64 S, .int .i64 P, .int .i64 PC, .int .i64 cyc, .bool jam], hdV b h cap] w fun e w' => e = .returned (plV (hd h 1, 2, Act.nil, true)) ∧ Below w.heap.size w w' := by
  have := x0
  have := y0
  have := c0
  have al := alloc_drewN
  have sc := set_drewN
  have l1 := H.lt
  have c1 := H.c 1 (by omega)
  have p1 := H.r 1 (by omega)
  generalize hd h 1 = h1 at *
  have d1 := fun o1 o2 o3 => (cell_al3 w o1 o2 o3 b 1 l1).trans c1
  clear H
  unfold cdV hdV b2 at *
  generalize h.length = n at *
  have m1 : ¬ (n : Int) = 1 := by omega
  have m2 : (1 : Int) < (n : Int) := by omega
  go_enter Tryz.func148, Tryz.ntmps148
  go_wp2_with (first | (go_at_call 194; refine (IX _).mono ?_; rintro e w1 ⟨rfl, o1, o2, o3, o4, o5, rfl⟩; simp only [plV, Act.val]) | (go_at_call 91; with_reducible refine (rcut8 _ _).mono ?_; rintro e w1 ⟨rfl, hw⟩; subst hw) | (go_at_call 91; with_reducible refine (rcut16 _ _).mono ?_; rintro e w1 ⟨rfl, hw⟩; subst hw) | (go_at_call 142; refine (rread _ _).mono ?_; rintro e w1 ⟨rfl, o, rfl⟩; simp only [ruleV, Act.val, rdR]))
  all_goals refine bodyPost_ret (v := plV (h1, 2, Act.nil, true)) (by simp [results, Tryz.results148, go_sem, plV, Act.val, Act.nil]) rfl (And.intro rfl ?_)
  all_goals repeat (first | exact Below.refl _ _ | apply bw_drewN | apply bw_drew | apply bw_alloc | (refine bw_set ?_ (by omega)))
theorem pl_zpx2 (op : BA) (A X Y S P PC cyc : Int) (jam : Bool) (x0 : 0 ≤ X ∧ X < 256) (y0 : 0 ≤ Y ∧ Y < 256) (c0 : 0 ≤ PC ∧ PC < 65536) (b cap : Nat) (h : List Int) (hn : h.length = 2) (w : World) (H : HdAt w b h) :
    Calls Tryz.prog 148 #[cdV op (b3 122 112 120), .agg #[.int .i64 A, .int .i64 X, .int .i64 Y, .int .i64 S, .int .i64 P, .int .i64 PC, .int .i64 cyc, .bool jam], hdV b h cap] w fun e w' => e = .returned (plV (0, 0, ⟨hd h 1, false, 0, false⟩, false)) ∧ Below w.heap.size w w' := by
  have := x0
  have := y0
  have := c0
  have al := alloc_drewN
  have sc := set_drewN
  have l1 := H.lt
  have c1 := H.c 1 (by omega)
  have p1 := H.r 1 (by omega)
  generalize hd h 1 = h1 at *
  have d1 := fun o1 o2 o3 => (cell_al3 w o1 o2 o3 b 1 l1).trans c1
  clear H
  unfold cdV hdV b3 at *
  rw [hn]
  go_enter Tryz.func148, Tryz.ntmps148
  go_wp2_with (first | (go_at_call 194; refine (IX _).mono ?_; rintro e w1 ⟨rfl, o1, o2, o3, o4, o5, rfl⟩; simp only [plV, Act.val]) | (go_at_call 91; with_reducible refine (rcut8 _ _).mono ?_; rintro e w1 ⟨rfl, hw⟩; subst hw) | (go_at_call 91; with_reducible refine (rcut16 _ _).mono ?_; rintro e w1 ⟨rfl, hw⟩; subst hw) | (go_at_call 142; refine (rread _ _).mono ?_; rintro e w1 ⟨rfl, o, rfl⟩; simp only [ruleV, Act.val, rdR]))
  all_goals refine bodyPost_ret (v := plV (0, 0, ⟨h1, false, 0, false⟩, false)) (by simp [results, Tryz.results148, go_sem, plV, Act.val]) rfl (And.intro rfl ?_)
  all_goals repeat (first | exact Below.refl _ _ | apply bw_drewN | apply bw_drew | apply bw_alloc | (refine bw_set ?_ (by omega)))
theorem pl_zpxn (op : BA) (A X Y S P PC cyc : Int) (jam : Bool) (x0 : 0 ≤ X ∧ X < 256) (y0 : 0 ≤ Y ∧ Y < 256) (c0 : 0 ≤ PC ∧ PC < 65536) (b cap : Nat) (h : List Int) (hn : 3 ≤ h.length) (hl : h.length ≤ 100) (w : World) (H : HdAt w b h) :
    Calls Tryz.prog 148 #[cdV op (b3 122 112 120), .agg #[.int .i64 A, .int .i64 X, .int .i64 Y, .int .i64 S, .int .i64 P, .int .i64 PC, .int .i64 cyc, .bool jam], hdV b h cap] w fun e w' => e = .returned (plV ((hd h 1 + X) % 256, 3, Act.nil, true)) ∧ Below w.heap.size w w' := by
  have := x0
  have := y0
  have := c0
  have al := alloc_drewN
  have sc := set_drewN
  have l1 := H.lt
  have c1 := H.c 1 (by omega)
  have p1 := H.r 1 (by omega)
  generalize hd h 1 = h1 at *
  have d1 := fun o1 o2 o3 => (cell_al3 w o1 o2 o3 b 1 l1).trans c1
  clear H
  unfold cdV hdV b3 at *
  generalize h.length = n at *
  have m1 : ¬ (n : Int) = 1 := by omega
  have m2 : (1 : Int) < (n : Int) := by omega
  have m3 : ¬ (n : Int) = 2 := by omega
  have m4 : (2 : Int) < (n : Int) := by omega
  go_enter Tryz.func148, Tryz.ntmps148
  go_wp2_with (first | (go_at_call 194; refine (IX _).mono ?_; rintro e w1 ⟨rfl, o1, o2, o3, o4, o5, rfl⟩; simp only [plV, Act.val]) | (go_at_call 91; with_reducible refine (rcut8 _ _).mono ?_; rintro e w1 ⟨rfl, hw⟩; subst hw) | (go_at_call 91; with_reducible refine (rcut16 _ _).mono ?_; rintro e w1 ⟨rfl, hw⟩; subst hw) | (go_at_call 142; refine (rread _ _).mono ?_; rintro e w1 ⟨rfl, o, rfl⟩; simp only [ruleV, Act.val, rdR]))
  all_goals refine bodyPost_ret (v := plV ((h1 + X) % 256, 3, Act.nil, true)) (by simp [results, Tryz.results148, go_sem, plV, Act.val, Act.nil]) rfl (And.intro rfl ?_)
  all_goals repeat (first | exact Below.refl _ _ | apply bw_drewN | apply bw_drew | apply bw_alloc | (refine bw_set ?_ (by omega)))
theorem pl_zpy2 (op : BA) (A X Y S P PC cyc : Int) (jam : Bool) (x0 : 0 ≤ X ∧ X < 256) (y0 : 0 ≤ Y ∧ Y < 256) (c0 : 0 ≤ PC ∧ PC < 65536) (b cap : Nat) (h : List Int) (hn : h.length = 2) (w : World) (H : HdAt w b h) :
    Calls Tryz.prog 148 #[cdV op (b3 122 112 121), .agg #[.int .i64 A, .int .i64 X, .int .i64 Y, .int .i64 S, .int .i64 P, .int .i64 PC, .int .i64 cyc, .bool jam], hdV b h cap] w fun e w' => e = .returned (plV (0, 0, ⟨hd h 1, false, 0, false⟩, false)) ∧ Below w.heap.size w w' := by
  have := x0
  have := y0
  have := c0
  have al := alloc_drewN
  have sc := set_drewN
  have l1 := H.lt
  have c1 := H.c 1 (by omega)
  have p1 := H.r 1 (by omega)
  generalize hd h 1 = h1 at *
  have d1 := fun o1 o2 o3 => (cell_al3 w o1 o2 o3 b 1 l1).trans c1
  clear H
  unfold cdV hdV b3 at *
  rw [hn]
  go_enter Tryz.func148, Tryz.ntmps148
  go_wp2_with (first | (go_at_call 194; refine (IX _).mono ?_; rintro e w1 ⟨rfl, o1, o2, o3, o4, o5, rfl⟩; simp only [plV, Act.val]) | (go_at_call 91; with_reducible refine (rcut8 _ _).mono ?_; rintro e w1 ⟨rfl, hw⟩; subst hw) | (go_at_call 91; with_reducible refine (rcut16 _ _).mono ?_; rintro e w1 ⟨rfl, hw⟩; subst hw) | (go_at_call 142; refine (rread _ _).mono ?_; rintro e w1 ⟨rfl, o, rfl⟩; simp only [ruleV, Act.val, rdR]))
  all_goals refine bodyPost_ret (v := plV (0, 0, ⟨h1, false, 0, false⟩, false)) (by simp [results, Tryz.results148, go_sem, plV, Act.val]) rfl (And.intro rfl ?_)
  all_goals repeat (first | exact Below.refl _ _ | apply bw_drewN | apply bw_drew | apply bw_alloc | (refine bw_set ?_ (by omega)))
theorem pl_zpyn (op : BA) (A X Y S P PC cyc : Int) (jam : Bool) (x0 : 0 ≤ X ∧ X < 256) (y0 : 0 ≤ Y ∧ Y < 256) (c0 : 0 ≤ PC ∧ PC < 65536) (b cap : Nat) (h : List Int) (hn : 3 ≤ h.length) (hl : h.length ≤ 100) (w : World) (H : HdAt w b h) :
    Calls Tryz.prog 148 #[cdV op (b3 122 112 121), .agg #[.int .i64 A, .int .i64 X, .int .i64 Y, .int .i64 S, .int .i64 P, .int .i64 PC, .int .i64 cyc, .bool jam], hdV b h cap] w fun e w' => e = .returned (plV ((hd h 1 + Y) % 256, 3, Act.nil, true)) ∧ Below w.heap.size w w' := by
  have := x0
  have := y0
  have := c0
  have al := alloc_drewN
  have sc := set_drewN
  have l1 := H.lt
  have c1 := H.c 1 (by omega)
  have p1 := H.r 1 (by omega)
  generalize hd h 1 = h1 at *
  have d1 := fun o1 o2 o3 => (cell_al3 w o1 o2 o3 b 1 l1).trans c1
  clear H
  unfold cdV hdV b3 at *
  generalize h.length = n at *
  have m1 : ¬ (n : Int) = 1 := by omega
  have m2 : (1 : Int) < (n : Int) := by omega
  have m3 : ¬ (n : Int) = 2 := by omega
  have m4 : (2 : Int) < (n : Int) := by omega
  go_enter Tryz.func148, Tryz.ntmps148
  go_wp2_with (first | (go_at_call 194; refine (IX _).mono ?_; rintro e w1 ⟨rfl, o1, o2, o3, o4, o5, rfl⟩; simp only [plV, Act.val]) | (go_at_call 91; with_reducible refine (rcut8 _ _).mono ?_; rintro e w1 ⟨rfl, hw⟩; subst hw) | (go_at_call 91; with_reducible refine (rcut16 _ _).mono ?_; rintro e w1 ⟨rfl, hw⟩; subst hw) | (go_at_call 142; refine (rread _ _).mono ?_; rintro e w1 ⟨rfl, o, rfl⟩; simp only [ruleV, Act.val, rdR]))
  all_goals refine bodyPost_ret (v := plV ((h1 + Y) % 256, 3, Act.nil, true)) (by simp [results, Tryz.results148, go_sem, plV, Act.val, Act.nil]) rfl (And.intro rfl ?_)
  all_goals repeat (first | exact Below.refl _ _ | apply bw_drewN | apply bw_drew | apply bw_alloc | (refine bw_set ?_ (by omega)))
theorem pl_absn (op : BA) (A X Y S P PC cyc : Int) (jam : Bool) (x0 : 0 ≤ X ∧ X < 256) (y0 : 0 ≤ Y ∧ Y < 256) (c0 : 0 ≤ PC ∧ PC < 65536) (b cap : Nat) (h : List Int) (hn : 3 ≤ h.length) (hl : h.length ≤ 100) (w : World) (H : HdAt w b h) :
    Calls Tryz.prog 148 #[cdV op (b3 97 98 115), .agg #[.int .i64 A, .int .i64 X, .int .i64 Y, .int .i64 S, .int .i64 P, .int .i64 PC, .int .i64 cyc, .bool jam], hdV b h cap] w fun e w' => e = .returned (plV (hd h 1 + 256 * hd h 2, 3, Act.nil, true)) ∧ Below w.heap.size w w' := by
  have := x0
  have := y0
  have := c0
  have al := alloc_drewN
  have sc := set_drewN
  have l1 := H.lt
  have c1 := H.c 1 (by omega)
  have p1 := H.r 1 (by omega)
  have c2 := H.c 2 (by omega)
  have p2 := H.r 2 (by omega)
  generalize hd h 1 = h1 at *
  have d1 := fun o1 o2 o3 => (cell_al3 w o1 o2 o3 b 1 l1).trans c1
  generalize hd h 2 = h2 at *
  have d2 := fun o1 o2 o3 => (cell_al3 w o1 o2 o3 b 2 l1).trans c2
  clear H
  unfold cdV hdV b3 at *
  generalize h.length = n at *
  have m1 : ¬ (n : Int) = 1 := by omega
  have m2 : (1 : Int) < (n : Int) := by omega
  have m3 : ¬ (n : Int) = 2 := by omega
  have m4 : (2 : Int) < (n : Int) := by omega
  go_enter Tryz.func148, Tryz.ntmps148
  go_wp2_with (first | (go_at_call 194; refine (IX _).mono ?_; rintro e w1 ⟨rfl, o1, o2, o3, o4, o5, rfl⟩; simp only [plV, Act.val]) | (go_at_call 91; with_reducible refine (rcut8 _ _).mono ?_; rintro e w1 ⟨rfl, hw⟩; subst hw) | (go_at_call 91; with_reducible refine (rcut16 _ _).mono ?_; rintro e w1 ⟨rfl, hw⟩; subst hw) | (go_at_call 142; refine (rread _ _).mono ?_; rintro e w1 ⟨rfl, o, rfl⟩; simp only [ruleV, Act.val, rdR]))
  all_goals refine bodyPost_ret (v := plV (h1 + 256 * h2, 3, Act.nil, true)) (by simp [results, Tryz.results148, go_sem, plV, Act.val, Act.nil]) rfl (And.intro rfl ?_)
  all_goals repeat (first | exact Below.refl _ _ | apply bw_drewN | apply bw_drew | apply bw_alloc | (refine bw_set ?_ (by omega)))
theorem pl_izx2 (op : BA) (A X Y S P PC cyc : Int) (jam : Bool) (x0 : 0 ≤ X ∧ X < 256) (y0 : 0 ≤ Y ∧ Y < 256) (c0 : 0 ≤ PC ∧ PC < 65536) (b cap : Nat) (h : List Int) (hn : h.length = 2) (w : World) (H : HdAt w b h) :
    Calls Tryz.prog 148 #[cdV op (b3 105 122 120), .agg #[.int .i64 A, .int .i64 X, .int .i64 Y, .int .i64 S, .int .i64 P, .int .i64 PC, .int .i64 cyc, .bool jam], hdV b h cap] w fun e w' => e = .returned (plV (0, 0, ⟨(hd h 1) % 256, false, 0, false⟩, false)) ∧ Below w.heap.size w w' := by
  have := x0
  have := y0
  have := c0
  have al := alloc_drewN
  have sc := set_drewN
  have l1 := H.lt
  have c1 := H.c 1 (by omega)
  have p1 := H.r 1 (by omega)
  generalize hd h 1 = h1 at *
  have d1 := fun o1 o2 o3 => (cell_al3 w o1 o2 o3 b 1 l1).trans c1
  clear H
  unfold cdV hdV b3 at *
  rw [hn]
  go_enter Tryz.func148, Tryz.ntmps148
  go_wp2_with (first | (go_at_call 194; refine (IX _).mono ?_; rintro e w1 ⟨rfl, o1, o2, o3, o4, o5, rfl⟩; simp only [plV, Act.val]) | (go_at_call 91; with_reducible refine (rcut8 _ _).mono ?_; rintro e w1 ⟨rfl, hw⟩; subst hw) | (go_at_call 91; with_reducible refine (rcut16 _ _).mono ?_; rintro e w1 ⟨rfl, hw⟩; subst hw) | (go_at_call 142; refine (rread _ _).mono ?_; rintro e w1 ⟨rfl, o, rfl⟩; simp only [ruleV, Act.val, rdR]))
  all_goals refine bodyPost_ret (v := plV (0, 0, ⟨(h1) % 256, false, 0, false⟩, false)) (by simp [results, Tryz.results148, go_sem, plV, Act.val]) rfl (And.intro rfl ?_)
  all_goals repeat (first | exact Below.refl _ _ | apply bw_drewN | apply bw_drew | apply bw_alloc | (refine bw_set ?_ (by omega)))
theorem pl_izx3 (op : BA) (A X Y S P PC cyc : Int) (jam : Bool) (x0 : 0 ≤ X ∧ X < 256) (y0 : 0 ≤ Y ∧ Y < 256) (c0 : 0 ≤ PC ∧ PC < 65536) (b cap : Nat) (h : List Int) (hn : h.length = 3) (w : World) (H : HdAt w b h) :
    Calls Tryz.prog 148 #[cdV op (b3 105 122 120), .agg #[.int .i64 A, .int .i64 X, .int .i64 Y, .int .i64 S, .int .i64 P, .int .i64 PC, .int .i64 cyc, .bool jam], hdV b h cap] w fun e w' => e = .returned (plV (0, 0, ⟨(hd h 1 + X) % 256, false, 0, false⟩, false)) ∧ Below w.heap.size w w' := by
  have := x0
  have := y0
  have := c0
  have al := alloc_drewN
  have sc := set_drewN
  have l1 := H.lt
  have c1 := H.c 1 (by omega)
  have p1 := H.r 1 (by omega)
  generalize hd h 1 = h1 at *
  have d1 := fun o1 o2 o3 => (cell_al3 w o1 o2 o3 b 1 l1).trans c1
  clear H
  unfold cdV hdV b3 at *
  rw [hn]
  go_enter Tryz.func148, Tryz.ntmps148
  go_wp2_with (first | (go_at_call 194; refine (IX _).mono ?_; rintro e w1 ⟨rfl, o1, o2, o3, o4, o5, rfl⟩; simp only [plV, Act.val]) | (go_at_call 91; with_reducible refine (rcut8 _ _).mono ?_; rintro e w1 ⟨rfl, hw⟩; subst hw) | (go_at_call 91; with_reducible refine (rcut16 _ _).mono ?_; rintro e w1 ⟨rfl, hw⟩; subst hw) | (go_at_call 142; refine (rread _ _).mono ?_; rintro e w1 ⟨rfl, o, rfl⟩; simp only [ruleV, Act.val, rdR]))
  all_goals refine bodyPost_ret (v := plV (0, 0, ⟨(h1 + X) % 256, false, 0, false⟩, false)) (by simp [results, Tryz.results148, go_sem, plV, Act.val]) rfl (And.intro rfl ?_)
  all_goals repeat (first | exact Below.refl _ _ | apply bw_drewN | apply bw_drew | apply bw_alloc | (refine bw_set ?_ (by omega)))
theorem pl_izx4 (op : BA) (A X Y S P PC cyc : Int) (jam : Bool) (x0 : 0 ≤ X ∧ X < 256) (y0 : 0 ≤ Y ∧ Y < 256) (c0 : 0 ≤ PC ∧ PC < 65536) (b cap : Nat) (h : List Int) (hn : h.length = 4) (w : World) (H : HdAt w b h) :
    Calls Tryz.prog 148 #[cdV op (b3 105 122 120), .agg #[.int .i64 A, .int .i64 X, .int .i64 Y, .int .i64 S, .int .i64 P, .int .i64 PC, .int .i64 cyc, .bool jam], hdV b h cap] w fun e w' => e = .returned (plV (0, 0, ⟨(hd h 1 + X + 1) % 256, false, 0, false⟩, false)) ∧ Below w.heap.size w w' := by
  have := x0
  have := y0
  have := c0
  have al := alloc_drewN
  have sc := set_drewN
  have l1 := H.lt
  have c1 := H.c 1 (by omega)
  have p1 := H.r 1 (by omega)
  generalize hd h 1 = h1 at *
  have d1 := fun o1 o2 o3 => (cell_al3 w o1 o2 o3 b 1 l1).trans c1
  clear H
  unfold cdV hdV b3 at *
  rw [hn]
  go_enter Tryz.func148, Tryz.ntmps148
  go_wp2_with (first | (go_at_call 194; refine (IX _).mono ?_; rintro e w1 ⟨rfl, o1, o2, o3, o4, o5, rfl⟩; simp only [plV, Act.val]) | (go_at_call 91; with_reducible refine (rcut8 _ _).mono ?_; rintro e w1 ⟨rfl, hw⟩; subst hw) | (go_at_call 91; with_reducible refine (rcut16 _ _).mono ?_; rintro e w1 ⟨rfl, hw⟩; subst hw) | (go_at_call 142; refine (rread _ _).mono ?_; rintro e w1 ⟨rfl, o, rfl⟩; simp only [ruleV, Act.val, rdR]))
  all_goals refine bodyPost_ret (v := plV (0, 0, ⟨(h1 + X + 1) % 256, false, 0, false⟩, false)) (by simp [results, Tryz.results148, go_sem, plV, Act.val]) rfl (And.intro rfl ?_)
  all_goals repeat (first | exact Below.refl _ _ | apply bw_drewN | apply bw_drew | apply bw_alloc | (refine bw_set ?_ (by omega)))
theorem pl_izy2 (op : BA) (A X Y S P PC cyc : Int) (jam : Bool) (x0 : 0 ≤ X ∧ X < 256) (y0 : 0 ≤ Y ∧ Y < 256) (c0 : 0 ≤ PC ∧ PC < 65536) (b cap : Nat) (h : List Int) (hn : h.length = 2) (w : World) (H : HdAt w b h) :
    Calls Tryz.prog 148 #[cdV op (b3 105 122 121), .agg #[.int .i64 A, .int .i64 X, .int .i64 Y, .int .i64 S, .int .i64 P, .int .i64 PC, .int .i64 cyc, .bool jam], hdV b h cap] w fun e w' => e = .returned (plV (0, 0, ⟨(hd h 1 + 2 - 2) % 256, false, 0, false⟩, false)) ∧ Below w.heap.size w w' := by
  have := x0
  have := y0
  have := c0
  have al := alloc_drewN
  have sc := set_drewN
  have l1 := H.lt
  have c1 := H.c 1 (by omega)
  have p1 := H.r 1 (by omega)
  generalize hd h 1 = h1 at *
  have d1 := fun o1 o2 o3 => (cell_al3 w o1 o2 o3 b 1 l1).trans c1
  clear H
  unfold cdV hdV b3 at *
  rw [hn]
  go_enter Tryz.func148, Tryz.ntmps148
  go_wp2_with (first | (go_at_call 194; refine (IX _).mono ?_; rintro e w1 ⟨rfl, o1, o2, o3, o4, o5, rfl⟩; simp only [plV, Act.val]) | (go_at_call 91; with_reducible refine (rcut8 _ _).mono ?_; rintro e w1 ⟨rfl, hw⟩; subst hw) | (go_at_call 91; with_reducible refine (rcut16 _ _).mono ?_; rintro e w1 ⟨rfl, hw⟩; subst hw) | (go_at_call 142; refine (rread _ _).mono ?_; rintro e w1 ⟨rfl, o, rfl⟩; simp only [ruleV, Act.val, rdR]))
  all_goals refine bodyPost_ret (v := plV (0, 0, ⟨(h1 + 2 - 2) % 256, false, 0, false⟩, false)) (by simp [results, Tryz.results148, go_sem, plV, Act.val]) rfl (And.intro rfl ?_)
  all_goals repeat (first | exact Below.refl _ _ | apply bw_drewN | apply bw_drew | apply bw_alloc | (refine bw_set ?_ (by omega)))
theorem pl_izy3 (op : BA) (A X Y S P PC cyc : Int) (jam : Bool) (x0 : 0 ≤ X ∧ X < 256) (y0 : 0 ≤ Y ∧ Y < 256) (c0 : 0 ≤ PC ∧ PC < 65536) (b cap : Nat) (h : List Int) (hn : h.length = 3) (w : World) (H : HdAt w b h) :
    Calls Tryz.prog 148 #[cdV op (b3 105 122 121), .agg #[.int .i64 A, .int .i64 X, .int .i64 Y, .int .i64 S, .int .i64 P, .int .i64 PC, .int .i64 cyc, .bool jam], hdV b h cap] w fun e w' => e = .returned (plV (0, 0, ⟨(hd h 1 + 3 - 2) % 256, false, 0, false⟩, false)) ∧ Below w.heap.size w w' := by
  have := x0
  have := y0
  have := c0
  have al := alloc_drewN
  have sc := set_drewN
  have l1 := H.lt
  have c1 := H.c 1 (by omega)
  have p1 := H.r 1 (by omega)
  generalize hd h 1 = h1 at *
  have d1 := fun o1 o2 o3 => (cell_al3 w o1 o2 o3 b 1 l1).trans c1
  clear H
  unfold cdV hdV b3 at *
  rw [hn]
  go_enter Tryz.func148, Tryz.ntmps148
  go_wp2_with (first | (go_at_call 194; refine (IX _).mono ?_; rintro e w1 ⟨rfl, o1, o2, o3, o4, o5, rfl⟩; simp only [plV, Act.val]) | (go_at_call 91; with_reducible refine (rcut8 _ _).mono ?_; rintro e w1 ⟨rfl, hw⟩; subst hw) | (go_at_call 91; with_reducible refine (rcut16 _ _).mono ?_; rintro e w1 ⟨rfl, hw⟩; subst hw) | (go_at_call 142; refine (rread _ _).mono ?_; rintro e w1 ⟨rfl, o, rfl⟩; simp only [ruleV, Act.val, rdR]))
  all_goals refine bodyPost_ret (v := plV (0, 0, ⟨(h1 + 3 - 2) % 256, false, 0, false⟩, false)) (by simp [results, Tryz.results148, go_sem, plV, Act.val]) rfl (And.intro rfl ?_)
  all_goals repeat (first | exact Below.refl _ _ | apply bw_drewN | apply bw_drew | apply bw_alloc | (refine bw_set ?_ (by omega)))

end Go.Proofs.YtcgjliflnnklnaaGreat
