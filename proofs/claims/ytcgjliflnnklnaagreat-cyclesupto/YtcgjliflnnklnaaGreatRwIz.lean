/-
  The document's computer, walked: the cycles of pulls and jumps.
-/
import Derived.Test.YtcgjliflnnklnaaGreatRwGz
import Derived.Handy
namespace Go.Proofs.YtcgjliflnnklnaaGreat
open Go.RowKit
set_option maxRecDepth 100000
set_option maxHeartbeats 20000000

theorem cell_al3 (w : World) (o1 o2 o3 : Obj) (b i : Nat) (h : b < w.heap.size) : (((w.alloc o1).alloc o2).alloc o3).cell? ⟨b, i, none⟩ = w.cell? ⟨b, i, none⟩ :=
  (bw_cell (bw_alloc (bw_alloc (bw_alloc (Below.refl _ _) o1) o2) o3)).1 b i h
theorem cell_al4 (w : World) (o1 o2 o3 o4 : Obj) (b i : Nat) (h : b < w.heap.size) : ((((w.alloc o1).alloc o2).alloc o3).alloc o4).cell? ⟨b, i, none⟩ = w.cell? ⟨b, i, none⟩ :=
  (bw_cell (bw_alloc (bw_alloc (bw_alloc (bw_alloc (Below.refl _ _) o1) o2) o3) o4)).1 b i h

theorem pu_RTS5 (A X Y S P PC cyc : Int) (jam : Bool) (s0 : 0 ≤ S ∧ S < 256) (c0 : 0 ≤ PC ∧ PC < 65536) (b cap : Nat) (h : List Int) (md : BA) (hn : h.length = 5) (w : World) (H : HdAt w b h) :
    Calls Tryz.prog 145 #[cdV (b3 82 84 83) md, .agg #[.int .i64 A, .int .i64 X, .int .i64 Y, .int .i64 S, .int .i64 P, .int .i64 PC, .int .i64 cyc, .bool jam], hdV b h cap] w fun e w' => e = .returned (ruleV (rdR (hd h 3 + 256 * hd h 4))) ∧ Below w.heap.size w w' := by
  unfold b3 cdV hdV
  have := s0
  have := c0
  have l1 := H.lt
  have l2 : b ≠ w.heap.size := by omega
  have l3 : w.heap.size ≠ b := by omega
  have l21 : b ≠ w.heap.size + 1 := by omega
  have l31 : w.heap.size + 1 ≠ b := by omega
  have l22 : b ≠ w.heap.size + 2 := by omega
  have l32 : w.heap.size + 2 ≠ b := by omega
  have l23 : b ≠ w.heap.size + 3 := by omega
  have l33 : w.heap.size + 3 ≠ b := by omega
  have c3 := H.c 3 (by omega)
  obtain ⟨p3, q3⟩ := H.r 3 (by omega)
  generalize hd h 3 = h3 at *
  have d3 := fun o1 o2 o3 => (cell_al3 w o1 o2 o3 b 3 l1).trans c3
  have f3 := fun o1 o2 o3 o4 => (cell_al4 w o1 o2 o3 o4 b 3 l1).trans c3
  have c4 := H.c 4 (by omega)
  obtain ⟨p4, q4⟩ := H.r 4 (by omega)
  generalize hd h 4 = h4 at *
  have d4 := fun o1 o2 o3 => (cell_al3 w o1 o2 o3 b 4 l1).trans c4
  have f4 := fun o1 o2 o3 o4 => (cell_al4 w o1 o2 o3 o4 b 4 l1).trans c4
  clear H
  have w1 : IntKind.i64.wrap (256 * h4) = 256 * h4 := by rw [IntKind.wrap_i64]; omega
  have w2 : IntKind.i64.wrap (h3 + 256 * h4) = h3 + 256 * h4 := by rw [IntKind.wrap_i64]; omega
  have w3 : IntKind.i64.wrap (h3 + 1) = h3 + 1 := by rw [IntKind.wrap_i64]; omega
  have w4 : IntKind.i64.wrap ((h3 + 1) % 256 + 256 * h4) = (h3 + 1) % 256 + 256 * h4 := by rw [IntKind.wrap_i64]; omega
  rw [hn]
  go_enter Tryz.func145, Tryz.ntmps145
  go_wp2_with (first | (go_at_call 91; with_reducible refine (rcut8 _ _).mono ?_; rintro e w1 ⟨rfl, hw⟩; subst hw) | (go_at_call 91; with_reducible refine (rcut16 _ _).mono ?_; rintro e w1 ⟨rfl, hw⟩; subst hw) | (go_at_call 142; refine (rread _ _).mono ?_; rintro e w1 ⟨rfl, o, rfl⟩; simp only [ruleV, Act.val, rdR]) | (go_at_call 143; refine (rwrite _ _ _).mono ?_; rintro e w1 ⟨rfl, o, rfl⟩; simp only [ruleV, Act.val, wrR]) | (go_at_call 144; refine (rdone _).mono ?_; rintro e w1 ⟨rfl, o, rfl⟩; simp only [ruleV, Act.val, dnR, Act.nil]))
  go_region_held3 (fun w' => w'.cell? ⟨b, 3, none⟩ = some (.int .i64 h3) ∧ w'.cell? ⟨b, 4, none⟩ = some (.int .i64 h4)) (go_keep) (first | (go_at_call 91; with_reducible refine (rcut8 _ _).mono ?_; rintro e w1 ⟨rfl, hw⟩; subst hw) | (go_at_call 91; with_reducible refine (rcut16 _ _).mono ?_; rintro e w1 ⟨rfl, hw⟩; subst hw) | (go_at_call 142; refine (rread _ _).mono ?_; rintro e w1 ⟨rfl, o, rfl⟩; simp only [ruleV, Act.val, rdR]) | (go_at_call 143; refine (rwrite _ _ _).mono ?_; rintro e w1 ⟨rfl, o, rfl⟩; simp only [ruleV, Act.val, wrR]) | (go_at_call 144; refine (rdone _).mono ?_; rintro e w1 ⟨rfl, o, rfl⟩; simp only [ruleV, Act.val, dnR, Act.nil]))
  all_goals (try (go_wp2_with (first | (go_at_call 91; with_reducible refine (rcut8 _ _).mono ?_; rintro e w1 ⟨rfl, hw⟩; subst hw) | (go_at_call 91; with_reducible refine (rcut16 _ _).mono ?_; rintro e w1 ⟨rfl, hw⟩; subst hw) | (go_at_call 142; refine (rread _ _).mono ?_; rintro e w1 ⟨rfl, o, rfl⟩; simp only [ruleV, Act.val, rdR]) | (go_at_call 143; refine (rwrite _ _ _).mono ?_; rintro e w1 ⟨rfl, o, rfl⟩; simp only [ruleV, Act.val, wrR]) | (go_at_call 144; refine (rdone _).mono ?_; rintro e w1 ⟨rfl, o, rfl⟩; simp only [ruleV, Act.val, dnR, Act.nil]))))
  all_goals refine bodyPost_ret (v := ruleV (rdR (h3 + 256 * h4))) (by simp [results, Tryz.results145, go_sem, ruleV, Act.val, rdR]) rfl (And.intro rfl ?_)
  all_goals repeat (first | exact Below.refl _ _ | apply bw_drewN | apply bw_drew | apply bw_alloc | (refine bw_set ?_ (by omega)))
theorem ju_ind3 (A X Y S P PC cyc : Int) (jam : Bool) (s0 : 0 ≤ S ∧ S < 256) (c0 : 0 ≤ PC ∧ PC < 65536) (b cap : Nat) (h : List Int) (hn : h.length = 3) (w : World) (H : HdAt w b h) :
    Calls Tryz.prog 146 #[cdV (b3 74 77 80) (b3 105 110 100), .agg #[.int .i64 A, .int .i64 X, .int .i64 Y, .int .i64 S, .int .i64 P, .int .i64 PC, .int .i64 cyc, .bool jam], hdV b h cap] w fun e w' => e = .returned (ruleV (rdR (hd h 1 + 256 * hd h 2))) ∧ Below w.heap.size w w' := by
  unfold b3 cdV hdV
  have := s0
  have := c0
  have l1 := H.lt
  have l2 : b ≠ w.heap.size := by omega
  have l3 : w.heap.size ≠ b := by omega
  have l21 : b ≠ w.heap.size + 1 := by omega
  have l31 : w.heap.size + 1 ≠ b := by omega
  have l22 : b ≠ w.heap.size + 2 := by omega
  have l32 : w.heap.size + 2 ≠ b := by omega
  have l23 : b ≠ w.heap.size + 3 := by omega
  have l33 : w.heap.size + 3 ≠ b := by omega
  have c1 := H.c 1 (by omega)
  obtain ⟨p1, q1⟩ := H.r 1 (by omega)
  generalize hd h 1 = h1 at *
  have d1 := fun o1 o2 o3 => (cell_al3 w o1 o2 o3 b 1 l1).trans c1
  have f1 := fun o1 o2 o3 o4 => (cell_al4 w o1 o2 o3 o4 b 1 l1).trans c1
  have c2 := H.c 2 (by omega)
  obtain ⟨p2, q2⟩ := H.r 2 (by omega)
  generalize hd h 2 = h2 at *
  have d2 := fun o1 o2 o3 => (cell_al3 w o1 o2 o3 b 2 l1).trans c2
  have f2 := fun o1 o2 o3 o4 => (cell_al4 w o1 o2 o3 o4 b 2 l1).trans c2
  clear H
  have w1 : IntKind.i64.wrap (256 * h2) = 256 * h2 := by rw [IntKind.wrap_i64]; omega
  have w2 : IntKind.i64.wrap (h1 + 256 * h2) = h1 + 256 * h2 := by rw [IntKind.wrap_i64]; omega
  have w3 : IntKind.i64.wrap (h1 + 1) = h1 + 1 := by rw [IntKind.wrap_i64]; omega
  have w4 : IntKind.i64.wrap ((h1 + 1) % 256 + 256 * h2) = (h1 + 1) % 256 + 256 * h2 := by rw [IntKind.wrap_i64]; omega
  rw [hn]
  go_enter Tryz.func146, Tryz.ntmps146
  go_wp2_with (first | (go_at_call 91; with_reducible refine (rcut8 _ _).mono ?_; rintro e w1 ⟨rfl, hw⟩; subst hw) | (go_at_call 91; with_reducible refine (rcut16 _ _).mono ?_; rintro e w1 ⟨rfl, hw⟩; subst hw) | (go_at_call 142; refine (rread _ _).mono ?_; rintro e w1 ⟨rfl, o, rfl⟩; simp only [ruleV, Act.val, rdR]) | (go_at_call 143; refine (rwrite _ _ _).mono ?_; rintro e w1 ⟨rfl, o, rfl⟩; simp only [ruleV, Act.val, wrR]) | (go_at_call 144; refine (rdone _).mono ?_; rintro e w1 ⟨rfl, o, rfl⟩; simp only [ruleV, Act.val, dnR, Act.nil]))
  go_region_held3 (fun w' => w'.cell? ⟨b, 1, none⟩ = some (.int .i64 h1) ∧ w'.cell? ⟨b, 2, none⟩ = some (.int .i64 h2)) (go_keep) (first | (go_at_call 91; with_reducible refine (rcut8 _ _).mono ?_; rintro e w1 ⟨rfl, hw⟩; subst hw) | (go_at_call 91; with_reducible refine (rcut16 _ _).mono ?_; rintro e w1 ⟨rfl, hw⟩; subst hw) | (go_at_call 142; refine (rread _ _).mono ?_; rintro e w1 ⟨rfl, o, rfl⟩; simp only [ruleV, Act.val, rdR]) | (go_at_call 143; refine (rwrite _ _ _).mono ?_; rintro e w1 ⟨rfl, o, rfl⟩; simp only [ruleV, Act.val, wrR]) | (go_at_call 144; refine (rdone _).mono ?_; rintro e w1 ⟨rfl, o, rfl⟩; simp only [ruleV, Act.val, dnR, Act.nil]))
  all_goals (try (go_wp2_with (first | (go_at_call 91; with_reducible refine (rcut8 _ _).mono ?_; rintro e w1 ⟨rfl, hw⟩; subst hw) | (go_at_call 91; with_reducible refine (rcut16 _ _).mono ?_; rintro e w1 ⟨rfl, hw⟩; subst hw) | (go_at_call 142; refine (rread _ _).mono ?_; rintro e w1 ⟨rfl, o, rfl⟩; simp only [ruleV, Act.val, rdR]) | (go_at_call 143; refine (rwrite _ _ _).mono ?_; rintro e w1 ⟨rfl, o, rfl⟩; simp only [ruleV, Act.val, wrR]) | (go_at_call 144; refine (rdone _).mono ?_; rintro e w1 ⟨rfl, o, rfl⟩; simp only [ruleV, Act.val, dnR, Act.nil]))))
  all_goals refine bodyPost_ret (v := ruleV (rdR (h1 + 256 * h2))) (by simp [results, Tryz.results146, go_sem, ruleV, Act.val, rdR]) rfl (And.intro rfl ?_)
  all_goals repeat (first | exact Below.refl _ _ | apply bw_drewN | apply bw_drew | apply bw_alloc | (refine bw_set ?_ (by omega)))
theorem ju_abs4 (A X Y S P PC cyc : Int) (jam : Bool) (s0 : 0 ≤ S ∧ S < 256) (c0 : 0 ≤ PC ∧ PC < 65536) (b cap : Nat) (h : List Int) (hn : h.length = 4) (w : World) (H : HdAt w b h) :
    Calls Tryz.prog 146 #[cdV (b3 74 77 80) (b3 97 98 115), .agg #[.int .i64 A, .int .i64 X, .int .i64 Y, .int .i64 S, .int .i64 P, .int .i64 PC, .int .i64 cyc, .bool jam], hdV b h cap] w fun e w' => e = .returned (ruleV (rdR ((hd h 1 + 1) % 256 + 256 * hd h 2))) ∧ Below w.heap.size w w' := by
  unfold b3 cdV hdV
  have := s0
  have := c0
  have l1 := H.lt
  have l2 : b ≠ w.heap.size := by omega
  have l3 : w.heap.size ≠ b := by omega
  have l21 : b ≠ w.heap.size + 1 := by omega
  have l31 : w.heap.size + 1 ≠ b := by omega
  have l22 : b ≠ w.heap.size + 2 := by omega
  have l32 : w.heap.size + 2 ≠ b := by omega
  have l23 : b ≠ w.heap.size + 3 := by omega
  have l33 : w.heap.size + 3 ≠ b := by omega
  have c1 := H.c 1 (by omega)
  obtain ⟨p1, q1⟩ := H.r 1 (by omega)
  generalize hd h 1 = h1 at *
  have d1 := fun o1 o2 o3 => (cell_al3 w o1 o2 o3 b 1 l1).trans c1
  have f1 := fun o1 o2 o3 o4 => (cell_al4 w o1 o2 o3 o4 b 1 l1).trans c1
  have c2 := H.c 2 (by omega)
  obtain ⟨p2, q2⟩ := H.r 2 (by omega)
  generalize hd h 2 = h2 at *
  have d2 := fun o1 o2 o3 => (cell_al3 w o1 o2 o3 b 2 l1).trans c2
  have f2 := fun o1 o2 o3 o4 => (cell_al4 w o1 o2 o3 o4 b 2 l1).trans c2
  clear H
  have w1 : IntKind.i64.wrap (256 * h2) = 256 * h2 := by rw [IntKind.wrap_i64]; omega
  have w2 : IntKind.i64.wrap (h1 + 256 * h2) = h1 + 256 * h2 := by rw [IntKind.wrap_i64]; omega
  have w3 : IntKind.i64.wrap (h1 + 1) = h1 + 1 := by rw [IntKind.wrap_i64]; omega
  have w4 : IntKind.i64.wrap ((h1 + 1) % 256 + 256 * h2) = (h1 + 1) % 256 + 256 * h2 := by rw [IntKind.wrap_i64]; omega
  rw [hn]
  go_enter Tryz.func146, Tryz.ntmps146
  go_wp2_with (first | (go_at_call 91; with_reducible refine (rcut8 _ _).mono ?_; rintro e w1 ⟨rfl, hw⟩; subst hw) | (go_at_call 91; with_reducible refine (rcut16 _ _).mono ?_; rintro e w1 ⟨rfl, hw⟩; subst hw) | (go_at_call 142; refine (rread _ _).mono ?_; rintro e w1 ⟨rfl, o, rfl⟩; simp only [ruleV, Act.val, rdR]) | (go_at_call 143; refine (rwrite _ _ _).mono ?_; rintro e w1 ⟨rfl, o, rfl⟩; simp only [ruleV, Act.val, wrR]) | (go_at_call 144; refine (rdone _).mono ?_; rintro e w1 ⟨rfl, o, rfl⟩; simp only [ruleV, Act.val, dnR, Act.nil]))
  go_region_held3 (fun w' => w'.cell? ⟨b, 1, none⟩ = some (.int .i64 h1) ∧ w'.cell? ⟨b, 2, none⟩ = some (.int .i64 h2)) (go_keep) (first | (go_at_call 91; with_reducible refine (rcut8 _ _).mono ?_; rintro e w1 ⟨rfl, hw⟩; subst hw) | (go_at_call 91; with_reducible refine (rcut16 _ _).mono ?_; rintro e w1 ⟨rfl, hw⟩; subst hw) | (go_at_call 142; refine (rread _ _).mono ?_; rintro e w1 ⟨rfl, o, rfl⟩; simp only [ruleV, Act.val, rdR]) | (go_at_call 143; refine (rwrite _ _ _).mono ?_; rintro e w1 ⟨rfl, o, rfl⟩; simp only [ruleV, Act.val, wrR]) | (go_at_call 144; refine (rdone _).mono ?_; rintro e w1 ⟨rfl, o, rfl⟩; simp only [ruleV, Act.val, dnR, Act.nil]))
  all_goals (try (go_wp2_with (first | (go_at_call 91; with_reducible refine (rcut8 _ _).mono ?_; rintro e w1 ⟨rfl, hw⟩; subst hw) | (go_at_call 91; with_reducible refine (rcut16 _ _).mono ?_; rintro e w1 ⟨rfl, hw⟩; subst hw) | (go_at_call 142; refine (rread _ _).mono ?_; rintro e w1 ⟨rfl, o, rfl⟩; simp only [ruleV, Act.val, rdR]) | (go_at_call 143; refine (rwrite _ _ _).mono ?_; rintro e w1 ⟨rfl, o, rfl⟩; simp only [ruleV, Act.val, wrR]) | (go_at_call 144; refine (rdone _).mono ?_; rintro e w1 ⟨rfl, o, rfl⟩; simp only [ruleV, Act.val, dnR, Act.nil]))))
  all_goals refine bodyPost_ret (v := ruleV (rdR ((h1 + 1) % 256 + 256 * h2))) (by simp [results, Tryz.results146, go_sem, ruleV, Act.val, rdR]) rfl (And.intro rfl ?_)
  all_goals repeat (first | exact Below.refl _ _ | apply bw_drewN | apply bw_drew | apply bw_alloc | (refine bw_set ?_ (by omega)))
theorem ju_ind4 (A X Y S P PC cyc : Int) (jam : Bool) (s0 : 0 ≤ S ∧ S < 256) (c0 : 0 ≤ PC ∧ PC < 65536) (b cap : Nat) (h : List Int) (hn : h.length = 4) (w : World) (H : HdAt w b h) :
    Calls Tryz.prog 146 #[cdV (b3 74 77 80) (b3 105 110 100), .agg #[.int .i64 A, .int .i64 X, .int .i64 Y, .int .i64 S, .int .i64 P, .int .i64 PC, .int .i64 cyc, .bool jam], hdV b h cap] w fun e w' => e = .returned (ruleV (rdR ((hd h 1 + 1) % 256 + 256 * hd h 2))) ∧ Below w.heap.size w w' := by
  unfold b3 cdV hdV
  have := s0
  have := c0
  have l1 := H.lt
  have l2 : b ≠ w.heap.size := by omega
  have l3 : w.heap.size ≠ b := by omega
  have l21 : b ≠ w.heap.size + 1 := by omega
  have l31 : w.heap.size + 1 ≠ b := by omega
  have l22 : b ≠ w.heap.size + 2 := by omega
  have l32 : w.heap.size + 2 ≠ b := by omega
  have l23 : b ≠ w.heap.size + 3 := by omega
  have l33 : w.heap.size + 3 ≠ b := by omega
  have c1 := H.c 1 (by omega)
  obtain ⟨p1, q1⟩ := H.r 1 (by omega)
  generalize hd h 1 = h1 at *
  have d1 := fun o1 o2 o3 => (cell_al3 w o1 o2 o3 b 1 l1).trans c1
  have f1 := fun o1 o2 o3 o4 => (cell_al4 w o1 o2 o3 o4 b 1 l1).trans c1
  have c2 := H.c 2 (by omega)
  obtain ⟨p2, q2⟩ := H.r 2 (by omega)
  generalize hd h 2 = h2 at *
  have d2 := fun o1 o2 o3 => (cell_al3 w o1 o2 o3 b 2 l1).trans c2
  have f2 := fun o1 o2 o3 o4 => (cell_al4 w o1 o2 o3 o4 b 2 l1).trans c2
  clear H
  have w1 : IntKind.i64.wrap (256 * h2) = 256 * h2 := by rw [IntKind.wrap_i64]; omega
  have w2 : IntKind.i64.wrap (h1 + 256 * h2) = h1 + 256 * h2 := by rw [IntKind.wrap_i64]; omega
  have w3 : IntKind.i64.wrap (h1 + 1) = h1 + 1 := by rw [IntKind.wrap_i64]; omega
  have w4 : IntKind.i64.wrap ((h1 + 1) % 256 + 256 * h2) = (h1 + 1) % 256 + 256 * h2 := by rw [IntKind.wrap_i64]; omega
  rw [hn]
  go_enter Tryz.func146, Tryz.ntmps146
  go_wp2_with (first | (go_at_call 91; with_reducible refine (rcut8 _ _).mono ?_; rintro e w1 ⟨rfl, hw⟩; subst hw) | (go_at_call 91; with_reducible refine (rcut16 _ _).mono ?_; rintro e w1 ⟨rfl, hw⟩; subst hw) | (go_at_call 142; refine (rread _ _).mono ?_; rintro e w1 ⟨rfl, o, rfl⟩; simp only [ruleV, Act.val, rdR]) | (go_at_call 143; refine (rwrite _ _ _).mono ?_; rintro e w1 ⟨rfl, o, rfl⟩; simp only [ruleV, Act.val, wrR]) | (go_at_call 144; refine (rdone _).mono ?_; rintro e w1 ⟨rfl, o, rfl⟩; simp only [ruleV, Act.val, dnR, Act.nil]))
  go_region_held3 (fun w' => w'.cell? ⟨b, 1, none⟩ = some (.int .i64 h1) ∧ w'.cell? ⟨b, 2, none⟩ = some (.int .i64 h2)) (go_keep) (first | (go_at_call 91; with_reducible refine (rcut8 _ _).mono ?_; rintro e w1 ⟨rfl, hw⟩; subst hw) | (go_at_call 91; with_reducible refine (rcut16 _ _).mono ?_; rintro e w1 ⟨rfl, hw⟩; subst hw) | (go_at_call 142; refine (rread _ _).mono ?_; rintro e w1 ⟨rfl, o, rfl⟩; simp only [ruleV, Act.val, rdR]) | (go_at_call 143; refine (rwrite _ _ _).mono ?_; rintro e w1 ⟨rfl, o, rfl⟩; simp only [ruleV, Act.val, wrR]) | (go_at_call 144; refine (rdone _).mono ?_; rintro e w1 ⟨rfl, o, rfl⟩; simp only [ruleV, Act.val, dnR, Act.nil]))
  all_goals (try (go_wp2_with (first | (go_at_call 91; with_reducible refine (rcut8 _ _).mono ?_; rintro e w1 ⟨rfl, hw⟩; subst hw) | (go_at_call 91; with_reducible refine (rcut16 _ _).mono ?_; rintro e w1 ⟨rfl, hw⟩; subst hw) | (go_at_call 142; refine (rread _ _).mono ?_; rintro e w1 ⟨rfl, o, rfl⟩; simp only [ruleV, Act.val, rdR]) | (go_at_call 143; refine (rwrite _ _ _).mono ?_; rintro e w1 ⟨rfl, o, rfl⟩; simp only [ruleV, Act.val, wrR]) | (go_at_call 144; refine (rdone _).mono ?_; rintro e w1 ⟨rfl, o, rfl⟩; simp only [ruleV, Act.val, dnR, Act.nil]))))
  all_goals refine bodyPost_ret (v := ruleV (rdR ((h1 + 1) % 256 + 256 * h2))) (by simp [results, Tryz.results146, go_sem, ruleV, Act.val, rdR]) rfl (And.intro rfl ?_)
  all_goals repeat (first | exact Below.refl _ _ | apply bw_drewN | apply bw_drew | apply bw_alloc | (refine bw_set ?_ (by omega)))
def lP : List BA := [b3 82 84 83, b3 82 84 73, b3 80 76 65, b3 80 76 80]
theorem rpulls (op md : BA) (hop : op ∈ lP) (r : RG) (hr : RgR r) (b cap : Nat) (h : List Int) (h1 : 1 ≤ h.length) (hl : h.length ≤ 100) (w : World) (H : HdAt w b h) :
    Calls Tryz.prog 145 #[cdV op md, r.val, hdV b h cap] w fun e w' => e = .returned (ruleV (pullsR op r h)) ∧ Below w.heap.size w w' := by
  obtain ⟨A, X, Y, S, P, PC, cyc, jam⟩ := r
  have s0 : 0 ≤ S ∧ S < 256 := hr.s
  have c0 : 0 ≤ PC ∧ PC < 65536 := hr.pc
  clear hr
  unfold lP at hop
  simp only [List.mem_cons, List.not_mem_nil, or_false] at hop
  by_cases h5 : op = b3 82 84 83 ∧ h.length = 5
  · obtain ⟨rfl, hn⟩ := h5
    rw [show pullsR (b3 82 84 83) ⟨A, X, Y, S, P, PC, cyc, jam⟩ h = rdR (hd h 3 + 256 * hd h 4) from by unfold pullsR; rw [hn]; rfl]
    exact pu_RTS5 A X Y S P PC cyc jam s0 c0 b cap h md hn w H
  · clear H
    by_cases h6 : 6 ≤ h.length
    · have n1 : ¬ (h.length : Int) = 1 := by omega
      have n5 : ¬ (h.length : Int) = 5 := by omega
      have m6 : ¬ (h.length : Int) < 6 := by omega
      have m5 : ¬ (h.length : Int) < 5 := by omega
      have m4 : ¬ (h.length : Int) < 4 := by omega
      rcases hop with rfl | rfl | rfl | rfl
      all_goals
        unfold pullsR cdV hdV
        dsimp only
        generalize h.length = n at *
        simp only [n1, n5, if_false, false_and]
        rw [if_neg (by first | exact m5 | exact m6 | exact m4)]
        go_enter Tryz.func145, Tryz.ntmps145
        unfold b3 RG.val
        go_wp2_with (first | (go_at_call 91; with_reducible refine (rcut8 _ _).mono ?_; rintro e w1 ⟨rfl, hw⟩; subst hw) | (go_at_call 91; with_reducible refine (rcut16 _ _).mono ?_; rintro e w1 ⟨rfl, hw⟩; subst hw) | (go_at_call 142; refine (rread _ _).mono ?_; rintro e w1 ⟨rfl, o, rfl⟩; simp only [ruleV, Act.val, rdR]) | (go_at_call 143; refine (rwrite _ _ _).mono ?_; rintro e w1 ⟨rfl, o, rfl⟩; simp only [ruleV, Act.val, wrR]) | (go_at_call 144; refine (rdone _).mono ?_; rintro e w1 ⟨rfl, o, rfl⟩; simp only [ruleV, Act.val, dnR, Act.nil]))
        go_returns
        exact ⟨rfl, by go_grown⟩
    · by_cases hn : h.length = 5
      · unfold cdV hdV
        rcases hop with rfl | rfl | rfl | rfl
        · exact absurd ⟨rfl, hn⟩ h5
        all_goals
          unfold pullsR
          rw [hn]
          go_enter Tryz.func145, Tryz.ntmps145
          unfold b3 RG.val
          go_wp2_with (first | (go_at_call 91; with_reducible refine (rcut8 _ _).mono ?_; rintro e w1 ⟨rfl, hw⟩; subst hw) | (go_at_call 91; with_reducible refine (rcut16 _ _).mono ?_; rintro e w1 ⟨rfl, hw⟩; subst hw) | (go_at_call 142; refine (rread _ _).mono ?_; rintro e w1 ⟨rfl, o, rfl⟩; simp only [ruleV, Act.val, rdR]) | (go_at_call 143; refine (rwrite _ _ _).mono ?_; rintro e w1 ⟨rfl, o, rfl⟩; simp only [ruleV, Act.val, wrR]) | (go_at_call 144; refine (rdone _).mono ?_; rintro e w1 ⟨rfl, o, rfl⟩; simp only [ruleV, Act.val, dnR, Act.nil]))
          go_returns
          exact ⟨rfl, by go_grown⟩
      · rcases (show h.length = 1 ∨ h.length = 2 ∨ h.length = 3 ∨ h.length = 4 from by omega) with hn | hn | hn | hn
        all_goals
          unfold pullsR cdV hdV
          rw [hn]
          rcases hop with rfl | rfl | rfl | rfl
          all_goals
            go_enter Tryz.func145, Tryz.ntmps145
            unfold b3 RG.val
            go_wp2_with (first | (go_at_call 91; with_reducible refine (rcut8 _ _).mono ?_; rintro e w1 ⟨rfl, hw⟩; subst hw) | (go_at_call 91; with_reducible refine (rcut16 _ _).mono ?_; rintro e w1 ⟨rfl, hw⟩; subst hw) | (go_at_call 142; refine (rread _ _).mono ?_; rintro e w1 ⟨rfl, o, rfl⟩; simp only [ruleV, Act.val, rdR]) | (go_at_call 143; refine (rwrite _ _ _).mono ?_; rintro e w1 ⟨rfl, o, rfl⟩; simp only [ruleV, Act.val, wrR]) | (go_at_call 144; refine (rdone _).mono ?_; rintro e w1 ⟨rfl, o, rfl⟩; simp only [ruleV, Act.val, dnR, Act.nil]))
            go_returns
            exact ⟨rfl, by go_grown⟩

def mJ : List BA := [b3 97 98 115, b3 105 110 100]
theorem rjumps (md : BA) (hmd : md ∈ mJ) (r : RG) (hr : RgR r) (b cap : Nat) (h : List Int) (h1 : 1 ≤ h.length) (hl : h.length ≤ 100) (w : World) (H : HdAt w b h) :
    Calls Tryz.prog 146 #[cdV (b3 74 77 80) md, r.val, hdV b h cap] w fun e w' => e = .returned (ruleV (jumpsR md r h)) ∧ Below w.heap.size w w' := by
  obtain ⟨A, X, Y, S, P, PC, cyc, jam⟩ := r
  have s0 : 0 ≤ S ∧ S < 256 := hr.s
  have c0 : 0 ≤ PC ∧ PC < 65536 := hr.pc
  clear hr
  unfold mJ at hmd
  simp only [List.mem_cons, List.not_mem_nil, or_false] at hmd
  rcases (show h.length = 1 ∨ h.length = 2 ∨ h.length = 3 ∨ h.length = 4 ∨ 5 ≤ h.length from by omega) with hn | hn | hn | hn | hn
  · unfold jumpsR cdV hdV
    rw [hn]
    rcases hmd with rfl | rfl
    all_goals
      go_enter Tryz.func146, Tryz.ntmps146
      unfold b3 RG.val
      go_wp2_with (first | (go_at_call 91; with_reducible refine (rcut8 _ _).mono ?_; rintro e w1 ⟨rfl, hw⟩; subst hw) | (go_at_call 91; with_reducible refine (rcut16 _ _).mono ?_; rintro e w1 ⟨rfl, hw⟩; subst hw) | (go_at_call 142; refine (rread _ _).mono ?_; rintro e w1 ⟨rfl, o, rfl⟩; simp only [ruleV, Act.val, rdR]) | (go_at_call 143; refine (rwrite _ _ _).mono ?_; rintro e w1 ⟨rfl, o, rfl⟩; simp only [ruleV, Act.val, wrR]) | (go_at_call 144; refine (rdone _).mono ?_; rintro e w1 ⟨rfl, o, rfl⟩; simp only [ruleV, Act.val, dnR, Act.nil]))
      go_returns
      exact ⟨rfl, by go_grown⟩
  · unfold jumpsR cdV hdV
    rw [hn]
    rcases hmd with rfl | rfl
    all_goals
      go_enter Tryz.func146, Tryz.ntmps146
      unfold b3 RG.val
      go_wp2_with (first | (go_at_call 91; with_reducible refine (rcut8 _ _).mono ?_; rintro e w1 ⟨rfl, hw⟩; subst hw) | (go_at_call 91; with_reducible refine (rcut16 _ _).mono ?_; rintro e w1 ⟨rfl, hw⟩; subst hw) | (go_at_call 142; refine (rread _ _).mono ?_; rintro e w1 ⟨rfl, o, rfl⟩; simp only [ruleV, Act.val, rdR]) | (go_at_call 143; refine (rwrite _ _ _).mono ?_; rintro e w1 ⟨rfl, o, rfl⟩; simp only [ruleV, Act.val, wrR]) | (go_at_call 144; refine (rdone _).mono ?_; rintro e w1 ⟨rfl, o, rfl⟩; simp only [ruleV, Act.val, dnR, Act.nil]))
      go_returns
      exact ⟨rfl, by go_grown⟩
  · rcases hmd with rfl | rfl
    · unfold jumpsR cdV hdV
      rw [hn]
      go_enter Tryz.func146, Tryz.ntmps146
      unfold b3 RG.val
      go_wp2_with (first | (go_at_call 91; with_reducible refine (rcut8 _ _).mono ?_; rintro e w1 ⟨rfl, hw⟩; subst hw) | (go_at_call 91; with_reducible refine (rcut16 _ _).mono ?_; rintro e w1 ⟨rfl, hw⟩; subst hw) | (go_at_call 142; refine (rread _ _).mono ?_; rintro e w1 ⟨rfl, o, rfl⟩; simp only [ruleV, Act.val, rdR]) | (go_at_call 143; refine (rwrite _ _ _).mono ?_; rintro e w1 ⟨rfl, o, rfl⟩; simp only [ruleV, Act.val, wrR]) | (go_at_call 144; refine (rdone _).mono ?_; rintro e w1 ⟨rfl, o, rfl⟩; simp only [ruleV, Act.val, dnR, Act.nil]))
      go_returns
      exact ⟨rfl, by go_grown⟩
    · rw [show jumpsR (b3 105 110 100) ⟨A, X, Y, S, P, PC, cyc, jam⟩ h = rdR (hd h 1 + 256 * hd h 2) from by unfold jumpsR; rw [hn]; rfl]
      exact ju_ind3 A X Y S P PC cyc jam s0 c0 b cap h hn w H
  · rcases hmd with rfl | rfl
    · rw [show jumpsR (b3 97 98 115) ⟨A, X, Y, S, P, PC, cyc, jam⟩ h = rdR ((hd h 1 + 1) % 256 + 256 * hd h 2) from by unfold jumpsR; rw [hn]; rfl]
      exact ju_abs4 A X Y S P PC cyc jam s0 c0 b cap h hn w H
    · rw [show jumpsR (b3 105 110 100) ⟨A, X, Y, S, P, PC, cyc, jam⟩ h = rdR ((hd h 1 + 1) % 256 + 256 * hd h 2) from by unfold jumpsR; rw [hn]; rfl]
      exact ju_ind4 A X Y S P PC cyc jam s0 c0 b cap h hn w H
  · have n3 : ¬ (h.length : Int) = 3 := by omega
    have n4 : ¬ (h.length : Int) = 4 := by omega
    have m3 : ¬ (h.length : Int) < 3 := by omega
    rw [show jumpsR md ⟨A, X, Y, S, P, PC, cyc, jam⟩ h = dnR from by unfold jumpsR; dsimp only; rw [if_neg m3, if_neg (fun q => n3 q.1), if_neg n4]]
    unfold cdV hdV
    generalize h.length = n at *
    rcases hmd with rfl | rfl
    all_goals
      go_enter Tryz.func146, Tryz.ntmps146
      unfold b3 RG.val
      go_wp2_with (first | (go_at_call 91; with_reducible refine (rcut8 _ _).mono ?_; rintro e w1 ⟨rfl, hw⟩; subst hw) | (go_at_call 91; with_reducible refine (rcut16 _ _).mono ?_; rintro e w1 ⟨rfl, hw⟩; subst hw) | (go_at_call 142; refine (rread _ _).mono ?_; rintro e w1 ⟨rfl, o, rfl⟩; simp only [ruleV, Act.val, rdR]) | (go_at_call 143; refine (rwrite _ _ _).mono ?_; rintro e w1 ⟨rfl, o, rfl⟩; simp only [ruleV, Act.val, wrR]) | (go_at_call 144; refine (rdone _).mono ?_; rintro e w1 ⟨rfl, o, rfl⟩; simp only [ruleV, Act.val, dnR, Act.nil]))
      go_returns
      exact ⟨rfl, by go_grown⟩

end Go.Proofs.YtcgjliflnnklnaaGreat
