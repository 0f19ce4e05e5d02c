/-
  Joined texts.
-/
import Derived.Handy
import Derived.Test.YtcgjliflnnklnaaGreatJ05
import Derived.Test.YtcgjliflnnklnaaGreatJ06
import Derived.Test.YtcgjliflnnklnaaGreatRwMz
import Derived.Test.YtcgjliflnnklnaaGreatJ08
import Derived.Test.YtcgjliflnnklnaaGreatJ14
import Derived.Test.YtcgjliflnnklnaaGreatJ04
namespace Go.Proofs.YtcgjliflnnklnaaGreat
open Go.RowKit

/-
  The document's computer, walked: where an instruction's byte is, with something added.
-/
section
set_option maxRecDepth 100000
set_option maxHeartbeats 2000000

theorem pl_izxn (op : BA) (A X Y S P PC cyc : Int) (jam : Bool) (x0 : 0 ≤ X ∧ X < 256) (y0 : 0 ≤ Y ∧ Y < 256) (c0 : 0 ≤ PC ∧ PC < 65536) (b cap : Nat) (h : List Int) (hn : 5 ≤ h.length) (hl : h.length ≤ 100) (w : World) (H : HdAt w b h) :
    Calls Tryz.prog 148 #[cdV op (b3 105 122 120), .agg #[.int .i64 A, .int .i64 X, .int .i64 Y, .int .i64 S, .int .i64 P, .int .i64 PC, .int .i64 cyc, .bool jam], hdV b h cap] w fun e w' => e = .returned (plV (hd h 3 + 256 * hd h 4, 5, Act.nil, true)) ∧ Below w.heap.size w w' := by
  have := x0
  have := y0
  have := c0
  have al := alloc_drewN
  have sc := set_drewN
  have l1 := H.lt
  have c1 := H.c 1 (by omega)
  have p1 := H.r 1 (by omega)
  have c3 := H.c 3 (by omega)
  have p3 := H.r 3 (by omega)
  have c4 := H.c 4 (by omega)
  have p4 := H.r 4 (by omega)
  generalize hd h 1 = h1 at *
  have d1 := fun o1 o2 o3 => (cell_al3 w o1 o2 o3 b 1 l1).trans c1
  generalize hd h 3 = h3 at *
  have d3 := fun o1 o2 o3 => (cell_al3 w o1 o2 o3 b 3 l1).trans c3
  generalize hd h 4 = h4 at *
  have d4 := fun o1 o2 o3 => (cell_al3 w o1 o2 o3 b 4 l1).trans c4
  clear H
  unfold cdV hdV b3 at *
  generalize h.length = n at *
  have m1 : ¬ (n : Int) = 1 := by omega
  have m2 : (1 : Int) < (n : Int) := by omega
  have m3 : ¬ (n : Int) = 2 := by omega
  have m4 : (3 : Int) < (n : Int) := by omega
  have m5 : (4 : Int) < (n : Int) := by omega
  have m6 : ¬ (n : Int) < 5 := by omega
  have w1 : IntKind.i64.wrap (256 * h4) = 256 * h4 := by rw [IntKind.wrap_i64]; omega
  have w2 : IntKind.i64.wrap (h3 + 256 * h4) = h3 + 256 * h4 := by rw [IntKind.wrap_i64]; omega
  go_enter Tryz.func148, Tryz.ntmps148
  go_wp2_with (first | (go_at_call 194; refine (IX _).mono ?_; rintro e w1 ⟨rfl, o1, o2, o3, o4, o5, rfl⟩; simp only [plV, Act.val]) | (go_at_call 91; with_reducible refine (rcut8 _ _).mono ?_; rintro e w1 ⟨rfl, hw⟩; subst hw) | (go_at_call 91; with_reducible refine (rcut16 _ _).mono ?_; rintro e w1 ⟨rfl, hw⟩; subst hw) | (go_at_call 142; refine (rread _ _).mono ?_; rintro e w1 ⟨rfl, o, rfl⟩; simp only [ruleV, Act.val, rdR]))
  go_region_held3 (fun w' => w'.cell? ⟨b, 1, none⟩ = some (.int .i64 h1) ∧ w'.cell? ⟨b, 3, none⟩ = some (.int .i64 h3) ∧ w'.cell? ⟨b, 4, none⟩ = some (.int .i64 h4)) (go_keep) (fail)
  all_goals go_wp2
  all_goals refine bodyPost_ret (v := plV (h3 + 256 * h4, 5, Act.nil, true)) (by simp [results, Tryz.results148, go_sem, plV, Act.val, Act.nil]) rfl (And.intro rfl ?_)
  all_goals repeat (first | exact Below.refl _ _ | apply bw_drewN | apply bw_drew | apply bw_alloc | (refine bw_set ?_ (by omega)))
theorem pl_abxn (op : BA) (A X Y S P PC cyc : Int) (jam : Bool) (x0 : 0 ≤ X ∧ X < 256) (y0 : 0 ≤ Y ∧ Y < 256) (c0 : 0 ≤ PC ∧ PC < 65536) (b cap : Nat) (h : List Int) (hn : 3 ≤ h.length) (hl : h.length ≤ 100) (w : World) (H : HdAt w b h) :
    Calls Tryz.prog 148 #[cdV op (b3 97 98 120), .agg #[.int .i64 A, .int .i64 X, .int .i64 Y, .int .i64 S, .int .i64 P, .int .i64 PC, .int .i64 cyc, .bool jam], hdV b h cap] w fun e w' => e = .returned (plV (indexedR op (hd h 1) (hd h 2) X (h.length : Int) 3)) ∧ Below w.heap.size w w' := by
  have := x0
  have := y0
  have := c0
  have al := alloc_drewN
  have sc := set_drewN
  have l1 := H.lt
  have c1 := H.c 1 (by omega)
  have p1 := H.r 1 (by omega)
  have c2 := H.c 2 (by omega)
  have p2 := H.r 2 (by omega)
  have IX := fun w => rindexed op (b3 97 98 120) (hd h 1) (hd h 2) X (h.length : Int) 3 p1 p2 x0 (by omega) w
  generalize indexedR op (hd h 1) (hd h 2) X (h.length : Int) 3 = q at *
  obtain ⟨q1, q2, ⟨q3, q4, q5, q6⟩, q7⟩ := q
  unfold plV Act.val at IX
  dsimp only at IX
  generalize hd h 1 = h1 at *
  have d1 := fun o1 o2 o3 => (cell_al3 w o1 o2 o3 b 1 l1).trans c1
  generalize hd h 2 = h2 at *
  have d2 := fun o1 o2 o3 => (cell_al3 w o1 o2 o3 b 2 l1).trans c2
  clear H
  unfold cdV hdV b3 at *
  generalize h.length = n at *
  have m1 : ¬ (n : Int) = 1 := by omega
  have m2 : (1 : Int) < (n : Int) := by omega
  have m3 : ¬ (n : Int) = 2 := by omega
  have m4 : (2 : Int) < (n : Int) := by omega
  go_enter Tryz.func148, Tryz.ntmps148
  go_wp2_with (first | (go_at_call 194; refine (IX _).mono ?_; rintro e w1 ⟨rfl, o1, o2, o3, o4, o5, rfl⟩; skip) | (go_at_call 91; with_reducible refine (rcut8 _ _).mono ?_; rintro e w1 ⟨rfl, hw⟩; subst hw) | (go_at_call 91; with_reducible refine (rcut16 _ _).mono ?_; rintro e w1 ⟨rfl, hw⟩; subst hw) | (go_at_call 142; refine (rread _ _).mono ?_; rintro e w1 ⟨rfl, o, rfl⟩; simp only [ruleV, Act.val, rdR]))
  go_region_with (first | (go_at_call 194; refine (IX _).mono ?_; rintro e w1 ⟨rfl, o1, o2, o3, o4, o5, rfl⟩; skip) | (go_at_call 91; with_reducible refine (rcut8 _ _).mono ?_; rintro e w1 ⟨rfl, hw⟩; subst hw) | (go_at_call 91; with_reducible refine (rcut16 _ _).mono ?_; rintro e w1 ⟨rfl, hw⟩; subst hw) | (go_at_call 142; refine (rread _ _).mono ?_; rintro e w1 ⟨rfl, o, rfl⟩; simp only [ruleV, Act.val, rdR]))
  all_goals go_wp2_with (first | (go_at_call 194; refine (IX _).mono ?_; rintro e w1 ⟨rfl, o1, o2, o3, o4, o5, rfl⟩; skip) | (go_at_call 91; with_reducible refine (rcut8 _ _).mono ?_; rintro e w1 ⟨rfl, hw⟩; subst hw) | (go_at_call 91; with_reducible refine (rcut16 _ _).mono ?_; rintro e w1 ⟨rfl, hw⟩; subst hw) | (go_at_call 142; refine (rread _ _).mono ?_; rintro e w1 ⟨rfl, o, rfl⟩; simp only [ruleV, Act.val, rdR]))
  all_goals refine bodyPost_ret (v := plV (q1, q2, ⟨q3, q4, q5, q6⟩, q7)) (by simp [results, Tryz.results148, go_sem, plV, Act.val]) rfl (And.intro rfl ?_)
  all_goals repeat (first | exact Below.refl _ _ | apply bw_drewN | apply bw_drew | apply bw_alloc | (refine bw_set ?_ (by omega)))
theorem pl_abyn (op : BA) (A X Y S P PC cyc : Int) (jam : Bool) (x0 : 0 ≤ X ∧ X < 256) (y0 : 0 ≤ Y ∧ Y < 256) (c0 : 0 ≤ PC ∧ PC < 65536) (b cap : Nat) (h : List Int) (hn : 3 ≤ h.length) (hl : h.length ≤ 100) (w : World) (H : HdAt w b h) :
    Calls Tryz.prog 148 #[cdV op (b3 97 98 121), .agg #[.int .i64 A, .int .i64 X, .int .i64 Y, .int .i64 S, .int .i64 P, .int .i64 PC, .int .i64 cyc, .bool jam], hdV b h cap] w fun e w' => e = .returned (plV (indexedR op (hd h 1) (hd h 2) Y (h.length : Int) 3)) ∧ Below w.heap.size w w' := by
  have := x0
  have := y0
  have := c0
  have al := alloc_drewN
  have sc := set_drewN
  have l1 := H.lt
  have c1 := H.c 1 (by omega)
  have p1 := H.r 1 (by omega)
  have c2 := H.c 2 (by omega)
  have p2 := H.r 2 (by omega)
  have IX := fun w => rindexed op (b3 97 98 121) (hd h 1) (hd h 2) Y (h.length : Int) 3 p1 p2 y0 (by omega) w
  generalize indexedR op (hd h 1) (hd h 2) Y (h.length : Int) 3 = q at *
  obtain ⟨q1, q2, ⟨q3, q4, q5, q6⟩, q7⟩ := q
  unfold plV Act.val at IX
  dsimp only at IX
  generalize hd h 1 = h1 at *
  have d1 := fun o1 o2 o3 => (cell_al3 w o1 o2 o3 b 1 l1).trans c1
  generalize hd h 2 = h2 at *
  have d2 := fun o1 o2 o3 => (cell_al3 w o1 o2 o3 b 2 l1).trans c2
  clear H
  unfold cdV hdV b3 at *
  generalize h.length = n at *
  have m1 : ¬ (n : Int) = 1 := by omega
  have m2 : (1 : Int) < (n : Int) := by omega
  have m3 : ¬ (n : Int) = 2 := by omega
  have m4 : (2 : Int) < (n : Int) := by omega
  go_enter Tryz.func148, Tryz.ntmps148
  go_wp2_with (first | (go_at_call 194; refine (IX _).mono ?_; rintro e w1 ⟨rfl, o1, o2, o3, o4, o5, rfl⟩; skip) | (go_at_call 91; with_reducible refine (rcut8 _ _).mono ?_; rintro e w1 ⟨rfl, hw⟩; subst hw) | (go_at_call 91; with_reducible refine (rcut16 _ _).mono ?_; rintro e w1 ⟨rfl, hw⟩; subst hw) | (go_at_call 142; refine (rread _ _).mono ?_; rintro e w1 ⟨rfl, o, rfl⟩; simp only [ruleV, Act.val, rdR]))
  go_region_with (first | (go_at_call 194; refine (IX _).mono ?_; rintro e w1 ⟨rfl, o1, o2, o3, o4, o5, rfl⟩; skip) | (go_at_call 91; with_reducible refine (rcut8 _ _).mono ?_; rintro e w1 ⟨rfl, hw⟩; subst hw) | (go_at_call 91; with_reducible refine (rcut16 _ _).mono ?_; rintro e w1 ⟨rfl, hw⟩; subst hw) | (go_at_call 142; refine (rread _ _).mono ?_; rintro e w1 ⟨rfl, o, rfl⟩; simp only [ruleV, Act.val, rdR]))
  all_goals go_wp2_with (first | (go_at_call 194; refine (IX _).mono ?_; rintro e w1 ⟨rfl, o1, o2, o3, o4, o5, rfl⟩; skip) | (go_at_call 91; with_reducible refine (rcut8 _ _).mono ?_; rintro e w1 ⟨rfl, hw⟩; subst hw) | (go_at_call 91; with_reducible refine (rcut16 _ _).mono ?_; rintro e w1 ⟨rfl, hw⟩; subst hw) | (go_at_call 142; refine (rread _ _).mono ?_; rintro e w1 ⟨rfl, o, rfl⟩; simp only [ruleV, Act.val, rdR]))
  all_goals refine bodyPost_ret (v := plV (q1, q2, ⟨q3, q4, q5, q6⟩, q7)) (by simp [results, Tryz.results148, go_sem, plV, Act.val]) rfl (And.intro rfl ?_)
  all_goals repeat (first | exact Below.refl _ _ | apply bw_drewN | apply bw_drew | apply bw_alloc | (refine bw_set ?_ (by omega)))
theorem pl_izyn (op : BA) (A X Y S P PC cyc : Int) (jam : Bool) (x0 : 0 ≤ X ∧ X < 256) (y0 : 0 ≤ Y ∧ Y < 256) (c0 : 0 ≤ PC ∧ PC < 65536) (b cap : Nat) (h : List Int) (hn : 4 ≤ h.length) (hl : h.length ≤ 100) (w : World) (H : HdAt w b h) :
    Calls Tryz.prog 148 #[cdV op (b3 105 122 121), .agg #[.int .i64 A, .int .i64 X, .int .i64 Y, .int .i64 S, .int .i64 P, .int .i64 PC, .int .i64 cyc, .bool jam], hdV b h cap] w fun e w' => e = .returned (plV (indexedR op (hd h 2) (hd h 3) Y (h.length : Int) 4)) ∧ Below w.heap.size w w' := by
  have := x0
  have := y0
  have := c0
  have al := alloc_drewN
  have sc := set_drewN
  have l1 := H.lt
  have c1 := H.c 1 (by omega)
  have p1 := H.r 1 (by omega)
  have c2 := H.c 2 (by omega)
  have p2 := H.r 2 (by omega)
  have c3 := H.c 3 (by omega)
  have p3 := H.r 3 (by omega)
  have IX := fun w => rindexed op (b3 105 122 121) (hd h 2) (hd h 3) Y (h.length : Int) 4 p2 p3 y0 (by omega) w
  generalize indexedR op (hd h 2) (hd h 3) Y (h.length : Int) 4 = q at *
  obtain ⟨q1, q2, ⟨q3, q4, q5, q6⟩, q7⟩ := q
  unfold plV Act.val at IX
  dsimp only at IX
  generalize hd h 1 = h1 at *
  have d1 := fun o1 o2 o3 => (cell_al3 w o1 o2 o3 b 1 l1).trans c1
  generalize hd h 2 = h2 at *
  have d2 := fun o1 o2 o3 => (cell_al3 w o1 o2 o3 b 2 l1).trans c2
  generalize hd h 3 = h3 at *
  have d3 := fun o1 o2 o3 => (cell_al3 w o1 o2 o3 b 3 l1).trans c3
  clear H
  unfold cdV hdV b3 at *
  generalize h.length = n at *
  have m1 : ¬ (n : Int) = 1 := by omega
  have m2 : (1 : Int) < (n : Int) := by omega
  have m3 : ¬ (n : Int) = 2 := by omega
  have m4 : (2 : Int) < (n : Int) := by omega
  have m5 : (3 : Int) < (n : Int) := by omega
  have m6 : ¬ (n : Int) < 4 := by omega
  go_enter Tryz.func148, Tryz.ntmps148
  go_wp2_with (first | (go_at_call 194; refine (IX _).mono ?_; rintro e w1 ⟨rfl, o1, o2, o3, o4, o5, rfl⟩; skip) | (go_at_call 91; with_reducible refine (rcut8 _ _).mono ?_; rintro e w1 ⟨rfl, hw⟩; subst hw) | (go_at_call 91; with_reducible refine (rcut16 _ _).mono ?_; rintro e w1 ⟨rfl, hw⟩; subst hw) | (go_at_call 142; refine (rread _ _).mono ?_; rintro e w1 ⟨rfl, o, rfl⟩; simp only [ruleV, Act.val, rdR]))
  go_region_with (first | (go_at_call 194; refine (IX _).mono ?_; rintro e w1 ⟨rfl, o1, o2, o3, o4, o5, rfl⟩; skip) | (go_at_call 91; with_reducible refine (rcut8 _ _).mono ?_; rintro e w1 ⟨rfl, hw⟩; subst hw) | (go_at_call 91; with_reducible refine (rcut16 _ _).mono ?_; rintro e w1 ⟨rfl, hw⟩; subst hw) | (go_at_call 142; refine (rread _ _).mono ?_; rintro e w1 ⟨rfl, o, rfl⟩; simp only [ruleV, Act.val, rdR]))
  all_goals go_wp2_with (first | (go_at_call 194; refine (IX _).mono ?_; rintro e w1 ⟨rfl, o1, o2, o3, o4, o5, rfl⟩; skip) | (go_at_call 91; with_reducible refine (rcut8 _ _).mono ?_; rintro e w1 ⟨rfl, hw⟩; subst hw) | (go_at_call 91; with_reducible refine (rcut16 _ _).mono ?_; rintro e w1 ⟨rfl, hw⟩; subst hw) | (go_at_call 142; refine (rread _ _).mono ?_; rintro e w1 ⟨rfl, o, rfl⟩; simp only [ruleV, Act.val, rdR]))
  all_goals refine bodyPost_ret (v := plV (q1, q2, ⟨q3, q4, q5, q6⟩, q7)) (by simp [results, Tryz.results148, go_sem, plV, Act.val]) rfl (And.intro rfl ?_)
  all_goals repeat (first | exact Below.refl _ _ | apply bw_drewN | apply bw_drew | apply bw_alloc | (refine bw_set ?_ (by omega)))
end

/-
  The document's computer, walked: where an instruction's byte is, for all lengths.
-/
section
theorem rpl_zp (op : BA) (r : RG) (hr : RgR r) (b cap : Nat) (h : List Int) (h1 : 1 ≤ h.length) (hl : h.length ≤ 100) (w : World) (H : HdAt w b h) :
    Calls Tryz.prog 148 #[cdV op (b2 122 112), r.val, hdV b h cap] w fun e w' => e = .returned (plV (placeR op (b2 122 112) r h)) ∧ Below w.heap.size w w' := by
  obtain ⟨A, X, Y, S, P, PC, cyc, jam⟩ := r
  have x0 := hr.x
  have y0 := hr.y
  have c0 := hr.pc
  rcases (show h.length = 1 ∨ 2 ≤ h.length from by omega) with hn | hn
  · rw [show placeR op (b2 122 112) ⟨A, X, Y, S, P, PC, cyc, jam⟩ h = (0, 0, (rdR (PC + 1 + 1 - 1)).1, false) from by unfold placeR; rw [hn]; rfl]
    exact pl_zp1 op A X Y S P PC cyc jam x0 y0 c0 b cap h hn w
  · have e : placeR op (b2 122 112) ⟨A, X, Y, S, P, PC, cyc, jam⟩ h = (hd h 1, 2, Act.nil, true) := by
      unfold placeR
      dsimp only
      rw [if_neg (by rintro (q | ⟨q, q2⟩) <;> first | omega | (revert q2; decide)), if_pos (by decide)]
    rw [e]
    exact pl_zpn op A X Y S P PC cyc jam x0 y0 c0 b cap h hn hl w H
theorem rpl_zpx (op : BA) (r : RG) (hr : RgR r) (b cap : Nat) (h : List Int) (h1 : 1 ≤ h.length) (hl : h.length ≤ 100) (w : World) (H : HdAt w b h) :
    Calls Tryz.prog 148 #[cdV op (b3 122 112 120), r.val, hdV b h cap] w fun e w' => e = .returned (plV (placeR op (b3 122 112 120) r h)) ∧ Below w.heap.size w w' := by
  obtain ⟨A, X, Y, S, P, PC, cyc, jam⟩ := r
  have x0 := hr.x
  have y0 := hr.y
  have c0 := hr.pc
  rcases (show h.length = 1 ∨ h.length = 2 ∨ 3 ≤ h.length from by omega) with hn | hn | hn
  · rw [show placeR op (b3 122 112 120) ⟨A, X, Y, S, P, PC, cyc, jam⟩ h = (0, 0, (rdR (PC + 1 + 1 - 1)).1, false) from by unfold placeR; rw [hn]; rfl]
    exact pl_zpx1 op A X Y S P PC cyc jam x0 y0 c0 b cap h hn w
  · rw [show placeR op (b3 122 112 120) ⟨A, X, Y, S, P, PC, cyc, jam⟩ h = (0, 0, ⟨hd h 1, false, 0, false⟩, false) from by unfold placeR; rw [hn]; rfl]
    exact pl_zpx2 op A X Y S P PC cyc jam x0 y0 c0 b cap h hn w H
  · have e : placeR op (b3 122 112 120) ⟨A, X, Y, S, P, PC, cyc, jam⟩ h = ((hd h 1 + X) % 256, 3, Act.nil, true) := by
      unfold placeR
      dsimp only
      rw [if_neg (by rintro (q | ⟨q, q2⟩) <;> first | omega | (revert q2; decide)), if_neg (by decide), if_pos (by decide), if_neg (by omega), show (if (b3 122 112 120) = (b3 122 112 121) ∨ (b3 122 112 120) = (b3 97 98 121) ∨ (b3 122 112 120) = (b3 105 122 121) then Y else X) = X from if_neg (by decide)]
    rw [e]
    exact pl_zpxn op A X Y S P PC cyc jam x0 y0 c0 b cap h hn hl w H
theorem rpl_zpy (op : BA) (r : RG) (hr : RgR r) (b cap : Nat) (h : List Int) (h1 : 1 ≤ h.length) (hl : h.length ≤ 100) (w : World) (H : HdAt w b h) :
    Calls Tryz.prog 148 #[cdV op (b3 122 112 121), r.val, hdV b h cap] w fun e w' => e = .returned (plV (placeR op (b3 122 112 121) r h)) ∧ Below w.heap.size w w' := by
  obtain ⟨A, X, Y, S, P, PC, cyc, jam⟩ := r
  have x0 := hr.x
  have y0 := hr.y
  have c0 := hr.pc
  rcases (show h.length = 1 ∨ h.length = 2 ∨ 3 ≤ h.length from by omega) with hn | hn | hn
  · rw [show placeR op (b3 122 112 121) ⟨A, X, Y, S, P, PC, cyc, jam⟩ h = (0, 0, (rdR (PC + 1 + 1 - 1)).1, false) from by unfold placeR; rw [hn]; rfl]
    exact pl_zpy1 op A X Y S P PC cyc jam x0 y0 c0 b cap h hn w
  · rw [show placeR op (b3 122 112 121) ⟨A, X, Y, S, P, PC, cyc, jam⟩ h = (0, 0, ⟨hd h 1, false, 0, false⟩, false) from by unfold placeR; rw [hn]; rfl]
    exact pl_zpy2 op A X Y S P PC cyc jam x0 y0 c0 b cap h hn w H
  · have e : placeR op (b3 122 112 121) ⟨A, X, Y, S, P, PC, cyc, jam⟩ h = ((hd h 1 + Y) % 256, 3, Act.nil, true) := by
      unfold placeR
      dsimp only
      rw [if_neg (by rintro (q | ⟨q, q2⟩) <;> first | omega | (revert q2; decide)), if_neg (by decide), if_pos (by decide), if_neg (by omega), show (if (b3 122 112 121) = (b3 122 112 121) ∨ (b3 122 112 121) = (b3 97 98 121) ∨ (b3 122 112 121) = (b3 105 122 121) then Y else X) = Y from if_pos (by decide)]
    rw [e]
    exact pl_zpyn op A X Y S P PC cyc jam x0 y0 c0 b cap h hn hl w H
theorem rpl_abs (op : BA) (r : RG) (hr : RgR r) (b cap : Nat) (h : List Int) (h1 : 1 ≤ h.length) (hl : h.length ≤ 100) (w : World) (H : HdAt w b h) :
    Calls Tryz.prog 148 #[cdV op (b3 97 98 115), r.val, hdV b h cap] w fun e w' => e = .returned (plV (placeR op (b3 97 98 115) r h)) ∧ Below w.heap.size w w' := by
  obtain ⟨A, X, Y, S, P, PC, cyc, jam⟩ := r
  have x0 := hr.x
  have y0 := hr.y
  have c0 := hr.pc
  rcases (show h.length = 1 ∨ h.length = 2 ∨ 3 ≤ h.length from by omega) with hn | hn | hn
  · rw [show placeR op (b3 97 98 115) ⟨A, X, Y, S, P, PC, cyc, jam⟩ h = (0, 0, (rdR (PC + 1 + 1 - 1)).1, false) from by unfold placeR; rw [hn]; rfl]
    exact pl_abs1 op A X Y S P PC cyc jam x0 y0 c0 b cap h hn w
  · rw [show placeR op (b3 97 98 115) ⟨A, X, Y, S, P, PC, cyc, jam⟩ h = (0, 0, (rdR (PC + 1 + 2 - 1)).1, false) from by unfold placeR; rw [hn]; rfl]
    exact pl_abs2 op A X Y S P PC cyc jam x0 y0 c0 b cap h hn w
  · have e : placeR op (b3 97 98 115) ⟨A, X, Y, S, P, PC, cyc, jam⟩ h = (hd h 1 + 256 * hd h 2, 3, Act.nil, true) := by
      unfold placeR
      dsimp only
      rw [if_neg (by rintro (q | ⟨q, q2⟩) <;> first | omega | (revert q2; decide)), if_neg (by decide), if_neg (by decide), if_pos (by decide)]
    rw [e]
    exact pl_absn op A X Y S P PC cyc jam x0 y0 c0 b cap h hn hl w H
theorem rpl_abx (op : BA) (r : RG) (hr : RgR r) (b cap : Nat) (h : List Int) (h1 : 1 ≤ h.length) (hl : h.length ≤ 100) (w : World) (H : HdAt w b h) :
    Calls Tryz.prog 148 #[cdV op (b3 97 98 120), r.val, hdV b h cap] w fun e w' => e = .returned (plV (placeR op (b3 97 98 120) r h)) ∧ Below w.heap.size w w' := by
  obtain ⟨A, X, Y, S, P, PC, cyc, jam⟩ := r
  have x0 := hr.x
  have y0 := hr.y
  have c0 := hr.pc
  rcases (show h.length = 1 ∨ h.length = 2 ∨ 3 ≤ h.length from by omega) with hn | hn | hn
  · rw [show placeR op (b3 97 98 120) ⟨A, X, Y, S, P, PC, cyc, jam⟩ h = (0, 0, (rdR (PC + 1 + 1 - 1)).1, false) from by unfold placeR; rw [hn]; rfl]
    exact pl_abx1 op A X Y S P PC cyc jam x0 y0 c0 b cap h hn w
  · rw [show placeR op (b3 97 98 120) ⟨A, X, Y, S, P, PC, cyc, jam⟩ h = (0, 0, (rdR (PC + 1 + 2 - 1)).1, false) from by unfold placeR; rw [hn]; rfl]
    exact pl_abx2 op A X Y S P PC cyc jam x0 y0 c0 b cap h hn w
  · have e : placeR op (b3 97 98 120) ⟨A, X, Y, S, P, PC, cyc, jam⟩ h = indexedR op (hd h 1) (hd h 2) X (h.length : Int) 3 := by
      unfold placeR
      dsimp only
      rw [if_neg (by rintro (q | ⟨q, q2⟩) <;> first | omega | (revert q2; decide)), if_neg (by decide), if_neg (by decide), if_neg (by decide), if_pos (by decide), show (if (b3 97 98 120) = (b3 122 112 121) ∨ (b3 97 98 120) = (b3 97 98 121) ∨ (b3 97 98 120) = (b3 105 122 121) then Y else X) = X from if_neg (by decide)]
    rw [e]
    exact pl_abxn op A X Y S P PC cyc jam x0 y0 c0 b cap h hn hl w H
theorem rpl_aby (op : BA) (r : RG) (hr : RgR r) (b cap : Nat) (h : List Int) (h1 : 1 ≤ h.length) (hl : h.length ≤ 100) (w : World) (H : HdAt w b h) :
    Calls Tryz.prog 148 #[cdV op (b3 97 98 121), r.val, hdV b h cap] w fun e w' => e = .returned (plV (placeR op (b3 97 98 121) r h)) ∧ Below w.heap.size w w' := by
  obtain ⟨A, X, Y, S, P, PC, cyc, jam⟩ := r
  have x0 := hr.x
  have y0 := hr.y
  have c0 := hr.pc
  rcases (show h.length = 1 ∨ h.length = 2 ∨ 3 ≤ h.length from by omega) with hn | hn | hn
  · rw [show placeR op (b3 97 98 121) ⟨A, X, Y, S, P, PC, cyc, jam⟩ h = (0, 0, (rdR (PC + 1 + 1 - 1)).1, false) from by unfold placeR; rw [hn]; rfl]
    exact pl_aby1 op A X Y S P PC cyc jam x0 y0 c0 b cap h hn w
  · rw [show placeR op (b3 97 98 121) ⟨A, X, Y, S, P, PC, cyc, jam⟩ h = (0, 0, (rdR (PC + 1 + 2 - 1)).1, false) from by unfold placeR; rw [hn]; rfl]
    exact pl_aby2 op A X Y S P PC cyc jam x0 y0 c0 b cap h hn w
  · have e : placeR op (b3 97 98 121) ⟨A, X, Y, S, P, PC, cyc, jam⟩ h = indexedR op (hd h 1) (hd h 2) Y (h.length : Int) 3 := by
      unfold placeR
      dsimp only
      rw [if_neg (by rintro (q | ⟨q, q2⟩) <;> first | omega | (revert q2; decide)), if_neg (by decide), if_neg (by decide), if_neg (by decide), if_pos (by decide), show (if (b3 97 98 121) = (b3 122 112 121) ∨ (b3 97 98 121) = (b3 97 98 121) ∨ (b3 97 98 121) = (b3 105 122 121) then Y else X) = Y from if_pos (by decide)]
    rw [e]
    exact pl_abyn op A X Y S P PC cyc jam x0 y0 c0 b cap h hn hl w H
theorem rpl_izx (op : BA) (r : RG) (hr : RgR r) (b cap : Nat) (h : List Int) (h1 : 1 ≤ h.length) (hl : h.length ≤ 100) (w : World) (H : HdAt w b h) :
    Calls Tryz.prog 148 #[cdV op (b3 105 122 120), r.val, hdV b h cap] w fun e w' => e = .returned (plV (placeR op (b3 105 122 120) r h)) ∧ Below w.heap.size w w' := by
  obtain ⟨A, X, Y, S, P, PC, cyc, jam⟩ := r
  have x0 := hr.x
  have y0 := hr.y
  have c0 := hr.pc
  rcases (show h.length = 1 ∨ h.length = 2 ∨ h.length = 3 ∨ h.length = 4 ∨ 5 ≤ h.length from by omega) with hn | hn | hn | hn | hn
  · rw [show placeR op (b3 105 122 120) ⟨A, X, Y, S, P, PC, cyc, jam⟩ h = (0, 0, (rdR (PC + 1 + 1 - 1)).1, false) from by unfold placeR; rw [hn]; rfl]
    exact pl_izx1 op A X Y S P PC cyc jam x0 y0 c0 b cap h hn w
  · rw [show placeR op (b3 105 122 120) ⟨A, X, Y, S, P, PC, cyc, jam⟩ h = (0, 0, ⟨(hd h 1) % 256, false, 0, false⟩, false) from by unfold placeR; rw [hn]; rfl]
    exact pl_izx2 op A X Y S P PC cyc jam x0 y0 c0 b cap h hn w H
  · rw [show placeR op (b3 105 122 120) ⟨A, X, Y, S, P, PC, cyc, jam⟩ h = (0, 0, ⟨(hd h 1 + X) % 256, false, 0, false⟩, false) from by unfold placeR; rw [hn]; rfl]
    exact pl_izx3 op A X Y S P PC cyc jam x0 y0 c0 b cap h hn w H
  · rw [show placeR op (b3 105 122 120) ⟨A, X, Y, S, P, PC, cyc, jam⟩ h = (0, 0, ⟨(hd h 1 + X + 1) % 256, false, 0, false⟩, false) from by unfold placeR; rw [hn]; rfl]
    exact pl_izx4 op A X Y S P PC cyc jam x0 y0 c0 b cap h hn w H
  · have e : placeR op (b3 105 122 120) ⟨A, X, Y, S, P, PC, cyc, jam⟩ h = (hd h 3 + 256 * hd h 4, 5, Act.nil, true) := by
      unfold placeR
      dsimp only
      rw [if_neg (by rintro (q | ⟨q, q2⟩) <;> first | omega | (revert q2; decide)), if_neg (by decide), if_neg (by decide), if_neg (by decide), if_neg (by decide), if_pos (by decide), if_neg (by omega)]
    rw [e]
    exact pl_izxn op A X Y S P PC cyc jam x0 y0 c0 b cap h hn hl w H
theorem rpl_izy (op : BA) (r : RG) (hr : RgR r) (b cap : Nat) (h : List Int) (h1 : 1 ≤ h.length) (hl : h.length ≤ 100) (w : World) (H : HdAt w b h) :
    Calls Tryz.prog 148 #[cdV op (b3 105 122 121), r.val, hdV b h cap] w fun e w' => e = .returned (plV (placeR op (b3 105 122 121) r h)) ∧ Below w.heap.size w w' := by
  obtain ⟨A, X, Y, S, P, PC, cyc, jam⟩ := r
  have x0 := hr.x
  have y0 := hr.y
  have c0 := hr.pc
  rcases (show h.length = 1 ∨ h.length = 2 ∨ h.length = 3 ∨ 4 ≤ h.length from by omega) with hn | hn | hn | hn
  · rw [show placeR op (b3 105 122 121) ⟨A, X, Y, S, P, PC, cyc, jam⟩ h = (0, 0, (rdR (PC + 1 + 1 - 1)).1, false) from by unfold placeR; rw [hn]; rfl]
    exact pl_izy1 op A X Y S P PC cyc jam x0 y0 c0 b cap h hn w
  · rw [show placeR op (b3 105 122 121) ⟨A, X, Y, S, P, PC, cyc, jam⟩ h = (0, 0, ⟨(hd h 1 + 2 - 2) % 256, false, 0, false⟩, false) from by unfold placeR; rw [hn]; rfl]
    exact pl_izy2 op A X Y S P PC cyc jam x0 y0 c0 b cap h hn w H
  · rw [show placeR op (b3 105 122 121) ⟨A, X, Y, S, P, PC, cyc, jam⟩ h = (0, 0, ⟨(hd h 1 + 3 - 2) % 256, false, 0, false⟩, false) from by unfold placeR; rw [hn]; rfl]
    exact pl_izy3 op A X Y S P PC cyc jam x0 y0 c0 b cap h hn w H
  · have e : placeR op (b3 105 122 121) ⟨A, X, Y, S, P, PC, cyc, jam⟩ h = indexedR op (hd h 2) (hd h 3) Y (h.length : Int) 4 := by
      unfold placeR
      dsimp only
      rw [if_neg (by rintro (q | ⟨q, q2⟩) <;> first | omega | (revert q2; decide)), if_neg (by decide), if_neg (by decide), if_neg (by decide), if_neg (by decide), if_neg (by decide), if_neg (by omega), show (if (b3 105 122 121) = (b3 122 112 121) ∨ (b3 105 122 121) = (b3 97 98 121) ∨ (b3 105 122 121) = (b3 105 122 121) then Y else X) = Y from if_pos (by decide)]
    rw [e]
    exact pl_izyn op A X Y S P PC cyc jam x0 y0 c0 b cap h hn hl w H
end

/-
  The document's computer, walked: the cycles that read, write or change an address, for all lengths.
-/
section
theorem kind_W {op : BA} (h : op ∈ lW) : kindR op = 119 := by
  unfold lW at h
  simp only [List.mem_cons, List.not_mem_nil, or_false] at h
  rcases h with rfl | rfl | rfl <;> rfl
theorem kind_C {op : BA} (h : op ∈ lC) : kindR op = 99 := by
  unfold lC at h
  simp only [List.mem_cons, List.not_mem_nil, or_false] at h
  rcases h with rfl | rfl | rfl | rfl | rfl | rfl <;> rfl
theorem kind_R {op : BA} (h : op ∈ lR) : kindR op = 114 := by
  unfold lR at h
  simp only [List.mem_cons, List.not_mem_nil, or_false] at h
  rcases h with rfl | rfl | rfl | rfl | rfl | rfl | rfl | rfl | rfl | rfl | rfl | rfl <;> rfl
theorem ruses_r (op md : BA) (hk : kindR op = 114) (r : RG) (b cap : Nat) (h : List Int) (a : Int) (fr : Nat) (a0 : h.length ≤ 100 ∧ fr ≤ 100) (w : World) :
    Calls Tryz.prog 149 #[cdV op md, r.val, hdV b h cap, .int .i64 a, .int .i64 (fr : Int)] w fun e w' => e = .returned (ruleV (usesR op r h a fr)) ∧ Below w.heap.size w w' := by
  obtain ⟨A, X, Y, S, P, PC, cyc, jam⟩ := r
  by_cases hn : h.length = fr
  · rw [show usesR op ⟨A, X, Y, S, P, PC, cyc, jam⟩ h a fr = rdR a from by unfold usesR; dsimp only; rw [if_pos hk, if_pos (by omega)]]
    exact us_r0 op md A X Y S P PC cyc jam b cap h a fr a0 hk hn w
  · rw [show usesR op ⟨A, X, Y, S, P, PC, cyc, jam⟩ h a fr = dnR from by unfold usesR; dsimp only; rw [if_pos hk, if_neg (by omega)]]
    exact us_rx op md A X Y S P PC cyc jam b cap h a fr a0 hk hn w
theorem ruses_w (op md : BA) (hop : op ∈ lW) (r : RG) (b cap : Nat) (h : List Int) (a : Int) (fr : Nat) (a0 : h.length ≤ 100 ∧ fr ≤ 100) (w : World) :
    Calls Tryz.prog 149 #[cdV op md, r.val, hdV b h cap, .int .i64 a, .int .i64 (fr : Int)] w fun e w' => e = .returned (ruleV (usesR op r h a fr)) ∧ Below w.heap.size w w' := by
  obtain ⟨A, X, Y, S, P, PC, cyc, jam⟩ := r
  have hk := kind_W hop
  by_cases hn : h.length = fr
  · rw [show usesR op ⟨A, X, Y, S, P, PC, cyc, jam⟩ h a fr = wrR a (if op = (b3 83 84 65) then A else if op = (b3 83 84 88) then X else Y) from by unfold usesR; dsimp only; rw [if_neg (by rw [hk]; decide), if_pos hk, if_pos (by omega)]]
    unfold lW at hop
    simp only [List.mem_cons, List.not_mem_nil, or_false] at hop
    rcases hop with rfl | rfl | rfl
    · exact us_wSTA md A X Y S P PC cyc jam b cap h a fr a0 hn w
    · exact us_wSTX md A X Y S P PC cyc jam b cap h a fr a0 hn w
    · exact us_wSTY md A X Y S P PC cyc jam b cap h a fr a0 hn w
  · rw [show usesR op ⟨A, X, Y, S, P, PC, cyc, jam⟩ h a fr = dnR from by unfold usesR; dsimp only; rw [if_neg (by rw [hk]; decide), if_pos hk, if_neg (by omega)]]
    exact us_wx op md A X Y S P PC cyc jam b cap h a fr a0 hk hn w
theorem ruses_c (op md : BA) (hop : op ∈ lC) (r : RG) (hr : RgR r) (b cap : Nat) (h : List Int) (a : Int) (fr : Nat) (a0 : h.length ≤ 100 ∧ fr ≤ 100) (w : World) (H : HdAt w b h) :
    Calls Tryz.prog 149 #[cdV op md, r.val, hdV b h cap, .int .i64 a, .int .i64 (fr : Int)] w fun e w' => e = .returned (ruleV (usesR op r h a fr)) ∧ Below w.heap.size w w' := by
  obtain ⟨A, X, Y, S, P, PC, cyc, jam⟩ := r
  have hk := kind_C hop
  have q1 : ¬ kindR op = 114 := by rw [hk]; decide
  have q2 : ¬ kindR op = 119 := by rw [hk]; decide
  by_cases hn : h.length = fr
  · rw [show usesR op ⟨A, X, Y, S, P, PC, cyc, jam⟩ h a fr = rdR a from by unfold usesR; dsimp only; rw [if_neg q1, if_neg q2, if_pos (by omega)]]
    exact us_c0 op md A X Y S P PC cyc jam b cap h a fr a0 hk hn w
  · by_cases hn1 : h.length = fr + 1
    · rw [show usesR op ⟨A, X, Y, S, P, PC, cyc, jam⟩ h a fr = wrR a (hd h fr) from by unfold usesR; dsimp only; rw [if_neg q1, if_neg q2, if_neg (by omega), if_pos (by omega), Int.toNat_natCast]]
      exact us_c1 op md A X Y S P PC cyc jam b cap h a fr a0 hk hn1 w H
    · by_cases hn2 : h.length = fr + 2
      · rw [show usesR op ⟨A, X, Y, S, P, PC, cyc, jam⟩ h a fr = wrR a (changedR op (hd h fr) P).1 from by unfold usesR; dsimp only; rw [if_neg q1, if_neg q2, if_neg (by omega), if_neg (by omega), if_pos (by omega), Int.toNat_natCast]]
        exact us_c2 op md A X Y S P PC cyc jam b cap h a fr a0 hk hop hr.p hn2 w H
      · rw [show usesR op ⟨A, X, Y, S, P, PC, cyc, jam⟩ h a fr = dnR from by unfold usesR; dsimp only; rw [if_neg q1, if_neg q2, if_neg (by omega), if_neg (by omega), if_neg (by omega)]]
        exact us_cx op md A X Y S P PC cyc jam b cap h a fr a0 hk hn hn1 hn2 w
end

/-
  The document's computer, walked: the cycle that comes next.
-/
section
theorem HdAt.later {w w' : World} {b : Nat} {h : List Int} (H : HdAt w b h) (hb : Below w.heap.size w w') : HdAt w' b h :=
  ⟨Nat.lt_of_lt_of_le H.lt hb.size, fun i hi => (hb.cell (p := ⟨b, i, none⟩) H.lt).trans (H.c i hi), H.r⟩

def mA : List BA := [b2 122 112, b3 122 112 120, b3 122 112 121, b3 97 98 115, b3 97 98 120, b3 97 98 121, b3 105 122 120, b3 105 122 121]
theorem rplace (op md : BA) (hmd : md ∈ mA) (r : RG) (hr : RgR r) (b cap : Nat) (h : List Int) (h1 : 1 ≤ h.length) (hl : h.length ≤ 100) (w : World) (H : HdAt w b h) :
    Calls Tryz.prog 148 #[cdV op md, r.val, hdV b h cap] w fun e w' => e = .returned (plV (placeR op md r h)) ∧ Below w.heap.size w w' := by
  unfold mA at hmd
  simp only [List.mem_cons, List.not_mem_nil, or_false] at hmd
  rcases hmd with rfl | rfl | rfl | rfl | rfl | rfl | rfl | rfl
  · exact rpl_zp op r hr b cap h h1 hl w H
  · exact rpl_zpx op r hr b cap h h1 hl w H
  · exact rpl_zpy op r hr b cap h h1 hl w H
  · exact rpl_abs op r hr b cap h h1 hl w H
  · exact rpl_abx op r hr b cap h h1 hl w H
  · exact rpl_aby op r hr b cap h h1 hl w H
  · exact rpl_izx op r hr b cap h h1 hl w H
  · exact rpl_izy op r hr b cap h h1 hl w H
/-- An instruction with an address. -/
def OpA (op : BA) : Prop := op ∈ lR ∨ op ∈ lW ∨ op ∈ lC
theorem ruses (op md : BA) (hop : OpA op) (r : RG) (hr : RgR r) (b cap : Nat) (h : List Int) (a : Int) (fr : Nat) (a0 : h.length ≤ 100 ∧ fr ≤ 100) (w : World) (H : HdAt w b h) :
    Calls Tryz.prog 149 #[cdV op md, r.val, hdV b h cap, .int .i64 a, .int .i64 (fr : Int)] w fun e w' => e = .returned (ruleV (usesR op r h a fr)) ∧ Below w.heap.size w w' := by
  rcases hop with hop | hop | hop
  · exact ruses_r op md (kind_R hop) r b cap h a fr a0 w
  · exact ruses_w op md hop r b cap h a fr a0 w
  · exact ruses_c op md hop r hr b cap h a fr a0 w H
/-- From which cycle on. -/
theorem place_from (op md : BA) (r : RG) (h : List Int) : ∃ fr : Nat, (placeR op md r h).2.1 = (fr : Int) ∧ fr ≤ 100 := by
  unfold placeR indexedR
  dsimp only
  generalize (if md = (b3 122 112 121) ∨ md = (b3 97 98 121) ∨ md = (b3 105 122 121) then r.Y else r.X) = ix
  generalize (if (h.length : Int) = 2 then hd h 1 else if (h.length : Int) = 3 then hd h 1 + r.X else hd h 1 + r.X + 1) = iz
  repeat' split
  all_goals first | exact ⟨0, rfl, by decide⟩ | exact ⟨2, rfl, by decide⟩ | exact ⟨3, rfl, by decide⟩ | exact ⟨4, rfl, by decide⟩ | exact ⟨5, rfl, by decide⟩
/-- Not one of those that next tells itself. -/
def NoN (op : BA) : Prop := op ≠ (b3 78 77 73) ∧ op ≠ (b3 73 82 81) ∧ op ≠ (b3 66 82 75) ∧ op ≠ (b3 74 83 82) ∧ op ≠ (b3 82 84 83) ∧ op ≠ (b3 82 84 73) ∧ op ≠ (b3 80 76 65) ∧ op ≠ (b3 80 76 80) ∧ op ≠ (b3 80 72 65) ∧ op ≠ (b3 80 72 80) ∧ op ≠ (b3 74 77 80)
def NoM (md : BA) : Prop := md ≠ (b3 105 109 112) ∧ md ≠ (b3 97 99 99) ∧ md ≠ (b3 105 109 109) ∧ md ≠ (b3 114 101 108)
theorem no_R {op : BA} (h : OpA op) : NoN op := by
  unfold OpA lR lW lC at h
  simp only [List.mem_cons, List.not_mem_nil, or_false] at h
  rcases h with (rfl | rfl | rfl | rfl | rfl | rfl | rfl | rfl | rfl | rfl | rfl | rfl) | (rfl | rfl | rfl) | (rfl | rfl | rfl | rfl | rfl | rfl)
  all_goals (unfold NoN; decide)
theorem no_A {md : BA} (h : md ∈ mA) : NoM md := by
  unfold mA at h
  simp only [List.mem_cons, List.not_mem_nil, or_false] at h
  rcases h with rfl | rfl | rfl | rfl | rfl | rfl | rfl | rfl
  all_goals (unfold NoM; decide)
end

/-
  The document's computer, walked: what an opcode is.
-/
section
set_option maxRecDepth 100000
set_option maxHeartbeats 4000000

theorem trip_at {α β : Type} (f g h : β → α) : ∀ (l : List β) (i : Nat) (e : β), l[i]? = some e →
    (l.flatMap fun c => [f c, g c, h c])[i * 3]? = some (f e) ∧ (l.flatMap fun c => [f c, g c, h c])[i * 3 + 1]? = some (g e) ∧ (l.flatMap fun c => [f c, g c, h c])[i * 3 + 2]? = some (h e)
  | [], i, e, q => by simp at q
  | c :: l, 0, e, q => by simp at q; subst q; exact ⟨rfl, rfl, rfl⟩
  | c :: l, i + 1, e, q => by
    have := trip_at f g h l i e (by simpa using q)
    rw [List.flatMap_cons, show (i + 1) * 3 = i * 3 + 3 from by omega]
    exact this
theorem rtab_at (w : World) (i : Nat) (e : Nat × BA × BA) (h : refTable[i]? = some e) :
    (w.alloc rtabO).cell? ⟨w.heap.size, i * 3, none⟩ = some (.int .i64 (e.1 : Nat)) ∧ (w.alloc rtabO).cell? ⟨w.heap.size, i * 3 + 1, none⟩ = some (.string e.2.1) ∧ (w.alloc rtabO).cell? ⟨w.heap.size, i * 3 + 2, none⟩ = some (.string e.2.2) := by
  have q := trip_at (fun e : Nat × BA × BA => Value.int .i64 (e.1 : Nat)) (fun e => Value.string e.2.1) (fun e => Value.string e.2.2) refTable i e h
  have c : ∀ j, (w.alloc rtabO).cell? ⟨w.heap.size, j, none⟩ = rtabL[j]? := fun j => (World.cell?_alloc_at _ _ _ _ rfl).trans (by simp)
  rw [c, c, c]
  exact q
theorem refTable_len : refTable.length = 151 := by kernel_rfl
theorem ref_get (i : Nat) (h : i < 151) : ∃ e, refTable[i]? = some e := ⟨refTable[i]'(by rw [refTable_len]; exact h), List.getElem?_eq_getElem _⟩

theorem code_hit {b : Int} {k : Nat} {e : Nat × BA × BA} (hk : refTable[k]? = some e) (hb : (e.1 : Int) = b) (hno : ∀ j, j < k → ∀ q, refTable[j]? = some q → (q.1 : Int) ≠ b) : codeR b = e.2 := by
  unfold codeR
  rw [show refTable.find? (fun e => (e.1 : Int) == b) = some e from ?_]
  rw [List.find?_eq_some_iff_getElem]
  have hl : k < refTable.length := (List.getElem?_eq_some_iff.1 hk).1
  refine ⟨by simpa using hb, k, hl, (List.getElem?_eq_some_iff.1 hk).2, fun j hj => ?_⟩
  have := hno j hj _ (List.getElem?_eq_getElem (by omega))
  simpa using this
theorem code_miss {b : Int} (hno : ∀ j, j < 151 → ∀ q, refTable[j]? = some q → (q.1 : Int) ≠ b) : codeR b = (⟨#[]⟩, ⟨#[]⟩) := by
  unfold codeR
  rw [show refTable.find? (fun e => (e.1 : Int) == b) = none from ?_]
  rw [List.find?_eq_none]
  intro e he
  obtain ⟨j, hj, rfl⟩ := List.mem_iff_getElem.1 he
  rw [refTable_len] at hj
  simpa using hno j hj _ (List.getElem?_eq_getElem _)

theorem rcode (b : Int) (w : World) :
    Calls Tryz.prog 150 #[.int .i64 b] w fun e w' => e = .returned (cdV (codeR b).1 (codeR b).2) ∧ Below w.heap.size w w' := by
  have HT : Hid (∀ (i : Nat) (e : Nat × BA × BA), refTable[i]? = some e → ((w.alloc (.cells #[.string ⟨#[]⟩, .string ⟨#[]⟩] 192)).alloc rtabO).cell? ⟨w.heap.size + 1, i * 3, none⟩ = some (.int .i64 (e.1 : Nat)) ∧ ((w.alloc (.cells #[.string ⟨#[]⟩, .string ⟨#[]⟩] 192)).alloc rtabO).cell? ⟨w.heap.size + 1, i * 3 + 1, none⟩ = some (.string e.2.1) ∧ ((w.alloc (.cells #[.string ⟨#[]⟩, .string ⟨#[]⟩] 192)).alloc rtabO).cell? ⟨w.heap.size + 1, i * 3 + 2, none⟩ = some (.string e.2.2)) := by
    intro i e h
    have := rtab_at (w.alloc (.cells #[.string ⟨#[]⟩, .string ⟨#[]⟩] 192)) i e h
    simpa using this
  have TB := fun w => rtable w
  generalize rtabO = O at *
  go_enter Tryz.func150, Tryz.ntmps150
  go_wp2_with (go_at_call 195; refine (TB _).mono ?_; rintro e w1 ⟨rfl, rfl⟩)
  have hO : Hid (Below w.heap.size w ((w.alloc (.cells #[.string ⟨#[]⟩, .string ⟨#[]⟩] 192)).alloc O)) := (by go_grown : Below w.heap.size w ((w.alloc (.cells #[.string ⟨#[]⟩, .string ⟨#[]⟩] 192)).alloc O))
  go_loopw [4] (fun i wr => ∃ k : Nat, k ≤ 151 ∧ i = .int .i64 k ∧ (∀ j, j < k → ∀ q, refTable[j]? = some q → (q.1 : Int) ≠ b) ∧ wr = ((w.alloc (.cells #[.string ⟨#[]⟩, .string ⟨#[]⟩] 192)).alloc O)) (fun i _ => 151 - (intOf i).toNat)
  case atStart => exact ⟨0, by omega, rfl, fun j hj => by omega, rfl⟩
  case round =>
    obtain ⟨k, hk, rfl, hno, rfl⟩ := hrel
    have HNo : Hid (∀ j, j < k → ∀ q, refTable[j]? = some q → (q.1 : Int) ≠ b) := hno
    clear hno
    by_cases hlt : k < 151
    · obtain ⟨e, he⟩ := ref_get k hlt
      obtain ⟨c0, c1, c2⟩ := HT.out k e he
      have HE : Hid (refTable[k]? = some e) := he
      have hk1 : (k : Int) < 151 := by omega
      clear he
      by_cases hx : (e.1 : Int) = b
      · have HR : Hid (codeR b = e.2) := code_hit HE.out hx HNo.out
        obtain ⟨x, op, md⟩ := e
        simp only at hx c0 c1 c2
        clear HE HNo HT TB
        subst hx
        go_wp2
        go_region_with fail
        all_goals go_wp2
        all_goals go_returns
        all_goals refine ⟨by rw [HR.out]; rfl, ?_⟩
        all_goals go_grown
      · have HX : Hid ((e.1 : Int) ≠ b) := hx
        have hx2 : ((e.1 : Int) == b) = false := by simpa using hx
        go_wp2
        go_roundw
        case rel => exact ⟨k + 1, by omega, by go_num, fun j hj q hq => by
          rcases Nat.lt_succ_iff_lt_or_eq.1 hj with h | rfl
          · exact HNo.out j h q hq
          · rw [HE.out] at hq; cases hq; exact HX.out, trivial⟩
        case measure => simp [intOf]; omega
    · have e1 : k = 151 := by omega
      subst e1
      have HR : Hid (codeR b = (⟨#[]⟩, ⟨#[]⟩)) := code_miss HNo.out
      clear HNo HT TB
      go_wp2
      go_returns
      refine ⟨by rw [HR.out]; rfl, ?_⟩
      go_grown
end

/-
  The document's computer, walked: branches for all lengths.
-/
section
theorem rbranches (op md : BA) (hop : op ∈ lB) (r : RG) (hr : RgR r) (b cap : Nat) (h : List Int) (h1 : 1 ≤ h.length) (hl : h.length ≤ 100) (w : World) (H : HdAt w b h) :
    Calls Tryz.prog 147 #[cdV op md, r.val, hdV b h cap] w fun e w' => e = .returned (ruleV (branchesR op r h)) ∧ Below w.heap.size w w' := by
  obtain ⟨A, X, Y, S, P, PC, cyc, jam⟩ := r
  have c0 := hr.pc
  rcases (show h.length = 1 ∨ h.length = 2 ∨ h.length = 3 ∨ 4 ≤ h.length from by omega) with hn | hn | hn | hn
  · rw [show branchesR op ⟨A, X, Y, S, P, PC, cyc, jam⟩ h = rdR (PC + 1) from by unfold branchesR; rw [hn]; rfl]
    exact br_1 op md hop A X Y S P PC cyc jam c0 b cap h hn w
  · cases ht : takenR op P
    · have e : branchesR op ⟨A, X, Y, S, P, PC, cyc, jam⟩ h = dnR := by
        unfold branchesR
        dsimp only
        rw [if_neg (by omega), if_neg (fun q => by rw [ht] at q; exact absurd q.2 (by decide)), if_neg (by omega)]
      rw [e]
      exact br_2f op md hop A X Y S P PC cyc jam c0 b cap h hn ht w
    · have e : branchesR op ⟨A, X, Y, S, P, PC, cyc, jam⟩ h = rdR ((PC + 2) % 65536) := by
        unfold branchesR
        dsimp only
        rw [if_neg (by omega), if_pos ⟨by omega, ht⟩]
      rw [e]
      exact br_2t op md hop A X Y S P PC cyc jam c0 b cap h hn ht w
  · by_cases hg : goalR ⟨A, X, Y, S, P, PC, cyc, jam⟩ (hd h 1) / 256 = (PC + 2) % 65536 / 256
    · have e : branchesR op ⟨A, X, Y, S, P, PC, cyc, jam⟩ h = dnR := by
        unfold branchesR
        dsimp only
        rw [if_neg (by omega), if_neg (by omega), if_pos (by omega), if_neg (fun q => q hg)]
      rw [e]
      exact br_3e op md hop A X Y S P PC cyc jam c0 b cap h hn hg w H
    · have e : branchesR op ⟨A, X, Y, S, P, PC, cyc, jam⟩ h = rdR ((PC + 2) % 65536 / 256 * 256 + goalR ⟨A, X, Y, S, P, PC, cyc, jam⟩ (hd h 1) % 256) := by
        unfold branchesR
        dsimp only
        rw [if_neg (by omega), if_neg (by omega), if_pos (by omega), if_pos hg]
      rw [e]
      exact br_3n op md hop A X Y S P PC cyc jam c0 b cap h hn hg w H
  · have e : branchesR op ⟨A, X, Y, S, P, PC, cyc, jam⟩ h = dnR := by
      unfold branchesR
      dsimp only
      rw [if_neg (by omega), if_neg (by omega), if_neg (by omega)]
    rw [e]
    exact br_x op md hop A X Y S P PC cyc jam c0 b cap h hn hl w
end

/-
  A string that is none of three letters.
-/
section
theorem tl_no3 {op : BA} {a b c : UInt8} (h : op ≠ b3 a b c) : (ByteArray.toList op == [a, b, c]) = false := by
  have := tl_no h
  rw [Go.ByteArray.toList_eq (b3 a b c)] at this
  exact this
end

end Go.Proofs.YtcgjliflnnklnaaGreat
