/-
  The document's computer, walked: what instructions do that go elsewhere, or pull.
-/
import Derived.Test.YtcgjliflnnklnaaGreatJ04
import Derived.Handy
namespace Go.Proofs.YtcgjliflnnklnaaGreat
open Go.RowKit
set_option maxRecDepth 100000
set_option maxHeartbeats 20000000

/-- The bytes heard, as they lie. -/
structure HdAt (w : World) (b : Nat) (h : List Int) : Prop where
  lt : b < w.heap.size
  c : ∀ i, i < h.length → w.cell? ⟨b, i, none⟩ = some (.int .i64 (hd h i))
  r : ∀ i, i < h.length → 0 ≤ hd h i ∧ hd h i < 256
def hdV (b : Nat) (h : List Int) (cap : Nat) : Value := .slice (some ⟨b, 0, none⟩) h.length cap

theorem flw_NMI (A X Y S P PC cyc : Int) (jam : Bool) (b cap : Nat) (h : List Int) (w : World) (H : HdAt w b h) (hl : h.length ≤ 100) (s0 : 0 ≤ S ∧ S < 256) (hn : 7 ≤ h.length) :
    Calls Tryz.prog 152 #[.string (b3 78 77 73), .agg #[.int .i64 A, .int .i64 X, .int .i64 Y, .int .i64 S, .int .i64 P, .int .i64 PC, .int .i64 cyc, .bool jam], hdV b h cap] w fun e w' => e = .returned (.agg #[.int .i64 A, .int .i64 X, .int .i64 Y, .int .i64 ((S - 3) % 256), .int .i64 (bits .or .i64 P 4), .int .i64 (hd h 5 + 256 * hd h 6), .int .i64 cyc, .bool jam]) ∧ Below w.heap.size w w' := by
  unfold b3 hdV
  have l1 := H.lt
  have l2 : b ≠ w.heap.size := by omega
  have l3 : w.heap.size ≠ b := by omega
  have hl2 : (7 : Int) ≤ (h.length : Int) := by omega
  have i5 : (5 : Int) < (h.length : Int) := by omega
  have j5 : 5 < h.length := by omega
  have c5 := H.c 5 (by omega)
  obtain ⟨p5, q5⟩ := H.r 5 (by omega)
  generalize hd h 5 = h5 at *
  have i6 : (6 : Int) < (h.length : Int) := by omega
  have j6 : 6 < h.length := by omega
  have c6 := H.c 6 (by omega)
  obtain ⟨p6, q6⟩ := H.r 6 (by omega)
  generalize hd h 6 = h6 at *
  generalize h.length = n at *
  clear H
  go_enter Tryz.func152, Tryz.ntmps152
  go_wp2_with (first | (go_at_call 196; refine (rnz _ _ _).mono ?_; rintro e w1 ⟨rfl, hw⟩; subst hw) | (go_at_call 91; with_reducible refine (rcut8 _ _).mono ?_; rintro e w1 ⟨rfl, hw⟩; subst hw) | (go_at_call 91; with_reducible refine (rcut16 _ _).mono ?_; rintro e w1 ⟨rfl, hw⟩; subst hw))
  go_region_held3 (fun w' => w'.cell? ⟨b, 5, none⟩ = some (.int .i64 h5) ∧ w'.cell? ⟨b, 6, none⟩ = some (.int .i64 h6)) (go_keep) (first | (go_at_call 196; refine (rnz _ _ _).mono ?_; rintro e w1 ⟨rfl, hw⟩; subst hw) | (go_at_call 91; with_reducible refine (rcut8 _ _).mono ?_; rintro e w1 ⟨rfl, hw⟩; subst hw) | (go_at_call 91; with_reducible refine (rcut16 _ _).mono ?_; rintro e w1 ⟨rfl, hw⟩; subst hw))
  all_goals go_wp2
  all_goals refine bodyPost_ret (v := .agg #[.int .i64 A, .int .i64 X, .int .i64 Y, .int .i64 ((S - 3) % 256), .int .i64 (bits .or .i64 P 4), .int .i64 (h5 + 256 * h6), .int .i64 cyc, .bool jam]) (by simp [results, Tryz.results152, go_sem]) rfl (And.intro rfl ?_)
  all_goals repeat (first | exact Below.refl _ _ | apply bw_drewN | apply bw_drew | apply bw_alloc | (refine bw_set ?_ (by omega)))
theorem flw_IRQ (A X Y S P PC cyc : Int) (jam : Bool) (b cap : Nat) (h : List Int) (w : World) (H : HdAt w b h) (hl : h.length ≤ 100) (s0 : 0 ≤ S ∧ S < 256) (hn : 7 ≤ h.length) :
    Calls Tryz.prog 152 #[.string (b3 73 82 81), .agg #[.int .i64 A, .int .i64 X, .int .i64 Y, .int .i64 S, .int .i64 P, .int .i64 PC, .int .i64 cyc, .bool jam], hdV b h cap] w fun e w' => e = .returned (.agg #[.int .i64 A, .int .i64 X, .int .i64 Y, .int .i64 ((S - 3) % 256), .int .i64 (bits .or .i64 P 4), .int .i64 (hd h 5 + 256 * hd h 6), .int .i64 cyc, .bool jam]) ∧ Below w.heap.size w w' := by
  unfold b3 hdV
  have l1 := H.lt
  have l2 : b ≠ w.heap.size := by omega
  have l3 : w.heap.size ≠ b := by omega
  have hl2 : (7 : Int) ≤ (h.length : Int) := by omega
  have i5 : (5 : Int) < (h.length : Int) := by omega
  have j5 : 5 < h.length := by omega
  have c5 := H.c 5 (by omega)
  obtain ⟨p5, q5⟩ := H.r 5 (by omega)
  generalize hd h 5 = h5 at *
  have i6 : (6 : Int) < (h.length : Int) := by omega
  have j6 : 6 < h.length := by omega
  have c6 := H.c 6 (by omega)
  obtain ⟨p6, q6⟩ := H.r 6 (by omega)
  generalize hd h 6 = h6 at *
  generalize h.length = n at *
  clear H
  go_enter Tryz.func152, Tryz.ntmps152
  go_wp2_with (first | (go_at_call 196; refine (rnz _ _ _).mono ?_; rintro e w1 ⟨rfl, hw⟩; subst hw) | (go_at_call 91; with_reducible refine (rcut8 _ _).mono ?_; rintro e w1 ⟨rfl, hw⟩; subst hw) | (go_at_call 91; with_reducible refine (rcut16 _ _).mono ?_; rintro e w1 ⟨rfl, hw⟩; subst hw))
  go_region_held3 (fun w' => w'.cell? ⟨b, 5, none⟩ = some (.int .i64 h5) ∧ w'.cell? ⟨b, 6, none⟩ = some (.int .i64 h6)) (go_keep) (first | (go_at_call 196; refine (rnz _ _ _).mono ?_; rintro e w1 ⟨rfl, hw⟩; subst hw) | (go_at_call 91; with_reducible refine (rcut8 _ _).mono ?_; rintro e w1 ⟨rfl, hw⟩; subst hw) | (go_at_call 91; with_reducible refine (rcut16 _ _).mono ?_; rintro e w1 ⟨rfl, hw⟩; subst hw))
  all_goals go_wp2
  all_goals refine bodyPost_ret (v := .agg #[.int .i64 A, .int .i64 X, .int .i64 Y, .int .i64 ((S - 3) % 256), .int .i64 (bits .or .i64 P 4), .int .i64 (h5 + 256 * h6), .int .i64 cyc, .bool jam]) (by simp [results, Tryz.results152, go_sem]) rfl (And.intro rfl ?_)
  all_goals repeat (first | exact Below.refl _ _ | apply bw_drewN | apply bw_drew | apply bw_alloc | (refine bw_set ?_ (by omega)))
theorem flw_BRK (A X Y S P PC cyc : Int) (jam : Bool) (b cap : Nat) (h : List Int) (w : World) (H : HdAt w b h) (hl : h.length ≤ 100) (s0 : 0 ≤ S ∧ S < 256) (hn : 7 ≤ h.length) :
    Calls Tryz.prog 152 #[.string (b3 66 82 75), .agg #[.int .i64 A, .int .i64 X, .int .i64 Y, .int .i64 S, .int .i64 P, .int .i64 PC, .int .i64 cyc, .bool jam], hdV b h cap] w fun e w' => e = .returned (.agg #[.int .i64 A, .int .i64 X, .int .i64 Y, .int .i64 ((S - 3) % 256), .int .i64 (bits .or .i64 P 4), .int .i64 (hd h 5 + 256 * hd h 6), .int .i64 cyc, .bool jam]) ∧ Below w.heap.size w w' := by
  unfold b3 hdV
  have l1 := H.lt
  have l2 : b ≠ w.heap.size := by omega
  have l3 : w.heap.size ≠ b := by omega
  have hl2 : (7 : Int) ≤ (h.length : Int) := by omega
  have i5 : (5 : Int) < (h.length : Int) := by omega
  have j5 : 5 < h.length := by omega
  have c5 := H.c 5 (by omega)
  obtain ⟨p5, q5⟩ := H.r 5 (by omega)
  generalize hd h 5 = h5 at *
  have i6 : (6 : Int) < (h.length : Int) := by omega
  have j6 : 6 < h.length := by omega
  have c6 := H.c 6 (by omega)
  obtain ⟨p6, q6⟩ := H.r 6 (by omega)
  generalize hd h 6 = h6 at *
  generalize h.length = n at *
  clear H
  go_enter Tryz.func152, Tryz.ntmps152
  go_wp2_with (first | (go_at_call 196; refine (rnz _ _ _).mono ?_; rintro e w1 ⟨rfl, hw⟩; subst hw) | (go_at_call 91; with_reducible refine (rcut8 _ _).mono ?_; rintro e w1 ⟨rfl, hw⟩; subst hw) | (go_at_call 91; with_reducible refine (rcut16 _ _).mono ?_; rintro e w1 ⟨rfl, hw⟩; subst hw))
  go_region_held3 (fun w' => w'.cell? ⟨b, 5, none⟩ = some (.int .i64 h5) ∧ w'.cell? ⟨b, 6, none⟩ = some (.int .i64 h6)) (go_keep) (first | (go_at_call 196; refine (rnz _ _ _).mono ?_; rintro e w1 ⟨rfl, hw⟩; subst hw) | (go_at_call 91; with_reducible refine (rcut8 _ _).mono ?_; rintro e w1 ⟨rfl, hw⟩; subst hw) | (go_at_call 91; with_reducible refine (rcut16 _ _).mono ?_; rintro e w1 ⟨rfl, hw⟩; subst hw))
  all_goals go_wp2
  all_goals refine bodyPost_ret (v := .agg #[.int .i64 A, .int .i64 X, .int .i64 Y, .int .i64 ((S - 3) % 256), .int .i64 (bits .or .i64 P 4), .int .i64 (h5 + 256 * h6), .int .i64 cyc, .bool jam]) (by simp [results, Tryz.results152, go_sem]) rfl (And.intro rfl ?_)
  all_goals repeat (first | exact Below.refl _ _ | apply bw_drewN | apply bw_drew | apply bw_alloc | (refine bw_set ?_ (by omega)))
theorem flw_JSR (A X Y S P PC cyc : Int) (jam : Bool) (b cap : Nat) (h : List Int) (w : World) (H : HdAt w b h) (hl : h.length ≤ 100) (s0 : 0 ≤ S ∧ S < 256) (hn : 6 ≤ h.length) :
    Calls Tryz.prog 152 #[.string (b3 74 83 82), .agg #[.int .i64 A, .int .i64 X, .int .i64 Y, .int .i64 S, .int .i64 P, .int .i64 PC, .int .i64 cyc, .bool jam], hdV b h cap] w fun e w' => e = .returned (.agg #[.int .i64 A, .int .i64 X, .int .i64 Y, .int .i64 ((S - 2) % 256), .int .i64 P, .int .i64 (hd h 1 + 256 * hd h 5), .int .i64 cyc, .bool jam]) ∧ Below w.heap.size w w' := by
  unfold b3 hdV
  have l1 := H.lt
  have l2 : b ≠ w.heap.size := by omega
  have l3 : w.heap.size ≠ b := by omega
  have hl2 : (6 : Int) ≤ (h.length : Int) := by omega
  have i1 : (1 : Int) < (h.length : Int) := by omega
  have j1 : 1 < h.length := by omega
  have c1 := H.c 1 (by omega)
  obtain ⟨p1, q1⟩ := H.r 1 (by omega)
  generalize hd h 1 = h1 at *
  have i5 : (5 : Int) < (h.length : Int) := by omega
  have j5 : 5 < h.length := by omega
  have c5 := H.c 5 (by omega)
  obtain ⟨p5, q5⟩ := H.r 5 (by omega)
  generalize hd h 5 = h5 at *
  generalize h.length = n at *
  clear H
  go_enter Tryz.func152, Tryz.ntmps152
  go_wp2_with (first | (go_at_call 196; refine (rnz _ _ _).mono ?_; rintro e w1 ⟨rfl, hw⟩; subst hw) | (go_at_call 91; with_reducible refine (rcut8 _ _).mono ?_; rintro e w1 ⟨rfl, hw⟩; subst hw) | (go_at_call 91; with_reducible refine (rcut16 _ _).mono ?_; rintro e w1 ⟨rfl, hw⟩; subst hw))
  go_region_held3 (fun w' => w'.cell? ⟨b, 1, none⟩ = some (.int .i64 h1) ∧ w'.cell? ⟨b, 5, none⟩ = some (.int .i64 h5)) (go_keep) (first | (go_at_call 196; refine (rnz _ _ _).mono ?_; rintro e w1 ⟨rfl, hw⟩; subst hw) | (go_at_call 91; with_reducible refine (rcut8 _ _).mono ?_; rintro e w1 ⟨rfl, hw⟩; subst hw) | (go_at_call 91; with_reducible refine (rcut16 _ _).mono ?_; rintro e w1 ⟨rfl, hw⟩; subst hw))
  all_goals go_wp2
  all_goals refine bodyPost_ret (v := .agg #[.int .i64 A, .int .i64 X, .int .i64 Y, .int .i64 ((S - 2) % 256), .int .i64 P, .int .i64 (h1 + 256 * h5), .int .i64 cyc, .bool jam]) (by simp [results, Tryz.results152, go_sem]) rfl (And.intro rfl ?_)
  all_goals repeat (first | exact Below.refl _ _ | apply bw_drewN | apply bw_drew | apply bw_alloc | (refine bw_set ?_ (by omega)))
theorem flw_RTS (A X Y S P PC cyc : Int) (jam : Bool) (b cap : Nat) (h : List Int) (w : World) (H : HdAt w b h) (hl : h.length ≤ 100) (s0 : 0 ≤ S ∧ S < 256) (hn : 6 ≤ h.length) :
    Calls Tryz.prog 152 #[.string (b3 82 84 83), .agg #[.int .i64 A, .int .i64 X, .int .i64 Y, .int .i64 S, .int .i64 P, .int .i64 PC, .int .i64 cyc, .bool jam], hdV b h cap] w fun e w' => e = .returned (.agg #[.int .i64 A, .int .i64 X, .int .i64 Y, .int .i64 ((S + 2) % 256), .int .i64 P, .int .i64 ((hd h 3 + 256 * hd h 4 + 1) % 65536), .int .i64 cyc, .bool jam]) ∧ Below w.heap.size w w' := by
  unfold b3 hdV
  have l1 := H.lt
  have l2 : b ≠ w.heap.size := by omega
  have l3 : w.heap.size ≠ b := by omega
  have hl2 : (6 : Int) ≤ (h.length : Int) := by omega
  have i3 : (3 : Int) < (h.length : Int) := by omega
  have j3 : 3 < h.length := by omega
  have c3 := H.c 3 (by omega)
  obtain ⟨p3, q3⟩ := H.r 3 (by omega)
  generalize hd h 3 = h3 at *
  have i4 : (4 : Int) < (h.length : Int) := by omega
  have j4 : 4 < h.length := by omega
  have c4 := H.c 4 (by omega)
  obtain ⟨p4, q4⟩ := H.r 4 (by omega)
  generalize hd h 4 = h4 at *
  generalize h.length = n at *
  clear H
  go_enter Tryz.func152, Tryz.ntmps152
  go_wp2_with (first | (go_at_call 196; refine (rnz _ _ _).mono ?_; rintro e w1 ⟨rfl, hw⟩; subst hw) | (go_at_call 91; with_reducible refine (rcut8 _ _).mono ?_; rintro e w1 ⟨rfl, hw⟩; subst hw) | (go_at_call 91; with_reducible refine (rcut16 _ _).mono ?_; rintro e w1 ⟨rfl, hw⟩; subst hw))
  go_region_held3 (fun w' => w'.cell? ⟨b, 3, none⟩ = some (.int .i64 h3) ∧ w'.cell? ⟨b, 4, none⟩ = some (.int .i64 h4)) (go_keep) (first | (go_at_call 196; refine (rnz _ _ _).mono ?_; rintro e w1 ⟨rfl, hw⟩; subst hw) | (go_at_call 91; with_reducible refine (rcut8 _ _).mono ?_; rintro e w1 ⟨rfl, hw⟩; subst hw) | (go_at_call 91; with_reducible refine (rcut16 _ _).mono ?_; rintro e w1 ⟨rfl, hw⟩; subst hw))
  all_goals go_wp2
  all_goals refine bodyPost_ret (v := .agg #[.int .i64 A, .int .i64 X, .int .i64 Y, .int .i64 ((S + 2) % 256), .int .i64 P, .int .i64 ((h3 + 256 * h4 + 1) % 65536), .int .i64 cyc, .bool jam]) (by simp [results, Tryz.results152, go_sem]) rfl (And.intro rfl ?_)
  all_goals repeat (first | exact Below.refl _ _ | apply bw_drewN | apply bw_drew | apply bw_alloc | (refine bw_set ?_ (by omega)))
theorem flw_RTI (A X Y S P PC cyc : Int) (jam : Bool) (b cap : Nat) (h : List Int) (w : World) (H : HdAt w b h) (hl : h.length ≤ 100) (s0 : 0 ≤ S ∧ S < 256) (hn : 6 ≤ h.length) :
    Calls Tryz.prog 152 #[.string (b3 82 84 73), .agg #[.int .i64 A, .int .i64 X, .int .i64 Y, .int .i64 S, .int .i64 P, .int .i64 PC, .int .i64 cyc, .bool jam], hdV b h cap] w fun e w' => e = .returned (.agg #[.int .i64 A, .int .i64 X, .int .i64 Y, .int .i64 ((S + 3) % 256), .int .i64 (bits .or .i64 (bits .and .i64 (hd h 3) 207) 32), .int .i64 (hd h 4 + 256 * hd h 5), .int .i64 cyc, .bool jam]) ∧ Below w.heap.size w w' := by
  unfold b3 hdV
  have l1 := H.lt
  have l2 : b ≠ w.heap.size := by omega
  have l3 : w.heap.size ≠ b := by omega
  have hl2 : (6 : Int) ≤ (h.length : Int) := by omega
  have i3 : (3 : Int) < (h.length : Int) := by omega
  have j3 : 3 < h.length := by omega
  have c3 := H.c 3 (by omega)
  obtain ⟨p3, q3⟩ := H.r 3 (by omega)
  generalize hd h 3 = h3 at *
  have i4 : (4 : Int) < (h.length : Int) := by omega
  have j4 : 4 < h.length := by omega
  have c4 := H.c 4 (by omega)
  obtain ⟨p4, q4⟩ := H.r 4 (by omega)
  generalize hd h 4 = h4 at *
  have i5 : (5 : Int) < (h.length : Int) := by omega
  have j5 : 5 < h.length := by omega
  have c5 := H.c 5 (by omega)
  obtain ⟨p5, q5⟩ := H.r 5 (by omega)
  generalize hd h 5 = h5 at *
  generalize h.length = n at *
  clear H
  go_enter Tryz.func152, Tryz.ntmps152
  go_wp2_with (first | (go_at_call 196; refine (rnz _ _ _).mono ?_; rintro e w1 ⟨rfl, hw⟩; subst hw) | (go_at_call 91; with_reducible refine (rcut8 _ _).mono ?_; rintro e w1 ⟨rfl, hw⟩; subst hw) | (go_at_call 91; with_reducible refine (rcut16 _ _).mono ?_; rintro e w1 ⟨rfl, hw⟩; subst hw))
  all_goals (try (go_region_with (first | (go_at_call 196; refine (rnz _ _ _).mono ?_; rintro e w1 ⟨rfl, hw⟩; subst hw) | (go_at_call 91; with_reducible refine (rcut8 _ _).mono ?_; rintro e w1 ⟨rfl, hw⟩; subst hw) | (go_at_call 91; with_reducible refine (rcut16 _ _).mono ?_; rintro e w1 ⟨rfl, hw⟩; subst hw))))
  all_goals (try (go_wp2_with (first | (go_at_call 196; refine (rnz _ _ _).mono ?_; rintro e w1 ⟨rfl, hw⟩; subst hw) | (go_at_call 91; with_reducible refine (rcut8 _ _).mono ?_; rintro e w1 ⟨rfl, hw⟩; subst hw) | (go_at_call 91; with_reducible refine (rcut16 _ _).mono ?_; rintro e w1 ⟨rfl, hw⟩; subst hw))))
  all_goals go_wp2
  all_goals refine bodyPost_ret (v := .agg #[.int .i64 A, .int .i64 X, .int .i64 Y, .int .i64 ((S + 3) % 256), .int .i64 (bits .or .i64 (bits .and .i64 (h3) 207) 32), .int .i64 (h4 + 256 * h5), .int .i64 cyc, .bool jam]) (by simp [results, Tryz.results152, go_sem]) rfl (And.intro rfl ?_)
  all_goals repeat (first | exact Below.refl _ _ | apply bw_drewN | apply bw_drew | apply bw_alloc | (refine bw_set ?_ (by omega)))
theorem flw_PLA (A X Y S P PC cyc : Int) (jam : Bool) (b cap : Nat) (h : List Int) (w : World) (H : HdAt w b h) (hl : h.length ≤ 100) (s0 : 0 ≤ S ∧ S < 256) (hn : 4 ≤ h.length) :
    Calls Tryz.prog 152 #[.string (b3 80 76 65), .agg #[.int .i64 A, .int .i64 X, .int .i64 Y, .int .i64 S, .int .i64 P, .int .i64 PC, .int .i64 cyc, .bool jam], hdV b h cap] w fun e w' => e = .returned (.agg #[.int .i64 (hd h 3), .int .i64 X, .int .i64 Y, .int .i64 ((S + 1) % 256), .int .i64 (nzR P (hd h 3)), .int .i64 PC, .int .i64 cyc, .bool jam]) ∧ Below w.heap.size w w' := by
  unfold b3 hdV
  have l1 := H.lt
  have l2 : b ≠ w.heap.size := by omega
  have l3 : w.heap.size ≠ b := by omega
  have hl2 : (4 : Int) ≤ (h.length : Int) := by omega
  have i3 : (3 : Int) < (h.length : Int) := by omega
  have j3 : 3 < h.length := by omega
  have c3 := H.c 3 (by omega)
  obtain ⟨p3, q3⟩ := H.r 3 (by omega)
  generalize hd h 3 = h3 at *
  generalize h.length = n at *
  clear H
  go_enter Tryz.func152, Tryz.ntmps152
  go_wp2_with (first | (go_at_call 196; refine (rnz _ _ _).mono ?_; rintro e w1 ⟨rfl, hw⟩; subst hw) | (go_at_call 91; with_reducible refine (rcut8 _ _).mono ?_; rintro e w1 ⟨rfl, hw⟩; subst hw) | (go_at_call 91; with_reducible refine (rcut16 _ _).mono ?_; rintro e w1 ⟨rfl, hw⟩; subst hw))
  all_goals (try (go_region_with (first | (go_at_call 196; refine (rnz _ _ _).mono ?_; rintro e w1 ⟨rfl, hw⟩; subst hw) | (go_at_call 91; with_reducible refine (rcut8 _ _).mono ?_; rintro e w1 ⟨rfl, hw⟩; subst hw) | (go_at_call 91; with_reducible refine (rcut16 _ _).mono ?_; rintro e w1 ⟨rfl, hw⟩; subst hw))))
  all_goals (try (go_wp2_with (first | (go_at_call 196; refine (rnz _ _ _).mono ?_; rintro e w1 ⟨rfl, hw⟩; subst hw) | (go_at_call 91; with_reducible refine (rcut8 _ _).mono ?_; rintro e w1 ⟨rfl, hw⟩; subst hw) | (go_at_call 91; with_reducible refine (rcut16 _ _).mono ?_; rintro e w1 ⟨rfl, hw⟩; subst hw))))
  all_goals go_wp2
  all_goals refine bodyPost_ret (v := .agg #[.int .i64 (h3), .int .i64 X, .int .i64 Y, .int .i64 ((S + 1) % 256), .int .i64 (nzR P (h3)), .int .i64 PC, .int .i64 cyc, .bool jam]) (by simp [results, Tryz.results152, go_sem]) rfl (And.intro rfl ?_)
  all_goals repeat (first | exact Below.refl _ _ | apply bw_drewN | apply bw_drew | apply bw_alloc | (refine bw_set ?_ (by omega)))
theorem flw_PLP (A X Y S P PC cyc : Int) (jam : Bool) (b cap : Nat) (h : List Int) (w : World) (H : HdAt w b h) (hl : h.length ≤ 100) (s0 : 0 ≤ S ∧ S < 256) (hn : 4 ≤ h.length) :
    Calls Tryz.prog 152 #[.string (b3 80 76 80), .agg #[.int .i64 A, .int .i64 X, .int .i64 Y, .int .i64 S, .int .i64 P, .int .i64 PC, .int .i64 cyc, .bool jam], hdV b h cap] w fun e w' => e = .returned (.agg #[.int .i64 A, .int .i64 X, .int .i64 Y, .int .i64 ((S + 1) % 256), .int .i64 (bits .or .i64 (bits .and .i64 (hd h 3) 207) 32), .int .i64 PC, .int .i64 cyc, .bool jam]) ∧ Below w.heap.size w w' := by
  unfold b3 hdV
  have l1 := H.lt
  have l2 : b ≠ w.heap.size := by omega
  have l3 : w.heap.size ≠ b := by omega
  have hl2 : (4 : Int) ≤ (h.length : Int) := by omega
  have i3 : (3 : Int) < (h.length : Int) := by omega
  have j3 : 3 < h.length := by omega
  have c3 := H.c 3 (by omega)
  obtain ⟨p3, q3⟩ := H.r 3 (by omega)
  generalize hd h 3 = h3 at *
  generalize h.length = n at *
  clear H
  go_enter Tryz.func152, Tryz.ntmps152
  go_wp2_with (first | (go_at_call 196; refine (rnz _ _ _).mono ?_; rintro e w1 ⟨rfl, hw⟩; subst hw) | (go_at_call 91; with_reducible refine (rcut8 _ _).mono ?_; rintro e w1 ⟨rfl, hw⟩; subst hw) | (go_at_call 91; with_reducible refine (rcut16 _ _).mono ?_; rintro e w1 ⟨rfl, hw⟩; subst hw))
  all_goals (try (go_region_with (first | (go_at_call 196; refine (rnz _ _ _).mono ?_; rintro e w1 ⟨rfl, hw⟩; subst hw) | (go_at_call 91; with_reducible refine (rcut8 _ _).mono ?_; rintro e w1 ⟨rfl, hw⟩; subst hw) | (go_at_call 91; with_reducible refine (rcut16 _ _).mono ?_; rintro e w1 ⟨rfl, hw⟩; subst hw))))
  all_goals (try (go_wp2_with (first | (go_at_call 196; refine (rnz _ _ _).mono ?_; rintro e w1 ⟨rfl, hw⟩; subst hw) | (go_at_call 91; with_reducible refine (rcut8 _ _).mono ?_; rintro e w1 ⟨rfl, hw⟩; subst hw) | (go_at_call 91; with_reducible refine (rcut16 _ _).mono ?_; rintro e w1 ⟨rfl, hw⟩; subst hw))))
  all_goals go_wp2
  all_goals refine bodyPost_ret (v := .agg #[.int .i64 A, .int .i64 X, .int .i64 Y, .int .i64 ((S + 1) % 256), .int .i64 (bits .or .i64 (bits .and .i64 (h3) 207) 32), .int .i64 PC, .int .i64 cyc, .bool jam]) (by simp [results, Tryz.results152, go_sem]) rfl (And.intro rfl ?_)
  all_goals repeat (first | exact Below.refl _ _ | apply bw_drewN | apply bw_drew | apply bw_alloc | (refine bw_set ?_ (by omega)))
theorem flw_JMP3 (A X Y S P PC cyc : Int) (jam : Bool) (b cap : Nat) (h : List Int) (w : World) (H : HdAt w b h) (hn : h.length = 3) :
    Calls Tryz.prog 152 #[.string (b3 74 77 80), .agg #[.int .i64 A, .int .i64 X, .int .i64 Y, .int .i64 S, .int .i64 P, .int .i64 PC, .int .i64 cyc, .bool jam], hdV b h cap] w fun e w' => e = .returned (.agg #[.int .i64 A, .int .i64 X, .int .i64 Y, .int .i64 S, .int .i64 P, .int .i64 (hd h 1 + 256 * hd h 2), .int .i64 cyc, .bool jam]) ∧ Below w.heap.size w w' := by
  unfold b3 hdV
  have l1 := H.lt
  have l2 : b ≠ w.heap.size := by omega
  have l3 : w.heap.size ≠ b := by omega
  have c1 := H.c 1 (by omega)
  have c2 := H.c 2 (by omega)
  obtain ⟨p1, q1⟩ := H.r 1 (by omega)
  obtain ⟨p2, q2⟩ := H.r 2 (by omega)
  rw [hn]
  generalize hd h 1 = ha at *
  generalize hd h 2 = hb at *
  clear H
  go_enter Tryz.func152, Tryz.ntmps152
  go_wp2_with fail
  go_region_with (fail)
  all_goals go_wp2
  all_goals refine bodyPost_ret (v := .agg #[.int .i64 A, .int .i64 X, .int .i64 Y, .int .i64 S, .int .i64 P, .int .i64 (ha + 256 * hb), .int .i64 cyc, .bool jam]) (by simp [results, Tryz.results152, go_sem]) rfl (And.intro rfl ?_)
  all_goals repeat (first | exact Below.refl _ _ | apply bw_drewN | apply bw_drew | apply bw_alloc | (refine bw_set ?_ (by omega)))
theorem flw_JMP5 (A X Y S P PC cyc : Int) (jam : Bool) (b cap : Nat) (h : List Int) (w : World) (H : HdAt w b h) (hn : h.length = 5) :
    Calls Tryz.prog 152 #[.string (b3 74 77 80), .agg #[.int .i64 A, .int .i64 X, .int .i64 Y, .int .i64 S, .int .i64 P, .int .i64 PC, .int .i64 cyc, .bool jam], hdV b h cap] w fun e w' => e = .returned (.agg #[.int .i64 A, .int .i64 X, .int .i64 Y, .int .i64 S, .int .i64 P, .int .i64 (hd h 3 + 256 * hd h 4), .int .i64 cyc, .bool jam]) ∧ Below w.heap.size w w' := by
  unfold b3 hdV
  have l1 := H.lt
  have l2 : b ≠ w.heap.size := by omega
  have l3 : w.heap.size ≠ b := by omega
  have c1 := H.c 3 (by omega)
  have c2 := H.c 4 (by omega)
  obtain ⟨p1, q1⟩ := H.r 3 (by omega)
  obtain ⟨p2, q2⟩ := H.r 4 (by omega)
  rw [hn]
  generalize hd h 3 = ha at *
  generalize hd h 4 = hb at *
  clear H
  go_enter Tryz.func152, Tryz.ntmps152
  go_wp2_with fail
  go_region_with (fail)
  all_goals go_wp2
  all_goals refine bodyPost_ret (v := .agg #[.int .i64 A, .int .i64 X, .int .i64 Y, .int .i64 S, .int .i64 P, .int .i64 (ha + 256 * hb), .int .i64 cyc, .bool jam]) (by simp [results, Tryz.results152, go_sem]) rfl (And.intro rfl ?_)
  all_goals repeat (first | exact Below.refl _ _ | apply bw_drewN | apply bw_drew | apply bw_alloc | (refine bw_set ?_ (by omega)))
def lI0 : List BA := [b3 84 65 88, b3 84 65 89, b3 84 88 65, b3 84 89 65, b3 84 83 88, b3 84 88 83, b3 73 78 88, b3 73 78 89, b3 68 69 88, b3 68 69 89, b3 67 76 67, b3 83 69 67, b3 67 76 73, b3 83 69 73, b3 67 76 86, b3 67 76 68, b3 83 69 68, b3 80 72 65, b3 80 72 80, b3 78 79 80]
theorem flw_plain (op : BA) (hop : op ∈ lI0) (r : RG) (b cap : Nat) (h : List Int) (w : World) :
    Calls Tryz.prog 152 #[.string op, r.val, hdV b h cap] w fun e w' => e = .returned (flowsR op r h).val ∧ Below w.heap.size w w' := by
  obtain ⟨A, X, Y, S, P, PC, cyc, jam⟩ := r
  unfold lI0 at hop
  simp only [List.mem_cons, List.not_mem_nil, or_false] at hop
  rcases hop with rfl | rfl | rfl | rfl | rfl | rfl | rfl | rfl | rfl | rfl | rfl | rfl | rfl | rfl | rfl | rfl | rfl | rfl | rfl | rfl
  all_goals
    go_enter Tryz.func152, Tryz.ntmps152
    unfold b3 RG.val hdV
    go_wp2
    go_returns
    exact ⟨rfl, by go_grown⟩

/-- How many bytes such an instruction has heard when it is done. -/
def FlOk (op : BA) (n : Nat) : Prop :=
  ((op = b3 78 77 73 ∨ op = b3 73 82 81 ∨ op = b3 66 82 75) ∧ 7 ≤ n) ∨ ((op = b3 74 83 82 ∨ op = b3 82 84 83 ∨ op = b3 82 84 73) ∧ 6 ≤ n) ∨ ((op = b3 80 76 65 ∨ op = b3 80 76 80) ∧ 4 ≤ n) ∨ (op = b3 74 77 80 ∧ (n = 3 ∨ n = 5)) ∨ op ∈ lI0

theorem rflows (op : BA) (r : RG) (hr : RgR r) (b cap : Nat) (h : List Int) (hl : h.length ≤ 100) (hk : FlOk op h.length) (w : World) (H : HdAt w b h) :
    Calls Tryz.prog 152 #[.string op, r.val, hdV b h cap] w fun e w' => e = .returned (flowsR op r h).val ∧ Below w.heap.size w w' := by
  obtain ⟨A, X, Y, S, P, PC, cyc, jam⟩ := r
  have s0 := hr.s
  rcases hk with ⟨h1 | h1 | h1, hn⟩ | ⟨h1 | h1 | h1, hn⟩ | ⟨h1 | h1, hn⟩ | ⟨h1, hn | hn⟩ | h1
  · rw [h1]; exact flw_NMI A X Y S P PC cyc jam b cap h w H hl s0 hn
  · rw [h1]; exact flw_IRQ A X Y S P PC cyc jam b cap h w H hl s0 hn
  · rw [h1]; exact flw_BRK A X Y S P PC cyc jam b cap h w H hl s0 hn
  · rw [h1]; exact flw_JSR A X Y S P PC cyc jam b cap h w H hl s0 hn
  · rw [h1]; exact flw_RTS A X Y S P PC cyc jam b cap h w H hl s0 hn
  · rw [h1]; exact flw_RTI A X Y S P PC cyc jam b cap h w H hl s0 hn
  · rw [h1]; exact flw_PLA A X Y S P PC cyc jam b cap h w H hl s0 hn
  · rw [h1]; exact flw_PLP A X Y S P PC cyc jam b cap h w H hl s0 hn
  · rw [h1, show flowsR (b3 74 77 80) ⟨A, X, Y, S, P, PC, cyc, jam⟩ h = ⟨A, X, Y, S, P, hd h 1 + 256 * hd h 2, cyc, jam⟩ from by show RG.mk A X Y S P (hd h (h.length - 2) + 256 * hd h (h.length - 1)) cyc jam = _; rw [hn]]; exact flw_JMP3 A X Y S P PC cyc jam b cap h w H hn
  · rw [h1, show flowsR (b3 74 77 80) ⟨A, X, Y, S, P, PC, cyc, jam⟩ h = ⟨A, X, Y, S, P, hd h 3 + 256 * hd h 4, cyc, jam⟩ from by show RG.mk A X Y S P (hd h (h.length - 2) + 256 * hd h (h.length - 1)) cyc jam = _; rw [hn]]; exact flw_JMP5 A X Y S P PC cyc jam b cap h w H hn
  · exact flw_plain op h1 _ b cap h w

end Go.Proofs.YtcgjliflnnklnaaGreat
