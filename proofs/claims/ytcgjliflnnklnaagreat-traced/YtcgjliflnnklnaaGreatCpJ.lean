/-
  The computer's instructions, walked: sums, shifts, branches.
-/
import Derived.Test.YtcgjliflnnklnaaGreatCpI
namespace Go.Proofs.YtcgjliflnnklnaaGreat
open Go.RowKit

set_option maxRecDepth 100000 in
set_option maxHeartbeats 1000000 in
theorem add_any {B : Nat} {s : PC} {w0 w : World} (h : Tn B s w0 w) (m : Int) (hm : 0 ≤ m ∧ m < 256) :
    Calls Tryz.prog 279 #[.pointer (some ⟨B, 0, none⟩), .int .u8 m] w fun e w' => e = .returned (.tuple #[]) ∧ Tn B (s.add m) w0 w' := by
  have c_a := h.c.ca; obtain ⟨l_a, u_a⟩ := h.c.ra; have c_p := h.c.cp; obtain ⟨l_p, u_p⟩ := h.c.rp
  go_enter Tryz.func279, Tryz.ntmps279
  obtain ⟨m1, m2⟩ := hm
  obtain ⟨b1, b2⟩ := bit_r .and s.p 1
  go_wp2
  go_region_held3 (fun w' => w'.cell? ⟨B, 65539, none⟩ = some (.int .u8 s.a) ∧ w'.cell? ⟨B, 65543, none⟩ = some (.int .u8 s.p)) (go_keep) (fail)
  all_goals go_wp2_with fail
  refine (set_any h.drew _ _).mono ?_
  rintro e w1 ⟨rfl, h1⟩
  clear c_a c_p
  have c_a := h1.c.ca; obtain ⟨l_a, u_a⟩ := h1.c.ra
  go_wp2_with fail
  go_region_with (first | (go_at_call 282; refine (set_any h1.drew _ _).mono ?_; rintro e w2 ⟨rfl, h2⟩))
  all_goals go_wp2_with fail
  refine (loadA_any h2 _ (by first | exact ⟨by assumption, by assumption⟩ | exact bit_r _ _ _ | exact wr_r _ | omega)).mono ?_
  rintro e w3 ⟨rfl, h3⟩
  go_wp2
  go_end0
  exact ⟨rfl, h3.eq (by rfl)⟩

end Go.Proofs.YtcgjliflnnklnaaGreat
