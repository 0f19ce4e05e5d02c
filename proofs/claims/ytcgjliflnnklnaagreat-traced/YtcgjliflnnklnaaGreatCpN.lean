/-
  The computer's instructions, walked: the rest.
-/
import Derived.Test.YtcgjliflnnklnaaGreatCpI
namespace Go.Proofs.YtcgjliflnnklnaaGreat
open Go.RowKit

set_option maxRecDepth 100000 in
set_option maxHeartbeats 1000000 in
theorem bit_any {B : Nat} {s : PC} {w0 w : World} (h : Tn B s w0 w) :
    Calls Tryz.prog 226 #[.pointer (some ⟨B, 0, none⟩)] w fun e w' => e = .returned (.tuple #[]) ∧ Tn B (s.doIns 11) w0 w' := by
  have c_a := h.c.ca; obtain ⟨l_a, u_a⟩ := h.c.ra; have c_data := h.c.cdata; obtain ⟨l_data, u_data⟩ := h.c.rdata
  go_enter Tryz.func226, Tryz.ntmps226
  go_wp2
  go_region_held3 (fun w' => w'.cell? ⟨B, 65539, none⟩ = some (.int .u8 s.a) ∧ w'.cell? ⟨B, 65557, none⟩ = some (.int .u8 s.data)) (go_keep) (first | (go_at_call 282; refine (set_any h.drew _ _).mono ?_; rintro e w1 ⟨rfl, h1⟩; have k_a := h1.c.ca; have k_d := h1.c.cdata; simp only [PC.setF] at k_a k_d))
  clear c_data c_a
  have c_data := h1.c.cdata; obtain ⟨l_data, u_data⟩ := h1.c.rdata
  go_wp2_with fail
  go_region_with (first | (go_at_call 282; refine (set_any h1.drew _ _).mono ?_; rintro e w2 ⟨rfl, h2⟩))
  clear c_data
  have c_data := h2.c.cdata; obtain ⟨l_data, u_data⟩ := h2.c.rdata
  go_wp2_with fail
  go_region_with (first | (go_at_call 282; refine (set_any h2.drew _ _).mono ?_; rintro e w3 ⟨rfl, h3⟩))
  all_goals go_wp2
  all_goals go_end0
  all_goals exact ⟨rfl, h3.eq (by rfl)⟩

set_option maxRecDepth 100000 in
set_option maxHeartbeats 1000000 in
theorem bcc_any {B : Nat} {s : PC} {w0 w : World} (h : Tn B s w0 w) :
    Calls Tryz.prog 218 #[.pointer (some ⟨B, 0, none⟩)] w fun e w' => e = .returned (.tuple #[]) ∧ Tn B (s.doIns 3) w0 w' := by
  have c_taken := h.c.ctaken
  have f_taken := h.c.free 65558
  go_enter Tryz.func218, Tryz.ntmps218
  go_wp2_with (first | (go_at_call 105; refine (has_any h _).mono ?_; rintro e w' ⟨rfl, rfl⟩))
  go_end0
  refine ⟨rfl, ?_⟩
  apply Tn.eq
  · repeat (first | with_reducible exact h | with_reducible apply Tn.drew | with_reducible apply Tn.alloc | with_reducible apply Tn.setTaken)
  · rfl

set_option maxRecDepth 100000 in
set_option maxHeartbeats 1000000 in
theorem bcs_any {B : Nat} {s : PC} {w0 w : World} (h : Tn B s w0 w) :
    Calls Tryz.prog 219 #[.pointer (some ⟨B, 0, none⟩)] w fun e w' => e = .returned (.tuple #[]) ∧ Tn B (s.doIns 4) w0 w' := by
  have c_taken := h.c.ctaken
  have f_taken := h.c.free 65558
  go_enter Tryz.func219, Tryz.ntmps219
  go_wp2_with (first | (go_at_call 105; refine (has_any h _).mono ?_; rintro e w' ⟨rfl, rfl⟩))
  go_end0
  refine ⟨rfl, ?_⟩
  apply Tn.eq
  · repeat (first | with_reducible exact h | with_reducible apply Tn.drew | with_reducible apply Tn.alloc | with_reducible apply Tn.setTaken)
  · rfl

set_option maxRecDepth 100000 in
set_option maxHeartbeats 1000000 in
theorem beq_any {B : Nat} {s : PC} {w0 w : World} (h : Tn B s w0 w) :
    Calls Tryz.prog 220 #[.pointer (some ⟨B, 0, none⟩)] w fun e w' => e = .returned (.tuple #[]) ∧ Tn B (s.doIns 5) w0 w' := by
  have c_taken := h.c.ctaken
  have f_taken := h.c.free 65558
  go_enter Tryz.func220, Tryz.ntmps220
  go_wp2_with (first | (go_at_call 105; refine (has_any h _).mono ?_; rintro e w' ⟨rfl, rfl⟩))
  go_end0
  refine ⟨rfl, ?_⟩
  apply Tn.eq
  · repeat (first | with_reducible exact h | with_reducible apply Tn.drew | with_reducible apply Tn.alloc | with_reducible apply Tn.setTaken)
  · rfl

set_option maxRecDepth 100000 in
set_option maxHeartbeats 1000000 in
theorem bmi_any {B : Nat} {s : PC} {w0 w : World} (h : Tn B s w0 w) :
    Calls Tryz.prog 221 #[.pointer (some ⟨B, 0, none⟩)] w fun e w' => e = .returned (.tuple #[]) ∧ Tn B (s.doIns 6) w0 w' := by
  have c_taken := h.c.ctaken
  have f_taken := h.c.free 65558
  go_enter Tryz.func221, Tryz.ntmps221
  go_wp2_with (first | (go_at_call 105; refine (has_any h _).mono ?_; rintro e w' ⟨rfl, rfl⟩))
  go_end0
  refine ⟨rfl, ?_⟩
  apply Tn.eq
  · repeat (first | with_reducible exact h | with_reducible apply Tn.drew | with_reducible apply Tn.alloc | with_reducible apply Tn.setTaken)
  · rfl

set_option maxRecDepth 100000 in
set_option maxHeartbeats 1000000 in
theorem bne_any {B : Nat} {s : PC} {w0 w : World} (h : Tn B s w0 w) :
    Calls Tryz.prog 222 #[.pointer (some ⟨B, 0, none⟩)] w fun e w' => e = .returned (.tuple #[]) ∧ Tn B (s.doIns 7) w0 w' := by
  have c_taken := h.c.ctaken
  have f_taken := h.c.free 65558
  go_enter Tryz.func222, Tryz.ntmps222
  go_wp2_with (first | (go_at_call 105; refine (has_any h _).mono ?_; rintro e w' ⟨rfl, rfl⟩))
  go_end0
  refine ⟨rfl, ?_⟩
  apply Tn.eq
  · repeat (first | with_reducible exact h | with_reducible apply Tn.drew | with_reducible apply Tn.alloc | with_reducible apply Tn.setTaken)
  · rfl

set_option maxRecDepth 100000 in
set_option maxHeartbeats 1000000 in
theorem bpl_any {B : Nat} {s : PC} {w0 w : World} (h : Tn B s w0 w) :
    Calls Tryz.prog 223 #[.pointer (some ⟨B, 0, none⟩)] w fun e w' => e = .returned (.tuple #[]) ∧ Tn B (s.doIns 8) w0 w' := by
  have c_taken := h.c.ctaken
  have f_taken := h.c.free 65558
  go_enter Tryz.func223, Tryz.ntmps223
  go_wp2_with (first | (go_at_call 105; refine (has_any h _).mono ?_; rintro e w' ⟨rfl, rfl⟩))
  go_end0
  refine ⟨rfl, ?_⟩
  apply Tn.eq
  · repeat (first | with_reducible exact h | with_reducible apply Tn.drew | with_reducible apply Tn.alloc | with_reducible apply Tn.setTaken)
  · rfl

set_option maxRecDepth 100000 in
set_option maxHeartbeats 1000000 in
theorem bvc_any {B : Nat} {s : PC} {w0 w : World} (h : Tn B s w0 w) :
    Calls Tryz.prog 224 #[.pointer (some ⟨B, 0, none⟩)] w fun e w' => e = .returned (.tuple #[]) ∧ Tn B (s.doIns 9) w0 w' := by
  have c_taken := h.c.ctaken
  have f_taken := h.c.free 65558
  go_enter Tryz.func224, Tryz.ntmps224
  go_wp2_with (first | (go_at_call 105; refine (has_any h _).mono ?_; rintro e w' ⟨rfl, rfl⟩))
  go_end0
  refine ⟨rfl, ?_⟩
  apply Tn.eq
  · repeat (first | with_reducible exact h | with_reducible apply Tn.drew | with_reducible apply Tn.alloc | with_reducible apply Tn.setTaken)
  · rfl

set_option maxRecDepth 100000 in
set_option maxHeartbeats 1000000 in
theorem bvs_any {B : Nat} {s : PC} {w0 w : World} (h : Tn B s w0 w) :
    Calls Tryz.prog 225 #[.pointer (some ⟨B, 0, none⟩)] w fun e w' => e = .returned (.tuple #[]) ∧ Tn B (s.doIns 10) w0 w' := by
  have c_taken := h.c.ctaken
  have f_taken := h.c.free 65558
  go_enter Tryz.func225, Tryz.ntmps225
  go_wp2_with (first | (go_at_call 105; refine (has_any h _).mono ?_; rintro e w' ⟨rfl, rfl⟩))
  go_end0
  refine ⟨rfl, ?_⟩
  apply Tn.eq
  · repeat (first | with_reducible exact h | with_reducible apply Tn.drew | with_reducible apply Tn.alloc | with_reducible apply Tn.setTaken)
  · rfl

set_option maxRecDepth 100000 in
set_option maxHeartbeats 1000000 in
theorem plp_any {B : Nat} {s : PC} {w0 w : World} (h : Tn B s w0 w) :
    Calls Tryz.prog 253 #[.pointer (some ⟨B, 0, none⟩)] w fun e w' => e = .returned (.tuple #[]) ∧ Tn B (s.doIns 38) w0 w' := by
  have c_data := h.c.cdata; obtain ⟨l_data, u_data⟩ := h.c.rdata
  go_enter Tryz.func253, Tryz.ntmps253
  go_wp2
  go_region_with (first | (go_at_call 285; refine (setP_any h.drew _).mono ?_; rintro e w1 ⟨rfl, h1⟩))
  all_goals go_wp2
  all_goals go_end0
  all_goals exact ⟨rfl, h1.eq (by rfl)⟩

set_option maxRecDepth 100000 in
set_option maxHeartbeats 1000000 in
theorem rti_any {B : Nat} {s : PC} {w0 w : World} (h : Tn B s w0 w) :
    Calls Tryz.prog 256 #[.pointer (some ⟨B, 0, none⟩)] w fun e w' => e = .returned (.tuple #[]) ∧ Tn B (s.doIns 41) w0 w' := by
  have c_data := h.c.cdata; obtain ⟨l_data, u_data⟩ := h.c.rdata
  go_enter Tryz.func256, Tryz.ntmps256
  go_wp2
  go_region_with (first | (go_at_call 285; refine (setP_any h.drew _).mono ?_; rintro e w1 ⟨rfl, h1⟩))
  have c_ad := h1.c.cad; obtain ⟨l_ad, u_ad⟩ := h1.c.rad; have c_pc := h1.c.cpc; obtain ⟨l_pc, u_pc⟩ := h1.c.rpc
  have f_pc := h1.c.free 65544
  all_goals go_wp2
  all_goals go_end0
  refine ⟨rfl, ?_⟩
  apply Tn.eq
  · repeat (first | with_reducible exact h1 | with_reducible apply Tn.drew | with_reducible apply Tn.alloc | (with_reducible apply Tn.setPc; case hv => (first | assumption | exact ⟨by assumption, by assumption⟩ | exact wr_r _ | exact wr16_r _ | omega | exact bit_r _ _ _ | exact nz_r _ _ | exact setf_r _ _ _ | exact setp_r _ | (unfold loI; omega) | (simp only [joinI, loI, hiI, withinI]; omega))))
  · rfl

set_option maxRecDepth 100000 in
set_option maxHeartbeats 1000000 in
theorem brk_any {B : Nat} {s : PC} {w0 w : World} (h : Tn B s w0 w) :
    Calls Tryz.prog 227 #[.pointer (some ⟨B, 0, none⟩)] w fun e w' => e = .returned (.tuple #[]) ∧ Tn B (s.doIns 12) w0 w' := by
  go_enter Tryz.func227, Tryz.ntmps227
  go_wp2_with fail
  refine (set_any h _ _).mono ?_
  rintro e w1 ⟨rfl, h1⟩
  have c_ad := h1.c.cad; obtain ⟨l_ad, u_ad⟩ := h1.c.rad; have c_pc := h1.c.cpc; obtain ⟨l_pc, u_pc⟩ := h1.c.rpc
  have f_pc := h1.c.free 65544
  go_wp2
  go_end0
  refine ⟨rfl, ?_⟩
  apply Tn.eq
  · repeat (first | with_reducible exact h1 | with_reducible apply Tn.drew | with_reducible apply Tn.alloc | (with_reducible apply Tn.setPc; case hv => (first | assumption | exact ⟨by assumption, by assumption⟩ | exact wr_r _ | exact wr16_r _ | omega | exact bit_r _ _ _ | exact nz_r _ _ | exact setf_r _ _ _ | exact setp_r _ | (unfold loI; omega) | (simp only [joinI, loI, hiI, withinI]; omega))))
  · rfl

end Go.Proofs.YtcgjliflnnklnaaGreat
