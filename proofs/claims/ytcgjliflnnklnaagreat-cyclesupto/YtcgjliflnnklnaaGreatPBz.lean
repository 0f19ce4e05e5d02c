/-
  Joined texts.
-/
import Derived.Test.YtcgjliflnnklnaaGreatJ09
namespace Go.Proofs.YtcgjliflnnklnaaGreat
open Go.RowKit
set_option maxRecDepth 100000
set_option maxHeartbeats 1000000

/-
  The computer's instructions, walked: sums, shifts, branches.
-/
section
theorem add_any {B : Nat} {s : PC} {w0 w : World} (h : Tn B s w0 w) (m : Int) (hm : 0 ≤ m ∧ m < 256) :
    Calls Tryz.prog 279 #[.pointer (some ⟨B, 0, none⟩), .int .u8 m] w fun e w' => e = .returned (.tuple #[]) ∧ Tn B (s.add m) w0 w' := by
  have c_a := h.c.ca; obtain ⟨l_a, u_a⟩ := h.c.ra; have c_p := h.c.cp; obtain ⟨l_p, u_p⟩ := h.c.rp
  go_enter Tryz.func279, Tryz.ntmps279
  obtain ⟨m1, m2⟩ := hm
  obtain ⟨b1, b2⟩ := bit_r .and s.p 1
  go_wp2
  go_region_held3 (fun w' => w'.cell? ⟨B, 65539, none⟩ = some (.int .u8 s.a) ∧ w'.cell? ⟨B, 65543, none⟩ = some (.int .u8 s.p)) (go_keep) (fail)
  all_goals go_wp2_with fail
  refine (set_any h.drew _ _).mono ?_
  rintro e w1 ⟨rfl, h1⟩
  clear c_a c_p
  have c_a := h1.c.ca; obtain ⟨l_a, u_a⟩ := h1.c.ra
  go_wp2_with fail
  go_region_with (first | (go_at_call 282; refine (set_any h1.drew _ _).mono ?_; rintro e w2 ⟨rfl, h2⟩))
  all_goals go_wp2_with fail
  refine (loadA_any h2 _ (by first | exact ⟨by assumption, by assumption⟩ | exact bit_r _ _ _ | exact wr_r _ | omega)).mono ?_
  rintro e w3 ⟨rfl, h3⟩
  go_wp2
  go_end0
  exact ⟨rfl, h3.eq (by rfl)⟩
end

/-
  The computer's instructions, walked: sums and shifts.
-/
section
theorem adc_any {B : Nat} {s : PC} {w0 w : World} (h : Tn B s w0 w) :
    Calls Tryz.prog 215 #[.pointer (some ⟨B, 0, none⟩)] w fun e w' => e = .returned (.tuple #[]) ∧ Tn B (s.doIns 0) w0 w' := by
  have c_data := h.c.cdata; obtain ⟨l_data, u_data⟩ := h.c.rdata
  go_enter Tryz.func215, Tryz.ntmps215
  go_wp2_with fail
  refine (add_any h _ (by first | exact ⟨by assumption, by assumption⟩ | exact bit_r _ _ _ | exact wr_r _ | omega)).mono ?_
  rintro e w1 ⟨rfl, h1⟩
  go_wp2
  go_end0
  exact ⟨rfl, h1.eq (by rfl)⟩

theorem sbc_any {B : Nat} {s : PC} {w0 w : World} (h : Tn B s w0 w) :
    Calls Tryz.prog 258 #[.pointer (some ⟨B, 0, none⟩)] w fun e w' => e = .returned (.tuple #[]) ∧ Tn B (s.doIns 43) w0 w' := by
  have c_data := h.c.cdata; obtain ⟨l_data, u_data⟩ := h.c.rdata
  go_enter Tryz.func258, Tryz.ntmps258
  go_wp2_with fail
  refine (add_any h _ (by first | exact ⟨by assumption, by assumption⟩ | exact bit_r _ _ _ | exact wr_r _ | omega)).mono ?_
  rintro e w1 ⟨rfl, h1⟩
  go_wp2
  go_end0
  exact ⟨rfl, h1.eq (by rfl)⟩

theorem compare_any {B : Nat} {s : PC} {w0 w : World} (h : Tn B s w0 w) (r : Int) (hr : 0 ≤ r ∧ r < 256) :
    Calls Tryz.prog 283 #[.pointer (some ⟨B, 0, none⟩), .int .u8 r] w fun e w' => e = .returned (.tuple #[]) ∧ Tn B (s.compare r) w0 w' := by
  have c_data := h.c.cdata; obtain ⟨l_data, u_data⟩ := h.c.rdata
  go_enter Tryz.func283, Tryz.ntmps283
  obtain ⟨m1, m2⟩ := hr
  go_wp2
  go_region_with (first | (go_at_call 282; refine (set_any h.drew _ _).mono ?_; rintro e w1 ⟨rfl, h1⟩))
  clear c_data
  have c_data := h1.c.cdata; obtain ⟨l_data, u_data⟩ := h1.c.rdata
  go_wp2_with fail
  go_region_with (first | (go_at_call 290; refine (setNZ_any h1.drew _).mono ?_; rintro e w2 ⟨rfl, h2⟩))
  all_goals go_wp2
  all_goals go_end0
  all_goals exact ⟨rfl, h2.eq (by rfl)⟩

theorem cmp_any {B : Nat} {s : PC} {w0 w : World} (h : Tn B s w0 w) :
    Calls Tryz.prog 232 #[.pointer (some ⟨B, 0, none⟩)] w fun e w' => e = .returned (.tuple #[]) ∧ Tn B (s.doIns 17) w0 w' := by
  have c_a := h.c.ca; obtain ⟨l_a, u_a⟩ := h.c.ra
  go_enter Tryz.func232, Tryz.ntmps232
  go_wp2_with fail
  refine (compare_any h _ (by first | exact ⟨by assumption, by assumption⟩ | exact bit_r _ _ _ | exact wr_r _ | omega)).mono ?_
  rintro e w1 ⟨rfl, h1⟩
  go_wp2
  go_end0
  exact ⟨rfl, h1.eq (by rfl)⟩

theorem cpx_any {B : Nat} {s : PC} {w0 w : World} (h : Tn B s w0 w) :
    Calls Tryz.prog 233 #[.pointer (some ⟨B, 0, none⟩)] w fun e w' => e = .returned (.tuple #[]) ∧ Tn B (s.doIns 18) w0 w' := by
  have c_x := h.c.cx; obtain ⟨l_x, u_x⟩ := h.c.rx
  go_enter Tryz.func233, Tryz.ntmps233
  go_wp2_with fail
  refine (compare_any h _ (by first | exact ⟨by assumption, by assumption⟩ | exact bit_r _ _ _ | exact wr_r _ | omega)).mono ?_
  rintro e w1 ⟨rfl, h1⟩
  go_wp2
  go_end0
  exact ⟨rfl, h1.eq (by rfl)⟩

theorem cpy_any {B : Nat} {s : PC} {w0 w : World} (h : Tn B s w0 w) :
    Calls Tryz.prog 234 #[.pointer (some ⟨B, 0, none⟩)] w fun e w' => e = .returned (.tuple #[]) ∧ Tn B (s.doIns 19) w0 w' := by
  have c_y := h.c.cy; obtain ⟨l_y, u_y⟩ := h.c.ry
  go_enter Tryz.func234, Tryz.ntmps234
  go_wp2_with fail
  refine (compare_any h _ (by first | exact ⟨by assumption, by assumption⟩ | exact bit_r _ _ _ | exact wr_r _ | omega)).mono ?_
  rintro e w1 ⟨rfl, h1⟩
  go_wp2
  go_end0
  exact ⟨rfl, h1.eq (by rfl)⟩

theorem shiftLeft_any {B : Nat} {s : PC} {w0 w : World} (h : Tn B s w0 w) (i : Int) (hi : 0 ≤ i ∧ i < 256) :
    Calls Tryz.prog 281 #[.pointer (some ⟨B, 0, none⟩), .int .u8 i] w fun e w' => e = .returned (.tuple #[]) ∧ Tn B (s.shl i) w0 w' := by
  have c_data := h.c.cdata; obtain ⟨l_data, u_data⟩ := h.c.rdata
  go_enter Tryz.func281, Tryz.ntmps281
  obtain ⟨m1, m2⟩ := hi
  go_wp2
  go_region_with (first | (go_at_call 282; refine (set_any h.drew _ _).mono ?_; rintro e w1 ⟨rfl, h1⟩))
  clear c_data
  have c_data := h1.c.cdata; obtain ⟨l_data, u_data⟩ := h1.c.rdata
  go_wp2_with fail
  go_region_with (first | (go_at_call 280; refine (loadD_any h1.drew _ (by first | exact ⟨by assumption, by assumption⟩ | exact bit_r _ _ _ | exact wr_r _ | omega)).mono ?_; rintro e w2 ⟨rfl, h2⟩))
  all_goals go_wp2
  all_goals go_end0
  all_goals exact ⟨rfl, h2.eq (by rfl)⟩

theorem shiftRight_any {B : Nat} {s : PC} {w0 w : World} (h : Tn B s w0 w) (i : Int) (hi : 0 ≤ i ∧ i < 256) :
    Calls Tryz.prog 284 #[.pointer (some ⟨B, 0, none⟩), .int .u8 i] w fun e w' => e = .returned (.tuple #[]) ∧ Tn B (s.shr i) w0 w' := by
  have c_data := h.c.cdata; obtain ⟨l_data, u_data⟩ := h.c.rdata
  go_enter Tryz.func284, Tryz.ntmps284
  obtain ⟨m1, m2⟩ := hi
  go_wp2
  go_region_with (first | (go_at_call 282; refine (set_any h.drew _ _).mono ?_; rintro e w1 ⟨rfl, h1⟩))
  clear c_data
  have c_data := h1.c.cdata; obtain ⟨l_data, u_data⟩ := h1.c.rdata
  go_wp2_with fail
  go_region_with (first | (go_at_call 280; refine (loadD_any h1.drew _ (by first | exact ⟨by assumption, by assumption⟩ | exact bit_r _ _ _ | exact wr_r _ | omega)).mono ?_; rintro e w2 ⟨rfl, h2⟩))
  all_goals go_wp2
  all_goals go_end0
  all_goals exact ⟨rfl, h2.eq (by rfl)⟩

theorem asl_any {B : Nat} {s : PC} {w0 w : World} (h : Tn B s w0 w) :
    Calls Tryz.prog 217 #[.pointer (some ⟨B, 0, none⟩)] w fun e w' => e = .returned (.tuple #[]) ∧ Tn B (s.doIns 2) w0 w' := by
  go_enter Tryz.func217, Tryz.ntmps217
  go_wp2_with fail
  refine (shiftLeft_any h _ (by omega)).mono ?_
  rintro e w1 ⟨rfl, h1⟩
  go_wp2
  go_end0
  exact ⟨rfl, h1.eq (by rfl)⟩

theorem lsr_any {B : Nat} {s : PC} {w0 w : World} (h : Tn B s w0 w) :
    Calls Tryz.prog 247 #[.pointer (some ⟨B, 0, none⟩)] w fun e w' => e = .returned (.tuple #[]) ∧ Tn B (s.doIns 32) w0 w' := by
  go_enter Tryz.func247, Tryz.ntmps247
  go_wp2_with fail
  refine (shiftRight_any h _ (by omega)).mono ?_
  rintro e w1 ⟨rfl, h1⟩
  go_wp2
  go_end0
  exact ⟨rfl, h1.eq (by rfl)⟩

theorem rol_any {B : Nat} {s : PC} {w0 w : World} (h : Tn B s w0 w) :
    Calls Tryz.prog 254 #[.pointer (some ⟨B, 0, none⟩)] w fun e w' => e = .returned (.tuple #[]) ∧ Tn B (s.doIns 39) w0 w' := by
  have c_p := h.c.cp; obtain ⟨l_p, u_p⟩ := h.c.rp
  go_enter Tryz.func254, Tryz.ntmps254
  go_wp2_with fail
  refine (shiftLeft_any h _ (by first | exact ⟨by assumption, by assumption⟩ | exact bit_r _ _ _ | exact wr_r _ | omega)).mono ?_
  rintro e w1 ⟨rfl, h1⟩
  go_wp2
  go_end0
  exact ⟨rfl, h1.eq (by rfl)⟩

theorem ror_any {B : Nat} {s : PC} {w0 w : World} (h : Tn B s w0 w) :
    Calls Tryz.prog 255 #[.pointer (some ⟨B, 0, none⟩)] w fun e w' => e = .returned (.tuple #[]) ∧ Tn B (s.doIns 40) w0 w' := by
  have c_p := h.c.cp; obtain ⟨l_p, u_p⟩ := h.c.rp
  go_enter Tryz.func255, Tryz.ntmps255
  go_wp2_with fail
  refine (shiftRight_any h _ (by first | exact ⟨by assumption, by assumption⟩ | exact bit_r _ _ _ | exact wr_r _ | omega)).mono ?_
  rintro e w1 ⟨rfl, h1⟩
  go_wp2
  go_end0
  exact ⟨rfl, h1.eq (by rfl)⟩
end

/-
  The computer's instructions, walked: the rest.
-/
section
theorem bit_any {B : Nat} {s : PC} {w0 w : World} (h : Tn B s w0 w) :
    Calls Tryz.prog 226 #[.pointer (some ⟨B, 0, none⟩)] w fun e w' => e = .returned (.tuple #[]) ∧ Tn B (s.doIns 11) w0 w' := by
  have c_a := h.c.ca; obtain ⟨l_a, u_a⟩ := h.c.ra; have c_data := h.c.cdata; obtain ⟨l_data, u_data⟩ := h.c.rdata
  go_enter Tryz.func226, Tryz.ntmps226
  go_wp2
  go_region_held3 (fun w' => w'.cell? ⟨B, 65539, none⟩ = some (.int .u8 s.a) ∧ w'.cell? ⟨B, 65557, none⟩ = some (.int .u8 s.data)) (go_keep) (first | (go_at_call 282; refine (set_any h.drew _ _).mono ?_; rintro e w1 ⟨rfl, h1⟩; have k_a := h1.c.ca; have k_d := h1.c.cdata; simp only [PC.setF] at k_a k_d))
  clear c_data c_a
  have c_data := h1.c.cdata; obtain ⟨l_data, u_data⟩ := h1.c.rdata
  go_wp2_with fail
  go_region_with (first | (go_at_call 282; refine (set_any h1.drew _ _).mono ?_; rintro e w2 ⟨rfl, h2⟩))
  clear c_data
  have c_data := h2.c.cdata; obtain ⟨l_data, u_data⟩ := h2.c.rdata
  go_wp2_with fail
  go_region_with (first | (go_at_call 282; refine (set_any h2.drew _ _).mono ?_; rintro e w3 ⟨rfl, h3⟩))
  all_goals go_wp2
  all_goals go_end0
  all_goals exact ⟨rfl, h3.eq (by rfl)⟩

theorem bcc_any {B : Nat} {s : PC} {w0 w : World} (h : Tn B s w0 w) :
    Calls Tryz.prog 218 #[.pointer (some ⟨B, 0, none⟩)] w fun e w' => e = .returned (.tuple #[]) ∧ Tn B (s.doIns 3) w0 w' := by
  have c_taken := h.c.ctaken
  have f_taken := h.c.free 65558
  go_enter Tryz.func218, Tryz.ntmps218
  go_wp2_with (first | (go_at_call 105; refine (has_any h _).mono ?_; rintro e w' ⟨rfl, rfl⟩))
  go_end0
  refine ⟨rfl, ?_⟩
  apply Tn.eq
  · repeat (first | with_reducible exact h | with_reducible apply Tn.drew | with_reducible apply Tn.alloc | with_reducible apply Tn.setTaken)
  · rfl

theorem bcs_any {B : Nat} {s : PC} {w0 w : World} (h : Tn B s w0 w) :
    Calls Tryz.prog 219 #[.pointer (some ⟨B, 0, none⟩)] w fun e w' => e = .returned (.tuple #[]) ∧ Tn B (s.doIns 4) w0 w' := by
  have c_taken := h.c.ctaken
  have f_taken := h.c.free 65558
  go_enter Tryz.func219, Tryz.ntmps219
  go_wp2_with (first | (go_at_call 105; refine (has_any h _).mono ?_; rintro e w' ⟨rfl, rfl⟩))
  go_end0
  refine ⟨rfl, ?_⟩
  apply Tn.eq
  · repeat (first | with_reducible exact h | with_reducible apply Tn.drew | with_reducible apply Tn.alloc | with_reducible apply Tn.setTaken)
  · rfl

theorem beq_any {B : Nat} {s : PC} {w0 w : World} (h : Tn B s w0 w) :
    Calls Tryz.prog 220 #[.pointer (some ⟨B, 0, none⟩)] w fun e w' => e = .returned (.tuple #[]) ∧ Tn B (s.doIns 5) w0 w' := by
  have c_taken := h.c.ctaken
  have f_taken := h.c.free 65558
  go_enter Tryz.func220, Tryz.ntmps220
  go_wp2_with (first | (go_at_call 105; refine (has_any h _).mono ?_; rintro e w' ⟨rfl, rfl⟩))
  go_end0
  refine ⟨rfl, ?_⟩
  apply Tn.eq
  · repeat (first | with_reducible exact h | with_reducible apply Tn.drew | with_reducible apply Tn.alloc | with_reducible apply Tn.setTaken)
  · rfl

theorem bmi_any {B : Nat} {s : PC} {w0 w : World} (h : Tn B s w0 w) :
    Calls Tryz.prog 221 #[.pointer (some ⟨B, 0, none⟩)] w fun e w' => e = .returned (.tuple #[]) ∧ Tn B (s.doIns 6) w0 w' := by
  have c_taken := h.c.ctaken
  have f_taken := h.c.free 65558
  go_enter Tryz.func221, Tryz.ntmps221
  go_wp2_with (first | (go_at_call 105; refine (has_any h _).mono ?_; rintro e w' ⟨rfl, rfl⟩))
  go_end0
  refine ⟨rfl, ?_⟩
  apply Tn.eq
  · repeat (first | with_reducible exact h | with_reducible apply Tn.drew | with_reducible apply Tn.alloc | with_reducible apply Tn.setTaken)
  · rfl

theorem bne_any {B : Nat} {s : PC} {w0 w : World} (h : Tn B s w0 w) :
    Calls Tryz.prog 222 #[.pointer (some ⟨B, 0, none⟩)] w fun e w' => e = .returned (.tuple #[]) ∧ Tn B (s.doIns 7) w0 w' := by
  have c_taken := h.c.ctaken
  have f_taken := h.c.free 65558
  go_enter Tryz.func222, Tryz.ntmps222
  go_wp2_with (first | (go_at_call 105; refine (has_any h _).mono ?_; rintro e w' ⟨rfl, rfl⟩))
  go_end0
  refine ⟨rfl, ?_⟩
  apply Tn.eq
  · repeat (first | with_reducible exact h | with_reducible apply Tn.drew | with_reducible apply Tn.alloc | with_reducible apply Tn.setTaken)
  · rfl

theorem bpl_any {B : Nat} {s : PC} {w0 w : World} (h : Tn B s w0 w) :
    Calls Tryz.prog 223 #[.pointer (some ⟨B, 0, none⟩)] w fun e w' => e = .returned (.tuple #[]) ∧ Tn B (s.doIns 8) w0 w' := by
  have c_taken := h.c.ctaken
  have f_taken := h.c.free 65558
  go_enter Tryz.func223, Tryz.ntmps223
  go_wp2_with (first | (go_at_call 105; refine (has_any h _).mono ?_; rintro e w' ⟨rfl, rfl⟩))
  go_end0
  refine ⟨rfl, ?_⟩
  apply Tn.eq
  · repeat (first | with_reducible exact h | with_reducible apply Tn.drew | with_reducible apply Tn.alloc | with_reducible apply Tn.setTaken)
  · rfl

theorem bvc_any {B : Nat} {s : PC} {w0 w : World} (h : Tn B s w0 w) :
    Calls Tryz.prog 224 #[.pointer (some ⟨B, 0, none⟩)] w fun e w' => e = .returned (.tuple #[]) ∧ Tn B (s.doIns 9) w0 w' := by
  have c_taken := h.c.ctaken
  have f_taken := h.c.free 65558
  go_enter Tryz.func224, Tryz.ntmps224
  go_wp2_with (first | (go_at_call 105; refine (has_any h _).mono ?_; rintro e w' ⟨rfl, rfl⟩))
  go_end0
  refine ⟨rfl, ?_⟩
  apply Tn.eq
  · repeat (first | with_reducible exact h | with_reducible apply Tn.drew | with_reducible apply Tn.alloc | with_reducible apply Tn.setTaken)
  · rfl

theorem bvs_any {B : Nat} {s : PC} {w0 w : World} (h : Tn B s w0 w) :
    Calls Tryz.prog 225 #[.pointer (some ⟨B, 0, none⟩)] w fun e w' => e = .returned (.tuple #[]) ∧ Tn B (s.doIns 10) w0 w' := by
  have c_taken := h.c.ctaken
  have f_taken := h.c.free 65558
  go_enter Tryz.func225, Tryz.ntmps225
  go_wp2_with (first | (go_at_call 105; refine (has_any h _).mono ?_; rintro e w' ⟨rfl, rfl⟩))
  go_end0
  refine ⟨rfl, ?_⟩
  apply Tn.eq
  · repeat (first | with_reducible exact h | with_reducible apply Tn.drew | with_reducible apply Tn.alloc | with_reducible apply Tn.setTaken)
  · rfl

theorem plp_any {B : Nat} {s : PC} {w0 w : World} (h : Tn B s w0 w) :
    Calls Tryz.prog 253 #[.pointer (some ⟨B, 0, none⟩)] w fun e w' => e = .returned (.tuple #[]) ∧ Tn B (s.doIns 38) w0 w' := by
  have c_data := h.c.cdata; obtain ⟨l_data, u_data⟩ := h.c.rdata
  go_enter Tryz.func253, Tryz.ntmps253
  go_wp2
  go_region_with (first | (go_at_call 285; refine (setP_any h.drew _).mono ?_; rintro e w1 ⟨rfl, h1⟩))
  all_goals go_wp2
  all_goals go_end0
  all_goals exact ⟨rfl, h1.eq (by rfl)⟩

theorem rti_any {B : Nat} {s : PC} {w0 w : World} (h : Tn B s w0 w) :
    Calls Tryz.prog 256 #[.pointer (some ⟨B, 0, none⟩)] w fun e w' => e = .returned (.tuple #[]) ∧ Tn B (s.doIns 41) w0 w' := by
  have c_data := h.c.cdata; obtain ⟨l_data, u_data⟩ := h.c.rdata
  go_enter Tryz.func256, Tryz.ntmps256
  go_wp2
  go_region_with (first | (go_at_call 285; refine (setP_any h.drew _).mono ?_; rintro e w1 ⟨rfl, h1⟩))
  have c_ad := h1.c.cad; obtain ⟨l_ad, u_ad⟩ := h1.c.rad; have c_pc := h1.c.cpc; obtain ⟨l_pc, u_pc⟩ := h1.c.rpc
  have f_pc := h1.c.free 65544
  all_goals go_wp2
  all_goals go_end0
  refine ⟨rfl, ?_⟩
  apply Tn.eq
  · repeat (first | with_reducible exact h1 | with_reducible apply Tn.drew | with_reducible apply Tn.alloc | (with_reducible apply Tn.setPc; case hv => (first | assumption | exact ⟨by assumption, by assumption⟩ | exact wr_r _ | exact wr16_r _ | omega | exact bit_r _ _ _ | exact nz_r _ _ | exact setf_r _ _ _ | exact setp_r _ | (unfold loI; omega) | (simp only [joinI, loI, hiI, withinI]; omega))))
  · rfl

theorem brk_any {B : Nat} {s : PC} {w0 w : World} (h : Tn B s w0 w) :
    Calls Tryz.prog 227 #[.pointer (some ⟨B, 0, none⟩)] w fun e w' => e = .returned (.tuple #[]) ∧ Tn B (s.doIns 12) w0 w' := by
  go_enter Tryz.func227, Tryz.ntmps227
  go_wp2_with fail
  refine (set_any h _ _).mono ?_
  rintro e w1 ⟨rfl, h1⟩
  have c_ad := h1.c.cad; obtain ⟨l_ad, u_ad⟩ := h1.c.rad; have c_pc := h1.c.cpc; obtain ⟨l_pc, u_pc⟩ := h1.c.rpc
  have f_pc := h1.c.free 65544
  go_wp2
  go_end0
  refine ⟨rfl, ?_⟩
  apply Tn.eq
  · repeat (first | with_reducible exact h1 | with_reducible apply Tn.drew | with_reducible apply Tn.alloc | (with_reducible apply Tn.setPc; case hv => (first | assumption | exact ⟨by assumption, by assumption⟩ | exact wr_r _ | exact wr16_r _ | omega | exact bit_r _ _ _ | exact nz_r _ _ | exact setf_r _ _ _ | exact setp_r _ | (unfold loI; omega) | (simp only [joinI, loI, hiI, withinI]; omega))))
  · rfl
end

end Go.Proofs.YtcgjliflnnklnaaGreat
