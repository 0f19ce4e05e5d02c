/-
  Joined texts.
-/
import Derived.Test.YtcgjliflnnklnabGreatCpI
namespace Go.Proofs.YtcgjliflnnklnabGreat
open Go.RowKit

/-
  The computer's instructions, walked: sums, shifts, branches.
-/
section
set_option maxRecDepth 100000 in
set_option maxHeartbeats 1000000 in
theorem add_any {B : Nat} {s : PC} {w0 w : World} (h : Tn B s w0 w) (m : Int) (hm : 0 ≤ m ∧ m < 256) :
    Calls Tryz.prog 188 #[.pointer (some ⟨B, 0, none⟩), .int .u8 m] w fun e w' => e = .returned (.tuple #[]) ∧ Tn B (s.add m) w0 w' := by
  have c_a := h.c.ca; obtain ⟨l_a, u_a⟩ := h.c.ra; have c_p := h.c.cp; obtain ⟨l_p, u_p⟩ := h.c.rp
  go_enter Tryz.func188, Tryz.ntmps188
  obtain ⟨m1, m2⟩ := hm
  obtain ⟨b1, b2⟩ := bit_r .and s.p 1
  go_wp2
  go_region_held3 (fun w' => w'.cell? ⟨B, 65539, none⟩ = some (.int .u8 s.a) ∧ w'.cell? ⟨B, 65543, none⟩ = some (.int .u8 s.p)) (go_keep) (fail)
  all_goals go_wp2_with fail
  refine (set_any h.drew _ _).mono ?_
  rintro e w1 ⟨rfl, h1⟩
  clear c_a c_p
  have c_a := h1.c.ca; obtain ⟨l_a, u_a⟩ := h1.c.ra
  go_wp2_with fail
  go_region_with (first | (go_at_call 191; refine (set_any h1.drew _ _).mono ?_; rintro e w2 ⟨rfl, h2⟩))
  all_goals go_wp2_with fail
  refine (loadA_any h2 _ (by first | exact ⟨by assumption, by assumption⟩ | exact bit_r _ _ _ | exact wr_r _ | omega)).mono ?_
  rintro e w3 ⟨rfl, h3⟩
  go_wp2
  go_end0
  exact ⟨rfl, h3.eq (by rfl)⟩
end

/-
  The computer's instructions, walked: sums and shifts.
-/
section
set_option maxRecDepth 100000 in
set_option maxHeartbeats 1000000 in
theorem adc_any {B : Nat} {s : PC} {w0 w : World} (h : Tn B s w0 w) :
    Calls Tryz.prog 128 #[.pointer (some ⟨B, 0, none⟩)] w fun e w' => e = .returned (.tuple #[]) ∧ Tn B (s.doIns 0) w0 w' := by
  have c_data := h.c.cdata; obtain ⟨l_data, u_data⟩ := h.c.rdata
  go_enter Tryz.func128, Tryz.ntmps128
  go_wp2_with fail
  refine (add_any h _ (by first | exact ⟨by assumption, by assumption⟩ | exact bit_r _ _ _ | exact wr_r _ | omega)).mono ?_
  rintro e w1 ⟨rfl, h1⟩
  go_wp2
  go_end0
  exact ⟨rfl, h1.eq (by rfl)⟩

set_option maxRecDepth 100000 in
set_option maxHeartbeats 1000000 in
theorem sbc_any {B : Nat} {s : PC} {w0 w : World} (h : Tn B s w0 w) :
    Calls Tryz.prog 171 #[.pointer (some ⟨B, 0, none⟩)] w fun e w' => e = .returned (.tuple #[]) ∧ Tn B (s.doIns 43) w0 w' := by
  have c_data := h.c.cdata; obtain ⟨l_data, u_data⟩ := h.c.rdata
  go_enter Tryz.func171, Tryz.ntmps171
  go_wp2_with fail
  refine (add_any h _ (by first | exact ⟨by assumption, by assumption⟩ | exact bit_r _ _ _ | exact wr_r _ | omega)).mono ?_
  rintro e w1 ⟨rfl, h1⟩
  go_wp2
  go_end0
  exact ⟨rfl, h1.eq (by rfl)⟩

set_option maxRecDepth 100000 in
set_option maxHeartbeats 1000000 in
theorem compare_any {B : Nat} {s : PC} {w0 w : World} (h : Tn B s w0 w) (r : Int) (hr : 0 ≤ r ∧ r < 256) :
    Calls Tryz.prog 192 #[.pointer (some ⟨B, 0, none⟩), .int .u8 r] w fun e w' => e = .returned (.tuple #[]) ∧ Tn B (s.compare r) w0 w' := by
  have c_data := h.c.cdata; obtain ⟨l_data, u_data⟩ := h.c.rdata
  go_enter Tryz.func192, Tryz.ntmps192
  obtain ⟨m1, m2⟩ := hr
  go_wp2
  go_region_with (first | (go_at_call 191; refine (set_any h.drew _ _).mono ?_; rintro e w1 ⟨rfl, h1⟩))
  clear c_data
  have c_data := h1.c.cdata; obtain ⟨l_data, u_data⟩ := h1.c.rdata
  go_wp2_with fail
  go_region_with (first | (go_at_call 195; refine (setNZ_any h1.drew _).mono ?_; rintro e w2 ⟨rfl, h2⟩))
  all_goals go_wp2
  all_goals go_end0
  all_goals exact ⟨rfl, h2.eq (by rfl)⟩

set_option maxRecDepth 100000 in
set_option maxHeartbeats 1000000 in
theorem cmp_any {B : Nat} {s : PC} {w0 w : World} (h : Tn B s w0 w) :
    Calls Tryz.prog 145 #[.pointer (some ⟨B, 0, none⟩)] w fun e w' => e = .returned (.tuple #[]) ∧ Tn B (s.doIns 17) w0 w' := by
  have c_a := h.c.ca; obtain ⟨l_a, u_a⟩ := h.c.ra
  go_enter Tryz.func145, Tryz.ntmps145
  go_wp2_with fail
  refine (compare_any h _ (by first | exact ⟨by assumption, by assumption⟩ | exact bit_r _ _ _ | exact wr_r _ | omega)).mono ?_
  rintro e w1 ⟨rfl, h1⟩
  go_wp2
  go_end0
  exact ⟨rfl, h1.eq (by rfl)⟩

set_option maxRecDepth 100000 in
set_option maxHeartbeats 1000000 in
theorem cpx_any {B : Nat} {s : PC} {w0 w : World} (h : Tn B s w0 w) :
    Calls Tryz.prog 146 #[.pointer (some ⟨B, 0, none⟩)] w fun e w' => e = .returned (.tuple #[]) ∧ Tn B (s.doIns 18) w0 w' := by
  have c_x := h.c.cx; obtain ⟨l_x, u_x⟩ := h.c.rx
  go_enter Tryz.func146, Tryz.ntmps146
  go_wp2_with fail
  refine (compare_any h _ (by first | exact ⟨by assumption, by assumption⟩ | exact bit_r _ _ _ | exact wr_r _ | omega)).mono ?_
  rintro e w1 ⟨rfl, h1⟩
  go_wp2
  go_end0
  exact ⟨rfl, h1.eq (by rfl)⟩

set_option maxRecDepth 100000 in
set_option maxHeartbeats 1000000 in
theorem cpy_any {B : Nat} {s : PC} {w0 w : World} (h : Tn B s w0 w) :
    Calls Tryz.prog 147 #[.pointer (some ⟨B, 0, none⟩)] w fun e w' => e = .returned (.tuple #[]) ∧ Tn B (s.doIns 19) w0 w' := by
  have c_y := h.c.cy; obtain ⟨l_y, u_y⟩ := h.c.ry
  go_enter Tryz.func147, Tryz.ntmps147
  go_wp2_with fail
  refine (compare_any h _ (by first | exact ⟨by assumption, by assumption⟩ | exact bit_r _ _ _ | exact wr_r _ | omega)).mono ?_
  rintro e w1 ⟨rfl, h1⟩
  go_wp2
  go_end0
  exact ⟨rfl, h1.eq (by rfl)⟩

set_option maxRecDepth 100000 in
set_option maxHeartbeats 1000000 in
theorem shiftLeft_any {B : Nat} {s : PC} {w0 w : World} (h : Tn B s w0 w) (i : Int) (hi : 0 ≤ i ∧ i < 256) :
    Calls Tryz.prog 190 #[.pointer (some ⟨B, 0, none⟩), .int .u8 i] w fun e w' => e = .returned (.tuple #[]) ∧ Tn B (s.shl i) w0 w' := by
  have c_data := h.c.cdata; obtain ⟨l_data, u_data⟩ := h.c.rdata
  go_enter Tryz.func190, Tryz.ntmps190
  obtain ⟨m1, m2⟩ := hi
  go_wp2
  go_region_with (first | (go_at_call 191; refine (set_any h.drew _ _).mono ?_; rintro e w1 ⟨rfl, h1⟩))
  clear c_data
  have c_data := h1.c.cdata; obtain ⟨l_data, u_data⟩ := h1.c.rdata
  go_wp2_with fail
  go_region_with (first | (go_at_call 189; refine (loadD_any h1.drew _ (by first | exact ⟨by assumption, by assumption⟩ | exact bit_r _ _ _ | exact wr_r _ | omega)).mono ?_; rintro e w2 ⟨rfl, h2⟩))
  all_goals go_wp2
  all_goals go_end0
  all_goals exact ⟨rfl, h2.eq (by rfl)⟩

set_option maxRecDepth 100000 in
set_option maxHeartbeats 1000000 in
theorem shiftRight_any {B : Nat} {s : PC} {w0 w : World} (h : Tn B s w0 w) (i : Int) (hi : 0 ≤ i ∧ i < 256) :
    Calls Tryz.prog 193 #[.pointer (some ⟨B, 0, none⟩), .int .u8 i] w fun e w' => e = .returned (.tuple #[]) ∧ Tn B (s.shr i) w0 w' := by
  have c_data := h.c.cdata; obtain ⟨l_data, u_data⟩ := h.c.rdata
  go_enter Tryz.func193, Tryz.ntmps193
  obtain ⟨m1, m2⟩ := hi
  go_wp2
  go_region_with (first | (go_at_call 191; refine (set_any h.drew _ _).mono ?_; rintro e w1 ⟨rfl, h1⟩))
  clear c_data
  have c_data := h1.c.cdata; obtain ⟨l_data, u_data⟩ := h1.c.rdata
  go_wp2_with fail
  go_region_with (first | (go_at_call 189; refine (loadD_any h1.drew _ (by first | exact ⟨by assumption, by assumption⟩ | exact bit_r _ _ _ | exact wr_r _ | omega)).mono ?_; rintro e w2 ⟨rfl, h2⟩))
  all_goals go_wp2
  all_goals go_end0
  all_goals exact ⟨rfl, h2.eq (by rfl)⟩

set_option maxRecDepth 100000 in
set_option maxHeartbeats 1000000 in
theorem asl_any {B : Nat} {s : PC} {w0 w : World} (h : Tn B s w0 w) :
    Calls Tryz.prog 130 #[.pointer (some ⟨B, 0, none⟩)] w fun e w' => e = .returned (.tuple #[]) ∧ Tn B (s.doIns 2) w0 w' := by
  go_enter Tryz.func130, Tryz.ntmps130
  go_wp2_with fail
  refine (shiftLeft_any h _ (by omega)).mono ?_
  rintro e w1 ⟨rfl, h1⟩
  go_wp2
  go_end0
  exact ⟨rfl, h1.eq (by rfl)⟩

set_option maxRecDepth 100000 in
set_option maxHeartbeats 1000000 in
theorem lsr_any {B : Nat} {s : PC} {w0 w : World} (h : Tn B s w0 w) :
    Calls Tryz.prog 160 #[.pointer (some ⟨B, 0, none⟩)] w fun e w' => e = .returned (.tuple #[]) ∧ Tn B (s.doIns 32) w0 w' := by
  go_enter Tryz.func160, Tryz.ntmps160
  go_wp2_with fail
  refine (shiftRight_any h _ (by omega)).mono ?_
  rintro e w1 ⟨rfl, h1⟩
  go_wp2
  go_end0
  exact ⟨rfl, h1.eq (by rfl)⟩

set_option maxRecDepth 100000 in
set_option maxHeartbeats 1000000 in
theorem rol_any {B : Nat} {s : PC} {w0 w : World} (h : Tn B s w0 w) :
    Calls Tryz.prog 167 #[.pointer (some ⟨B, 0, none⟩)] w fun e w' => e = .returned (.tuple #[]) ∧ Tn B (s.doIns 39) w0 w' := by
  have c_p := h.c.cp; obtain ⟨l_p, u_p⟩ := h.c.rp
  go_enter Tryz.func167, Tryz.ntmps167
  go_wp2_with fail
  refine (shiftLeft_any h _ (by first | exact ⟨by assumption, by assumption⟩ | exact bit_r _ _ _ | exact wr_r _ | omega)).mono ?_
  rintro e w1 ⟨rfl, h1⟩
  go_wp2
  go_end0
  exact ⟨rfl, h1.eq (by rfl)⟩

set_option maxRecDepth 100000 in
set_option maxHeartbeats 1000000 in
theorem ror_any {B : Nat} {s : PC} {w0 w : World} (h : Tn B s w0 w) :
    Calls Tryz.prog 168 #[.pointer (some ⟨B, 0, none⟩)] w fun e w' => e = .returned (.tuple #[]) ∧ Tn B (s.doIns 40) w0 w' := by
  have c_p := h.c.cp; obtain ⟨l_p, u_p⟩ := h.c.rp
  go_enter Tryz.func168, Tryz.ntmps168
  go_wp2_with fail
  refine (shiftRight_any h _ (by first | exact ⟨by assumption, by assumption⟩ | exact bit_r _ _ _ | exact wr_r _ | omega)).mono ?_
  rintro e w1 ⟨rfl, h1⟩
  go_wp2
  go_end0
  exact ⟨rfl, h1.eq (by rfl)⟩
end

/-
  The computer's instructions, walked: the rest.
-/
section
set_option maxRecDepth 100000 in
set_option maxHeartbeats 1000000 in
theorem bit_any {B : Nat} {s : PC} {w0 w : World} (h : Tn B s w0 w) :
    Calls Tryz.prog 139 #[.pointer (some ⟨B, 0, none⟩)] w fun e w' => e = .returned (.tuple #[]) ∧ Tn B (s.doIns 11) w0 w' := by
  have c_a := h.c.ca; obtain ⟨l_a, u_a⟩ := h.c.ra; have c_data := h.c.cdata; obtain ⟨l_data, u_data⟩ := h.c.rdata
  go_enter Tryz.func139, Tryz.ntmps139
  go_wp2
  go_region_held3 (fun w' => w'.cell? ⟨B, 65539, none⟩ = some (.int .u8 s.a) ∧ w'.cell? ⟨B, 65557, none⟩ = some (.int .u8 s.data)) (go_keep) (first | (go_at_call 191; refine (set_any h.drew _ _).mono ?_; rintro e w1 ⟨rfl, h1⟩; have k_a := h1.c.ca; have k_d := h1.c.cdata; simp only [PC.setF] at k_a k_d))
  clear c_data c_a
  have c_data := h1.c.cdata; obtain ⟨l_data, u_data⟩ := h1.c.rdata
  go_wp2_with fail
  go_region_with (first | (go_at_call 191; refine (set_any h1.drew _ _).mono ?_; rintro e w2 ⟨rfl, h2⟩))
  clear c_data
  have c_data := h2.c.cdata; obtain ⟨l_data, u_data⟩ := h2.c.rdata
  go_wp2_with fail
  go_region_with (first | (go_at_call 191; refine (set_any h2.drew _ _).mono ?_; rintro e w3 ⟨rfl, h3⟩))
  all_goals go_wp2
  all_goals go_end0
  all_goals exact ⟨rfl, h3.eq (by rfl)⟩

set_option maxRecDepth 100000 in
set_option maxHeartbeats 1000000 in
theorem bcc_any {B : Nat} {s : PC} {w0 w : World} (h : Tn B s w0 w) :
    Calls Tryz.prog 131 #[.pointer (some ⟨B, 0, none⟩)] w fun e w' => e = .returned (.tuple #[]) ∧ Tn B (s.doIns 3) w0 w' := by
  have c_taken := h.c.ctaken
  have f_taken := h.c.free 65558
  go_enter Tryz.func131, Tryz.ntmps131
  go_wp2_with (first | (go_at_call 55; refine (has_any h _).mono ?_; rintro e w' ⟨rfl, rfl⟩))
  go_end0
  refine ⟨rfl, ?_⟩
  apply Tn.eq
  · repeat (first | with_reducible exact h | with_reducible apply Tn.drew | with_reducible apply Tn.alloc | with_reducible apply Tn.setTaken)
  · rfl

set_option maxRecDepth 100000 in
set_option maxHeartbeats 1000000 in
theorem bcs_any {B : Nat} {s : PC} {w0 w : World} (h : Tn B s w0 w) :
    Calls Tryz.prog 132 #[.pointer (some ⟨B, 0, none⟩)] w fun e w' => e = .returned (.tuple #[]) ∧ Tn B (s.doIns 4) w0 w' := by
  have c_taken := h.c.ctaken
  have f_taken := h.c.free 65558
  go_enter Tryz.func132, Tryz.ntmps132
  go_wp2_with (first | (go_at_call 55; refine (has_any h _).mono ?_; rintro e w' ⟨rfl, rfl⟩))
  go_end0
  refine ⟨rfl, ?_⟩
  apply Tn.eq
  · repeat (first | with_reducible exact h | with_reducible apply Tn.drew | with_reducible apply Tn.alloc | with_reducible apply Tn.setTaken)
  · rfl

set_option maxRecDepth 100000 in
set_option maxHeartbeats 1000000 in
theorem beq_any {B : Nat} {s : PC} {w0 w : World} (h : Tn B s w0 w) :
    Calls Tryz.prog 133 #[.pointer (some ⟨B, 0, none⟩)] w fun e w' => e = .returned (.tuple #[]) ∧ Tn B (s.doIns 5) w0 w' := by
  have c_taken := h.c.ctaken
  have f_taken := h.c.free 65558
  go_enter Tryz.func133, Tryz.ntmps133
  go_wp2_with (first | (go_at_call 55; refine (has_any h _).mono ?_; rintro e w' ⟨rfl, rfl⟩))
  go_end0
  refine ⟨rfl, ?_⟩
  apply Tn.eq
  · repeat (first | with_reducible exact h | with_reducible apply Tn.drew | with_reducible apply Tn.alloc | with_reducible apply Tn.setTaken)
  · rfl

set_option maxRecDepth 100000 in
set_option maxHeartbeats 1000000 in
theorem bmi_any {B : Nat} {s : PC} {w0 w : World} (h : Tn B s w0 w) :
    Calls Tryz.prog 134 #[.pointer (some ⟨B, 0, none⟩)] w fun e w' => e = .returned (.tuple #[]) ∧ Tn B (s.doIns 6) w0 w' := by
  have c_taken := h.c.ctaken
  have f_taken := h.c.free 65558
  go_enter Tryz.func134, Tryz.ntmps134
  go_wp2_with (first | (go_at_call 55; refine (has_any h _).mono ?_; rintro e w' ⟨rfl, rfl⟩))
  go_end0
  refine ⟨rfl, ?_⟩
  apply Tn.eq
  · repeat (first | with_reducible exact h | with_reducible apply Tn.drew | with_reducible apply Tn.alloc | with_reducible apply Tn.setTaken)
  · rfl

set_option maxRecDepth 100000 in
set_option maxHeartbeats 1000000 in
theorem bne_any {B : Nat} {s : PC} {w0 w : World} (h : Tn B s w0 w) :
    Calls Tryz.prog 135 #[.pointer (some ⟨B, 0, none⟩)] w fun e w' => e = .returned (.tuple #[]) ∧ Tn B (s.doIns 7) w0 w' := by
  have c_taken := h.c.ctaken
  have f_taken := h.c.free 65558
  go_enter Tryz.func135, Tryz.ntmps135
  go_wp2_with (first | (go_at_call 55; refine (has_any h _).mono ?_; rintro e w' ⟨rfl, rfl⟩))
  go_end0
  refine ⟨rfl, ?_⟩
  apply Tn.eq
  · repeat (first | with_reducible exact h | with_reducible apply Tn.drew | with_reducible apply Tn.alloc | with_reducible apply Tn.setTaken)
  · rfl

set_option maxRecDepth 100000 in
set_option maxHeartbeats 1000000 in
theorem bpl_any {B : Nat} {s : PC} {w0 w : World} (h : Tn B s w0 w) :
    Calls Tryz.prog 136 #[.pointer (some ⟨B, 0, none⟩)] w fun e w' => e = .returned (.tuple #[]) ∧ Tn B (s.doIns 8) w0 w' := by
  have c_taken := h.c.ctaken
  have f_taken := h.c.free 65558
  go_enter Tryz.func136, Tryz.ntmps136
  go_wp2_with (first | (go_at_call 55; refine (has_any h _).mono ?_; rintro e w' ⟨rfl, rfl⟩))
  go_end0
  refine ⟨rfl, ?_⟩
  apply Tn.eq
  · repeat (first | with_reducible exact h | with_reducible apply Tn.drew | with_reducible apply Tn.alloc | with_reducible apply Tn.setTaken)
  · rfl

set_option maxRecDepth 100000 in
set_option maxHeartbeats 1000000 in
theorem bvc_any {B : Nat} {s : PC} {w0 w : World} (h : Tn B s w0 w) :
    Calls Tryz.prog 137 #[.pointer (some ⟨B, 0, none⟩)] w fun e w' => e = .returned (.tuple #[]) ∧ Tn B (s.doIns 9) w0 w' := by
  have c_taken := h.c.ctaken
  have f_taken := h.c.free 65558
  go_enter Tryz.func137, Tryz.ntmps137
  go_wp2_with (first | (go_at_call 55; refine (has_any h _).mono ?_; rintro e w' ⟨rfl, rfl⟩))
  go_end0
  refine ⟨rfl, ?_⟩
  apply Tn.eq
  · repeat (first | with_reducible exact h | with_reducible apply Tn.drew | with_reducible apply Tn.alloc | with_reducible apply Tn.setTaken)
  · rfl

set_option maxRecDepth 100000 in
set_option maxHeartbeats 1000000 in
theorem bvs_any {B : Nat} {s : PC} {w0 w : World} (h : Tn B s w0 w) :
    Calls Tryz.prog 138 #[.pointer (some ⟨B, 0, none⟩)] w fun e w' => e = .returned (.tuple #[]) ∧ Tn B (s.doIns 10) w0 w' := by
  have c_taken := h.c.ctaken
  have f_taken := h.c.free 65558
  go_enter Tryz.func138, Tryz.ntmps138
  go_wp2_with (first | (go_at_call 55; refine (has_any h _).mono ?_; rintro e w' ⟨rfl, rfl⟩))
  go_end0
  refine ⟨rfl, ?_⟩
  apply Tn.eq
  · repeat (first | with_reducible exact h | with_reducible apply Tn.drew | with_reducible apply Tn.alloc | with_reducible apply Tn.setTaken)
  · rfl

set_option maxRecDepth 100000 in
set_option maxHeartbeats 1000000 in
theorem plp_any {B : Nat} {s : PC} {w0 w : World} (h : Tn B s w0 w) :
    Calls Tryz.prog 166 #[.pointer (some ⟨B, 0, none⟩)] w fun e w' => e = .returned (.tuple #[]) ∧ Tn B (s.doIns 38) w0 w' := by
  have c_data := h.c.cdata; obtain ⟨l_data, u_data⟩ := h.c.rdata
  go_enter Tryz.func166, Tryz.ntmps166
  go_wp2
  go_region_with (first | (go_at_call 194; refine (setP_any h.drew _).mono ?_; rintro e w1 ⟨rfl, h1⟩))
  all_goals go_wp2
  all_goals go_end0
  all_goals exact ⟨rfl, h1.eq (by rfl)⟩

set_option maxRecDepth 100000 in
set_option maxHeartbeats 1000000 in
theorem rti_any {B : Nat} {s : PC} {w0 w : World} (h : Tn B s w0 w) :
    Calls Tryz.prog 169 #[.pointer (some ⟨B, 0, none⟩)] w fun e w' => e = .returned (.tuple #[]) ∧ Tn B (s.doIns 41) w0 w' := by
  have c_data := h.c.cdata; obtain ⟨l_data, u_data⟩ := h.c.rdata
  go_enter Tryz.func169, Tryz.ntmps169
  go_wp2
  go_region_with (first | (go_at_call 194; refine (setP_any h.drew _).mono ?_; rintro e w1 ⟨rfl, h1⟩))
  have c_ad := h1.c.cad; obtain ⟨l_ad, u_ad⟩ := h1.c.rad; have c_pc := h1.c.cpc; obtain ⟨l_pc, u_pc⟩ := h1.c.rpc
  have f_pc := h1.c.free 65544
  all_goals go_wp2
  all_goals go_end0
  refine ⟨rfl, ?_⟩
  apply Tn.eq
  · repeat (first | with_reducible exact h1 | with_reducible apply Tn.drew | with_reducible apply Tn.alloc | (with_reducible apply Tn.setPc; case hv => (first | assumption | exact ⟨by assumption, by assumption⟩ | exact wr_r _ | exact wr16_r _ | omega | exact bit_r _ _ _ | exact nz_r _ _ | exact setf_r _ _ _ | exact setp_r _ | (unfold loI; omega) | (simp only [joinI, loI, hiI, withinI]; omega))))
  · rfl

set_option maxRecDepth 100000 in
set_option maxHeartbeats 1000000 in
theorem brk_any {B : Nat} {s : PC} {w0 w : World} (h : Tn B s w0 w) :
    Calls Tryz.prog 140 #[.pointer (some ⟨B, 0, none⟩)] w fun e w' => e = .returned (.tuple #[]) ∧ Tn B (s.doIns 12) w0 w' := by
  go_enter Tryz.func140, Tryz.ntmps140
  go_wp2_with fail
  refine (set_any h _ _).mono ?_
  rintro e w1 ⟨rfl, h1⟩
  have c_ad := h1.c.cad; obtain ⟨l_ad, u_ad⟩ := h1.c.rad; have c_pc := h1.c.cpc; obtain ⟨l_pc, u_pc⟩ := h1.c.rpc
  have f_pc := h1.c.free 65544
  go_wp2
  go_end0
  refine ⟨rfl, ?_⟩
  apply Tn.eq
  · repeat (first | with_reducible exact h1 | with_reducible apply Tn.drew | with_reducible apply Tn.alloc | (with_reducible apply Tn.setPc; case hv => (first | assumption | exact ⟨by assumption, by assumption⟩ | exact wr_r _ | exact wr16_r _ | omega | exact bit_r _ _ _ | exact nz_r _ _ | exact setf_r _ _ _ | exact setp_r _ | (unfold loI; omega) | (simp only [joinI, loI, hiI, withinI]; omega))))
  · rfl
end

end Go.Proofs.YtcgjliflnnklnabGreat
