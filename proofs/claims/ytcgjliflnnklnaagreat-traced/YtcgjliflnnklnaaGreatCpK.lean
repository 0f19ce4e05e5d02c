/-
  The computer's instructions, walked: sums and shifts.
-/
import Derived.Test.YtcgjliflnnklnaaGreatCpJ
namespace Go.Proofs.YtcgjliflnnklnaaGreat
open Go.RowKit

set_option maxRecDepth 100000 in
set_option maxHeartbeats 1000000 in
theorem adc_any {B : Nat} {s : PC} {w0 w : World} (h : Tn B s w0 w) :
    Calls Tryz.prog 215 #[.pointer (some ⟨B, 0, none⟩)] w fun e w' => e = .returned (.tuple #[]) ∧ Tn B (s.doIns 0) w0 w' := by
  have c_data := h.c.cdata; obtain ⟨l_data, u_data⟩ := h.c.rdata
  go_enter Tryz.func215, Tryz.ntmps215
  go_wp2_with fail
  refine (add_any h _ (by first | exact ⟨by assumption, by assumption⟩ | exact bit_r _ _ _ | exact wr_r _ | omega)).mono ?_
  rintro e w1 ⟨rfl, h1⟩
  go_wp2
  go_end0
  exact ⟨rfl, h1.eq (by rfl)⟩

set_option maxRecDepth 100000 in
set_option maxHeartbeats 1000000 in
theorem sbc_any {B : Nat} {s : PC} {w0 w : World} (h : Tn B s w0 w) :
    Calls Tryz.prog 258 #[.pointer (some ⟨B, 0, none⟩)] w fun e w' => e = .returned (.tuple #[]) ∧ Tn B (s.doIns 43) w0 w' := by
  have c_data := h.c.cdata; obtain ⟨l_data, u_data⟩ := h.c.rdata
  go_enter Tryz.func258, Tryz.ntmps258
  go_wp2_with fail
  refine (add_any h _ (by first | exact ⟨by assumption, by assumption⟩ | exact bit_r _ _ _ | exact wr_r _ | omega)).mono ?_
  rintro e w1 ⟨rfl, h1⟩
  go_wp2
  go_end0
  exact ⟨rfl, h1.eq (by rfl)⟩

set_option maxRecDepth 100000 in
set_option maxHeartbeats 1000000 in
theorem compare_any {B : Nat} {s : PC} {w0 w : World} (h : Tn B s w0 w) (r : Int) (hr : 0 ≤ r ∧ r < 256) :
    Calls Tryz.prog 283 #[.pointer (some ⟨B, 0, none⟩), .int .u8 r] w fun e w' => e = .returned (.tuple #[]) ∧ Tn B (s.compare r) w0 w' := by
  have c_data := h.c.cdata; obtain ⟨l_data, u_data⟩ := h.c.rdata
  go_enter Tryz.func283, Tryz.ntmps283
  obtain ⟨m1, m2⟩ := hr
  go_wp2
  go_region_with (first | (go_at_call 282; refine (set_any h.drew _ _).mono ?_; rintro e w1 ⟨rfl, h1⟩))
  clear c_data
  have c_data := h1.c.cdata; obtain ⟨l_data, u_data⟩ := h1.c.rdata
  go_wp2_with fail
  go_region_with (first | (go_at_call 290; refine (setNZ_any h1.drew _).mono ?_; rintro e w2 ⟨rfl, h2⟩))
  all_goals go_wp2
  all_goals go_end0
  all_goals exact ⟨rfl, h2.eq (by rfl)⟩

set_option maxRecDepth 100000 in
set_option maxHeartbeats 1000000 in
theorem cmp_any {B : Nat} {s : PC} {w0 w : World} (h : Tn B s w0 w) :
    Calls Tryz.prog 232 #[.pointer (some ⟨B, 0, none⟩)] w fun e w' => e = .returned (.tuple #[]) ∧ Tn B (s.doIns 17) w0 w' := by
  have c_a := h.c.ca; obtain ⟨l_a, u_a⟩ := h.c.ra
  go_enter Tryz.func232, Tryz.ntmps232
  go_wp2_with fail
  refine (compare_any h _ (by first | exact ⟨by assumption, by assumption⟩ | exact bit_r _ _ _ | exact wr_r _ | omega)).mono ?_
  rintro e w1 ⟨rfl, h1⟩
  go_wp2
  go_end0
  exact ⟨rfl, h1.eq (by rfl)⟩

set_option maxRecDepth 100000 in
set_option maxHeartbeats 1000000 in
theorem cpx_any {B : Nat} {s : PC} {w0 w : World} (h : Tn B s w0 w) :
    Calls Tryz.prog 233 #[.pointer (some ⟨B, 0, none⟩)] w fun e w' => e = .returned (.tuple #[]) ∧ Tn B (s.doIns 18) w0 w' := by
  have c_x := h.c.cx; obtain ⟨l_x, u_x⟩ := h.c.rx
  go_enter Tryz.func233, Tryz.ntmps233
  go_wp2_with fail
  refine (compare_any h _ (by first | exact ⟨by assumption, by assumption⟩ | exact bit_r _ _ _ | exact wr_r _ | omega)).mono ?_
  rintro e w1 ⟨rfl, h1⟩
  go_wp2
  go_end0
  exact ⟨rfl, h1.eq (by rfl)⟩

set_option maxRecDepth 100000 in
set_option maxHeartbeats 1000000 in
theorem cpy_any {B : Nat} {s : PC} {w0 w : World} (h : Tn B s w0 w) :
    Calls Tryz.prog 234 #[.pointer (some ⟨B, 0, none⟩)] w fun e w' => e = .returned (.tuple #[]) ∧ Tn B (s.doIns 19) w0 w' := by
  have c_y := h.c.cy; obtain ⟨l_y, u_y⟩ := h.c.ry
  go_enter Tryz.func234, Tryz.ntmps234
  go_wp2_with fail
  refine (compare_any h _ (by first | exact ⟨by assumption, by assumption⟩ | exact bit_r _ _ _ | exact wr_r _ | omega)).mono ?_
  rintro e w1 ⟨rfl, h1⟩
  go_wp2
  go_end0
  exact ⟨rfl, h1.eq (by rfl)⟩

set_option maxRecDepth 100000 in
set_option maxHeartbeats 1000000 in
theorem shiftLeft_any {B : Nat} {s : PC} {w0 w : World} (h : Tn B s w0 w) (i : Int) (hi : 0 ≤ i ∧ i < 256) :
    Calls Tryz.prog 281 #[.pointer (some ⟨B, 0, none⟩), .int .u8 i] w fun e w' => e = .returned (.tuple #[]) ∧ Tn B (s.shl i) w0 w' := by
  have c_data := h.c.cdata; obtain ⟨l_data, u_data⟩ := h.c.rdata
  go_enter Tryz.func281, Tryz.ntmps281
  obtain ⟨m1, m2⟩ := hi
  go_wp2
  go_region_with (first | (go_at_call 282; refine (set_any h.drew _ _).mono ?_; rintro e w1 ⟨rfl, h1⟩))
  clear c_data
  have c_data := h1.c.cdata; obtain ⟨l_data, u_data⟩ := h1.c.rdata
  go_wp2_with fail
  go_region_with (first | (go_at_call 280; refine (loadD_any h1.drew _ (by first | exact ⟨by assumption, by assumption⟩ | exact bit_r _ _ _ | exact wr_r _ | omega)).mono ?_; rintro e w2 ⟨rfl, h2⟩))
  all_goals go_wp2
  all_goals go_end0
  all_goals exact ⟨rfl, h2.eq (by rfl)⟩

set_option maxRecDepth 100000 in
set_option maxHeartbeats 1000000 in
theorem shiftRight_any {B : Nat} {s : PC} {w0 w : World} (h : Tn B s w0 w) (i : Int) (hi : 0 ≤ i ∧ i < 256) :
    Calls Tryz.prog 284 #[.pointer (some ⟨B, 0, none⟩), .int .u8 i] w fun e w' => e = .returned (.tuple #[]) ∧ Tn B (s.shr i) w0 w' := by
  have c_data := h.c.cdata; obtain ⟨l_data, u_data⟩ := h.c.rdata
  go_enter Tryz.func284, Tryz.ntmps284
  obtain ⟨m1, m2⟩ := hi
  go_wp2
  go_region_with (first | (go_at_call 282; refine (set_any h.drew _ _).mono ?_; rintro e w1 ⟨rfl, h1⟩))
  clear c_data
  have c_data := h1.c.cdata; obtain ⟨l_data, u_data⟩ := h1.c.rdata
  go_wp2_with fail
  go_region_with (first | (go_at_call 280; refine (loadD_any h1.drew _ (by first | exact ⟨by assumption, by assumption⟩ | exact bit_r _ _ _ | exact wr_r _ | omega)).mono ?_; rintro e w2 ⟨rfl, h2⟩))
  all_goals go_wp2
  all_goals go_end0
  all_goals exact ⟨rfl, h2.eq (by rfl)⟩

set_option maxRecDepth 100000 in
set_option maxHeartbeats 1000000 in
theorem asl_any {B : Nat} {s : PC} {w0 w : World} (h : Tn B s w0 w) :
    Calls Tryz.prog 217 #[.pointer (some ⟨B, 0, none⟩)] w fun e w' => e = .returned (.tuple #[]) ∧ Tn B (s.doIns 2) w0 w' := by
  go_enter Tryz.func217, Tryz.ntmps217
  go_wp2_with fail
  refine (shiftLeft_any h _ (by omega)).mono ?_
  rintro e w1 ⟨rfl, h1⟩
  go_wp2
  go_end0
  exact ⟨rfl, h1.eq (by rfl)⟩

set_option maxRecDepth 100000 in
set_option maxHeartbeats 1000000 in
theorem lsr_any {B : Nat} {s : PC} {w0 w : World} (h : Tn B s w0 w) :
    Calls Tryz.prog 247 #[.pointer (some ⟨B, 0, none⟩)] w fun e w' => e = .returned (.tuple #[]) ∧ Tn B (s.doIns 32) w0 w' := by
  go_enter Tryz.func247, Tryz.ntmps247
  go_wp2_with fail
  refine (shiftRight_any h _ (by omega)).mono ?_
  rintro e w1 ⟨rfl, h1⟩
  go_wp2
  go_end0
  exact ⟨rfl, h1.eq (by rfl)⟩

set_option maxRecDepth 100000 in
set_option maxHeartbeats 1000000 in
theorem rol_any {B : Nat} {s : PC} {w0 w : World} (h : Tn B s w0 w) :
    Calls Tryz.prog 254 #[.pointer (some ⟨B, 0, none⟩)] w fun e w' => e = .returned (.tuple #[]) ∧ Tn B (s.doIns 39) w0 w' := by
  have c_p := h.c.cp; obtain ⟨l_p, u_p⟩ := h.c.rp
  go_enter Tryz.func254, Tryz.ntmps254
  go_wp2_with fail
  refine (shiftLeft_any h _ (by first | exact ⟨by assumption, by assumption⟩ | exact bit_r _ _ _ | exact wr_r _ | omega)).mono ?_
  rintro e w1 ⟨rfl, h1⟩
  go_wp2
  go_end0
  exact ⟨rfl, h1.eq (by rfl)⟩

set_option maxRecDepth 100000 in
set_option maxHeartbeats 1000000 in
theorem ror_any {B : Nat} {s : PC} {w0 w : World} (h : Tn B s w0 w) :
    Calls Tryz.prog 255 #[.pointer (some ⟨B, 0, none⟩)] w fun e w' => e = .returned (.tuple #[]) ∧ Tn B (s.doIns 40) w0 w' := by
  have c_p := h.c.cp; obtain ⟨l_p, u_p⟩ := h.c.rp
  go_enter Tryz.func255, Tryz.ntmps255
  go_wp2_with fail
  refine (shiftRight_any h _ (by first | exact ⟨by assumption, by assumption⟩ | exact bit_r _ _ _ | exact wr_r _ | omega)).mono ?_
  rintro e w1 ⟨rfl, h1⟩
  go_wp2
  go_end0
  exact ⟨rfl, h1.eq (by rfl)⟩

end Go.Proofs.YtcgjliflnnklnaaGreat
