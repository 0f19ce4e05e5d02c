/-
  The computer's instructions, walked.
-/
import Derived.Test.YtcgjliflnnklnabGreatCpL
import Derived.Deep.RegionHeld3
namespace Go.Proofs.YtcgjliflnnklnabGreat
open Go.RowKit

theorem wr_r (x : Int) : 0 ≤ IntKind.u8.wrap x ∧ IntKind.u8.wrap x < 256 := by rw [IntKind.wrap_u8']; omega
theorem wr16_r (x : Int) : 0 ≤ IntKind.u16.wrap x ∧ IntKind.u16.wrap x < 65536 := by rw [IntKind.wrap_u16]; omega

set_option maxRecDepth 100000 in
set_option maxHeartbeats 1000000 in
theorem loadA_any {B : Nat} {s : PC} {w0 w : World} (h : Tn B s w0 w) (b : Int) (hb : 0 ≤ b ∧ b < 256) :
    Calls Tryz.prog 189 #[.pointer (some ⟨B, 0, none⟩), .pointer (some ⟨B, 65539, none⟩), .int .u8 b] w fun e w' => e = .returned (.tuple #[]) ∧ Tn B (s.loadA b) w0 w' := by
  have c_a := h.c.ca; obtain ⟨l_a, u_a⟩ := h.c.ra
  have f_a := h.c.free 65539
  go_enter Tryz.func189, Tryz.ntmps189
  go_wp2_with fail
  refine (setNZ_any (h.setA b hb) b).mono ?_
  rintro e w1 ⟨rfl, h1⟩
  go_wp2
  go_end0
  exact ⟨rfl, h1⟩

set_option maxRecDepth 100000 in
set_option maxHeartbeats 1000000 in
theorem loadX_any {B : Nat} {s : PC} {w0 w : World} (h : Tn B s w0 w) (b : Int) (hb : 0 ≤ b ∧ b < 256) :
    Calls Tryz.prog 189 #[.pointer (some ⟨B, 0, none⟩), .pointer (some ⟨B, 65540, none⟩), .int .u8 b] w fun e w' => e = .returned (.tuple #[]) ∧ Tn B (s.loadX b) w0 w' := by
  have c_x := h.c.cx; obtain ⟨l_x, u_x⟩ := h.c.rx
  have f_x := h.c.free 65540
  go_enter Tryz.func189, Tryz.ntmps189
  go_wp2_with fail
  refine (setNZ_any (h.setX b hb) b).mono ?_
  rintro e w1 ⟨rfl, h1⟩
  go_wp2
  go_end0
  exact ⟨rfl, h1⟩

set_option maxRecDepth 100000 in
set_option maxHeartbeats 1000000 in
theorem loadY_any {B : Nat} {s : PC} {w0 w : World} (h : Tn B s w0 w) (b : Int) (hb : 0 ≤ b ∧ b < 256) :
    Calls Tryz.prog 189 #[.pointer (some ⟨B, 0, none⟩), .pointer (some ⟨B, 65541, none⟩), .int .u8 b] w fun e w' => e = .returned (.tuple #[]) ∧ Tn B (s.loadY b) w0 w' := by
  have c_y := h.c.cy; obtain ⟨l_y, u_y⟩ := h.c.ry
  have f_y := h.c.free 65541
  go_enter Tryz.func189, Tryz.ntmps189
  go_wp2_with fail
  refine (setNZ_any (h.setY b hb) b).mono ?_
  rintro e w1 ⟨rfl, h1⟩
  go_wp2
  go_end0
  exact ⟨rfl, h1⟩

set_option maxRecDepth 100000 in
set_option maxHeartbeats 1000000 in
theorem loadD_any {B : Nat} {s : PC} {w0 w : World} (h : Tn B s w0 w) (b : Int) (hb : 0 ≤ b ∧ b < 256) :
    Calls Tryz.prog 189 #[.pointer (some ⟨B, 0, none⟩), .pointer (some ⟨B, 65557, none⟩), .int .u8 b] w fun e w' => e = .returned (.tuple #[]) ∧ Tn B (s.loadD b) w0 w' := by
  have c_data := h.c.cdata; obtain ⟨l_data, u_data⟩ := h.c.rdata
  have f_data := h.c.free 65557
  go_enter Tryz.func189, Tryz.ntmps189
  go_wp2_with fail
  refine (setNZ_any (h.setData b hb) b).mono ?_
  rintro e w1 ⟨rfl, h1⟩
  go_wp2
  go_end0
  exact ⟨rfl, h1⟩

set_option maxRecDepth 100000 in
set_option maxHeartbeats 1000000 in
theorem lda_any {B : Nat} {s : PC} {w0 w : World} (h : Tn B s w0 w) :
    Calls Tryz.prog 157 #[.pointer (some ⟨B, 0, none⟩)] w fun e w' => e = .returned (.tuple #[]) ∧ Tn B (s.doIns 29) w0 w' := by
  have c_data := h.c.cdata; obtain ⟨l_data, u_data⟩ := h.c.rdata
  go_enter Tryz.func157, Tryz.ntmps157
  go_wp2
  go_region_with (first | (go_at_call 189; refine (loadA_any h.drew _ (by first | exact ⟨by assumption, by assumption⟩ | exact bit_r _ _ _ | exact wr_r _ | omega)).mono ?_; rintro e w1 ⟨rfl, h1⟩))
  all_goals go_wp2
  all_goals go_end0
  all_goals exact ⟨rfl, h1.eq (by rfl)⟩

set_option maxRecDepth 100000 in
set_option maxHeartbeats 1000000 in
theorem ldx_any {B : Nat} {s : PC} {w0 w : World} (h : Tn B s w0 w) :
    Calls Tryz.prog 158 #[.pointer (some ⟨B, 0, none⟩)] w fun e w' => e = .returned (.tuple #[]) ∧ Tn B (s.doIns 30) w0 w' := by
  have c_data := h.c.cdata; obtain ⟨l_data, u_data⟩ := h.c.rdata
  go_enter Tryz.func158, Tryz.ntmps158
  go_wp2
  go_region_with (first | (go_at_call 189; refine (loadX_any h.drew _ (by first | exact ⟨by assumption, by assumption⟩ | exact bit_r _ _ _ | exact wr_r _ | omega)).mono ?_; rintro e w1 ⟨rfl, h1⟩))
  all_goals go_wp2
  all_goals go_end0
  all_goals exact ⟨rfl, h1.eq (by rfl)⟩

set_option maxRecDepth 100000 in
set_option maxHeartbeats 1000000 in
theorem ldy_any {B : Nat} {s : PC} {w0 w : World} (h : Tn B s w0 w) :
    Calls Tryz.prog 159 #[.pointer (some ⟨B, 0, none⟩)] w fun e w' => e = .returned (.tuple #[]) ∧ Tn B (s.doIns 31) w0 w' := by
  have c_data := h.c.cdata; obtain ⟨l_data, u_data⟩ := h.c.rdata
  go_enter Tryz.func159, Tryz.ntmps159
  go_wp2
  go_region_with (first | (go_at_call 189; refine (loadY_any h.drew _ (by first | exact ⟨by assumption, by assumption⟩ | exact bit_r _ _ _ | exact wr_r _ | omega)).mono ?_; rintro e w1 ⟨rfl, h1⟩))
  all_goals go_wp2
  all_goals go_end0
  all_goals exact ⟨rfl, h1.eq (by rfl)⟩

set_option maxRecDepth 100000 in
set_option maxHeartbeats 1000000 in
theorem tax_any {B : Nat} {s : PC} {w0 w : World} (h : Tn B s w0 w) :
    Calls Tryz.prog 178 #[.pointer (some ⟨B, 0, none⟩)] w fun e w' => e = .returned (.tuple #[]) ∧ Tn B (s.doIns 50) w0 w' := by
  have c_a := h.c.ca; obtain ⟨l_a, u_a⟩ := h.c.ra
  go_enter Tryz.func178, Tryz.ntmps178
  go_wp2
  go_region_with (first | (go_at_call 189; refine (loadX_any h.drew _ (by first | exact ⟨by assumption, by assumption⟩ | exact bit_r _ _ _ | exact wr_r _ | omega)).mono ?_; rintro e w1 ⟨rfl, h1⟩))
  all_goals go_wp2
  all_goals go_end0
  all_goals exact ⟨rfl, h1.eq (by rfl)⟩

set_option maxRecDepth 100000 in
set_option maxHeartbeats 1000000 in
theorem tay_any {B : Nat} {s : PC} {w0 w : World} (h : Tn B s w0 w) :
    Calls Tryz.prog 179 #[.pointer (some ⟨B, 0, none⟩)] w fun e w' => e = .returned (.tuple #[]) ∧ Tn B (s.doIns 51) w0 w' := by
  have c_a := h.c.ca; obtain ⟨l_a, u_a⟩ := h.c.ra
  go_enter Tryz.func179, Tryz.ntmps179
  go_wp2
  go_region_with (first | (go_at_call 189; refine (loadY_any h.drew _ (by first | exact ⟨by assumption, by assumption⟩ | exact bit_r _ _ _ | exact wr_r _ | omega)).mono ?_; rintro e w1 ⟨rfl, h1⟩))
  all_goals go_wp2
  all_goals go_end0
  all_goals exact ⟨rfl, h1.eq (by rfl)⟩

set_option maxRecDepth 100000 in
set_option maxHeartbeats 1000000 in
theorem tsx_any {B : Nat} {s : PC} {w0 w : World} (h : Tn B s w0 w) :
    Calls Tryz.prog 180 #[.pointer (some ⟨B, 0, none⟩)] w fun e w' => e = .returned (.tuple #[]) ∧ Tn B (s.doIns 52) w0 w' := by
  have c_s := h.c.cs; obtain ⟨l_s, u_s⟩ := h.c.rs
  go_enter Tryz.func180, Tryz.ntmps180
  go_wp2
  go_region_with (first | (go_at_call 189; refine (loadX_any h.drew _ (by first | exact ⟨by assumption, by assumption⟩ | exact bit_r _ _ _ | exact wr_r _ | omega)).mono ?_; rintro e w1 ⟨rfl, h1⟩))
  all_goals go_wp2
  all_goals go_end0
  all_goals exact ⟨rfl, h1.eq (by rfl)⟩

set_option maxRecDepth 100000 in
set_option maxHeartbeats 1000000 in
theorem txa_any {B : Nat} {s : PC} {w0 w : World} (h : Tn B s w0 w) :
    Calls Tryz.prog 181 #[.pointer (some ⟨B, 0, none⟩)] w fun e w' => e = .returned (.tuple #[]) ∧ Tn B (s.doIns 53) w0 w' := by
  have c_x := h.c.cx; obtain ⟨l_x, u_x⟩ := h.c.rx
  go_enter Tryz.func181, Tryz.ntmps181
  go_wp2
  go_region_with (first | (go_at_call 189; refine (loadA_any h.drew _ (by first | exact ⟨by assumption, by assumption⟩ | exact bit_r _ _ _ | exact wr_r _ | omega)).mono ?_; rintro e w1 ⟨rfl, h1⟩))
  all_goals go_wp2
  all_goals go_end0
  all_goals exact ⟨rfl, h1.eq (by rfl)⟩

set_option maxRecDepth 100000 in
set_option maxHeartbeats 1000000 in
theorem tya_any {B : Nat} {s : PC} {w0 w : World} (h : Tn B s w0 w) :
    Calls Tryz.prog 183 #[.pointer (some ⟨B, 0, none⟩)] w fun e w' => e = .returned (.tuple #[]) ∧ Tn B (s.doIns 55) w0 w' := by
  have c_y := h.c.cy; obtain ⟨l_y, u_y⟩ := h.c.ry
  go_enter Tryz.func183, Tryz.ntmps183
  go_wp2
  go_region_with (first | (go_at_call 189; refine (loadA_any h.drew _ (by first | exact ⟨by assumption, by assumption⟩ | exact bit_r _ _ _ | exact wr_r _ | omega)).mono ?_; rintro e w1 ⟨rfl, h1⟩))
  all_goals go_wp2
  all_goals go_end0
  all_goals exact ⟨rfl, h1.eq (by rfl)⟩

set_option maxRecDepth 100000 in
set_option maxHeartbeats 1000000 in
theorem pla_any {B : Nat} {s : PC} {w0 w : World} (h : Tn B s w0 w) :
    Calls Tryz.prog 165 #[.pointer (some ⟨B, 0, none⟩)] w fun e w' => e = .returned (.tuple #[]) ∧ Tn B (s.doIns 37) w0 w' := by
  have c_data := h.c.cdata; obtain ⟨l_data, u_data⟩ := h.c.rdata
  go_enter Tryz.func165, Tryz.ntmps165
  go_wp2
  go_region_with (first | (go_at_call 189; refine (loadA_any h.drew _ (by first | exact ⟨by assumption, by assumption⟩ | exact bit_r _ _ _ | exact wr_r _ | omega)).mono ?_; rintro e w1 ⟨rfl, h1⟩))
  all_goals go_wp2
  all_goals go_end0
  all_goals exact ⟨rfl, h1.eq (by rfl)⟩

set_option maxRecDepth 100000 in
set_option maxHeartbeats 1000000 in
theorem and_any {B : Nat} {s : PC} {w0 w : World} (h : Tn B s w0 w) :
    Calls Tryz.prog 129 #[.pointer (some ⟨B, 0, none⟩)] w fun e w' => e = .returned (.tuple #[]) ∧ Tn B (s.doIns 1) w0 w' := by
  have c_a := h.c.ca; obtain ⟨l_a, u_a⟩ := h.c.ra; have c_data := h.c.cdata; obtain ⟨l_data, u_data⟩ := h.c.rdata
  go_enter Tryz.func129, Tryz.ntmps129
  go_wp2
  go_region_with (first | (go_at_call 189; refine (loadA_any h.drew _ (by first | exact ⟨by assumption, by assumption⟩ | exact bit_r _ _ _ | exact wr_r _ | omega)).mono ?_; rintro e w1 ⟨rfl, h1⟩))
  all_goals go_wp2
  all_goals go_end0
  all_goals exact ⟨rfl, h1.eq (by rfl)⟩

set_option maxRecDepth 100000 in
set_option maxHeartbeats 1000000 in
theorem ora_any {B : Nat} {s : PC} {w0 w : World} (h : Tn B s w0 w) :
    Calls Tryz.prog 162 #[.pointer (some ⟨B, 0, none⟩)] w fun e w' => e = .returned (.tuple #[]) ∧ Tn B (s.doIns 34) w0 w' := by
  have c_a := h.c.ca; obtain ⟨l_a, u_a⟩ := h.c.ra; have c_data := h.c.cdata; obtain ⟨l_data, u_data⟩ := h.c.rdata
  go_enter Tryz.func162, Tryz.ntmps162
  go_wp2
  go_region_with (first | (go_at_call 189; refine (loadA_any h.drew _ (by first | exact ⟨by assumption, by assumption⟩ | exact bit_r _ _ _ | exact wr_r _ | omega)).mono ?_; rintro e w1 ⟨rfl, h1⟩))
  all_goals go_wp2
  all_goals go_end0
  all_goals exact ⟨rfl, h1.eq (by rfl)⟩

set_option maxRecDepth 100000 in
set_option maxHeartbeats 1000000 in
theorem eor_any {B : Nat} {s : PC} {w0 w : World} (h : Tn B s w0 w) :
    Calls Tryz.prog 151 #[.pointer (some ⟨B, 0, none⟩)] w fun e w' => e = .returned (.tuple #[]) ∧ Tn B (s.doIns 23) w0 w' := by
  have c_a := h.c.ca; obtain ⟨l_a, u_a⟩ := h.c.ra; have c_data := h.c.cdata; obtain ⟨l_data, u_data⟩ := h.c.rdata
  go_enter Tryz.func151, Tryz.ntmps151
  go_wp2
  go_region_with (first | (go_at_call 189; refine (loadA_any h.drew _ (by first | exact ⟨by assumption, by assumption⟩ | exact bit_r _ _ _ | exact wr_r _ | omega)).mono ?_; rintro e w1 ⟨rfl, h1⟩))
  all_goals go_wp2
  all_goals go_end0
  all_goals exact ⟨rfl, h1.eq (by rfl)⟩

set_option maxRecDepth 100000 in
set_option maxHeartbeats 1000000 in
theorem inc_any {B : Nat} {s : PC} {w0 w : World} (h : Tn B s w0 w) :
    Calls Tryz.prog 152 #[.pointer (some ⟨B, 0, none⟩)] w fun e w' => e = .returned (.tuple #[]) ∧ Tn B (s.doIns 24) w0 w' := by
  have c_data := h.c.cdata; obtain ⟨l_data, u_data⟩ := h.c.rdata
  go_enter Tryz.func152, Tryz.ntmps152
  go_wp2
  go_region_with (first | (go_at_call 189; refine (loadD_any h.drew _ (by first | exact ⟨by assumption, by assumption⟩ | exact bit_r _ _ _ | exact wr_r _ | omega)).mono ?_; rintro e w1 ⟨rfl, h1⟩))
  all_goals go_wp2
  all_goals go_end0
  all_goals exact ⟨rfl, h1.eq (by rfl)⟩

set_option maxRecDepth 100000 in
set_option maxHeartbeats 1000000 in
theorem dec_any {B : Nat} {s : PC} {w0 w : World} (h : Tn B s w0 w) :
    Calls Tryz.prog 148 #[.pointer (some ⟨B, 0, none⟩)] w fun e w' => e = .returned (.tuple #[]) ∧ Tn B (s.doIns 20) w0 w' := by
  have c_data := h.c.cdata; obtain ⟨l_data, u_data⟩ := h.c.rdata
  go_enter Tryz.func148, Tryz.ntmps148
  go_wp2
  go_region_with (first | (go_at_call 189; refine (loadD_any h.drew _ (by first | exact ⟨by assumption, by assumption⟩ | exact bit_r _ _ _ | exact wr_r _ | omega)).mono ?_; rintro e w1 ⟨rfl, h1⟩))
  all_goals go_wp2
  all_goals go_end0
  all_goals exact ⟨rfl, h1.eq (by rfl)⟩

set_option maxRecDepth 100000 in
set_option maxHeartbeats 1000000 in
theorem inx_any {B : Nat} {s : PC} {w0 w : World} (h : Tn B s w0 w) :
    Calls Tryz.prog 153 #[.pointer (some ⟨B, 0, none⟩)] w fun e w' => e = .returned (.tuple #[]) ∧ Tn B (s.doIns 25) w0 w' := by
  have c_x := h.c.cx; obtain ⟨l_x, u_x⟩ := h.c.rx
  go_enter Tryz.func153, Tryz.ntmps153
  go_wp2
  go_region_with (first | (go_at_call 189; refine (loadX_any h.drew _ (by first | exact ⟨by assumption, by assumption⟩ | exact bit_r _ _ _ | exact wr_r _ | omega)).mono ?_; rintro e w1 ⟨rfl, h1⟩))
  all_goals go_wp2
  all_goals go_end0
  all_goals exact ⟨rfl, h1.eq (by rfl)⟩

set_option maxRecDepth 100000 in
set_option maxHeartbeats 1000000 in
theorem dex_any {B : Nat} {s : PC} {w0 w : World} (h : Tn B s w0 w) :
    Calls Tryz.prog 149 #[.pointer (some ⟨B, 0, none⟩)] w fun e w' => e = .returned (.tuple #[]) ∧ Tn B (s.doIns 21) w0 w' := by
  have c_x := h.c.cx; obtain ⟨l_x, u_x⟩ := h.c.rx
  go_enter Tryz.func149, Tryz.ntmps149
  go_wp2
  go_region_with (first | (go_at_call 189; refine (loadX_any h.drew _ (by first | exact ⟨by assumption, by assumption⟩ | exact bit_r _ _ _ | exact wr_r _ | omega)).mono ?_; rintro e w1 ⟨rfl, h1⟩))
  all_goals go_wp2
  all_goals go_end0
  all_goals exact ⟨rfl, h1.eq (by rfl)⟩

set_option maxRecDepth 100000 in
set_option maxHeartbeats 1000000 in
theorem iny_any {B : Nat} {s : PC} {w0 w : World} (h : Tn B s w0 w) :
    Calls Tryz.prog 154 #[.pointer (some ⟨B, 0, none⟩)] w fun e w' => e = .returned (.tuple #[]) ∧ Tn B (s.doIns 26) w0 w' := by
  have c_y := h.c.cy; obtain ⟨l_y, u_y⟩ := h.c.ry
  go_enter Tryz.func154, Tryz.ntmps154
  go_wp2
  go_region_with (first | (go_at_call 189; refine (loadY_any h.drew _ (by first | exact ⟨by assumption, by assumption⟩ | exact bit_r _ _ _ | exact wr_r _ | omega)).mono ?_; rintro e w1 ⟨rfl, h1⟩))
  all_goals go_wp2
  all_goals go_end0
  all_goals exact ⟨rfl, h1.eq (by rfl)⟩

set_option maxRecDepth 100000 in
set_option maxHeartbeats 1000000 in
theorem dey_any {B : Nat} {s : PC} {w0 w : World} (h : Tn B s w0 w) :
    Calls Tryz.prog 150 #[.pointer (some ⟨B, 0, none⟩)] w fun e w' => e = .returned (.tuple #[]) ∧ Tn B (s.doIns 22) w0 w' := by
  have c_y := h.c.cy; obtain ⟨l_y, u_y⟩ := h.c.ry
  go_enter Tryz.func150, Tryz.ntmps150
  go_wp2
  go_region_with (first | (go_at_call 189; refine (loadY_any h.drew _ (by first | exact ⟨by assumption, by assumption⟩ | exact bit_r _ _ _ | exact wr_r _ | omega)).mono ?_; rintro e w1 ⟨rfl, h1⟩))
  all_goals go_wp2
  all_goals go_end0
  all_goals exact ⟨rfl, h1.eq (by rfl)⟩

set_option maxRecDepth 100000 in
set_option maxHeartbeats 1000000 in
theorem txs_any {B : Nat} {s : PC} {w0 w : World} (h : Tn B s w0 w) :
    Calls Tryz.prog 182 #[.pointer (some ⟨B, 0, none⟩)] w fun e w' => e = .returned (.tuple #[]) ∧ Tn B (s.doIns 54) w0 w' := by
  have c_x := h.c.cx; obtain ⟨l_x, u_x⟩ := h.c.rx; have c_s := h.c.cs; obtain ⟨l_s, u_s⟩ := h.c.rs
  have f_s := h.c.free 65542
  go_enter Tryz.func182, Tryz.ntmps182
  go_wp2
  go_end0
  refine ⟨rfl, ?_⟩
  apply Tn.eq
  · repeat (first | with_reducible exact h | with_reducible apply Tn.drew | with_reducible apply Tn.alloc | (with_reducible apply Tn.setS; case hv => (first | assumption | exact ⟨by assumption, by assumption⟩ | exact wr_r _ | exact wr16_r _ | omega | exact bit_r _ _ _ | exact nz_r _ _ | exact setf_r _ _ _ | exact setp_r _ | (unfold loI; omega) | (simp only [joinI, loI, hiI, withinI]; omega))))
  · rfl

set_option maxRecDepth 100000 in
set_option maxHeartbeats 1000000 in
theorem sta_any {B : Nat} {s : PC} {w0 w : World} (h : Tn B s w0 w) :
    Calls Tryz.prog 175 #[.pointer (some ⟨B, 0, none⟩)] w fun e w' => e = .returned (.tuple #[]) ∧ Tn B (s.doIns 47) w0 w' := by
  have c_a := h.c.ca; obtain ⟨l_a, u_a⟩ := h.c.ra; have c_data := h.c.cdata; obtain ⟨l_data, u_data⟩ := h.c.rdata
  have f_data := h.c.free 65557
  go_enter Tryz.func175, Tryz.ntmps175
  go_wp2
  go_end0
  refine ⟨rfl, ?_⟩
  apply Tn.eq
  · repeat (first | with_reducible exact h | with_reducible apply Tn.drew | with_reducible apply Tn.alloc | (with_reducible apply Tn.setData; case hv => (first | assumption | exact ⟨by assumption, by assumption⟩ | exact wr_r _ | exact wr16_r _ | omega | exact bit_r _ _ _ | exact nz_r _ _ | exact setf_r _ _ _ | exact setp_r _ | (unfold loI; omega) | (simp only [joinI, loI, hiI, withinI]; omega))))
  · rfl

set_option maxRecDepth 100000 in
set_option maxHeartbeats 1000000 in
theorem stx_any {B : Nat} {s : PC} {w0 w : World} (h : Tn B s w0 w) :
    Calls Tryz.prog 176 #[.pointer (some ⟨B, 0, none⟩)] w fun e w' => e = .returned (.tuple #[]) ∧ Tn B (s.doIns 48) w0 w' := by
  have c_x := h.c.cx; obtain ⟨l_x, u_x⟩ := h.c.rx; have c_data := h.c.cdata; obtain ⟨l_data, u_data⟩ := h.c.rdata
  have f_data := h.c.free 65557
  go_enter Tryz.func176, Tryz.ntmps176
  go_wp2
  go_end0
  refine ⟨rfl, ?_⟩
  apply Tn.eq
  · repeat (first | with_reducible exact h | with_reducible apply Tn.drew | with_reducible apply Tn.alloc | (with_reducible apply Tn.setData; case hv => (first | assumption | exact ⟨by assumption, by assumption⟩ | exact wr_r _ | exact wr16_r _ | omega | exact bit_r _ _ _ | exact nz_r _ _ | exact setf_r _ _ _ | exact setp_r _ | (unfold loI; omega) | (simp only [joinI, loI, hiI, withinI]; omega))))
  · rfl

set_option maxRecDepth 100000 in
set_option maxHeartbeats 1000000 in
theorem sty_any {B : Nat} {s : PC} {w0 w : World} (h : Tn B s w0 w) :
    Calls Tryz.prog 177 #[.pointer (some ⟨B, 0, none⟩)] w fun e w' => e = .returned (.tuple #[]) ∧ Tn B (s.doIns 49) w0 w' := by
  have c_y := h.c.cy; obtain ⟨l_y, u_y⟩ := h.c.ry; have c_data := h.c.cdata; obtain ⟨l_data, u_data⟩ := h.c.rdata
  have f_data := h.c.free 65557
  go_enter Tryz.func177, Tryz.ntmps177
  go_wp2
  go_end0
  refine ⟨rfl, ?_⟩
  apply Tn.eq
  · repeat (first | with_reducible exact h | with_reducible apply Tn.drew | with_reducible apply Tn.alloc | (with_reducible apply Tn.setData; case hv => (first | assumption | exact ⟨by assumption, by assumption⟩ | exact wr_r _ | exact wr16_r _ | omega | exact bit_r _ _ _ | exact nz_r _ _ | exact setf_r _ _ _ | exact setp_r _ | (unfold loI; omega) | (simp only [joinI, loI, hiI, withinI]; omega))))
  · rfl

set_option maxRecDepth 100000 in
set_option maxHeartbeats 1000000 in
theorem pha_any {B : Nat} {s : PC} {w0 w : World} (h : Tn B s w0 w) :
    Calls Tryz.prog 163 #[.pointer (some ⟨B, 0, none⟩)] w fun e w' => e = .returned (.tuple #[]) ∧ Tn B (s.doIns 35) w0 w' := by
  have c_a := h.c.ca; obtain ⟨l_a, u_a⟩ := h.c.ra; have c_data := h.c.cdata; obtain ⟨l_data, u_data⟩ := h.c.rdata
  have f_data := h.c.free 65557
  go_enter Tryz.func163, Tryz.ntmps163
  go_wp2
  go_end0
  refine ⟨rfl, ?_⟩
  apply Tn.eq
  · repeat (first | with_reducible exact h | with_reducible apply Tn.drew | with_reducible apply Tn.alloc | (with_reducible apply Tn.setData; case hv => (first | assumption | exact ⟨by assumption, by assumption⟩ | exact wr_r _ | exact wr16_r _ | omega | exact bit_r _ _ _ | exact nz_r _ _ | exact setf_r _ _ _ | exact setp_r _ | (unfold loI; omega) | (simp only [joinI, loI, hiI, withinI]; omega))))
  · rfl

set_option maxRecDepth 100000 in
set_option maxHeartbeats 1000000 in
theorem php_any {B : Nat} {s : PC} {w0 w : World} (h : Tn B s w0 w) :
    Calls Tryz.prog 164 #[.pointer (some ⟨B, 0, none⟩)] w fun e w' => e = .returned (.tuple #[]) ∧ Tn B (s.doIns 36) w0 w' := by
  have c_p := h.c.cp; obtain ⟨l_p, u_p⟩ := h.c.rp; have c_data := h.c.cdata; obtain ⟨l_data, u_data⟩ := h.c.rdata
  have f_data := h.c.free 65557
  go_enter Tryz.func164, Tryz.ntmps164
  go_wp2
  go_end0
  refine ⟨rfl, ?_⟩
  apply Tn.eq
  · repeat (first | with_reducible exact h | with_reducible apply Tn.drew | with_reducible apply Tn.alloc | (with_reducible apply Tn.setData; case hv => (first | assumption | exact ⟨by assumption, by assumption⟩ | exact wr_r _ | exact wr16_r _ | omega | exact bit_r _ _ _ | exact nz_r _ _ | exact setf_r _ _ _ | exact setp_r _ | (unfold loI; omega) | (simp only [joinI, loI, hiI, withinI]; omega))))
  · rfl

set_option maxRecDepth 100000 in
set_option maxHeartbeats 1000000 in
theorem jmp_any {B : Nat} {s : PC} {w0 w : World} (h : Tn B s w0 w) :
    Calls Tryz.prog 155 #[.pointer (some ⟨B, 0, none⟩)] w fun e w' => e = .returned (.tuple #[]) ∧ Tn B (s.doIns 27) w0 w' := by
  have c_ad := h.c.cad; obtain ⟨l_ad, u_ad⟩ := h.c.rad; have c_pc := h.c.cpc; obtain ⟨l_pc, u_pc⟩ := h.c.rpc
  have f_pc := h.c.free 65544
  go_enter Tryz.func155, Tryz.ntmps155
  go_wp2
  go_end0
  refine ⟨rfl, ?_⟩
  apply Tn.eq
  · repeat (first | with_reducible exact h | with_reducible apply Tn.drew | with_reducible apply Tn.alloc | (with_reducible apply Tn.setPc; case hv => (first | assumption | exact ⟨by assumption, by assumption⟩ | exact wr_r _ | exact wr16_r _ | omega | exact bit_r _ _ _ | exact nz_r _ _ | exact setf_r _ _ _ | exact setp_r _ | (unfold loI; omega) | (simp only [joinI, loI, hiI, withinI]; omega))))
  · rfl

set_option maxRecDepth 100000 in
set_option maxHeartbeats 1000000 in
theorem jsr_any {B : Nat} {s : PC} {w0 w : World} (h : Tn B s w0 w) :
    Calls Tryz.prog 156 #[.pointer (some ⟨B, 0, none⟩)] w fun e w' => e = .returned (.tuple #[]) ∧ Tn B (s.doIns 28) w0 w' := by
  have c_ad := h.c.cad; obtain ⟨l_ad, u_ad⟩ := h.c.rad; have c_pc := h.c.cpc; obtain ⟨l_pc, u_pc⟩ := h.c.rpc
  have f_pc := h.c.free 65544
  go_enter Tryz.func156, Tryz.ntmps156
  go_wp2
  go_end0
  refine ⟨rfl, ?_⟩
  apply Tn.eq
  · repeat (first | with_reducible exact h | with_reducible apply Tn.drew | with_reducible apply Tn.alloc | (with_reducible apply Tn.setPc; case hv => (first | assumption | exact ⟨by assumption, by assumption⟩ | exact wr_r _ | exact wr16_r _ | omega | exact bit_r _ _ _ | exact nz_r _ _ | exact setf_r _ _ _ | exact setp_r _ | (unfold loI; omega) | (simp only [joinI, loI, hiI, withinI]; omega))))
  · rfl

set_option maxRecDepth 100000 in
set_option maxHeartbeats 1000000 in
theorem rts_any {B : Nat} {s : PC} {w0 w : World} (h : Tn B s w0 w) :
    Calls Tryz.prog 170 #[.pointer (some ⟨B, 0, none⟩)] w fun e w' => e = .returned (.tuple #[]) ∧ Tn B (s.doIns 42) w0 w' := by
  have c_ad := h.c.cad; obtain ⟨l_ad, u_ad⟩ := h.c.rad; have c_pc := h.c.cpc; obtain ⟨l_pc, u_pc⟩ := h.c.rpc
  have f_pc := h.c.free 65544
  go_enter Tryz.func170, Tryz.ntmps170
  go_wp2
  go_end0
  refine ⟨rfl, ?_⟩
  apply Tn.eq
  · repeat (first | with_reducible exact h | with_reducible apply Tn.drew | with_reducible apply Tn.alloc | (with_reducible apply Tn.setPc; case hv => (first | assumption | exact ⟨by assumption, by assumption⟩ | exact wr_r _ | exact wr16_r _ | omega | exact bit_r _ _ _ | exact nz_r _ _ | exact setf_r _ _ _ | exact setp_r _ | (unfold loI; omega) | (simp only [joinI, loI, hiI, withinI]; omega))))
  · rfl

set_option maxRecDepth 100000 in
set_option maxHeartbeats 1000000 in
theorem nop_any {B : Nat} {s : PC} {w0 w : World} (h : Tn B s w0 w) :
    Calls Tryz.prog 161 #[.pointer (some ⟨B, 0, none⟩)] w fun e w' => e = .returned (.tuple #[]) ∧ Tn B (s.doIns 33) w0 w' := by
  go_enter Tryz.func161, Tryz.ntmps161
  go_wp2
  go_end0
  exact ⟨rfl, h⟩

set_option maxRecDepth 100000 in
set_option maxHeartbeats 1000000 in
theorem clc_any {B : Nat} {s : PC} {w0 w : World} (h : Tn B s w0 w) :
    Calls Tryz.prog 141 #[.pointer (some ⟨B, 0, none⟩)] w fun e w' => e = .returned (.tuple #[]) ∧ Tn B (s.doIns 13) w0 w' := by
  go_enter Tryz.func141, Tryz.ntmps141
  go_wp2_with fail
  refine (set_any h _ _).mono ?_
  rintro e w1 ⟨rfl, h1⟩
  go_wp2
  go_end0
  exact ⟨rfl, h1.eq (by rfl)⟩

set_option maxRecDepth 100000 in
set_option maxHeartbeats 1000000 in
theorem sec_any {B : Nat} {s : PC} {w0 w : World} (h : Tn B s w0 w) :
    Calls Tryz.prog 172 #[.pointer (some ⟨B, 0, none⟩)] w fun e w' => e = .returned (.tuple #[]) ∧ Tn B (s.doIns 44) w0 w' := by
  go_enter Tryz.func172, Tryz.ntmps172
  go_wp2_with fail
  refine (set_any h _ _).mono ?_
  rintro e w1 ⟨rfl, h1⟩
  go_wp2
  go_end0
  exact ⟨rfl, h1.eq (by rfl)⟩

set_option maxRecDepth 100000 in
set_option maxHeartbeats 1000000 in
theorem cli_any {B : Nat} {s : PC} {w0 w : World} (h : Tn B s w0 w) :
    Calls Tryz.prog 143 #[.pointer (some ⟨B, 0, none⟩)] w fun e w' => e = .returned (.tuple #[]) ∧ Tn B (s.doIns 15) w0 w' := by
  go_enter Tryz.func143, Tryz.ntmps143
  go_wp2_with fail
  refine (set_any h _ _).mono ?_
  rintro e w1 ⟨rfl, h1⟩
  go_wp2
  go_end0
  exact ⟨rfl, h1.eq (by rfl)⟩

set_option maxRecDepth 100000 in
set_option maxHeartbeats 1000000 in
theorem sei_any {B : Nat} {s : PC} {w0 w : World} (h : Tn B s w0 w) :
    Calls Tryz.prog 174 #[.pointer (some ⟨B, 0, none⟩)] w fun e w' => e = .returned (.tuple #[]) ∧ Tn B (s.doIns 46) w0 w' := by
  go_enter Tryz.func174, Tryz.ntmps174
  go_wp2_with fail
  refine (set_any h _ _).mono ?_
  rintro e w1 ⟨rfl, h1⟩
  go_wp2
  go_end0
  exact ⟨rfl, h1.eq (by rfl)⟩

set_option maxRecDepth 100000 in
set_option maxHeartbeats 1000000 in
theorem clv_any {B : Nat} {s : PC} {w0 w : World} (h : Tn B s w0 w) :
    Calls Tryz.prog 144 #[.pointer (some ⟨B, 0, none⟩)] w fun e w' => e = .returned (.tuple #[]) ∧ Tn B (s.doIns 16) w0 w' := by
  go_enter Tryz.func144, Tryz.ntmps144
  go_wp2_with fail
  refine (set_any h _ _).mono ?_
  rintro e w1 ⟨rfl, h1⟩
  go_wp2
  go_end0
  exact ⟨rfl, h1.eq (by rfl)⟩

set_option maxRecDepth 100000 in
set_option maxHeartbeats 1000000 in
theorem cld_any {B : Nat} {s : PC} {w0 w : World} (h : Tn B s w0 w) :
    Calls Tryz.prog 142 #[.pointer (some ⟨B, 0, none⟩)] w fun e w' => e = .returned (.tuple #[]) ∧ Tn B (s.doIns 14) w0 w' := by
  go_enter Tryz.func142, Tryz.ntmps142
  go_wp2_with fail
  refine (set_any h _ _).mono ?_
  rintro e w1 ⟨rfl, h1⟩
  go_wp2
  go_end0
  exact ⟨rfl, h1.eq (by rfl)⟩

set_option maxRecDepth 100000 in
set_option maxHeartbeats 1000000 in
theorem sed_any {B : Nat} {s : PC} {w0 w : World} (h : Tn B s w0 w) :
    Calls Tryz.prog 173 #[.pointer (some ⟨B, 0, none⟩)] w fun e w' => e = .returned (.tuple #[]) ∧ Tn B (s.doIns 45) w0 w' := by
  go_enter Tryz.func173, Tryz.ntmps173
  go_wp2_with fail
  refine (set_any h _ _).mono ?_
  rintro e w1 ⟨rfl, h1⟩
  go_wp2
  go_end0
  exact ⟨rfl, h1.eq (by rfl)⟩

end Go.Proofs.YtcgjliflnnklnabGreat
