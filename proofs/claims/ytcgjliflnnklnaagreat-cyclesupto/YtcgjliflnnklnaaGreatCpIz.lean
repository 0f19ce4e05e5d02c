/-
  The computer's instructions, walked.
-/
import Derived.Test.YtcgjliflnnklnaaGreatJ02
import Derived.Deep.RegionHeld3
namespace Go.Proofs.YtcgjliflnnklnaaGreat
open Go.RowKit
set_option maxRecDepth 100000
set_option maxHeartbeats 1000000

theorem wr_r (x : Int) : 0 ≤ IntKind.u8.wrap x ∧ IntKind.u8.wrap x < 256 := by rw [IntKind.wrap_u8']; omega
theorem wr16_r (x : Int) : 0 ≤ IntKind.u16.wrap x ∧ IntKind.u16.wrap x < 65536 := by rw [IntKind.wrap_u16]; omega

theorem loadA_any {B : Nat} {s : PC} {w0 w : World} (h : Tn B s w0 w) (b : Int) (hb : 0 ≤ b ∧ b < 256) :
    Calls Tryz.prog 280 #[.pointer (some ⟨B, 0, none⟩), .pointer (some ⟨B, 65539, none⟩), .int .u8 b] w fun e w' => e = .returned (.tuple #[]) ∧ Tn B (s.loadA b) w0 w' := by
  have c_a := h.c.ca; obtain ⟨l_a, u_a⟩ := h.c.ra
  have f_a := h.c.free 65539
  go_enter Tryz.func280, Tryz.ntmps280
  go_wp2_with fail
  refine (setNZ_any (h.setA b hb) b).mono ?_
  rintro e w1 ⟨rfl, h1⟩
  go_wp2
  go_end0
  exact ⟨rfl, h1⟩

theorem loadX_any {B : Nat} {s : PC} {w0 w : World} (h : Tn B s w0 w) (b : Int) (hb : 0 ≤ b ∧ b < 256) :
    Calls Tryz.prog 280 #[.pointer (some ⟨B, 0, none⟩), .pointer (some ⟨B, 65540, none⟩), .int .u8 b] w fun e w' => e = .returned (.tuple #[]) ∧ Tn B (s.loadX b) w0 w' := by
  have c_x := h.c.cx; obtain ⟨l_x, u_x⟩ := h.c.rx
  have f_x := h.c.free 65540
  go_enter Tryz.func280, Tryz.ntmps280
  go_wp2_with fail
  refine (setNZ_any (h.setX b hb) b).mono ?_
  rintro e w1 ⟨rfl, h1⟩
  go_wp2
  go_end0
  exact ⟨rfl, h1⟩

theorem loadY_any {B : Nat} {s : PC} {w0 w : World} (h : Tn B s w0 w) (b : Int) (hb : 0 ≤ b ∧ b < 256) :
    Calls Tryz.prog 280 #[.pointer (some ⟨B, 0, none⟩), .pointer (some ⟨B, 65541, none⟩), .int .u8 b] w fun e w' => e = .returned (.tuple #[]) ∧ Tn B (s.loadY b) w0 w' := by
  have c_y := h.c.cy; obtain ⟨l_y, u_y⟩ := h.c.ry
  have f_y := h.c.free 65541
  go_enter Tryz.func280, Tryz.ntmps280
  go_wp2_with fail
  refine (setNZ_any (h.setY b hb) b).mono ?_
  rintro e w1 ⟨rfl, h1⟩
  go_wp2
  go_end0
  exact ⟨rfl, h1⟩

theorem loadD_any {B : Nat} {s : PC} {w0 w : World} (h : Tn B s w0 w) (b : Int) (hb : 0 ≤ b ∧ b < 256) :
    Calls Tryz.prog 280 #[.pointer (some ⟨B, 0, none⟩), .pointer (some ⟨B, 65557, none⟩), .int .u8 b] w fun e w' => e = .returned (.tuple #[]) ∧ Tn B (s.loadD b) w0 w' := by
  have c_data := h.c.cdata; obtain ⟨l_data, u_data⟩ := h.c.rdata
  have f_data := h.c.free 65557
  go_enter Tryz.func280, Tryz.ntmps280
  go_wp2_with fail
  refine (setNZ_any (h.setData b hb) b).mono ?_
  rintro e w1 ⟨rfl, h1⟩
  go_wp2
  go_end0
  exact ⟨rfl, h1⟩

theorem lda_any {B : Nat} {s : PC} {w0 w : World} (h : Tn B s w0 w) :
    Calls Tryz.prog 244 #[.pointer (some ⟨B, 0, none⟩)] w fun e w' => e = .returned (.tuple #[]) ∧ Tn B (s.doIns 29) w0 w' := by
  have c_data := h.c.cdata; obtain ⟨l_data, u_data⟩ := h.c.rdata
  go_enter Tryz.func244, Tryz.ntmps244
  go_wp2
  go_region_with (first | (go_at_call 280; refine (loadA_any h.drew _ (by first | exact ⟨by assumption, by assumption⟩ | exact bit_r _ _ _ | exact wr_r _ | omega)).mono ?_; rintro e w1 ⟨rfl, h1⟩))
  all_goals go_wp2
  all_goals go_end0
  all_goals exact ⟨rfl, h1.eq (by rfl)⟩

theorem ldx_any {B : Nat} {s : PC} {w0 w : World} (h : Tn B s w0 w) :
    Calls Tryz.prog 245 #[.pointer (some ⟨B, 0, none⟩)] w fun e w' => e = .returned (.tuple #[]) ∧ Tn B (s.doIns 30) w0 w' := by
  have c_data := h.c.cdata; obtain ⟨l_data, u_data⟩ := h.c.rdata
  go_enter Tryz.func245, Tryz.ntmps245
  go_wp2
  go_region_with (first | (go_at_call 280; refine (loadX_any h.drew _ (by first | exact ⟨by assumption, by assumption⟩ | exact bit_r _ _ _ | exact wr_r _ | omega)).mono ?_; rintro e w1 ⟨rfl, h1⟩))
  all_goals go_wp2
  all_goals go_end0
  all_goals exact ⟨rfl, h1.eq (by rfl)⟩

theorem ldy_any {B : Nat} {s : PC} {w0 w : World} (h : Tn B s w0 w) :
    Calls Tryz.prog 246 #[.pointer (some ⟨B, 0, none⟩)] w fun e w' => e = .returned (.tuple #[]) ∧ Tn B (s.doIns 31) w0 w' := by
  have c_data := h.c.cdata; obtain ⟨l_data, u_data⟩ := h.c.rdata
  go_enter Tryz.func246, Tryz.ntmps246
  go_wp2
  go_region_with (first | (go_at_call 280; refine (loadY_any h.drew _ (by first | exact ⟨by assumption, by assumption⟩ | exact bit_r _ _ _ | exact wr_r _ | omega)).mono ?_; rintro e w1 ⟨rfl, h1⟩))
  all_goals go_wp2
  all_goals go_end0
  all_goals exact ⟨rfl, h1.eq (by rfl)⟩

theorem tax_any {B : Nat} {s : PC} {w0 w : World} (h : Tn B s w0 w) :
    Calls Tryz.prog 265 #[.pointer (some ⟨B, 0, none⟩)] w fun e w' => e = .returned (.tuple #[]) ∧ Tn B (s.doIns 50) w0 w' := by
  have c_a := h.c.ca; obtain ⟨l_a, u_a⟩ := h.c.ra
  go_enter Tryz.func265, Tryz.ntmps265
  go_wp2
  go_region_with (first | (go_at_call 280; refine (loadX_any h.drew _ (by first | exact ⟨by assumption, by assumption⟩ | exact bit_r _ _ _ | exact wr_r _ | omega)).mono ?_; rintro e w1 ⟨rfl, h1⟩))
  all_goals go_wp2
  all_goals go_end0
  all_goals exact ⟨rfl, h1.eq (by rfl)⟩

theorem tay_any {B : Nat} {s : PC} {w0 w : World} (h : Tn B s w0 w) :
    Calls Tryz.prog 266 #[.pointer (some ⟨B, 0, none⟩)] w fun e w' => e = .returned (.tuple #[]) ∧ Tn B (s.doIns 51) w0 w' := by
  have c_a := h.c.ca; obtain ⟨l_a, u_a⟩ := h.c.ra
  go_enter Tryz.func266, Tryz.ntmps266
  go_wp2
  go_region_with (first | (go_at_call 280; refine (loadY_any h.drew _ (by first | exact ⟨by assumption, by assumption⟩ | exact bit_r _ _ _ | exact wr_r _ | omega)).mono ?_; rintro e w1 ⟨rfl, h1⟩))
  all_goals go_wp2
  all_goals go_end0
  all_goals exact ⟨rfl, h1.eq (by rfl)⟩

theorem tsx_any {B : Nat} {s : PC} {w0 w : World} (h : Tn B s w0 w) :
    Calls Tryz.prog 267 #[.pointer (some ⟨B, 0, none⟩)] w fun e w' => e = .returned (.tuple #[]) ∧ Tn B (s.doIns 52) w0 w' := by
  have c_s := h.c.cs; obtain ⟨l_s, u_s⟩ := h.c.rs
  go_enter Tryz.func267, Tryz.ntmps267
  go_wp2
  go_region_with (first | (go_at_call 280; refine (loadX_any h.drew _ (by first | exact ⟨by assumption, by assumption⟩ | exact bit_r _ _ _ | exact wr_r _ | omega)).mono ?_; rintro e w1 ⟨rfl, h1⟩))
  all_goals go_wp2
  all_goals go_end0
  all_goals exact ⟨rfl, h1.eq (by rfl)⟩

theorem txa_any {B : Nat} {s : PC} {w0 w : World} (h : Tn B s w0 w) :
    Calls Tryz.prog 268 #[.pointer (some ⟨B, 0, none⟩)] w fun e w' => e = .returned (.tuple #[]) ∧ Tn B (s.doIns 53) w0 w' := by
  have c_x := h.c.cx; obtain ⟨l_x, u_x⟩ := h.c.rx
  go_enter Tryz.func268, Tryz.ntmps268
  go_wp2
  go_region_with (first | (go_at_call 280; refine (loadA_any h.drew _ (by first | exact ⟨by assumption, by assumption⟩ | exact bit_r _ _ _ | exact wr_r _ | omega)).mono ?_; rintro e w1 ⟨rfl, h1⟩))
  all_goals go_wp2
  all_goals go_end0
  all_goals exact ⟨rfl, h1.eq (by rfl)⟩

theorem tya_any {B : Nat} {s : PC} {w0 w : World} (h : Tn B s w0 w) :
    Calls Tryz.prog 270 #[.pointer (some ⟨B, 0, none⟩)] w fun e w' => e = .returned (.tuple #[]) ∧ Tn B (s.doIns 55) w0 w' := by
  have c_y := h.c.cy; obtain ⟨l_y, u_y⟩ := h.c.ry
  go_enter Tryz.func270, Tryz.ntmps270
  go_wp2
  go_region_with (first | (go_at_call 280; refine (loadA_any h.drew _ (by first | exact ⟨by assumption, by assumption⟩ | exact bit_r _ _ _ | exact wr_r _ | omega)).mono ?_; rintro e w1 ⟨rfl, h1⟩))
  all_goals go_wp2
  all_goals go_end0
  all_goals exact ⟨rfl, h1.eq (by rfl)⟩

theorem pla_any {B : Nat} {s : PC} {w0 w : World} (h : Tn B s w0 w) :
    Calls Tryz.prog 252 #[.pointer (some ⟨B, 0, none⟩)] w fun e w' => e = .returned (.tuple #[]) ∧ Tn B (s.doIns 37) w0 w' := by
  have c_data := h.c.cdata; obtain ⟨l_data, u_data⟩ := h.c.rdata
  go_enter Tryz.func252, Tryz.ntmps252
  go_wp2
  go_region_with (first | (go_at_call 280; refine (loadA_any h.drew _ (by first | exact ⟨by assumption, by assumption⟩ | exact bit_r _ _ _ | exact wr_r _ | omega)).mono ?_; rintro e w1 ⟨rfl, h1⟩))
  all_goals go_wp2
  all_goals go_end0
  all_goals exact ⟨rfl, h1.eq (by rfl)⟩

theorem and_any {B : Nat} {s : PC} {w0 w : World} (h : Tn B s w0 w) :
    Calls Tryz.prog 216 #[.pointer (some ⟨B, 0, none⟩)] w fun e w' => e = .returned (.tuple #[]) ∧ Tn B (s.doIns 1) w0 w' := by
  have c_a := h.c.ca; obtain ⟨l_a, u_a⟩ := h.c.ra; have c_data := h.c.cdata; obtain ⟨l_data, u_data⟩ := h.c.rdata
  go_enter Tryz.func216, Tryz.ntmps216
  go_wp2
  go_region_with (first | (go_at_call 280; refine (loadA_any h.drew _ (by first | exact ⟨by assumption, by assumption⟩ | exact bit_r _ _ _ | exact wr_r _ | omega)).mono ?_; rintro e w1 ⟨rfl, h1⟩))
  all_goals go_wp2
  all_goals go_end0
  all_goals exact ⟨rfl, h1.eq (by rfl)⟩

theorem ora_any {B : Nat} {s : PC} {w0 w : World} (h : Tn B s w0 w) :
    Calls Tryz.prog 249 #[.pointer (some ⟨B, 0, none⟩)] w fun e w' => e = .returned (.tuple #[]) ∧ Tn B (s.doIns 34) w0 w' := by
  have c_a := h.c.ca; obtain ⟨l_a, u_a⟩ := h.c.ra; have c_data := h.c.cdata; obtain ⟨l_data, u_data⟩ := h.c.rdata
  go_enter Tryz.func249, Tryz.ntmps249
  go_wp2
  go_region_with (first | (go_at_call 280; refine (loadA_any h.drew _ (by first | exact ⟨by assumption, by assumption⟩ | exact bit_r _ _ _ | exact wr_r _ | omega)).mono ?_; rintro e w1 ⟨rfl, h1⟩))
  all_goals go_wp2
  all_goals go_end0
  all_goals exact ⟨rfl, h1.eq (by rfl)⟩

theorem eor_any {B : Nat} {s : PC} {w0 w : World} (h : Tn B s w0 w) :
    Calls Tryz.prog 238 #[.pointer (some ⟨B, 0, none⟩)] w fun e w' => e = .returned (.tuple #[]) ∧ Tn B (s.doIns 23) w0 w' := by
  have c_a := h.c.ca; obtain ⟨l_a, u_a⟩ := h.c.ra; have c_data := h.c.cdata; obtain ⟨l_data, u_data⟩ := h.c.rdata
  go_enter Tryz.func238, Tryz.ntmps238
  go_wp2
  go_region_with (first | (go_at_call 280; refine (loadA_any h.drew _ (by first | exact ⟨by assumption, by assumption⟩ | exact bit_r _ _ _ | exact wr_r _ | omega)).mono ?_; rintro e w1 ⟨rfl, h1⟩))
  all_goals go_wp2
  all_goals go_end0
  all_goals exact ⟨rfl, h1.eq (by rfl)⟩

theorem inc_any {B : Nat} {s : PC} {w0 w : World} (h : Tn B s w0 w) :
    Calls Tryz.prog 239 #[.pointer (some ⟨B, 0, none⟩)] w fun e w' => e = .returned (.tuple #[]) ∧ Tn B (s.doIns 24) w0 w' := by
  have c_data := h.c.cdata; obtain ⟨l_data, u_data⟩ := h.c.rdata
  go_enter Tryz.func239, Tryz.ntmps239
  go_wp2
  go_region_with (first | (go_at_call 280; refine (loadD_any h.drew _ (by first | exact ⟨by assumption, by assumption⟩ | exact bit_r _ _ _ | exact wr_r _ | omega)).mono ?_; rintro e w1 ⟨rfl, h1⟩))
  all_goals go_wp2
  all_goals go_end0
  all_goals exact ⟨rfl, h1.eq (by rfl)⟩

theorem dec_any {B : Nat} {s : PC} {w0 w : World} (h : Tn B s w0 w) :
    Calls Tryz.prog 235 #[.pointer (some ⟨B, 0, none⟩)] w fun e w' => e = .returned (.tuple #[]) ∧ Tn B (s.doIns 20) w0 w' := by
  have c_data := h.c.cdata; obtain ⟨l_data, u_data⟩ := h.c.rdata
  go_enter Tryz.func235, Tryz.ntmps235
  go_wp2
  go_region_with (first | (go_at_call 280; refine (loadD_any h.drew _ (by first | exact ⟨by assumption, by assumption⟩ | exact bit_r _ _ _ | exact wr_r _ | omega)).mono ?_; rintro e w1 ⟨rfl, h1⟩))
  all_goals go_wp2
  all_goals go_end0
  all_goals exact ⟨rfl, h1.eq (by rfl)⟩

theorem inx_any {B : Nat} {s : PC} {w0 w : World} (h : Tn B s w0 w) :
    Calls Tryz.prog 240 #[.pointer (some ⟨B, 0, none⟩)] w fun e w' => e = .returned (.tuple #[]) ∧ Tn B (s.doIns 25) w0 w' := by
  have c_x := h.c.cx; obtain ⟨l_x, u_x⟩ := h.c.rx
  go_enter Tryz.func240, Tryz.ntmps240
  go_wp2
  go_region_with (first | (go_at_call 280; refine (loadX_any h.drew _ (by first | exact ⟨by assumption, by assumption⟩ | exact bit_r _ _ _ | exact wr_r _ | omega)).mono ?_; rintro e w1 ⟨rfl, h1⟩))
  all_goals go_wp2
  all_goals go_end0
  all_goals exact ⟨rfl, h1.eq (by rfl)⟩

theorem dex_any {B : Nat} {s : PC} {w0 w : World} (h : Tn B s w0 w) :
    Calls Tryz.prog 236 #[.pointer (some ⟨B, 0, none⟩)] w fun e w' => e = .returned (.tuple #[]) ∧ Tn B (s.doIns 21) w0 w' := by
  have c_x := h.c.cx; obtain ⟨l_x, u_x⟩ := h.c.rx
  go_enter Tryz.func236, Tryz.ntmps236
  go_wp2
  go_region_with (first | (go_at_call 280; refine (loadX_any h.drew _ (by first | exact ⟨by assumption, by assumption⟩ | exact bit_r _ _ _ | exact wr_r _ | omega)).mono ?_; rintro e w1 ⟨rfl, h1⟩))
  all_goals go_wp2
  all_goals go_end0
  all_goals exact ⟨rfl, h1.eq (by rfl)⟩

theorem iny_any {B : Nat} {s : PC} {w0 w : World} (h : Tn B s w0 w) :
    Calls Tryz.prog 241 #[.pointer (some ⟨B, 0, none⟩)] w fun e w' => e = .returned (.tuple #[]) ∧ Tn B (s.doIns 26) w0 w' := by
  have c_y := h.c.cy; obtain ⟨l_y, u_y⟩ := h.c.ry
  go_enter Tryz.func241, Tryz.ntmps241
  go_wp2
  go_region_with (first | (go_at_call 280; refine (loadY_any h.drew _ (by first | exact ⟨by assumption, by assumption⟩ | exact bit_r _ _ _ | exact wr_r _ | omega)).mono ?_; rintro e w1 ⟨rfl, h1⟩))
  all_goals go_wp2
  all_goals go_end0
  all_goals exact ⟨rfl, h1.eq (by rfl)⟩

theorem dey_any {B : Nat} {s : PC} {w0 w : World} (h : Tn B s w0 w) :
    Calls Tryz.prog 237 #[.pointer (some ⟨B, 0, none⟩)] w fun e w' => e = .returned (.tuple #[]) ∧ Tn B (s.doIns 22) w0 w' := by
  have c_y := h.c.cy; obtain ⟨l_y, u_y⟩ := h.c.ry
  go_enter Tryz.func237, Tryz.ntmps237
  go_wp2
  go_region_with (first | (go_at_call 280; refine (loadY_any h.drew _ (by first | exact ⟨by assumption, by assumption⟩ | exact bit_r _ _ _ | exact wr_r _ | omega)).mono ?_; rintro e w1 ⟨rfl, h1⟩))
  all_goals go_wp2
  all_goals go_end0
  all_goals exact ⟨rfl, h1.eq (by rfl)⟩

theorem txs_any {B : Nat} {s : PC} {w0 w : World} (h : Tn B s w0 w) :
    Calls Tryz.prog 269 #[.pointer (some ⟨B, 0, none⟩)] w fun e w' => e = .returned (.tuple #[]) ∧ Tn B (s.doIns 54) w0 w' := by
  have c_x := h.c.cx; obtain ⟨l_x, u_x⟩ := h.c.rx; have c_s := h.c.cs; obtain ⟨l_s, u_s⟩ := h.c.rs
  have f_s := h.c.free 65542
  go_enter Tryz.func269, Tryz.ntmps269
  go_wp2
  go_end0
  refine ⟨rfl, ?_⟩
  apply Tn.eq
  · repeat (first | with_reducible exact h | with_reducible apply Tn.drew | with_reducible apply Tn.alloc | (with_reducible apply Tn.setS; case hv => (first | assumption | exact ⟨by assumption, by assumption⟩ | exact wr_r _ | exact wr16_r _ | omega | exact bit_r _ _ _ | exact nz_r _ _ | exact setf_r _ _ _ | exact setp_r _ | (unfold loI; omega) | (simp only [joinI, loI, hiI, withinI]; omega))))
  · rfl

theorem sta_any {B : Nat} {s : PC} {w0 w : World} (h : Tn B s w0 w) :
    Calls Tryz.prog 262 #[.pointer (some ⟨B, 0, none⟩)] w fun e w' => e = .returned (.tuple #[]) ∧ Tn B (s.doIns 47) w0 w' := by
  have c_a := h.c.ca; obtain ⟨l_a, u_a⟩ := h.c.ra; have c_data := h.c.cdata; obtain ⟨l_data, u_data⟩ := h.c.rdata
  have f_data := h.c.free 65557
  go_enter Tryz.func262, Tryz.ntmps262
  go_wp2
  go_end0
  refine ⟨rfl, ?_⟩
  apply Tn.eq
  · repeat (first | with_reducible exact h | with_reducible apply Tn.drew | with_reducible apply Tn.alloc | (with_reducible apply Tn.setData; case hv => (first | assumption | exact ⟨by assumption, by assumption⟩ | exact wr_r _ | exact wr16_r _ | omega | exact bit_r _ _ _ | exact nz_r _ _ | exact setf_r _ _ _ | exact setp_r _ | (unfold loI; omega) | (simp only [joinI, loI, hiI, withinI]; omega))))
  · rfl

theorem stx_any {B : Nat} {s : PC} {w0 w : World} (h : Tn B s w0 w) :
    Calls Tryz.prog 263 #[.pointer (some ⟨B, 0, none⟩)] w fun e w' => e = .returned (.tuple #[]) ∧ Tn B (s.doIns 48) w0 w' := by
  have c_x := h.c.cx; obtain ⟨l_x, u_x⟩ := h.c.rx; have c_data := h.c.cdata; obtain ⟨l_data, u_data⟩ := h.c.rdata
  have f_data := h.c.free 65557
  go_enter Tryz.func263, Tryz.ntmps263
  go_wp2
  go_end0
  refine ⟨rfl, ?_⟩
  apply Tn.eq
  · repeat (first | with_reducible exact h | with_reducible apply Tn.drew | with_reducible apply Tn.alloc | (with_reducible apply Tn.setData; case hv => (first | assumption | exact ⟨by assumption, by assumption⟩ | exact wr_r _ | exact wr16_r _ | omega | exact bit_r _ _ _ | exact nz_r _ _ | exact setf_r _ _ _ | exact setp_r _ | (unfold loI; omega) | (simp only [joinI, loI, hiI, withinI]; omega))))
  · rfl

theorem sty_any {B : Nat} {s : PC} {w0 w : World} (h : Tn B s w0 w) :
    Calls Tryz.prog 264 #[.pointer (some ⟨B, 0, none⟩)] w fun e w' => e = .returned (.tuple #[]) ∧ Tn B (s.doIns 49) w0 w' := by
  have c_y := h.c.cy; obtain ⟨l_y, u_y⟩ := h.c.ry; have c_data := h.c.cdata; obtain ⟨l_data, u_data⟩ := h.c.rdata
  have f_data := h.c.free 65557
  go_enter Tryz.func264, Tryz.ntmps264
  go_wp2
  go_end0
  refine ⟨rfl, ?_⟩
  apply Tn.eq
  · repeat (first | with_reducible exact h | with_reducible apply Tn.drew | with_reducible apply Tn.alloc | (with_reducible apply Tn.setData; case hv => (first | assumption | exact ⟨by assumption, by assumption⟩ | exact wr_r _ | exact wr16_r _ | omega | exact bit_r _ _ _ | exact nz_r _ _ | exact setf_r _ _ _ | exact setp_r _ | (unfold loI; omega) | (simp only [joinI, loI, hiI, withinI]; omega))))
  · rfl

theorem pha_any {B : Nat} {s : PC} {w0 w : World} (h : Tn B s w0 w) :
    Calls Tryz.prog 250 #[.pointer (some ⟨B, 0, none⟩)] w fun e w' => e = .returned (.tuple #[]) ∧ Tn B (s.doIns 35) w0 w' := by
  have c_a := h.c.ca; obtain ⟨l_a, u_a⟩ := h.c.ra; have c_data := h.c.cdata; obtain ⟨l_data, u_data⟩ := h.c.rdata
  have f_data := h.c.free 65557
  go_enter Tryz.func250, Tryz.ntmps250
  go_wp2
  go_end0
  refine ⟨rfl, ?_⟩
  apply Tn.eq
  · repeat (first | with_reducible exact h | with_reducible apply Tn.drew | with_reducible apply Tn.alloc | (with_reducible apply Tn.setData; case hv => (first | assumption | exact ⟨by assumption, by assumption⟩ | exact wr_r _ | exact wr16_r _ | omega | exact bit_r _ _ _ | exact nz_r _ _ | exact setf_r _ _ _ | exact setp_r _ | (unfold loI; omega) | (simp only [joinI, loI, hiI, withinI]; omega))))
  · rfl

theorem php_any {B : Nat} {s : PC} {w0 w : World} (h : Tn B s w0 w) :
    Calls Tryz.prog 251 #[.pointer (some ⟨B, 0, none⟩)] w fun e w' => e = .returned (.tuple #[]) ∧ Tn B (s.doIns 36) w0 w' := by
  have c_p := h.c.cp; obtain ⟨l_p, u_p⟩ := h.c.rp; have c_data := h.c.cdata; obtain ⟨l_data, u_data⟩ := h.c.rdata
  have f_data := h.c.free 65557
  go_enter Tryz.func251, Tryz.ntmps251
  go_wp2
  go_end0
  refine ⟨rfl, ?_⟩
  apply Tn.eq
  · repeat (first | with_reducible exact h | with_reducible apply Tn.drew | with_reducible apply Tn.alloc | (with_reducible apply Tn.setData; case hv => (first | assumption | exact ⟨by assumption, by assumption⟩ | exact wr_r _ | exact wr16_r _ | omega | exact bit_r _ _ _ | exact nz_r _ _ | exact setf_r _ _ _ | exact setp_r _ | (unfold loI; omega) | (simp only [joinI, loI, hiI, withinI]; omega))))
  · rfl

theorem jmp_any {B : Nat} {s : PC} {w0 w : World} (h : Tn B s w0 w) :
    Calls Tryz.prog 242 #[.pointer (some ⟨B, 0, none⟩)] w fun e w' => e = .returned (.tuple #[]) ∧ Tn B (s.doIns 27) w0 w' := by
  have c_ad := h.c.cad; obtain ⟨l_ad, u_ad⟩ := h.c.rad; have c_pc := h.c.cpc; obtain ⟨l_pc, u_pc⟩ := h.c.rpc
  have f_pc := h.c.free 65544
  go_enter Tryz.func242, Tryz.ntmps242
  go_wp2
  go_end0
  refine ⟨rfl, ?_⟩
  apply Tn.eq
  · repeat (first | with_reducible exact h | with_reducible apply Tn.drew | with_reducible apply Tn.alloc | (with_reducible apply Tn.setPc; case hv => (first | assumption | exact ⟨by assumption, by assumption⟩ | exact wr_r _ | exact wr16_r _ | omega | exact bit_r _ _ _ | exact nz_r _ _ | exact setf_r _ _ _ | exact setp_r _ | (unfold loI; omega) | (simp only [joinI, loI, hiI, withinI]; omega))))
  · rfl

theorem jsr_any {B : Nat} {s : PC} {w0 w : World} (h : Tn B s w0 w) :
    Calls Tryz.prog 243 #[.pointer (some ⟨B, 0, none⟩)] w fun e w' => e = .returned (.tuple #[]) ∧ Tn B (s.doIns 28) w0 w' := by
  have c_ad := h.c.cad; obtain ⟨l_ad, u_ad⟩ := h.c.rad; have c_pc := h.c.cpc; obtain ⟨l_pc, u_pc⟩ := h.c.rpc
  have f_pc := h.c.free 65544
  go_enter Tryz.func243, Tryz.ntmps243
  go_wp2
  go_end0
  refine ⟨rfl, ?_⟩
  apply Tn.eq
  · repeat (first | with_reducible exact h | with_reducible apply Tn.drew | with_reducible apply Tn.alloc | (with_reducible apply Tn.setPc; case hv => (first | assumption | exact ⟨by assumption, by assumption⟩ | exact wr_r _ | exact wr16_r _ | omega | exact bit_r _ _ _ | exact nz_r _ _ | exact setf_r _ _ _ | exact setp_r _ | (unfold loI; omega) | (simp only [joinI, loI, hiI, withinI]; omega))))
  · rfl

theorem rts_any {B : Nat} {s : PC} {w0 w : World} (h : Tn B s w0 w) :
    Calls Tryz.prog 257 #[.pointer (some ⟨B, 0, none⟩)] w fun e w' => e = .returned (.tuple #[]) ∧ Tn B (s.doIns 42) w0 w' := by
  have c_ad := h.c.cad; obtain ⟨l_ad, u_ad⟩ := h.c.rad; have c_pc := h.c.cpc; obtain ⟨l_pc, u_pc⟩ := h.c.rpc
  have f_pc := h.c.free 65544
  go_enter Tryz.func257, Tryz.ntmps257
  go_wp2
  go_end0
  refine ⟨rfl, ?_⟩
  apply Tn.eq
  · repeat (first | with_reducible exact h | with_reducible apply Tn.drew | with_reducible apply Tn.alloc | (with_reducible apply Tn.setPc; case hv => (first | assumption | exact ⟨by assumption, by assumption⟩ | exact wr_r _ | exact wr16_r _ | omega | exact bit_r _ _ _ | exact nz_r _ _ | exact setf_r _ _ _ | exact setp_r _ | (unfold loI; omega) | (simp only [joinI, loI, hiI, withinI]; omega))))
  · rfl

theorem nop_any {B : Nat} {s : PC} {w0 w : World} (h : Tn B s w0 w) :
    Calls Tryz.prog 248 #[.pointer (some ⟨B, 0, none⟩)] w fun e w' => e = .returned (.tuple #[]) ∧ Tn B (s.doIns 33) w0 w' := by
  go_enter Tryz.func248, Tryz.ntmps248
  go_wp2
  go_end0
  exact ⟨rfl, h⟩

theorem clc_any {B : Nat} {s : PC} {w0 w : World} (h : Tn B s w0 w) :
    Calls Tryz.prog 228 #[.pointer (some ⟨B, 0, none⟩)] w fun e w' => e = .returned (.tuple #[]) ∧ Tn B (s.doIns 13) w0 w' := by
  go_enter Tryz.func228, Tryz.ntmps228
  go_wp2_with fail
  refine (set_any h _ _).mono ?_
  rintro e w1 ⟨rfl, h1⟩
  go_wp2
  go_end0
  exact ⟨rfl, h1.eq (by rfl)⟩

theorem sec_any {B : Nat} {s : PC} {w0 w : World} (h : Tn B s w0 w) :
    Calls Tryz.prog 259 #[.pointer (some ⟨B, 0, none⟩)] w fun e w' => e = .returned (.tuple #[]) ∧ Tn B (s.doIns 44) w0 w' := by
  go_enter Tryz.func259, Tryz.ntmps259
  go_wp2_with fail
  refine (set_any h _ _).mono ?_
  rintro e w1 ⟨rfl, h1⟩
  go_wp2
  go_end0
  exact ⟨rfl, h1.eq (by rfl)⟩

theorem cli_any {B : Nat} {s : PC} {w0 w : World} (h : Tn B s w0 w) :
    Calls Tryz.prog 230 #[.pointer (some ⟨B, 0, none⟩)] w fun e w' => e = .returned (.tuple #[]) ∧ Tn B (s.doIns 15) w0 w' := by
  go_enter Tryz.func230, Tryz.ntmps230
  go_wp2_with fail
  refine (set_any h _ _).mono ?_
  rintro e w1 ⟨rfl, h1⟩
  go_wp2
  go_end0
  exact ⟨rfl, h1.eq (by rfl)⟩

theorem sei_any {B : Nat} {s : PC} {w0 w : World} (h : Tn B s w0 w) :
    Calls Tryz.prog 261 #[.pointer (some ⟨B, 0, none⟩)] w fun e w' => e = .returned (.tuple #[]) ∧ Tn B (s.doIns 46) w0 w' := by
  go_enter Tryz.func261, Tryz.ntmps261
  go_wp2_with fail
  refine (set_any h _ _).mono ?_
  rintro e w1 ⟨rfl, h1⟩
  go_wp2
  go_end0
  exact ⟨rfl, h1.eq (by rfl)⟩

theorem clv_any {B : Nat} {s : PC} {w0 w : World} (h : Tn B s w0 w) :
    Calls Tryz.prog 231 #[.pointer (some ⟨B, 0, none⟩)] w fun e w' => e = .returned (.tuple #[]) ∧ Tn B (s.doIns 16) w0 w' := by
  go_enter Tryz.func231, Tryz.ntmps231
  go_wp2_with fail
  refine (set_any h _ _).mono ?_
  rintro e w1 ⟨rfl, h1⟩
  go_wp2
  go_end0
  exact ⟨rfl, h1.eq (by rfl)⟩

theorem cld_any {B : Nat} {s : PC} {w0 w : World} (h : Tn B s w0 w) :
    Calls Tryz.prog 229 #[.pointer (some ⟨B, 0, none⟩)] w fun e w' => e = .returned (.tuple #[]) ∧ Tn B (s.doIns 14) w0 w' := by
  go_enter Tryz.func229, Tryz.ntmps229
  go_wp2_with fail
  refine (set_any h _ _).mono ?_
  rintro e w1 ⟨rfl, h1⟩
  go_wp2
  go_end0
  exact ⟨rfl, h1.eq (by rfl)⟩

theorem sed_any {B : Nat} {s : PC} {w0 w : World} (h : Tn B s w0 w) :
    Calls Tryz.prog 260 #[.pointer (some ⟨B, 0, none⟩)] w fun e w' => e = .returned (.tuple #[]) ∧ Tn B (s.doIns 45) w0 w' := by
  go_enter Tryz.func260, Tryz.ntmps260
  go_wp2_with fail
  refine (set_any h _ _).mono ?_
  rintro e w1 ⟨rfl, h1⟩
  go_wp2
  go_end0
  exact ⟨rfl, h1.eq (by rfl)⟩

end Go.Proofs.YtcgjliflnnklnaaGreat
