/-
  The document's computer, walked: branches.
-/
import Derived.Test.YtcgjliflnnklnaaGreatJ04
import Derived.Handy
namespace Go.Proofs.YtcgjliflnnklnaaGreat
open Go.RowKit
set_option maxRecDepth 100000
set_option maxHeartbeats 2000000

theorem ret_tk {p : Int} {b v : Bool} (m : Int) (t : Bool) (h : b = ((bits .and .i64 p m != 0) == t)) (e : v = b) : Ending.returned (.bool v) = .returned (.bool ((bits .and .i64 p m != 0) == t)) := by rw [e, h]

theorem tk_BCC (md : BA) (p : Int) (w : World) :
    Calls Tryz.prog 153 #[cdV (b3 66 67 67) md, .int .i64 p] w fun e w' => e = .returned (.bool ((bits .and .i64 p 1 != 0) == false)) ∧ ∃ o1 o2 o3 m, w' = (((w.alloc o1).alloc o2).alloc o3).drewN m := by
  unfold b3 cdV
  go_enter Tryz.func153, Tryz.ntmps153
  go_wp2_with fail
  go_loopw [7] (fun i wr => ∃ (j : Int) (m : Nat), 0 ≤ j ∧ j ≤ 0 ∧ i = .int .i64 j ∧ wr = (((w.alloc (.cells #[.string ⟨#[66, 67, 67]⟩, .string md] 192)).alloc (.cells #[.int .i64 1, .int .i64 1, .int .i64 2, .int .i64 2, .int .i64 128, .int .i64 128, .int .i64 64, .int .i64 64] 3)).alloc (.cells #[.string ⟨#[66, 67, 67]⟩, .string ⟨#[66, 67, 83]⟩, .string ⟨#[66, 78, 69]⟩, .string ⟨#[66, 69, 81]⟩, .string ⟨#[66, 80, 76]⟩, .string ⟨#[66, 77, 73]⟩, .string ⟨#[66, 86, 67]⟩, .string ⟨#[66, 86, 83]⟩] 9)).drewN m) (fun i _ => 8 - (intOf i).toNat)
  case atStart => exact ⟨0, 0, by omega, by omega, rfl, rfl⟩
  case round =>
    obtain ⟨j, m, h0, h1, rfl, rfl⟩ := hrel
    rcases (show j = 0 from by omega) with rfl
    · by_cases hq : bits .and .i64 p 1 = 0
      · go_wp2_with fail
        go_quiet (fail)
        go_wp2
        go_ret
        exact ⟨ret_tk 1 false (by first | (simp; done) | (simp [hq]; done)) rfl, _, _, _, _, by first | rfl | exact World.drewN_drewN _ _ _⟩
      · go_wp2_with fail
        go_quiet (fail)
        go_wp2
        go_ret
        exact ⟨ret_tk 1 false (by first | (simp; done) | (simp [hq]; done)) rfl, _, _, _, _, by first | rfl | exact World.drewN_drewN _ _ _⟩
theorem tk_BCS (md : BA) (p : Int) (w : World) :
    Calls Tryz.prog 153 #[cdV (b3 66 67 83) md, .int .i64 p] w fun e w' => e = .returned (.bool ((bits .and .i64 p 1 != 0) == true)) ∧ ∃ o1 o2 o3 m, w' = (((w.alloc o1).alloc o2).alloc o3).drewN m := by
  unfold b3 cdV
  go_enter Tryz.func153, Tryz.ntmps153
  go_wp2_with fail
  go_loopw [7] (fun i wr => ∃ (j : Int) (m : Nat), 0 ≤ j ∧ j ≤ 1 ∧ i = .int .i64 j ∧ wr = (((w.alloc (.cells #[.string ⟨#[66, 67, 83]⟩, .string md] 192)).alloc (.cells #[.int .i64 1, .int .i64 1, .int .i64 2, .int .i64 2, .int .i64 128, .int .i64 128, .int .i64 64, .int .i64 64] 3)).alloc (.cells #[.string ⟨#[66, 67, 67]⟩, .string ⟨#[66, 67, 83]⟩, .string ⟨#[66, 78, 69]⟩, .string ⟨#[66, 69, 81]⟩, .string ⟨#[66, 80, 76]⟩, .string ⟨#[66, 77, 73]⟩, .string ⟨#[66, 86, 67]⟩, .string ⟨#[66, 86, 83]⟩] 9)).drewN m) (fun i _ => 8 - (intOf i).toNat)
  case atStart => exact ⟨0, 0, by omega, by omega, rfl, rfl⟩
  case round =>
    obtain ⟨j, m, h0, h1, rfl, rfl⟩ := hrel
    rcases (show j = 0 ∨ j = 1 from by omega) with rfl | rfl
    · go_wp2_with fail
      go_quiet (fail)
      go_wp2
      go_roundw
      case rel => exact ⟨1, _, by omega, by omega, rfl, by first | rfl | exact World.drewN_drewN _ _ _⟩
      case measure => simp [intOf]
    · by_cases hq : bits .and .i64 p 1 = 0
      · go_wp2_with fail
        go_quiet (fail)
        go_wp2
        go_ret
        exact ⟨ret_tk 1 true (by first | (simp; done) | (simp [hq]; done)) rfl, _, _, _, _, by first | rfl | exact World.drewN_drewN _ _ _⟩
      · go_wp2_with fail
        go_quiet (fail)
        go_wp2
        go_ret
        exact ⟨ret_tk 1 true (by first | (simp; done) | (simp [hq]; done)) rfl, _, _, _, _, by first | rfl | exact World.drewN_drewN _ _ _⟩
theorem tk_BNE (md : BA) (p : Int) (w : World) :
    Calls Tryz.prog 153 #[cdV (b3 66 78 69) md, .int .i64 p] w fun e w' => e = .returned (.bool ((bits .and .i64 p 2 != 0) == false)) ∧ ∃ o1 o2 o3 m, w' = (((w.alloc o1).alloc o2).alloc o3).drewN m := by
  unfold b3 cdV
  go_enter Tryz.func153, Tryz.ntmps153
  go_wp2_with fail
  go_loopw [7] (fun i wr => ∃ (j : Int) (m : Nat), 0 ≤ j ∧ j ≤ 2 ∧ i = .int .i64 j ∧ wr = (((w.alloc (.cells #[.string ⟨#[66, 78, 69]⟩, .string md] 192)).alloc (.cells #[.int .i64 1, .int .i64 1, .int .i64 2, .int .i64 2, .int .i64 128, .int .i64 128, .int .i64 64, .int .i64 64] 3)).alloc (.cells #[.string ⟨#[66, 67, 67]⟩, .string ⟨#[66, 67, 83]⟩, .string ⟨#[66, 78, 69]⟩, .string ⟨#[66, 69, 81]⟩, .string ⟨#[66, 80, 76]⟩, .string ⟨#[66, 77, 73]⟩, .string ⟨#[66, 86, 67]⟩, .string ⟨#[66, 86, 83]⟩] 9)).drewN m) (fun i _ => 8 - (intOf i).toNat)
  case atStart => exact ⟨0, 0, by omega, by omega, rfl, rfl⟩
  case round =>
    obtain ⟨j, m, h0, h1, rfl, rfl⟩ := hrel
    rcases (show j = 0 ∨ j = 1 ∨ j = 2 from by omega) with rfl | rfl | rfl
    · go_wp2_with fail
      go_quiet (fail)
      go_wp2
      go_roundw
      case rel => exact ⟨1, _, by omega, by omega, rfl, by first | rfl | exact World.drewN_drewN _ _ _⟩
      case measure => simp [intOf]
    · go_wp2_with fail
      go_quiet (fail)
      go_wp2
      go_roundw
      case rel => exact ⟨2, _, by omega, by omega, rfl, by first | rfl | exact World.drewN_drewN _ _ _⟩
      case measure => simp [intOf]
    · by_cases hq : bits .and .i64 p 2 = 0
      · go_wp2_with fail
        go_quiet (fail)
        go_wp2
        go_ret
        exact ⟨ret_tk 2 false (by first | (simp; done) | (simp [hq]; done)) rfl, _, _, _, _, by first | rfl | exact World.drewN_drewN _ _ _⟩
      · go_wp2_with fail
        go_quiet (fail)
        go_wp2
        go_ret
        exact ⟨ret_tk 2 false (by first | (simp; done) | (simp [hq]; done)) rfl, _, _, _, _, by first | rfl | exact World.drewN_drewN _ _ _⟩
theorem tk_BEQ (md : BA) (p : Int) (w : World) :
    Calls Tryz.prog 153 #[cdV (b3 66 69 81) md, .int .i64 p] w fun e w' => e = .returned (.bool ((bits .and .i64 p 2 != 0) == true)) ∧ ∃ o1 o2 o3 m, w' = (((w.alloc o1).alloc o2).alloc o3).drewN m := by
  unfold b3 cdV
  go_enter Tryz.func153, Tryz.ntmps153
  go_wp2_with fail
  go_loopw [7] (fun i wr => ∃ (j : Int) (m : Nat), 0 ≤ j ∧ j ≤ 3 ∧ i = .int .i64 j ∧ wr = (((w.alloc (.cells #[.string ⟨#[66, 69, 81]⟩, .string md] 192)).alloc (.cells #[.int .i64 1, .int .i64 1, .int .i64 2, .int .i64 2, .int .i64 128, .int .i64 128, .int .i64 64, .int .i64 64] 3)).alloc (.cells #[.string ⟨#[66, 67, 67]⟩, .string ⟨#[66, 67, 83]⟩, .string ⟨#[66, 78, 69]⟩, .string ⟨#[66, 69, 81]⟩, .string ⟨#[66, 80, 76]⟩, .string ⟨#[66, 77, 73]⟩, .string ⟨#[66, 86, 67]⟩, .string ⟨#[66, 86, 83]⟩] 9)).drewN m) (fun i _ => 8 - (intOf i).toNat)
  case atStart => exact ⟨0, 0, by omega, by omega, rfl, rfl⟩
  case round =>
    obtain ⟨j, m, h0, h1, rfl, rfl⟩ := hrel
    rcases (show j = 0 ∨ j = 1 ∨ j = 2 ∨ j = 3 from by omega) with rfl | rfl | rfl | rfl
    · go_wp2_with fail
      go_quiet (fail)
      go_wp2
      go_roundw
      case rel => exact ⟨1, _, by omega, by omega, rfl, by first | rfl | exact World.drewN_drewN _ _ _⟩
      case measure => simp [intOf]
    · go_wp2_with fail
      go_quiet (fail)
      go_wp2
      go_roundw
      case rel => exact ⟨2, _, by omega, by omega, rfl, by first | rfl | exact World.drewN_drewN _ _ _⟩
      case measure => simp [intOf]
    · go_wp2_with fail
      go_quiet (fail)
      go_wp2
      go_roundw
      case rel => exact ⟨3, _, by omega, by omega, rfl, by first | rfl | exact World.drewN_drewN _ _ _⟩
      case measure => simp [intOf]
    · by_cases hq : bits .and .i64 p 2 = 0
      · go_wp2_with fail
        go_quiet (fail)
        go_wp2
        go_ret
        exact ⟨ret_tk 2 true (by first | (simp; done) | (simp [hq]; done)) rfl, _, _, _, _, by first | rfl | exact World.drewN_drewN _ _ _⟩
      · go_wp2_with fail
        go_quiet (fail)
        go_wp2
        go_ret
        exact ⟨ret_tk 2 true (by first | (simp; done) | (simp [hq]; done)) rfl, _, _, _, _, by first | rfl | exact World.drewN_drewN _ _ _⟩
theorem tk_BPL (md : BA) (p : Int) (w : World) :
    Calls Tryz.prog 153 #[cdV (b3 66 80 76) md, .int .i64 p] w fun e w' => e = .returned (.bool ((bits .and .i64 p 128 != 0) == false)) ∧ ∃ o1 o2 o3 m, w' = (((w.alloc o1).alloc o2).alloc o3).drewN m := by
  unfold b3 cdV
  go_enter Tryz.func153, Tryz.ntmps153
  go_wp2_with fail
  go_loopw [7] (fun i wr => ∃ (j : Int) (m : Nat), 0 ≤ j ∧ j ≤ 4 ∧ i = .int .i64 j ∧ wr = (((w.alloc (.cells #[.string ⟨#[66, 80, 76]⟩, .string md] 192)).alloc (.cells #[.int .i64 1, .int .i64 1, .int .i64 2, .int .i64 2, .int .i64 128, .int .i64 128, .int .i64 64, .int .i64 64] 3)).alloc (.cells #[.string ⟨#[66, 67, 67]⟩, .string ⟨#[66, 67, 83]⟩, .string ⟨#[66, 78, 69]⟩, .string ⟨#[66, 69, 81]⟩, .string ⟨#[66, 80, 76]⟩, .string ⟨#[66, 77, 73]⟩, .string ⟨#[66, 86, 67]⟩, .string ⟨#[66, 86, 83]⟩] 9)).drewN m) (fun i _ => 8 - (intOf i).toNat)
  case atStart => exact ⟨0, 0, by omega, by omega, rfl, rfl⟩
  case round =>
    obtain ⟨j, m, h0, h1, rfl, rfl⟩ := hrel
    rcases (show j = 0 ∨ j = 1 ∨ j = 2 ∨ j = 3 ∨ j = 4 from by omega) with rfl | rfl | rfl | rfl | rfl
    · go_wp2_with fail
      go_quiet (fail)
      go_wp2
      go_roundw
      case rel => exact ⟨1, _, by omega, by omega, rfl, by first | rfl | exact World.drewN_drewN _ _ _⟩
      case measure => simp [intOf]
    · go_wp2_with fail
      go_quiet (fail)
      go_wp2
      go_roundw
      case rel => exact ⟨2, _, by omega, by omega, rfl, by first | rfl | exact World.drewN_drewN _ _ _⟩
      case measure => simp [intOf]
    · go_wp2_with fail
      go_quiet (fail)
      go_wp2
      go_roundw
      case rel => exact ⟨3, _, by omega, by omega, rfl, by first | rfl | exact World.drewN_drewN _ _ _⟩
      case measure => simp [intOf]
    · go_wp2_with fail
      go_quiet (fail)
      go_wp2
      go_roundw
      case rel => exact ⟨4, _, by omega, by omega, rfl, by first | rfl | exact World.drewN_drewN _ _ _⟩
      case measure => simp [intOf]
    · by_cases hq : bits .and .i64 p 128 = 0
      · go_wp2_with fail
        go_quiet (fail)
        go_wp2
        go_ret
        exact ⟨ret_tk 128 false (by first | (simp; done) | (simp [hq]; done)) rfl, _, _, _, _, by first | rfl | exact World.drewN_drewN _ _ _⟩
      · go_wp2_with fail
        go_quiet (fail)
        go_wp2
        go_ret
        exact ⟨ret_tk 128 false (by first | (simp; done) | (simp [hq]; done)) rfl, _, _, _, _, by first | rfl | exact World.drewN_drewN _ _ _⟩
theorem tk_BMI (md : BA) (p : Int) (w : World) :
    Calls Tryz.prog 153 #[cdV (b3 66 77 73) md, .int .i64 p] w fun e w' => e = .returned (.bool ((bits .and .i64 p 128 != 0) == true)) ∧ ∃ o1 o2 o3 m, w' = (((w.alloc o1).alloc o2).alloc o3).drewN m := by
  unfold b3 cdV
  go_enter Tryz.func153, Tryz.ntmps153
  go_wp2_with fail
  go_loopw [7] (fun i wr => ∃ (j : Int) (m : Nat), 0 ≤ j ∧ j ≤ 5 ∧ i = .int .i64 j ∧ wr = (((w.alloc (.cells #[.string ⟨#[66, 77, 73]⟩, .string md] 192)).alloc (.cells #[.int .i64 1, .int .i64 1, .int .i64 2, .int .i64 2, .int .i64 128, .int .i64 128, .int .i64 64, .int .i64 64] 3)).alloc (.cells #[.string ⟨#[66, 67, 67]⟩, .string ⟨#[66, 67, 83]⟩, .string ⟨#[66, 78, 69]⟩, .string ⟨#[66, 69, 81]⟩, .string ⟨#[66, 80, 76]⟩, .string ⟨#[66, 77, 73]⟩, .string ⟨#[66, 86, 67]⟩, .string ⟨#[66, 86, 83]⟩] 9)).drewN m) (fun i _ => 8 - (intOf i).toNat)
  case atStart => exact ⟨0, 0, by omega, by omega, rfl, rfl⟩
  case round =>
    obtain ⟨j, m, h0, h1, rfl, rfl⟩ := hrel
    rcases (show j = 0 ∨ j = 1 ∨ j = 2 ∨ j = 3 ∨ j = 4 ∨ j = 5 from by omega) with rfl | rfl | rfl | rfl | rfl | rfl
    · go_wp2_with fail
      go_quiet (fail)
      go_wp2
      go_roundw
      case rel => exact ⟨1, _, by omega, by omega, rfl, by first | rfl | exact World.drewN_drewN _ _ _⟩
      case measure => simp [intOf]
    · go_wp2_with fail
      go_quiet (fail)
      go_wp2
      go_roundw
      case rel => exact ⟨2, _, by omega, by omega, rfl, by first | rfl | exact World.drewN_drewN _ _ _⟩
      case measure => simp [intOf]
    · go_wp2_with fail
      go_quiet (fail)
      go_wp2
      go_roundw
      case rel => exact ⟨3, _, by omega, by omega, rfl, by first | rfl | exact World.drewN_drewN _ _ _⟩
      case measure => simp [intOf]
    · go_wp2_with fail
      go_quiet (fail)
      go_wp2
      go_roundw
      case rel => exact ⟨4, _, by omega, by omega, rfl, by first | rfl | exact World.drewN_drewN _ _ _⟩
      case measure => simp [intOf]
    · go_wp2_with fail
      go_quiet (fail)
      go_wp2
      go_roundw
      case rel => exact ⟨5, _, by omega, by omega, rfl, by first | rfl | exact World.drewN_drewN _ _ _⟩
      case measure => simp [intOf]
    · by_cases hq : bits .and .i64 p 128 = 0
      · go_wp2_with fail
        go_quiet (fail)
        go_wp2
        go_ret
        exact ⟨ret_tk 128 true (by first | (simp; done) | (simp [hq]; done)) rfl, _, _, _, _, by first | rfl | exact World.drewN_drewN _ _ _⟩
      · go_wp2_with fail
        go_quiet (fail)
        go_wp2
        go_ret
        exact ⟨ret_tk 128 true (by first | (simp; done) | (simp [hq]; done)) rfl, _, _, _, _, by first | rfl | exact World.drewN_drewN _ _ _⟩
theorem tk_BVC (md : BA) (p : Int) (w : World) :
    Calls Tryz.prog 153 #[cdV (b3 66 86 67) md, .int .i64 p] w fun e w' => e = .returned (.bool ((bits .and .i64 p 64 != 0) == false)) ∧ ∃ o1 o2 o3 m, w' = (((w.alloc o1).alloc o2).alloc o3).drewN m := by
  unfold b3 cdV
  go_enter Tryz.func153, Tryz.ntmps153
  go_wp2_with fail
  go_loopw [7] (fun i wr => ∃ (j : Int) (m : Nat), 0 ≤ j ∧ j ≤ 6 ∧ i = .int .i64 j ∧ wr = (((w.alloc (.cells #[.string ⟨#[66, 86, 67]⟩, .string md] 192)).alloc (.cells #[.int .i64 1, .int .i64 1, .int .i64 2, .int .i64 2, .int .i64 128, .int .i64 128, .int .i64 64, .int .i64 64] 3)).alloc (.cells #[.string ⟨#[66, 67, 67]⟩, .string ⟨#[66, 67, 83]⟩, .string ⟨#[66, 78, 69]⟩, .string ⟨#[66, 69, 81]⟩, .string ⟨#[66, 80, 76]⟩, .string ⟨#[66, 77, 73]⟩, .string ⟨#[66, 86, 67]⟩, .string ⟨#[66, 86, 83]⟩] 9)).drewN m) (fun i _ => 8 - (intOf i).toNat)
  case atStart => exact ⟨0, 0, by omega, by omega, rfl, rfl⟩
  case round =>
    obtain ⟨j, m, h0, h1, rfl, rfl⟩ := hrel
    rcases (show j = 0 ∨ j = 1 ∨ j = 2 ∨ j = 3 ∨ j = 4 ∨ j = 5 ∨ j = 6 from by omega) with rfl | rfl | rfl | rfl | rfl | rfl | rfl
    · go_wp2_with fail
      go_quiet (fail)
      go_wp2
      go_roundw
      case rel => exact ⟨1, _, by omega, by omega, rfl, by first | rfl | exact World.drewN_drewN _ _ _⟩
      case measure => simp [intOf]
    · go_wp2_with fail
      go_quiet (fail)
      go_wp2
      go_roundw
      case rel => exact ⟨2, _, by omega, by omega, rfl, by first | rfl | exact World.drewN_drewN _ _ _⟩
      case measure => simp [intOf]
    · go_wp2_with fail
      go_quiet (fail)
      go_wp2
      go_roundw
      case rel => exact ⟨3, _, by omega, by omega, rfl, by first | rfl | exact World.drewN_drewN _ _ _⟩
      case measure => simp [intOf]
    · go_wp2_with fail
      go_quiet (fail)
      go_wp2
      go_roundw
      case rel => exact ⟨4, _, by omega, by omega, rfl, by first | rfl | exact World.drewN_drewN _ _ _⟩
      case measure => simp [intOf]
    · go_wp2_with fail
      go_quiet (fail)
      go_wp2
      go_roundw
      case rel => exact ⟨5, _, by omega, by omega, rfl, by first | rfl | exact World.drewN_drewN _ _ _⟩
      case measure => simp [intOf]
    · go_wp2_with fail
      go_quiet (fail)
      go_wp2
      go_roundw
      case rel => exact ⟨6, _, by omega, by omega, rfl, by first | rfl | exact World.drewN_drewN _ _ _⟩
      case measure => simp [intOf]
    · by_cases hq : bits .and .i64 p 64 = 0
      · go_wp2_with fail
        go_quiet (fail)
        go_wp2
        go_ret
        exact ⟨ret_tk 64 false (by first | (simp; done) | (simp [hq]; done)) rfl, _, _, _, _, by first | rfl | exact World.drewN_drewN _ _ _⟩
      · go_wp2_with fail
        go_quiet (fail)
        go_wp2
        go_ret
        exact ⟨ret_tk 64 false (by first | (simp; done) | (simp [hq]; done)) rfl, _, _, _, _, by first | rfl | exact World.drewN_drewN _ _ _⟩
theorem tk_BVS (md : BA) (p : Int) (w : World) :
    Calls Tryz.prog 153 #[cdV (b3 66 86 83) md, .int .i64 p] w fun e w' => e = .returned (.bool ((bits .and .i64 p 64 != 0) == true)) ∧ ∃ o1 o2 o3 m, w' = (((w.alloc o1).alloc o2).alloc o3).drewN m := by
  unfold b3 cdV
  go_enter Tryz.func153, Tryz.ntmps153
  go_wp2_with fail
  go_loopw [7] (fun i wr => ∃ (j : Int) (m : Nat), 0 ≤ j ∧ j ≤ 7 ∧ i = .int .i64 j ∧ wr = (((w.alloc (.cells #[.string ⟨#[66, 86, 83]⟩, .string md] 192)).alloc (.cells #[.int .i64 1, .int .i64 1, .int .i64 2, .int .i64 2, .int .i64 128, .int .i64 128, .int .i64 64, .int .i64 64] 3)).alloc (.cells #[.string ⟨#[66, 67, 67]⟩, .string ⟨#[66, 67, 83]⟩, .string ⟨#[66, 78, 69]⟩, .string ⟨#[66, 69, 81]⟩, .string ⟨#[66, 80, 76]⟩, .string ⟨#[66, 77, 73]⟩, .string ⟨#[66, 86, 67]⟩, .string ⟨#[66, 86, 83]⟩] 9)).drewN m) (fun i _ => 8 - (intOf i).toNat)
  case atStart => exact ⟨0, 0, by omega, by omega, rfl, rfl⟩
  case round =>
    obtain ⟨j, m, h0, h1, rfl, rfl⟩ := hrel
    rcases (show j = 0 ∨ j = 1 ∨ j = 2 ∨ j = 3 ∨ j = 4 ∨ j = 5 ∨ j = 6 ∨ j = 7 from by omega) with rfl | rfl | rfl | rfl | rfl | rfl | rfl | rfl
    · go_wp2_with fail
      go_quiet (fail)
      go_wp2
      go_roundw
      case rel => exact ⟨1, _, by omega, by omega, rfl, by first | rfl | exact World.drewN_drewN _ _ _⟩
      case measure => simp [intOf]
    · go_wp2_with fail
      go_quiet (fail)
      go_wp2
      go_roundw
      case rel => exact ⟨2, _, by omega, by omega, rfl, by first | rfl | exact World.drewN_drewN _ _ _⟩
      case measure => simp [intOf]
    · go_wp2_with fail
      go_quiet (fail)
      go_wp2
      go_roundw
      case rel => exact ⟨3, _, by omega, by omega, rfl, by first | rfl | exact World.drewN_drewN _ _ _⟩
      case measure => simp [intOf]
    · go_wp2_with fail
      go_quiet (fail)
      go_wp2
      go_roundw
      case rel => exact ⟨4, _, by omega, by omega, rfl, by first | rfl | exact World.drewN_drewN _ _ _⟩
      case measure => simp [intOf]
    · go_wp2_with fail
      go_quiet (fail)
      go_wp2
      go_roundw
      case rel => exact ⟨5, _, by omega, by omega, rfl, by first | rfl | exact World.drewN_drewN _ _ _⟩
      case measure => simp [intOf]
    · go_wp2_with fail
      go_quiet (fail)
      go_wp2
      go_roundw
      case rel => exact ⟨6, _, by omega, by omega, rfl, by first | rfl | exact World.drewN_drewN _ _ _⟩
      case measure => simp [intOf]
    · go_wp2_with fail
      go_quiet (fail)
      go_wp2
      go_roundw
      case rel => exact ⟨7, _, by omega, by omega, rfl, by first | rfl | exact World.drewN_drewN _ _ _⟩
      case measure => simp [intOf]
    · by_cases hq : bits .and .i64 p 64 = 0
      · go_wp2_with fail
        go_quiet (fail)
        go_wp2
        go_ret
        exact ⟨ret_tk 64 true (by first | (simp; done) | (simp [hq]; done)) rfl, _, _, _, _, by first | rfl | exact World.drewN_drewN _ _ _⟩
      · go_wp2_with fail
        go_quiet (fail)
        go_wp2
        go_ret
        exact ⟨ret_tk 64 true (by first | (simp; done) | (simp [hq]; done)) rfl, _, _, _, _, by first | rfl | exact World.drewN_drewN _ _ _⟩
def lB : List BA := [b3 66 67 67, b3 66 67 83, b3 66 78 69, b3 66 69 81, b3 66 80 76, b3 66 77 73, b3 66 86 67, b3 66 86 83]
theorem rtaken (op md : BA) (hop : op ∈ lB) (p : Int) (w : World) :
    Calls Tryz.prog 153 #[cdV op md, .int .i64 p] w fun e w' => e = .returned (.bool (takenR op p)) ∧ ∃ o1 o2 o3 m, w' = (((w.alloc o1).alloc o2).alloc o3).drewN m := by
  unfold lB at hop
  simp only [List.mem_cons, List.not_mem_nil, or_false] at hop
  rcases hop with rfl | rfl | rfl | rfl | rfl | rfl | rfl | rfl
  · exact tk_BCC md p w
  · exact tk_BCS md p w
  · exact tk_BNE md p w
  · exact tk_BEQ md p w
  · exact tk_BPL md p w
  · exact tk_BMI md p w
  · exact tk_BVC md p w
  · exact tk_BVS md p w

end Go.Proofs.YtcgjliflnnklnaaGreat
