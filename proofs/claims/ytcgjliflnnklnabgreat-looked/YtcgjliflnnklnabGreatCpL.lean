/-
  Leaf walks of the computer: words of bytes, flags, kinds.
-/
import Derived.Test.YtcgjliflnnklnabGreatCpA
namespace Go.Proofs.YtcgjliflnnklnabGreat
open Go.RowKit

theorem or_join (lo hi : Int) (h1 : 0 ≤ lo) (h2 : lo < 256) (h3 : 0 ≤ hi) (h4 : hi < 256) : bits .or .u16 (hi * 256) lo = joinI lo hi := by
  rw [u16_or _ _ (by omega) (by omega) (by omega) (by omega)]
  obtain ⟨a, rfl⟩ := Int.eq_ofNat_of_zero_le h1
  obtain ⟨b, rfl⟩ := Int.eq_ofNat_of_zero_le h3
  have e : ((b : Int) * 256).toNat = b * 256 := by omega
  rw [e, Int.toNat_natCast, nat_join 8 _ _ (by omega) (by omega)]
  unfold joinI; omega

set_option maxRecDepth 100000 in
set_option maxHeartbeats 400000 in
theorem join_any (lo hi : Int) (w : World) (h1 : 0 ≤ lo) (h2 : lo < 256) (h3 : 0 ≤ hi) (h4 : hi < 256) :
    Calls Tryz.prog 26 #[.int .u8 lo, .int .u8 hi] w fun e w' => e = .returned (.int .u16 (joinI lo hi)) ∧ w' = w := by
  have hj : Hid (bits .or .u16 (hi * 256) lo = joinI lo hi) := or_join lo hi h1 h2 h3 h4
  go_enter Tryz.func26, Tryz.ntmps26
  go_wp2
  go_ret
  exact ⟨cp_int hj.out, rfl⟩

set_option maxRecDepth 100000 in
set_option maxHeartbeats 400000 in
theorem lowOf_any (a : Int) (w : World) :
    Calls Tryz.prog 104 #[.int .u16 a] w fun e w' => e = .returned (.int .u8 (loI a)) ∧ w' = w := by
  go_enter Tryz.func104, Tryz.ntmps104
  go_wp2
  go_ret
  exact ⟨cp_int rfl, rfl⟩

set_option maxRecDepth 100000 in
set_option maxHeartbeats 400000 in
theorem highOf_any (a : Int) (w : World) (h1 : 0 ≤ a) (h2 : a < 65536) :
    Calls Tryz.prog 102 #[.int .u16 a] w fun e w' => e = .returned (.int .u8 (hiI a)) ∧ w' = w := by
  go_enter Tryz.func102, Tryz.ntmps102
  go_wp2
  go_ret
  exact ⟨cp_int (by unfold hiI; omega), rfl⟩

theorem lo_r (a : Int) : 0 ≤ loI a ∧ loI a < 256 := by unfold loI; omega
theorem hi_r (a : Int) (h1 : 0 ≤ a) (h2 : a < 65536) : 0 ≤ hiI a ∧ hiI a < 256 := by unfold hiI; omega
theorem join_r (a b : Int) (h1 : 0 ≤ a) (h2 : a < 256) (h3 : 0 ≤ b) (h4 : b < 256) : 0 ≤ joinI a b ∧ joinI a b < 65536 := by unfold joinI; omega
theorem within_r (a b : Int) (h1 : 0 ≤ a) (h2 : a < 65536) : 0 ≤ withinI a b ∧ withinI a b < 65536 := by unfold withinI joinI loI hiI; omega

set_option maxRecDepth 100000 in
set_option maxHeartbeats 400000 in
theorem within_any (a b : Int) (w : World) (h1 : 0 ≤ a) (h2 : a < 65536) :
    Calls Tryz.prog 100 #[.int .u16 a, .int .u8 b] w fun e w' => e = .returned (.int .u16 (withinI a b)) ∧ w' = w := by
  obtain ⟨l1, l2⟩ := lo_r a
  obtain ⟨m1, m2⟩ := hi_r a h1 h2
  go_enter Tryz.func100, Tryz.ntmps100
  go_wp2_with (first | (go_at_call 104; refine (lowOf_any a _).mono ?_; rintro e w' ⟨rfl, rfl⟩) | (go_at_call 102; refine (highOf_any a _ h1 h2).mono ?_; rintro e w' ⟨rfl, rfl⟩) | (go_at_call 26; refine (join_any _ _ _ (by omega) (by omega) m1 m2).mono ?_; rintro e w' ⟨rfl, rfl⟩))
  go_ret
  exact ⟨cp_int rfl, rfl⟩

theorem bit_r (op : BinOp) (a b : Int) : 0 ≤ bits op .u8 a b ∧ bits op .u8 a b < 256 := by
  cases op <;> (show 0 ≤ IntKind.u8.wrap _ ∧ IntKind.u8.wrap _ < 256; rw [IntKind.wrap_u8']; omega)
theorem setf_r (p f : Int) (on : Bool) : 0 ≤ setf p f on ∧ setf p f on < 256 := by unfold setf; split <;> exact bit_r _ _ _
theorem nz_r (p b : Int) : 0 ≤ nzI p b ∧ nzI p b < 256 := setf_r _ _ _
theorem setp_r (b : Int) : 0 ≤ setpI b ∧ setpI b < 256 := bit_r _ _ _

theorem Tn.eq {B : Nat} {s1 s2 : PC} {w w' : World} (h : Tn B s1 w w') (e : s1 = s2) : Tn B s2 w w' := e ▸ h

set_option maxRecDepth 100000 in
set_option maxHeartbeats 1000000 in
theorem has_any {B : Nat} {s : PC} {w0 w : World} (h : Tn B s w0 w) (f : Int) :
    Calls Tryz.prog 55 #[.pointer (some ⟨B, 65539, none⟩), .int .u8 f] w fun e w' => e = .returned (.bool (hasf s.p f)) ∧ w' = w := by
  have h1 := h.c.cp
  go_enter Tryz.func55, Tryz.ntmps55
  go_wp2
  go_ret
  exact ⟨cp_bool rfl, rfl⟩

set_option maxRecDepth 100000 in
set_option maxHeartbeats 1000000 in
theorem set_any {B : Nat} {s : PC} {w0 w : World} (h : Tn B s w0 w) (f : Int) (on : Bool) :
    Calls Tryz.prog 191 #[.pointer (some ⟨B, 65539, none⟩), .int .u8 f, .bool on] w fun e w' => e = .returned (.tuple #[]) ∧ Tn B (s.setF f on) w0 w' := by
  have h1 := h.c.cp
  have f1 := h.c.free 65543
  cases on
  all_goals
    go_enter Tryz.func191, Tryz.ntmps191
    go_wp2
    go_end0
    refine ⟨rfl, ?_⟩
    apply Tn.eq
    · repeat (first | exact h | apply Tn.drew | apply Tn.alloc | (apply Tn.setP; case hv => (first | assumption | omega | exact bit_r _ _ _ | exact nz_r _ _ | exact setf_r _ _ _ | exact setp_r _ | (unfold loI; omega) | (simp only [joinI, loI, hiI, withinI]; omega))))
    · rfl

set_option maxRecDepth 100000 in
set_option maxHeartbeats 1000000 in
theorem setNZ_any {B : Nat} {s : PC} {w0 w : World} (h : Tn B s w0 w) (b : Int) :
    Calls Tryz.prog 195 #[.pointer (some ⟨B, 65539, none⟩), .int .u8 b] w fun e w' => e = .returned (.tuple #[]) ∧ Tn B { s with p := nzI s.p b } w0 w' := by
  go_enter Tryz.func195, Tryz.ntmps195
  go_wp2_with fail
  refine (set_any h _ _).mono ?_
  rintro e w1 ⟨rfl, h1⟩
  go_wp2_with fail
  refine (set_any h1 _ _).mono ?_
  rintro e w1 ⟨rfl, h2⟩
  go_wp2
  go_end0
  exact ⟨rfl, h2⟩

set_option maxRecDepth 100000 in
set_option maxHeartbeats 1000000 in
theorem setP_any {B : Nat} {s : PC} {w0 w : World} (h : Tn B s w0 w) (b : Int) :
    Calls Tryz.prog 194 #[.pointer (some ⟨B, 65539, none⟩), .int .u8 b] w fun e w' => e = .returned (.tuple #[]) ∧ Tn B { s with p := setpI b } w0 w' := by
  have h1 := h.c.cp
  have f1 := h.c.free 65543
  go_enter Tryz.func194, Tryz.ntmps194
  go_wp2
  go_end0
  refine ⟨rfl, ?_⟩
  apply Tn.eq
  · repeat (first | exact h | apply Tn.drew | apply Tn.alloc | (apply Tn.setP; case hv => (first | assumption | omega | exact bit_r _ _ _ | exact nz_r _ _ | exact setf_r _ _ _ | exact setp_r _ | (unfold loI; omega) | (simp only [joinI, loI, hiI, withinI]; omega))))
  · rfl

set_option maxRecDepth 100000 in
set_option maxHeartbeats 1000000 in
theorem kind_any (i : Int) (w : World) :
    Calls Tryz.prog 57 #[.int .u8 i] w fun e w' => e = .returned (.int .u8 (kindI i)) ∧ w' = w := by
  go_enter Tryz.func57, Tryz.ntmps57
  go_wp2
  all_goals go_ret
  all_goals exact ⟨cp_int (by simp only [beq_iff_eq, beq_eq_false_iff_ne] at *; simp [kindI, *]), rfl⟩

end Go.Proofs.YtcgjliflnnklnabGreat
