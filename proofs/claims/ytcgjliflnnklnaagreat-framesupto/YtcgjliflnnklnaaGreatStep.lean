/-
  A step of the script.
-/
import Derived.Test.YtcgjliflnnklnaaGreatStepN
namespace Go.Proofs.YtcgjliflnnklnaaGreat
open Go.RowKit

/-- What a step leaves. -/
def Stepped (w0 : World) (f : Fix) (nb np : Nat) (w : World) : Prop := ∃ s vb vp nb' np', nb' ≤ nb + 2 ∧ np' ≤ np + 1 ∧ Inv w0 f No s s vb vp nb' np' w

theorem byte_of {a : Int} (h0 : ¬ a < 0) (h1 : ¬ 255 < a) : ∃ b : UInt8, a = (b.toNat : Int) := ⟨UInt8.ofNat a.toNat, by simp; omega⟩

theorem frame_step (w0 : World) (f : Fix) (s : Nat → Sc) (vb vp : Value) (nb np : Nat) (w : World) (k a b : Int) (S : ByteArray) (n q : Bool) (ca : Option Addr) (cl cc : Nat) (rom : Int)
    (h : Inv w0 f No s s vb vp nb np w) (hnb : nb ≤ 9000000) :
    Calls Tryz.prog 44 #[.pointer (some ⟨f.W, 0, none⟩), .agg #[.int .i64 k, .int .i64 a, .int .i64 b, .string S, .bool n, .bool q, .slice ca cl cc, .int .i64 rom]] w fun e w' => e = .returned (.bool true) ∧ Stepped w0 f nb np w' := by
  by_cases h0 : a < 0 ∨ 255 < a
  · refine (frame_bad w0 f s vb vp nb np w k a b S n q ca cl cc rom 2 h hnb (fun w => frame_seq a S w h0) (fun w => refFrame_seq a S w h0)).mono ?_
    rintro e w' ⟨rfl, vb', hI⟩
    exact ⟨rfl, s, vb', vp, nb + 2, np, Nat.le_refl _, by omega, hI⟩
  · obtain ⟨c, rfl⟩ := byte_of (a := a) (by omega) (by omega)
    by_cases h1 : 80 < S.size
    · refine (frame_bad w0 f s vb vp nb np w k c.toNat b S n q ca cl cc rom 3 h hnb (fun w => frame_long c S w h1) (fun w => refFrame_long c S w h1)).mono ?_
      rintro e w' ⟨rfl, vb', hI⟩
      exact ⟨rfl, s, vb', vp, nb + 2, np, Nat.le_refl _, by omega, hI⟩
    · refine (frame_good w0 f s vb vp nb np w k b c S n q ca cl cc rom h hnb (by omega)).mono ?_
      rintro e w' ⟨rfl, vb', hI⟩
      exact ⟨rfl, s, vb', vp, nb + 2, np, Nat.le_refl _, by omega, hI⟩

theorem scan_step (w0 : World) (f : Fix) (s : Nat → Sc) (vb vp : Value) (nb np : Nat) (w : World) (k a b : Int) (S : ByteArray) (n q : Bool) (ca : Option Addr) (cl cc : Nat) (rom : Int)
    (h : Inv w0 f No s s vb vp nb np w) (hnp : np ≤ 9000000) (hS : S.size ≤ 4000000) (ha1 : -9223372036854775808 ≤ a) (ha2 : a ≤ 9223372036854775807) :
    Calls Tryz.prog 45 #[.pointer (some ⟨f.W, 0, none⟩), .agg #[.int .i64 k, .int .i64 a, .int .i64 b, .string S, .bool n, .bool q, .slice ca cl cc, .int .i64 rom]] w fun e w' => e = .returned (.bool true) ∧ Stepped w0 f nb np w' := by
  by_cases h0 : S.size = 0 ∧ (b.tmod 2 != 0) = true
  · have hS0 : S = ⟨#[]⟩ := by
      rcases S with ⟨d⟩
      have : d.size = 0 := h0.1
      rw [Array.eq_empty_of_size_eq_zero this]
    subst hS0
    refine (scan_nil w0 f s vb vp nb np w k a b n q ca cl cc rom h hnp ha1 ha2 h0.2).mono ?_
    rintro e w' ⟨rfl, s', vp', hI⟩
    exact ⟨rfl, s', vb, vp', nb, np + 1, by omega, Nat.le_refl _, hI⟩
  · refine (scan_lent w0 f s vb vp nb np w k a b S n q ca cl cc rom h hnp hS ha1 ha2 h0).mono ?_
    rintro e w' ⟨rfl, s', vp', hI⟩
    exact ⟨rfl, s', vb, vp', nb, np + 1, by omega, Nat.le_refl _, hI⟩

set_option maxRecDepth 100000 in
set_option maxHeartbeats 1000000 in
theorem step_any (w0 : World) (f : Fix) (s : Nat → Sc) (vb vp : Value) (nb np : Nat) (w : World) (k a b : Int) (S : ByteArray) (n q : Bool) (ca : Option Addr) (cl cc : Nat) (rom : Int)
    (h : Inv w0 f No s s vb vp nb np w) (hnb : nb ≤ 9000000) (hnp : np ≤ 9000000) (hS : S.size ≤ 4000000) (ha1 : -9223372036854775808 ≤ a) (ha2 : a ≤ 9223372036854775807) (hk : k = 5 ∨ k = 6) :
    Calls Tryz.prog 31 #[.pointer (some ⟨f.W, 0, none⟩), .agg #[.int .i64 k, .int .i64 a, .int .i64 b, .string S, .bool n, .bool q, .slice ca cl cc, .int .i64 rom]] w fun e w' => e = .returned (.bool true) ∧ Stepped w0 f nb np w' := by
  have HA : Hid (nb ≤ 9000000 ∧ np ≤ 9000000 ∧ S.size ≤ 4000000 ∧ -9223372036854775808 ≤ a ∧ a ≤ 9223372036854775807) := ⟨hnb, hnp, hS, ha1, ha2⟩
  have HI : Hid (∀ c, Inv w0 f No s s vb vp nb np (w.alloc c)) := fun c => h.below ((Below.refl _ _).alloc (Nat.le_refl _) _)
  clear h hnb hnp hS ha1 ha2
  rcases hk with rfl | rfl
  · go_enter Tryz.func31, Tryz.ntmps31
    go_wp2_with fail
    refine (frame_step w0 f s vb vp nb np _ 5 a b S n q ca cl cc rom (HI.out _) HA.out.1).mono ?_
    rintro e w' ⟨rfl, hI⟩
    have H2 : Hid (Stepped w0 f nb np w') := hI
    clear hI
    go_wp2
    go_ret
    exact ⟨by simp, H2.out⟩
  · go_enter Tryz.func31, Tryz.ntmps31
    go_wp2_with fail
    refine (scan_step w0 f s vb vp nb np _ 6 a b S n q ca cl cc rom (HI.out _) HA.out.2.1 HA.out.2.2.1 HA.out.2.2.2.1 HA.out.2.2.2.2).mono ?_
    rintro e w' ⟨rfl, hI⟩
    have H2 : Hid (Stepped w0 f nb np w') := hI
    clear hI
    go_wp2
    go_ret
    exact ⟨by simp, H2.out⟩

end Go.Proofs.YtcgjliflnnklnaaGreat
