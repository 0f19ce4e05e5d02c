/-
  Joined texts.
-/
import Derived.Test.YtcgjliflnnklnaaGreatQF
import Derived.Test.YtcgjliflnnklnaaGreatQG
namespace Go.Proofs.YtcgjliflnnklnaaGreat
open Go.RowKit

/-
  A word's body.
-/
section
def hxs : ByteArray := { data := #[48, 49, 50, 51, 52, 53, 54, 55, 56, 57, 97, 98, 99, 100, 101, 102] }
theorem hxs_ext (d : Nat) (h : d < 16) : (hxs.extract d (d + 1)).size = 1 := by
  have q : hxs.size = 16 := rfl
  rw [ByteArray.size_extract, q]; omega

set_option maxRecDepth 100000 in
set_option maxHeartbeats 1000000 in
theorem func4_any (n : Int) (h0 : 0 ≤ n) (h1 : n < 65536) (w : World) :
    Calls Tryz.prog 39 #[.int .i64 n, .string hxs] w fun e w' => (∃ s : ByteArray, e = .returned (.string s) ∧ s.size = 4) ∧ w' = w := by
  have hxz : hxs.size = 16 := rfl
  obtain ⟨hx, ehx⟩ : ∃ hx, hxs = hx := ⟨_, rfl⟩
  rw [ehx] at hxz ⊢
  go_enter Tryz.func39, Tryz.ntmps39
  go_wp2_with fail
  go_loopw [0, 5, 6] (fun a s i wr => ∃ (k x : Nat) (t : ByteArray), k ≤ 4 ∧ i = .int .i64 k ∧ a = .int .i64 x ∧ x < 65536 ∧ s = .string t ∧ t.size = k ∧ wr = w) (fun _ _ i _ => 4 - (intOf i).toNat)
  case atStart => exact ⟨0, n.toNat, ⟨#[]⟩, by omega, rfl, by rw [Int.toNat_of_nonneg h0], by omega, rfl, rfl, rfl⟩
  case round =>
    obtain ⟨k, x, t, hk, rfl, rfl, hx6, rfl, ht, rfl⟩ := hrel
    by_cases hlt : k < 4
    · have e1 : ((x : Int)).tmod 16 = ((x % 16 : Nat) : Int) := by rw [Int.tmod_eq_emod_of_nonneg (by omega)]; omega
      have e2 : ((x : Int)) % 16 = ((x % 16 : Nat) : Int) := by omega
      have hd : x % 16 < 16 := Nat.mod_lt _ (by decide)
      have HXE : Hid ((hx.extract (x % 16) (x % 16 + 1)).size = 1) := by rw [← ehx]; exact hxs_ext _ hd
      generalize x % 16 = d at *
      go_wp2
      go_roundw
      case rel => exact ⟨k + 1, x / 16, _, by omega, by go_num, by rw [show ((x : Int) / 16) = ((x / 16 : Nat) : Int) from by omega], by omega, rfl, by rw [ByteArray.size_append, HXE.out]; omega, trivial⟩
      case measure => simp [intOf]; omega
    · have e4 : k = 4 := by omega
      subst e4
      go_wp2
      go_ret
      exact ⟨⟨t, rfl, ht⟩, rfl⟩

def pickV (c n : Int) : Int := (if c < 0 then -(c + 1) else c) % n
theorem pickV_r (c n : Int) (h : 1 ≤ n) : 0 ≤ pickV c n ∧ pickV c n < n := ⟨Int.emod_nonneg _ (by omega), Int.emod_lt_of_pos _ (by omega)⟩

set_option maxRecDepth 100000 in
set_option maxHeartbeats 400000 in
theorem pickE_any (c n : Int) (h : 1 ≤ n) (h2 : n ≤ 9223372036854775807) (hc1 : -9223372036854775808 ≤ c) (hc2 : c ≤ 9223372036854775807) (w : World) :
    Calls Tryz.prog 20 #[.int .i64 c, .int .i64 n] w fun e w' => e = .returned (.int .i64 (pickV c n)) ∧ w' = w := by
  unfold pickV
  by_cases hc : c < 0
  · rw [if_pos hc]
    have e1 : (-(c + 1)).tmod n = (-(c + 1)) % n := Int.tmod_eq_emod_of_nonneg (by omega)
    have e2 : IntKind.i64.wrap (c + 1) = c + 1 := by rw [IntKind.wrap_i64]; omega
    have e3 : IntKind.i64.wrap (-(c + 1)) = -(c + 1) := by rw [IntKind.wrap_i64]; omega
    go_enter Tryz.func20, Tryz.ntmps20
    go_wp2
    go_ret
    exact ⟨rfl, rfl⟩
  · rw [if_neg hc]
    have e1 : c.tmod n = c % n := Int.tmod_eq_emod_of_nonneg (by omega)
    go_enter Tryz.func20, Tryz.ntmps20
    go_wp2
    go_ret
    exact ⟨rfl, rfl⟩
end

/-
  A word's body, walked.
-/
section
/-- What a body gives. -/
def BodyR (w w' : World) (e : Ending) : Prop := ∃ s : ByteArray, e = .returned (.string s) ∧ s.size ≤ 9 ∧ Below w.heap.size w w'
theorem ext_le (s : ByteArray) (a b : Nat) : (s.extract a b).size ≤ s.size := by rw [ByteArray.size_extract]; omega

set_option maxRecDepth 100000 in
set_option maxHeartbeats 2000000 in
theorem body_0 (kd n wy : Int) (h1 : -9223372036854775808 ≤ kd) (h2 : kd ≤ 9223372036854775807) (h3 : -9223372036854775808 ≤ n) (h4 : n ≤ 9223372036854775807) (hk : pickV kd 14 = 0) (w : World) :
    Calls Tryz.prog 28 #[.agg #[.int .i64 kd, .int .i64 n, .int .i64 wy]] w fun e w' => BodyR w w' e := by
  have PN := pickE_any n 65536 (by decide) (by decide) h3 h4
  have PK := pickE_any kd 14 (by decide) (by decide) h1 h2
  rw [hk] at PK
  have pr := pickV_r n 65536 (by decide)
  have F4 := func4_any (pickV n 65536) pr.1 pr.2
  have HB : Hid (Below w.heap.size w (w.alloc (.cells #[.int .i64 kd, .int .i64 n, .int .i64 wy] 67))) := bl_alloc (Below.refl _ _)
  have PM := pickE_any n 8 (by decide) (by decide) h3 h4
  have pm := pickV_r n 8 (by decide)
  obtain ⟨d, hd⟩ : ∃ d : Nat, pickV n 8 = d := ⟨(pickV n 8).toNat, by omega⟩
  simp only [hd] at PM pm
  obtain ⟨pm0, pm1⟩ := pm
  have hd8 : d < 8 := by omega
  clear hk
  generalize pickV n 65536 = r0 at *
  go_enter Tryz.func28, Tryz.ntmps28
  go_wp2_with fail
  refine (PN _).mono ?_
  rintro e w1 ⟨rfl, rfl⟩
  go_wp2_with fail
  refine (F4 _).mono ?_
  rintro e w1 ⟨⟨f4, rfl, hf4⟩, rfl⟩
  go_wp2_with fail
  refine (PK _).mono ?_
  rintro e w1 ⟨rfl, rfl⟩
  go_wp2_with fail
  go_quiet (first | (go_at_call 20; exact Calls.quiet_of_same (PM _)))
  go_wp2
  go_ret
  refine ⟨_, rfl, ?_, bl_drewN HB.out _⟩
  have q := hxs_ext d (by omega)
  rw [ByteArray.size_append]
  show 4 + (hxs.extract d (d + 1)).size ≤ 9
  omega

set_option maxRecDepth 100000 in
set_option maxHeartbeats 2000000 in
theorem body_1 (kd n wy : Int) (h1 : -9223372036854775808 ≤ kd) (h2 : kd ≤ 9223372036854775807) (h3 : -9223372036854775808 ≤ n) (h4 : n ≤ 9223372036854775807) (hk : pickV kd 14 = 1) (w : World) :
    Calls Tryz.prog 28 #[.agg #[.int .i64 kd, .int .i64 n, .int .i64 wy]] w fun e w' => BodyR w w' e := by
  have PN := pickE_any n 65536 (by decide) (by decide) h3 h4
  have PK := pickE_any kd 14 (by decide) (by decide) h1 h2
  rw [hk] at PK
  have pr := pickV_r n 65536 (by decide)
  have F4 := func4_any (pickV n 65536) pr.1 pr.2
  have HB : Hid (Below w.heap.size w (w.alloc (.cells #[.int .i64 kd, .int .i64 n, .int .i64 wy] 67))) := bl_alloc (Below.refl _ _)
  have PM := pickE_any n 8 (by decide) (by decide) h3 h4
  have pm := pickV_r n 8 (by decide)
  obtain ⟨d, hd⟩ : ∃ d : Nat, pickV n 8 = d := ⟨(pickV n 8).toNat, by omega⟩
  simp only [hd] at PM pm
  obtain ⟨pm0, pm1⟩ := pm
  have hd8 : d < 8 := by omega
  clear hk
  generalize pickV n 65536 = r0 at *
  go_enter Tryz.func28, Tryz.ntmps28
  go_wp2_with fail
  refine (PN _).mono ?_
  rintro e w1 ⟨rfl, rfl⟩
  go_wp2_with fail
  refine (F4 _).mono ?_
  rintro e w1 ⟨⟨f4, rfl, hf4⟩, rfl⟩
  go_wp2_with fail
  refine (PK _).mono ?_
  rintro e w1 ⟨rfl, rfl⟩
  go_wp2_with fail
  go_quiet (first | (go_at_call 20; exact Calls.quiet_of_same (PM _)))
  go_wp2
  go_ret
  refine ⟨_, rfl, ?_, bl_drewN HB.out _⟩
  have q := hxs_ext d (by omega)
  rw [ByteArray.size_append]
  show 4 + (hxs.extract d (d + 1)).size ≤ 9
  omega

set_option maxRecDepth 100000 in
set_option maxHeartbeats 2000000 in
theorem body_2 (kd n wy : Int) (h1 : -9223372036854775808 ≤ kd) (h2 : kd ≤ 9223372036854775807) (h3 : -9223372036854775808 ≤ n) (h4 : n ≤ 9223372036854775807) (hk : pickV kd 14 = 2) (w : World) :
    Calls Tryz.prog 28 #[.agg #[.int .i64 kd, .int .i64 n, .int .i64 wy]] w fun e w' => BodyR w w' e := by
  have PN := pickE_any n 65536 (by decide) (by decide) h3 h4
  have PK := pickE_any kd 14 (by decide) (by decide) h1 h2
  rw [hk] at PK
  have pr := pickV_r n 65536 (by decide)
  have F4 := func4_any (pickV n 65536) pr.1 pr.2
  have HB : Hid (Below w.heap.size w (w.alloc (.cells #[.int .i64 kd, .int .i64 n, .int .i64 wy] 67))) := bl_alloc (Below.refl _ _)
  have PM := pickE_any n 16 (by decide) (by decide) h3 h4
  have pm := pickV_r n 16 (by decide)
  obtain ⟨d, hd⟩ : ∃ d : Nat, pickV n 16 = d := ⟨(pickV n 16).toNat, by omega⟩
  simp only [hd] at PM pm
  obtain ⟨pm0, pm1⟩ := pm
  have hd8 : d < 16 := by omega
  clear hk
  generalize pickV n 65536 = r0 at *
  go_enter Tryz.func28, Tryz.ntmps28
  go_wp2_with fail
  refine (PN _).mono ?_
  rintro e w1 ⟨rfl, rfl⟩
  go_wp2_with fail
  refine (F4 _).mono ?_
  rintro e w1 ⟨⟨f4, rfl, hf4⟩, rfl⟩
  go_wp2_with fail
  refine (PK _).mono ?_
  rintro e w1 ⟨rfl, rfl⟩
  go_wp2_with fail
  go_quiet (first | (go_at_call 20; exact Calls.quiet_of_same (PM _)))
  go_wp2
  go_ret
  refine ⟨_, rfl, ?_, bl_drewN HB.out _⟩
  have q := hxs_ext d (by omega)
  rw [ByteArray.size_append]
  show 4 + (hxs.extract d (d + 1)).size ≤ 9
  omega

set_option maxRecDepth 100000 in
set_option maxHeartbeats 2000000 in
theorem body_3 (kd n wy : Int) (h1 : -9223372036854775808 ≤ kd) (h2 : kd ≤ 9223372036854775807) (h3 : -9223372036854775808 ≤ n) (h4 : n ≤ 9223372036854775807) (hk : pickV kd 14 = 3) (w : World) :
    Calls Tryz.prog 28 #[.agg #[.int .i64 kd, .int .i64 n, .int .i64 wy]] w fun e w' => BodyR w w' e := by
  have PN := pickE_any n 65536 (by decide) (by decide) h3 h4
  have PK := pickE_any kd 14 (by decide) (by decide) h1 h2
  rw [hk] at PK
  have pr := pickV_r n 65536 (by decide)
  have F4 := func4_any (pickV n 65536) pr.1 pr.2
  have HB : Hid (Below w.heap.size w (w.alloc (.cells #[.int .i64 kd, .int .i64 n, .int .i64 wy] 67))) := bl_alloc (Below.refl _ _)
  clear hk
  generalize pickV n 65536 = r0 at *
  go_enter Tryz.func28, Tryz.ntmps28
  go_wp2_with fail
  refine (PN _).mono ?_
  rintro e w1 ⟨rfl, rfl⟩
  go_wp2_with fail
  refine (F4 _).mono ?_
  rintro e w1 ⟨⟨f4, rfl, hf4⟩, rfl⟩
  go_wp2_with fail
  refine (PK _).mono ?_
  rintro e w1 ⟨rfl, rfl⟩
  go_wp2
  go_ret
  refine ⟨_, rfl, ?_, HB.out⟩
  show 1 ≤ 9
  omega

set_option maxRecDepth 100000 in
set_option maxHeartbeats 2000000 in
theorem body_4 (kd n wy : Int) (h1 : -9223372036854775808 ≤ kd) (h2 : kd ≤ 9223372036854775807) (h3 : -9223372036854775808 ≤ n) (h4 : n ≤ 9223372036854775807) (hk : pickV kd 14 = 4) (w : World) :
    Calls Tryz.prog 28 #[.agg #[.int .i64 kd, .int .i64 n, .int .i64 wy]] w fun e w' => BodyR w w' e := by
  have PN := pickE_any n 65536 (by decide) (by decide) h3 h4
  have PK := pickE_any kd 14 (by decide) (by decide) h1 h2
  rw [hk] at PK
  have pr := pickV_r n 65536 (by decide)
  have F4 := func4_any (pickV n 65536) pr.1 pr.2
  have HB : Hid (Below w.heap.size w (w.alloc (.cells #[.int .i64 kd, .int .i64 n, .int .i64 wy] 67))) := bl_alloc (Below.refl _ _)
  clear hk
  generalize pickV n 65536 = r0 at *
  go_enter Tryz.func28, Tryz.ntmps28
  go_wp2_with fail
  refine (PN _).mono ?_
  rintro e w1 ⟨rfl, rfl⟩
  go_wp2_with fail
  refine (F4 _).mono ?_
  rintro e w1 ⟨⟨f4, rfl, hf4⟩, rfl⟩
  go_wp2_with fail
  refine (PK _).mono ?_
  rintro e w1 ⟨rfl, rfl⟩
  go_wp2
  go_ret
  refine ⟨_, rfl, ?_, HB.out⟩
  have q : (f4.extract 2 4).size ≤ 2 := by rw [ByteArray.size_extract]; omega
  rw [ByteArray.size_append, ByteArray.size_append]
  show 3 + (f4.extract 2 4).size + 2 ≤ 9
  omega

set_option maxRecDepth 100000 in
set_option maxHeartbeats 2000000 in
theorem body_5 (kd n wy : Int) (h1 : -9223372036854775808 ≤ kd) (h2 : kd ≤ 9223372036854775807) (h3 : -9223372036854775808 ≤ n) (h4 : n ≤ 9223372036854775807) (hk : pickV kd 14 = 5) (w : World) :
    Calls Tryz.prog 28 #[.agg #[.int .i64 kd, .int .i64 n, .int .i64 wy]] w fun e w' => BodyR w w' e := by
  have PN := pickE_any n 65536 (by decide) (by decide) h3 h4
  have PK := pickE_any kd 14 (by decide) (by decide) h1 h2
  rw [hk] at PK
  have pr := pickV_r n 65536 (by decide)
  have F4 := func4_any (pickV n 65536) pr.1 pr.2
  have HB : Hid (Below w.heap.size w (w.alloc (.cells #[.int .i64 kd, .int .i64 n, .int .i64 wy] 67))) := bl_alloc (Below.refl _ _)
  clear hk
  generalize pickV n 65536 = r0 at *
  go_enter Tryz.func28, Tryz.ntmps28
  go_wp2_with fail
  refine (PN _).mono ?_
  rintro e w1 ⟨rfl, rfl⟩
  go_wp2_with fail
  refine (F4 _).mono ?_
  rintro e w1 ⟨⟨f4, rfl, hf4⟩, rfl⟩
  go_wp2_with fail
  refine (PK _).mono ?_
  rintro e w1 ⟨rfl, rfl⟩
  go_wp2_with fail
  go_quiet (fail)
  go_wp2
  go_ret
  refine ⟨_, rfl, ?_, bl_drewN HB.out _⟩
  have q : (f4.extract 2 4).size ≤ 2 := by rw [ByteArray.size_extract]; omega
  have p : (f4.extract 0 2).size ≤ 2 := by rw [ByteArray.size_extract]; omega
  rw [ByteArray.size_append, ByteArray.size_append]
  show 3 + (f4.extract 2 4).size + (f4.extract 0 2).size ≤ 9
  omega

set_option maxRecDepth 100000 in
set_option maxHeartbeats 2000000 in
theorem body_6 (kd n wy : Int) (h1 : -9223372036854775808 ≤ kd) (h2 : kd ≤ 9223372036854775807) (h3 : -9223372036854775808 ≤ n) (h4 : n ≤ 9223372036854775807) (hk : pickV kd 14 = 6) (w : World) :
    Calls Tryz.prog 28 #[.agg #[.int .i64 kd, .int .i64 n, .int .i64 wy]] w fun e w' => BodyR w w' e := by
  have PN := pickE_any n 65536 (by decide) (by decide) h3 h4
  have PK := pickE_any kd 14 (by decide) (by decide) h1 h2
  rw [hk] at PK
  have pr := pickV_r n 65536 (by decide)
  have F4 := func4_any (pickV n 65536) pr.1 pr.2
  have HB : Hid (Below w.heap.size w (w.alloc (.cells #[.int .i64 kd, .int .i64 n, .int .i64 wy] 67))) := bl_alloc (Below.refl _ _)
  clear hk
  generalize pickV n 65536 = r0 at *
  go_enter Tryz.func28, Tryz.ntmps28
  go_wp2_with fail
  refine (PN _).mono ?_
  rintro e w1 ⟨rfl, rfl⟩
  go_wp2_with fail
  refine (F4 _).mono ?_
  rintro e w1 ⟨⟨f4, rfl, hf4⟩, rfl⟩
  go_wp2_with fail
  refine (PK _).mono ?_
  rintro e w1 ⟨rfl, rfl⟩
  go_wp2
  go_ret
  refine ⟨_, rfl, ?_, HB.out⟩
  have q : (f4.extract 2 4).size ≤ 2 := by rw [ByteArray.size_extract]; omega
  rw [ByteArray.size_append]
  show 3 + (f4.extract 2 4).size ≤ 9
  omega

set_option maxRecDepth 100000 in
set_option maxHeartbeats 2000000 in
theorem body_7 (kd n wy : Int) (h1 : -9223372036854775808 ≤ kd) (h2 : kd ≤ 9223372036854775807) (h3 : -9223372036854775808 ≤ n) (h4 : n ≤ 9223372036854775807) (hk : pickV kd 14 = 7) (w : World) :
    Calls Tryz.prog 28 #[.agg #[.int .i64 kd, .int .i64 n, .int .i64 wy]] w fun e w' => BodyR w w' e := by
  have PN := pickE_any n 65536 (by decide) (by decide) h3 h4
  have PK := pickE_any kd 14 (by decide) (by decide) h1 h2
  rw [hk] at PK
  have pr := pickV_r n 65536 (by decide)
  have F4 := func4_any (pickV n 65536) pr.1 pr.2
  have HB : Hid (Below w.heap.size w (w.alloc (.cells #[.int .i64 kd, .int .i64 n, .int .i64 wy] 67))) := bl_alloc (Below.refl _ _)
  clear hk
  generalize pickV n 65536 = r0 at *
  go_enter Tryz.func28, Tryz.ntmps28
  go_wp2_with fail
  refine (PN _).mono ?_
  rintro e w1 ⟨rfl, rfl⟩
  go_wp2_with fail
  refine (F4 _).mono ?_
  rintro e w1 ⟨⟨f4, rfl, hf4⟩, rfl⟩
  go_wp2_with fail
  refine (PK _).mono ?_
  rintro e w1 ⟨rfl, rfl⟩
  go_wp2
  go_ret
  refine ⟨_, rfl, ?_, HB.out⟩
  have q : (f4.extract 2 4).size ≤ 2 := by rw [ByteArray.size_extract]; omega
  rw [ByteArray.size_append]
  show 3 + (f4.extract 2 4).size ≤ 9
  omega

set_option maxRecDepth 100000 in
set_option maxHeartbeats 2000000 in
theorem body_8 (kd n wy : Int) (h1 : -9223372036854775808 ≤ kd) (h2 : kd ≤ 9223372036854775807) (h3 : -9223372036854775808 ≤ n) (h4 : n ≤ 9223372036854775807) (hk : pickV kd 14 = 8) (w : World) :
    Calls Tryz.prog 28 #[.agg #[.int .i64 kd, .int .i64 n, .int .i64 wy]] w fun e w' => BodyR w w' e := by
  have PN := pickE_any n 65536 (by decide) (by decide) h3 h4
  have PK := pickE_any kd 14 (by decide) (by decide) h1 h2
  rw [hk] at PK
  have pr := pickV_r n 65536 (by decide)
  have F4 := func4_any (pickV n 65536) pr.1 pr.2
  have HB : Hid (Below w.heap.size w (w.alloc (.cells #[.int .i64 kd, .int .i64 n, .int .i64 wy] 67))) := bl_alloc (Below.refl _ _)
  clear hk
  generalize pickV n 65536 = r0 at *
  go_enter Tryz.func28, Tryz.ntmps28
  go_wp2_with fail
  refine (PN _).mono ?_
  rintro e w1 ⟨rfl, rfl⟩
  go_wp2_with fail
  refine (F4 _).mono ?_
  rintro e w1 ⟨⟨f4, rfl, hf4⟩, rfl⟩
  go_wp2_with fail
  refine (PK _).mono ?_
  rintro e w1 ⟨rfl, rfl⟩
  go_wp2
  go_ret
  refine ⟨_, rfl, ?_, HB.out⟩
  rw [ByteArray.size_append]
  show 1 + f4.size ≤ 9
  omega

set_option maxRecDepth 100000 in
set_option maxHeartbeats 2000000 in
theorem body_9 (kd n wy : Int) (h1 : -9223372036854775808 ≤ kd) (h2 : kd ≤ 9223372036854775807) (h3 : -9223372036854775808 ≤ n) (h4 : n ≤ 9223372036854775807) (hk : pickV kd 14 = 9) (w : World) :
    Calls Tryz.prog 28 #[.agg #[.int .i64 kd, .int .i64 n, .int .i64 wy]] w fun e w' => BodyR w w' e := by
  have PN := pickE_any n 65536 (by decide) (by decide) h3 h4
  have PK := pickE_any kd 14 (by decide) (by decide) h1 h2
  rw [hk] at PK
  have pr := pickV_r n 65536 (by decide)
  have F4 := func4_any (pickV n 65536) pr.1 pr.2
  have HB : Hid (Below w.heap.size w (w.alloc (.cells #[.int .i64 kd, .int .i64 n, .int .i64 wy] 67))) := bl_alloc (Below.refl _ _)
  clear hk
  generalize pickV n 65536 = r0 at *
  go_enter Tryz.func28, Tryz.ntmps28
  go_wp2_with fail
  refine (PN _).mono ?_
  rintro e w1 ⟨rfl, rfl⟩
  go_wp2_with fail
  refine (F4 _).mono ?_
  rintro e w1 ⟨⟨f4, rfl, hf4⟩, rfl⟩
  go_wp2_with fail
  refine (PK _).mono ?_
  rintro e w1 ⟨rfl, rfl⟩
  go_wp2
  go_ret
  refine ⟨_, rfl, ?_, HB.out⟩
  rw [ByteArray.size_append]
  show 1 + f4.size ≤ 9
  omega

set_option maxRecDepth 100000 in
set_option maxHeartbeats 2000000 in
theorem body_10 (kd n wy : Int) (h1 : -9223372036854775808 ≤ kd) (h2 : kd ≤ 9223372036854775807) (h3 : -9223372036854775808 ≤ n) (h4 : n ≤ 9223372036854775807) (hk : pickV kd 14 = 10) (w : World) :
    Calls Tryz.prog 28 #[.agg #[.int .i64 kd, .int .i64 n, .int .i64 wy]] w fun e w' => BodyR w w' e := by
  have PN := pickE_any n 65536 (by decide) (by decide) h3 h4
  have PK := pickE_any kd 14 (by decide) (by decide) h1 h2
  rw [hk] at PK
  have pr := pickV_r n 65536 (by decide)
  have F4 := func4_any (pickV n 65536) pr.1 pr.2
  have HB : Hid (Below w.heap.size w (w.alloc (.cells #[.int .i64 kd, .int .i64 n, .int .i64 wy] 67))) := bl_alloc (Below.refl _ _)
  have PM := pickE_any n 2 (by decide) (by decide) h3 h4
  have pm := pickV_r n 2 (by decide)
  obtain ⟨d, hd⟩ : ∃ d : Nat, pickV n 2 = d := ⟨(pickV n 2).toNat, by omega⟩
  simp only [hd] at PM pm
  obtain ⟨pm0, pm1⟩ := pm
  have hd8 : d < 2 := by omega
  clear hk
  generalize pickV n 65536 = r0 at *
  go_enter Tryz.func28, Tryz.ntmps28
  go_wp2_with fail
  refine (PN _).mono ?_
  rintro e w1 ⟨rfl, rfl⟩
  go_wp2_with fail
  refine (F4 _).mono ?_
  rintro e w1 ⟨⟨f4, rfl, hf4⟩, rfl⟩
  go_wp2_with fail
  refine (PK _).mono ?_
  rintro e w1 ⟨rfl, rfl⟩
  go_wp2_with fail
  go_quiet (first | (go_at_call 20; exact Calls.quiet_of_same (PM _)))
  go_wp2
  go_ret
  refine ⟨_, rfl, ?_, bl_drewN HB.out _⟩
  have q := hxs_ext d (by omega)
  rw [ByteArray.size_append]
  show 1 + (hxs.extract d (d + 1)).size ≤ 9
  omega

set_option maxRecDepth 100000 in
set_option maxHeartbeats 2000000 in
theorem body_11 (kd n wy : Int) (h1 : -9223372036854775808 ≤ kd) (h2 : kd ≤ 9223372036854775807) (h3 : -9223372036854775808 ≤ n) (h4 : n ≤ 9223372036854775807) (hk : pickV kd 14 = 11) (w : World) :
    Calls Tryz.prog 28 #[.agg #[.int .i64 kd, .int .i64 n, .int .i64 wy]] w fun e w' => BodyR w w' e := by
  have PN := pickE_any n 65536 (by decide) (by decide) h3 h4
  have PK := pickE_any kd 14 (by decide) (by decide) h1 h2
  rw [hk] at PK
  have pr := pickV_r n 65536 (by decide)
  have F4 := func4_any (pickV n 65536) pr.1 pr.2
  have HB : Hid (Below w.heap.size w (w.alloc (.cells #[.int .i64 kd, .int .i64 n, .int .i64 wy] 67))) := bl_alloc (Below.refl _ _)
  clear hk
  generalize pickV n 65536 = r0 at *
  go_enter Tryz.func28, Tryz.ntmps28
  go_wp2_with fail
  refine (PN _).mono ?_
  rintro e w1 ⟨rfl, rfl⟩
  go_wp2_with fail
  refine (F4 _).mono ?_
  rintro e w1 ⟨⟨f4, rfl, hf4⟩, rfl⟩
  go_wp2_with fail
  refine (PK _).mono ?_
  rintro e w1 ⟨rfl, rfl⟩
  go_wp2
  go_ret
  refine ⟨_, rfl, ?_, HB.out⟩
  show 1 ≤ 9
  omega

set_option maxRecDepth 100000 in
set_option maxHeartbeats 2000000 in
theorem body_12 (kd n wy : Int) (h1 : -9223372036854775808 ≤ kd) (h2 : kd ≤ 9223372036854775807) (h3 : -9223372036854775808 ≤ n) (h4 : n ≤ 9223372036854775807) (hk : pickV kd 14 = 12) (w : World) :
    Calls Tryz.prog 28 #[.agg #[.int .i64 kd, .int .i64 n, .int .i64 wy]] w fun e w' => BodyR w w' e := by
  have PN := pickE_any n 65536 (by decide) (by decide) h3 h4
  have PK := pickE_any kd 14 (by decide) (by decide) h1 h2
  rw [hk] at PK
  have pr := pickV_r n 65536 (by decide)
  have F4 := func4_any (pickV n 65536) pr.1 pr.2
  have HB : Hid (Below w.heap.size w (w.alloc (.cells #[.int .i64 kd, .int .i64 n, .int .i64 wy] 67))) := bl_alloc (Below.refl _ _)
  have PM := pickE_any n 4 (by decide) (by decide) h3 h4
  have pm := pickV_r n 4 (by decide)
  obtain ⟨d, hd⟩ : ∃ d : Nat, pickV n 4 = d := ⟨(pickV n 4).toNat, by omega⟩
  simp only [hd] at PM pm
  obtain ⟨pm0, pm1⟩ := pm
  have hd8 : d < 4 := by omega
  clear hk
  generalize pickV n 65536 = r0 at *
  go_enter Tryz.func28, Tryz.ntmps28
  go_wp2_with fail
  refine (PN _).mono ?_
  rintro e w1 ⟨rfl, rfl⟩
  go_wp2_with fail
  refine (F4 _).mono ?_
  rintro e w1 ⟨⟨f4, rfl, hf4⟩, rfl⟩
  go_wp2_with fail
  refine (PK _).mono ?_
  rintro e w1 ⟨rfl, rfl⟩
  go_wp2_with fail
  go_quiet (first | (go_at_call 20; exact Calls.quiet_of_same (PM _)))
  go_wp2
  go_ret
  refine ⟨_, rfl, ?_, bl_drewN HB.out _⟩
  have q := hxs_ext d (by omega)
  rw [ByteArray.size_append]
  show 1 + (hxs.extract d (d + 1)).size ≤ 9
  omega

set_option maxRecDepth 100000 in
set_option maxHeartbeats 2000000 in
theorem body_13 (kd n wy : Int) (h1 : -9223372036854775808 ≤ kd) (h2 : kd ≤ 9223372036854775807) (h3 : -9223372036854775808 ≤ n) (h4 : n ≤ 9223372036854775807) (hk : pickV kd 14 = 13) (w : World) :
    Calls Tryz.prog 28 #[.agg #[.int .i64 kd, .int .i64 n, .int .i64 wy]] w fun e w' => BodyR w w' e := by
  have PN := pickE_any n 65536 (by decide) (by decide) h3 h4
  have PK := pickE_any kd 14 (by decide) (by decide) h1 h2
  rw [hk] at PK
  have pr := pickV_r n 65536 (by decide)
  have F4 := func4_any (pickV n 65536) pr.1 pr.2
  have HB : Hid (Below w.heap.size w (w.alloc (.cells #[.int .i64 kd, .int .i64 n, .int .i64 wy] 67))) := bl_alloc (Below.refl _ _)
  clear hk
  generalize pickV n 65536 = r0 at *
  go_enter Tryz.func28, Tryz.ntmps28
  go_wp2_with fail
  refine (PN _).mono ?_
  rintro e w1 ⟨rfl, rfl⟩
  go_wp2_with fail
  refine (F4 _).mono ?_
  rintro e w1 ⟨⟨f4, rfl, hf4⟩, rfl⟩
  go_wp2_with fail
  refine (PK _).mono ?_
  rintro e w1 ⟨rfl, rfl⟩
  go_wp2
  go_ret
  refine ⟨_, rfl, ?_, HB.out⟩
  have p : (f4.extract 0 2).size ≤ 2 := by rw [ByteArray.size_extract]; omega
  rw [ByteArray.size_append]
  show 1 + (f4.extract 0 2).size ≤ 9
  omega

theorem body_any (kd n wy : Int) (h1 : -9223372036854775808 ≤ kd) (h2 : kd ≤ 9223372036854775807) (h3 : -9223372036854775808 ≤ n) (h4 : n ≤ 9223372036854775807) (w : World) :
    Calls Tryz.prog 28 #[.agg #[.int .i64 kd, .int .i64 n, .int .i64 wy]] w fun e w' => BodyR w w' e := by
  have r := pickV_r kd 14 (by decide)
  rcases (show pickV kd 14 = 0 ∨ pickV kd 14 = 1 ∨ pickV kd 14 = 2 ∨ pickV kd 14 = 3 ∨ pickV kd 14 = 4 ∨ pickV kd 14 = 5 ∨ pickV kd 14 = 6 ∨ pickV kd 14 = 7 ∨ pickV kd 14 = 8 ∨ pickV kd 14 = 9 ∨ pickV kd 14 = 10 ∨ pickV kd 14 = 11 ∨ pickV kd 14 = 12 ∨ pickV kd 14 = 13 from by omega) with h | h | h | h | h | h | h | h | h | h | h | h | h | h
  · exact body_0 kd n wy h1 h2 h3 h4 h w
  · exact body_1 kd n wy h1 h2 h3 h4 h w
  · exact body_2 kd n wy h1 h2 h3 h4 h w
  · exact body_3 kd n wy h1 h2 h3 h4 h w
  · exact body_4 kd n wy h1 h2 h3 h4 h w
  · exact body_5 kd n wy h1 h2 h3 h4 h w
  · exact body_6 kd n wy h1 h2 h3 h4 h w
  · exact body_7 kd n wy h1 h2 h3 h4 h w
  · exact body_8 kd n wy h1 h2 h3 h4 h w
  · exact body_9 kd n wy h1 h2 h3 h4 h w
  · exact body_10 kd n wy h1 h2 h3 h4 h w
  · exact body_11 kd n wy h1 h2 h3 h4 h w
  · exact body_12 kd n wy h1 h2 h3 h4 h w
  · exact body_13 kd n wy h1 h2 h3 h4 h w
end

end Go.Proofs.YtcgjliflnnklnaaGreat
