/-
  A machine made.
-/
import Derived.Test.YtcgjliflnnklnaaGreatCpStx
namespace Go.Proofs.YtcgjliflnnklnaaGreat
open Go.RowKit

/-- A computer fresh from its configuration. -/
def PC.fresh (rom : Int) (cs : List Chn) (R : Nat → Option Value) : PC := (zeroPC R).start rom cs

theorem zero_mach : ∃ (R : Nat → Option Value) (z : Array Value), (∀ w : World, Sem.run Tryz.prog (zeroValue 105) w = .ok (.agg z) w) ∧ z.size = 65562 ∧ ∀ (w : World) (t : TypeId), CAt (w.alloc (.cells z t)) w.heap.size (zeroPC R) :=
  ⟨_, _, Tryz.zeroValue105, Tryz.zeroCells105_size, fun w t => cat_zero w t _ zero_ok zero_tail⟩

set_option maxRecDepth 100000 in
set_option maxHeartbeats 1000000 in
theorem new_ok (N : Nat) (v : Value) (cs : List Chn) (rom : Int) (w : World) (hN : N ≤ w.heap.size) (hc : CfAt N w v cs) (hv : validI rom cs = true)
    (hl : cs.length ≤ 140737488355328) (hb : ∀ c ∈ cs, c.bs.length ≤ 140737488355328) :
    Calls Tryz.prog 22 #[.agg #[v, .int .i64 rom]] w fun e w' => ∃ B R, w.heap.size ≤ B ∧ e = .returned (.tuple #[.pointer (some ⟨B, 0, none⟩), .int .i64 0]) ∧
      CAt w' B (.fresh rom cs R) ∧ Below w.heap.size w w' := by
  obtain ⟨R, zz, hz, hzs, HZ⟩ := zero_mach
  have hne : zz ≠ #[] := by intro e; rw [e] at hzs; cases hzs
  have S : ∀ (o : Obj) (t : TypeId), Calls Tryz.prog 34 #[.pointer (some ⟨w.heap.size + 1, 0, none⟩), .agg #[v, .int .i64 rom]] ((w.alloc o).alloc (.cells zz t)).drew fun e w' => e = .returned (.int .i64 0) ∧ Tn (w.heap.size + 1) (.fresh rom cs R) ((w.alloc o).alloc (.cells zz t)) w' := by
    intro o t
    have q := start_ok (Tn.refl (HZ (w.alloc o) t)).drew N (by simp; omega) v cs rom ((hc.below (((Below.refl _ _).alloc (Nat.le_refl _) o).alloc (by simp) _)).below (bl_drew (Below.refl _ _))) hv hl hb
    rwa [show (w.alloc o).heap.size = w.heap.size + 1 from by simp] at q
  have HH : Hid (∀ (w : World) (t : TypeId), CAt (w.alloc (.cells zz t)) w.heap.size (zeroPC R)) := HZ
  obtain ⟨p, cap, rfl, -⟩ := hc
  clear HZ
  go_enter Tryz.func22, Tryz.ntmps22
  go_wp2_with fail
  go_region_with (first | (go_at_call 34; refine (S _ _).mono ?_; rintro e w2 ⟨rfl, T2⟩; have HT : Hid (CAt w2 (w.heap.size + 1) (.fresh rom cs R) ∧ Below w.heap.size w w2) := ⟨T2.c, below_grown (((Below.refl _ _).alloc (Nat.le_refl _) _).alloc (by simp) _) T2.g (by omega) (by simp; omega)⟩; clear T2 S))
  all_goals go_wp2
  all_goals go_ret2
  all_goals exact ⟨w.heap.size + 1, R, by omega, rfl, HT.out.1, HT.out.2⟩

end Go.Proofs.YtcgjliflnnklnaaGreat
