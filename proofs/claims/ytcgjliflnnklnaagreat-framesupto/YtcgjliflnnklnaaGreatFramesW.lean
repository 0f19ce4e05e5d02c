/-
  The law Frames, walked.
-/
import Derived.Test.YtcgjliflnnklnaaGreatPlays
namespace Go.Proofs.YtcgjliflnnklnaaGreat
open Go.RowKit

theorem ahead_at (w : World) (o : Obj) (T : TypeId) (a0 b0 a1 b1 r0 r1 : Int) (S0 S1 : ByteArray) (n0 q0 n1 q1 : Bool) (c0 c1 : Option Addr) (l0 k0 l1 k1 : Nat)
    (h0 : S0.size ≤ 4000000) (h1 : S1.size ≤ 4000000) (ha0 : -9223372036854775808 ≤ a0 ∧ a0 ≤ 9223372036854775807) (ha1 : -9223372036854775808 ≤ a1 ∧ a1 ≤ 9223372036854775807) :
    ∀ i, i < 2 → OpAt (fun k => k = 5 ∨ k = 6) ((w.alloc (.cells #[.int .i64 5, .int .i64 a0, .int .i64 b0, .string S0, .bool n0, .bool q0, .slice c0 l0 k0, .int .i64 r0, .int .i64 6, .int .i64 a1, .int .i64 b1, .string S1, .bool n1, .bool q1, .slice c1 l1 k1, .int .i64 r1] T)).alloc o) w.heap.size (i * 8) := by
  intro i hi
  have hb : Below (w.alloc (.cells #[.int .i64 5, .int .i64 a0, .int .i64 b0, .string S0, .bool n0, .bool q0, .slice c0 l0 k0, .int .i64 r0, .int .i64 6, .int .i64 a1, .int .i64 b1, .string S1, .bool n1, .bool q1, .slice c1 l1 k1, .int .i64 r1] T)).heap.size _ ((w.alloc (.cells #[.int .i64 5, .int .i64 a0, .int .i64 b0, .string S0, .bool n0, .bool q0, .slice c0 l0 k0, .int .i64 r0, .int .i64 6, .int .i64 a1, .int .i64 b1, .string S1, .bool n1, .bool q1, .slice c1 l1 k1, .int .i64 r1] T)).alloc o) := (Below.refl _ _).alloc (Nat.le_refl _) _
  refine OpAt.later ?_ hb
  match i, hi with
  | 0, _ => exact ⟨5, a0, b0, S0, n0, q0, c0, l0, k0, r0, World.cell?_alloc_at _ _ _ _ rfl, World.cell?_alloc_at _ _ _ _ rfl, World.cell?_alloc_at _ _ _ _ rfl, World.cell?_alloc_at _ _ _ _ rfl, World.cell?_alloc_at _ _ _ _ rfl, World.cell?_alloc_at _ _ _ _ rfl, World.cell?_alloc_at _ _ _ _ rfl, World.cell?_alloc_at _ _ _ _ rfl, h0, ha0.1, ha0.2, .inl rfl⟩
  | 1, _ => exact ⟨6, a1, b1, S1, n1, q1, c1, l1, k1, r1, World.cell?_alloc_at _ _ _ _ rfl, World.cell?_alloc_at _ _ _ _ rfl, World.cell?_alloc_at _ _ _ _ rfl, World.cell?_alloc_at _ _ _ _ rfl, World.cell?_alloc_at _ _ _ _ rfl, World.cell?_alloc_at _ _ _ _ rfl, World.cell?_alloc_at _ _ _ _ rfl, World.cell?_alloc_at _ _ _ _ rfl, h1, ha1.1, ha1.2, .inr rfl⟩
  | i + 2, hi => exact absurd hi (by omega)

theorem kinds_at (w : World) (o : Obj) (T : TypeId) : ∀ i : Nat, i < 2 → ((w.alloc o).alloc (.cells #[.int .i64 5, .int .i64 6] T)).cell? ⟨w.heap.size + 1, i, none⟩ = some (.int .i64 (5 + (i : Int))) := by
  intro i hi
  have h : ∀ i, ((w.alloc o).alloc (.cells #[.int .i64 5, .int .i64 6] T)).cell? ⟨(w.alloc o).heap.size, i, none⟩ = (#[.int .i64 5, .int .i64 6] : Array Value)[i]? := fun i => World.cell?_alloc_at _ _ _ _ rfl
  have e : (w.alloc o).heap.size = w.heap.size + 1 := by simp
  rw [e] at h
  rw [h]
  match i, hi with
  | 0, _ => rfl
  | 1, _ => rfl
  | i + 2, hi => exact absurd hi (by omega)

set_option maxRecDepth 100000 in
set_option maxHeartbeats 1000000 in
theorem frames_any (w : World) (sa : Option Addr) (sb so len cap : Nat)
    (hS : len = 0 ∨ (sa = some ⟨sb, so, none⟩ ∧ ∀ i, i < len → OpAt (fun _ => True) w sb (so + i * 8))) (hlen : len ≤ 1048576) :
    Calls Tryz.prog 4 #[.slice sa len cap] w fun e w' => e = .returned (.bool true) ∧ Below w.heap.size w w' := by
  have HS : Hid (len = 0 ∨ (sa = some ⟨sb, so, none⟩ ∧ ∀ i, i < len → OpAt (fun _ => True) w sb (so + i * 8))) := hS
  clear hS
  go_enter Tryz.func4, Tryz.ntmps4
  go_wp2_with fail
  refine (plays_any _ w.heap.size (w.heap.size + 1) sa sb so len cap ?_ ?_ ?_ hlen).mono ?_
  · exact ahead_at w _ _ _ _ _ _ _ _ _ _ _ _ _ _ _ _ _ _ _ _ (by decide) (by decide) (by decide) (by decide)
  · exact kinds_at w _ _
  · rcases HS.out with h | ⟨h, h2⟩
    · exact .inl h
    · exact .inr ⟨h, fun i hi => (h2 i hi).later (below2 _ _ _)⟩
  · rintro e w2 ⟨rfl, hb⟩
    have HB : Hid (Below w.heap.size w w2) := (below2 w _ _).trans (hb.mono (by simp; omega))
    clear hb
    go_wp2
    go_ret
    exact ⟨rfl, HB.out⟩

end Go.Proofs.YtcgjliflnnklnaaGreat
