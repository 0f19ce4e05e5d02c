/-
  The law Cycles, walked: the document's example, and the law itself.
-/
import Derived.Test.YtcgjliflnnklnaaGreatJ23
namespace Go.Proofs.YtcgjliflnnklnaaGreat
open Go.RowKit
set_option maxRecDepth 100000
set_option maxHeartbeats 1000000

theorem ChV.more {N M : Nat} {w : World} {v : Value} {bs : List UInt8} (h : ChV N w v bs) (hm : N ≤ M) : ChV M w v bs := by
  obtain ⟨p, cap, e, h⟩ := h
  refine ⟨p, cap, e, fun hn => ?_⟩
  obtain ⟨b, off, e2, hb, hB⟩ := h hn
  exact ⟨b, off, e2, by omega, hB⟩
theorem CfAt.more {N M : Nat} {w : World} {v : Value} {cs : List Chn} (h : CfAt N w v cs) (hm : N ≤ M) : CfAt M w v cs := by
  obtain ⟨p, cap, e, h⟩ := h
  refine ⟨p, cap, e, fun hn => ?_⟩
  obtain ⟨b, off, e2, hb, hB⟩ := h hn
  exact ⟨b, off, e2, by omega, fun i hi => ⟨(hB i hi).1, (hB i hi).2.1, (hB i hi).2.2.more hm⟩⟩
/-- A configuration in memory that is not too great. -/
def CfG (N : Nat) (w : World) (v : Value) : Prop := ∃ cs, CfAt N w v cs ∧ cs.length ≤ 2000000 ∧ (∀ c ∈ cs, c.bs.length ≤ 2000000) ∧ total cs ≤ 100000000
theorem CfG.later {N M : Nat} {w w' : World} {v : Value} (h : CfG N w v) (hb : Below w.heap.size w w') (hm : N ≤ M) : CfG M w' v := by
  obtain ⟨cs, c1, c2⟩ := h
  exact ⟨cs, (c1.below hb).more hm, c2⟩
theorem cfg_none (N : Nat) (w : World) : CfG N w (.slice none 0 0) := ⟨[], ⟨none, 0, rfl, fun h => absurd rfl h⟩, by simp, by simp, by simp [total]⟩
theorem OpL.more {N M : Nat} {w w' : World} {g o : Nat} (h : OpL N w g o) (hb : Below w.heap.size w w') (hm : N ≤ M) : OpL M w' g o := by
  obtain ⟨k, a, b, S, n, q, v, rom, hc, r, sl⟩ := h.later hb
  refine ⟨k, a, b, S, n, q, v, rom, hc, fun z => ?_, sl⟩
  obtain ⟨k1, a1, a2, b1, b2, cs, c1, c2⟩ := r z
  exact ⟨k1, a1, a2, b1, b2, cs, c1.more hm, c2⟩

theorem al_keep (w : World) (o : Obj) {b i : Nat} {v : Value} (h : w.cell? ⟨b, i, none⟩ = some v) : (w.alloc o).cell? ⟨b, i, none⟩ = some v := cell_later ((Below.refl _ _).alloc (Nat.le_refl _) _) h

theorem ex_cf (w : World) (o : Obj) (T U : TypeId) (W : World) (hW : W = (((w.alloc o).alloc (.cells #[.int .u8 169, .int .u8 5, .int .u8 105, .int .u8 254, .int .u8 141, .int .u8 0, .int .u8 3, .int .u8 2] T)).alloc (.cells #[.int .u8 0, .int .u8 2] T)).alloc
      (.cells #[.int .i64 512, .slice (some ⟨w.heap.size + 1, 0, none⟩) 8 8, .int .i64 65532, .slice (some ⟨w.heap.size + 1 + 1, 0, none⟩) 2 2] U)) :
    CfG W.heap.size W (.slice (some ⟨w.heap.size + 1 + 1 + 1, 0, none⟩) 2 2) := by
  subst hW
  refine ⟨[⟨512, .slice (some ⟨w.heap.size + 1, 0, none⟩) 8 8, [169, 5, 105, 254, 141, 0, 3, 2]⟩, ⟨65532, .slice (some ⟨w.heap.size + 1 + 1, 0, none⟩) 2 2, [0, 2]⟩], ⟨_, _, rfl, fun _ => ⟨w.heap.size + 1 + 1 + 1, 0, rfl, by simp, fun i hi => ?_⟩⟩, by simp, ?_, by simp [total]⟩
  · match i, hi with
    | 0, _ =>
      refine ⟨World.cell?_alloc_at _ _ _ _ (by simp), World.cell?_alloc_at _ _ _ _ (by simp), _, _, rfl, fun _ => ⟨w.heap.size + 1, 0, rfl, by simp, fun i hi => al_keep _ _ (al_keep _ _ ?_)⟩⟩
      rw [World.cell?_alloc_at _ _ _ _ (by simp)]
      match i, hi with
      | 0, _ | 1, _ | 2, _ | 3, _ | 4, _ | 5, _ | 6, _ | 7, _ => rfl
      | i + 8, hi => exact absurd hi (by simp)
    | 1, _ =>
      refine ⟨World.cell?_alloc_at _ _ _ _ (by simp), World.cell?_alloc_at _ _ _ _ (by simp), _, _, rfl, fun _ => ⟨w.heap.size + 1 + 1, 0, rfl, by simp, fun i hi => al_keep _ _ ?_⟩⟩
      rw [World.cell?_alloc_at _ _ _ _ (by simp)]
      match i, hi with
      | 0, _ | 1, _ => rfl
      | i + 2, hi => exact absurd hi (by simp)
    | i + 2, hi => exact absurd hi (by simp)
  · intro c hc
    simp only [List.mem_cons, List.not_mem_nil, or_false] at hc
    rcases hc with rfl | rfl <;> simp

theorem below4 (w : World) (o p q r : Obj) : Below w.heap.size w ((((w.alloc o).alloc p).alloc q).alloc r) := (below2 w o p).trans ((below2 _ q r).mono (by simp; omega))

theorem example_any (w : World) : Calls Tryz.prog 15 #[] w fun e w' => ∃ p l c, e = .returned (.agg #[.slice p l c, .int .i64 256]) ∧ Below w.heap.size w w' ∧ CfG w'.heap.size w' (.slice p l c) := by
  go_enter Tryz.func15, Tryz.ntmps15
  go_wp2
  go_returns
  exact ⟨_, _, _, rfl, below4 _ _ _ _ _, ex_cf _ _ _ _ _ rfl⟩

theorem ahead_c (w : World) (o : Obj) (T : TypeId) (p : Option Addr) (l c : Nat) (h : CfG w.heap.size w (.slice p l c)) (W : World)
    (hW : W = (w.alloc (.cells #[.int .i64 1, .int .i64 0, .int .i64 0, .string ⟨#[]⟩, .bool false, .bool false, .slice p l c, .int .i64 256, .int .i64 2, .int .i64 0, .int .i64 10, .string ⟨#[]⟩, .bool false, .bool false, .slice none 0 0, .int .i64 0, .int .i64 3, .int .i64 0, .int .i64 0, .string ⟨#[]⟩, .bool false, .bool false, .slice none 0 0, .int .i64 0] T)).alloc o) :
    ∀ i, i < 3 → OpL W.heap.size W w.heap.size (i * 8) ∧ ∀ k, W.cell? ⟨w.heap.size, i * 8, none⟩ = some (.int .i64 k) → k = 1 ∨ k = 2 ∨ k = 3 ∨ k = 4 := by
  subst hW
  intro i hi
  have hk : ∀ (w' : World) (j : Nat) (k k' : Int), w'.cell? ⟨w.heap.size, j, none⟩ = some (.int .i64 k') → w'.cell? ⟨w.heap.size, j, none⟩ = some (.int .i64 k) → k = k' := by
    intro w' j k k' a b
    rw [a] at b
    injection b with b
    injection b with _ b
    exact b.symm
  match i, hi with
  | 0, _ => exact ⟨⟨1, 0, 0, ⟨#[]⟩, false, false, .slice p l c, 256, ⟨al_keep _ _ (World.cell?_alloc_at _ _ _ _ rfl), al_keep _ _ (World.cell?_alloc_at _ _ _ _ rfl), al_keep _ _ (World.cell?_alloc_at _ _ _ _ rfl), al_keep _ _ (World.cell?_alloc_at _ _ _ _ rfl), al_keep _ _ (World.cell?_alloc_at _ _ _ _ rfl), al_keep _ _ (World.cell?_alloc_at _ _ _ _ rfl), al_keep _ _ (World.cell?_alloc_at _ _ _ _ rfl), al_keep _ _ (World.cell?_alloc_at _ _ _ _ rfl)⟩, fun z => ⟨z, by decide, by decide, by decide, by decide, h.later (below2 _ _ _) (by simp; omega)⟩, _, _, _, rfl⟩, fun k q => .inl (hk _ _ _ _ (al_keep _ _ (World.cell?_alloc_at _ _ _ _ rfl)) q)⟩
  | 1, _ => exact ⟨⟨2, 0, 10, ⟨#[]⟩, false, false, .slice none 0 0, 0, ⟨al_keep _ _ (World.cell?_alloc_at _ _ _ _ rfl), al_keep _ _ (World.cell?_alloc_at _ _ _ _ rfl), al_keep _ _ (World.cell?_alloc_at _ _ _ _ rfl), al_keep _ _ (World.cell?_alloc_at _ _ _ _ rfl), al_keep _ _ (World.cell?_alloc_at _ _ _ _ rfl), al_keep _ _ (World.cell?_alloc_at _ _ _ _ rfl), al_keep _ _ (World.cell?_alloc_at _ _ _ _ rfl), al_keep _ _ (World.cell?_alloc_at _ _ _ _ rfl)⟩, fun z => ⟨z, by decide, by decide, by decide, by decide, cfg_none _ _⟩, _, _, _, rfl⟩, fun k q => .inr (.inl (hk _ _ _ _ (al_keep _ _ (World.cell?_alloc_at _ _ _ _ rfl)) q))⟩
  | 2, _ => exact ⟨⟨3, 0, 0, ⟨#[]⟩, false, false, .slice none 0 0, 0, ⟨al_keep _ _ (World.cell?_alloc_at _ _ _ _ rfl), al_keep _ _ (World.cell?_alloc_at _ _ _ _ rfl), al_keep _ _ (World.cell?_alloc_at _ _ _ _ rfl), al_keep _ _ (World.cell?_alloc_at _ _ _ _ rfl), al_keep _ _ (World.cell?_alloc_at _ _ _ _ rfl), al_keep _ _ (World.cell?_alloc_at _ _ _ _ rfl), al_keep _ _ (World.cell?_alloc_at _ _ _ _ rfl), al_keep _ _ (World.cell?_alloc_at _ _ _ _ rfl)⟩, fun z => ⟨z, by decide, by decide, by decide, by decide, cfg_none _ _⟩, _, _, _, rfl⟩, fun k q => .inr (.inr (.inl (hk _ _ _ _ (al_keep _ _ (World.cell?_alloc_at _ _ _ _ rfl)) q)))⟩
  | i + 3, hi => exact absurd hi (by omega)

theorem kinds_c (w : World) (o : Obj) (T : TypeId) : ∀ i : Nat, i < 4 → ((w.alloc o).alloc (.cells #[.int .i64 1, .int .i64 2, .int .i64 3, .int .i64 4] T)).cell? ⟨w.heap.size + 1, i, none⟩ = some (.int .i64 (1 + (i : Int))) := by
  intro i hi
  rw [World.cell?_alloc_at _ _ _ _ (by simp)]
  match i, hi with
  | 0, _ | 1, _ | 2, _ | 3, _ => rfl
  | i + 4, hi => exact absurd hi (by omega)

theorem cycles_any (w : World) (sa : Option Addr) (sb so len cap : Nat)
    (hS : len = 0 ∨ (sa = some ⟨sb, so, none⟩ ∧ ∀ i, i < len → OpL w.heap.size w sb (so + i * 8))) (hlen : len ≤ 1048576) :
    Calls Tryz.prog 3 #[.slice sa len cap] w fun e w' => e = .returned (.bool true) ∧ Below w.heap.size w w' := by
  have HS : Hid (len = 0 ∨ (sa = some ⟨sb, so, none⟩ ∧ ∀ i, i < len → OpL w.heap.size w sb (so + i * 8))) := hS
  clear hS
  go_enter Tryz.func3, Tryz.ntmps3
  go_wp2_with fail
  refine (example_any _).mono ?_
  rintro e w1 ⟨p, l, c, rfl, hb, hC⟩
  have HB : Hid (Below w.heap.size w w1 ∧ CfG w1.heap.size w1 (.slice p l c)) := ⟨hb, hC⟩
  clear hb hC
  go_wp2_with fail
  refine (playsC _ w1.heap.size (w1.heap.size + 1) sa sb so len cap ?_ ?_ ?_ hlen).mono ?_
  · exact ahead_c w1 _ _ p l c HB.out.2 _ rfl
  · exact kinds_c w1 _ _
  · rcases HS.out with h | ⟨h, h2⟩
    · exact .inl h
    · exact .inr ⟨h, fun i hi => (h2 i hi).more (HB.out.1.trans ((below2 _ _ _).mono HB.out.1.size)) (by have := HB.out.1.size; simp; omega)⟩
  · rintro e w2 ⟨rfl, hb⟩
    have HB2 : Hid (Below w.heap.size w w2) := HB.out.1.trans (((below2 _ _ _).mono HB.out.1.size).trans (hb.mono (by have := HB.out.1.size; simp; omega)))
    clear hb
    go_wp2
    go_ret
    exact ⟨rfl, HB2.out⟩

end Go.Proofs.YtcgjliflnnklnaaGreat
