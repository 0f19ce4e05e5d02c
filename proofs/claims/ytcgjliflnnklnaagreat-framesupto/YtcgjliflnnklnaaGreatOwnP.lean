/-
  Lists of packets that came out: their owner's marks.
-/
import Derived.Test.YtcgjliflnnklnaaGreatOwnB
namespace Go.Proofs.YtcgjliflnnklnaaGreat
open Go.RowKit

def xfP (m : Nat) : Nat → Value := fun i => if i = 0 then .int .i64 (-1000 - (m : Int)) else if i = 1 then .string ⟨#[]⟩ else .bool false

theorem xfP_one (m : Nat) : ∀ j u, ([.int .i64 (-1000 - (m : Int)), .string ⟨#[]⟩, .bool false] : List Value)[j]? = some u → u = xfP m (j % 3) := by
  intro j u h
  match j, h with
  | 0, h => simp at h; subst h; rfl
  | 1, h => simp at h; subst h; rfl
  | 2, h => simp at h; subst h; rfl
theorem xfP_two (m : Nat) : ∀ j u, ([.int .i64 (-1000 - (m : Int)), .string ⟨#[]⟩, .bool false, .int .i64 (-1000 - (m : Int)), .string ⟨#[]⟩, .bool false] : List Value)[j]? = some u → u = xfP m (j % 3) := by
  intro j u h
  match j, h with
  | 0, h => simp at h; subst h; rfl
  | 1, h => simp at h; subst h; rfl
  | 2, h => simp at h; subst h; rfl
  | 3, h => simp at h; subst h; rfl
  | 4, h => simp at h; subst h; rfl
  | 5, h => simp at h; subst h; rfl
theorem mk_one (w : World) (q : Int) (t : TypeId) : ∀ j u, ([.int .i64 q, .string ⟨#[]⟩, .bool false] : List Value)[j]? = some u → (w.alloc (.cells #[.int .i64 q, .string ⟨#[]⟩, .bool false] t)).cell? ((⟨w.heap.size, 0, none⟩ : Addr).add j) = some u :=
  World.news_of_block (w := w.alloc (.cells #[.int .i64 q, .string ⟨#[]⟩, .bool false] t)) (cs := #[.int .i64 q, .string ⟨#[]⟩, .bool false]) (t := t) (fr := (0, 0)) (heap_alloc_new w _)
theorem mk_two (w : World) (q : Int) (t : TypeId) : ∀ j u, ([.int .i64 q, .string ⟨#[]⟩, .bool false, .int .i64 q, .string ⟨#[]⟩, .bool false] : List Value)[j]? = some u → (w.alloc (.cells #[.int .i64 q, .string ⟨#[]⟩, .bool false, .int .i64 q, .string ⟨#[]⟩, .bool false] t)).cell? ((⟨w.heap.size, 0, none⟩ : Addr).add j) = some u :=
  World.news_of_block (w := w.alloc (.cells #[.int .i64 q, .string ⟨#[]⟩, .bool false, .int .i64 q, .string ⟨#[]⟩, .bool false] t)) (cs := #[.int .i64 q, .string ⟨#[]⟩, .bool false, .int .i64 q, .string ⟨#[]⟩, .bool false]) (t := t) (fr := (0, 0)) (heap_alloc_new w _)
theorem mk_1c (q : Int) : ∀ u ∈ ([.int .i64 q, .string ⟨#[]⟩, .bool false] : List Value), u.oneCell' = true := by
  intro u hu; simp at hu; rcases hu with rfl | rfl | rfl <;> rfl
theorem mk_2c (q : Int) : ∀ u ∈ ([.int .i64 q, .string ⟨#[]⟩, .bool false, .int .i64 q, .string ⟨#[]⟩, .bool false] : List Value), u.oneCell' = true := by
  intro u hu; simp at hu; rcases hu with rfl | rfl | rfl | rfl | rfl | rfl <;> rfl

theorem mk_cells {e size : Nat} {xf : Nat → Value} {row : Option Nat} {w wr : World} {o : Obj} {b0 b1 b2 : Value} {t : TypeId} (h : XExt e size xf row (w.heap.size + 2) ((w.alloc o).alloc (.cells #[b0, b1, b2] t)) wr) (hr : some (w.heap.size + 1) ≠ row) :
    wr.cell? ⟨w.heap.size + 1, 0, none⟩ = some b0 ∧ wr.cell? ⟨w.heap.size + 1, 1, none⟩ = some b1 ∧ wr.cell? ⟨w.heap.size + 1, 2, none⟩ = some b2 := by
  have hn : ((w.alloc o).alloc (.cells #[b0, b1, b2] t)).heap[w.heap.size + 1]? = some (.cells #[b0, b1, b2] t (0, 0)) := by
    have := heap_alloc_new (w.alloc o) (.cells #[b0, b1, b2] t); rw [World.size_alloc] at this; exact this
  have hb := (h.old (w.heap.size + 1) (by omega) hr).trans hn
  have hc : ∀ o, wr.cell? ⟨w.heap.size + 1, o, none⟩ = #[b0, b1, b2][o]? := fun o => cell_of_row wr (w.heap.size + 1) o _ t (0, 0) hb
  exact ⟨hc 0, hc 1, hc 2⟩
theorem resP_cells {e size : Nat} {xf : Nat → Value} {row : Option Nat} {w wr : World} {a0 a1 a2 a3 a4 : Value} {p : Obj} {t : TypeId} (h : XExt e size xf row (w.heap.size + 2) ((w.alloc (.cells #[a0, a1, a2, a3, a4] t)).alloc p) wr) (hr : some w.heap.size ≠ row) :
    wr.cell? ⟨w.heap.size, 0, none⟩ = some a0 ∧ wr.cell? ⟨w.heap.size, 1, none⟩ = some a1 ∧ wr.cell? ⟨w.heap.size, 2, none⟩ = some a2 ∧ wr.cell? ⟨w.heap.size, 3, none⟩ = some a3 ∧ wr.cell? ⟨w.heap.size, 4, none⟩ = some a4 ∧ ∀ o, wr.frozen? ⟨w.heap.size, o, none⟩ = false := by
  have hn : ((w.alloc (.cells #[a0, a1, a2, a3, a4] t)).alloc p).heap[w.heap.size]? = some (.cells #[a0, a1, a2, a3, a4] t (0, 0)) := (Below.heap_alloc _ _ _ (by simp)).trans (heap_alloc_new w _)
  have hb := (h.old w.heap.size (by omega) hr).trans hn
  have hc : ∀ o, wr.cell? ⟨w.heap.size, o, none⟩ = #[a0, a1, a2, a3, a4][o]? := fun o => cell_of_row wr w.heap.size o _ t (0, 0) hb
  exact ⟨hc 0, hc 1, hc 2, hc 3, hc 4, fun o => by simp [World.frozen?, hb]⟩
theorem okP_not {row : Option Nat} {n : Nat} (hr : some n ≠ row) : ¬ Ok row (n + 2) n := by
  rintro (h | h)
  · exact hr h
  · omega
theorem resP_keep {e size : Nat} {xf : Nat → Value} {row : Option Nat} {w wr : World} {v a b c d f : Value} {n : Nat} (h : AllX e size xf row (w.heap.size + 2) wr v n) (hr : some w.heap.size ≠ row) :
    AllX e size xf row w.heap.size (((((wr.setCell ⟨w.heap.size, 0, none⟩ a).setCell ⟨w.heap.size, 1, none⟩ b).setCell ⟨w.heap.size, 2, none⟩ c).setCell ⟨w.heap.size, 3, none⟩ d).setCell ⟨w.heap.size, 4, none⟩ f) v n :=
  (((((h.setOther _ _ _ (okP_not hr)).setOther _ _ _ (okP_not hr)).setOther _ _ _ (okP_not hr)).setOther _ _ _ (okP_not hr)).setOther _ _ _ (okP_not hr)).mono (by omega)
theorem resP_grown {e size : Nat} {xf : Nat → Value} {row : Option Nat} {w wr : World} {o p : Obj} {a b c d f : Value} (h : XExt e size xf row (w.heap.size + 2) ((w.alloc o).alloc p) wr) :
    w.grownBy (((((wr.setCell ⟨w.heap.size, 0, none⟩ a).setCell ⟨w.heap.size, 1, none⟩ b).setCell ⟨w.heap.size, 2, none⟩ c).setCell ⟨w.heap.size, 3, none⟩ d).setCell ⟨w.heap.size, 4, none⟩ f) row := by
  have h0 : w.grownBy wr row := ⟨h.os, h.tape, h.output, by have := h.sz; simp at this; omega, fun k hk hne => (h.old k (by omega) hne).trans ((Below.heap_alloc _ p k (by simp; omega)).trans (Below.heap_alloc w o k hk))⟩
  exact grown_new (grown_new (grown_new (grown_new (grown_new h0 (Nat.le_refl _)) (Nat.le_refl _)) (Nat.le_refl _)) (Nat.le_refl _)) (Nat.le_refl _)

set_option maxRecDepth 100000 in
set_option maxHeartbeats 1000000 in
theorem allPackets_any (row : Option Nat) (H m n : Nat) (v : Value) (w : World) (hm : m ≤ 1000000000) (hn : n ≤ 1000000000) (h : AllX 152 3 (xfP m) row H w v n) :
    Calls Tryz.prog 78 #[v, .int .i64 m] w fun e w' => e = .returned (.bool true) ∧ w' = w := by
  rcases h with ⟨rfl, rfl⟩ | ⟨g, cap, rfl, _, hnc, hr, hc⟩
  · go_enter Tryz.func78, Tryz.ntmps78
    go_wp2
    go_loop [5] (fun i => i = .int .i64 0) (fun _ => 0)
    case atStart => exact rfl
    case round =>
      subst hrel
      go_wp2
      go_ret
      exact ⟨rfl, rfl⟩
  · have HC : Hid (∀ i, i < n * 3 → w.cell? ⟨g, i, none⟩ = some (xfP m (i % 3))) := hc
    clear hc hr
    go_enter Tryz.func78, Tryz.ntmps78
    go_wp2
    go_loop [5] (fun i => ∃ k : Nat, k ≤ n ∧ i = .int .i64 k) (fun i => n - (intOf i).toNat)
    case atStart => exact ⟨0, Nat.zero_le _, rfl⟩
    case round =>
      obtain ⟨k, hk, rfl⟩ := hrel
      by_cases hlt : k < n
      · have c0 : w.cell? ⟨g, k * 3, none⟩ = some (.int .i64 (-1000 - (m : Int))) := by have := HC.out (k * 3) (by omega); rw [this, show k * 3 % 3 = 0 from by omega]; rfl
        have c1 : w.cell? ⟨g, k * 3 + 1, none⟩ = some (.string ⟨#[]⟩) := by have := HC.out (k * 3 + 1) (by omega); rw [this, show (k * 3 + 1) % 3 = 1 from by omega]; rfl
        have c2 : w.cell? ⟨g, k * 3 + 2, none⟩ = some (.bool false) := by have := HC.out (k * 3 + 2) (by omega); rw [this, show (k * 3 + 2) % 3 = 2 from by omega]; rfl
        go_wp2
        go_round
        case rel => exact ⟨k + 1, by omega, by go_num⟩
        case measure => simp [intOf]; omega
      · go_wp2
        go_ret
        exact ⟨rfl, rfl⟩

set_option maxRecDepth 100000 in
set_option maxHeartbeats 400000 in
theorem stillP_any (row : Option Nat) (H m n : Nat) (v v1 v2 v3 : Value) (w : World) (hm : m ≤ 1000000000) (hn : n ≤ 100000000) (h0 : AllX 152 3 (xfP m) row H w v n) (h1 : AllX 152 3 (xfP m) row H w v1 (n + 1)) (h2 : AllX 152 3 (xfP m) row H w v2 (n + 2)) (h3 : AllX 152 3 (xfP m) row H w v3 (n + 64)) (hH : H ≤ w.heap.size) :
    Calls Tryz.prog 48 #[.agg #[v, v1, v2, v3, .int .i64 m]] w fun e w' => e = .returned (.bool true) ∧ Below w.heap.size w w' := by
  have HH : Hid (AllX 152 3 (xfP m) row H w v n ∧ AllX 152 3 (xfP m) row H w v1 (n + 1) ∧ AllX 152 3 (xfP m) row H w v2 (n + 2) ∧ AllX 152 3 (xfP m) row H w v3 (n + 64)) := ⟨h0, h1, h2, h3⟩
  clear h0 h1 h2 h3
  go_enter Tryz.func48, Tryz.ntmps48
  go_wp2_with fail
  refine (allPackets_any row H m n v _ hm (by omega) (HH.out.1.alloc _ hH)).mono ?_
  rintro e w1 ⟨rfl, rfl⟩
  go_wp2_with fail
  refine (allPackets_any row H m (n + 1) v1 _ hm (by omega) (HH.out.2.1.alloc _ hH)).mono ?_
  rintro e w1 ⟨rfl, rfl⟩
  go_wp2_with fail
  refine (allPackets_any row H m (n + 2) v2 _ hm (by omega) (HH.out.2.2.1.alloc _ hH)).mono ?_
  rintro e w1 ⟨rfl, rfl⟩
  go_wp2_with fail
  refine (allPackets_any row H m (n + 64) v3 _ hm (by omega) (HH.out.2.2.2.alloc _ hH)).mono ?_
  rintro e w1 ⟨rfl, rfl⟩
  go_wp2
  go_ret
  exact ⟨rfl, (Below.refl _ _).alloc (Nat.le_refl _) _⟩

theorem markP_step {w0 w : World} {g cap m k n H : Nat} (p0 : RowAt w g 152 3 cap) (p1 : XExt 152 3 (xfP m) (some g) H w0 w) (p2 : ∀ j, j < k * 3 → w.cell? ⟨g, j, none⟩ = some (xfP m (j % 3))) (p3 : H ≤ w.heap.size) (hk : k < n) (hn : n ≤ cap) :
    RowAt (((w.setCell ⟨g, k * 3, none⟩ (.int .i64 (-1000 - (m : Int)))).setCell ⟨g, k * 3 + 1, none⟩ (.string ⟨#[]⟩)).setCell ⟨g, k * 3 + 2, none⟩ (.bool false)) g 152 3 cap ∧
    XExt 152 3 (xfP m) (some g) H w0 (((w.setCell ⟨g, k * 3, none⟩ (.int .i64 (-1000 - (m : Int)))).setCell ⟨g, k * 3 + 1, none⟩ (.string ⟨#[]⟩)).setCell ⟨g, k * 3 + 2, none⟩ (.bool false)) ∧
    (∀ j, j < (k + 1) * 3 → (((w.setCell ⟨g, k * 3, none⟩ (.int .i64 (-1000 - (m : Int)))).setCell ⟨g, k * 3 + 1, none⟩ (.string ⟨#[]⟩)).setCell ⟨g, k * 3 + 2, none⟩ (.bool false)).cell? ⟨g, j, none⟩ = some (xfP m (j % 3))) ∧
    H ≤ (((w.setCell ⟨g, k * 3, none⟩ (.int .i64 (-1000 - (m : Int)))).setCell ⟨g, k * 3 + 1, none⟩ (.string ⟨#[]⟩)).setCell ⟨g, k * 3 + 2, none⟩ (.bool false)).heap.size := by
  have e0 : xfP m (k * 3 % 3) = .int .i64 (-1000 - (m : Int)) := by rw [show k * 3 % 3 = 0 from by omega]; rfl
  have e1 : xfP m ((k * 3 + 1) % 3) = .string ⟨#[]⟩ := by rw [show (k * 3 + 1) % 3 = 1 from by omega]; rfl
  have e2 : xfP m ((k * 3 + 2) % 3) = .bool false := by rw [show (k * 3 + 2) % 3 = 2 from by omega]; rfl
  have x1 := p1.setX p0 (.inl rfl) (k * 3) (by omega)
  rw [e0] at x1
  have r1 := p0.setCell g (k * 3) (.int .i64 (-1000 - (m : Int)))
  have x2 := x1.setX r1 (.inl rfl) (k * 3 + 1) (by omega)
  rw [e1] at x2
  have r2 := r1.setCell g (k * 3 + 1) (.string ⟨#[]⟩)
  have x3 := x2.setX r2 (.inl rfl) (k * 3 + 2) (by omega)
  rw [e2] at x3
  have r3 := r2.setCell g (k * 3 + 2) (.bool false)
  refine ⟨r3, x3, ?_, by simpa using p3⟩
  intro j hj
  by_cases h2 : j = k * 3 + 2
  · subst h2
    obtain ⟨u, hu⟩ := r2.there (k * 3 + 2) (by omega)
    rw [World.cell?_setCell_same _ _ _ hu, e2]
  · rw [World.cell?_setCell_other _ _ _ _ (addr_ne _ _ _ (fun e => h2 e.symm))]
    by_cases h1 : j = k * 3 + 1
    · subst h1
      obtain ⟨u, hu⟩ := r1.there (k * 3 + 1) (by omega)
      rw [World.cell?_setCell_same _ _ _ hu, e1]
    · rw [World.cell?_setCell_other _ _ _ _ (addr_ne _ _ _ (fun e => h1 e.symm))]
      by_cases h0 : j = k * 3
      · subst h0
        obtain ⟨u, hu⟩ := p0.there (k * 3) (by omega)
        rw [World.cell?_setCell_same _ _ _ hu, e0]
      · rw [World.cell?_setCell_other _ _ _ _ (addr_ne _ _ _ (fun e => h0 e.symm))]; exact p2 j (by omega)

set_option maxRecDepth 100000 in
set_option maxHeartbeats 4000000 in
theorem ownPackets_nil (m : Nat) (w : World) (hm : m ≤ 1000000000) :
    Calls Tryz.prog 101 #[(.slice none 0 0), .int .i64 m] w fun e w' => ∃ v1 v2 v3, e = .returned (.agg #[(.slice none 0 0), v1, v2, v3, .int .i64 m]) ∧ w.grownBy w' none ∧
      AllX 152 3 (xfP m) none w.heap.size w' (.slice none 0 0) 0 ∧ AllX 152 3 (xfP m) none w.heap.size w' v1 (0 + 1) ∧ AllX 152 3 (xfP m) none w.heap.size w' v2 (0 + 2) ∧ AllX 152 3 (xfP m) none w.heap.size w' v3 (0 + 64) := by
  obtain ⟨i0, hi, hz0, hz1, hz2⟩ := info_parts inf_pk
  have RNE : some w.heap.size ≠ none := by simp
  have RNE2 : some (w.heap.size + 1) ≠ none := by simp
  go_enter Tryz.func101, Tryz.ntmps101
  go_wp2
  go_loopw [6] (fun i wr => i = .int .i64 0 ∧ wr = ((w.alloc (.cells #[.slice none 0 0, .slice none 0 0, .slice none 0 0, .slice none 0 0, .int .i64 0] 142)).alloc (.cells #[.int .i64 (-1000 - (m : Int)), .string ⟨#[]⟩, .bool false] 152))) (fun _ _ => 0)
  case atStart => exact ⟨rfl, rfl⟩
  case round =>
    obtain ⟨rfl, hwr⟩ := hrel
    have HA : Hid (AllX 152 3 (xfP m) none (w.heap.size + 2) wr (.slice none 0 0) 0 ∧ XExt 152 3 (xfP m) none (w.heap.size + 2) ((w.alloc (.cells #[.slice none 0 0, .slice none 0 0, .slice none 0 0, .slice none 0 0, .int .i64 0] 142)).alloc (.cells #[.int .i64 (-1000 - (m : Int)), .string ⟨#[]⟩, .bool false] 152)) wr ∧ w.heap.size + 2 ≤ wr.heap.size) := ⟨.inl ⟨rfl, rfl⟩, by rw [hwr]; exact XExt.refl _, by rw [hwr]; simp⟩
    obtain ⟨y0, y1, y2⟩ := mk_cells HA.out.2.1 RNE2
    clear hwr
    go_wp2_with (first | (at_builtin; (refine wpList_append_x (xf := xfP m) (row := none) (H := w.heap.size + 2) _ rfl (.tmp 24) (.tmp 26) 140 rfl i0 _ 32 und_pks hi hz0 hz1 hz2 rfl (by decide) (.slice none 0 0) 0 rfl (by exact HA.out.1.alloc _ HA.out.2.2) ⟨_, 0, none⟩ 1 1 [.int .i64 (-1000 - (m : Int)), .string ⟨#[]⟩, .bool false] rfl rfl (mk_one _ _ _) (mk_1c _) (xfP_one m) (by decide) (by unfold maxLen; omega) (by omega) (by have := HA.out.2.2; simp; omega) ?_; intro v1 w1 hA1 hX1; have HA1 : Hid (AllX 152 3 (xfP m) none (w.heap.size + 2) w1 (.slice none 0 0) 0 ∧ XExt 152 3 (xfP m) none (w.heap.size + 2) ((w.alloc (.cells #[.slice none 0 0, .slice none 0 0, .slice none 0 0, .slice none 0 0, .int .i64 0] 142)).alloc (.cells #[.int .i64 (-1000 - (m : Int)), .string ⟨#[]⟩, .bool false] 152)) w1 ∧ w.heap.size + 2 ≤ w1.heap.size ∧ AllX 152 3 (xfP m) none (w.heap.size + 2) w1 v1 (0 + 1)) := ⟨(HA.out.1.alloc _ HA.out.2.2).ext hX1, (HA.out.2.1.alloc _ HA.out.2.2).trans hX1, Nat.le_trans HA.out.2.2 (by have h1 := hX1.sz; simp at h1; omega), hA1⟩; obtain ⟨z0, z1, z2⟩ := mk_cells HA1.out.2.1 RNE2; clear hA1 hX1)) | (at_builtin; (refine wpList_append_x (xf := xfP m) (row := none) (H := w.heap.size + 2) _ rfl (.tmp 28) (.tmp 31) 140 rfl i0 _ 32 und_pks hi hz0 hz1 hz2 rfl (by decide) (.slice none 0 0) 0 rfl ?_ ⟨_, 0, none⟩ 2 2 [.int .i64 (-1000 - (m : Int)), .string ⟨#[]⟩, .bool false, .int .i64 (-1000 - (m : Int)), .string ⟨#[]⟩, .bool false] rfl rfl (mk_two _ _ _) (mk_2c _) (xfP_two m) (by decide) (by unfold maxLen; omega) (by omega) ?_ ?_; exact HA1.out.1.alloc _ HA1.out.2.2.1; (have := HA1.out.2.2.1; simp; omega); intro v2 w2 hA2 hX2; have HA2 : Hid (AllX 152 3 (xfP m) none (w.heap.size + 2) w2 (.slice none 0 0) 0 ∧ XExt 152 3 (xfP m) none (w.heap.size + 2) ((w.alloc (.cells #[.slice none 0 0, .slice none 0 0, .slice none 0 0, .slice none 0 0, .int .i64 0] 142)).alloc (.cells #[.int .i64 (-1000 - (m : Int)), .string ⟨#[]⟩, .bool false] 152)) w2 ∧ w.heap.size + 2 ≤ w2.heap.size ∧ AllX 152 3 (xfP m) none (w.heap.size + 2) w2 v1 (0 + 1) ∧ AllX 152 3 (xfP m) none (w.heap.size + 2) w2 v2 (0 + 2)) := ⟨(HA1.out.1.alloc _ HA1.out.2.2.1).ext hX2, (HA1.out.2.1.alloc _ HA1.out.2.2.1).trans hX2, by have h1 := hX2.sz; have h2 := HA1.out.2.2.1; simp at h1; omega, (HA1.out.2.2.2.alloc _ HA1.out.2.2.1).ext hX2, hA2⟩; clear hA2 hX2 HA1)))
    clear HA
    go_loopw [9, 10] (fun v3 j wq => ∃ k : Nat, k ≤ 64 ∧ j = .int .i64 k ∧ AllX 152 3 (xfP m) none (w.heap.size + 2) wq (.slice none 0 0) 0 ∧ XExt 152 3 (xfP m) none (w.heap.size + 2) ((w.alloc (.cells #[.slice none 0 0, .slice none 0 0, .slice none 0 0, .slice none 0 0, .int .i64 0] 142)).alloc (.cells #[.int .i64 (-1000 - (m : Int)), .string ⟨#[]⟩, .bool false] 152)) wq ∧ w.heap.size + 2 ≤ wq.heap.size ∧ AllX 152 3 (xfP m) none (w.heap.size + 2) wq v1 (0 + 1) ∧ AllX 152 3 (xfP m) none (w.heap.size + 2) wq v2 (0 + 2) ∧ AllX 152 3 (xfP m) none (w.heap.size + 2) wq v3 (0 + k)) (fun _ j _ => 64 - (intOf j).toNat)
    case atStart => exact ⟨0, by omega, rfl, HA2.out.1, HA2.out.2.1, HA2.out.2.2.1, HA2.out.2.2.2.1, HA2.out.2.2.2.2, HA2.out.1⟩
    case round =>
      clear HA2
      obtain ⟨k, hk, rfl, q0, q1, q2, q3, q4, q5⟩ := hrel
      have HQ : Hid (AllX 152 3 (xfP m) none (w.heap.size + 2) wr (.slice none 0 0) 0 ∧ XExt 152 3 (xfP m) none (w.heap.size + 2) ((w.alloc (.cells #[.slice none 0 0, .slice none 0 0, .slice none 0 0, .slice none 0 0, .int .i64 0] 142)).alloc (.cells #[.int .i64 (-1000 - (m : Int)), .string ⟨#[]⟩, .bool false] 152)) wr ∧ w.heap.size + 2 ≤ wr.heap.size ∧ AllX 152 3 (xfP m) none (w.heap.size + 2) wr v1 (0 + 1) ∧ AllX 152 3 (xfP m) none (w.heap.size + 2) wr v2 (0 + 2) ∧ AllX 152 3 (xfP m) none (w.heap.size + 2) wr u9 (0 + k)) := ⟨q0, q1, q2, q3, q4, q5⟩
      clear q0 q1 q2 q3 q4 q5
      obtain ⟨z0, z1, z2⟩ := mk_cells HQ.out.2.1 RNE2
      by_cases hlt : k < 64
      · go_wp2_with (first | (at_builtin; go_must (refine wpList_append_x (xf := xfP m) (row := none) (H := w.heap.size + 2) _ rfl (.tmp 38) (.tmp 40) 140 rfl i0 _ 32 und_pks hi hz0 hz1 hz2 rfl (by decide) u9 (0 + k) rfl (by exact HQ.out.2.2.2.2.2.alloc _ HQ.out.2.2.1) ⟨_, 0, none⟩ 1 1 [.int .i64 (-1000 - (m : Int)), .string ⟨#[]⟩, .bool false] rfl rfl (mk_one _ _ _) (mk_1c _) (xfP_one m) (by decide) (by unfold maxLen; omega) (by omega) (by have := HQ.out.2.2.1; simp; omega) ?_; intro v4 w4 hA4 hX4)))
        have HQ4 : Hid (AllX 152 3 (xfP m) none (w.heap.size + 2) w4 (.slice none 0 0) 0 ∧ XExt 152 3 (xfP m) none (w.heap.size + 2) ((w.alloc (.cells #[.slice none 0 0, .slice none 0 0, .slice none 0 0, .slice none 0 0, .int .i64 0] 142)).alloc (.cells #[.int .i64 (-1000 - (m : Int)), .string ⟨#[]⟩, .bool false] 152)) w4 ∧ w.heap.size + 2 ≤ w4.heap.size ∧ AllX 152 3 (xfP m) none (w.heap.size + 2) w4 v1 (0 + 1) ∧ AllX 152 3 (xfP m) none (w.heap.size + 2) w4 v2 (0 + 2) ∧ AllX 152 3 (xfP m) none (w.heap.size + 2) w4 v4 (0 + k + 1)) := ⟨(HQ.out.1.alloc _ HQ.out.2.2.1).ext hX4, (HQ.out.2.1.alloc _ HQ.out.2.2.1).trans hX4, by have h1 := hX4.sz; have h2 := HQ.out.2.2.1; simp at h1; omega, (HQ.out.2.2.2.1.alloc _ HQ.out.2.2.1).ext hX4, (HQ.out.2.2.2.2.1.alloc _ HQ.out.2.2.1).ext hX4, hA4⟩
        clear hA4 hX4 HQ
        go_roundw
        case rel => exact ⟨k + 1, by omega, by go_num, HQ4.out.1, HQ4.out.2.1, HQ4.out.2.2.1, HQ4.out.2.2.2.1, HQ4.out.2.2.2.2.1, HQ4.out.2.2.2.2.2⟩
        case measure => simp [intOf]; omega
      · have hk64 : k = 64 := by omega
        subst hk64
        obtain ⟨d0, d1, d2, d3, d4, f0⟩ := resP_cells HQ.out.2.1 RNE
        have g0 := f0 0
        have g1 := f0 1
        have g2 := f0 2
        have g3 := f0 3
        have g4 := f0 4
        clear f0 z0 z1 z2
        obtain ⟨ga, ca, rfl⟩ := allx_form HQ.out.2.2.2.1 (by omega)
        obtain ⟨gb, cb, rfl⟩ := allx_form HQ.out.2.2.2.2.1 (by omega)
        obtain ⟨gc, cc, rfl⟩ := allx_form HQ.out.2.2.2.2.2 (by omega)
        go_wp2
        refine bodyPost_ret (v := .agg #[(.slice none 0 0), .slice (some ⟨ga, 0, none⟩) (0 + 1) ca, .slice (some ⟨gb, 0, none⟩) (0 + 2) cb, .slice (some ⟨gc, 0, none⟩) (0 + 64) cc, .int .i64 m]) (by simp [results, Tryz.results101, go_sem, d0, d1, d2, d3, d4]) rfl ⟨_, _, _, rfl, ?_, ?_, ?_, ?_, ?_⟩
        · exact resP_grown HQ.out.2.1
        · exact resP_keep HQ.out.1 RNE
        · exact resP_keep HQ.out.2.2.2.1 RNE
        · exact resP_keep HQ.out.2.2.2.2.1 RNE
        · exact resP_keep HQ.out.2.2.2.2.2 RNE

set_option maxRecDepth 100000 in
set_option maxHeartbeats 4000000 in
theorem ownPackets_row (m : Nat) (g n cap : Nat) (hn : n ≤ 100000000) (hnc : n ≤ cap) (w : World) (hm : m ≤ 1000000000) (hrow : RowAt w g 152 3 cap) :
    Calls Tryz.prog 101 #[(.slice (some ⟨g, 0, none⟩) n cap), .int .i64 m] w fun e w' => ∃ v1 v2 v3, e = .returned (.agg #[(.slice (some ⟨g, 0, none⟩) n cap), v1, v2, v3, .int .i64 m]) ∧ w.grownBy w' (some g) ∧
      AllX 152 3 (xfP m) (some g) w.heap.size w' (.slice (some ⟨g, 0, none⟩) n cap) n ∧ AllX 152 3 (xfP m) (some g) w.heap.size w' v1 (n + 1) ∧ AllX 152 3 (xfP m) (some g) w.heap.size w' v2 (n + 2) ∧ AllX 152 3 (xfP m) (some g) w.heap.size w' v3 (n + 64) := by
  obtain ⟨i0, hi, hz0, hz1, hz2⟩ := info_parts inf_pk
  have RNE : some w.heap.size ≠ some g := by have := hrow.lt; intro e; injection e with e; omega
  have RNE2 : some (w.heap.size + 1) ≠ some g := by have := hrow.lt; intro e; injection e with e; omega
  have HW : Hid (RowAt ((w.alloc (.cells #[.slice none 0 0, .slice none 0 0, .slice none 0 0, .slice none 0 0, .int .i64 0] 142)).alloc (.cells #[.int .i64 (-1000 - (m : Int)), .string ⟨#[]⟩, .bool false] 152)) g 152 3 cap) := (XExt.ofGrown (xf := xfP m) (row := some g) (H := 0) (World.grownBy_alloc _ _ none) (Nat.zero_le _)).rows g cap (.inl rfl) ((XExt.ofGrown (xf := xfP m) (row := some g) (H := 0) (World.grownBy_alloc w _ none) (Nat.zero_le _)).rows g cap (.inl rfl) hrow)
  clear hrow
  go_enter Tryz.func101, Tryz.ntmps101
  go_wp2
  go_loopw [6] (fun i wr => ∃ k : Nat, k ≤ n ∧ i = .int .i64 k ∧ RowAt wr g 152 3 cap ∧ XExt 152 3 (xfP m) (some g) (w.heap.size + 2) ((w.alloc (.cells #[.slice none 0 0, .slice none 0 0, .slice none 0 0, .slice none 0 0, .int .i64 0] 142)).alloc (.cells #[.int .i64 (-1000 - (m : Int)), .string ⟨#[]⟩, .bool false] 152)) wr ∧ (∀ j, j < k * 3 → wr.cell? ⟨g, j, none⟩ = some (xfP m (j % 3))) ∧ w.heap.size + 2 ≤ wr.heap.size) (fun i _ => n - (intOf i).toNat)
  case atStart => exact ⟨0, Nat.zero_le _, rfl, HW.out, XExt.refl _, by simp, by simp⟩
  case round =>
    obtain ⟨k, hk, rfl, p0, p1, p2, p3⟩ := hrel
    clear HW
    have HP : Hid (RowAt wr g 152 3 cap ∧ XExt 152 3 (xfP m) (some g) (w.heap.size + 2) ((w.alloc (.cells #[.slice none 0 0, .slice none 0 0, .slice none 0 0, .slice none 0 0, .int .i64 0] 142)).alloc (.cells #[.int .i64 (-1000 - (m : Int)), .string ⟨#[]⟩, .bool false] 152)) wr ∧ (∀ j, j < k * 3 → wr.cell? ⟨g, j, none⟩ = some (xfP m (j % 3))) ∧ w.heap.size + 2 ≤ wr.heap.size) := ⟨p0, p1, p2, p3⟩
    clear p0 p1 p2 p3
    obtain ⟨y0, y1, y2⟩ := mk_cells HP.out.2.1 RNE2
    by_cases hltn : k < n
    · obtain ⟨ua, hca⟩ := HP.out.1.there (k * 3) (by omega)
      obtain ⟨ub, hcb⟩ := HP.out.1.there (k * 3 + 1) (by omega)
      obtain ⟨uc, hcc⟩ := HP.out.1.there (k * 3 + 2) (by omega)
      have hfa := HP.out.1.free (k * 3)
      have hfb := HP.out.1.free (k * 3 + 1)
      have hfc := HP.out.1.free (k * 3 + 2)
      go_wp2
      go_roundw
      case rel => exact ⟨k + 1, by omega, by go_num, markP_step HP.out.1 HP.out.2.1 HP.out.2.2.1 HP.out.2.2.2 hltn hnc⟩
      case measure => simp [intOf]; omega
    have HA : Hid (AllX 152 3 (xfP m) (some g) (w.heap.size + 2) wr (.slice (some ⟨g, 0, none⟩) n cap) n ∧ XExt 152 3 (xfP m) (some g) (w.heap.size + 2) ((w.alloc (.cells #[.slice none 0 0, .slice none 0 0, .slice none 0 0, .slice none 0 0, .int .i64 0] 142)).alloc (.cells #[.int .i64 (-1000 - (m : Int)), .string ⟨#[]⟩, .bool false] 152)) wr ∧ w.heap.size + 2 ≤ wr.heap.size) := ⟨.inr ⟨g, cap, rfl, .inl rfl, hnc, HP.out.1, fun i hi => HP.out.2.2.1 i (by omega)⟩, HP.out.2.1, HP.out.2.2.2⟩
    clear HP
    go_wp2_with (first | (at_builtin; (refine wpList_append_x (xf := xfP m) (row := (some g)) (H := w.heap.size + 2) _ rfl (.tmp 24) (.tmp 26) 140 rfl i0 _ 32 und_pks hi hz0 hz1 hz2 rfl (by decide) (.slice (some ⟨g, 0, none⟩) n cap) n rfl (by exact HA.out.1.alloc _ HA.out.2.2) ⟨_, 0, none⟩ 1 1 [.int .i64 (-1000 - (m : Int)), .string ⟨#[]⟩, .bool false] rfl rfl (mk_one _ _ _) (mk_1c _) (xfP_one m) (by decide) (by unfold maxLen; omega) (by omega) (by have := HA.out.2.2; simp; omega) ?_; intro v1 w1 hA1 hX1; have HA1 : Hid (AllX 152 3 (xfP m) (some g) (w.heap.size + 2) w1 (.slice (some ⟨g, 0, none⟩) n cap) n ∧ XExt 152 3 (xfP m) (some g) (w.heap.size + 2) ((w.alloc (.cells #[.slice none 0 0, .slice none 0 0, .slice none 0 0, .slice none 0 0, .int .i64 0] 142)).alloc (.cells #[.int .i64 (-1000 - (m : Int)), .string ⟨#[]⟩, .bool false] 152)) w1 ∧ w.heap.size + 2 ≤ w1.heap.size ∧ AllX 152 3 (xfP m) (some g) (w.heap.size + 2) w1 v1 (n + 1)) := ⟨(HA.out.1.alloc _ HA.out.2.2).ext hX1, (HA.out.2.1.alloc _ HA.out.2.2).trans hX1, Nat.le_trans HA.out.2.2 (by have h1 := hX1.sz; simp at h1; omega), hA1⟩; obtain ⟨z0, z1, z2⟩ := mk_cells HA1.out.2.1 RNE2; clear hA1 hX1)) | (at_builtin; (refine wpList_append_x (xf := xfP m) (row := (some g)) (H := w.heap.size + 2) _ rfl (.tmp 28) (.tmp 31) 140 rfl i0 _ 32 und_pks hi hz0 hz1 hz2 rfl (by decide) (.slice (some ⟨g, 0, none⟩) n cap) n rfl ?_ ⟨_, 0, none⟩ 2 2 [.int .i64 (-1000 - (m : Int)), .string ⟨#[]⟩, .bool false, .int .i64 (-1000 - (m : Int)), .string ⟨#[]⟩, .bool false] rfl rfl (mk_two _ _ _) (mk_2c _) (xfP_two m) (by decide) (by unfold maxLen; omega) (by omega) ?_ ?_; exact HA1.out.1.alloc _ HA1.out.2.2.1; (have := HA1.out.2.2.1; simp; omega); intro v2 w2 hA2 hX2; have HA2 : Hid (AllX 152 3 (xfP m) (some g) (w.heap.size + 2) w2 (.slice (some ⟨g, 0, none⟩) n cap) n ∧ XExt 152 3 (xfP m) (some g) (w.heap.size + 2) ((w.alloc (.cells #[.slice none 0 0, .slice none 0 0, .slice none 0 0, .slice none 0 0, .int .i64 0] 142)).alloc (.cells #[.int .i64 (-1000 - (m : Int)), .string ⟨#[]⟩, .bool false] 152)) w2 ∧ w.heap.size + 2 ≤ w2.heap.size ∧ AllX 152 3 (xfP m) (some g) (w.heap.size + 2) w2 v1 (n + 1) ∧ AllX 152 3 (xfP m) (some g) (w.heap.size + 2) w2 v2 (n + 2)) := ⟨(HA1.out.1.alloc _ HA1.out.2.2.1).ext hX2, (HA1.out.2.1.alloc _ HA1.out.2.2.1).trans hX2, by have h1 := hX2.sz; have h2 := HA1.out.2.2.1; simp at h1; omega, (HA1.out.2.2.2.alloc _ HA1.out.2.2.1).ext hX2, hA2⟩; clear hA2 hX2 HA1)))
    clear HA
    go_loopw [9, 10] (fun v3 j wq => ∃ k : Nat, k ≤ 64 ∧ j = .int .i64 k ∧ AllX 152 3 (xfP m) (some g) (w.heap.size + 2) wq (.slice (some ⟨g, 0, none⟩) n cap) n ∧ XExt 152 3 (xfP m) (some g) (w.heap.size + 2) ((w.alloc (.cells #[.slice none 0 0, .slice none 0 0, .slice none 0 0, .slice none 0 0, .int .i64 0] 142)).alloc (.cells #[.int .i64 (-1000 - (m : Int)), .string ⟨#[]⟩, .bool false] 152)) wq ∧ w.heap.size + 2 ≤ wq.heap.size ∧ AllX 152 3 (xfP m) (some g) (w.heap.size + 2) wq v1 (n + 1) ∧ AllX 152 3 (xfP m) (some g) (w.heap.size + 2) wq v2 (n + 2) ∧ AllX 152 3 (xfP m) (some g) (w.heap.size + 2) wq v3 (n + k)) (fun _ j _ => 64 - (intOf j).toNat)
    case atStart => exact ⟨0, by omega, rfl, HA2.out.1, HA2.out.2.1, HA2.out.2.2.1, HA2.out.2.2.2.1, HA2.out.2.2.2.2, HA2.out.1⟩
    case round =>
      clear HA2
      obtain ⟨k, hk, rfl, q0, q1, q2, q3, q4, q5⟩ := hrel
      have HQ : Hid (AllX 152 3 (xfP m) (some g) (w.heap.size + 2) wr (.slice (some ⟨g, 0, none⟩) n cap) n ∧ XExt 152 3 (xfP m) (some g) (w.heap.size + 2) ((w.alloc (.cells #[.slice none 0 0, .slice none 0 0, .slice none 0 0, .slice none 0 0, .int .i64 0] 142)).alloc (.cells #[.int .i64 (-1000 - (m : Int)), .string ⟨#[]⟩, .bool false] 152)) wr ∧ w.heap.size + 2 ≤ wr.heap.size ∧ AllX 152 3 (xfP m) (some g) (w.heap.size + 2) wr v1 (n + 1) ∧ AllX 152 3 (xfP m) (some g) (w.heap.size + 2) wr v2 (n + 2) ∧ AllX 152 3 (xfP m) (some g) (w.heap.size + 2) wr u9 (n + k)) := ⟨q0, q1, q2, q3, q4, q5⟩
      clear q0 q1 q2 q3 q4 q5
      obtain ⟨z0, z1, z2⟩ := mk_cells HQ.out.2.1 RNE2
      by_cases hlt : k < 64
      · go_wp2_with (first | (at_builtin; go_must (refine wpList_append_x (xf := xfP m) (row := (some g)) (H := w.heap.size + 2) _ rfl (.tmp 38) (.tmp 40) 140 rfl i0 _ 32 und_pks hi hz0 hz1 hz2 rfl (by decide) u9 (n + k) rfl (by exact HQ.out.2.2.2.2.2.alloc _ HQ.out.2.2.1) ⟨_, 0, none⟩ 1 1 [.int .i64 (-1000 - (m : Int)), .string ⟨#[]⟩, .bool false] rfl rfl (mk_one _ _ _) (mk_1c _) (xfP_one m) (by decide) (by unfold maxLen; omega) (by omega) (by have := HQ.out.2.2.1; simp; omega) ?_; intro v4 w4 hA4 hX4)))
        have HQ4 : Hid (AllX 152 3 (xfP m) (some g) (w.heap.size + 2) w4 (.slice (some ⟨g, 0, none⟩) n cap) n ∧ XExt 152 3 (xfP m) (some g) (w.heap.size + 2) ((w.alloc (.cells #[.slice none 0 0, .slice none 0 0, .slice none 0 0, .slice none 0 0, .int .i64 0] 142)).alloc (.cells #[.int .i64 (-1000 - (m : Int)), .string ⟨#[]⟩, .bool false] 152)) w4 ∧ w.heap.size + 2 ≤ w4.heap.size ∧ AllX 152 3 (xfP m) (some g) (w.heap.size + 2) w4 v1 (n + 1) ∧ AllX 152 3 (xfP m) (some g) (w.heap.size + 2) w4 v2 (n + 2) ∧ AllX 152 3 (xfP m) (some g) (w.heap.size + 2) w4 v4 (n + k + 1)) := ⟨(HQ.out.1.alloc _ HQ.out.2.2.1).ext hX4, (HQ.out.2.1.alloc _ HQ.out.2.2.1).trans hX4, by have h1 := hX4.sz; have h2 := HQ.out.2.2.1; simp at h1; omega, (HQ.out.2.2.2.1.alloc _ HQ.out.2.2.1).ext hX4, (HQ.out.2.2.2.2.1.alloc _ HQ.out.2.2.1).ext hX4, hA4⟩
        clear hA4 hX4 HQ
        go_roundw
        case rel => exact ⟨k + 1, by omega, by go_num, HQ4.out.1, HQ4.out.2.1, HQ4.out.2.2.1, HQ4.out.2.2.2.1, HQ4.out.2.2.2.2.1, HQ4.out.2.2.2.2.2⟩
        case measure => simp [intOf]; omega
      · have hk64 : k = 64 := by omega
        subst hk64
        obtain ⟨d0, d1, d2, d3, d4, f0⟩ := resP_cells HQ.out.2.1 RNE
        have g0 := f0 0
        have g1 := f0 1
        have g2 := f0 2
        have g3 := f0 3
        have g4 := f0 4
        clear f0 z0 z1 z2
        obtain ⟨ga, ca, rfl⟩ := allx_form HQ.out.2.2.2.1 (by omega)
        obtain ⟨gb, cb, rfl⟩ := allx_form HQ.out.2.2.2.2.1 (by omega)
        obtain ⟨gc, cc, rfl⟩ := allx_form HQ.out.2.2.2.2.2 (by omega)
        go_wp2
        refine bodyPost_ret (v := .agg #[(.slice (some ⟨g, 0, none⟩) n cap), .slice (some ⟨ga, 0, none⟩) (n + 1) ca, .slice (some ⟨gb, 0, none⟩) (n + 2) cb, .slice (some ⟨gc, 0, none⟩) (n + 64) cc, .int .i64 m]) (by simp [results, Tryz.results101, go_sem, d0, d1, d2, d3, d4]) rfl ⟨_, _, _, rfl, ?_, ?_, ?_, ?_, ?_⟩
        · exact resP_grown HQ.out.2.1
        · exact resP_keep HQ.out.1 RNE
        · exact resP_keep HQ.out.2.2.2.1 RNE
        · exact resP_keep HQ.out.2.2.2.2.1 RNE
        · exact resP_keep HQ.out.2.2.2.2.2 RNE

end Go.Proofs.YtcgjliflnnklnaaGreat
