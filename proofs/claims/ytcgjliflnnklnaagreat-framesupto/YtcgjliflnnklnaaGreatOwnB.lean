/-
  Lists of bytes that came out: their owner's marks.
-/
import Derived.Test.YtcgjliflnnklnaaGreatXRow
namespace Go.Proofs.YtcgjliflnnklnaaGreat
open Go.RowKit

def xfB (m : Nat) : Nat → Value := fun _ => .int .u8 ((m % 251 : Nat) : Int)

theorem xfB_one {m r : Nat} (hr : m % 251 = r) : ∀ j u, [Value.int .u8 (r : Int)][j]? = some u → u = xfB m (j % 1) := by
  intro j u h
  subst hr
  match j, h with
  | 0, h => simp at h; subst h; rfl
theorem xfB_two {m r : Nat} (hr : m % 251 = r) : ∀ j u, [Value.int .u8 (r : Int), Value.int .u8 (r : Int)][j]? = some u → u = xfB m (j % 1) := by
  intro j u h
  subst hr
  match j, h with
  | 0, h => simp at h; subst h; rfl
  | 1, h => simp at h; subst h; rfl

theorem AllX.alloc {e size : Nat} {xf : Nat → Value} {row : Option Nat} {H : Nat} {w : World} {v : Value} {n : Nat} (h : AllX e size xf row H w v n) (o : Obj) (hH : H ≤ w.heap.size) : AllX e size xf row H (w.alloc o) v n := h.ext (XExt.ofGrown (World.grownBy_alloc w o none) hH)
theorem XExt.alloc {e size : Nat} {xf : Nat → Value} {row : Option Nat} {H : Nat} {a w : World} (h : XExt e size xf row H a w) (o : Obj) (hH : H ≤ w.heap.size) : XExt e size xf row H a (w.alloc o) := h.trans (XExt.ofGrown (World.grownBy_alloc w o none) hH)
theorem XExt.setX {e size : Nat} {xf : Nat → Value} {row : Option Nat} {H : Nat} {a w : World} (h : XExt e size xf row H a w) {g cap : Nat} (hr : RowAt w g e size cap) (ho : Ok row H g) (k : Nat) (hk : k < cap * size) : XExt e size xf row H a (w.setCell ⟨g, k, none⟩ (xf (k % size))) :=
  h.trans (XExt.setCells g k [xf (k % size)] ho (by rcases ho with h | h; exact .inr h; exact .inl h) (fun j hj => by
    have : j = 0 := by simpa using hj
    subst this
    obtain ⟨u, hu⟩ := hr.there k hk
    rw [Nat.add_zero, hu]; rfl) (fun j u hj => by
    match j, hj with
    | 0, hj => simp at hj; subst hj; rfl))

set_option maxRecDepth 100000 in
set_option maxHeartbeats 400000 in
theorem allBytes_any (row : Option Nat) (H m n : Nat) (v : Value) (w : World) (hm : m ≤ 1000000000) (hn : n ≤ 1000000000) (h : AllX 5 1 (xfB m) row H w v n) :
    Calls Tryz.prog 77 #[v, .int .i64 m] w fun e w' => e = .returned (.bool true) ∧ w' = w := by
  obtain ⟨r, h251, hb1, HR⟩ : ∃ r : Nat, (m : Int) % 251 = (r : Int) ∧ (r : Int) < 256 ∧ Hid (m % 251 = r) := ⟨m % 251, by omega, by omega, rfl⟩
  rcases h with ⟨rfl, rfl⟩ | ⟨g, cap, rfl, _, hnc, hr, hc⟩
  · go_enter Tryz.func77, Tryz.ntmps77
    go_wp2
    go_loop [5] (fun i => i = .int .i64 0) (fun _ => 0)
    case atStart => exact rfl
    case round =>
      subst hrel
      go_wp2
      go_ret
      exact ⟨rfl, rfl⟩
  · have HC : Hid (∀ i, i < n * 1 → w.cell? ⟨g, i, none⟩ = some (xfB m (i % 1))) := hc
    clear hc hr
    go_enter Tryz.func77, Tryz.ntmps77
    go_wp2
    go_loop [5] (fun i => ∃ k : Nat, k ≤ n ∧ i = .int .i64 k) (fun i => n - (intOf i).toNat)
    case atStart => exact ⟨0, Nat.zero_le _, rfl⟩
    case round =>
      obtain ⟨k, hk, rfl⟩ := hrel
      by_cases hlt : k < n
      · have hcell : w.cell? ⟨g, k, none⟩ = some (.int .u8 (r : Int)) := by have := HC.out k (by omega); rw [this, xfB, HR.out]
        go_wp2
        go_round
        case rel => exact ⟨k + 1, by omega, by go_num⟩
        case measure => simp [intOf]; omega
      · go_wp2
        go_ret
        exact ⟨rfl, rfl⟩

set_option maxRecDepth 100000 in
set_option maxHeartbeats 400000 in
theorem stillB_any (row : Option Nat) (H m n : Nat) (v v1 v2 v3 : Value) (w : World) (hm : m ≤ 1000000000) (hn : n ≤ 100000000) (h0 : AllX 5 1 (xfB m) row H w v n) (h1 : AllX 5 1 (xfB m) row H w v1 (n + 1)) (h2 : AllX 5 1 (xfB m) row H w v2 (n + 2)) (h3 : AllX 5 1 (xfB m) row H w v3 (n + 64)) (hH : H ≤ w.heap.size) :
    Calls Tryz.prog 47 #[.agg #[v, v1, v2, v3, .int .i64 m]] w fun e w' => e = .returned (.bool true) ∧ Below w.heap.size w w' := by
  have HH : Hid (AllX 5 1 (xfB m) row H w v n ∧ AllX 5 1 (xfB m) row H w v1 (n + 1) ∧ AllX 5 1 (xfB m) row H w v2 (n + 2) ∧ AllX 5 1 (xfB m) row H w v3 (n + 64)) := ⟨h0, h1, h2, h3⟩
  clear h0 h1 h2 h3
  go_enter Tryz.func47, Tryz.ntmps47
  go_wp2_with fail
  refine (allBytes_any row H m n v _ hm (by omega) (HH.out.1.alloc _ hH)).mono ?_
  rintro e w1 ⟨rfl, rfl⟩
  go_wp2_with fail
  refine (allBytes_any row H m (n + 1) v1 _ hm (by omega) (HH.out.2.1.alloc _ hH)).mono ?_
  rintro e w1 ⟨rfl, rfl⟩
  go_wp2_with fail
  refine (allBytes_any row H m (n + 2) v2 _ hm (by omega) (HH.out.2.2.1.alloc _ hH)).mono ?_
  rintro e w1 ⟨rfl, rfl⟩
  go_wp2_with fail
  refine (allBytes_any row H m (n + 64) v3 _ hm (by omega) (HH.out.2.2.2.alloc _ hH)).mono ?_
  rintro e w1 ⟨rfl, rfl⟩
  go_wp2
  go_ret
  exact ⟨rfl, (Below.refl _ _).alloc (Nat.le_refl _) _⟩

theorem Ok.mono {row : Option Nat} {H H' g : Nat} (h : Ok row H g) (hH : H' ≤ H) : Ok row H' g := by
  rcases h with h | h
  · exact .inl h
  · exact .inr (by omega)
theorem AllX.mono {e size : Nat} {xf : Nat → Value} {row : Option Nat} {H H' : Nat} {w : World} {v : Value} {n : Nat} (h : AllX e size xf row H w v n) (hH : H' ≤ H) : AllX e size xf row H' w v n := by
  rcases h with h | ⟨g, cap, rfl, ho, hn, hr, hc⟩
  · exact .inl h
  · exact .inr ⟨g, cap, rfl, ho.mono hH, hn, hr, hc⟩
theorem AllX.setOther {e size : Nat} {xf : Nat → Value} {row : Option Nat} {H : Nat} {w : World} {v : Value} {n : Nat} (h : AllX e size xf row H w v n) (b o : Nat) (u : Value) (hb : ¬ Ok row H b) : AllX e size xf row H (w.setCell ⟨b, o, none⟩ u) v n := by
  rcases h with h | ⟨g, cap, rfl, ho, hn, hr, hc⟩
  · exact .inl h
  · refine .inr ⟨g, cap, rfl, ho, hn, hr.setCell b o u, fun i hi => ?_⟩
    rw [World.cell?_setCell_other _ _ _ _ (fun e => hb (by injection e with e1; subst e1; exact ho))]; exact hc i hi

/-- Stores into the first so many cells of a block. -/
def setFirst (w : World) (b : Nat) : List Value → World := fun vs => w.setCells b 0 vs

theorem allx_form {e size : Nat} {xf : Nat → Value} {row : Option Nat} {H : Nat} {w : World} {v : Value} {n : Nat} (h : AllX e size xf row H w v n) (hn : 0 < n) : ∃ g c, v = .slice (some ⟨g, 0, none⟩) n c := by
  rcases h with ⟨_, e⟩ | ⟨g, cap, e, _⟩
  · omega
  · exact ⟨g, cap, e⟩

theorem res_cells {e size : Nat} {xf : Nat → Value} {row : Option Nat} {w wr : World} {a0 a1 a2 a3 a4 : Value} {t : TypeId} (h : XExt e size xf row (w.heap.size + 1) (w.alloc (.cells #[a0, a1, a2, a3, a4] t)) wr) (hr : some w.heap.size ≠ row) :
    wr.cell? ⟨w.heap.size, 0, none⟩ = some a0 ∧ wr.cell? ⟨w.heap.size, 1, none⟩ = some a1 ∧ wr.cell? ⟨w.heap.size, 2, none⟩ = some a2 ∧ wr.cell? ⟨w.heap.size, 3, none⟩ = some a3 ∧ wr.cell? ⟨w.heap.size, 4, none⟩ = some a4 ∧ ∀ o, wr.frozen? ⟨w.heap.size, o, none⟩ = false := by
  have hb := (h.old w.heap.size (by omega) hr).trans (heap_alloc_new w _)
  have hc : ∀ o, wr.cell? ⟨w.heap.size, o, none⟩ = #[a0, a1, a2, a3, a4][o]? := fun o => cell_of_row wr w.heap.size o _ t (0, 0) hb
  exact ⟨hc 0, hc 1, hc 2, hc 3, hc 4, fun o => by simp [World.frozen?, hb]⟩

theorem ok_not {row : Option Nat} {n : Nat} (hr : some n ≠ row) : ¬ Ok row (n + 1) n := by
  rintro (h | h)
  · exact hr h
  · omega

theorem res_keep {e size : Nat} {xf : Nat → Value} {row : Option Nat} {w wr : World} {v a b c d f : Value} {n : Nat} (h : AllX e size xf row (w.heap.size + 1) wr v n) (hr : some w.heap.size ≠ row) :
    AllX e size xf row w.heap.size (((((wr.setCell ⟨w.heap.size, 0, none⟩ a).setCell ⟨w.heap.size, 1, none⟩ b).setCell ⟨w.heap.size, 2, none⟩ c).setCell ⟨w.heap.size, 3, none⟩ d).setCell ⟨w.heap.size, 4, none⟩ f) v n :=
  (((((h.setOther _ _ _ (ok_not hr)).setOther _ _ _ (ok_not hr)).setOther _ _ _ (ok_not hr)).setOther _ _ _ (ok_not hr)).setOther _ _ _ (ok_not hr)).mono (by omega)

theorem XExt.grown {e size : Nat} {xf : Nat → Value} {row : Option Nat} {H : Nat} {w wr : World} (h : XExt e size xf row H w wr) : ∀ k, k < H → some k ≠ row → wr.heap[k]? = w.heap[k]? := h.old

theorem grown_new {w a : World} {row : Option Nat} (h : w.grownBy a row) {b i : Nat} {u : Value} (hb : w.heap.size ≤ b) : w.grownBy (a.setCell ⟨b, i, none⟩ u) row :=
  ⟨h.os, h.tape, h.output, by simpa using h.size, fun k hk hne => (Below.heap_setCell _ _ _ _ (by simp only; omega)).trans (h.block k hk hne)⟩

theorem res_grown {e size : Nat} {xf : Nat → Value} {row : Option Nat} {w wr : World} {o : Obj} {a b c d f : Value} (h : XExt e size xf row (w.heap.size + 1) (w.alloc o) wr) :
    w.grownBy (((((wr.setCell ⟨w.heap.size, 0, none⟩ a).setCell ⟨w.heap.size, 1, none⟩ b).setCell ⟨w.heap.size, 2, none⟩ c).setCell ⟨w.heap.size, 3, none⟩ d).setCell ⟨w.heap.size, 4, none⟩ f) row := by
  have h0 : w.grownBy wr row := ⟨h.os, h.tape, h.output, by have := h.sz; simp at this; omega, fun k hk hne => (h.old k (by omega) hne).trans (Below.heap_alloc w o k hk)⟩
  exact grown_new (grown_new (grown_new (grown_new (grown_new h0 (Nat.le_refl _)) (Nat.le_refl _)) (Nat.le_refl _)) (Nat.le_refl _)) (Nat.le_refl _)

theorem mark_step {w0 w : World} {g cap m k n r H : Nat} (p0 : RowAt w g 5 1 cap) (p1 : XExt 5 1 (xfB m) (some g) H w0 w) (p2 : ∀ j, j < k → w.cell? ⟨g, j, none⟩ = some (xfB m 0)) (p3 : H ≤ w.heap.size) (hk : k < n) (hn : n ≤ cap) (hr : m % 251 = r) :
    RowAt (w.setCell ⟨g, k, none⟩ (.int .u8 (r : Int))) g 5 1 cap ∧ XExt 5 1 (xfB m) (some g) H w0 (w.setCell ⟨g, k, none⟩ (.int .u8 (r : Int))) ∧ (∀ j, j < k + 1 → (w.setCell ⟨g, k, none⟩ (.int .u8 (r : Int))).cell? ⟨g, j, none⟩ = some (xfB m 0)) ∧ H ≤ (w.setCell ⟨g, k, none⟩ (.int .u8 (r : Int))).heap.size := by
  subst hr
  refine ⟨p0.setCell g k _, p1.setX p0 (.inl rfl) k (by omega), ?_, by simpa using p3⟩
  intro j hj
  by_cases e : j = k
  · subst e
    obtain ⟨u, hu⟩ := p0.there j (by omega)
    rw [World.cell?_setCell_same _ _ _ hu]; rfl
  · rw [World.cell?_setCell_other _ _ _ _ (addr_ne _ _ _ (fun e' => e e'.symm))]; exact p2 j (by omega)

set_option maxRecDepth 100000 in
set_option maxHeartbeats 4000000 in
theorem ownBytes_nil (m : Nat) (w : World) (hm : m ≤ 1000000000) :
    Calls Tryz.prog 99 #[(.slice none 0 0), .int .i64 m] w fun e w' => ∃ v1 v2 v3, e = .returned (.agg #[(.slice none 0 0), v1, v2, v3, .int .i64 m]) ∧ w.grownBy w' none ∧
      AllX 5 1 (xfB m) none w.heap.size w' (.slice none 0 0) 0 ∧ AllX 5 1 (xfB m) none w.heap.size w' v1 (0 + 1) ∧ AllX 5 1 (xfB m) none w.heap.size w' v2 (0 + 2) ∧ AllX 5 1 (xfB m) none w.heap.size w' v3 (0 + 64) := by
  obtain ⟨r, h251, hb1, HR⟩ : ∃ r : Nat, (m : Int) % 251 = (r : Int) ∧ (r : Int) < 256 ∧ Hid (m % 251 = r) := ⟨m % 251, by omega, by omega, rfl⟩
  obtain ⟨i0, hi, hz0, hz1, hz2⟩ := info_parts inf_u8
  have RNE : some w.heap.size ≠ none := by simp
  go_enter Tryz.func99, Tryz.ntmps99
  go_wp2
  go_loopw [6] (fun i wr => i = .int .i64 0 ∧ wr = (w.alloc (.cells #[.slice none 0 0, .slice none 0 0, .slice none 0 0, .slice none 0 0, .int .i64 0] 139))) (fun _ _ => 0)
  case atStart => exact ⟨rfl, rfl⟩
  case round =>
    obtain ⟨rfl, hwr⟩ := hrel
    have HA : Hid (AllX 5 1 (xfB m) none (w.heap.size + 1) wr (.slice none 0 0) 0 ∧ XExt 5 1 (xfB m) none (w.heap.size + 1) (w.alloc (.cells #[.slice none 0 0, .slice none 0 0, .slice none 0 0, .slice none 0 0, .int .i64 0] 139)) wr ∧ w.heap.size + 1 ≤ wr.heap.size) := ⟨.inl ⟨rfl, rfl⟩, by rw [hwr]; exact XExt.refl _, by rw [hwr]; simp⟩
    clear hwr
    go_wp2_with (first | (at_builtin; (refine wpList_append_x (xf := xfB m) (row := none) (H := w.heap.size + 1) _ rfl (.tmp 24) (.tmp 26) 35 rfl i0 (.int .u8 0) 1 und_bytes hi hz0 hz1 hz2 rfl (by decide) (.slice none 0 0) 0 rfl (by exact HA.out.1.alloc _ HA.out.2.2) ⟨_, 0, none⟩ 1 1 [.int .u8 (r : Int)] rfl rfl (one_new' _ _ _) (one_one _) (xfB_one HR.out) (by decide) (by unfold maxLen; omega) (by omega) (by have := HA.out.2.2; simp; omega) ?_; intro v1 w1 hA1 hX1; have HA1 : Hid (AllX 5 1 (xfB m) none (w.heap.size + 1) w1 (.slice none 0 0) 0 ∧ XExt 5 1 (xfB m) none (w.heap.size + 1) (w.alloc (.cells #[.slice none 0 0, .slice none 0 0, .slice none 0 0, .slice none 0 0, .int .i64 0] 139)) w1 ∧ w.heap.size + 1 ≤ w1.heap.size ∧ AllX 5 1 (xfB m) none (w.heap.size + 1) w1 v1 (0 + 1)) := ⟨(HA.out.1.alloc _ HA.out.2.2).ext hX1, (HA.out.2.1.alloc _ HA.out.2.2).trans hX1, Nat.le_trans HA.out.2.2 (by have h1 := hX1.sz; simp at h1; omega), hA1⟩; clear hA1 hX1)) | (at_builtin; (refine wpList_append_x (xf := xfB m) (row := none) (H := w.heap.size + 1) _ rfl (.tmp 28) (.tmp 31) 35 rfl i0 (.int .u8 0) 1 und_bytes hi hz0 hz1 hz2 rfl (by decide) (.slice none 0 0) 0 rfl ?_ ⟨_, 0, none⟩ 2 2 [.int .u8 (r : Int), .int .u8 (r : Int)] rfl rfl (two_new' _ _ _ _) (two_one _ _) (xfB_two HR.out) (by decide) (by unfold maxLen; omega) (by omega) ?_ ?_; exact HA1.out.1.alloc _ HA1.out.2.2.1; (have := HA1.out.2.2.1; simp; omega); intro v2 w2 hA2 hX2; have HA2 : Hid (AllX 5 1 (xfB m) none (w.heap.size + 1) w2 (.slice none 0 0) 0 ∧ XExt 5 1 (xfB m) none (w.heap.size + 1) (w.alloc (.cells #[.slice none 0 0, .slice none 0 0, .slice none 0 0, .slice none 0 0, .int .i64 0] 139)) w2 ∧ w.heap.size + 1 ≤ w2.heap.size ∧ AllX 5 1 (xfB m) none (w.heap.size + 1) w2 v1 (0 + 1) ∧ AllX 5 1 (xfB m) none (w.heap.size + 1) w2 v2 (0 + 2)) := ⟨(HA1.out.1.alloc _ HA1.out.2.2.1).ext hX2, (HA1.out.2.1.alloc _ HA1.out.2.2.1).trans hX2, by have h1 := hX2.sz; have h2 := HA1.out.2.2.1; simp at h1; omega, (HA1.out.2.2.2.alloc _ HA1.out.2.2.1).ext hX2, hA2⟩; clear hA2 hX2 HA1)))
    clear HA
    go_loopw [9, 10] (fun v3 j wq => ∃ k : Nat, k ≤ 64 ∧ j = .int .i64 k ∧ AllX 5 1 (xfB m) none (w.heap.size + 1) wq (.slice none 0 0) 0 ∧ XExt 5 1 (xfB m) none (w.heap.size + 1) (w.alloc (.cells #[.slice none 0 0, .slice none 0 0, .slice none 0 0, .slice none 0 0, .int .i64 0] 139)) wq ∧ w.heap.size + 1 ≤ wq.heap.size ∧ AllX 5 1 (xfB m) none (w.heap.size + 1) wq v1 (0 + 1) ∧ AllX 5 1 (xfB m) none (w.heap.size + 1) wq v2 (0 + 2) ∧ AllX 5 1 (xfB m) none (w.heap.size + 1) wq v3 (0 + k)) (fun _ j _ => 64 - (intOf j).toNat)
    case atStart => exact ⟨0, by omega, rfl, HA2.out.1, HA2.out.2.1, HA2.out.2.2.1, HA2.out.2.2.2.1, HA2.out.2.2.2.2, HA2.out.1⟩
    case round =>
      clear HA2
      obtain ⟨k, hk, rfl, q0, q1, q2, q3, q4, q5⟩ := hrel
      have HQ : Hid (AllX 5 1 (xfB m) none (w.heap.size + 1) wr (.slice none 0 0) 0 ∧ XExt 5 1 (xfB m) none (w.heap.size + 1) (w.alloc (.cells #[.slice none 0 0, .slice none 0 0, .slice none 0 0, .slice none 0 0, .int .i64 0] 139)) wr ∧ w.heap.size + 1 ≤ wr.heap.size ∧ AllX 5 1 (xfB m) none (w.heap.size + 1) wr v1 (0 + 1) ∧ AllX 5 1 (xfB m) none (w.heap.size + 1) wr v2 (0 + 2) ∧ AllX 5 1 (xfB m) none (w.heap.size + 1) wr u9 (0 + k)) := ⟨q0, q1, q2, q3, q4, q5⟩
      clear q0 q1 q2 q3 q4 q5
      by_cases hlt : k < 64
      · go_wp2_with (first | (at_builtin; go_must (refine wpList_append_x (xf := xfB m) (row := none) (H := w.heap.size + 1) _ rfl (.tmp 38) (.tmp 40) 35 rfl i0 (.int .u8 0) 1 und_bytes hi hz0 hz1 hz2 rfl (by decide) u9 (0 + k) rfl (by exact HQ.out.2.2.2.2.2.alloc _ HQ.out.2.2.1) ⟨_, 0, none⟩ 1 1 [.int .u8 (r : Int)] rfl rfl (one_new' _ _ _) (one_one _) (xfB_one HR.out) (by decide) (by unfold maxLen; omega) (by omega) (by have := HQ.out.2.2.1; simp; omega) ?_; intro v4 w4 hA4 hX4)))
        have HQ4 : Hid (AllX 5 1 (xfB m) none (w.heap.size + 1) w4 (.slice none 0 0) 0 ∧ XExt 5 1 (xfB m) none (w.heap.size + 1) (w.alloc (.cells #[.slice none 0 0, .slice none 0 0, .slice none 0 0, .slice none 0 0, .int .i64 0] 139)) w4 ∧ w.heap.size + 1 ≤ w4.heap.size ∧ AllX 5 1 (xfB m) none (w.heap.size + 1) w4 v1 (0 + 1) ∧ AllX 5 1 (xfB m) none (w.heap.size + 1) w4 v2 (0 + 2) ∧ AllX 5 1 (xfB m) none (w.heap.size + 1) w4 v4 (0 + k + 1)) := ⟨(HQ.out.1.alloc _ HQ.out.2.2.1).ext hX4, (HQ.out.2.1.alloc _ HQ.out.2.2.1).trans hX4, by have h1 := hX4.sz; have h2 := HQ.out.2.2.1; simp at h1; omega, (HQ.out.2.2.2.1.alloc _ HQ.out.2.2.1).ext hX4, (HQ.out.2.2.2.2.1.alloc _ HQ.out.2.2.1).ext hX4, hA4⟩
        clear hA4 hX4 HQ
        go_roundw
        case rel => exact ⟨k + 1, by omega, by go_num, HQ4.out.1, HQ4.out.2.1, HQ4.out.2.2.1, HQ4.out.2.2.2.1, HQ4.out.2.2.2.2.1, HQ4.out.2.2.2.2.2⟩
        case measure => simp [intOf]; omega
      · have hk64 : k = 64 := by omega
        subst hk64
        obtain ⟨d0, d1, d2, d3, d4, f0⟩ := res_cells HQ.out.2.1 RNE
        have g0 := f0 0
        have g1 := f0 1
        have g2 := f0 2
        have g3 := f0 3
        have g4 := f0 4
        clear f0
        obtain ⟨ga, ca, rfl⟩ := allx_form HQ.out.2.2.2.1 (by omega)
        obtain ⟨gb, cb, rfl⟩ := allx_form HQ.out.2.2.2.2.1 (by omega)
        obtain ⟨gc, cc, rfl⟩ := allx_form HQ.out.2.2.2.2.2 (by omega)
        go_wp2
        refine bodyPost_ret (v := .agg #[(.slice none 0 0), .slice (some ⟨ga, 0, none⟩) (0 + 1) ca, .slice (some ⟨gb, 0, none⟩) (0 + 2) cb, .slice (some ⟨gc, 0, none⟩) (0 + 64) cc, .int .i64 m]) (by simp [results, Tryz.results99, go_sem, d0, d1, d2, d3, d4]) rfl ⟨_, _, _, rfl, ?_, ?_, ?_, ?_, ?_⟩
        · exact res_grown HQ.out.2.1
        · exact res_keep HQ.out.1 RNE
        · exact res_keep HQ.out.2.2.2.1 RNE
        · exact res_keep HQ.out.2.2.2.2.1 RNE
        · exact res_keep HQ.out.2.2.2.2.2 RNE

set_option maxRecDepth 100000 in
set_option maxHeartbeats 4000000 in
theorem ownBytes_row (m : Nat) (g n cap : Nat) (hn : n ≤ 100000000) (hnc : n ≤ cap) (w : World) (hm : m ≤ 1000000000) (hrow : RowAt w g 5 1 cap) :
    Calls Tryz.prog 99 #[(.slice (some ⟨g, 0, none⟩) n cap), .int .i64 m] w fun e w' => ∃ v1 v2 v3, e = .returned (.agg #[(.slice (some ⟨g, 0, none⟩) n cap), v1, v2, v3, .int .i64 m]) ∧ w.grownBy w' (some g) ∧
      AllX 5 1 (xfB m) (some g) w.heap.size w' (.slice (some ⟨g, 0, none⟩) n cap) n ∧ AllX 5 1 (xfB m) (some g) w.heap.size w' v1 (n + 1) ∧ AllX 5 1 (xfB m) (some g) w.heap.size w' v2 (n + 2) ∧ AllX 5 1 (xfB m) (some g) w.heap.size w' v3 (n + 64) := by
  obtain ⟨r, h251, hb1, HR⟩ : ∃ r : Nat, (m : Int) % 251 = (r : Int) ∧ (r : Int) < 256 ∧ Hid (m % 251 = r) := ⟨m % 251, by omega, by omega, rfl⟩
  obtain ⟨i0, hi, hz0, hz1, hz2⟩ := info_parts inf_u8
  have RNE : some w.heap.size ≠ some g := by have := hrow.lt; intro e; injection e with e; omega
  have HW : Hid (RowAt (w.alloc (.cells #[.slice none 0 0, .slice none 0 0, .slice none 0 0, .slice none 0 0, .int .i64 0] 139)) g 5 1 cap) := ((XExt.ofGrown (xf := xfB m) (row := some g) (H := 0) (World.grownBy_alloc w _ none) (Nat.zero_le _)).rows g cap (.inl rfl) hrow)
  clear hrow
  go_enter Tryz.func99, Tryz.ntmps99
  go_wp2
  go_loopw [6] (fun i wr => ∃ k : Nat, k ≤ n ∧ i = .int .i64 k ∧ RowAt wr g 5 1 cap ∧ XExt 5 1 (xfB m) (some g) (w.heap.size + 1) (w.alloc (.cells #[.slice none 0 0, .slice none 0 0, .slice none 0 0, .slice none 0 0, .int .i64 0] 139)) wr ∧ (∀ j, j < k → wr.cell? ⟨g, j, none⟩ = some (xfB m 0)) ∧ w.heap.size + 1 ≤ wr.heap.size) (fun i _ => n - (intOf i).toNat)
  case atStart => exact ⟨0, Nat.zero_le _, rfl, HW.out, XExt.refl _, by simp, by simp⟩
  case round =>
    obtain ⟨k, hk, rfl, p0, p1, p2, p3⟩ := hrel
    clear HW
    have HP : Hid (RowAt wr g 5 1 cap ∧ XExt 5 1 (xfB m) (some g) (w.heap.size + 1) (w.alloc (.cells #[.slice none 0 0, .slice none 0 0, .slice none 0 0, .slice none 0 0, .int .i64 0] 139)) wr ∧ (∀ j, j < k → wr.cell? ⟨g, j, none⟩ = some (xfB m 0)) ∧ w.heap.size + 1 ≤ wr.heap.size) := ⟨p0, p1, p2, p3⟩
    clear p0 p1 p2 p3
    by_cases hltn : k < n
    · obtain ⟨uu, hcu⟩ := HP.out.1.there k (by omega)
      have hfu := HP.out.1.free k
      go_wp2
      go_roundw
      case rel => exact ⟨k + 1, by omega, by go_num, mark_step HP.out.1 HP.out.2.1 HP.out.2.2.1 HP.out.2.2.2 hltn hnc HR.out⟩
      case measure => simp [intOf]; omega
    have HA : Hid (AllX 5 1 (xfB m) (some g) (w.heap.size + 1) wr (.slice (some ⟨g, 0, none⟩) n cap) n ∧ XExt 5 1 (xfB m) (some g) (w.heap.size + 1) (w.alloc (.cells #[.slice none 0 0, .slice none 0 0, .slice none 0 0, .slice none 0 0, .int .i64 0] 139)) wr ∧ w.heap.size + 1 ≤ wr.heap.size) := ⟨.inr ⟨g, cap, rfl, .inl rfl, hnc, HP.out.1, fun i hi => HP.out.2.2.1 i (by omega)⟩, HP.out.2.1, HP.out.2.2.2⟩
    clear HP
    go_wp2_with (first | (at_builtin; (refine wpList_append_x (xf := xfB m) (row := (some g)) (H := w.heap.size + 1) _ rfl (.tmp 24) (.tmp 26) 35 rfl i0 (.int .u8 0) 1 und_bytes hi hz0 hz1 hz2 rfl (by decide) (.slice (some ⟨g, 0, none⟩) n cap) n rfl (by exact HA.out.1.alloc _ HA.out.2.2) ⟨_, 0, none⟩ 1 1 [.int .u8 (r : Int)] rfl rfl (one_new' _ _ _) (one_one _) (xfB_one HR.out) (by decide) (by unfold maxLen; omega) (by omega) (by have := HA.out.2.2; simp; omega) ?_; intro v1 w1 hA1 hX1; have HA1 : Hid (AllX 5 1 (xfB m) (some g) (w.heap.size + 1) w1 (.slice (some ⟨g, 0, none⟩) n cap) n ∧ XExt 5 1 (xfB m) (some g) (w.heap.size + 1) (w.alloc (.cells #[.slice none 0 0, .slice none 0 0, .slice none 0 0, .slice none 0 0, .int .i64 0] 139)) w1 ∧ w.heap.size + 1 ≤ w1.heap.size ∧ AllX 5 1 (xfB m) (some g) (w.heap.size + 1) w1 v1 (n + 1)) := ⟨(HA.out.1.alloc _ HA.out.2.2).ext hX1, (HA.out.2.1.alloc _ HA.out.2.2).trans hX1, Nat.le_trans HA.out.2.2 (by have h1 := hX1.sz; simp at h1; omega), hA1⟩; clear hA1 hX1)) | (at_builtin; (refine wpList_append_x (xf := xfB m) (row := (some g)) (H := w.heap.size + 1) _ rfl (.tmp 28) (.tmp 31) 35 rfl i0 (.int .u8 0) 1 und_bytes hi hz0 hz1 hz2 rfl (by decide) (.slice (some ⟨g, 0, none⟩) n cap) n rfl ?_ ⟨_, 0, none⟩ 2 2 [.int .u8 (r : Int), .int .u8 (r : Int)] rfl rfl (two_new' _ _ _ _) (two_one _ _) (xfB_two HR.out) (by decide) (by unfold maxLen; omega) (by omega) ?_ ?_; exact HA1.out.1.alloc _ HA1.out.2.2.1; (have := HA1.out.2.2.1; simp; omega); intro v2 w2 hA2 hX2; have HA2 : Hid (AllX 5 1 (xfB m) (some g) (w.heap.size + 1) w2 (.slice (some ⟨g, 0, none⟩) n cap) n ∧ XExt 5 1 (xfB m) (some g) (w.heap.size + 1) (w.alloc (.cells #[.slice none 0 0, .slice none 0 0, .slice none 0 0, .slice none 0 0, .int .i64 0] 139)) w2 ∧ w.heap.size + 1 ≤ w2.heap.size ∧ AllX 5 1 (xfB m) (some g) (w.heap.size + 1) w2 v1 (n + 1) ∧ AllX 5 1 (xfB m) (some g) (w.heap.size + 1) w2 v2 (n + 2)) := ⟨(HA1.out.1.alloc _ HA1.out.2.2.1).ext hX2, (HA1.out.2.1.alloc _ HA1.out.2.2.1).trans hX2, by have h1 := hX2.sz; have h2 := HA1.out.2.2.1; simp at h1; omega, (HA1.out.2.2.2.alloc _ HA1.out.2.2.1).ext hX2, hA2⟩; clear hA2 hX2 HA1)))
    clear HA
    go_loopw [9, 10] (fun v3 j wq => ∃ k : Nat, k ≤ 64 ∧ j = .int .i64 k ∧ AllX 5 1 (xfB m) (some g) (w.heap.size + 1) wq (.slice (some ⟨g, 0, none⟩) n cap) n ∧ XExt 5 1 (xfB m) (some g) (w.heap.size + 1) (w.alloc (.cells #[.slice none 0 0, .slice none 0 0, .slice none 0 0, .slice none 0 0, .int .i64 0] 139)) wq ∧ w.heap.size + 1 ≤ wq.heap.size ∧ AllX 5 1 (xfB m) (some g) (w.heap.size + 1) wq v1 (n + 1) ∧ AllX 5 1 (xfB m) (some g) (w.heap.size + 1) wq v2 (n + 2) ∧ AllX 5 1 (xfB m) (some g) (w.heap.size + 1) wq v3 (n + k)) (fun _ j _ => 64 - (intOf j).toNat)
    case atStart => exact ⟨0, by omega, rfl, HA2.out.1, HA2.out.2.1, HA2.out.2.2.1, HA2.out.2.2.2.1, HA2.out.2.2.2.2, HA2.out.1⟩
    case round =>
      clear HA2
      obtain ⟨k, hk, rfl, q0, q1, q2, q3, q4, q5⟩ := hrel
      have HQ : Hid (AllX 5 1 (xfB m) (some g) (w.heap.size + 1) wr (.slice (some ⟨g, 0, none⟩) n cap) n ∧ XExt 5 1 (xfB m) (some g) (w.heap.size + 1) (w.alloc (.cells #[.slice none 0 0, .slice none 0 0, .slice none 0 0, .slice none 0 0, .int .i64 0] 139)) wr ∧ w.heap.size + 1 ≤ wr.heap.size ∧ AllX 5 1 (xfB m) (some g) (w.heap.size + 1) wr v1 (n + 1) ∧ AllX 5 1 (xfB m) (some g) (w.heap.size + 1) wr v2 (n + 2) ∧ AllX 5 1 (xfB m) (some g) (w.heap.size + 1) wr u9 (n + k)) := ⟨q0, q1, q2, q3, q4, q5⟩
      clear q0 q1 q2 q3 q4 q5
      by_cases hlt : k < 64
      · go_wp2_with (first | (at_builtin; go_must (refine wpList_append_x (xf := xfB m) (row := (some g)) (H := w.heap.size + 1) _ rfl (.tmp 38) (.tmp 40) 35 rfl i0 (.int .u8 0) 1 und_bytes hi hz0 hz1 hz2 rfl (by decide) u9 (n + k) rfl (by exact HQ.out.2.2.2.2.2.alloc _ HQ.out.2.2.1) ⟨_, 0, none⟩ 1 1 [.int .u8 (r : Int)] rfl rfl (one_new' _ _ _) (one_one _) (xfB_one HR.out) (by decide) (by unfold maxLen; omega) (by omega) (by have := HQ.out.2.2.1; simp; omega) ?_; intro v4 w4 hA4 hX4)))
        have HQ4 : Hid (AllX 5 1 (xfB m) (some g) (w.heap.size + 1) w4 (.slice (some ⟨g, 0, none⟩) n cap) n ∧ XExt 5 1 (xfB m) (some g) (w.heap.size + 1) (w.alloc (.cells #[.slice none 0 0, .slice none 0 0, .slice none 0 0, .slice none 0 0, .int .i64 0] 139)) w4 ∧ w.heap.size + 1 ≤ w4.heap.size ∧ AllX 5 1 (xfB m) (some g) (w.heap.size + 1) w4 v1 (n + 1) ∧ AllX 5 1 (xfB m) (some g) (w.heap.size + 1) w4 v2 (n + 2) ∧ AllX 5 1 (xfB m) (some g) (w.heap.size + 1) w4 v4 (n + k + 1)) := ⟨(HQ.out.1.alloc _ HQ.out.2.2.1).ext hX4, (HQ.out.2.1.alloc _ HQ.out.2.2.1).trans hX4, by have h1 := hX4.sz; have h2 := HQ.out.2.2.1; simp at h1; omega, (HQ.out.2.2.2.1.alloc _ HQ.out.2.2.1).ext hX4, (HQ.out.2.2.2.2.1.alloc _ HQ.out.2.2.1).ext hX4, hA4⟩
        clear hA4 hX4 HQ
        go_roundw
        case rel => exact ⟨k + 1, by omega, by go_num, HQ4.out.1, HQ4.out.2.1, HQ4.out.2.2.1, HQ4.out.2.2.2.1, HQ4.out.2.2.2.2.1, HQ4.out.2.2.2.2.2⟩
        case measure => simp [intOf]; omega
      · have hk64 : k = 64 := by omega
        subst hk64
        obtain ⟨d0, d1, d2, d3, d4, f0⟩ := res_cells HQ.out.2.1 RNE
        have g0 := f0 0
        have g1 := f0 1
        have g2 := f0 2
        have g3 := f0 3
        have g4 := f0 4
        clear f0
        obtain ⟨ga, ca, rfl⟩ := allx_form HQ.out.2.2.2.1 (by omega)
        obtain ⟨gb, cb, rfl⟩ := allx_form HQ.out.2.2.2.2.1 (by omega)
        obtain ⟨gc, cc, rfl⟩ := allx_form HQ.out.2.2.2.2.2 (by omega)
        go_wp2
        refine bodyPost_ret (v := .agg #[(.slice (some ⟨g, 0, none⟩) n cap), .slice (some ⟨ga, 0, none⟩) (n + 1) ca, .slice (some ⟨gb, 0, none⟩) (n + 2) cb, .slice (some ⟨gc, 0, none⟩) (n + 64) cc, .int .i64 m]) (by simp [results, Tryz.results99, go_sem, d0, d1, d2, d3, d4]) rfl ⟨_, _, _, rfl, ?_, ?_, ?_, ?_, ?_⟩
        · exact res_grown HQ.out.2.1
        · exact res_keep HQ.out.1 RNE
        · exact res_keep HQ.out.2.2.2.1 RNE
        · exact res_keep HQ.out.2.2.2.2.1 RNE
        · exact res_keep HQ.out.2.2.2.2.2 RNE

end Go.Proofs.YtcgjliflnnklnaaGreat
