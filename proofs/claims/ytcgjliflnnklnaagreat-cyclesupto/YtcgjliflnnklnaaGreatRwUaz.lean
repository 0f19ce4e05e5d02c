/-
  The document's computer, walked: the registers behind an instruction that goes elsewhere.
-/
import Derived.Test.YtcgjliflnnklnaaGreatRwGz
import Derived.Test.YtcgjliflnnklnaaGreatJ17
import Derived.Handy
namespace Go.Proofs.YtcgjliflnnklnaaGreat
open Go.RowKit
set_option maxRecDepth 100000
set_option maxHeartbeats 20000000

theorem HdAt.later' {w w' : World} {b : Nat} {h : List Int} (H : HdAt w b h) (hb : Below w.heap.size w w') : HdAt w' b h :=
  ⟨Nat.lt_of_lt_of_le H.lt hb.size, fun i hi => (hb.cell (p := ⟨b, i, none⟩) H.lt).trans (H.c i hi), H.r⟩
def lFar : List BA := [b3 74 83 82, b3 82 84 83, b3 82 84 73, b3 74 77 80]
theorem ramong4 (op : BA) (q : Bool) (hq : (lFar.any fun s => decide (s = op)) = q) (w : World) (t : TypeId) (b : Nat) (hb : b = w.heap.size) :
    Calls Tryz.prog 151 #[.slice (some ⟨b, 0, none⟩) 4 4, .string op] (w.alloc (.cells #[.string ⟨#[74, 83, 82]⟩, .string ⟨#[82, 84, 83]⟩, .string ⟨#[82, 84, 73]⟩, .string ⟨#[74, 77, 80]⟩] t)) fun e w' => e = .returned (.bool q) ∧ w' = w.alloc (.cells #[.string ⟨#[74, 83, 82]⟩, .string ⟨#[82, 84, 83]⟩, .string ⟨#[82, 84, 73]⟩, .string ⟨#[74, 77, 80]⟩] t) := by
  subst hb; subst hq; exact ramong w.heap.size 4 4 lFar op _ rfl (by decide) (strs_new w lFar t)

theorem done_seq (op md : BA) (hop : op = b3 78 77 73 ∨ op = b3 73 82 81 ∨ op = b3 66 82 75) (r : RG) (hr : RgR r) (b cap : Nat) (h : List Int) (hl : h.length ≤ 100) (hk : FlOk op h.length) (w : World) (H : HdAt w b h) :
    Calls Tryz.prog 96 #[cdV op md, r.val, hdV b h cap] w fun e w' => e = .returned (doneR op md r h).val ∧ Below w.heap.size w w' := by
  have hf : farR op = true := by rcases hop with rfl | rfl | rfl <;> rfl
  rw [show doneR op md r h = flowsR op r h from by unfold doneR; rw [if_pos hf]]
  have FL := fun w' (hb : Below w.heap.size w w') => rflows op r hr b cap h hl hk w' (H.later' hb)
  generalize flowsR op r h = R at *
  obtain ⟨A, X, Y, S, P, PC, cyc, jam⟩ := r
  obtain ⟨A', X', Y', S', P', PC', cyc', jam'⟩ := R
  unfold RG.val cdV hdV at *
  clear hf hk H hr
  have AM := fun hq => ramong4 op true hq
  dsimp only at FL ⊢
  rcases hop with rfl | rfl | rfl
  all_goals
    unfold b3 at *
    go_enter Tryz.func96, Tryz.ntmps96
    go_wp2_with (first | (go_at_call 151; refine (AM (by first | decide | rfl) _ _ _ (by simp)).mono ?_; rintro e w1 ⟨rfl, rfl⟩) | (go_at_call 152; refine (FL _ ?fl).mono ?_; (case fl => go_grown); rintro e w1 ⟨rfl, hb⟩; obtain ⟨-, -, g2, lt9, hB⟩ := own3 hb; obtain ⟨k0, k1, k2, k3, k4, k5, k6, k7, kf⟩ := row8 g2; clear hb g2))
    all_goals (try (go_region_with (first | (go_at_call 151; refine (AM (by first | decide | rfl) _ _ _ (by simp)).mono ?_; rintro e w1 ⟨rfl, rfl⟩))))
    all_goals (try (go_wp2_with (go_at_call 152; refine (FL _ ?fl).mono ?_; (case fl => go_grown); rintro e w1 ⟨rfl, hb⟩; obtain ⟨-, -, g2, lt9, hB⟩ := own3 hb; obtain ⟨k0, k1, k2, k3, k4, k5, k6, k7, kf⟩ := row8 g2; clear hb g2)))
    all_goals refine bodyPost_ret (v := RG.val ⟨A', X', Y', S', P', PC', cyc', jam'⟩) (by simp [results, Tryz.results96, go_sem, RG.val, k0, k1, k2, k3, k4, k5, k6, k7]) rfl ⟨rfl, by go_grown⟩
theorem done_far4 (op md : BA) (hop : op = b3 74 83 82 ∨ op = b3 82 84 83 ∨ op = b3 82 84 73 ∨ op = b3 74 77 80) (r : RG) (hr : RgR r) (b cap : Nat) (h : List Int) (hl : h.length ≤ 100) (hk : FlOk op h.length) (w : World) (H : HdAt w b h) :
    Calls Tryz.prog 96 #[cdV op md, r.val, hdV b h cap] w fun e w' => e = .returned (doneR op md r h).val ∧ Below w.heap.size w w' := by
  have hf : farR op = true := by rcases hop with rfl | rfl | rfl | rfl <;> rfl
  rw [show doneR op md r h = flowsR op r h from by unfold doneR; rw [if_pos hf]]
  have FL := fun w' (hb : Below w.heap.size w w') => rflows op r hr b cap h hl hk w' (H.later' hb)
  generalize flowsR op r h = R at *
  obtain ⟨A, X, Y, S, P, PC, cyc, jam⟩ := r
  obtain ⟨A', X', Y', S', P', PC', cyc', jam'⟩ := R
  unfold RG.val cdV hdV at *
  clear hf hk H hr
  have AM := fun hq => ramong4 op true hq
  dsimp only at FL ⊢
  rcases hop with rfl | rfl | rfl | rfl
  all_goals
    unfold b3 at *
    go_enter Tryz.func96, Tryz.ntmps96
    go_wp2_with (first | (go_at_call 151; refine (AM (by first | decide | rfl) _ _ _ (by simp)).mono ?_; rintro e w1 ⟨rfl, rfl⟩) | (go_at_call 152; refine (FL _ ?fl).mono ?_; (case fl => go_grown); rintro e w1 ⟨rfl, hb⟩; obtain ⟨-, -, g2, -, lt9, hB⟩ := own4 hb; obtain ⟨k0, k1, k2, k3, k4, k5, k6, k7, kf⟩ := row8 g2; clear hb g2))
    all_goals (try (go_region_with (first | (go_at_call 151; refine (AM (by first | decide | rfl) _ _ _ (by simp)).mono ?_; rintro e w1 ⟨rfl, rfl⟩))))
    all_goals (try (go_wp2_with (go_at_call 152; refine (FL _ ?fl).mono ?_; (case fl => go_grown); rintro e w1 ⟨rfl, hb⟩; obtain ⟨-, -, g2, -, lt9, hB⟩ := own4 hb; obtain ⟨k0, k1, k2, k3, k4, k5, k6, k7, kf⟩ := row8 g2; clear hb g2)))
    all_goals refine bodyPost_ret (v := RG.val ⟨A', X', Y', S', P', PC', cyc', jam'⟩) (by simp [results, Tryz.results96, go_sem, RG.val, k0, k1, k2, k3, k4, k5, k6, k7]) rfl ⟨rfl, by go_grown⟩

end Go.Proofs.YtcgjliflnnklnaaGreat
