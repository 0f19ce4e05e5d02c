/-
  The book's packet: a list of packets that came out is its owner's.
-/
import Derived.Test.YtcgjliflnnklnaaGreatByte
namespace Go.Proofs.YtcgjliflnnklnaaGreat
open Go.RowKit

set_option maxRecDepth 100000 in
set_option maxHeartbeats 600000 in
theorem packet_bk (w0 : World) (f : Fix) (X : Nat → Prop) (s t : Nat → Sc) (vb vp : Value) (nb np n : Nat) (v : Value) (w : World) (h : Inv w0 f X s t vb vp nb np w) (hXlt : ∀ g, X g → g < w.heap.size) (hv : Out 152 3 w X v n) (hn : n ≤ 100000000) (hnp : np ≤ 10000000) :
    Calls Tryz.prog 75 #[.pointer (some ⟨f.W, 4, none⟩), v] w fun e w' => e = .returned (.tuple #[]) ∧ ∃ vp', Inv w0 f (fun g => X g ∧ v.ownBlock ≠ some g) s t vb vp' nb (np + 1) w' ∧ ∀ g, X g → v.ownBlock ≠ some g → w'.heap[g]? = w.heap[g]? := by
  obtain ⟨i0, hi, hz0, hz1, hz2⟩ := info_parts inf_Packets
  obtain ⟨xs0, ho0, _⟩ := h.pk
  obtain ⟨ao, cb, rfl⟩ := own5_shape ho0
  obtain ⟨va, vk, vc, hve⟩ := out_one hv
  have HI : Hid (Inv w0 f X s t vb (.slice ao np cb) nb np w ∧ (∀ g, X g → g < w.heap.size) ∧ Out 152 3 w X v n) := ⟨h, hXlt, hv⟩
  have c4 := h.cell.2.2.2.1
  clear h hXlt hv ho0
  subst hve
  go_enter Tryz.func75, Tryz.ntmps75
  go_wp2_with fail
  refine (ownPackets_any np n (.slice va vk vc) X _ (by omega) hn HI.out.2.2).mono ?_
  rintro e w1 ⟨v1, v2, v3, rfl, hg1, a0, a1, a2, a3⟩
  obtain ⟨ga, ca, rfl⟩ := allx_form a1 (by omega)
  obtain ⟨gq, cq, rfl⟩ := allx_form a2 (by omega)
  obtain ⟨gc, cc, rfl⟩ := allx_form a3 (by omega)
  have HI1 : Hid (Inv w0 f (fun g => X g ∧ (Value.slice va vk vc).ownBlock ≠ some g) s t vb (.slice ao np cb) nb np w1 ∧ Ent 152 3 xfP w1 (Bad f (fun g => X g ∧ (Value.slice va vk vc).ownBlock ≠ some g) vb (.slice ao np cb)) np (.slice va vk vc) (.slice (some ⟨ga, 0, none⟩) (n + 1) ca) (.slice (some ⟨gq, 0, none⟩) (n + 2) cq) (.slice (some ⟨gc, 0, none⟩) (n + 64) cc) ∧ (∀ g, X g → (Value.slice va vk vc).ownBlock ≠ some g → w1.heap[g]? = w.heap[g]?) ∧ (∀ g, (X g ∧ (Value.slice va vk vc).ownBlock ≠ some g) → g < w1.heap.size)) :=
    ⟨HI.out.1.own HI.out.2.2 hg1, ent_new (xf := xfP) HI.out.1 HI.out.2.1 HI.out.2.2 hn a0 a1 a2 a3, fun g hX hne => hg1.block g (HI.out.2.1 g hX) (fun e => hne e.symm), fun g hX => Nat.lt_of_lt_of_le (HI.out.2.1 g hX.1) hg1.size⟩
  clear hg1 a0 a1 a2 a3 HI c4
  have k4 := HI1.out.1.cell.2.2.2.1
  have kf := HI1.out.1.cell.2.2.2.2 5
  have kW := HI1.out.1.wlt
  have hsz1 := HI1.out.1.bel.size
  go_wp2_with fail
  have HA : Hid (Inv w0 f (fun g => X g ∧ (Value.slice va vk vc).ownBlock ≠ some g) s t vb (.slice ao np cb) nb np (((w1.alloc (.cells #[.slice va vk vc, .slice (some ⟨ga, 0, none⟩) (n + 1) ca, .slice (some ⟨gq, 0, none⟩) (n + 2) cq, .slice (some ⟨gc, 0, none⟩) (n + 64) cc, .int .i64 (np : Int)] 142)).alloc (.cells #[.slice va vk vc, .slice (some ⟨ga, 0, none⟩) (n + 1) ca, .slice (some ⟨gq, 0, none⟩) (n + 2) cq, .slice (some ⟨gc, 0, none⟩) (n + 64) cc, .int .i64 (np : Int)] 142)).drew) ∧ Ent 152 3 xfP (((w1.alloc (.cells #[.slice va vk vc, .slice (some ⟨ga, 0, none⟩) (n + 1) ca, .slice (some ⟨gq, 0, none⟩) (n + 2) cq, .slice (some ⟨gc, 0, none⟩) (n + 64) cc, .int .i64 (np : Int)] 142)).alloc (.cells #[.slice va vk vc, .slice (some ⟨ga, 0, none⟩) (n + 1) ca, .slice (some ⟨gq, 0, none⟩) (n + 2) cq, .slice (some ⟨gc, 0, none⟩) (n + 64) cc, .int .i64 (np : Int)] 142)).drew) (Bad f (fun g => X g ∧ (Value.slice va vk vc).ownBlock ≠ some g) vb (.slice ao np cb)) np (.slice va vk vc) (.slice (some ⟨ga, 0, none⟩) (n + 1) ca) (.slice (some ⟨gq, 0, none⟩) (n + 2) cq) (.slice (some ⟨gc, 0, none⟩) (n + 64) cc) ∧ (∀ g, (X g ∧ (Value.slice va vk vc).ownBlock ≠ some g) → g < (((w1.alloc (.cells #[.slice va vk vc, .slice (some ⟨ga, 0, none⟩) (n + 1) ca, .slice (some ⟨gq, 0, none⟩) (n + 2) cq, .slice (some ⟨gc, 0, none⟩) (n + 64) cc, .int .i64 (np : Int)] 142)).alloc (.cells #[.slice va vk vc, .slice (some ⟨ga, 0, none⟩) (n + 1) ca, .slice (some ⟨gq, 0, none⟩) (n + 2) cq, .slice (some ⟨gc, 0, none⟩) (n + 64) cc, .int .i64 (np : Int)] 142)).drew).heap.size) ∧ (∀ g, X g → (Value.slice va vk vc).ownBlock ≠ some g → (((w1.alloc (.cells #[.slice va vk vc, .slice (some ⟨ga, 0, none⟩) (n + 1) ca, .slice (some ⟨gq, 0, none⟩) (n + 2) cq, .slice (some ⟨gc, 0, none⟩) (n + 64) cc, .int .i64 (np : Int)] 142)).alloc (.cells #[.slice va vk vc, .slice (some ⟨ga, 0, none⟩) (n + 1) ca, .slice (some ⟨gq, 0, none⟩) (n + 2) cq, .slice (some ⟨gc, 0, none⟩) (n + 64) cc, .int .i64 (np : Int)] 142)).drew).heap[g]? = w.heap[g]? ∧ g < (((w1.alloc (.cells #[.slice va vk vc, .slice (some ⟨ga, 0, none⟩) (n + 1) ca, .slice (some ⟨gq, 0, none⟩) (n + 2) cq, .slice (some ⟨gc, 0, none⟩) (n + 64) cc, .int .i64 (np : Int)] 142)).alloc (.cells #[.slice va vk vc, .slice (some ⟨ga, 0, none⟩) (n + 1) ca, .slice (some ⟨gq, 0, none⟩) (n + 2) cq, .slice (some ⟨gc, 0, none⟩) (n + 64) cc, .int .i64 (np : Int)] 142)).drew).heap.size)) :=
    two_more HI1.out.1 HI1.out.2.1 HI1.out.2.2.2 HI1.out.2.2.1 _ _
  obtain ⟨xs, ho, he⟩ := HA.out.1.pk
  have HB : Hid ((((w1.alloc (.cells #[.slice va vk vc, .slice (some ⟨ga, 0, none⟩) (n + 1) ca, .slice (some ⟨gq, 0, none⟩) (n + 2) cq, .slice (some ⟨gc, 0, none⟩) (n + 64) cc, .int .i64 (np : Int)] 142)).alloc (.cells #[.slice va vk vc, .slice (some ⟨ga, 0, none⟩) (n + 1) ca, .slice (some ⟨gq, 0, none⟩) (n + 2) cq, .slice (some ⟨gc, 0, none⟩) (n + 64) cc, .int .i64 (np : Int)] 142)).drew).ownsRow w0.heap.size 142 5 (.slice ao np cb) np xs ∧ ∀ i, i < np → ∃ v v1 v2 v3, xs[i * 5]? = some v ∧ xs[i * 5 + 1]? = some v1 ∧ xs[i * 5 + 2]? = some v2 ∧ xs[i * 5 + 3]? = some v3 ∧ xs[i * 5 + 4]? = some (.int .i64 (i : Int)) ∧ Ent 152 3 xfP (((w1.alloc (.cells #[.slice va vk vc, .slice (some ⟨ga, 0, none⟩) (n + 1) ca, .slice (some ⟨gq, 0, none⟩) (n + 2) cq, .slice (some ⟨gc, 0, none⟩) (n + 64) cc, .int .i64 (np : Int)] 142)).alloc (.cells #[.slice va vk vc, .slice (some ⟨ga, 0, none⟩) (n + 1) ca, .slice (some ⟨gq, 0, none⟩) (n + 2) cq, .slice (some ⟨gc, 0, none⟩) (n + 64) cc, .int .i64 (np : Int)] 142)).drew) (Bad f (fun g => X g ∧ (Value.slice va vk vc).ownBlock ≠ some g) vb (.slice ao np cb)) i v v1 v2 v3) := ⟨ho, he⟩
  clear ho he HI1
  go_region_law (first | (refine step_append_lies _ rfl (.tmp 16) (.tmp 18) 78 rfl w0.heap.size 142 i0 _ 5 104 und_Packets hi hz0 hz1 hz2 rfl (by decide) (.slice ao np cb) np xs rfl ?_ ⟨w1.heap.size + 1, 0, none⟩ 1 1 [.slice va vk vc, .slice (some ⟨ga, 0, none⟩) (n + 1) ca, .slice (some ⟨gq, 0, none⟩) (n + 2) cq, .slice (some ⟨gc, 0, none⟩) (n + 64) cc, .int .i64 (np : Int)] rfl rfl ?_ ?_ (by decide) ?_ ?_ ?_ _ rfl ?_; exact HB.out.1; exact five_new _ _ (by simp) _ _ _ _ _ _; exact five_one _ _ _ _ _ _ _ _ _ _ _ _ _; (unfold maxLen; omega); omega; (simp; omega); intro g' cap' w3 hown' hgrow hat hlt'; obtain ⟨j4, jf⟩ := w_kept5 HA.out.1 hgrow; have HF : Hid (Inv w0 f (fun g => X g ∧ (Value.slice va vk vc).ownBlock ≠ some g) s t vb (.slice (some ⟨g', 0, none⟩) (np + 1) cap') nb (np + 1) (w3.setCell ⟨f.W, 5, none⟩ (.slice (some ⟨g', 0, none⟩) (np + 1) cap')) ∧ ∀ g, X g → (Value.slice va vk vc).ownBlock ≠ some g → (w3.setCell ⟨f.W, 5, none⟩ (.slice (some ⟨g', 0, none⟩) (np + 1) cap')).heap[g]? = w.heap[g]?) := ⟨HA.out.1.pushP HA.out.2.2.1 HB.out.1 HB.out.2 HA.out.2.1 hown' hgrow hat, x_kept5 HA.out.1 hgrow HA.out.2.2.2⟩; clear hown' hgrow hat hlt'))
  all_goals
    go_wp2
    go_end0
    exact ⟨rfl, _, HF.out⟩

end Go.Proofs.YtcgjliflnnklnaaGreat
