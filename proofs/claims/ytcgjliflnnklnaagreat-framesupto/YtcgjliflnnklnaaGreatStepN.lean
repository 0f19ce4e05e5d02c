/-
  A step of the script: Feed of a scan, of nothing.
-/
import Derived.Test.YtcgjliflnnklnaaGreatStepS
namespace Go.Proofs.YtcgjliflnnklnaaGreat
open Go.RowKit

set_option maxRecDepth 100000 in
set_option maxHeartbeats 1000000 in
theorem scan_nil (w0 : World) (f : Fix) (s : Nat → Sc) (vb vp : Value) (nb np : Nat) (w : World) (k a b : Int) (n q : Bool) (ca : Option Addr) (cl cc : Nat) (rom : Int)
    (h : Inv w0 f No s s vb vp nb np w) (hnp : np ≤ 9000000) (ha1 : -9223372036854775808 ≤ a) (ha2 : a ≤ 9223372036854775807) (hn : (b.tmod 2 != 0) = true) :
    Calls Tryz.prog 45 #[.pointer (some ⟨f.W, 0, none⟩), .agg #[.int .i64 k, .int .i64 a, .int .i64 b, .string ⟨#[]⟩, .bool n, .bool q, .slice ca cl cc, .int .i64 rom]] w fun e w' => e = .returned (.bool true) ∧ ∃ s' vp', Inv w0 f No s' s' vb vp' nb (np + 1) w' := by
  have HI : Hid (Inv w0 f No s s vb vp nb np w) := h
  have c2 := h.cell.1
  have hWl := h.wlt
  have HBw : Hid (∀ j, j < 2 → f.B j < w.heap.size ∧ f.R j < w.heap.size) := fun j hj => ⟨(h.sc j hj).lt, (h.rs j hj).cells.lt⟩
  have HN : Hid ((b.tmod 2 != 0) = true) := hn
  clear h hn
  go_enter Tryz.func45, Tryz.ntmps45
  go_wp2_with fail
  go_quiet ((go_at_call 43; exact Calls.quiet_of_same (pick_det a _ ha1 ha2)))
  obtain ⟨j, hj, hje⟩ := pkI_2 a
  rw [hje]
  clear hje ha1 ha2
  have HW : Hid (Below w.heap.size w ((w.alloc (.cells #[.int .i64 k, .int .i64 a, .int .i64 b, .string ⟨#[]⟩, .bool n, .bool q, .slice ca cl cc, .int .i64 rom] 29)).drewN nq)) := below_drewN ((Below.refl _ _).alloc (Nat.le_refl _) _) nq
  have x2 : ((w.alloc (.cells #[.int .i64 k, .int .i64 a, .int .i64 b, .string ⟨#[]⟩, .bool n, .bool q, .slice ca cl cc, .int .i64 rom] 29)).drewN nq).cell? ⟨w.heap.size, 2, none⟩ = some (.int .i64 b) := World.cell?_alloc_at _ _ _ _ rfl
  have x3 : ((w.alloc (.cells #[.int .i64 k, .int .i64 a, .int .i64 b, .string ⟨#[]⟩, .bool n, .bool q, .slice ca cl cc, .int .i64 rom] 29)).drewN nq).cell? ⟨w.heap.size, 3, none⟩ = some (.string ⟨#[]⟩) := World.cell?_alloc_at _ _ _ _ rfl
  generalize (w.alloc (.cells #[.int .i64 k, .int .i64 a, .int .i64 b, .string ⟨#[]⟩, .bool n, .bool q, .slice ca cl cc, .int .i64 rom] 29)).drewN nq = w1 at *
  have HI1 : Hid (Inv w0 f No s s vb vp nb np w1) := HI.out.below HW.out
  clear c2 hWl HI
  go_wp2_with fail
  rw [HN.out]
  refine (lent_nil _).mono ?_
  rintro e wx ⟨rfl, hw⟩
  subst wx
  have c2 := HI1.out.cell.1
  have d2 := HI1.out.sb j hj
  have c3 := HI1.out.cell.2.1
  have d3 := HI1.out.rb j hj
  have hjI : (j : Int) < 2 := by omega
  go_wp2_with fail
  refine (scanFeed_nil (f.B j) _).mono ?_
  rintro e wx ⟨rfl, hw⟩
  subst wx
  go_wp2_with fail
  refine (back_nil _).mono ?_
  rintro e wx ⟨rfl, hw⟩
  subst wx
  have hby := to_bytes
  have n1 := World.new_ne w1 _ x3
  have n2 := World.new_ne w1 _ c3
  have n3 := World.new_ne w1 _ d3
  have HRl : Hid (f.R j < w1.heap.size ∧ f.R j < w.heap.size) := ⟨(HI1.out.rs j hj).cells.lt, (HBw.out j hj).2⟩
  clear c2 d2 x2
  go_wp2_with fail
  go_region_held (fun w' => w'.cell? ⟨f.W, 3, none⟩ = some (.slice (some ⟨f.RB, 0, none⟩) 2 f.cr) ∧ w'.cell? ⟨f.RB, j, none⟩ = some (.pointer (some ⟨f.R j, 0, none⟩)) ∧ w'.cell? ⟨w.heap.size, 3, none⟩ = some (.string ⟨#[]⟩)) (go_keep) (first | (go_at_call 73; go_must (refine (refFeed_n (f.R j) w1.heap.size 0 _ 0 (s j) [] _ rfl ?_ ?_ ?_ ?_ ?_ ?_).mono ?_; exact (HI1.out.rs j hj).sameBlock (Below.heap_alloc _ _ _ (HI1.out.rs j hj).cells.lt); simp; simp; (intro i hi; simp at hi); (have h1 := HRl.out; omega); simp [feedP]; rintro e w5 ⟨vr, rfl, hFR⟩; have HI5 : Hid (Inv w0 f No s (upd s j (s j)) vb vp nb np w5 ∧ FedR (f.R j) _ w5 vr (s j) []) := ⟨(HI1.out.below ((((Below.refl w1.heap.size w1).alloc (Nat.le_refl _) _).drew).drew)).feedR hj hFR.grown hFR.sc, hFR⟩; have k1 := HI5.out.1.cell.2.1; have k2 := HI5.out.1.rb j hj; have k3 := hFR.grown.cell (cell_later ((((Below.refl w1.heap.size w1).alloc (Nat.le_refl _) _).drew).drew) x3) (ne_some HRl.out.2))))
  have hupd : upd s j (s j) = s := by funext i; unfold upd; split <;> simp_all
  rw [hupd] at HI5
  obtain rfl := hFR.nil rfl
  clear hFR k1 k2 k3 x3 c3 d3 n1 n2 n3 hby hupd HI1
  go_wp2_with fail
  refine (same_any 0 0 (.slice none 0 0) (.slice none 0 0) [] _ (by simp) (World.ownsRow_nil _ _ _ _) (World.ownsRow_nil _ _ _ _) (fun _ => rfl) (fun _ => rfl)).mono ?_
  rintro e w6 ⟨rfl, nn, hw6⟩
  have HI6 : Hid (Inv w0 f No s s vb vp nb np w6) := by rw [hw6]; exact HI5.out.1.below (below_drewN (Below.refl _ _) nn)
  clear hw6 HI5
  go_wp2_with fail
  refine (packet_bk w0 f No s s vb vp nb np 0 (.slice none 0 0) _ HI6.out (fun _ q => q.elim) (.inl ⟨rfl, rfl⟩) (by omega) (by omega)).mono ?_
  rintro e w7 ⟨rfl, vp', hI7, _⟩
  have HI7 : Hid (Inv w0 f No s s vb vp' nb (np + 1) w7) := hI7.lessNo
  clear hI7 HI6
  go_wp2
  go_ret
  exact ⟨by simp, _, vp', HI7.out⟩

end Go.Proofs.YtcgjliflnnklnaaGreat
