/-
  A step of the script: Feed of a scan.
-/
import Derived.Test.YtcgjliflnnklnaaGreatStepF
namespace Go.Proofs.YtcgjliflnnklnaaGreat
open Go.RowKit

def upd (s : Nat → Sc) (k : Nat) (x : Sc) : Nat → Sc := fun j => if j = k then x else s j

section
variable {w0 : World} {f : Fix} {X : Nat → Prop} {s t : Nat → Sc} {vb vp : Value} {nb np : Nat} {w w' : World}

theorem Inv.feedB {k : Nat} {s' : Sc} (hk : k < 2) (h : Inv w0 f X s t vb vp nb np w) (hg : w.grownBy w' (some (f.B k))) (hs : ScAt w' (f.B k) s') : Inv w0 f X (upd s k s') t vb vp nb np w' := by
  have hm : f.mem (f.B k) := .inr (.inr (.inr ⟨k, hk, .inl rfl⟩))
  have hkeep : ∀ g, g < w.heap.size → g ≠ f.B k → w'.heap[g]? = w.heap[g]? := fun g hl hne => hg.block g hl (fun e => hne (by injection e))
  have hkb : ∀ g, g < w.heap.size → ¬ Bad f X vb vp g → w'.heap[g]? = w.heap[g]? := fun g hl hB => hkeep g hl (fun e => hB (.inl (by rw [e]; exact hm)))
  refine ⟨h.bel.grown hg h.bel.size (fun j e => by injection e with e; subst e; exact h.lo _ hm), h.ap, h.lo, (hkeep _ h.wlt (h.ap.wb k hk).1).trans h.blk, ?_, ?_, ?_, ?_, ?_, ?_, h.vbm, h.vpm, h.xm⟩
  · intro j hj; rw [World.cell?_of_block (a := ⟨f.SB, j, none⟩) (hkeep f.SB (h.mlt _ (.inr (.inl rfl))) (h.ap.sb k hk).1)]; exact h.sb j hj
  · intro j hj; rw [World.cell?_of_block (a := ⟨f.RB, j, none⟩) (hkeep f.RB (h.mlt _ (.inr (.inr (.inl rfl)))) (h.ap.rb k hk).1)]; exact h.rb j hj
  · intro j hj
    unfold upd
    by_cases e : j = k
    · subst e; rw [if_pos rfl]; exact hs
    · rw [if_neg e]; exact (h.sc j hj).sameBlock (hkeep _ (h.sc j hj).lt (fun q => e (h.ap.bb j k hj hk q)))
  · intro j hj; exact (h.rs j hj).sameBlock (hkeep _ (h.rs j hj).cells.lt (fun q => h.ap.br k j hk hj q.symm))
  · exact h.bk.kept (fun g hg' => hkeep g (h.bk.vlt hg').2 (fun e => (h.vbm g hg').1 (by rw [e]; exact hm))) hkb (fun _ _ q => q)
  · exact h.pk.kept (fun g hg' => hkeep g (h.pk.vlt hg').2 (fun e => (h.vpm g hg').1 (by rw [e]; exact hm))) hkb (fun _ _ q => q)

theorem Inv.feedR {k : Nat} {s' : Sc} (hk : k < 2) (h : Inv w0 f X s t vb vp nb np w) (hg : w.grownBy w' (some (f.R k))) (hs : RsAt w' (f.R k) s') : Inv w0 f X s (upd t k s') vb vp nb np w' := by
  have hm : f.mem (f.R k) := .inr (.inr (.inr ⟨k, hk, .inr rfl⟩))
  have hkeep : ∀ g, g < w.heap.size → g ≠ f.R k → w'.heap[g]? = w.heap[g]? := fun g hl hne => hg.block g hl (fun e => hne (by injection e))
  have hkb : ∀ g, g < w.heap.size → ¬ Bad f X vb vp g → w'.heap[g]? = w.heap[g]? := fun g hl hB => hkeep g hl (fun e => hB (.inl (by rw [e]; exact hm)))
  refine ⟨h.bel.grown hg h.bel.size (fun j e => by injection e with e; subst e; exact h.lo _ hm), h.ap, h.lo, (hkeep _ h.wlt (h.ap.wb k hk).2).trans h.blk, ?_, ?_, ?_, ?_, ?_, ?_, h.vbm, h.vpm, h.xm⟩
  · intro j hj; rw [World.cell?_of_block (a := ⟨f.SB, j, none⟩) (hkeep f.SB (h.mlt _ (.inr (.inl rfl))) (h.ap.sb k hk).2)]; exact h.sb j hj
  · intro j hj; rw [World.cell?_of_block (a := ⟨f.RB, j, none⟩) (hkeep f.RB (h.mlt _ (.inr (.inr (.inl rfl)))) (h.ap.rb k hk).2)]; exact h.rb j hj
  · intro j hj; exact (h.sc j hj).sameBlock (hkeep _ (h.sc j hj).lt (fun q => h.ap.br j k hj hk q))
  · intro j hj
    unfold upd
    by_cases e : j = k
    · subst e; rw [if_pos rfl]; exact hs
    · rw [if_neg e]; exact (h.rs j hj).sameBlock (hkeep _ (h.rs j hj).cells.lt (fun q => e (h.ap.rr j k hj hk q)))
  · exact h.bk.kept (fun g hg' => hkeep g (h.bk.vlt hg').2 (fun e => (h.vbm g hg').1 (by rw [e]; exact hm))) hkb (fun _ _ q => q)
  · exact h.pk.kept (fun g hg' => hkeep g (h.pk.vlt hg').2 (fun e => (h.vpm g hg').1 (by rw [e]; exact hm))) hkb (fun _ _ q => q)
end

theorem scanFeed_n (B bb off cap n : Nat) (s : Sc) (l : List UInt8) (w : World) (hn : l.length = n) (hs : ScAt w B s) (hl : l.length ≤ 140737488355328) (hB : BytesAt w bb off l) (hne : bb ≠ B) (hmax : (feedP s l).length ≤ 4194304) :
    Calls Tryz.prog 71 #[.pointer (some ⟨B, 0, none⟩), .slice (some ⟨bb, off, none⟩) n cap] w fun e w' => ∃ v, e = .returned v ∧ Fed B w w' v (feedS s l) (feedP s l) := by
  subst hn; exact scanFeed_any B bb off cap s l w hs hl hB hne hmax
theorem refFeed_n (R bb off cap n : Nat) (s : Sc) (l : List UInt8) (w : World) (hn : l.length = n) (hs : RsAt w R s) (hl : l.length ≤ 140737488355328) (hcap : l.length ≤ cap) (hB : BytesAt w bb off l) (hne : bb ≠ R) (hmax : (feedP s l).length ≤ 4194304) :
    Calls Tryz.prog 73 #[.pointer (some ⟨R, 0, none⟩), .slice (some ⟨bb, off, none⟩) n cap] w fun e w' => ∃ v, e = .returned v ∧ FedR R w w' v (feedS s l) (feedP s l) := by
  subst hn; exact refFeed_any R bb off cap s l w hs hl hcap hB hne hmax

theorem lent_kept {w w' : World} {g b : Nat} {l : List UInt8} (h : LentAt w g l) (hg : w.grownBy w' (some b)) (hne : g ≠ b) : LentAt w' g l := by
  have hb := hg.block g h.row.lt (fun e => hne (by injection e))
  obtain ⟨cur, r1, r2⟩ := h.row
  exact ⟨⟨cur, hb.trans r1, r2⟩, fun i hi => by rw [World.cell?_of_block (a := ⟨g, 0 + i, none⟩) hb]; exact h.bytes i hi, fun i hi => by rw [World.cell?_of_block (a := ⟨g, l.length + i, none⟩) hb]; exact h.spare i hi⟩

theorem ne_some {a b : Nat} (h : b < a) : some (⟨a, 3, none⟩ : Addr).block ≠ some b := by intro e; injection e with e; simp only at e; omega

theorem feedP_le (s : Sc) (l : List UInt8) : (feedP s l).length ≤ l.length := by
  induction l generalizing s with
  | nil => simp [feedP]
  | cons c r ih =>
    have := ih (s.step c)
    simp only [feedP, List.length_append, List.length_cons]
    split <;> simp <;> omega

def pkI (c n : Int) : Int := if c < 0 then -(c + 1).tmod n else c % n

theorem pkI_2 (c : Int) : ∃ k : Nat, k < 2 ∧ pkI c 2 = (k : Int) := by
  unfold pkI
  split
  · have := pick_lt c 2 (by omega) (by assumption)
    exact ⟨(-(c + 1).tmod 2).toNat, by omega, by omega⟩
  · exact ⟨(c % 2).toNat, by omega, by omega⟩

set_option maxRecDepth 100000 in
set_option maxHeartbeats 400000 in
theorem pick_det (c : Int) (w : World) (hc1 : -9223372036854775808 ≤ c) (hc2 : c ≤ 9223372036854775807) :
    Calls Tryz.prog 43 #[.int .i64 c, .int .i64 2] w fun e w' => e = .returned (.int .i64 (pkI c 2)) ∧ w' = w := by
  go_enter Tryz.func43, Tryz.ntmps43
  go_wp2
  all_goals go_ret
  · have hc : c < 0 := by assumption
    exact ⟨ret_int (by unfold pkI; rw [if_pos hc]), rfl⟩
  · have hc : 0 ≤ c := by assumption
    exact ⟨ret_int (by unfold pkI; rw [if_neg (by omega)]), rfl⟩

set_option maxRecDepth 100000 in
set_option maxHeartbeats 1000000 in
theorem scan_lent (w0 : World) (f : Fix) (s : Nat → Sc) (vb vp : Value) (nb np : Nat) (w : World) (k a b : Int) (S : ByteArray) (n q : Bool) (ca : Option Addr) (cl cc : Nat) (rom : Int)
    (h : Inv w0 f No s s vb vp nb np w) (hnp : np ≤ 9000000) (hS : S.size ≤ 4000000) (ha1 : -9223372036854775808 ≤ a) (ha2 : a ≤ 9223372036854775807) (hn : ¬ (S.size = 0 ∧ (b.tmod 2 != 0) = true)) :
    Calls Tryz.prog 45 #[.pointer (some ⟨f.W, 0, none⟩), .agg #[.int .i64 k, .int .i64 a, .int .i64 b, .string S, .bool n, .bool q, .slice ca cl cc, .int .i64 rom]] w fun e w' => e = .returned (.bool true) ∧ ∃ s' vp', Inv w0 f No s' s' vb vp' nb (np + 1) w' := by
  have HI : Hid (Inv w0 f No s s vb vp nb np w) := h
  have c2 := h.cell.1
  have c3 := h.cell.2.1
  have hWl := h.wlt
  have HBw : Hid (∀ j, j < 2 → f.B j < w.heap.size ∧ f.R j < w.heap.size) := fun j hj => ⟨(h.sc j hj).lt, (h.rs j hj).cells.lt⟩
  clear h
  go_enter Tryz.func45, Tryz.ntmps45
  go_wp2_with fail
  go_quiet ((go_at_call 43; exact Calls.quiet_of_same (pick_det a _ ha1 ha2)))
  obtain ⟨j, hj, hje⟩ := pkI_2 a
  rw [hje]
  clear hje ha1 ha2
  have HW : Hid (Below w.heap.size w ((w.alloc (.cells #[.int .i64 k, .int .i64 a, .int .i64 b, .string S, .bool n, .bool q, .slice ca cl cc, .int .i64 rom] 29)).drewN nq)) := below_drewN ((Below.refl _ _).alloc (Nat.le_refl _) _) nq
  have x2 : ((w.alloc (.cells #[.int .i64 k, .int .i64 a, .int .i64 b, .string S, .bool n, .bool q, .slice ca cl cc, .int .i64 rom] 29)).drewN nq).cell? ⟨w.heap.size, 2, none⟩ = some (.int .i64 b) := World.cell?_alloc_at _ _ _ _ rfl
  have x3 : ((w.alloc (.cells #[.int .i64 k, .int .i64 a, .int .i64 b, .string S, .bool n, .bool q, .slice ca cl cc, .int .i64 rom] 29)).drewN nq).cell? ⟨w.heap.size, 3, none⟩ = some (.string S) := World.cell?_alloc_at _ _ _ _ rfl
  generalize (w.alloc (.cells #[.int .i64 k, .int .i64 a, .int .i64 b, .string S, .bool n, .bool q, .slice ca cl cc, .int .i64 rom] 29)).drewN nq = w1 at *
  have HI1 : Hid (Inv w0 f No s s vb vp nb np w1) := HI.out.below HW.out
  clear c2 c3 hWl HI
  go_wp2_with fail
  refine (lent_any S _ _ (by omega) hn).mono ?_
  rintro e w2 ⟨rfl, hL, hb2⟩
  have HI2 : Hid (Inv w0 f (fun g => w1.heap.size ≤ g) s s vb vp nb np w2) := (HI1.out.fresh hb2).lessX (fun g q => .inr q)
  have HL : Hid (LentAt w2 w1.heap.size S.data.toList ∧ Below w1.heap.size w1 w2) := ⟨hL, hb2⟩
  have y2 := cell_later hb2 x2
  have y3 := cell_later hb2 x3
  have c2 := HI2.out.cell.1
  have d2 := HI2.out.sb j hj
  have hjI : (j : Int) < 2 := by omega
  have hlen : S.data.toList.length = S.size := by simp
  have HBl : Hid (f.B j < w.heap.size ∧ f.R j < w.heap.size ∧ w.heap.size < w1.heap.size) := ⟨(HBw.out j hj).1, (HBw.out j hj).2, World.block_lt_of_cell? w1 ⟨w.heap.size, 3, none⟩ x3⟩
  have HPL : Hid (∀ s : Sc, (feedP s S.data.toList).length ≤ 4194304) := fun s => by have := feedP_le s S.data.toList; omega
  clear hL hb2 x2 x3 hn
  go_wp2_with fail
  refine (scanFeed_n (f.B j) w1.heap.size 0 _ S.size (s j) S.data.toList _ hlen (HI2.out.sc j hj) (by omega) HL.out.1.bytes (by have := HBl.out; omega) (HPL.out _)).mono ?_
  rintro e w3 ⟨va, rfl, hF⟩
  have HI3 : Hid (Inv w0 f (fun g => w1.heap.size ≤ g) (upd s j (feedS (s j) S.data.toList)) s vb vp nb np w3) := HI2.out.feedB hj hF.grown hF.sc
  have HF : Hid (Fed (f.B j) w2 w3 va (feedS (s j) S.data.toList) (feedP (s j) S.data.toList)) := hF
  have z3 := hF.grown.cell y3 (by have := HBl.out; simp; omega)
  have HL3 : Hid (LentAt w3 w1.heap.size S.data.toList) := lent_kept HL.out.1 hF.grown (by have := HBl.out; omega)
  clear hF c2 d2 y2 y3
  obtain ⟨ra, rk, rc, hva⟩ : ∃ a n c, va = .slice a n c := by
    rcases own3_cases HF.out.own with ⟨_, e⟩ | ⟨g, c, e⟩
    · exact ⟨_, _, _, e⟩
    · exact ⟨_, _, _, e⟩
  subst hva
  go_wp2_with fail
  refine (back_any S w1.heap.size _ (by omega) HL3.out).mono ?_
  rintro e w4 ⟨rfl, hg4, hs4⟩
  have HI4 : Hid (Inv w0 f (fun g => w1.heap.size ≤ g) (upd s j (feedS (s j) S.data.toList)) s vb vp nb np w4) := HI3.out.inX hg4 (Nat.le_refl _)
  have HV4 : Hid (w4.ownsRow w2.heap.size 152 3 (.slice ra rk rc) (feedP (s j) S.data.toList).length (pvals (feedP (s j) S.data.toList)) ∧ w2.heap.size ≤ w4.heap.size ∧ w1.heap.size < w2.heap.size) := by
    refine ⟨HF.out.own.kept hg4 ?_, by rw [hs4]; exact HF.out.grown.size, HL.out.1.row.lt⟩
    cases hv : (Value.slice ra rk rc).ownBlock with
    | none => exact .inl rfl
    | some g => refine .inr (fun e => ?_); injection e with e; have h1 := (HF.out.own.lt g hv).1; have h2 := HL.out.1.row.lt; omega
  have v3 := hg4.cell z3 (by have := HBl.out; simp; omega)
  have c3 := HI4.out.cell.2.1
  have d3 := HI4.out.rb j hj
  have hby := to_bytes
  have n1 := World.new_ne w4 _ v3
  have n2 := World.new_ne w4 _ c3
  have n3 := World.new_ne w4 _ d3
  clear hg4 hs4 z3 HI3 HL3 HI2 HL HI1
  go_wp2_with fail
  go_region_held (fun w' => w'.cell? ⟨f.W, 3, none⟩ = some (.slice (some ⟨f.RB, 0, none⟩) 2 f.cr) ∧ w'.cell? ⟨f.RB, j, none⟩ = some (.pointer (some ⟨f.R j, 0, none⟩)) ∧ w'.cell? ⟨w.heap.size, 3, none⟩ = some (.string S)) (go_keep) (first | (go_at_call 73; go_must (refine (refFeed_n (f.R j) w4.heap.size 0 _ S.size (s j) S.data.toList _ hlen ?_ ?_ ?_ ?_ ?_ (HPL.out _)).mono ?_; exact (HI4.out.rs j hj).sameBlock (Below.heap_alloc _ _ _ (HI4.out.rs j hj).cells.lt); omega; (rw [hlen]; exact grownCap_ge _ _ _ _); exact bytes_new w4.drew S _ _; (have h1 := HBl.out; have h2 := HV4.out.2; omega); rintro e w5 ⟨vr, rfl, hFR⟩; have HI5 : Hid (Inv w0 f (fun g => w1.heap.size ≤ g) (upd s j (feedS (s j) S.data.toList)) (upd s j (feedS (s j) S.data.toList)) vb vp nb np w5 ∧ FedR (f.R j) _ w5 vr (feedS (s j) S.data.toList) (feedP (s j) S.data.toList)) := ⟨(HI4.out.below ((((Below.refl w4.heap.size w4).alloc (Nat.le_refl _) _).drew).drew)).feedR hj hFR.grown hFR.sc, hFR⟩; have k1 := HI5.out.1.cell.2.1; have k2 := HI5.out.1.rb j hj; have k3 := hFR.grown.cell (cell_later ((((Below.refl w4.heap.size w4).alloc (Nat.le_refl _) _).drew).drew) v3) (ne_some HBl.out.2.1))))
  have HV5 : Hid (w5.ownsRow w2.heap.size 152 3 (.slice ra rk rc) (feedP (s j) S.data.toList).length (pvals (feedP (s j) S.data.toList))) := by
    refine (((HV4.out.1.alloc _).drew).drew).kept hFR.grown ?_
    cases hv : (Value.slice ra rk rc).ownBlock with
    | none => exact .inl rfl
    | some g => refine .inr (fun e => ?_); injection e with e; have h1 := (HV4.out.1.lt g hv).1; have h2 := HV4.out.2; have h3 := HBl.out; omega
  have HN : Hid ((feedP (s j) S.data.toList = [] → (Value.slice ra rk rc) = .slice none 0 0) ∧ (feedP (s j) S.data.toList = [] → vr = .slice none 0 0)) := ⟨HF.out.nil, hFR.nil⟩
  have HW12 : Hid (w1.heap.size < w2.heap.size) := HV4.out.2.2
  obtain ⟨ta, tk, tc, hvr⟩ : ∃ a n c, vr = .slice a n c := by
    rcases own3_cases hFR.own with ⟨_, e⟩ | ⟨g, c, e⟩
    · exact ⟨_, _, _, e⟩
    · exact ⟨_, _, _, e⟩
  subst hvr
  clear hFR k1 k2 k3 HV4 HI4 HF v3 c3 d3 n1 n2 n3 hby
  have HPs := HPL.out (s j)
  go_wp2_with fail
  refine (same_any w2.heap.size _ (.slice ra rk rc) (.slice ta tk tc) (feedP (s j) S.data.toList) _ HPs HV5.out HI5.out.2.own HN.out.1 HN.out.2).mono ?_
  rintro e w6 ⟨rfl, nn, hw6⟩
  have HI6 : Hid (Inv w0 f (fun g => w1.heap.size ≤ g ∧ g < w6.heap.size) (upd s j (feedS (s j) S.data.toList)) (upd s j (feedS (s j) S.data.toList)) vb vp nb np w6 ∧ Out 152 3 w6 (fun g => w1.heap.size ≤ g ∧ g < w6.heap.size) (.slice ra rk rc) (feedP (s j) S.data.toList).length) := by
    rw [hw6]
    refine ⟨(HI5.out.1.below (below_drewN (Below.refl _ _) nn)).lessX (fun g q => q.1), ?_⟩
    rcases own3_cases HV5.out with ⟨h0, e⟩ | ⟨g, c, e⟩
    · exact .inl ⟨e, h0⟩
    · have hV := HV5.out
      rw [e] at hV
      obtain ⟨r1, r2, r3⟩ := row_own hV
      have h12 := HW12.out
      exact .inr ⟨g, c, e, r2, r1, by omega, r1.lt⟩
  clear hw6 HI5 HV5 HN
  go_wp2_with fail
  refine (packet_bk w0 f _ _ _ vb vp nb np (feedP (s j) S.data.toList).length (.slice ra rk rc) _ HI6.out.1 (fun g q => q.2) HI6.out.2 (by omega) (by omega)).mono ?_
  rintro e w7 ⟨rfl, vp', hI7, _⟩
  have HI7 : Hid (Inv w0 f No (upd s j (feedS (s j) S.data.toList)) (upd s j (feedS (s j) S.data.toList)) vb vp' nb (np + 1) w7) := hI7.lessNo
  clear hI7 HI6
  go_wp2
  go_ret
  exact ⟨by simp, _, vp', HI7.out⟩

end Go.Proofs.YtcgjliflnnklnaaGreat
