/-
  Branched holds.
-/
import Derived.Test.YtcgjliflnnklnaaGreatKpL0x
import Derived.Test.YtcgjliflnnklnaaGreatKpL1x
import Derived.Test.YtcgjliflnnklnaaGreatGA
namespace Go.Proofs.YtcgjliflnnklnaaGreat
open Go.RowKit

/-- A row of 300 bytes, of which the first k are 2. -/
structure Fm (w : World) (L k : Nat) : Prop where
  c : ∀ j, j < 300 → w.cell? ⟨L, j, none⟩ = some (.int .u8 (if j < k then 2 else 0))
  f : ∀ j, w.frozen? ⟨L, j, none⟩ = false
theorem Fm.set {w : World} {L k : Nat} (h : Fm w L k) (hk : k < 300) : Fm (w.setCell ⟨L, k, none⟩ (.int .u8 2)) L (k + 1) := by
  refine ⟨fun j hj => ?_, fun j => by rw [World.frozen?_setCell]; exact h.f j⟩
  by_cases e : j = k
  · subst e; rw [World.cell?_setCell_same _ _ _ (h.c j hj), if_pos (by omega)]
  · rw [World.cell?_setCell_other _ _ _ _ (cp_addr _ _ _ (fun x => e x.symm)), h.c j hj]
    by_cases q : j < k
    · rw [if_pos q, if_pos (by omega)]
    · rw [if_neg q, if_neg (by omega)]
theorem mk300 (w : World) : (Instr.makeSlice 35 (.int .i64 300) (.int .i64 300)).run Tryz.prog w = .ok (.slice (some ⟨w.heap.size, 0, none⟩) 300 300) (w.alloc (.cells (Array.replicate 300 (.int .u8 0)) 5)) := by kernel_rfl
theorem Fm.new (w : World) : Fm (w.alloc (.cells (Array.replicate 300 (.int .u8 0)) 5)) w.heap.size 0 :=
  ⟨fun j hj => by rw [World.cell?_alloc_at _ _ _ _ rfl, if_neg (by omega)]; simp [hj], fun j => World.frozen?_alloc_at _ _ _ _ rfl⟩

theorem brCode_at (op d : UInt8) (j : Nat) (hj : j < 300) : (brCode op d)[j]? = some (if j = 150 then 40 else if j = 151 then op else if j = 152 then d else 2) := by
  unfold brCode
  by_cases h : j < 150
  · rw [List.append_assoc, List.getElem?_append_left (by simpa using h), List.getElem?_replicate, if_pos h, if_neg (by omega), if_neg (by omega), if_neg (by omega)]
  · by_cases h2 : j < 153
    · rw [List.append_assoc, List.getElem?_append_right (by simp; omega), List.getElem?_append_left (by simp; omega)]
      rcases (show j = 150 ∨ j = 151 ∨ j = 152 from by omega) with rfl | rfl | rfl <;> simp
    · rw [List.getElem?_append_right (by simp; omega), List.getElem?_replicate, if_pos (by simp; omega), if_neg (by omega), if_neg (by omega), if_neg (by omega)]

/-- The row when three of its bytes are set. -/
theorem Fm.code {w : World} {L : Nat} (h : Fm w L 300) (op d : UInt8) : BytesAt (((w.setCell ⟨L, 150, none⟩ (.int .u8 40)).setCell ⟨L, 151, none⟩ (.int .u8 (op.toNat : Int))).setCell ⟨L, 152, none⟩ (.int .u8 (d.toNat : Int))) L 0 (brCode op d) := by
  intro j hj
  have hj' : j < 300 := by have : (brCode op d).length = 300 := by unfold brCode; rw [List.length_append, List.length_append, List.length_replicate, List.length_replicate]; rfl
                           omega
  have hv := brCode_at op d j hj'
  rw [List.getElem?_eq_getElem hj] at hv
  injection hv with hv
  rw [Nat.zero_add, hv]
  have hw := h.c j hj'
  rw [if_pos hj'] at hw
  by_cases e2 : j = 152
  · subst e2
    have q : ((w.setCell ⟨L, 150, none⟩ (.int .u8 40)).setCell ⟨L, 151, none⟩ (.int .u8 (op.toNat : Int))).cell? ⟨L, 152, none⟩ = some (.int .u8 2) := by
      rw [World.cell?_setCell_other _ _ _ _ (cp_addr _ _ _ (by decide)), World.cell?_setCell_other _ _ _ _ (cp_addr _ _ _ (by decide))]; exact hw
    rw [World.cell?_setCell_same _ _ _ q]
    rfl
  · rw [World.cell?_setCell_other _ _ _ _ (cp_addr _ _ _ (fun x => e2 x.symm))]
    by_cases e1 : j = 151
    · subst e1
      have q : (w.setCell ⟨L, 150, none⟩ (.int .u8 40)).cell? ⟨L, 151, none⟩ = some (.int .u8 2) := by
        rw [World.cell?_setCell_other _ _ _ _ (cp_addr _ _ _ (by decide))]; exact hw
      rw [World.cell?_setCell_same _ _ _ q]
      rfl
    · rw [World.cell?_setCell_other _ _ _ _ (cp_addr _ _ _ (fun x => e1 x.symm))]
      by_cases e0 : j = 150
      · subst e0; rw [World.cell?_setCell_same _ _ _ hw]; rfl
      · rw [World.cell?_setCell_other _ _ _ _ (cp_addr _ _ _ (fun x => e0 x.symm)), hw, if_neg e0, if_neg e1, if_neg e2]; rfl

theorem Fm.lt {w : World} {L k : Nat} (h : Fm w L k) : L < w.heap.size := lt_of_cell (o := 0) (by rw [h.c 0 (by decide)]; simp)
theorem br_valid (op d p : UInt8) (v1 v2 v3 : Value) : validI 0 (brCs op d p v1 v2 v3) = true := by
  have : (brCode op d).length = 300 := by unfold brCode; rw [List.length_append, List.length_append, List.length_replicate, List.length_replicate]; rfl
  unfold validI brCs total okChn
  simp [this]

/-- The branch's computer made. -/
theorem br_new (W : World) (L : Nat) (op d p : UInt8) (pI : Int) (hp : (p.toNat : Int) = pI) (hL : L < W.heap.size) (hB : BytesAt W L 0 (brCode op d)) :
    Calls Tryz.prog 22 #[.agg #[.slice (some ⟨W.heap.size + 1 + 1, 0, none⟩) 3 3, .int .i64 0]] (((W.alloc (.cells #[.int .u8 pI] 5)).alloc (.cells #[.int .u8 150, .int .u8 4] 5)).alloc (.cells #[.int .i64 1024, .slice (some ⟨L, 0, none⟩) 300 300, .int .i64 510, .slice (some ⟨W.heap.size, 0, none⟩) 1 1, .int .i64 65532, .slice (some ⟨W.heap.size + 1, 0, none⟩) 2 2] 51))
      fun e w' => ∃ B R, W.heap.size ≤ B ∧ e = .returned (.tuple #[.pointer (some ⟨B, 0, none⟩), .int .i64 0]) ∧ CAt w' B (brPC op d p (.slice (some ⟨L, 0, none⟩) 300 300) (.slice (some ⟨W.heap.size, 0, none⟩) 1 1) (.slice (some ⟨W.heap.size + 1, 0, none⟩) 2 2) R) ∧ Below W.heap.size W w' := by
  subst hp
  have hlen : (brCode op d).length = 300 := by unfold brCode; rw [List.length_append, List.length_append, List.length_replicate, List.length_replicate]; rfl
  have hb3 : ∀ o1 o2 o3, Below W.heap.size W (((W.alloc o1).alloc o2).alloc o3) := fun o1 o2 o3 => (((Below.refl _ _).alloc (Nat.le_refl _) _).alloc (by simp) _).alloc (by simp; omega) _
  have NW := new_ok (W.heap.size + 3) (.slice (some ⟨W.heap.size + 1 + 1, 0, none⟩) 3 3) (brCs op d p (.slice (some ⟨L, 0, none⟩) 300 300) (.slice (some ⟨W.heap.size, 0, none⟩) 1 1) (.slice (some ⟨W.heap.size + 1, 0, none⟩) 2 2)) 0
    (((W.alloc (.cells #[.int .u8 (p.toNat : Int)] 5)).alloc (.cells #[.int .u8 150, .int .u8 4] 5)).alloc (.cells #[.int .i64 1024, .slice (some ⟨L, 0, none⟩) 300 300, .int .i64 510, .slice (some ⟨W.heap.size, 0, none⟩) 1 1, .int .i64 65532, .slice (some ⟨W.heap.size + 1, 0, none⟩) 2 2] 51))
    (by simp) (by
      refine ⟨_, _, rfl, fun _ => ⟨W.heap.size + 1 + 1, 0, rfl, by omega, fun i hi => ?_⟩⟩
      have hc : ∀ (o1 o2 : Obj) (cs : Array Value) (t : TypeId) j, (((W.alloc o1).alloc o2).alloc (.cells cs t)).cell? ⟨W.heap.size + 1 + 1, j, none⟩ = cs[j]? := fun o1 o2 cs t j => by
        have hs : ((W.alloc o1).alloc o2).heap.size = W.heap.size + 1 + 1 := by simp
        rw [← hs]; exact World.cell?_alloc_at _ _ _ _ rfl
      have hi3 : i < 3 := hi
      rcases (show i = 0 ∨ i = 1 ∨ i = 2 from by omega) with rfl | rfl | rfl
      · refine ⟨hc _ _ _ _ _, hc _ _ _ _ _, ⟨_, _, by show Value.slice _ 300 300 = .slice _ (brCode op d).length _; rw [hlen], fun _ => ⟨L, 0, rfl, by omega, bytes_below hB (hb3 _ _ _) hL⟩⟩⟩
      · exact ⟨hc _ _ _ _ _, hc _ _ _ _ _, ⟨_, _, rfl, fun _ => ⟨W.heap.size, 0, rfl, by omega, bytes_alloc (bytes_alloc (bytes_lit W [p] 5) (by simp) _) (by simp; omega) _⟩⟩⟩
      · refine ⟨hc _ _ _ _ _, hc _ _ _ _ _, ⟨_, _, rfl, fun _ => ⟨W.heap.size + 1, 0, rfl, by omega, ?_⟩⟩⟩
        have q := bytes_lit (W.alloc (.cells #[.int .u8 (p.toNat : Int)] 5)) [150, 4] 5
        rw [World.size_alloc] at q
        exact bytes_alloc q (by simp) _)
    (br_valid _ _ _ _ _ _) (by show 3 ≤ 140737488355328; decide) (by
      intro c hc
      unfold brCs at hc
      simp at hc
      rcases hc with rfl | rfl | rfl
      · show (brCode op d).length ≤ _; omega
      · show 1 ≤ 140737488355328; decide
      · show 2 ≤ 140737488355328; decide)
  refine NW.mono ?_
  rintro e w' ⟨B, R, hB', rfl, hC, hb⟩
  exact ⟨B, R, by simp at hB'; omega, rfl, hC, (hb3 _ _ _).trans (hb.mono (by simp; omega))⟩

theorem br_says (r : Nat) (hr : r < 8) (set : Bool) (d : UInt8) (v1 v2 v3 : Value) (R : Nat → Option Value) :
    runF (brN ((r % 2 == 1) == set) d.toNat + 5) (brPC (brOps.getD r 0) d (brP set) v1 v2 v3 R) = brEnd ((r % 2 == 1) == set) d.toNat := by
  have hd := d.toNat_lt
  have e : UInt8.ofNat d.toNat = d := by simp
  have hy : ∀ i, i < 8 → runF (brN true d.toNat + 5) (brPC (brOps.getD i 0) d (brP (i % 2 == 1)) v1 v2 v3 R) = brEnd true d.toNat := by
    intro i hi
    rcases (show i = 0 ∨ i = 1 ∨ i = 2 ∨ i = 3 ∨ i = 4 ∨ i = 5 ∨ i = 6 ∨ i = 7 from by omega) with rfl | rfl | rfl | rfl | rfl | rfl | rfl | rfl
    · have q := by_range (br_yes0 v1 v2 v3 R) d.toNat (by omega); simp only [e] at q; exact q
    · have q := by_range (br_yes1 v1 v2 v3 R) d.toNat (by omega); simp only [e] at q; exact q
    · have q := by_range (br_yes2 v1 v2 v3 R) d.toNat (by omega); simp only [e] at q; exact q
    · have q := by_range (br_yes3 v1 v2 v3 R) d.toNat (by omega); simp only [e] at q; exact q
    · have q := by_range (br_yes4 v1 v2 v3 R) d.toNat (by omega); simp only [e] at q; exact q
    · have q := by_range (br_yes5 v1 v2 v3 R) d.toNat (by omega); simp only [e] at q; exact q
    · have q := by_range (br_yes6 v1 v2 v3 R) d.toNat (by omega); simp only [e] at q; exact q
    · have q := by_range (br_yes7 v1 v2 v3 R) d.toNat (by omega); simp only [e] at q; exact q
  by_cases h : (r % 2 == 1) = set
  · rw [h, beq_self_eq_true]
    have q := hy r hr
    rw [h] at q
    exact q
  · have hs : set = (r % 2 == 0) := by
      rcases Nat.mod_two_eq_zero_or_one r with q | q <;> rw [q] at h ⊢ <;> cases set <;> simp_all
    have hf : ((r % 2 == 1) == set) = false := by simpa using h
    rw [hf, hs]
    exact br_no r hr d v1 v2 v3 R

def boolN : Value → Nat
  | .bool true => 1
  | _ => 0

/-- What is known of a branch's cycles. -/
structure BrK (S : PC) (m : Nat) (want : Int) : Prop where
  m2 : 2 ≤ m
  m4 : m ≤ 4
  ok : ∀ k, k < m + 5 → (S.runN k).st ≠ 5 ∧ WF (S.runN k)
  mid : ∀ k, 1 ≤ k → k < m → (cycV (S.runN (4 + k)) false false).2.1.ft = false
  fin : (cycV (S.runN (4 + m)) false false).2.1.ft = true
  pc : (S.runN (m + 5)).bpc = want
theorem BrK.of {S : PC} {m : Nat} {want : Int} (m2 : 2 ≤ m) (m4 : m ≤ 4) (h : runF (m + 5) S = some ([true, false, false, false, true] ++ List.replicate (m - 1) false ++ [true], want)) : BrK S m want := by
  obtain ⟨h1, h2, h3⟩ := runF_says _ _ _ _ h
  refine ⟨m2, m4, fun k hk => ⟨(h3 k hk).1, (h3 k hk).2.1⟩, fun k hk1 hk2 => ?_, ?_, h1⟩
  · have q := (h3 (4 + k) (by omega)).2.2
    rcases (show m = 2 ∨ m = 3 ∨ m = 4 from by omega) with rfl | rfl | rfl
    · have : k = 1 := by omega
      subst this; injection q with q; exact q.symm
    · rcases (show k = 1 ∨ k = 2 from by omega) with rfl | rfl <;> (injection q with q; exact q.symm)
    · rcases (show k = 1 ∨ k = 2 ∨ k = 3 from by omega) with rfl | rfl | rfl <;> (injection q with q; exact q.symm)
  · have q := (h3 (4 + m) (by omega)).2.2
    rcases (show m = 2 ∨ m = 3 ∨ m = 4 from by omega) with rfl | rfl | rfl <;> (injection q with q; exact q.symm)
theorem br_know (r : Nat) (hr : r < 8) (set : Bool) (d : UInt8) (v1 v2 v3 : Value) (R : Nat → Option Value) :
    BrK (brPC (brOps.getD r 0) d (brP set) v1 v2 v3 R) (brN ((r % 2 == 1) == set) d.toNat) (brWant ((r % 2 == 1) == set) d.toNat) :=
  BrK.of (by unfold brN; split <;> (try split) <;> omega) (by unfold brN; split <;> (try split) <;> omega) (br_says r hr set d v1 v2 v3 R)

set_option maxRecDepth 100000 in
set_option maxHeartbeats 4000000 in
theorem branched_any (wh : Int) (h1 : -9223372036854775808 ≤ wh) (h2 : wh ≤ 9223372036854775807) (set : Bool) (d : UInt8) (w : World) :
    Calls Tryz.prog 10 #[.int .i64 wh, .bool set, .int .u8 (d.toNat : Int)] w fun e w' => e = .returned (.bool true) ∧ Below w.heap.size w w' := by
  have KN := known_any w
  have PK := fun w => pick_any wh 8 w (by decide) (by decide) h1 h2
  have mk := mk300
  obtain ⟨pI, hpI, hpc⟩ : ∃ pI : Int, ((brP set).toNat : Int) = pI ∧ Hid (pI = if set then 195 else 0) := ⟨_, rfl, by cases set <;> rfl⟩
  have HPI := Hid.mk' hpI
  clear hpI
  have hcc : (set = true ∧ pI = 195) ∨ (set = false ∧ pI = 0) := by have := hpc.out; cases set <;> simp_all
  rcases hcc with ⟨rfl, rfl⟩ | ⟨rfl, rfl⟩
  · go_enter Tryz.func10, Tryz.ntmps10
    go_wp2_with (first | (go_at_call 16; refine KN.mono ?_; rintro e w1 ⟨rfl, hb1⟩; have HB1 := Hid.mk' hb1; have l1 := hb1.size; clear hb1 KN))
    refine (PK _).mono ?_
    rintro e w' ⟨⟨r, hr, rfl⟩, rfl⟩
    obtain ⟨op, hop, HOP⟩ : ∃ op : UInt8, (#[.int .u8 144, .int .u8 176, .int .u8 208, .int .u8 240, .int .u8 16, .int .u8 48, .int .u8 80, .int .u8 112] : Array Value)[r]? = some (.int .u8 (op.toNat : Int)) ∧ Hid (op = brOps.getD r 0) := by
      refine ⟨brOps.getD r 0, ?_, rfl⟩
      have hr8 : r < 8 := by omega
      have : ∀ i : Fin 8, (#[.int .u8 144, .int .u8 176, .int .u8 208, .int .u8 240, .int .u8 16, .int .u8 48, .int .u8 80, .int .u8 112] : Array Value)[i.1]? = some (.int .u8 ((brOps.getD i.1 0).toNat : Int)) := by
        intro i
        rcases (show i.1 = 0 ∨ i.1 = 1 ∨ i.1 = 2 ∨ i.1 = 3 ∨ i.1 = 4 ∨ i.1 = 5 ∨ i.1 = 6 ∨ i.1 = 7 from by omega) with q | q | q | q | q | q | q | q <;> rw [q] <;> rfl
      exact this ⟨r, hr8⟩
    clear PK
    go_wp2_with fail
    go_loopw [12] (fun i wr => ∃ kk : Nat, kk ≤ 300 ∧ i = .int .i64 kk ∧ Fm wr (w'.heap.size + 1) kk ∧ Below w'.heap.size w' wr) (fun i _ => 300 - (intOf i).toNat)
    case atStart =>
      refine ⟨0, by omega, rfl, ?_, ((Below.refl _ _).alloc (Nat.le_refl _) _).alloc (by simp) _⟩
      have q := Fm.new (w'.alloc (.cells #[.int .u8 144, .int .u8 176, .int .u8 208, .int .u8 240, .int .u8 16, .int .u8 48, .int .u8 80, .int .u8 112] 5))
      rwa [World.size_alloc] at q
    case round =>
      obtain ⟨kk, hkk, rfl, hL, hB⟩ := hrel
      by_cases hl32 : kk < 300
      · have cL := hL.c kk hl32
        rw [if_neg (Nat.lt_irrefl _)] at cL
        have fL := hL.f kk
        have HL := Hid.mk' hL
        have HB := Hid.mk' hB
        clear hL hB
        go_wp2
        go_roundw
        case rel => exact ⟨kk + 1, by omega, by go_num, HL.out.set hl32, HB.out.setCell (by show w'.heap.size ≤ w'.heap.size + 1; omega) _⟩
        case measure => simp [intOf]; omega
      · have e300 : kk = 300 := by omega
        subst e300
        have f0 := hL.f
        have c0 := hL.c 150 (by decide)
        have c1 := hL.c 151 (by decide)
        have c2 := hL.c 152 (by decide)
        rw [if_pos (by decide)] at c0 c1 c2
        have hlt := hL.lt
        have HC := Hid.mk' (hL.code op d)
        have HB := Hid.mk' (show Below w'.heap.size w' (((wr.setCell ⟨w'.heap.size + 1, 150, none⟩ (.int .u8 40)).setCell ⟨w'.heap.size + 1, 151, none⟩ (.int .u8 (op.toNat : Int))).setCell ⟨w'.heap.size + 1, 152, none⟩ (.int .u8 (d.toNat : Int))) from bl_set (bl_set (bl_set hB (Nat.le_succ _)) (Nat.le_succ _)) (Nat.le_succ _))
        clear hL hB
        go_wp2_with fail
        obtain ⟨W, hW, hWs⟩ : ∃ W, Hid (W = ((wr.setCell ⟨w'.heap.size + 1, 150, none⟩ (.int .u8 40)).setCell ⟨w'.heap.size + 1, 151, none⟩ (.int .u8 (op.toNat : Int))).setCell ⟨w'.heap.size + 1, 152, none⟩ (.int .u8 (d.toNat : Int))) ∧ W.heap.size = wr.heap.size := ⟨_, rfl, by simp⟩
        have NB := br_new W (w'.heap.size + 1) op d (brP true) 195 HPI.out (by omega) (by rw [hW.out]; exact HC.out)
        rw [hWs, hW.out] at NB
        refine NB.mono ?_
        rintro e w2 ⟨B, R, hBB, rfl, hCC, hb2⟩
        have HB2 := Hid.mk' ((HB1.out.trans (HB.out.mono l1)).trans (hb2.mono (by have := HB.out.size; simp at this ⊢; omega)))
        have hs2 := hb2.size
        simp only [World.size_setCell] at hs2
        clear NB hb2 HC c0 c1 c2 f0
        rw [HOP.out] at hCC
        have HK := Hid.mk' (br_know r (by omega) true d (.slice (some ⟨w'.heap.size + 1, 0, none⟩) 300 300) (.slice (some ⟨wr.heap.size, 0, none⟩) 1 1) (.slice (some ⟨wr.heap.size + 1, 0, none⟩) 2 2) R)
        generalize hS : brPC (brOps.getD r 0) d (brP true) (.slice (some ⟨w'.heap.size + 1, 0, none⟩) 300 300) (.slice (some ⟨wr.heap.size, 0, none⟩) 1 1) (.slice (some ⟨wr.heap.size + 1, 0, none⟩) 2 2) R = S at *
        generalize hm : brN ((r % 2 == 1) == true) d.toNat = m at *
        generalize hwant : brWant ((r % 2 == 1) == true) d.toNat = want at *
        have Hm := Hid.mk' hm
        have Hwant := Hid.mk' hwant
        have HCC := Hid.mk' hCC
        have hm2 := HK.out.m2
        have hm4 := HK.out.m4
        clear hS hm hwant hCC
        go_wp2_with fail
        go_loopw [15] (fun i wr => ∃ k : Nat, k ≤ 4 ∧ i = .int .i64 k ∧ Tn B (S.runN k) w2 wr) (fun i _ => 4 - (intOf i).toNat)
        case atStart => exact ⟨0, by omega, rfl, Tn.refl HCC.out⟩
        case round =>
          obtain ⟨k, hk, rfl, hT⟩ := hrel
          by_cases hk4 : k < 4
          · have C := mCycle_any hT false false (HK.out.ok k (by omega)).2
            have e2 : (cycV (S.runN k) false false).1 = S.runN (k + 1) := rfl
            rw [e2] at C
            clear hT e2
            go_wp2_with (first | (go_at_call 23; refine C.mono ?_; rintro e w3 ⟨rfl, T3⟩; have HT3 := Hid.mk' T3; clear T3 C))
            go_roundw
            case rel => exact ⟨k + 1, by omega, by go_num, HT3.out⟩
            case measure => simp [intOf]; omega
          · have e4 : k = 4 := by omega
            subst e4
            have HT4 := Hid.mk' hT
            clear hT
            go_wp2_with fail
            go_loopw [16, 17] (fun vn vm wr => ∃ k : Nat, (vm = .bool true ∧ vn = .int .i64 k ∧ k ≤ m ∧ Tn B (S.runN (4 + k)) w2 wr) ∨ (vm = .bool false ∧ vn = .int .i64 k ∧ k = m ∧ Tn B (S.runN (m + 5)) w2 wr)) (fun vn vm _ => (10 - (intOf vn).toNat) + boolN vm)
            case atStart => exact ⟨0, .inl ⟨rfl, rfl, by omega, HT4.out⟩⟩
            case round =>
              obtain ⟨k, hrel⟩ := hrel
              rcases hrel with ⟨rfl, rfl, hkm, hT⟩ | ⟨rfl, rfl, hkm, hT⟩
              · have C := mCycle_any hT false false (HK.out.ok (4 + k) (by omega)).2
                have e1 : (cycV (S.runN (4 + k)) false false).2.2 = true := by rw [go_on _ (HK.out.ok (4 + k) (by omega)).1]
                have e2 : (cycV (S.runN (4 + k)) false false).1 = S.runN (4 + (k + 1)) := rfl
                rw [e1, e2] at C
                have HF := Hid.mk' HK.out.fin
                have HM := Hid.mk' (HK.out.mid k)
                have k9 : (k : Int) < 9 := by omega
                clear hT e1 e2
                by_cases hkf : k = m
                · rw [← hkf] at HF
                  obtain ⟨ba, bd, bw, bf, hb⟩ : ∃ ba bd bw bf, (cycV (S.runN (4 + k)) false false).2.1 = ⟨ba, bd, bw, bf⟩ := ⟨_, _, _, _, rfl⟩
                  rw [hb] at C HF
                  have ebf : bf = true := HF.out
                  subst ebf
                  have k0 : (0 : Int) < (k : Int) := by omega
                  clear hb HF HM
                  go_wp2_with (first | (go_at_call 23; refine C.mono ?_; rintro e w3 ⟨rfl, T3⟩; have HT3 := Hid.mk' T3; clear T3 C; simp only [BusI.val]))
                  go_roundw
                  case rel => exact ⟨k, .inr ⟨rfl, rfl, hkf, by have q := HT3.out.alloc (.cells #[.int .i64 ba, .int .i64 bd, .bool bw, .bool true] 53); rw [show 4 + (k + 1) = m + 5 from by omega] at q; exact q⟩⟩
                  case measure => simp [boolN]
                · by_cases hk0 : k = 0
                  · obtain ⟨ba, bd, bw, bf, hb⟩ : ∃ ba bd bw bf, (cycV (S.runN (4 + k)) false false).2.1 = ⟨ba, bd, bw, bf⟩ := ⟨_, _, _, _, rfl⟩
                    rw [hb] at C
                    have k0 : (k : Int) ≤ 0 := by omega
                    clear hb HF HM
                    cases bf
                    all_goals
                      go_wp2_with (first | (go_at_call 23; refine C.mono ?_; rintro e w3 ⟨rfl, T3⟩; have HT3 := Hid.mk' T3; clear T3 C; simp only [BusI.val]))
                      go_roundw
                      case rel => exact ⟨k + 1, .inl ⟨rfl, by go_num, by omega, HT3.out.alloc _⟩⟩
                      case measure => simp [intOf, boolN]; omega
                  · obtain ⟨ba, bd, bw, bf, hb⟩ : ∃ ba bd bw bf, (cycV (S.runN (4 + k)) false false).2.1 = ⟨ba, bd, bw, bf⟩ := ⟨_, _, _, _, rfl⟩
                    rw [hb] at C HM
                    have ebf : bf = false := HM.out (by omega) (by omega)
                    subst ebf
                    clear hb HF HM
                    go_wp2_with (first | (go_at_call 23; refine C.mono ?_; rintro e w3 ⟨rfl, T3⟩; have HT3 := Hid.mk' T3; clear T3 C; simp only [BusI.val]))
                    go_roundw
                    case rel => exact ⟨k + 1, .inl ⟨rfl, by go_num, by omega, HT3.out.alloc _⟩⟩
                    case measure => simp [intOf, boolN]; omega
              · have RG := mRegs_any hT
                have lB := hT.c.lt
                have HT5 := Hid.mk' hT
                have hpc : (S.runN (m + 5)).regs.PC = want := HK.out.pc
                generalize (S.runN (m + 5)).regs = rg at *
                clear hT
                have hd0 : (0 : Int) ≤ (d.toNat : Int) := by omega
                have hd1 : (d.toNat : Int) < 256 := by have := d.toNat_lt; omega
                have sd := sg_r _ hd0 hd1
                rcases Nat.mod_two_eq_zero_or_one r with hr2 | hr2
                · have hri : (r : Int) % 2 = 0 := by omega
                  have ew : want = 1177 := by rw [← Hwant.out, hr2]; rfl
                  have em : m = 2 := by rw [← Hm.out, hr2]; rfl
                  subst ew; subst em; subst hkm
                  clear sd Hwant Hm HK
                  go_wp2_with (first | (go_at_call 24; refine RG.mono ?_; rintro e w3 ⟨rfl, hb3⟩; have HB3 := Hid.mk' hb3; clear hb3 RG; simp only [RegI.val]))
                  go_ret
                  exact ⟨rfl, (((below_grown HB2.out HT5.out.g (by omega) (by omega)).trans (HB3.out.mono (by have := HT5.out.g.size; omega)))).alloc (by have := HB3.out.size; have := HT5.out.g.size; omega) _⟩
                · have hri : (r : Int) % 2 = 1 := by omega
                  have htk : ((r % 2 == 1) == true) = true := by rw [hr2]; rfl
                  have ew : want = 1177 + IntKind.i8.wrap (d.toNat : Int) := by
                    rw [← Hwant.out, htk, sd]
                    unfold brWant
                    rw [if_pos rfl]
                    split <;> split <;> omega
                  obtain ⟨SD, hSD⟩ : ∃ SD, IntKind.i8.wrap (d.toNat : Int) = SD := ⟨_, rfl⟩
                  have s0 : -128 ≤ SD := by rw [← hSD, sd]; split <;> omega
                  have s1 : SD ≤ 127 := by rw [← hSD, sd]; split <;> omega
                  rw [hSD] at ew
                  subst ew
                  clear sd
                  have hw1 : wrap64 SD = SD := by unfold wrap64; omega
                  have hw2 : wrap64 (1177 + SD) = 1177 + SD := by unfold wrap64; omega
                  have hw3 : (1177 + SD).tdiv 256 = (1177 + SD) / 256 := Int.tdiv_eq_ediv_of_nonneg (by omega)
                  have hw4 : wrap64 ((1177 + SD) / 256) = (1177 + SD) / 256 := by unfold wrap64; omega
                  by_cases hp : (1177 + SD) / 256 = 4
                  · have em : m = 3 := by
                      rw [← Hm.out]; unfold brN; rw [Hwant.out, if_pos htk, if_pos hp]
                    subst em; subst hkm
                    clear Hwant Hm HK
                    go_wp2_with (first | (go_at_call 24; refine RG.mono ?_; rintro e w3 ⟨rfl, hb3⟩; have HB3 := Hid.mk' hb3; clear hb3 RG; simp only [RegI.val]))
                    go_ret
                    exact ⟨rfl, (((below_grown HB2.out HT5.out.g (by omega) (by omega)).trans (HB3.out.mono (by have := HT5.out.g.size; omega)))).alloc (by have := HB3.out.size; have := HT5.out.g.size; omega) _⟩
                  · have em : m = 4 := by
                      rw [← Hm.out]; unfold brN; rw [Hwant.out, if_pos htk, if_neg hp]
                    have hp' : ((1177 + SD) / 256 != 4) = true := by simpa using hp
                    subst em; subst hkm
                    clear Hwant Hm HK
                    go_wp2_with (first | (go_at_call 24; refine RG.mono ?_; rintro e w3 ⟨rfl, hb3⟩; have HB3 := Hid.mk' hb3; clear hb3 RG; simp only [RegI.val]))
                    go_ret
                    exact ⟨rfl, (((below_grown HB2.out HT5.out.g (by omega) (by omega)).trans (HB3.out.mono (by have := HT5.out.g.size; omega)))).alloc (by have := HB3.out.size; have := HT5.out.g.size; omega) _⟩
  · go_enter Tryz.func10, Tryz.ntmps10
    go_wp2_with (first | (go_at_call 16; refine KN.mono ?_; rintro e w1 ⟨rfl, hb1⟩; have HB1 := Hid.mk' hb1; have l1 := hb1.size; clear hb1 KN))
    refine (PK _).mono ?_
    rintro e w' ⟨⟨r, hr, rfl⟩, rfl⟩
    obtain ⟨op, hop, HOP⟩ : ∃ op : UInt8, (#[.int .u8 144, .int .u8 176, .int .u8 208, .int .u8 240, .int .u8 16, .int .u8 48, .int .u8 80, .int .u8 112] : Array Value)[r]? = some (.int .u8 (op.toNat : Int)) ∧ Hid (op = brOps.getD r 0) := by
      refine ⟨brOps.getD r 0, ?_, rfl⟩
      have hr8 : r < 8 := by omega
      have : ∀ i : Fin 8, (#[.int .u8 144, .int .u8 176, .int .u8 208, .int .u8 240, .int .u8 16, .int .u8 48, .int .u8 80, .int .u8 112] : Array Value)[i.1]? = some (.int .u8 ((brOps.getD i.1 0).toNat : Int)) := by
        intro i
        rcases (show i.1 = 0 ∨ i.1 = 1 ∨ i.1 = 2 ∨ i.1 = 3 ∨ i.1 = 4 ∨ i.1 = 5 ∨ i.1 = 6 ∨ i.1 = 7 from by omega) with q | q | q | q | q | q | q | q <;> rw [q] <;> rfl
      exact this ⟨r, hr8⟩
    clear PK
    go_wp2_with fail
    go_loopw [12] (fun i wr => ∃ kk : Nat, kk ≤ 300 ∧ i = .int .i64 kk ∧ Fm wr (w'.heap.size + 1) kk ∧ Below w'.heap.size w' wr) (fun i _ => 300 - (intOf i).toNat)
    case atStart =>
      refine ⟨0, by omega, rfl, ?_, ((Below.refl _ _).alloc (Nat.le_refl _) _).alloc (by simp) _⟩
      have q := Fm.new (w'.alloc (.cells #[.int .u8 144, .int .u8 176, .int .u8 208, .int .u8 240, .int .u8 16, .int .u8 48, .int .u8 80, .int .u8 112] 5))
      rwa [World.size_alloc] at q
    case round =>
      obtain ⟨kk, hkk, rfl, hL, hB⟩ := hrel
      by_cases hl32 : kk < 300
      · have cL := hL.c kk hl32
        rw [if_neg (Nat.lt_irrefl _)] at cL
        have fL := hL.f kk
        have HL := Hid.mk' hL
        have HB := Hid.mk' hB
        clear hL hB
        go_wp2
        go_roundw
        case rel => exact ⟨kk + 1, by omega, by go_num, HL.out.set hl32, HB.out.setCell (by show w'.heap.size ≤ w'.heap.size + 1; omega) _⟩
        case measure => simp [intOf]; omega
      · have e300 : kk = 300 := by omega
        subst e300
        have f0 := hL.f
        have c0 := hL.c 150 (by decide)
        have c1 := hL.c 151 (by decide)
        have c2 := hL.c 152 (by decide)
        rw [if_pos (by decide)] at c0 c1 c2
        have hlt := hL.lt
        have HC := Hid.mk' (hL.code op d)
        have HB := Hid.mk' (show Below w'.heap.size w' (((wr.setCell ⟨w'.heap.size + 1, 150, none⟩ (.int .u8 40)).setCell ⟨w'.heap.size + 1, 151, none⟩ (.int .u8 (op.toNat : Int))).setCell ⟨w'.heap.size + 1, 152, none⟩ (.int .u8 (d.toNat : Int))) from bl_set (bl_set (bl_set hB (Nat.le_succ _)) (Nat.le_succ _)) (Nat.le_succ _))
        clear hL hB
        go_wp2_with fail
        obtain ⟨W, hW, hWs⟩ : ∃ W, Hid (W = ((wr.setCell ⟨w'.heap.size + 1, 150, none⟩ (.int .u8 40)).setCell ⟨w'.heap.size + 1, 151, none⟩ (.int .u8 (op.toNat : Int))).setCell ⟨w'.heap.size + 1, 152, none⟩ (.int .u8 (d.toNat : Int))) ∧ W.heap.size = wr.heap.size := ⟨_, rfl, by simp⟩
        have NB := br_new W (w'.heap.size + 1) op d (brP false) 0 HPI.out (by omega) (by rw [hW.out]; exact HC.out)
        rw [hWs, hW.out] at NB
        refine NB.mono ?_
        rintro e w2 ⟨B, R, hBB, rfl, hCC, hb2⟩
        have HB2 := Hid.mk' ((HB1.out.trans (HB.out.mono l1)).trans (hb2.mono (by have := HB.out.size; simp at this ⊢; omega)))
        have hs2 := hb2.size
        simp only [World.size_setCell] at hs2
        clear NB hb2 HC c0 c1 c2 f0
        rw [HOP.out] at hCC
        have HK := Hid.mk' (br_know r (by omega) false d (.slice (some ⟨w'.heap.size + 1, 0, none⟩) 300 300) (.slice (some ⟨wr.heap.size, 0, none⟩) 1 1) (.slice (some ⟨wr.heap.size + 1, 0, none⟩) 2 2) R)
        generalize hS : brPC (brOps.getD r 0) d (brP false) (.slice (some ⟨w'.heap.size + 1, 0, none⟩) 300 300) (.slice (some ⟨wr.heap.size, 0, none⟩) 1 1) (.slice (some ⟨wr.heap.size + 1, 0, none⟩) 2 2) R = S at *
        generalize hm : brN ((r % 2 == 1) == false) d.toNat = m at *
        generalize hwant : brWant ((r % 2 == 1) == false) d.toNat = want at *
        have Hm := Hid.mk' hm
        have Hwant := Hid.mk' hwant
        have HCC := Hid.mk' hCC
        have hm2 := HK.out.m2
        have hm4 := HK.out.m4
        clear hS hm hwant hCC
        go_wp2_with fail
        go_loopw [15] (fun i wr => ∃ k : Nat, k ≤ 4 ∧ i = .int .i64 k ∧ Tn B (S.runN k) w2 wr) (fun i _ => 4 - (intOf i).toNat)
        case atStart => exact ⟨0, by omega, rfl, Tn.refl HCC.out⟩
        case round =>
          obtain ⟨k, hk, rfl, hT⟩ := hrel
          by_cases hk4 : k < 4
          · have C := mCycle_any hT false false (HK.out.ok k (by omega)).2
            have e2 : (cycV (S.runN k) false false).1 = S.runN (k + 1) := rfl
            rw [e2] at C
            clear hT e2
            go_wp2_with (first | (go_at_call 23; refine C.mono ?_; rintro e w3 ⟨rfl, T3⟩; have HT3 := Hid.mk' T3; clear T3 C))
            go_roundw
            case rel => exact ⟨k + 1, by omega, by go_num, HT3.out⟩
            case measure => simp [intOf]; omega
          · have e4 : k = 4 := by omega
            subst e4
            have HT4 := Hid.mk' hT
            clear hT
            go_wp2_with fail
            go_loopw [16, 17] (fun vn vm wr => ∃ k : Nat, (vm = .bool true ∧ vn = .int .i64 k ∧ k ≤ m ∧ Tn B (S.runN (4 + k)) w2 wr) ∨ (vm = .bool false ∧ vn = .int .i64 k ∧ k = m ∧ Tn B (S.runN (m + 5)) w2 wr)) (fun vn vm _ => (10 - (intOf vn).toNat) + boolN vm)
            case atStart => exact ⟨0, .inl ⟨rfl, rfl, by omega, HT4.out⟩⟩
            case round =>
              obtain ⟨k, hrel⟩ := hrel
              rcases hrel with ⟨rfl, rfl, hkm, hT⟩ | ⟨rfl, rfl, hkm, hT⟩
              · have C := mCycle_any hT false false (HK.out.ok (4 + k) (by omega)).2
                have e1 : (cycV (S.runN (4 + k)) false false).2.2 = true := by rw [go_on _ (HK.out.ok (4 + k) (by omega)).1]
                have e2 : (cycV (S.runN (4 + k)) false false).1 = S.runN (4 + (k + 1)) := rfl
                rw [e1, e2] at C
                have HF := Hid.mk' HK.out.fin
                have HM := Hid.mk' (HK.out.mid k)
                have k9 : (k : Int) < 9 := by omega
                clear hT e1 e2
                by_cases hkf : k = m
                · rw [← hkf] at HF
                  obtain ⟨ba, bd, bw, bf, hb⟩ : ∃ ba bd bw bf, (cycV (S.runN (4 + k)) false false).2.1 = ⟨ba, bd, bw, bf⟩ := ⟨_, _, _, _, rfl⟩
                  rw [hb] at C HF
                  have ebf : bf = true := HF.out
                  subst ebf
                  have k0 : (0 : Int) < (k : Int) := by omega
                  clear hb HF HM
                  go_wp2_with (first | (go_at_call 23; refine C.mono ?_; rintro e w3 ⟨rfl, T3⟩; have HT3 := Hid.mk' T3; clear T3 C; simp only [BusI.val]))
                  go_roundw
                  case rel => exact ⟨k, .inr ⟨rfl, rfl, hkf, by have q := HT3.out.alloc (.cells #[.int .i64 ba, .int .i64 bd, .bool bw, .bool true] 53); rw [show 4 + (k + 1) = m + 5 from by omega] at q; exact q⟩⟩
                  case measure => simp [boolN]
                · by_cases hk0 : k = 0
                  · obtain ⟨ba, bd, bw, bf, hb⟩ : ∃ ba bd bw bf, (cycV (S.runN (4 + k)) false false).2.1 = ⟨ba, bd, bw, bf⟩ := ⟨_, _, _, _, rfl⟩
                    rw [hb] at C
                    have k0 : (k : Int) ≤ 0 := by omega
                    clear hb HF HM
                    cases bf
                    all_goals
                      go_wp2_with (first | (go_at_call 23; refine C.mono ?_; rintro e w3 ⟨rfl, T3⟩; have HT3 := Hid.mk' T3; clear T3 C; simp only [BusI.val]))
                      go_roundw
                      case rel => exact ⟨k + 1, .inl ⟨rfl, by go_num, by omega, HT3.out.alloc _⟩⟩
                      case measure => simp [intOf, boolN]; omega
                  · obtain ⟨ba, bd, bw, bf, hb⟩ : ∃ ba bd bw bf, (cycV (S.runN (4 + k)) false false).2.1 = ⟨ba, bd, bw, bf⟩ := ⟨_, _, _, _, rfl⟩
                    rw [hb] at C HM
                    have ebf : bf = false := HM.out (by omega) (by omega)
                    subst ebf
                    clear hb HF HM
                    go_wp2_with (first | (go_at_call 23; refine C.mono ?_; rintro e w3 ⟨rfl, T3⟩; have HT3 := Hid.mk' T3; clear T3 C; simp only [BusI.val]))
                    go_roundw
                    case rel => exact ⟨k + 1, .inl ⟨rfl, by go_num, by omega, HT3.out.alloc _⟩⟩
                    case measure => simp [intOf, boolN]; omega
              · have RG := mRegs_any hT
                have lB := hT.c.lt
                have HT5 := Hid.mk' hT
                have hpc : (S.runN (m + 5)).regs.PC = want := HK.out.pc
                generalize (S.runN (m + 5)).regs = rg at *
                clear hT
                have hd0 : (0 : Int) ≤ (d.toNat : Int) := by omega
                have hd1 : (d.toNat : Int) < 256 := by have := d.toNat_lt; omega
                have sd := sg_r _ hd0 hd1
                rcases Nat.mod_two_eq_zero_or_one r with hr2 | hr2
                · have hri : (r : Int) % 2 = 0 := by omega
                  have htk : ((r % 2 == 1) == false) = true := by rw [hr2]; rfl
                  have ew : want = 1177 + IntKind.i8.wrap (d.toNat : Int) := by
                    rw [← Hwant.out, htk, sd]
                    unfold brWant
                    rw [if_pos rfl]
                    split <;> split <;> omega
                  obtain ⟨SD, hSD⟩ : ∃ SD, IntKind.i8.wrap (d.toNat : Int) = SD := ⟨_, rfl⟩
                  have s0 : -128 ≤ SD := by rw [← hSD, sd]; split <;> omega
                  have s1 : SD ≤ 127 := by rw [← hSD, sd]; split <;> omega
                  rw [hSD] at ew
                  subst ew
                  clear sd
                  have hw1 : wrap64 SD = SD := by unfold wrap64; omega
                  have hw2 : wrap64 (1177 + SD) = 1177 + SD := by unfold wrap64; omega
                  have hw3 : (1177 + SD).tdiv 256 = (1177 + SD) / 256 := Int.tdiv_eq_ediv_of_nonneg (by omega)
                  have hw4 : wrap64 ((1177 + SD) / 256) = (1177 + SD) / 256 := by unfold wrap64; omega
                  by_cases hp : (1177 + SD) / 256 = 4
                  · have em : m = 3 := by
                      rw [← Hm.out]; unfold brN; rw [Hwant.out, if_pos htk, if_pos hp]
                    subst em; subst hkm
                    clear Hwant Hm HK
                    go_wp2_with (first | (go_at_call 24; refine RG.mono ?_; rintro e w3 ⟨rfl, hb3⟩; have HB3 := Hid.mk' hb3; clear hb3 RG; simp only [RegI.val]))
                    go_ret
                    exact ⟨rfl, (((below_grown HB2.out HT5.out.g (by omega) (by omega)).trans (HB3.out.mono (by have := HT5.out.g.size; omega)))).alloc (by have := HB3.out.size; have := HT5.out.g.size; omega) _⟩
                  · have em : m = 4 := by
                      rw [← Hm.out]; unfold brN; rw [Hwant.out, if_pos htk, if_neg hp]
                    have hp' : ((1177 + SD) / 256 != 4) = true := by simpa using hp
                    subst em; subst hkm
                    clear Hwant Hm HK
                    go_wp2_with (first | (go_at_call 24; refine RG.mono ?_; rintro e w3 ⟨rfl, hb3⟩; have HB3 := Hid.mk' hb3; clear hb3 RG; simp only [RegI.val]))
                    go_ret
                    exact ⟨rfl, (((below_grown HB2.out HT5.out.g (by omega) (by omega)).trans (HB3.out.mono (by have := HT5.out.g.size; omega)))).alloc (by have := HB3.out.size; have := HT5.out.g.size; omega) _⟩
                · have hri : (r : Int) % 2 = 1 := by omega
                  have ew : want = 1177 := by rw [← Hwant.out, hr2]; rfl
                  have em : m = 2 := by rw [← Hm.out, hr2]; rfl
                  subst ew; subst em; subst hkm
                  clear sd Hwant Hm HK
                  go_wp2_with (first | (go_at_call 24; refine RG.mono ?_; rintro e w3 ⟨rfl, hb3⟩; have HB3 := Hid.mk' hb3; clear hb3 RG; simp only [RegI.val]))
                  go_ret
                  exact ⟨rfl, (((below_grown HB2.out HT5.out.g (by omega) (by omega)).trans (HB3.out.mono (by have := HT5.out.g.size; omega)))).alloc (by have := HB3.out.size; have := HT5.out.g.size; omega) _⟩

end Go.Proofs.YtcgjliflnnklnaaGreat
