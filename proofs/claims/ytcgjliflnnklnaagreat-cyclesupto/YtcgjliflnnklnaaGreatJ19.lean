/-
  Joined texts.
-/
import Derived.Test.YtcgjliflnnklnaaGreatJ18
import Derived.Test.YtcgjliflnnklnaaGreatJ17
namespace Go.Proofs.YtcgjliflnnklnaaGreat
open Go.RowKit

/-
  The law Cycles, walked: the play of a script.
-/
section
set_option maxRecDepth 100000
set_option maxHeartbeats 4000000

/-- A step of a script, as it lies in memory, its configuration below N. -/
def OpL (N : Nat) (w : World) (g o : Nat) : Prop := ∃ (k a b : Int) (S : ByteArray) (n q : Bool) (v : Value) (rom : Int),
  (w.cell? ⟨g, o, none⟩ = some (.int .i64 k) ∧ w.cell? ⟨g, o + 1, none⟩ = some (.int .i64 a) ∧ w.cell? ⟨g, o + 2, none⟩ = some (.int .i64 b) ∧ w.cell? ⟨g, o + 3, none⟩ = some (.string S) ∧ w.cell? ⟨g, o + 4, none⟩ = some (.bool n) ∧ w.cell? ⟨g, o + 5, none⟩ = some (.bool q) ∧ w.cell? ⟨g, o + 6, none⟩ = some v ∧ w.cell? ⟨g, o + 7, none⟩ = some (.int .i64 rom)) ∧
  ((k = 1 ∨ k = 2 ∨ k = 3 ∨ k = 4) → OpC N w k a b v) ∧ ∃ p l c, v = .slice p l c
theorem OpC.later {N : Nat} {w w' : World} {k a b : Int} {v : Value} (h : OpC N w k a b v) (hb : Below w.heap.size w w') : OpC N w' k a b v := by
  obtain ⟨cs, c1, c2⟩ := h.c
  exact ⟨h.k, h.a1, h.a2, h.b1, h.b2, cs, c1.below hb, c2⟩
theorem OpL.later {N : Nat} {w w' : World} {g o : Nat} (h : OpL N w g o) (hb : Below w.heap.size w w') : OpL N w' g o := by
  obtain ⟨k, a, b, S, n, q, v, rom, ⟨h0, h1, h2, h3, h4, h5, h6, h7⟩, r, sl⟩ := h
  exact ⟨k, a, b, S, n, q, v, rom, ⟨cell_later hb h0, cell_later hb h1, cell_later hb h2, cell_later hb h3, cell_later hb h4, cell_later hb h5, cell_later hb h6, cell_later hb h7⟩, fun z => (r z).later hb, sl⟩
theorem Boot.ivc {w : World} {tag : Nat → Nat} {B R : Nat → Nat} {k : Nat} {vs vr : Value} {wr : World} (h : Boot w w.heap.size tag B R k k vs vr wr) : IvC w w.heap.size vs vr (fun _ => 1) [] (.slice none 0 0) wr :=
  ⟨h.bel, Nat.le_refl _, h.blk, World.ownsRow_nil _ _ _ _, fun i q => absurd q (by simp), fun i q => absurd q (by simp), rfl, fun g e => by simp [Value.ownBlock] at e, fun i q => absurd q (by simp)⟩
def inq (k : Int) (m : Nat) : Bool := decide (1 ≤ k ∧ k < 1 + (m : Int))
theorem inq_zero (k : Int) : inq k 0 = false := by simp [inq]
theorem inq_more {k : Int} {m : Nat} (h : inq k m = true) : inq k (m + 1) = true := by simp [inq] at *; omega
theorem inq_next {k : Int} {m : Nat} (h : inq k m = false) : inq k (m + 1) = (k == 1 + (m : Int)) := by
  simp only [inq, decide_eq_false_iff_not] at h
  by_cases e : k = 1 + (m : Int)
  · simp [inq, e]; omega
  · have h1 : (k == 1 + (m : Int)) = false := by simpa using e
    rw [h1]; simp [inq]; omega
/-- What m steps leave. -/
def PlayedC (w : World) (x1 x2 : Value) (m : Nat) (wr : World) : Prop := ∃ tag ms vm, ms.length ≤ m ∧ IvC w w.heap.size x1 x2 tag ms vm wr

theorem playsC (w : World) (ga gk : Nat) (sa : Option Addr) (sb so len cap : Nat) (hA : ∀ i, i < 3 → OpL w.heap.size w ga (i * 8) ∧ ∀ k, w.cell? ⟨ga, i * 8, none⟩ = some (.int .i64 k) → k = 1 ∨ k = 2 ∨ k = 3 ∨ k = 4) (hK : ∀ i : Nat, i < 4 → w.cell? ⟨gk, i, none⟩ = some (.int .i64 (1 + (i : Int))))
    (hS : len = 0 ∨ (sa = some ⟨sb, so, none⟩ ∧ ∀ i, i < len → OpL w.heap.size w sb (so + i * 8))) (hlen : len ≤ 1048576) :
    Calls Tryz.prog 14 #[.slice (some ⟨ga, 0, none⟩) 3 3, .slice sa len cap, .slice (some ⟨gk, 0, none⟩) 4 4] w fun e w' => e = .returned (.bool true) ∧ Below w.heap.size w w' := by
  have HG : Hid ((∀ i, i < 3 → OpL w.heap.size w ga (i * 8) ∧ ∀ k, w.cell? ⟨ga, i * 8, none⟩ = some (.int .i64 k) → k = 1 ∨ k = 2 ∨ k = 3 ∨ k = 4) ∧ (∀ i : Nat, i < 4 → w.cell? ⟨gk, i, none⟩ = some (.int .i64 (1 + (i : Int)))) ∧ (len = 0 ∨ (sa = some ⟨sb, so, none⟩ ∧ ∀ i, i < len → OpL w.heap.size w sb (so + i * 8)))) := ⟨hA, hK, hS⟩
  clear hA hK hS
  go_enter Tryz.func14, Tryz.ntmps14
  go_wp2
  go_loopw [8] (fun i wr => ∃ (k : Nat) (tag B R : Nat → Nat) (vs vr : Value), k ≤ 2 ∧ i = .int .i64 k ∧ Boot w w.heap.size tag B R k k vs vr wr) (fun i _ => 2 - (intOf i).toNat)
  case atStart => exact ⟨0, _, _, _, _, _, by omega, rfl, boot_new w⟩
  case round =>
    obtain ⟨k, tag, B, R, vs, vr, hk, rfl, hB⟩ := hrel
    obtain ⟨aS, cs, ar, cr, rfl, rfl⟩ := hB.shape
    by_cases hlt : k < 2
    · have HB : Hid (Boot w w.heap.size tag B R k k (.slice aS k cs) (.slice ar k cr) wr) := hB
      clear hB
      obtain ⟨iS, hiS, hzS0, hzS1, hzS2⟩ := info_parts inf_pS
      obtain ⟨iR, hiR, hzR0, hzR1, hzR2⟩ := info_parts inf_pR
      go_wp2_with fail
      refine (newScan_any _).mono ?_
      rintro e w1 ⟨rfl, hsc, hg1, hsz1⟩
      have hb1 : Below wr.heap.size wr w1 := ⟨hg1.os, hg1.tape, hg1.output, hg1.size, fun j hj => hg1.block j hj (by simp)⟩
      have HB1 : Hid (Boot w w.heap.size (fun g => if g = wr.heap.size then 3 + 2 * k else tag g) B R k k (.slice aS k cs) (.slice ar k cr) w1 ∧ ScAt w1 wr.heap.size sc00 ∧ w.heap.size ≤ wr.heap.size ∧ wr.heap.size < w1.heap.size) :=
        ⟨(HB.out.tagged (fun g hl => if_neg (by omega))).below hb1, hsc, HB.out.bel.size, by omega⟩
      clear hb1 hsc hg1 hsz1 HB
      have c2 := HB1.out.1.cell.1
      have f2 := HB1.out.1.cell.2.2 2
      have hWl := HB1.out.1.wlt
      go_wp2_with (first
        | (at_builtin; (refine wpList_append_lies _ rfl (.tmp 29) (.tmp 31) 75 rfl w.heap.size 83 iS _ 1 8 und_pS hiS hzS0 hzS1 hzS2 rfl (by decide) (.slice aS k cs) k (ptrs B k) rfl ?_ ⟨w1.heap.size, 0, none⟩ 1 1 [ptr wr.heap.size] rfl rfl (one_new' _ _ _) (ptr_one _) (by decide) ?_ ?_ ?_ _ rfl ?_; exact (HB1.out.1.below ((Below.refl _ _).alloc (Nat.le_refl _) _)).oS; (unfold maxLen; omega); omega; (have := HB1.out.2.2; simp; omega); intro g' cap' w3 hown' hgrow hat hlt'; have hBA := HB1.out.1.below ((Below.refl w1.heap.size w1).alloc (Nat.le_refl _) (.cells #[ptr wr.heap.size] 83)); obtain ⟨j2, jf, j3, jl⟩ := hBA.keptS hgrow; have HB2 : Hid (∃ tag B, Boot w w.heap.size tag B R (k + 1) k (.slice (some ⟨g', 0, none⟩) (k + 1) cap') (.slice ar k cr) (w3.setCell ⟨w.heap.size, 2, none⟩ (.slice (some ⟨g', 0, none⟩) (k + 1) cap'))) := ⟨_, _, hBA.pushS (HB1.out.2.1.sameBlock (Below.heap_alloc _ _ _ HB1.out.2.2.2)) HB1.out.2.2.1 (if_pos rfl) hown' hgrow hat⟩; clear hBA hown' hgrow hat hlt' HB1 c2 f2 hWl))
        | (at_builtin; go_must (refine wpList_append_lies _ rfl (.tmp 39) (.tmp 42) 76 rfl w.heap.size 85 iR _ 1 8 und_pR hiR hzR0 hzR1 hzR2 rfl (by decide) (.slice ar k cr) k (ptrs R k) rfl ?_ ⟨w3.heap.size + 1, 0, none⟩ 1 1 [ptr w3.heap.size] rfl rfl (one_new3 _ _ _ _ _ (by simp)) (ptr_one _) (by decide) ?_ ?_ ?_ _ rfl ?_; (obtain ⟨tag2, B2, h2⟩ := HB2.out; exact (h2.below (below2 _ _ _)).oR); (unfold maxLen; omega); omega; (obtain ⟨tag2, B2, h2⟩ := HB2.out; have := h2.bel.size; simp at this; simp; omega); intro g2 cap2 w5 hown' hgrow hat hlt'; obtain ⟨tag2, B2, h2⟩ := HB2.out; obtain ⟨j5, j5f⟩ := (h2.below (below2 _ _ _)).keptR hgrow; have HB3 : Hid (∃ tag R, Boot w w.heap.size tag B2 R (k + 1) (k + 1) (.slice (some ⟨g', 0, none⟩) (k + 1) cap') (.slice (some ⟨g2, 0, none⟩) (k + 1) cap2) (w5.setCell ⟨w.heap.size, 3, none⟩ (.slice (some ⟨g2, 0, none⟩) (k + 1) cap2))) := h2.endR _ _ _ (by simp) hown' hgrow hat; clear h2 hown' hgrow hat hlt' HB2 j2 jf j3 jl)))
      go_roundw
      case rel =>
        obtain ⟨tag3, R3, h3⟩ := HB3.out
        exact ⟨k + 1, tag3, B2, R3, _, _, by omega, by go_num, h3⟩
      case measure => simp [intOf]; omega
    · have HP : Hid (PlayedC w (.slice aS k cs) (.slice ar k cr) 0 wr) := ⟨_, _, _, Nat.le_refl _, hB.ivc⟩
      obtain ⟨X1, hX1⟩ : ∃ X1, (Value.slice aS k cs) = X1 := ⟨_, rfl⟩
      obtain ⟨X2, hX2⟩ : ∃ X2, (Value.slice ar k cr) = X2 := ⟨_, rfl⟩
      rw [hX1, hX2] at HP
      clear hB hX1 hX2
      go_wp2_with fail
      go_loopw [10, 11] (fun i _ wq => ∃ k : Nat, k ≤ 3 ∧ i = .int .i64 k ∧ PlayedC w X1 X2 k wq) (fun i _ _ => 3 - (intOf i).toNat)
      case atStart => exact ⟨0, by omega, rfl, HP.out⟩
      case round =>
        clear HP hk hlt
        obtain ⟨k1, hk1, rfl, tag, ms, vm, hm, hI⟩ := hrel
        by_cases hlt1 : k1 < 3
        · obtain ⟨kk, a, b, S, n, q, v, rom, hcell, hop, p, l, c, rfl⟩ := (HG.out.1 k1 hlt1).1.later hI.bel
          have hkk : kk = 1 ∨ kk = 2 ∨ kk = 3 ∨ kk = 4 := by
            obtain ⟨kk', _, _, _, _, _, _, _, hc', _⟩ := (HG.out.1 k1 hlt1).1
            have z := cell_later hI.bel hc'.1
            rw [hcell.1] at z
            injection z with z
            injection z with _ z
            rw [z]
            exact (HG.out.1 k1 hlt1).2 kk' hc'.1
          have HQ := step_anyC w w.heap.size X1 X2 tag ms vm wr hI (by omega) kk a b S n q (.slice p l c) rom (hop hkk)
          obtain ⟨c0, c1, c2, c3, c4, c5, c6, c7⟩ := hcell
          clear hI hop hkk
          go_wp2_with fail
          refine HQ.mono ?_
          rintro e w2 ⟨rfl, tag2, ms2, vm2, hm2, hI2⟩
          have HI2 : Hid (PlayedC w X1 X2 (k1 + 1) w2) := ⟨tag2, ms2, vm2, by omega, hI2⟩
          clear hI2 HQ c0 c1 c2 c3 c4 c5 c6 c7 hm hm2
          go_wp2_with fail
          go_roundw
          case rel => exact ⟨k1 + 1, by omega, by go_num, HI2.out⟩
          case measure => simp [intOf]; omega
        · have HP : Hid (PlayedC w X1 X2 3 wr) := ⟨tag, ms, vm, by omega, hI⟩
          clear hI hm
          go_wp2_with fail
          go_loopw [12, 13, 14, 15] (fun i _ _ _ wq => ∃ k : Nat, k ≤ len ∧ i = .int .i64 k ∧ PlayedC w X1 X2 (3 + k) wq) (fun i _ _ _ _ => len - (intOf i).toNat)
          case atStart => exact ⟨0, by omega, rfl, HP.out⟩
          case round =>
            clear HP hk1 hlt1
            obtain ⟨k1, hk1, rfl, tag, ms, vm, hm, hI⟩ := hrel
            by_cases hlt1 : k1 < len
            · obtain ⟨rfl, hops⟩ : sa = some ⟨sb, so, none⟩ ∧ ∀ i, i < len → OpL w.heap.size w sb (so + i * 8) := by
                rcases HG.out.2.2 with h | h
                · omega
                · exact h
              obtain ⟨kk, a, b, S, n, q, v, rom, hcell, hop, p, l, c, rfl⟩ := hops k1 hlt1
              have HD : Hid ((w.cell? ⟨sb, so + k1 * 8, none⟩ = some (.int .i64 kk) ∧ w.cell? ⟨sb, so + k1 * 8 + 1, none⟩ = some (.int .i64 a) ∧ w.cell? ⟨sb, so + k1 * 8 + 2, none⟩ = some (.int .i64 b) ∧ w.cell? ⟨sb, so + k1 * 8 + 3, none⟩ = some (.string S) ∧ w.cell? ⟨sb, so + k1 * 8 + 4, none⟩ = some (.bool n) ∧ w.cell? ⟨sb, so + k1 * 8 + 5, none⟩ = some (.bool q) ∧ w.cell? ⟨sb, so + k1 * 8 + 6, none⟩ = some (.slice p l c) ∧ w.cell? ⟨sb, so + k1 * 8 + 7, none⟩ = some (.int .i64 rom)) ∧ ((kk = 1 ∨ kk = 2 ∨ kk = 3 ∨ kk = 4) → OpC w.heap.size w kk a b (.slice p l c))) := ⟨hcell, hop⟩
              have HI : Hid (IvC w w.heap.size X1 X2 tag ms vm wr) := hI
              clear hI hcell hop hops
              go_wp2_with fail
              go_loopw [13, 14] (fun b j wq => ∃ m : Nat, m ≤ 4 ∧ j = .int .i64 m ∧ b = .bool (inq kk m) ∧ IvC w w.heap.size X1 X2 tag ms vm wq) (fun _ j _ => 4 - (intOf j).toNat)
              case atStart => exact ⟨0, by omega, rfl, by rw [inq_zero], HI.out⟩
              case round =>
                clear HI
                obtain ⟨m, hm3, rfl, rfl, hI⟩ := hrel
                have HI : Hid (IvC w w.heap.size X1 X2 tag ms vm wr) := hI
                by_cases hlt2 : m < 4
                · have d0 := cell_later hI.bel HD.out.1.1
                  have e0 := cell_later hI.bel (HG.out.2.1 m hlt2)
                  clear hI
                  obtain ⟨bb, hbb⟩ : ∃ bb, inq kk m = bb := ⟨_, rfl⟩
                  rw [hbb]
                  cases bb
                  · go_wp2_with fail
                    go_quiet (fail)
                    have HI2 : Hid (IvC w w.heap.size X1 X2 tag ms vm (wr.drewN nq)) := HI.out.below (below_drewN (Below.refl _ _) nq)
                    clear HI d0 e0
                    go_wp2_with fail
                    go_roundw
                    case rel => exact ⟨m + 1, by omega, by go_num, by rw [inq_next hbb], HI2.out⟩
                    case measure => simp [intOf]; omega
                  · go_wp2_with fail
                    go_quiet (fail)
                    have HI2 : Hid (IvC w w.heap.size X1 X2 tag ms vm (wr.drewN nq)) := HI.out.below (below_drewN (Below.refl _ _) nq)
                    clear HI d0 e0
                    go_wp2_with fail
                    go_roundw
                    case rel => exact ⟨m + 1, by omega, by go_num, by rw [inq_more hbb], HI2.out⟩
                    case measure => simp [intOf]; omega
                · obtain rfl : m = 4 := by omega
                  clear hI
                  obtain ⟨bb, hbb⟩ : ∃ bb, inq kk 4 = bb := ⟨_, rfl⟩
                  rw [hbb]
                  cases bb
                  · go_wp2_with fail
                    go_roundw
                    case rel => exact ⟨k1 + 1, by omega, by go_num, tag, ms, vm, by omega, HI.out⟩
                    case measure => simp [intOf]; omega
                  · have hkk : kk = 1 ∨ kk = 2 ∨ kk = 3 ∨ kk = 4 := by simp [inq] at hbb; omega
                    have HQ := step_anyC w w.heap.size X1 X2 tag ms vm wr HI.out (by omega) kk a b S n q (.slice p l c) rom ((HD.out.2 hkk).later HI.out.bel)
                    have d0 := cell_later HI.out.bel HD.out.1.1
                    have d1 := cell_later HI.out.bel HD.out.1.2.1
                    have d2 := cell_later HI.out.bel HD.out.1.2.2.1
                    have d3 := cell_later HI.out.bel HD.out.1.2.2.2.1
                    have d4 := cell_later HI.out.bel HD.out.1.2.2.2.2.1
                    have d5 := cell_later HI.out.bel HD.out.1.2.2.2.2.2.1
                    have d6 := cell_later HI.out.bel HD.out.1.2.2.2.2.2.2.1
                    have d7 := cell_later HI.out.bel HD.out.1.2.2.2.2.2.2.2
                    clear hkk hbb HI
                    go_wp2_with fail
                    refine HQ.mono ?_
                    rintro e w2 ⟨rfl, tag2, ms2, vm2, hm2, hI2⟩
                    have HL := looks_empty w2 w.heap.size (hI2.blk.cell 4) (hI2.blk.cell 5)
                    have HI2 : Hid (PlayedC w X1 X2 (3 + (k1 + 1)) w2) := ⟨tag2, ms2, vm2, by omega, hI2⟩
                    clear hI2 HQ d0 d1 d2 d3 d4 d5 d6 d7
                    go_wp2_with fail
                    refine HL.mono ?_
                    rintro e w3 ⟨rfl, hw3⟩
                    subst hw3
                    clear HL
                    go_wp2_with fail
                    go_roundw
                    case rel => exact ⟨k1 + 1, by omega, by go_num, HI2.out⟩
                    case measure => simp [intOf]; omega
            · have HI : Hid (Below w.heap.size w wr) := hI.bel
              clear hI
              go_wp2
              go_ret
              exact ⟨rfl, HI.out⟩
end

/-
  The law Cycles, walked: the document's example, and the law itself.
-/
section
set_option maxRecDepth 100000
set_option maxHeartbeats 1000000

theorem ChV.more {N M : Nat} {w : World} {v : Value} {bs : List UInt8} (h : ChV N w v bs) (hm : N ≤ M) : ChV M w v bs := by
  obtain ⟨p, cap, e, h⟩ := h
  refine ⟨p, cap, e, fun hn => ?_⟩
  obtain ⟨b, off, e2, hb, hB⟩ := h hn
  exact ⟨b, off, e2, by omega, hB⟩
theorem CfAt.more {N M : Nat} {w : World} {v : Value} {cs : List Chn} (h : CfAt N w v cs) (hm : N ≤ M) : CfAt M w v cs := by
  obtain ⟨p, cap, e, h⟩ := h
  refine ⟨p, cap, e, fun hn => ?_⟩
  obtain ⟨b, off, e2, hb, hB⟩ := h hn
  exact ⟨b, off, e2, by omega, fun i hi => ⟨(hB i hi).1, (hB i hi).2.1, (hB i hi).2.2.more hm⟩⟩
/-- A configuration in memory that is not too great. -/
def CfG (N : Nat) (w : World) (v : Value) : Prop := ∃ cs, CfAt N w v cs ∧ cs.length ≤ 2000000 ∧ (∀ c ∈ cs, c.bs.length ≤ 2000000) ∧ total cs ≤ 100000000
theorem CfG.later {N M : Nat} {w w' : World} {v : Value} (h : CfG N w v) (hb : Below w.heap.size w w') (hm : N ≤ M) : CfG M w' v := by
  obtain ⟨cs, c1, c2⟩ := h
  exact ⟨cs, (c1.below hb).more hm, c2⟩
theorem cfg_none (N : Nat) (w : World) : CfG N w (.slice none 0 0) := ⟨[], ⟨none, 0, rfl, fun h => absurd rfl h⟩, by simp, by simp, by simp [total]⟩
theorem OpL.more {N M : Nat} {w w' : World} {g o : Nat} (h : OpL N w g o) (hb : Below w.heap.size w w') (hm : N ≤ M) : OpL M w' g o := by
  obtain ⟨k, a, b, S, n, q, v, rom, hc, r, sl⟩ := h.later hb
  refine ⟨k, a, b, S, n, q, v, rom, hc, fun z => ?_, sl⟩
  obtain ⟨k1, a1, a2, b1, b2, cs, c1, c2⟩ := r z
  exact ⟨k1, a1, a2, b1, b2, cs, c1.more hm, c2⟩

theorem al_keep (w : World) (o : Obj) {b i : Nat} {v : Value} (h : w.cell? ⟨b, i, none⟩ = some v) : (w.alloc o).cell? ⟨b, i, none⟩ = some v := cell_later ((Below.refl _ _).alloc (Nat.le_refl _) _) h

theorem ex_cf (w : World) (o : Obj) (T U : TypeId) (W : World) (hW : W = (((w.alloc o).alloc (.cells #[.int .u8 169, .int .u8 5, .int .u8 105, .int .u8 254, .int .u8 141, .int .u8 0, .int .u8 3, .int .u8 2] T)).alloc (.cells #[.int .u8 0, .int .u8 2] T)).alloc
      (.cells #[.int .i64 512, .slice (some ⟨w.heap.size + 1, 0, none⟩) 8 8, .int .i64 65532, .slice (some ⟨w.heap.size + 1 + 1, 0, none⟩) 2 2] U)) :
    CfG W.heap.size W (.slice (some ⟨w.heap.size + 1 + 1 + 1, 0, none⟩) 2 2) := by
  subst hW
  refine ⟨[⟨512, .slice (some ⟨w.heap.size + 1, 0, none⟩) 8 8, [169, 5, 105, 254, 141, 0, 3, 2]⟩, ⟨65532, .slice (some ⟨w.heap.size + 1 + 1, 0, none⟩) 2 2, [0, 2]⟩], ⟨_, _, rfl, fun _ => ⟨w.heap.size + 1 + 1 + 1, 0, rfl, by simp, fun i hi => ?_⟩⟩, by simp, ?_, by simp [total]⟩
  · match i, hi with
    | 0, _ =>
      refine ⟨World.cell?_alloc_at _ _ _ _ (by simp), World.cell?_alloc_at _ _ _ _ (by simp), _, _, rfl, fun _ => ⟨w.heap.size + 1, 0, rfl, by simp, fun i hi => al_keep _ _ (al_keep _ _ ?_)⟩⟩
      rw [World.cell?_alloc_at _ _ _ _ (by simp)]
      match i, hi with
      | 0, _ | 1, _ | 2, _ | 3, _ | 4, _ | 5, _ | 6, _ | 7, _ => rfl
      | i + 8, hi => exact absurd hi (by simp)
    | 1, _ =>
      refine ⟨World.cell?_alloc_at _ _ _ _ (by simp), World.cell?_alloc_at _ _ _ _ (by simp), _, _, rfl, fun _ => ⟨w.heap.size + 1 + 1, 0, rfl, by simp, fun i hi => al_keep _ _ ?_⟩⟩
      rw [World.cell?_alloc_at _ _ _ _ (by simp)]
      match i, hi with
      | 0, _ | 1, _ => rfl
      | i + 2, hi => exact absurd hi (by simp)
    | i + 2, hi => exact absurd hi (by simp)
  · intro c hc
    simp only [List.mem_cons, List.not_mem_nil, or_false] at hc
    rcases hc with rfl | rfl <;> simp

theorem below4 (w : World) (o p q r : Obj) : Below w.heap.size w ((((w.alloc o).alloc p).alloc q).alloc r) := (below2 w o p).trans ((below2 _ q r).mono (by simp; omega))

theorem example_any (w : World) : Calls Tryz.prog 15 #[] w fun e w' => ∃ p l c, e = .returned (.agg #[.slice p l c, .int .i64 256]) ∧ Below w.heap.size w w' ∧ CfG w'.heap.size w' (.slice p l c) := by
  go_enter Tryz.func15, Tryz.ntmps15
  go_wp2
  go_returns
  exact ⟨_, _, _, rfl, below4 _ _ _ _ _, ex_cf _ _ _ _ _ rfl⟩

theorem ahead_c (w : World) (o : Obj) (T : TypeId) (p : Option Addr) (l c : Nat) (h : CfG w.heap.size w (.slice p l c)) (W : World)
    (hW : W = (w.alloc (.cells #[.int .i64 1, .int .i64 0, .int .i64 0, .string ⟨#[]⟩, .bool false, .bool false, .slice p l c, .int .i64 256, .int .i64 2, .int .i64 0, .int .i64 10, .string ⟨#[]⟩, .bool false, .bool false, .slice none 0 0, .int .i64 0, .int .i64 3, .int .i64 0, .int .i64 0, .string ⟨#[]⟩, .bool false, .bool false, .slice none 0 0, .int .i64 0] T)).alloc o) :
    ∀ i, i < 3 → OpL W.heap.size W w.heap.size (i * 8) ∧ ∀ k, W.cell? ⟨w.heap.size, i * 8, none⟩ = some (.int .i64 k) → k = 1 ∨ k = 2 ∨ k = 3 ∨ k = 4 := by
  subst hW
  intro i hi
  have hk : ∀ (w' : World) (j : Nat) (k k' : Int), w'.cell? ⟨w.heap.size, j, none⟩ = some (.int .i64 k') → w'.cell? ⟨w.heap.size, j, none⟩ = some (.int .i64 k) → k = k' := by
    intro w' j k k' a b
    rw [a] at b
    injection b with b
    injection b with _ b
    exact b.symm
  match i, hi with
  | 0, _ => exact ⟨⟨1, 0, 0, ⟨#[]⟩, false, false, .slice p l c, 256, ⟨al_keep _ _ (World.cell?_alloc_at _ _ _ _ rfl), al_keep _ _ (World.cell?_alloc_at _ _ _ _ rfl), al_keep _ _ (World.cell?_alloc_at _ _ _ _ rfl), al_keep _ _ (World.cell?_alloc_at _ _ _ _ rfl), al_keep _ _ (World.cell?_alloc_at _ _ _ _ rfl), al_keep _ _ (World.cell?_alloc_at _ _ _ _ rfl), al_keep _ _ (World.cell?_alloc_at _ _ _ _ rfl), al_keep _ _ (World.cell?_alloc_at _ _ _ _ rfl)⟩, fun z => ⟨z, by decide, by decide, by decide, by decide, h.later (below2 _ _ _) (by simp; omega)⟩, _, _, _, rfl⟩, fun k q => .inl (hk _ _ _ _ (al_keep _ _ (World.cell?_alloc_at _ _ _ _ rfl)) q)⟩
  | 1, _ => exact ⟨⟨2, 0, 10, ⟨#[]⟩, false, false, .slice none 0 0, 0, ⟨al_keep _ _ (World.cell?_alloc_at _ _ _ _ rfl), al_keep _ _ (World.cell?_alloc_at _ _ _ _ rfl), al_keep _ _ (World.cell?_alloc_at _ _ _ _ rfl), al_keep _ _ (World.cell?_alloc_at _ _ _ _ rfl), al_keep _ _ (World.cell?_alloc_at _ _ _ _ rfl), al_keep _ _ (World.cell?_alloc_at _ _ _ _ rfl), al_keep _ _ (World.cell?_alloc_at _ _ _ _ rfl), al_keep _ _ (World.cell?_alloc_at _ _ _ _ rfl)⟩, fun z => ⟨z, by decide, by decide, by decide, by decide, cfg_none _ _⟩, _, _, _, rfl⟩, fun k q => .inr (.inl (hk _ _ _ _ (al_keep _ _ (World.cell?_alloc_at _ _ _ _ rfl)) q))⟩
  | 2, _ => exact ⟨⟨3, 0, 0, ⟨#[]⟩, false, false, .slice none 0 0, 0, ⟨al_keep _ _ (World.cell?_alloc_at _ _ _ _ rfl), al_keep _ _ (World.cell?_alloc_at _ _ _ _ rfl), al_keep _ _ (World.cell?_alloc_at _ _ _ _ rfl), al_keep _ _ (World.cell?_alloc_at _ _ _ _ rfl), al_keep _ _ (World.cell?_alloc_at _ _ _ _ rfl), al_keep _ _ (World.cell?_alloc_at _ _ _ _ rfl), al_keep _ _ (World.cell?_alloc_at _ _ _ _ rfl), al_keep _ _ (World.cell?_alloc_at _ _ _ _ rfl)⟩, fun z => ⟨z, by decide, by decide, by decide, by decide, cfg_none _ _⟩, _, _, _, rfl⟩, fun k q => .inr (.inr (.inl (hk _ _ _ _ (al_keep _ _ (World.cell?_alloc_at _ _ _ _ rfl)) q)))⟩
  | i + 3, hi => exact absurd hi (by omega)

theorem kinds_c (w : World) (o : Obj) (T : TypeId) : ∀ i : Nat, i < 4 → ((w.alloc o).alloc (.cells #[.int .i64 1, .int .i64 2, .int .i64 3, .int .i64 4] T)).cell? ⟨w.heap.size + 1, i, none⟩ = some (.int .i64 (1 + (i : Int))) := by
  intro i hi
  rw [World.cell?_alloc_at _ _ _ _ (by simp)]
  match i, hi with
  | 0, _ | 1, _ | 2, _ | 3, _ => rfl
  | i + 4, hi => exact absurd hi (by omega)

theorem cycles_any (w : World) (sa : Option Addr) (sb so len cap : Nat)
    (hS : len = 0 ∨ (sa = some ⟨sb, so, none⟩ ∧ ∀ i, i < len → OpL w.heap.size w sb (so + i * 8))) (hlen : len ≤ 1048576) :
    Calls Tryz.prog 3 #[.slice sa len cap] w fun e w' => e = .returned (.bool true) ∧ Below w.heap.size w w' := by
  have HS : Hid (len = 0 ∨ (sa = some ⟨sb, so, none⟩ ∧ ∀ i, i < len → OpL w.heap.size w sb (so + i * 8))) := hS
  clear hS
  go_enter Tryz.func3, Tryz.ntmps3
  go_wp2_with fail
  refine (example_any _).mono ?_
  rintro e w1 ⟨p, l, c, rfl, hb, hC⟩
  have HB : Hid (Below w.heap.size w w1 ∧ CfG w1.heap.size w1 (.slice p l c)) := ⟨hb, hC⟩
  clear hb hC
  go_wp2_with fail
  refine (playsC _ w1.heap.size (w1.heap.size + 1) sa sb so len cap ?_ ?_ ?_ hlen).mono ?_
  · exact ahead_c w1 _ _ p l c HB.out.2 _ rfl
  · exact kinds_c w1 _ _
  · rcases HS.out with h | ⟨h, h2⟩
    · exact .inl h
    · exact .inr ⟨h, fun i hi => (h2 i hi).more (HB.out.1.trans ((below2 _ _ _).mono HB.out.1.size)) (by have := HB.out.1.size; simp; omega)⟩
  · rintro e w2 ⟨rfl, hb⟩
    have HB2 : Hid (Below w.heap.size w w2) := HB.out.1.trans (((below2 _ _ _).mono HB.out.1.size).trans (hb.mono (by have := HB.out.1.size; simp; omega)))
    clear hb
    go_wp2
    go_ret
    exact ⟨rfl, HB2.out⟩
end

end Go.Proofs.YtcgjliflnnklnaaGreat
