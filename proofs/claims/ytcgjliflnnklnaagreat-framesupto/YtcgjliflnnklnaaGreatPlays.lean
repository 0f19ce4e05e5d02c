/-
  The play of a script.
-/
import Derived.Test.YtcgjliflnnklnaaGreatBoot
namespace Go.Proofs.YtcgjliflnnklnaaGreat
open Go.RowKit

/-- A step of a script, as it lies in memory. -/
def OpAt (p : Int → Prop) (w : World) (g o : Nat) : Prop := ∃ (k a b : Int) (S : ByteArray) (n q : Bool) (ca : Option Addr) (cl cc : Nat) (rom : Int),
  w.cell? ⟨g, o, none⟩ = some (.int .i64 k) ∧ w.cell? ⟨g, o + 1, none⟩ = some (.int .i64 a) ∧ w.cell? ⟨g, o + 2, none⟩ = some (.int .i64 b) ∧ w.cell? ⟨g, o + 3, none⟩ = some (.string S) ∧ w.cell? ⟨g, o + 4, none⟩ = some (.bool n) ∧ w.cell? ⟨g, o + 5, none⟩ = some (.bool q) ∧ w.cell? ⟨g, o + 6, none⟩ = some (.slice ca cl cc) ∧ w.cell? ⟨g, o + 7, none⟩ = some (.int .i64 rom) ∧
  S.size ≤ 4000000 ∧ -9223372036854775808 ≤ a ∧ a ≤ 9223372036854775807 ∧ p k

theorem OpAt.later {p : Int → Prop} {w w' : World} {g o : Nat} (h : OpAt p w g o) (hb : Below w.heap.size w w') : OpAt p w' g o := by
  obtain ⟨k, a, b, S, n, q, ca, cl, cc, rom, h0, h1, h2, h3, h4, h5, h6, h7, r⟩ := h
  exact ⟨k, a, b, S, n, q, ca, cl, cc, rom, cell_later hb h0, cell_later hb h1, cell_later hb h2, cell_later hb h3, cell_later hb h4, cell_later hb h5, cell_later hb h6, cell_later hb h7, r⟩

theorem inf_pS : (Tryz.prog.info? 83).map (fun i => (i.zero, i.size, i.bytes)) = some (some (.pointer none), 1, 8) := by kernel_rfl
theorem inf_pR : (Tryz.prog.info? 85).map (fun i => (i.zero, i.size, i.bytes)) = some (some (.pointer none), 1, 8) := by kernel_rfl
theorem und_pS : Tryz.prog.underlying 75 = some (.slice 83) := by kernel_rfl
theorem und_pR : Tryz.prog.underlying 76 = some (.slice 85) := by kernel_rfl

theorem boot_new (w : World) : Boot w w.heap.size (fun _ => 0) (fun _ => 0) (fun _ => 0) 0 0 (.slice none 0 0) (.slice none 0 0) (w.alloc (.cells #[.slice none 0 0, .slice none 0 0, .slice none 0 0, .slice none 0 0, .slice none 0 0, .slice none 0 0] 82)) :=
  ⟨(Below.refl _ _).alloc (Nat.le_refl _) _, Nat.le_refl _, fun i hi => absurd hi (by omega), fun i hi => absurd hi (by omega), heap_alloc_new w _, World.ownsRow_nil _ _ _ _, World.ownsRow_nil _ _ _ _, fun i hi => absurd hi (by omega), fun i hi => absurd hi (by omega), rfl, fun g e => by simp [Value.ownBlock] at e, fun g e => by simp [Value.ownBlock] at e, fun i hi => absurd hi (by omega), fun i hi => absurd hi (by omega)⟩

theorem rs_new (w : World) (t : TypeId) : RsAt (w.alloc (.cells #[.string ⟨#[]⟩, .bool false, .int .i64 0] t)) w.heap.size sc00 :=
  ⟨by simp [sc00], by simp [sc00], ⟨World.cell?_alloc_at _ _ _ _ rfl, World.cell?_alloc_at _ _ _ _ rfl, World.cell?_alloc_at _ _ _ _ rfl, fun o => World.frozen?_alloc_at _ _ _ _ rfl⟩⟩

theorem one_new3 (w : World) (o : Obj) (x : Value) (t : TypeId) (n : Nat) (hn : n = w.heap.size + 1) : ∀ j u, [x][j]? = some u → ((w.alloc o).alloc (.cells #[x] t)).cell? ((⟨n, 0, none⟩ : Addr).add j) = some u := by
  have := one_new' (w.alloc o) x t
  rw [hn]
  simpa using this

theorem ptr_one (n : Nat) : ∀ u ∈ [Value.pointer (some ⟨n, 0, none⟩)], u.oneCell' = true := by
  intro u hu; simp at hu; subst hu; rfl

/-- What m steps leave. -/
def Played (w : World) (f : Fix) (m : Nat) (wr : World) : Prop := ∃ s vb vp nb np, nb ≤ 2 * m ∧ np ≤ m ∧ Inv w f No s s vb vp nb np wr

/-- Is the kind among the first m of 5, 6? -/
def inb (k : Int) (m : Nat) : Bool := decide (5 ≤ k ∧ k < 5 + (m : Int))

theorem inb_zero (k : Int) : inb k 0 = false := by simp [inb]
theorem inb_more {k : Int} {m : Nat} (h : inb k m = true) : inb k (m + 1) = true := by simp [inb] at *; omega
theorem inb_next {k : Int} {m : Nat} (h : inb k m = false) : inb k (m + 1) = (k == 5 + (m : Int)) := by
  simp only [inb, decide_eq_false_iff_not] at h
  by_cases e : k = 5 + (m : Int)
  · simp [inb, e]; omega
  · have h1 : (k == 5 + (m : Int)) = false := by simpa using e
    rw [h1]; simp [inb]; omega

section
variable {w0 : World} {W : Nat} {tag : Nat → Nat} {B R : Nat → Nat} {ks kr : Nat} {vs vr : Value} {w : World}
theorem Boot.cell (h : Boot w0 W tag B R ks kr vs vr w) : w.cell? ⟨W, 2, none⟩ = some vs ∧ w.cell? ⟨W, 3, none⟩ = some vr ∧ ∀ o, w.frozen? ⟨W, o, none⟩ = false := by
  have hc : ∀ o, w.cell? ⟨W, o, none⟩ = _ := fun o => cell_of_row w W o _ _ (0, 0) h.blk
  exact ⟨hc 2, hc 3, fun o => by simp [World.frozen?, h.blk]⟩
theorem Boot.shape (h : Boot w0 W tag B R ks kr vs vr w) : ∃ aS cs ar cr, vs = .slice aS ks cs ∧ vr = .slice ar kr cr := by
  have one : ∀ {te n : Nat} {v : Value} {xs : List Value}, w.ownsRow w0.heap.size te 1 v n xs → ∃ a c, v = .slice a n c := by
    intro te n v xs h
    rcases h.2 with ⟨rfl, rfl⟩ | ⟨g, cap, _, rfl, _⟩
    · exact ⟨_, _, rfl⟩
    · exact ⟨_, _, rfl⟩
  obtain ⟨a, c, e⟩ := one h.oS
  obtain ⟨a', c', e'⟩ := one h.oR
  exact ⟨a, c, a', c', e, e'⟩
theorem Boot.keptS {w3 : World} (h : Boot w0 W tag B R ks kr vs vr w) (hg : w.grownBy w3 vs.ownBlock) : w3.cell? ⟨W, 2, none⟩ = some vs ∧ w3.frozen? ⟨W, 2, none⟩ = false ∧ w3.cell? ⟨W, 3, none⟩ = some vr ∧ W < w3.heap.size := by
  have hb := hg.block W h.wlt (fun e => by have h1 := h.tS W e.symm; have h2 := h.tW; omega)
  exact ⟨(World.cell?_of_block (a := ⟨W, 2, none⟩) hb).trans h.cell.1, (World.frozen?_of_block (a := ⟨W, 2, none⟩) hb).trans (h.cell.2.2 2), (World.cell?_of_block (a := ⟨W, 3, none⟩) hb).trans h.cell.2.1, Nat.lt_of_lt_of_le h.wlt hg.size⟩
theorem Boot.more (h : Boot w0 W tag B R ks kr vs vr w) (o p : Obj) : ∃ tag', Boot w0 W tag' B R ks kr vs vr ((w.alloc o).alloc p) ∧ tag' w.heap.size = 4 + 2 * kr :=
  ⟨fun g => if g = w.heap.size then 4 + 2 * kr else tag g, (h.tagged (fun g hl => if_neg (by omega))).below (below2 _ _ _), if_pos rfl⟩
theorem Boot.endR {w3 : World} {k g' cap' : Nat} (h : Boot w0 W tag B R ks k vs vr w) (o : Obj) (t : TypeId) (n : Nat) (hn : n = w.heap.size)
    (hown : w3.ownsRow w0.heap.size 85 1 (.slice (some ⟨g', 0, none⟩) (k + 1) cap') (k + 1) (ptrs R k ++ [ptr n])) (hg : ((w.alloc (.cells #[.string ⟨#[]⟩, .bool false, .int .i64 0] t)).alloc o).grownBy w3 vr.ownBlock) (hat : vr.ownBlock = some g' ∨ g' = ((w.alloc (.cells #[.string ⟨#[]⟩, .bool false, .int .i64 0] t)).alloc o).heap.size) :
    ∃ tag R', Boot w0 W tag B R' ks (k + 1) vs (.slice (some ⟨g', 0, none⟩) (k + 1) cap') (w3.setCell ⟨W, 3, none⟩ (.slice (some ⟨g', 0, none⟩) (k + 1) cap')) := by
  subst hn
  obtain ⟨tag', hB, ht⟩ := h.more (.cells #[.string ⟨#[]⟩, .bool false, .int .i64 0] t) o
  exact ⟨_, _, hB.pushR ((rs_new w t).sameBlock (Below.heap_alloc _ _ _ (by simp))) h.bel.size ht hown hg hat⟩
theorem Boot.keptR {w3 : World} (h : Boot w0 W tag B R ks kr vs vr w) (hg : w.grownBy w3 vr.ownBlock) : w3.cell? ⟨W, 3, none⟩ = some vr ∧ w3.frozen? ⟨W, 3, none⟩ = false := by
  have hb := hg.block W h.wlt (fun e => by have h1 := h.tR W e.symm; have h2 := h.tW; omega)
  exact ⟨(World.cell?_of_block (a := ⟨W, 3, none⟩) hb).trans h.cell.2.1, (World.frozen?_of_block (a := ⟨W, 3, none⟩) hb).trans (h.cell.2.2 3)⟩
end

set_option maxRecDepth 100000 in
set_option maxHeartbeats 2000000 in
theorem plays_any (w : World) (ga gk : Nat) (sa : Option Addr) (sb so len cap : Nat) (hA : ∀ i, i < 2 → OpAt (fun k => k = 5 ∨ k = 6) w ga (i * 8)) (hK : ∀ i : Nat, i < 2 → w.cell? ⟨gk, i, none⟩ = some (.int .i64 (5 + (i : Int))))
    (hS : len = 0 ∨ (sa = some ⟨sb, so, none⟩ ∧ ∀ i, i < len → OpAt (fun _ => True) w sb (so + i * 8))) (hlen : len ≤ 1048576) :
    Calls Tryz.prog 14 #[.slice (some ⟨ga, 0, none⟩) 2 2, .slice sa len cap, .slice (some ⟨gk, 0, none⟩) 2 2] w fun e w' => e = .returned (.bool true) ∧ Below w.heap.size w w' := by
  have HG : Hid ((∀ i, i < 2 → OpAt (fun k => k = 5 ∨ k = 6) w ga (i * 8)) ∧ (∀ i : Nat, i < 2 → w.cell? ⟨gk, i, none⟩ = some (.int .i64 (5 + (i : Int)))) ∧ (len = 0 ∨ (sa = some ⟨sb, so, none⟩ ∧ ∀ i, i < len → OpAt (fun _ => True) w sb (so + i * 8)))) := ⟨hA, hK, hS⟩
  clear hA hK hS
  go_enter Tryz.func14, Tryz.ntmps14
  go_wp2
  go_loopw [8] (fun i wr => ∃ (k : Nat) (tag B R : Nat → Nat) (vs vr : Value), k ≤ 2 ∧ i = .int .i64 k ∧ Boot w w.heap.size tag B R k k vs vr wr) (fun i _ => 2 - (intOf i).toNat)
  case atStart => exact ⟨0, _, _, _, _, _, by omega, rfl, boot_new w⟩
  case round =>
    obtain ⟨k, tag, B, R, vs, vr, hk, rfl, hB⟩ := hrel
    obtain ⟨aS, cs, ar, cr, rfl, rfl⟩ := hB.shape
    by_cases hlt : k < 2
    · have HB : Hid (Boot w w.heap.size tag B R k k (.slice aS k cs) (.slice ar k cr) wr) := hB
      clear hB
      obtain ⟨iS, hiS, hzS0, hzS1, hzS2⟩ := info_parts inf_pS
      obtain ⟨iR, hiR, hzR0, hzR1, hzR2⟩ := info_parts inf_pR
      go_wp2_with fail
      refine (newScan_any _).mono ?_
      rintro e w1 ⟨rfl, hsc, hg1, hsz1⟩
      have hb1 : Below wr.heap.size wr w1 := ⟨hg1.os, hg1.tape, hg1.output, hg1.size, fun j hj => hg1.block j hj (by simp)⟩
      have HB1 : Hid (Boot w w.heap.size (fun g => if g = wr.heap.size then 3 + 2 * k else tag g) B R k k (.slice aS k cs) (.slice ar k cr) w1 ∧ ScAt w1 wr.heap.size sc00 ∧ w.heap.size ≤ wr.heap.size ∧ wr.heap.size < w1.heap.size) :=
        ⟨(HB.out.tagged (fun g hl => if_neg (by omega))).below hb1, hsc, HB.out.bel.size, by omega⟩
      clear hb1 hsc hg1 hsz1 HB
      have c2 := HB1.out.1.cell.1
      have f2 := HB1.out.1.cell.2.2 2
      have hWl := HB1.out.1.wlt
      go_wp2_with (first
        | (at_builtin; (refine wpList_append_lies _ rfl (.tmp 29) (.tmp 31) 75 rfl w.heap.size 83 iS _ 1 8 und_pS hiS hzS0 hzS1 hzS2 rfl (by decide) (.slice aS k cs) k (ptrs B k) rfl ?_ ⟨w1.heap.size, 0, none⟩ 1 1 [ptr wr.heap.size] rfl rfl (one_new' _ _ _) (ptr_one _) (by decide) ?_ ?_ ?_ _ rfl ?_; exact (HB1.out.1.below ((Below.refl _ _).alloc (Nat.le_refl _) _)).oS; (unfold maxLen; omega); omega; (have := HB1.out.2.2; simp; omega); intro g' cap' w3 hown' hgrow hat hlt'; have hBA := HB1.out.1.below ((Below.refl w1.heap.size w1).alloc (Nat.le_refl _) (.cells #[ptr wr.heap.size] 83)); obtain ⟨j2, jf, j3, jl⟩ := hBA.keptS hgrow; have HB2 : Hid (∃ tag B, Boot w w.heap.size tag B R (k + 1) k (.slice (some ⟨g', 0, none⟩) (k + 1) cap') (.slice ar k cr) (w3.setCell ⟨w.heap.size, 2, none⟩ (.slice (some ⟨g', 0, none⟩) (k + 1) cap'))) := ⟨_, _, hBA.pushS (HB1.out.2.1.sameBlock (Below.heap_alloc _ _ _ HB1.out.2.2.2)) HB1.out.2.2.1 (if_pos rfl) hown' hgrow hat⟩; clear hBA hown' hgrow hat hlt' HB1 c2 f2 hWl))
        | (at_builtin; go_must (refine wpList_append_lies _ rfl (.tmp 39) (.tmp 42) 76 rfl w.heap.size 85 iR _ 1 8 und_pR hiR hzR0 hzR1 hzR2 rfl (by decide) (.slice ar k cr) k (ptrs R k) rfl ?_ ⟨w3.heap.size + 1, 0, none⟩ 1 1 [ptr w3.heap.size] rfl rfl (one_new3 _ _ _ _ _ (by simp)) (ptr_one _) (by decide) ?_ ?_ ?_ _ rfl ?_; (obtain ⟨tag2, B2, h2⟩ := HB2.out; exact (h2.below (below2 _ _ _)).oR); (unfold maxLen; omega); omega; (obtain ⟨tag2, B2, h2⟩ := HB2.out; have := h2.bel.size; simp at this; simp; omega); intro g2 cap2 w5 hown' hgrow hat hlt'; obtain ⟨tag2, B2, h2⟩ := HB2.out; obtain ⟨j5, j5f⟩ := (h2.below (below2 _ _ _)).keptR hgrow; have HB3 : Hid (∃ tag R, Boot w w.heap.size tag B2 R (k + 1) (k + 1) (.slice (some ⟨g', 0, none⟩) (k + 1) cap') (.slice (some ⟨g2, 0, none⟩) (k + 1) cap2) (w5.setCell ⟨w.heap.size, 3, none⟩ (.slice (some ⟨g2, 0, none⟩) (k + 1) cap2))) := h2.endR _ _ _ (by simp) hown' hgrow hat; clear h2 hown' hgrow hat hlt' HB2 j2 jf j3 jl)))
      go_roundw
      case rel =>
        obtain ⟨tag3, R3, h3⟩ := HB3.out
        exact ⟨k + 1, tag3, B2, R3, _, _, by omega, by go_num, h3⟩
      case measure => simp [intOf]; omega
    · obtain ⟨f, hfW, hI⟩ : ∃ f : Fix, f.W = w.heap.size ∧ Inv w f No (fun _ => sc00) (fun _ => sc00) (.slice none 0 0) (.slice none 0 0) 0 0 wr := by
        have hk2 : k = 2 := by omega
        subst hk2
        exact hB.inv
      have HW : Hid (f.W = w.heap.size) := hfW
      have HP : Hid (Played w f 0 wr) := ⟨_, _, _, _, _, Nat.le_refl _, Nat.le_refl _, hI⟩
      clear hB hI hfW
      go_wp2_with fail
      go_loopw [10, 11] (fun i _ wq => ∃ k : Nat, k ≤ 2 ∧ i = .int .i64 k ∧ Played w f k wq) (fun i _ _ => 2 - (intOf i).toNat)
      case atStart => exact ⟨0, by omega, rfl, HP.out⟩
      case round =>
        clear HP hk hlt
        obtain ⟨k1, hk1, rfl, hP⟩ := hrel
        by_cases hlt1 : k1 < 2
        · obtain ⟨s, vb, vp, nb, np, hnb, hnp, hI⟩ := hP
          obtain ⟨k, a, b, S, n, q, ca, cl, cc, rom, c0, c1, c2, c3, c4, c5, c6, c7, hS, ha1, ha2, hkk⟩ := (HG.out.1 k1 hlt1).later hI.bel
          have HQ : Hid (∀ u, u = wr → Calls Tryz.prog 31 #[.pointer (some ⟨w.heap.size, 0, none⟩), .agg #[.int .i64 k, .int .i64 a, .int .i64 b, .string S, .bool n, .bool q, .slice ca cl cc, .int .i64 rom]] u fun e w' => e = .returned (.bool true) ∧ Stepped w f nb np w') := by
            have := step_any w f s vb vp nb np wr k a b S n q ca cl cc rom hI (by omega) (by omega) hS ha1 ha2 hkk
            rw [HW.out] at this
            rintro u rfl
            exact this
          clear hI hS ha1 ha2 hkk
          go_wp2_with fail
          refine (HQ.out _ rfl).mono ?_
          rintro e w2 ⟨rfl, s2, vb2, vp2, nb2, np2, hnb2, hnp2, hI2⟩
          have HI2 : Hid (Played w f (k1 + 1) w2) := ⟨s2, vb2, vp2, nb2, np2, by omega, by omega, hI2⟩
          clear hI2 HQ c0 c1 c2 c3 c4 c5 c6 c7 hnb hnp hnb2 hnp2
          go_wp2_with fail
          go_roundw
          case rel => exact ⟨k1 + 1, by omega, by go_num, HI2.out⟩
          case measure => simp [intOf]; omega
        · have HP : Hid (Played w f 2 wr) := by
            have hk2 : k1 = 2 := by omega
            subst hk2
            exact hP
          clear hP
          go_wp2_with fail
          go_loopw [12, 13, 14, 15] (fun i _ _ _ wq => ∃ k : Nat, k ≤ len ∧ i = .int .i64 k ∧ Played w f (2 + k) wq) (fun i _ _ _ _ => len - (intOf i).toNat)
          case atStart => exact ⟨0, by omega, rfl, HP.out⟩
          case round =>
            clear HP hk1 hlt1
            obtain ⟨k1, hk1, rfl, hP⟩ := hrel
            by_cases hlt1 : k1 < len
            · obtain ⟨s, vb, vp, nb, np, hnb, hnp, hI⟩ := hP
              obtain ⟨rfl, hops⟩ : sa = some ⟨sb, so, none⟩ ∧ ∀ i, i < len → OpAt (fun _ => True) w sb (so + i * 8) := by
                rcases HG.out.2.2 with h | h
                · omega
                · exact h
              obtain ⟨kk, a, b, S, n, q, ca, cl, cc, rom, HC⟩ := hops k1 hlt1
              have HD : Hid (w.cell? ⟨sb, so + k1 * 8, none⟩ = some (.int .i64 kk) ∧ w.cell? ⟨sb, so + k1 * 8 + 1, none⟩ = some (.int .i64 a) ∧ w.cell? ⟨sb, so + k1 * 8 + 2, none⟩ = some (.int .i64 b) ∧ w.cell? ⟨sb, so + k1 * 8 + 3, none⟩ = some (.string S) ∧ w.cell? ⟨sb, so + k1 * 8 + 4, none⟩ = some (.bool n) ∧ w.cell? ⟨sb, so + k1 * 8 + 5, none⟩ = some (.bool q) ∧ w.cell? ⟨sb, so + k1 * 8 + 6, none⟩ = some (.slice ca cl cc) ∧ w.cell? ⟨sb, so + k1 * 8 + 7, none⟩ = some (.int .i64 rom) ∧ S.size ≤ 4000000 ∧ -9223372036854775808 ≤ a ∧ a ≤ 9223372036854775807 ∧ True) := HC
              have HI : Hid (Inv w f No s s vb vp nb np wr) := hI
              clear hI HC hops
              go_wp2_with fail
              go_loopw [13, 14] (fun b j wq => ∃ m : Nat, m ≤ 2 ∧ j = .int .i64 m ∧ b = .bool (inb kk m) ∧ Inv w f No s s vb vp nb np wq) (fun _ j _ => 2 - (intOf j).toNat)
              case atStart => exact ⟨0, by omega, rfl, by rw [inb_zero], HI.out⟩
              case round =>
                clear HI
                obtain ⟨m, hm, rfl, rfl, hI⟩ := hrel
                have HI : Hid (Inv w f No s s vb vp nb np wr) := hI
                by_cases hlt2 : m < 2
                · have d0 := cell_later hI.bel HD.out.1
                  have e0 := cell_later hI.bel (HG.out.2.1 m hlt2)
                  clear hI
                  obtain ⟨bb, hbb⟩ : ∃ bb, inb kk m = bb := ⟨_, rfl⟩
                  rw [hbb]
                  cases bb
                  · go_wp2_with fail
                    go_quiet (fail)
                    have HI2 : Hid (Inv w f No s s vb vp nb np (wr.drewN nq)) := HI.out.below (below_drewN (Below.refl _ _) nq)
                    clear HI d0 e0
                    go_wp2_with fail
                    go_roundw
                    case rel => exact ⟨m + 1, by omega, by go_num, by rw [inb_next hbb], HI2.out⟩
                    case measure => simp [intOf]; omega
                  · go_wp2_with fail
                    go_quiet (fail)
                    have HI2 : Hid (Inv w f No s s vb vp nb np (wr.drewN nq)) := HI.out.below (below_drewN (Below.refl _ _) nq)
                    clear HI d0 e0
                    go_wp2_with fail
                    go_roundw
                    case rel => exact ⟨m + 1, by omega, by go_num, by rw [inb_more hbb], HI2.out⟩
                    case measure => simp [intOf]; omega
                · clear hI
                  obtain ⟨bb, hbb⟩ : ∃ bb, inb kk m = bb := ⟨_, rfl⟩
                  rw [hbb]
                  cases bb
                  · go_wp2_with fail
                    go_roundw
                    case rel => exact ⟨k1 + 1, by omega, by go_num, s, vb, vp, nb, np, by omega, by omega, HI.out⟩
                    case measure => simp [intOf]; omega
                  · have hkk : kk = 5 ∨ kk = 6 := by simp [inb] at hbb; omega
                    have HQ : Hid (∀ u, u = wr → Calls Tryz.prog 31 #[.pointer (some ⟨w.heap.size, 0, none⟩), .agg #[.int .i64 kk, .int .i64 a, .int .i64 b, .string S, .bool n, .bool q, .slice ca cl cc, .int .i64 rom]] u fun e w' => e = .returned (.bool true) ∧ Stepped w f nb np w') := by
                      have := step_any w f s vb vp nb np wr kk a b S n q ca cl cc rom HI.out (by omega) (by omega) HD.out.2.2.2.2.2.2.2.2.1 HD.out.2.2.2.2.2.2.2.2.2.1 HD.out.2.2.2.2.2.2.2.2.2.2.1 hkk
                      rw [HW.out] at this
                      rintro u rfl
                      exact this
                    have d0 := cell_later HI.out.bel HD.out.1
                    have d1 := cell_later HI.out.bel HD.out.2.1
                    have d2 := cell_later HI.out.bel HD.out.2.2.1
                    have d3 := cell_later HI.out.bel HD.out.2.2.2.1
                    have d4 := cell_later HI.out.bel HD.out.2.2.2.2.1
                    have d5 := cell_later HI.out.bel HD.out.2.2.2.2.2.1
                    have d6 := cell_later HI.out.bel HD.out.2.2.2.2.2.2.1
                    have d7 := cell_later HI.out.bel HD.out.2.2.2.2.2.2.2.1
                    clear hkk hbb HI
                    go_wp2_with fail
                    refine (HQ.out _ rfl).mono ?_
                    rintro e w2 ⟨rfl, s2, vb2, vp2, nb2, np2, hnb2, hnp2, hI2⟩
                    have HI2 : Hid (Inv w f No s2 s2 vb2 vp2 nb2 np2 w2) := hI2
                    have HL : Hid (∀ u, u = w2 → Calls Tryz.prog 32 #[.pointer (some ⟨w.heap.size, 4, none⟩)] u fun e w' => e = .returned (.bool true) ∧ Below u.heap.size u w') := by
                      have := looks_any w f No s2 s2 vb2 vp2 nb2 np2 w2 hI2 (by omega) (by omega)
                      rw [HW.out] at this
                      rintro u rfl
                      exact this
                    clear hI2 HQ d0 d1 d2 d3 d4 d5 d6 d7
                    go_wp2_with fail
                    refine (HL.out _ rfl).mono ?_
                    rintro e w3 ⟨rfl, hb3⟩
                    have HI3 : Hid (Inv w f No s2 s2 vb2 vp2 nb2 np2 w3) := HI2.out.below hb3
                    clear hb3 HL HI2
                    go_wp2_with fail
                    go_roundw
                    case rel => exact ⟨k1 + 1, by omega, by go_num, s2, vb2, vp2, nb2, np2, by omega, by omega, HI3.out⟩
                    case measure => simp [intOf]; omega
            · obtain ⟨s, vb, vp, nb, np, hnb, hnp, hI⟩ := hP
              have HI : Hid (Below w.heap.size w wr) := hI.bel
              clear hI
              go_wp2
              go_ret
              exact ⟨rfl, HI.out⟩

end Go.Proofs.YtcgjliflnnklnaaGreat
