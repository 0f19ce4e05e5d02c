/-
  Joined texts.
-/
import Derived.Test.YtcgjliflnnklnaaGreatJ02
namespace Go.Proofs.YtcgjliflnnklnaaGreat
open Go.RowKit

/-
  Instructions with an index that may cross a page: each cycle of the program is the document's.
-/
section
theorem Outer.trans {a b c : PC} (h : Outer a b) (k : Outer b c) : Outer a c := ⟨h.mem.trans k.mem, h.rom.trans k.rom, h.cnt.trans k.cnt, h.calls.trans k.calls, h.on.trans k.on, h.due.trans k.due, h.cyc.trans k.cyc⟩
theorem look_outer (t s : PC) (a : Int) (h : Outer t s) : t.look a = s.look a := by unfold PC.look; rw [h.cnt, h.calls, h.mem]
theorem busOf_outer (t s : PC) (a : Act) (h : Outer t s) : (t.busOf a).2 = (s.busOf a).2 ∧ Outer (t.busOf a).1 (s.busOf a).1 := by
  unfold PC.busOf
  by_cases e : a.wr = true
  · rw [if_pos e, if_pos e]; exact write_outer t s _ _ h
  · rw [if_neg e, if_neg e]
    refine ⟨?_, read1_outer t s _ h⟩
    show (⟨a.addr, t.look a.addr, false, false⟩ : BusI) = ⟨a.addr, s.look a.addr, false, false⟩
    rw [look_outer t s _ h]

/-- Alike from without, and behind. -/
theorem Good.of {M : PC → List Int → Prop} {t s s' : PC} {b : BusI} {r : RG} {i m : Nat} {op md : BA} {h : List Int} (hO : Outer t s) (hb : ∀ q, Beh s q → Beh t q) (g : Good M t s' b r i m op md h) : Good M s s' b r i m op md h := by
  obtain ⟨o1, o2⟩ := busOf_outer t s (nextR op md r h).1 hO
  obtain ⟨g1, g2, g3⟩ := g
  refine ⟨g1.trans o1, g2.trans o2, ?_⟩
  rcases g3 with ⟨a, b, c, d⟩ | ⟨a, b⟩
  · exact .inl ⟨a, b, fun q hq => c q (hb q hq), d⟩
  · exact .inr ⟨a, b⟩

theorem turn_acc (t : PC) (irq : Bool) (h : t.st = 2) : t.turn irq = t.access := by
  unfold PC.turn; rw [if_neg (by rw [h]; decide), if_pos h]

theorem g_idx (s : PC) (k a A : Int) : Gath s ((({ s with step := k, ad := A, st := 2 } : PC).read a).1) (({ s with step := k, ad := A, st := 2 } : PC).read a).2 a ∧ ((({ s with step := k, ad := A, st := 2 } : PC).read a).1).st = 2 ∧ ((({ s with step := k, ad := A, st := 2 } : PC).read a).1).ad = A ∧ ((({ s with step := k, ad := A, st := 2 } : PC).read a).1).pc = s.pc := by
  have K := read1_kept ({ s with step := k, ad := A, st := 2 } : PC) a
  have O := read1_outer ({ s with step := k, ad := A, st := 2 } : PC) s a ⟨rfl, rfl, rfl, rfl, rfl, rfl, rfl⟩
  exact ⟨⟨rfl, O, K.a, K.x, K.y, K.sp, K.p, K.ins, K.md, K.ba, K.bx, K.b_y, K.bs, K.bp, K.bpc⟩, K.st, K.ad, K.pc⟩

/-- The cycle in which an index is added. -/
theorem idx_good (s : PC) (r : RG) (i m : Nat) (h : List Int) (lo hi' idx k : Int) (at_ : Nat) (irq : Bool) (hL : Live s r i m) (hR : Rg r) (hB : Bytes_ s) (hi : i < 56) (hok : okPair i m = true) (h4 : 4 ≤ m) (h11 : m ≤ 11)
    (hlo : 0 ≤ lo ∧ lo < 256) (had : s.ad = lo + 256 * hi') (hS : s.s = r.S) (hpc : s.pc = (r.PC + sizeR (modeName m)) % 65536) (hH : ∀ k, 0 ≤ hd h k ∧ hd h k < 256)
    (hlen : h.length = at_) (hat : 1 ≤ at_) (hpl : ∀ l : List Int, placeR (insName i) (modeName m) r (h ++ l) = indexedR (insName i) lo hi' idx (at_ + l.length : Int) at_)
    (e : s.turn irq = ({ s with step := k } : PC).indexed idx) : Good (fun s h => Mid s r i m h) s (s.turn irq).1 (s.turn irq).2 r i m (insName i) (modeName m) h := by
  obtain ⟨hs, hf, hkd, hir, hic, -⟩ := placed_ok i m hi hok h4 h11
  obtain ⟨n1, n2, n3, n4⟩ := mode_ne h4 h11
  have hn : withinI s.ad idx = (lo + idx) % 256 + 256 * hi' := by rw [had]; unfold withinI joinI loI hiI; omega
  have hr : (s.ad + idx) % 65536 = (lo + idx + 256 * hi') % 65536 := by rw [had]; congr 1; omega
  have hki : ∀ j : Int, (kindI s.ins = j) = (kindI i = j) := fun j => by rw [hL.ins]
  by_cases c : kindR (insName i) = 114 ∧ (lo + idx) % 256 + 256 * hi' = (lo + idx + 256 * hi') % 65536
  · -- a READ, no page crossed
    have k0 : kindI i = 0 := by
      rcases kind_012' i with q | q | q
      · exact q
      · have := c.1; rw [kind_w_of hkd q] at this; cases this
      · have := c.1; rw [kind_c_of hkd q] at this; cases this
    have e2 : s.turn irq = ({ s with step := k, ad := (lo + idx + 256 * hi') % 65536, st := 2 } : PC).turn irq := by
      rw [e, turn_acc _ irq rfl]
      show (if (s.ad + idx) % 65536 = withinI s.ad idx ∧ kindI s.ins = 0 then ({ s with step := k, ad := (s.ad + idx) % 65536, st := 2 } : PC).access else _) = _
      rw [if_pos ⟨by rw [hr, hn]; exact c.2.symm, by rw [hki]; exact k0⟩, hr]
    rw [e2]
    refine Good.of (t := ({ s with step := k, ad := (lo + idx + 256 * hi') % 65536, st := 2 } : PC)) ⟨rfl, rfl, rfl, rfl, rfl, rfl, rfl⟩ (fun q hq => ⟨hq.a, hq.x, hq.y, hq.sp, hq.p, hq.pc⟩) ?_
    refine acc_good _ ({ s with step := k, ad := (lo + idx + 256 * hi') % 65536, st := 2 } : PC) r i m (insName i) (modeName m) h ((lo + idx + 256 * hi') % 65536) at_ irq ⟨hL.a, hL.x, hL.y, hL.p, hL.ins, hL.md⟩ hS hR hB hi rfl hs hf hkd hir hic n1 n2 n3 n4 (by omega) hpc hH hat ?_ (.due hlen rfl rfl) ?_
    · intro l; rw [hpl l]; unfold indexedR; simp only []; rw [if_pos c]
    · intro s' d q; rw [k0] at q; cases q
  · have e2 : s.turn irq = ({ s with step := k, ad := (lo + idx + 256 * hi') % 65536, st := 2 } : PC).read ((lo + idx) % 256 + 256 * hi') := by
      rw [e]
      show (if (s.ad + idx) % 65536 = withinI s.ad idx ∧ kindI s.ins = 0 then _ else ({ s with step := k, ad := (s.ad + idx) % 65536, st := 2 } : PC).read (withinI s.ad idx)) = _
      rw [if_neg ?_, hr, hn]
      intro q
      apply c
      refine ⟨kind_r_of hkd (by have := q.2; rw [hki] at this; exact this), ?_⟩
      rw [← hr, ← hn]; exact q.1.symm
    obtain ⟨g1, g2, g3, g4⟩ := g_idx s k ((lo + idx) % 256 + 256 * hi') ((lo + idx + 256 * hi') % 65536)
    rw [e2]
    refine good_acc s _ _ r i m h _ ((lo + idx + 256 * hi') % 65536) (at_ + 1) hL hi hok h4 h11 g1 ⟨(lo + idx) % 256 + 256 * hi', false, 0, false⟩ ?_ rfl (by simp [hlen]) (by omega) ?_ g2 g3 (by omega) (g1.sp.trans hS) (g4.trans hpc)
    · have := hpl []
      rw [List.append_nil] at this
      rw [this]; unfold indexedR; simp only []; rw [if_neg c, if_pos (by simp)]
    · intro l
      rw [List.append_assoc, hpl]; unfold indexedR; simp only []; rw [if_neg c, if_neg (by simp; omega)]; simp

theorem place_abx3 (op : BA) (r : RG) (b0 b1 c : Int) (l : List Int) : placeR op (b3 97 98 120) r (b0 :: b1 :: c :: l) = indexedR op b1 c r.X (3 + l.length) 3 := by
  unfold placeR
  simp only []
  rw [len3, if_neg (by intro q; rcases q with q | ⟨q, _⟩ <;> omega), if_neg (by decide), if_neg (by decide), if_neg (by decide), if_pos (by simp), if_neg (by decide)]
  rfl
theorem place_aby3 (op : BA) (r : RG) (b0 b1 c : Int) (l : List Int) : placeR op (b3 97 98 121) r (b0 :: b1 :: c :: l) = indexedR op b1 c r.Y (3 + l.length) 3 := by
  unfold placeR
  simp only []
  rw [len3, if_neg (by intro q; rcases q with q | ⟨q, _⟩ <;> omega), if_neg (by decide), if_neg (by decide), if_neg (by decide), if_pos (by simp), if_pos (by simp)]
  rfl
theorem place_izy4 (op : BA) (r : RG) (b0 b1 c e : Int) (l : List Int) : placeR op (b3 105 122 121) r (b0 :: b1 :: c :: e :: l) = indexedR op c e r.Y (4 + l.length) 4 := by
  have hl : ((b0 :: b1 :: c :: e :: l).length : Int) = 4 + l.length := by simp; omega
  unfold placeR
  simp only []
  rw [hl, if_neg (by intro q; rcases q with q | ⟨q, _⟩ <;> omega), if_neg (by decide), if_neg (by decide), if_neg (by decide), if_neg (by decide), if_neg (by decide), if_neg (by omega), if_pos (by simp)]
  rfl

/-- There is a cycle more where an index is to be added. -/
theorem idx_more (i m : Nat) (r : RG) (h : List Int) (lo hi' idx : Int) (at_ : Nat) (hi : i < 56) (hok : okPair i m = true) (h4 : 4 ≤ m) (h11 : m ≤ 11) (hlen : h.length = at_)
    (hp : placeR (insName i) (modeName m) r h = indexedR (insName i) lo hi' idx (at_ : Int) at_) : (nextR (insName i) (modeName m) r h).2 = true := by
  obtain ⟨-, -, hkd, -⟩ := placed_ok i m hi hok h4 h11
  by_cases c : kindR (insName i) = 114 ∧ (lo + idx) % 256 + 256 * hi' = (lo + idx + 256 * hi') % 65536
  · have q : placeR (insName i) (modeName m) r h = ((lo + idx + 256 * hi') % 65536, (at_ : Int), Act.nil, true) := by rw [hp]; unfold indexedR; simp only []; rw [if_pos c]
    rw [next_used i m r h hi hok h4 h11 _ at_ q]
    exact uses_more _ r h _ at_ i hkd hlen
  · have q : placeR (insName i) (modeName m) r h = (0, 0, ⟨(lo + idx) % 256 + 256 * hi', false, 0, false⟩, false) := by rw [hp]; unfold indexedR; simp only []; rw [if_neg c, if_pos trivial]
    rw [next_told i m r h hi hok h4 h11 _ q]

/-- A cycle that gathers, and there is one more. -/
theorem good_more (s s' : PC) (b : BusI) (r : RG) (i m : Nat) (h : List Int) (q : Int) (hL : Live s r i m) (hi : i < 56) (hok : okPair i m = true) (h4 : 4 ≤ m) (h11 : m ≤ 11)
    (g : Gath s s' b q) (act : Act) (hp0 : placeR (insName i) (modeName m) r h = (0, 0, act, false)) (hact : s.busOf act = s.read q)
    (hmore : (nextR (insName i) (modeName m) r (h ++ [b.data])).2 = true) (hM : Mid s' r i m (h ++ [b.data])) : Good (fun s h => Mid s r i m h) s s' b r i m (insName i) (modeName m) h := by
  unfold Good
  rw [next_told i m r h hi hok h4 h11 act hp0, hact]
  exact ⟨g.bus, g.out, .inl ⟨hmore, g.live hL, fun q hq => g.beh q hq, hM⟩⟩

/-- abx, aby: the second byte of the address. -/
theorem low_abxy (s : PC) (r : RG) (i m : Nat) (b0 b1 : Int) (irq : Bool) (hm : m ∈ [8, 9]) (hL : Live s r i m) (hR : Rg r) (hB : Bytes_ s) (hi : i < 56) (hok : okPair i m = true) (hb1 : 0 ≤ b1 ∧ b1 < 256) (hst : s.st = 1) (hstep : s.step = 1) (had : s.ad = b1) (hS : s.s = r.S) (hpc : s.pc = (r.PC + 2) % 65536) :
    Good (fun s h => Mid s r i m h) s (s.turn irq).1 (s.turn irq).2 r i m (insName i) (modeName m) [b0, b1] := by
  have hp : 0 ≤ s.pc ∧ s.pc < 65536 := by rw [hpc]; omega
  obtain ⟨g1, g2, g3, g4, g5⟩ := g_high s 2 1 hB hp (by rw [had]; exact hb1)
  have hpc3 : (takeHigh ({ s with step := 2, st := 1 } : PC).readNext).1.pc = (r.PC + 3) % 65536 := by rw [g5, hpc]; have := hR.PC; omega
  have hm' := hm
  simp only [List.mem_cons, List.not_mem_nil, or_false] at hm
  rcases hm with rfl | rfl
  · have e : s.turn irq = takeHigh ({ s with step := 2, st := 1 } : PC).readNext := by rw [turn_mode s irq 8 1 hst hL.md hstep, w2, step_st s 2 hst]; rfl
    rw [e]
    exact good_more s _ _ r i 8 [b0, b1] s.pc hL hi hok (by omega) (by omega) g1 _ (place_abx2 _ r b0 b1) (bus_rd s s.pc _ (by rw [hpc]; omega)) (idx_more i 8 r _ b1 _ r.X 3 hi hok (by omega) (by omega) rfl (place_abx3 _ r b0 b1 _ [])) (.abs3 hm' g2 g3 (by rw [g4, had]; rfl) (g1.sp.trans hS) hpc3)
  · have e : s.turn irq = takeHigh ({ s with step := 2, st := 1 } : PC).readNext := by rw [turn_mode s irq 9 1 hst hL.md hstep, w2, step_st s 2 hst]; rfl
    rw [e]
    exact good_more s _ _ r i 9 [b0, b1] s.pc hL hi hok (by omega) (by omega) g1 _ (place_aby2 _ r b0 b1) (bus_rd s s.pc _ (by rw [hpc]; omega)) (idx_more i 9 r _ b1 _ r.Y 3 hi hok (by omega) (by omega) rfl (place_aby3 _ r b0 b1 _ [])) (.abs3 hm' g2 g3 (by rw [g4, had]; rfl) (g1.sp.trans hS) hpc3)

theorem hd3 (b0 b1 c : Int) (h0 : 0 ≤ b0 ∧ b0 < 256) (h1 : 0 ≤ b1 ∧ b1 < 256) (h2 : 0 ≤ c ∧ c < 256) (k : Nat) : 0 ≤ hd [b0, b1, c] k ∧ hd [b0, b1, c] k < 256 := by
  match k with
  | 0 => exact h0
  | 1 => exact h1
  | 2 => exact h2
  | k + 3 => exact ⟨Int.le_refl 0, by show (0 : Int) < 256; decide⟩

/-- abx, aby: the index is added. -/
theorem abs3_abxy (s : PC) (r : RG) (i m : Nat) (b0 b1 c : Int) (irq : Bool) (hm : m ∈ [8, 9]) (hL : Live s r i m) (hR : Rg r) (hB : Bytes_ s) (hi : i < 56) (hok : okPair i m = true) (hb0 : 0 ≤ b0 ∧ b0 < 256) (hb1 : 0 ≤ b1 ∧ b1 < 256) (hc : 0 ≤ c ∧ c < 256) (hst : s.st = 1) (hstep : s.step = 2) (had : s.ad = b1 + 256 * c) (hS : s.s = r.S) (hpc : s.pc = (r.PC + 3) % 65536) :
    Good (fun s h => Mid s r i m h) s (s.turn irq).1 (s.turn irq).2 r i m (insName i) (modeName m) [b0, b1, c] := by
  simp only [List.mem_cons, List.not_mem_nil, or_false] at hm
  rcases hm with rfl | rfl
  · refine idx_good s r i 8 [b0, b1, c] b1 c r.X 3 3 irq hL hR hB hi hok (by omega) (by omega) hb1 had hS hpc (hd3 b0 b1 c hb0 hb1 hc) rfl (by omega) (fun l => place_abx3 _ r b0 b1 c l) ?_
    rw [turn_mode s irq 8 2 hst hL.md hstep, w3, ← hL.x]; rfl
  · refine idx_good s r i 9 [b0, b1, c] b1 c r.Y 3 3 irq hL hR hB hi hok (by omega) (by omega) hb1 had hS hpc (hd3 b0 b1 c hb0 hb1 hc) rfl (by omega) (fun l => place_aby3 _ r b0 b1 c l) ?_
    rw [turn_mode s irq 9 2 hst hL.md hstep, w3, ← hL.y]; rfl

theorem hd4 (b0 b1 c d : Int) (h0 : 0 ≤ b0 ∧ b0 < 256) (h1 : 0 ≤ b1 ∧ b1 < 256) (h2 : 0 ≤ c ∧ c < 256) (h3 : 0 ≤ d ∧ d < 256) (k : Nat) : 0 ≤ hd [b0, b1, c, d] k ∧ hd [b0, b1, c, d] k < 256 := by
  match k with
  | 0 => exact h0
  | 1 => exact h1
  | 2 => exact h2
  | 3 => exact h3
  | k + 4 => exact ⟨Int.le_refl 0, by show (0 : Int) < 256; decide⟩

/-- izy: the address, its second byte. -/
theorem izy_3 (s : PC) (r : RG) (i : Nat) (b0 b1 c : Int) (irq : Bool) (hL : Live s r i 11) (hB : Bytes_ s) (hi : i < 56) (hok : okPair i 11 = true) (hb1 : 0 ≤ b1 ∧ b1 < 256) (hc : 0 ≤ c ∧ c < 256) (hst : s.st = 1) (hstep : s.step = 2) (hh : s.hop = b1) (had : s.ad = c) (hS : s.s = r.S) (hpc : s.pc = (r.PC + 2) % 65536) :
    Good (fun s h => Mid s r i 11 h) s (s.turn irq).1 (s.turn irq).2 r i 11 (insName i) (modeName 11) [b0, b1, c] := by
  have hw : withinI s.hop 1 = (b1 + 3 - 2) % 256 := by rw [within_zp s.hop 1 (by rw [hh]; exact hb1), hh]; omega
  have ha : 0 ≤ (b1 + 3 - 2) % 256 ∧ (b1 + 3 - 2) % 256 < 65536 := by omega
  obtain ⟨g1, g2, g3, g4, g5⟩ := g_highAt s 3 1 ((b1 + 3 - 2) % 256) hB ha (by rw [had]; exact hc)
  have e : s.turn irq = takeHigh (({ s with step := 3, st := 1 } : PC).read ((b1 + 3 - 2) % 256)) := by
    rw [turn_mode s irq 11 2 hst hL.md hstep, w3, step_st s 3 hst]
    show takeHigh (({ s with step := 3, st := 1 } : PC).read (withinI s.hop 1)) = _
    rw [hw]
  rw [e]
  exact good_more s _ _ r i 11 [b0, b1, c] _ hL hi hok (by omega) (by omega) g1 _ (place_izy3 _ r b0 b1 c) rfl (idx_more i 11 r _ c _ r.Y 4 hi hok (by omega) (by omega) rfl (place_izy4 _ r b0 b1 c _ [])) (.izy4 g2 g3 (by rw [g4, had]; rfl) (g1.sp.trans hS) (g5.trans hpc))

/-- izy: the index is added. -/
theorem izy_4 (s : PC) (r : RG) (i : Nat) (b0 b1 c d : Int) (irq : Bool) (hL : Live s r i 11) (hR : Rg r) (hB : Bytes_ s) (hi : i < 56) (hok : okPair i 11 = true) (hb0 : 0 ≤ b0 ∧ b0 < 256) (hb1 : 0 ≤ b1 ∧ b1 < 256) (hc : 0 ≤ c ∧ c < 256) (hd' : 0 ≤ d ∧ d < 256) (hst : s.st = 1) (hstep : s.step = 3) (had : s.ad = c + 256 * d) (hS : s.s = r.S) (hpc : s.pc = (r.PC + 2) % 65536) :
    Good (fun s h => Mid s r i 11 h) s (s.turn irq).1 (s.turn irq).2 r i 11 (insName i) (modeName 11) [b0, b1, c, d] := by
  refine idx_good s r i 11 [b0, b1, c, d] c d r.Y 4 4 irq hL hR hB hi hok (by omega) (by omega) hc had hS hpc (hd4 b0 b1 c d hb0 hb1 hc hd') rfl (by omega) (fun l => place_izy4 _ r b0 b1 c d l) ?_
  rw [turn_mode s irq 11 3 hst hL.md hstep, w4, ← hL.y]; rfl
end

/-
  Every cycle in the midst of an instruction with an address.
-/
section
def Byt (h : List Int) : Prop := ∀ b ∈ h, 0 ≤ b ∧ b < 256
theorem hd_byte (h : List Int) (hb : Byt h) (k : Nat) : 0 ≤ hd h k ∧ hd h k < 256 := by
  unfold hd
  by_cases e : k < h.length
  · rw [List.getD_eq_getElem?_getD, List.getElem?_eq_getElem e]; exact hb _ (List.getElem_mem e)
  · rw [List.getD_eq_getElem?_getD, List.getElem?_eq_none (by omega)]; exact ⟨Int.le_refl 0, by decide⟩

set_option maxHeartbeats 1000000 in
theorem placed_step (s : PC) (r : RG) (i m : Nat) (h : List Int) (irq : Bool) (hL : Live s r i m) (hR : Rg r) (hB : Bytes_ s) (hi : i < 56) (hok : okPair i m = true) (h4 : 4 ≤ m) (h11 : m ≤ 11) (hH : Byt h) (hM : Mid s r i m h) :
    Good (fun s h => Mid s r i m h) s (s.turn irq).1 (s.turn irq).2 r i m (insName i) (modeName m) h := by
  cases hM with
  | one n1 n2 st step sp pc =>
    by_cases e4 : m = 4
    · subst e4; exact one_zp s r i _ irq hL hR hB hi hok st step sp pc
    · by_cases e9 : m ≤ 9
      · exact one_low s r i m _ irq (by simp; omega) hL hR hB hi hok st step sp pc
      · exact one_hop s r i m _ irq (by simp; omega) hL hR hB hi hok st step sp pc
  | acc a fr a4 a11 hfr hp hA ha sp pc =>
    obtain ⟨hs, hf, hkd, hir, hic, -⟩ := placed_ok i m hi hok h4 h11
    obtain ⟨n1, n2, n3, n4⟩ := mode_ne h4 h11
    refine acc_good _ s r i m _ _ h a fr irq hL sp hR hB hi rfl hs hf hkd hir hic n1 n2 n3 n4 ha pc (hd_byte h hH) hfr hp hA ?_
    intro s' d hk hA' hS' hpc'
    exact .acc a fr h4 h11 hfr (fun l => by rw [List.append_assoc]; exact hp _) (by rw [hk]; exact hA') ha hS' (hpc'.trans pc)
  | @low _ b0 b1 hm st step ad sp pc =>
    have hb1 := hH b1 (by simp)
    by_cases e5 : m = 5
    · subst e5; exact low_zpx s r i b0 b1 irq hL hi hok hb1 st step ad sp pc
    · by_cases e6 : m = 6
      · subst e6; exact low_zpy s r i b0 b1 irq hL hi hok hb1 st step ad sp pc
      · by_cases e7 : m = 7
        · subst e7; exact low_abs s r i b0 b1 irq hL hR hB hi hok hb1 st step ad sp pc
        · exact low_abxy s r i m b0 b1 irq (by simp at hm ⊢; omega) hL hR hB hi hok hb1 st step ad sp pc
  | @abs3 _ b0 b1 c hm st step ad sp pc => exact abs3_abxy s r i m b0 b1 c irq hm hL hR hB hi hok (hH b0 (by simp)) (hH b1 (by simp)) (hH c (by simp)) st step ad sp pc
  | @hop2 _ b0 b1 hm st step hop sp pc =>
    have hb1 := hH b1 (by simp)
    by_cases e : m = 10
    · subst e; exact izx_2 s r i b0 b1 irq hL hi hok hb1 st step hop sp pc
    · have e : m = 11 := by simp at hm; omega
      subst e; exact izy_2 s r i b0 b1 irq hL hB hi hok hb1 st step hop sp pc
  | izx3 st step hop sp pc => exact izx_3 s r i _ _ _ irq hL hB hi hok st step hop sp pc
  | @izx4 b0 b1 c e st step hop ad sp pc => exact izx_4 s r i b0 b1 c e irq hL hB hi hok (hH e (by simp)) st step hop ad sp pc
  | @izy3 b0 b1 c st step hop ad sp pc => exact izy_3 s r i b0 b1 c irq hL hB hi hok (hH b1 (by simp)) (hH c (by simp)) st step hop ad sp pc
  | @izy4 b0 b1 c e st step ad sp pc => exact izy_4 s r i b0 b1 c e irq hL hR hB hi hok (hH b0 (by simp)) (hH b1 (by simp)) (hH c (by simp)) (hH e (by simp)) st step ad sp pc
end

/-
  Instructions of two cycles: imp, acc, imm.
-/
section
theorem fin_reads (t : PC) (r : RG) (i m : Nat) (hL : Live t r i m) (hS : t.s = r.S) (hR : Rg r) (hd : 0 ≤ t.data ∧ t.data < 256) (hi : i ∈ [0, 1, 11, 17, 18, 19, 23, 29, 30, 31, 34, 43]) :
    Fin_ t.performLast (loadsR (insName i) { r with PC := t.pc } t.data) ∧ Outer t.performLast t := by
  have hw : t.Wf := ⟨by rw [hL.a]; exact hR.A, by rw [hL.x]; exact hR.X, by rw [hL.y]; exact hR.Y, by rw [hS]; exact hR.S, by rw [hL.p]; exact hR.P, hd⟩
  have h := reads_ok t hw r.cyc r.jam i hi
  have hrg : t.rg r.cyc r.jam = { r with PC := t.pc } := by unfold PC.rg; rw [hL.a, hL.x, hL.y, hL.p, hS]
  rw [hrg] at h
  have hn : t.ins.toNat = i := by rw [hL.ins]; rfl
  have hp : t.performLast = (t.withR (loadsR (insName i) { r with PC := t.pc } t.data)).finish := by unfold PC.performLast PC.perform; rw [hn, h]
  rw [hp]
  exact ⟨⟨rfl, ⟨rfl, rfl, rfl, rfl, rfl, rfl⟩, rfl, rfl, rfl, rfl, rfl, rfl⟩, ⟨rfl, rfl, rfl, rfl, rfl, rfl, rfl⟩⟩
theorem fin_plain (t : PC) (r : RG) (i m : Nat) (hL : Live t r i m) (hS : t.s = r.S) (hR : Rg r) (hd : 0 ≤ t.data ∧ t.data < 256) (hi : i ∈ [13, 14, 15, 16, 21, 22, 25, 26, 33, 44, 45, 46, 50, 51, 52, 53, 54, 55]) :
    Fin_ t.performLast (plainR (insName i) { r with PC := t.pc }) ∧ Outer t.performLast t := by
  have hw : t.Wf := ⟨by rw [hL.a]; exact hR.A, by rw [hL.x]; exact hR.X, by rw [hL.y]; exact hR.Y, by rw [hS]; exact hR.S, by rw [hL.p]; exact hR.P, hd⟩
  have h := plain_ok t hw r.cyc r.jam i hi
  have hrg : t.rg r.cyc r.jam = { r with PC := t.pc } := by unfold PC.rg; rw [hL.a, hL.x, hL.y, hL.p, hS]
  rw [hrg] at h
  have hn : t.ins.toNat = i := by rw [hL.ins]; rfl
  have hp : t.performLast = (t.withR (plainR (insName i) { r with PC := t.pc })).finish := by unfold PC.performLast PC.perform; rw [hn, h]
  rw [hp]
  exact ⟨⟨rfl, ⟨rfl, rfl, rfl, rfl, rfl, rfl⟩, rfl, rfl, rfl, rfl, rfl, rfl⟩, ⟨rfl, rfl, rfl, rfl, rfl, rfl, rfl⟩⟩

/-- What goes with imm, with imp, with acc. -/
theorem imm_ok (i : Nat) (hi : i < 56) (h : okPair i 3 = true) : spec (insName i) = false ∧ farR (insName i) = false ∧ kindR (insName i) = 114 ∧ i ∈ [0, 1, 11, 17, 18, 19, 23, 29, 30, 31, 34, 43] := by
  have : ∀ i : Fin 56, okPair i.val 3 = true → spec (insName i.val) = false ∧ farR (insName i.val) = false ∧ kindR (insName i.val) = 114 ∧ i.val ∈ [0, 1, 11, 17, 18, 19, 23, 29, 30, 31, 34, 43] := by decide +kernel
  exact this ⟨i, hi⟩ h
theorem imp_ok (i : Nat) (hi : i < 56) (h : okPair i 1 = true) : spec (insName i) = false ∧ farR (insName i) = false ∧ i ∈ [13, 14, 15, 16, 21, 22, 25, 26, 33, 44, 45, 46, 50, 51, 52, 53, 54, 55] := by
  have : ∀ i : Fin 56, okPair i.val 1 = true → spec (insName i.val) = false ∧ farR (insName i.val) = false ∧ i.val ∈ [13, 14, 15, 16, 21, 22, 25, 26, 33, 44, 45, 46, 50, 51, 52, 53, 54, 55] := by decide +kernel
  exact this ⟨i, hi⟩ h
theorem acc_ok (i : Nat) (hi : i < 56) (h : okPair i 2 = true) : spec (insName i) = false ∧ farR (insName i) = false ∧ i ∈ [2, 20, 24, 32, 39, 40] := by
  have : ∀ i : Fin 56, okPair i.val 2 = true → spec (insName i.val) = false ∧ farR (insName i.val) = false ∧ i.val ∈ [2, 20, 24, 32, 39, 40] := by decide +kernel
  exact this ⟨i, hi⟩ h

theorem next_two (op md : BA) (r : RG) (h : List Int) (hs : spec op = false) (hm : md = (b3 105 109 112) ∨ md = (b3 97 99 99) ∨ md = (b3 105 109 109)) :
    nextR op md r h = (if (h.length : Int) = 1 then rdR (r.PC + 1) else dnR) := by
  simp only [spec, Bool.or_eq_false_iff, decide_eq_false_iff_not] at hs
  obtain ⟨⟨⟨⟨⟨⟨⟨⟨⟨⟨s1, s2⟩, s3⟩, s4⟩, s5⟩, s6⟩, s7⟩, s8⟩, s9⟩, s10⟩, s11⟩ := hs
  unfold nextR
  simp only []
  rw [if_neg (by simp [s1, s2, s3]), if_neg s4, if_neg (by simp [s5, s6, s7, s8]), if_neg (by simp [s9]), if_neg (by simp [s10]), if_neg s11, if_pos hm]

/-- imm. -/
theorem one_imm (M : PC → List Int → Prop) (s : PC) (r : RG) (i : Nat) (b0 : Int) (irq : Bool) (hL : Live s r i 3) (hR : Rg r) (hB : Bytes_ s) (hi : i < 56) (hok : okPair i 3 = true) (hst : s.st = 1) (hstep : s.step = 0) (hS : s.s = r.S) (hpc : s.pc = (r.PC + 1) % 65536) :
    Good M s (s.turn irq).1 (s.turn irq).2 r i 3 (insName i) (modeName 3) [b0] := by
  obtain ⟨hs, hf, hk, hin⟩ := imm_ok i hi hok
  have hp : 0 ≤ s.pc ∧ s.pc < 65536 := by rw [hpc]; omega
  have hb := look_b hB s.pc hp.2
  have el : s.look s.pc % 256 = s.look s.pc := by omega
  have K := read1_kept ({ s with step := 1 } : PC) s.pc
  have O := read1_outer ({ s with step := 1 } : PC) s s.pc ⟨rfl, rfl, rfl, rfl, rfl, rfl, rfl⟩
  obtain ⟨t, e, tL, tS, td, tp, tO⟩ : ∃ t : PC, s.turn irq = (t.performLast, (s.read s.pc).2) ∧ Live t r i 3 ∧ t.s = r.S ∧ t.data = s.look s.pc ∧ t.pc = (r.PC + 2) % 65536 ∧ Outer t (s.read s.pc).1 := by
    refine ⟨({ (({ s with step := 1 } : PC).read1 s.pc) with pc := ((({ s with step := 1 } : PC).read1 s.pc).pc + 1) % 65536, data := s.look s.pc % 256 } : PC), ?_, ⟨K.a.trans hL.a, K.x.trans hL.x, K.y.trans hL.y, K.p.trans hL.p, K.ins.trans hL.ins, K.md.trans hL.md⟩, K.sp.trans hS, el, ?_, ⟨O.mem, O.rom, O.cnt, O.calls, O.on, O.due, O.cyc⟩⟩
    · rw [turn_mode s irq 3 0 hst hL.md hstep, w1]; rfl
    · show ((({ s with step := 1 } : PC).read1 s.pc).pc + 1) % 65536 = _
      rw [K.pc]
      show (s.pc + 1) % 65536 = _
      rw [hpc]; have := hR.PC; omega
  obtain ⟨f1, f2⟩ := fin_reads t r i 3 tL tS hR (by rw [td]; exact hb) hin
  rw [td, tp] at f1
  have hn := next_two (insName i) (modeName 3) r [b0] hs (.inr (.inr rfl))
  have hn2 := next_two (insName i) (modeName 3) r ([b0] ++ [s.look s.pc]) hs (.inr (.inr rfl))
  rw [e]
  unfold Good
  rw [hn]
  show _ = (s.busOf (rdR (r.PC + 1)).1).2 ∧ Outer _ (s.busOf (rdR (r.PC + 1)).1).1 ∧ _
  rw [bus_rd s s.pc (r.PC + 1) hpc.symm]
  refine ⟨rfl, f2.trans tO, .inr ⟨?_, ?_⟩⟩
  · show (nextR (insName i) (modeName 3) r ([b0] ++ [s.look s.pc])).2 = false
    rw [hn2]; rfl
  · show Fin_ t.performLast (doneR (insName i) (modeName 3) r ([b0] ++ [s.look s.pc]))
    rw [done_placed _ _ r _ hf (by decide) (by decide) (by decide), if_neg (by rw [hk]; decide), if_neg (by rw [hk]; decide)]
    exact f1

theorem flows_plain (i : Nat) (q : RG) (h : List Int) (hi : i ∈ [13, 14, 15, 16, 21, 22, 25, 26, 33, 44, 45, 46, 50, 51, 52, 53, 54, 55]) : flowsR (insName i) q h = q := by
  simp only [List.mem_cons, List.not_mem_nil, or_false] at hi
  rcases hi with rfl | rfl | rfl | rfl | rfl | rfl | rfl | rfl | rfl | rfl | rfl | rfl | rfl | rfl | rfl | rfl | rfl | rfl <;> rfl

/-- imp. -/
theorem one_imp (M : PC → List Int → Prop) (s : PC) (r : RG) (i : Nat) (b0 : Int) (irq : Bool) (hL : Live s r i 1) (hR : Rg r) (hD : 0 ≤ s.data ∧ s.data < 256) (hi : i < 56) (hok : okPair i 1 = true) (hst : s.st = 1) (hstep : s.step = 0) (hS : s.s = r.S) (hpc : s.pc = (r.PC + 1) % 65536) :
    Good M s (s.turn irq).1 (s.turn irq).2 r i 1 (insName i) (modeName 1) [b0] := by
  obtain ⟨hs, hf, hin⟩ := imp_ok i hi hok
  have K := read1_kept ({ s with step := 1 } : PC) s.pc
  have O := read1_outer ({ s with step := 1 } : PC) s s.pc ⟨rfl, rfl, rfl, rfl, rfl, rfl, rfl⟩
  obtain ⟨t, e, tL, tS, td, tp, tO⟩ : ∃ t : PC, s.turn irq = (t.performLast, (s.read s.pc).2) ∧ Live t r i 1 ∧ t.s = r.S ∧ t.data = s.data ∧ t.pc = (r.PC + 1) % 65536 ∧ Outer t (s.read s.pc).1 := by
    refine ⟨({ s with step := 1 } : PC).read1 s.pc, ?_, ⟨K.a.trans hL.a, K.x.trans hL.x, K.y.trans hL.y, K.p.trans hL.p, K.ins.trans hL.ins, K.md.trans hL.md⟩, K.sp.trans hS, K.data, K.pc.trans hpc, O⟩
    rw [turn_mode s irq 1 0 hst hL.md hstep, w1]; rfl
  obtain ⟨f1, f2⟩ := fin_plain t r i 1 tL tS hR (by rw [td]; exact hD) hin
  rw [tp] at f1
  have hn := next_two (insName i) (modeName 1) r [b0] hs (.inl rfl)
  have hn2 := next_two (insName i) (modeName 1) r ([b0] ++ [s.look s.pc]) hs (.inl rfl)
  rw [e]
  unfold Good
  rw [hn]
  show _ = (s.busOf (rdR (r.PC + 1)).1).2 ∧ Outer _ (s.busOf (rdR (r.PC + 1)).1).1 ∧ _
  rw [bus_rd s s.pc (r.PC + 1) hpc.symm]
  refine ⟨rfl, f2.trans tO, .inr ⟨?_, ?_⟩⟩
  · show (nextR (insName i) (modeName 1) r ([b0] ++ [s.look s.pc])).2 = false
    rw [hn2]; rfl
  · show Fin_ t.performLast (doneR (insName i) (modeName 1) r ([b0] ++ [s.look s.pc]))
    have hd : doneR (insName i) (modeName 1) r ([b0] ++ [s.look s.pc]) = plainR (insName i) { r with PC := (r.PC + 1) % 65536 } := by
      unfold doneR
      rw [if_neg (by rw [hf]; decide)]
      show flowsR (insName i) (plainR (insName i) { r with PC := (r.PC + 1) % 65536 }) _ = _
      exact flows_plain i _ _ hin
    rw [hd]; exact f1

/-- acc. -/
theorem one_acc (M : PC → List Int → Prop) (s : PC) (r : RG) (i : Nat) (b0 : Int) (irq : Bool) (hL : Live s r i 2) (hR : Rg r) (hi : i < 56) (hok : okPair i 2 = true) (hst : s.st = 1) (hstep : s.step = 0) (hS : s.s = r.S) (hpc : s.pc = (r.PC + 1) % 65536) :
    Good M s (s.turn irq).1 (s.turn irq).2 r i 2 (insName i) (modeName 2) [b0] := by
  obtain ⟨hs, hf, hin⟩ := acc_ok i hi hok
  have K := read1_kept ({ s with step := 1 } : PC) s.pc
  have O := read1_outer ({ s with step := 1 } : PC) s s.pc ⟨rfl, rfl, rfl, rfl, rfl, rfl, rfl⟩
  obtain ⟨u, e, uL, uS, ud, up, uO⟩ : ∃ u : PC, s.turn irq = (({ u.perform with a := u.perform.data } : PC).finish, (s.read s.pc).2) ∧ Live u r i 2 ∧ u.s = r.S ∧ u.data = r.A ∧ u.pc = (r.PC + 1) % 65536 ∧ Outer u (s.read s.pc).1 := by
    refine ⟨({ (({ s with step := 1 } : PC).read1 s.pc) with data := (({ s with step := 1 } : PC).read1 s.pc).a } : PC), ?_, ⟨K.a.trans hL.a, K.x.trans hL.x, K.y.trans hL.y, K.p.trans hL.p, K.ins.trans hL.ins, K.md.trans hL.md⟩, K.sp.trans hS, K.a.trans hL.a, K.pc.trans hpc, ⟨O.mem, O.rom, O.cnt, O.calls, O.on, O.due, O.cyc⟩⟩
    rw [turn_mode s irq 2 0 hst hL.md hstep, w1]; rfl
  have hw : u.Wf := ⟨by rw [uL.a]; exact hR.A, by rw [uL.x]; exact hR.X, by rw [uL.y]; exact hR.Y, by rw [uS]; exact hR.S, by rw [uL.p]; exact hR.P, by rw [ud]; exact hR.A⟩
  have hc := change_ok u hw i hin
  rw [ud, uL.p] at hc
  have hu : u.ins.toNat = i := by rw [uL.ins]; rfl
  have hp : u.perform = { u with data := (changedR (insName i) r.A r.P).1, p := (changedR (insName i) r.A r.P).2 } := by unfold PC.perform; rw [hu, hc]
  have hn := next_two (insName i) (modeName 2) r [b0] hs (.inr (.inl rfl))
  have hn2 := next_two (insName i) (modeName 2) r ([b0] ++ [s.look s.pc]) hs (.inr (.inl rfl))
  have hd : doneR (insName i) (modeName 2) r ([b0] ++ [s.look s.pc]) = { r with PC := (r.PC + 1) % 65536, A := (changedR (insName i) r.A r.P).1, P := (changedR (insName i) r.A r.P).2 } := by
    unfold doneR
    rw [if_neg (by rw [hf]; decide)]
    rfl
  rw [e, hp]
  generalize (changedR (insName i) r.A r.P).1 = v at *
  generalize (changedR (insName i) r.A r.P).2 = q at *
  unfold Good
  rw [hn]
  show _ = (s.busOf (rdR (r.PC + 1)).1).2 ∧ Outer _ (s.busOf (rdR (r.PC + 1)).1).1 ∧ _
  rw [bus_rd s s.pc (r.PC + 1) hpc.symm]
  refine ⟨rfl, ⟨uO.mem, uO.rom, uO.cnt, uO.calls, uO.on, uO.due, uO.cyc⟩, .inr ⟨?_, ?_⟩⟩
  · show (nextR (insName i) (modeName 2) r ([b0] ++ [s.look s.pc])).2 = false
    rw [hn2]; rfl
  · show Fin_ _ (doneR (insName i) (modeName 2) r ([b0] ++ [s.look s.pc]))
    rw [hd]
    exact ⟨rfl, ⟨rfl, uL.x, uL.y, uS, rfl, up⟩, rfl, uL.x, uL.y, uS, rfl, up⟩
end

/-
  Branches: each cycle of the program is the document's.
-/
section
theorem rel_ok (i : Nat) (hi : i < 56) (h : okPair i 12 = true) : spec (insName i) = false ∧ farR (insName i) = false ∧ i ∈ [3, 4, 5, 6, 7, 8, 9, 10] := by
  have : ∀ i : Fin 56, okPair i.val 12 = true → spec (insName i.val) = false ∧ farR (insName i.val) = false ∧ i.val ∈ [3, 4, 5, 6, 7, 8, 9, 10] := by decide +kernel
  exact this ⟨i, hi⟩ h

theorem next_br (op : BA) (r : RG) (h : List Int) (hs : spec op = false) : nextR op (b3 114 101 108) r h = branchesR op r h := by
  simp only [spec, Bool.or_eq_false_iff, decide_eq_false_iff_not] at hs
  obtain ⟨⟨⟨⟨⟨⟨⟨⟨⟨⟨s1, s2⟩, s3⟩, s4⟩, s5⟩, s6⟩, s7⟩, s8⟩, s9⟩, s10⟩, s11⟩ := hs
  unfold nextR
  simp only []
  rw [if_neg (by simp [s1, s2, s3]), if_neg s4, if_neg (by simp [s5, s6, s7, s8]), if_neg (by simp [s9]), if_neg (by simp [s10]), if_neg s11, if_neg (by decide), if_pos (by simp)]

theorem done_br (op : BA) (r : RG) (h : List Int) (hf : farR op = false) : doneR op (b3 114 101 108) r h = { r with PC := if takenR op r.P = true then goalR r (hd h 1) else (r.PC + 2) % 65536 } := by
  unfold doneR
  rw [if_neg (by rw [hf]; decide)]
  by_cases t : takenR op r.P = true
  · simp only [t]; rfl
  · simp only [t]; rfl

theorem goal_eq (P d : Int) (hd : 0 ≤ d ∧ d < 256) : ((P + 2) % 65536 + sgn d) % 65536 = (P + 2 + (if 127 < d then d - 256 else d)) % 65536 := by
  unfold sgn; split <;> split <;> omega

/-- In the midst of a branch that is taken. -/
inductive MidB (s : PC) (r : RG) (op : BA) : List Int → Prop
  | two {b0 d : Int} : takenR op r.P = true → s.st = 1 → s.step = 1 → s.ad = goalR r d → s.s = r.S → s.pc = (r.PC + 2) % 65536 → MidB s r op [b0, d]
  | three {b0 d x : Int} : takenR op r.P = true → s.st = 1 → s.step = 2 → s.ad = goalR r d → s.s = r.S → s.pc = (r.PC + 2) % 65536 → goalR r d / 256 ≠ (r.PC + 2) % 65536 / 256 → MidB s r op [b0, d, x]

/-- The branch's own cycle. -/
theorem one_rel (s : PC) (r : RG) (i : Nat) (b0 : Int) (irq : Bool) (hL : Live s r i 12) (hR : Rg r) (hB : Bytes_ s) (hD : 0 ≤ s.data ∧ s.data < 256) (hi : i < 56) (hok : okPair i 12 = true) (hst : s.st = 1) (hstep : s.step = 0) (hS : s.s = r.S) (hpc : s.pc = (r.PC + 1) % 65536) :
    Good (fun s h => MidB s r (insName i) h) s (s.turn irq).1 (s.turn irq).2 r i 12 (insName i) (modeName 12) [b0] := by
  obtain ⟨hs, hf, hin⟩ := rel_ok i hi hok
  have hp : 0 ≤ s.pc ∧ s.pc < 65536 := by rw [hpc]; omega
  have hb := look_b hB s.pc hp.2
  have hpc2 : (s.pc + 1) % 65536 = (r.PC + 2) % 65536 := by rw [hpc]; have := hR.PC; omega
  have K := read1_kept ({ s with step := 1 } : PC) s.pc
  have O := read1_outer ({ s with step := 1 } : PC) s s.pc ⟨rfl, rfl, rfl, rfl, rfl, rfl, rfl⟩
  obtain ⟨u, e, uL, uS, ud, up, ua, ust, ustep, ub, uO⟩ : ∃ u : PC, s.turn irq = (if u.perform.taken = true then u.perform else u.perform.finish, (s.read s.pc).2) ∧ Live u r i 12 ∧ u.s = r.S ∧ u.data = s.data ∧ u.pc = (r.PC + 2) % 65536 ∧ u.ad = goalR r (s.look s.pc) ∧ u.st = 1 ∧ u.step = 1 ∧ (∀ q, Beh s q → Beh u q) ∧ Outer u (s.read s.pc).1 := by
    refine ⟨({ (({ s with step := 1 } : PC).read1 s.pc) with pc := ((({ s with step := 1 } : PC).read1 s.pc).pc + 1) % 65536, ad := (((({ s with step := 1 } : PC).read1 s.pc).pc + 1) % 65536 + sgn (s.look s.pc)) % 65536 } : PC), ?_, ⟨K.a.trans hL.a, K.x.trans hL.x, K.y.trans hL.y, K.p.trans hL.p, K.ins.trans hL.ins, K.md.trans hL.md⟩, K.sp.trans hS, K.data, ?_, ?_, K.st.trans hst, K.step, fun q hq => ⟨K.ba.trans hq.a, K.bx.trans hq.x, K.b_y.trans hq.y, K.bs.trans hq.sp, K.bp.trans hq.p, K.bpc.trans hq.pc⟩, ⟨O.mem, O.rom, O.cnt, O.calls, O.on, O.due, O.cyc⟩⟩
    · rw [turn_mode s irq 12 0 hst hL.md hstep, w1]; rfl
    · show ((({ s with step := 1 } : PC).read1 s.pc).pc + 1) % 65536 = _
      rw [K.pc]; exact hpc2
    · show (((({ s with step := 1 } : PC).read1 s.pc).pc + 1) % 65536 + sgn (s.look s.pc)) % 65536 = _
      rw [K.pc]
      show ((s.pc + 1) % 65536 + sgn (s.look s.pc)) % 65536 = _
      rw [hpc2, goal_eq _ _ hb]; rfl
  have hw : u.Wf := ⟨by rw [uL.a]; exact hR.A, by rw [uL.x]; exact hR.X, by rw [uL.y]; exact hR.Y, by rw [uS]; exact hR.S, by rw [uL.p]; exact hR.P, by rw [ud]; exact hD⟩
  have hc := taken_ok u hw i hin
  rw [uL.p] at hc
  have hu : u.ins.toNat = i := by rw [uL.ins]; rfl
  have hpf : u.perform = { u with p := r.P, taken := takenR (insName i) r.P } := by unfold PC.perform; rw [hu, hc]
  have hn : nextR (insName i) (modeName 12) r [b0] = rdR (r.PC + 1) := by rw [show modeName 12 = (b3 114 101 108) from rfl, next_br _ r _ hs]; rfl
  have hn2 : nextR (insName i) (modeName 12) r ([b0] ++ [s.look s.pc]) = if takenR (insName i) r.P = true then rdR ((r.PC + 2) % 65536) else dnR := by
    rw [show modeName 12 = (b3 114 101 108) from rfl, next_br _ r _ hs]
    by_cases t : takenR (insName i) r.P = true
    · rw [if_pos t]; unfold branchesR; simp only [t]; rfl
    · rw [if_neg t]; unfold branchesR; simp only [t]; rfl
  have hdn := done_br (insName i) r ([b0] ++ [s.look s.pc]) hf
  rw [e, hpf]
  unfold Good
  rw [hn, bus_rd s s.pc (r.PC + 1) hpc.symm]
  by_cases t : takenR (insName i) r.P = true
  · refine ⟨rfl, ?_, .inl ⟨?_, ?_, ?_, ?_⟩⟩
    · simp only [t, if_true]; exact ⟨uO.mem, uO.rom, uO.cnt, uO.calls, uO.on, uO.due, uO.cyc⟩
    · show (nextR (insName i) (modeName 12) r ([b0] ++ [s.look s.pc])).2 = true
      rw [hn2, if_pos t]; rfl
    · simp only [t, if_true]; exact ⟨uL.a, uL.x, uL.y, rfl, uL.ins, uL.md⟩
    · intro q hq; have := ub q hq; simp only [t, if_true]; exact ⟨this.a, this.x, this.y, this.sp, this.p, this.pc⟩
    · simp only [t, if_true]
      exact .two t ust ustep ua uS up
  · have tf : takenR (insName i) r.P = false := by simpa using t
    refine ⟨rfl, ?_, .inr ⟨?_, ?_⟩⟩
    · simp only [tf]; exact ⟨uO.mem, uO.rom, uO.cnt, uO.calls, uO.on, uO.due, uO.cyc⟩
    · show (nextR (insName i) (modeName 12) r ([b0] ++ [s.look s.pc])).2 = false
      rw [hn2, if_neg t]; rfl
    · show Fin_ _ (doneR (insName i) (b3 114 101 108) r ([b0] ++ [s.look s.pc]))
      rw [hdn, if_neg t]
      simp only [tf]
      exact ⟨rfl, ⟨uL.a, uL.x, uL.y, uS, rfl, up⟩, uL.a, uL.x, uL.y, uS, rfl, up⟩

theorem goal_r (r : RG) (d : Int) : 0 ≤ goalR r d ∧ goalR r d < 65536 := by unfold goalR; omega

/-- Behind a branch: what it leaves. -/
theorem fin_branch (t : PC) (r : RG) (i : Nat) (g : Int) (hL : Live t r i 12) (hS : t.s = r.S) (ha : t.ad = g) : Fin_ t.branch { r with PC := g } ∧ Outer t.branch t :=
  ⟨⟨rfl, ⟨hL.a, hL.x, hL.y, hS, hL.p, ha⟩, hL.a, hL.x, hL.y, hS, hL.p, ha⟩, ⟨rfl, rfl, rfl, rfl, rfl, rfl, rfl⟩⟩

/-- The cycle behind it. -/
theorem two_rel (s : PC) (r : RG) (i : Nat) (b0 d : Int) (irq : Bool) (hL : Live s r i 12) (hi : i < 56) (hok : okPair i 12 = true) (ht : takenR (insName i) r.P = true) (hst : s.st = 1) (hstep : s.step = 1) (had : s.ad = goalR r d) (hS : s.s = r.S) (hpc : s.pc = (r.PC + 2) % 65536) :
    Good (fun s h => MidB s r (insName i) h) s (s.turn irq).1 (s.turn irq).2 r i 12 (insName i) (modeName 12) [b0, d] := by
  obtain ⟨hs, hf, -⟩ := rel_ok i hi hok
  have K := read1_kept ({ s with step := 2 } : PC) s.pc
  have O := read1_outer ({ s with step := 2 } : PC) s s.pc ⟨rfl, rfl, rfl, rfl, rfl, rfl, rfl⟩
  have e : s.turn irq = (if hiI (({ s with step := 2 } : PC).read1 s.pc).ad = hiI (({ s with step := 2 } : PC).read1 s.pc).pc then (({ s with step := 2 } : PC).read1 s.pc).branch else ({ s with step := 2 } : PC).read1 s.pc, (s.read s.pc).2) := by rw [turn_mode s irq 12 1 hst hL.md hstep, w2]; rfl
  have tL : Live (({ s with step := 2 } : PC).read1 s.pc) r i 12 := ⟨K.a.trans hL.a, K.x.trans hL.x, K.y.trans hL.y, K.p.trans hL.p, K.ins.trans hL.ins, K.md.trans hL.md⟩
  have ta : (({ s with step := 2 } : PC).read1 s.pc).ad = goalR r d := K.ad.trans had
  have tp : (({ s with step := 2 } : PC).read1 s.pc).pc = (r.PC + 2) % 65536 := K.pc.trans hpc
  have tS : (({ s with step := 2 } : PC).read1 s.pc).s = r.S := K.sp.trans hS
  have tst : (({ s with step := 2 } : PC).read1 s.pc).st = 1 := K.st.trans hst
  have tstep : (({ s with step := 2 } : PC).read1 s.pc).step = 2 := K.step
  have tb : ∀ q, Beh s q → Beh (({ s with step := 2 } : PC).read1 s.pc) q := fun q hq => ⟨K.ba.trans hq.a, K.bx.trans hq.x, K.b_y.trans hq.y, K.bs.trans hq.sp, K.bp.trans hq.p, K.bpc.trans hq.pc⟩
  have tO : Outer (({ s with step := 2 } : PC).read1 s.pc) (s.read s.pc).1 := O
  generalize ({ s with step := 2 } : PC).read1 s.pc = t at *
  rw [ta, tp] at e
  have hn : nextR (insName i) (modeName 12) r [b0, d] = rdR ((r.PC + 2) % 65536) := by
    rw [show modeName 12 = (b3 114 101 108) from rfl, next_br _ r _ hs]; unfold branchesR; simp only [ht]; rfl
  have hn2 : nextR (insName i) (modeName 12) r ([b0, d] ++ [s.look s.pc]) = if goalR r d / 256 ≠ (r.PC + 2) % 65536 / 256 then rdR ((r.PC + 2) % 65536 / 256 * 256 + goalR r d % 256) else dnR := by
    rw [show modeName 12 = (b3 114 101 108) from rfl, next_br _ r _ hs]; rfl
  have hdn := done_br (insName i) r ([b0, d] ++ [s.look s.pc]) hf
  rw [if_pos ht] at hdn
  rw [e]
  unfold Good
  rw [hn, bus_rd s s.pc _ (by rw [hpc]; omega)]
  by_cases c : hiI (goalR r d) = hiI ((r.PC + 2) % 65536)
  · obtain ⟨f1, f2⟩ := fin_branch t r i _ tL tS ta
    refine ⟨rfl, ?_, .inr ⟨?_, ?_⟩⟩
    · simp only [c, if_true]; exact f2.trans tO
    · show (nextR (insName i) (modeName 12) r ([b0, d] ++ [s.look s.pc])).2 = false
      rw [hn2, if_neg (by intro q; exact q c)]; rfl
    · show Fin_ _ (doneR (insName i) (b3 114 101 108) r ([b0, d] ++ [s.look s.pc]))
      rw [hdn]; simp only [c, if_true]; exact f1
  · refine ⟨rfl, ?_, .inl ⟨?_, ?_, ?_, ?_⟩⟩
    · simp only [c, if_false]; exact tO
    · show (nextR (insName i) (modeName 12) r ([b0, d] ++ [s.look s.pc])).2 = true
      rw [hn2, if_pos (show goalR r d / 256 ≠ (r.PC + 2) % 65536 / 256 from c)]; rfl
    · simp only [c, if_false]; exact tL
    · intro q hq; simp only [c, if_false]; exact tb q hq
    · simp only [c, if_false]; exact .three ht tst tstep ta tS tp c

/-- The cycle in which the page is mended. -/
theorem three_rel (s : PC) (r : RG) (i : Nat) (b0 d x : Int) (irq : Bool) (hL : Live s r i 12) (hi : i < 56) (hok : okPair i 12 = true) (ht : takenR (insName i) r.P = true) (hst : s.st = 1) (hstep : s.step = 2) (had : s.ad = goalR r d) (hS : s.s = r.S) (hpc : s.pc = (r.PC + 2) % 65536) (hne : goalR r d / 256 ≠ (r.PC + 2) % 65536 / 256) :
    Good (fun s h => MidB s r (insName i) h) s (s.turn irq).1 (s.turn irq).2 r i 12 (insName i) (modeName 12) [b0, d, x] := by
  obtain ⟨hs, hf, -⟩ := rel_ok i hi hok
  have hg := goal_r r d
  have hq : joinI (loI s.ad) (hiI s.pc) = (r.PC + 2) % 65536 / 256 * 256 + goalR r d % 256 := by rw [had, hpc]; unfold joinI loI hiI; omega
  have K := read1_kept ({ s with step := 3 } : PC) ((r.PC + 2) % 65536 / 256 * 256 + goalR r d % 256)
  have O := read1_outer ({ s with step := 3 } : PC) s ((r.PC + 2) % 65536 / 256 * 256 + goalR r d % 256) ⟨rfl, rfl, rfl, rfl, rfl, rfl, rfl⟩
  have e : s.turn irq = ((({ s with step := 3 } : PC).read1 ((r.PC + 2) % 65536 / 256 * 256 + goalR r d % 256)).branch, (s.read ((r.PC + 2) % 65536 / 256 * 256 + goalR r d % 256)).2) := by
    rw [turn_mode s irq 12 2 hst hL.md hstep, w3]
    show ((({ s with step := 3 } : PC).read1 (joinI (loI s.ad) (hiI s.pc))).branch, (s.read (joinI (loI s.ad) (hiI s.pc))).2) = _
    rw [hq]
  obtain ⟨f1, f2⟩ := fin_branch (({ s with step := 3 } : PC).read1 ((r.PC + 2) % 65536 / 256 * 256 + goalR r d % 256)) r i (goalR r d) ⟨K.a.trans hL.a, K.x.trans hL.x, K.y.trans hL.y, K.p.trans hL.p, K.ins.trans hL.ins, K.md.trans hL.md⟩ (K.sp.trans hS) (K.ad.trans had)
  have hn : nextR (insName i) (modeName 12) r [b0, d, x] = rdR ((r.PC + 2) % 65536 / 256 * 256 + goalR r d % 256) := by
    rw [show modeName 12 = (b3 114 101 108) from rfl, next_br _ r _ hs]
    show (if goalR r d / 256 ≠ (r.PC + 2) % 65536 / 256 then rdR ((r.PC + 2) % 65536 / 256 * 256 + goalR r d % 256) else dnR) = _
    rw [if_pos hne]
  have hdn := done_br (insName i) r ([b0, d, x] ++ [s.look ((r.PC + 2) % 65536 / 256 * 256 + goalR r d % 256)]) hf
  rw [if_pos ht] at hdn
  rw [e]
  unfold Good
  rw [hn, bus_rd s ((r.PC + 2) % 65536 / 256 * 256 + goalR r d % 256) _ (by omega)]
  refine ⟨rfl, f2.trans O, .inr ⟨?_, ?_⟩⟩
  · show (nextR (insName i) (modeName 12) r ([b0, d, x] ++ [s.look ((r.PC + 2) % 65536 / 256 * 256 + goalR r d % 256)])).2 = false
    rw [show modeName 12 = (b3 114 101 108) from rfl, next_br _ r _ hs]; rfl
  · show Fin_ _ (doneR (insName i) (b3 114 101 108) r ([b0, d, x] ++ [s.look ((r.PC + 2) % 65536 / 256 * 256 + goalR r d % 256)]))
    rw [hdn]; exact f1
end

/-
  Jumps: each cycle of the program is the document's.
-/
section
theorem jmp_ok (i m : Nat) (hi : i < 56) (hm : m = 13 ∨ m = 14) (h : okPair i m = true) : i = 27 := by
  have : ∀ i : Fin 56, (okPair i.val 13 = true → i.val = 27) ∧ (okPair i.val 14 = true → i.val = 27) := by decide +kernel
  rcases hm with rfl | rfl
  · exact (this ⟨i, hi⟩).1 h
  · exact (this ⟨i, hi⟩).2 h

theorem next_jmp (md : BA) (r : RG) (h : List Int) : nextR (insName 27) md r h = jumpsR md r h := rfl
inductive MidJ (s : PC) (r : RG) : Nat → List Int → Prop
  | two {m : Nat} {b0 b1 : Int} : m = 13 ∨ m = 14 → s.st = 1 → s.step = 1 → s.ad = b1 → s.s = r.S → s.pc = (r.PC + 2) % 65536 → MidJ s r m [b0, b1]
  | three {b0 b1 c : Int} : s.st = 1 → s.step = 2 → s.hop = b1 + 256 * c → s.s = r.S → MidJ s r 14 [b0, b1, c]
  | four {b0 b1 c d : Int} : s.st = 1 → s.step = 3 → s.hop = b1 + 256 * c → s.ad = d → s.s = r.S → MidJ s r 14 [b0, b1, c, d]

/-- Where a jump ends: the higher byte comes. -/
theorem fin_jmp (s : PC) (r : RG) (m : Nat) (k a : Int) (hL : Live s r 27 m) (hS : s.s = r.S) (hB : Bytes_ s) (ha : 0 ≤ a ∧ a < 65536) (had : 0 ≤ s.ad ∧ s.ad < 256) :
    (goThere (({ s with step := k } : PC).read a)).2 = (s.read a).2 ∧ Outer (goThere (({ s with step := k } : PC).read a)).1 (s.read a).1 ∧ Fin_ (goThere (({ s with step := k } : PC).read a)).1 { r with PC := s.ad + 256 * s.look a } := by
  have hb := look_b hB a ha.2
  have K := read1_kept ({ s with step := k } : PC) a
  have O := read1_outer ({ s with step := k } : PC) s a ⟨rfl, rfl, rfl, rfl, rfl, rfl, rfl⟩
  have hn : (({ s with step := k } : PC).read1 a).ins.toNat = 27 := by rw [K.ins]; show s.ins.toNat = 27; rw [hL.ins]; rfl
  have hj : joinI (loI (({ s with step := k } : PC).read1 a).ad) (s.look a % 256) = s.ad + 256 * s.look a := by
    rw [K.ad]; unfold joinI loI; show s.look a % 256 * 256 + s.ad % 256 = _; omega
  have e : (goThere (({ s with step := k } : PC).read a)).1 = ({ ({ (({ s with step := k } : PC).read1 a) with ad := s.ad + 256 * s.look a } : PC) with pc := s.ad + 256 * s.look a } : PC).finish := by
    show ({ (({ s with step := k } : PC).read1 a) with ad := joinI (loI (({ s with step := k } : PC).read1 a).ad) (s.look a % 256) } : PC).performLast = _
    rw [hj]
    unfold PC.performLast PC.perform
    show (({ (({ s with step := k } : PC).read1 a) with ad := s.ad + 256 * s.look a } : PC).doIns (({ s with step := k } : PC).read1 a).ins.toNat).finish = _
    rw [hn]; rfl
  rw [e]
  exact ⟨rfl, ⟨O.mem, O.rom, O.cnt, O.calls, O.on, O.due, O.cyc⟩, ⟨rfl, ⟨K.a.trans hL.a, K.x.trans hL.x, K.y.trans hL.y, K.sp.trans hS, K.p.trans hL.p, rfl⟩, K.a.trans hL.a, K.x.trans hL.x, K.y.trans hL.y, K.sp.trans hS, K.p.trans hL.p, rfl⟩⟩

/-- The first byte. -/
theorem one_jmp (s : PC) (r : RG) (m : Nat) (b0 : Int) (irq : Bool) (hm : m = 13 ∨ m = 14) (hL : Live s r 27 m) (hR : Rg r) (hB : Bytes_ s) (hst : s.st = 1) (hstep : s.step = 0) (hS : s.s = r.S) (hpc : s.pc = (r.PC + 1) % 65536) :
    Good (fun s h => MidJ s r m h) s (s.turn irq).1 (s.turn irq).2 r 27 m (insName 27) (modeName m) [b0] := by
  have hp : 0 ≤ s.pc ∧ s.pc < 65536 := by rw [hpc]; omega
  obtain ⟨g1, g2, g3, g4, g5⟩ := g_low s 1 1 hB hp
  have e : s.turn irq = takeLow ({ s with step := 1, st := 1 } : PC).readNext := by
    rcases hm with rfl | rfl
    · rw [turn_mode s irq 13 0 hst hL.md hstep, w1, step_st s 1 hst]; rfl
    · rw [turn_mode s irq 14 0 hst hL.md hstep, w1, step_st s 1 hst]; rfl
  rw [e]
  unfold Good
  rw [next_jmp]
  show _ = (s.busOf (rdR (r.PC + 1)).1).2 ∧ Outer _ (s.busOf (rdR (r.PC + 1)).1).1 ∧ _
  rw [bus_rd s s.pc (r.PC + 1) hpc.symm]
  refine ⟨g1.bus, g1.out, .inl ⟨rfl, g1.live hL, fun q hq => g1.beh q hq, .two hm g2 g3 g4 (g1.sp.trans hS) ?_⟩⟩
  rw [g5, hpc]; have := hR.PC; omega

/-- JMP abs: the second byte: it is done. -/
theorem two_jmp (s : PC) (r : RG) (b0 b1 : Int) (irq : Bool) (hL : Live s r 27 13) (hB : Bytes_ s) (hb1 : 0 ≤ b1 ∧ b1 < 256) (hst : s.st = 1) (hstep : s.step = 1) (had : s.ad = b1) (hS : s.s = r.S) (hpc : s.pc = (r.PC + 2) % 65536) :
    Good (fun s h => MidJ s r 13 h) s (s.turn irq).1 (s.turn irq).2 r 27 13 (insName 27) (modeName 13) [b0, b1] := by
  subst had
  have hp : 0 ≤ s.pc ∧ s.pc < 65536 := by rw [hpc]; omega
  obtain ⟨f1, f2, f3⟩ := fin_jmp s r 13 2 s.pc hL hS hB hp hb1
  have e : s.turn irq = goThere (({ s with step := 2 } : PC).read s.pc) := by rw [turn_mode s irq 13 1 hst hL.md hstep, w2]; rfl
  rw [e]
  unfold Good
  rw [next_jmp]
  show _ = (s.busOf (rdR (r.PC + 2)).1).2 ∧ Outer _ (s.busOf (rdR (r.PC + 2)).1).1 ∧ _
  rw [bus_rd s s.pc (r.PC + 2) hpc.symm, f1]
  refine ⟨rfl, f2, .inr ⟨rfl, ?_⟩⟩
  exact f3

/-- JMP ind: the second byte. -/
theorem two_ind (s : PC) (r : RG) (b0 b1 : Int) (irq : Bool) (hL : Live s r 27 14) (hB : Bytes_ s) (hb1 : 0 ≤ b1 ∧ b1 < 256) (hst : s.st = 1) (hstep : s.step = 1) (had : s.ad = b1) (hS : s.s = r.S) (hpc : s.pc = (r.PC + 2) % 65536) :
    Good (fun s h => MidJ s r 14 h) s (s.turn irq).1 (s.turn irq).2 r 27 14 (insName 27) (modeName 14) [b0, b1] := by
  have hp : 0 ≤ s.pc ∧ s.pc < 65536 := by rw [hpc]; omega
  obtain ⟨g1, g2, g3, g4, g5⟩ := g_high s 2 1 hB hp (by rw [had]; exact hb1)
  have e : s.turn irq = ({ (takeHigh ({ s with step := 2, st := 1 } : PC).readNext).1 with hop := (takeHigh ({ s with step := 2, st := 1 } : PC).readNext).1.ad }, (takeHigh ({ s with step := 2, st := 1 } : PC).readNext).2) := by
    rw [turn_mode s irq 14 1 hst hL.md hstep, w2, step_st s 2 hst]; rfl
  have hl : Live (takeHigh ({ s with step := 2, st := 1 } : PC).readNext).1 r 27 14 := g1.live hL
  have hb : ∀ q, Beh s q → Beh (takeHigh ({ s with step := 2, st := 1 } : PC).readNext).1 q := fun q hq => g1.beh q hq
  have hsp := g1.sp.trans hS
  have ho := g1.out
  rw [e]
  unfold Good
  rw [next_jmp]
  show _ = (s.busOf (rdR (r.PC + 2)).1).2 ∧ Outer _ (s.busOf (rdR (r.PC + 2)).1).1 ∧ _
  rw [bus_rd s s.pc (r.PC + 2) hpc.symm]
  exact ⟨g1.bus, ⟨ho.mem, ho.rom, ho.cnt, ho.calls, ho.on, ho.due, ho.cyc⟩, .inl ⟨rfl, ⟨hl.a, hl.x, hl.y, hl.p, hl.ins, hl.md⟩, fun q hq => ⟨(hb q hq).a, (hb q hq).x, (hb q hq).y, (hb q hq).sp, (hb q hq).p, (hb q hq).pc⟩, .three g2 g3 (by show (takeHigh ({ s with step := 2, st := 1 } : PC).readNext).1.ad = _; rw [g4, had]; rfl) hsp⟩⟩

/-- JMP ind: the lower byte of where it goes. -/
theorem three_ind (s : PC) (r : RG) (b0 b1 c : Int) (irq : Bool) (hL : Live s r 27 14) (hB : Bytes_ s) (hb1 : 0 ≤ b1 ∧ b1 < 256) (hc : 0 ≤ c ∧ c < 256) (hst : s.st = 1) (hstep : s.step = 2) (hh : s.hop = b1 + 256 * c) (hS : s.s = r.S) :
    Good (fun s h => MidJ s r 14 h) s (s.turn irq).1 (s.turn irq).2 r 27 14 (insName 27) (modeName 14) [b0, b1, c] := by
  have ha : 0 ≤ s.hop ∧ s.hop < 65536 := by rw [hh]; omega
  obtain ⟨g1, g2, g3, g4, g5, g6⟩ := g_lowAt s 3 1 s.hop hB ha
  have e : s.turn irq = takeLow (({ s with step := 3, st := 1 } : PC).read s.hop) := by rw [turn_mode s irq 14 2 hst hL.md hstep, w3, step_st s 3 hst]; rfl
  rw [e]
  unfold Good
  rw [next_jmp]
  show _ = (s.busOf (rdR (b1 + 256 * c)).1).2 ∧ Outer _ (s.busOf (rdR (b1 + 256 * c)).1).1 ∧ _
  rw [bus_rd s s.hop (b1 + 256 * c) (by rw [hh]; omega)]
  exact ⟨g1.bus, g1.out, .inl ⟨rfl, g1.live hL, fun q hq => g1.beh q hq, .four g2 g3 (g6.trans hh) g4 (g1.sp.trans hS)⟩⟩

/-- JMP ind: the higher one: it is done. -/
theorem four_ind (s : PC) (r : RG) (b0 b1 c d : Int) (irq : Bool) (hL : Live s r 27 14) (hB : Bytes_ s) (hb1 : 0 ≤ b1 ∧ b1 < 256) (hc : 0 ≤ c ∧ c < 256) (hd : 0 ≤ d ∧ d < 256) (hst : s.st = 1) (hstep : s.step = 3) (hh : s.hop = b1 + 256 * c) (had : s.ad = d) (hS : s.s = r.S) :
    Good (fun s h => MidJ s r 14 h) s (s.turn irq).1 (s.turn irq).2 r 27 14 (insName 27) (modeName 14) [b0, b1, c, d] := by
  subst had
  have hw : withinI s.hop 1 = (b1 + 1) % 256 + 256 * c := by rw [hh]; unfold withinI joinI loI hiI; omega
  have ha : 0 ≤ (b1 + 1) % 256 + 256 * c ∧ (b1 + 1) % 256 + 256 * c < 65536 := by omega
  obtain ⟨f1, f2, f3⟩ := fin_jmp s r 14 4 ((b1 + 1) % 256 + 256 * c) hL hS hB ha hd
  have e : s.turn irq = goThere (({ s with step := 4 } : PC).read ((b1 + 1) % 256 + 256 * c)) := by
    rw [turn_mode s irq 14 3 hst hL.md hstep, w4]
    show goThere (({ s with step := 4 } : PC).read (withinI s.hop 1)) = _
    rw [hw]
  rw [e]
  unfold Good
  rw [next_jmp]
  show _ = (s.busOf (rdR ((b1 + 1) % 256 + 256 * c)).1).2 ∧ Outer _ (s.busOf (rdR ((b1 + 1) % 256 + 256 * c)).1).1 ∧ _
  rw [bus_rd s ((b1 + 1) % 256 + 256 * c) _ (by omega), f1]
  exact ⟨rfl, f2, .inr ⟨rfl, f3⟩⟩
end

/-
  Pulls: each cycle of the program is the document's.
-/
section
/-- A byte read for nothing. -/
theorem g_read (s : PC) (k a : Int) : Gath s (({ s with step := k } : PC).read a).1 (({ s with step := k } : PC).read a).2 a ∧ (({ s with step := k } : PC).read a).1.st = s.st ∧ (({ s with step := k } : PC).read a).1.step = k ∧ (({ s with step := k } : PC).read a).1.pc = s.pc ∧ (({ s with step := k } : PC).read a).1.ad = s.ad := by
  have K := read1_kept ({ s with step := k } : PC) a
  have O := read1_outer ({ s with step := k } : PC) s a ⟨rfl, rfl, rfl, rfl, rfl, rfl, rfl⟩
  exact ⟨⟨rfl, O, K.a, K.x, K.y, K.sp, K.p, K.ins, K.md, K.ba, K.bx, K.b_y, K.bs, K.bp, K.bpc⟩, K.st, K.step, K.pc, K.ad⟩

theorem pull_ok (i : Nat) (hi : i < 56) (h : okPair i 18 = true) : i = 37 ∨ i = 38 := by
  have : ∀ i : Fin 56, okPair i.val 18 = true → i.val = 37 ∨ i.val = 38 := by decide +kernel
  exact this ⟨i, hi⟩ h
theorem next_pl (i : Nat) (md : BA) (r : RG) (h : List Int) (hi : i = 37 ∨ i = 38) : nextR (insName i) md r h = pullsR (insName i) r h := by
  rcases hi with rfl | rfl <;> rfl

inductive MidP (s : PC) (r : RG) : List Int → Prop
  | two {b0 b1 : Int} : s.st = 1 → s.step = 1 → s.s = r.S → s.pc = (r.PC + 1) % 65536 → MidP s r [b0, b1]
  | three {b0 b1 c : Int} : s.st = 1 → s.step = 2 → s.s = r.S → s.pc = (r.PC + 1) % 65536 → MidP s r [b0, b1, c]

theorem one_pull (s : PC) (r : RG) (i : Nat) (b0 : Int) (irq : Bool) (hi : i = 37 ∨ i = 38) (hL : Live s r i 18) (hst : s.st = 1) (hstep : s.step = 0) (hS : s.s = r.S) (hpc : s.pc = (r.PC + 1) % 65536) :
    Good (fun s h => MidP s r h) s (s.turn irq).1 (s.turn irq).2 r i 18 (insName i) (modeName 18) [b0] := by
  obtain ⟨g1, g2, g3, g4, -⟩ := g_read s 1 s.pc
  have e : s.turn irq = ({ s with step := 1 } : PC).read s.pc := by rw [turn_mode s irq 18 0 hst hL.md hstep, w1]; rfl
  have hm : (nextR (insName i) (modeName 18) r ([b0] ++ [(({ s with step := 1 } : PC).read s.pc).2.data])).2 = true := by rw [next_pl i _ r _ hi]; rcases hi with rfl | rfl <;> rfl
  rw [e]
  unfold Good
  rw [next_pl i _ r _ hi]
  show _ = (s.busOf (rdR (r.PC + 1)).1).2 ∧ Outer _ (s.busOf (rdR (r.PC + 1)).1).1 ∧ _
  rw [bus_rd s s.pc (r.PC + 1) hpc.symm]
  exact ⟨g1.bus, g1.out, .inl ⟨hm, g1.live hL, fun q hq => g1.beh q hq, .two (g2.trans hst) g3 (g1.sp.trans hS) (g4.trans hpc)⟩⟩

theorem two_pull (s : PC) (r : RG) (i : Nat) (b0 b1 : Int) (irq : Bool) (hi : i = 37 ∨ i = 38) (hL : Live s r i 18) (hR : Rg r) (hst : s.st = 1) (hstep : s.step = 1) (hS : s.s = r.S) (hpc : s.pc = (r.PC + 1) % 65536) :
    Good (fun s h => MidP s r h) s (s.turn irq).1 (s.turn irq).2 r i 18 (insName i) (modeName 18) [b0, b1] := by
  obtain ⟨g1, g2, g3, g4, -⟩ := g_read s 2 (256 + r.S)
  have e : s.turn irq = ({ s with step := 2 } : PC).read (256 + r.S) := by
    rw [turn_mode s irq 18 1 hst hL.md hstep, w2]
    show ({ s with step := 2 } : PC).read (joinI s.s 1) = _
    rw [hS]; rfl
  have hm : (nextR (insName i) (modeName 18) r ([b0, b1] ++ [(({ s with step := 2 } : PC).read (256 + r.S)).2.data])).2 = true := by rw [next_pl i _ r _ hi]; rcases hi with rfl | rfl <;> rfl
  have hn : nextR (insName i) (modeName 18) r [b0, b1] = rdR (256 + (r.S + 2 - 2) % 256) := by rw [next_pl i _ r _ hi]; rcases hi with rfl | rfl <;> rfl
  rw [e]
  unfold Good
  rw [hn, bus_rd s (256 + r.S) _ (by have := hR.S; omega)]
  exact ⟨g1.bus, g1.out, .inl ⟨hm, g1.live hL, fun q hq => g1.beh q hq, .three (g2.trans hst) g3 (g1.sp.trans hS) (g4.trans hpc)⟩⟩

/-- The byte is pulled: it is done. -/
theorem three_pull (s : PC) (r : RG) (i : Nat) (b0 b1 c : Int) (irq : Bool) (hi : i = 37 ∨ i = 38) (hL : Live s r i 18) (hR : Rg r) (hB : Bytes_ s) (hst : s.st = 1) (hstep : s.step = 2) (hS : s.s = r.S) (hpc : s.pc = (r.PC + 1) % 65536) :
    Good (fun s h => MidP s r h) s (s.turn irq).1 (s.turn irq).2 r i 18 (insName i) (modeName 18) [b0, b1, c] := by
  have ha : 0 ≤ 256 + (r.S + 1) % 256 ∧ 256 + (r.S + 1) % 256 < 65536 := by omega
  have hb := look_b hB _ ha.2
  have el : s.look (256 + (r.S + 1) % 256) % 256 = s.look (256 + (r.S + 1) % 256) := by omega
  have K := read1_kept ({ s with step := 3, s := (r.S + 1) % 256 } : PC) (256 + (r.S + 1) % 256)
  have O := read1_outer ({ s with step := 3, s := (r.S + 1) % 256 } : PC) s (256 + (r.S + 1) % 256) ⟨rfl, rfl, rfl, rfl, rfl, rfl, rfl⟩
  obtain ⟨t, e, tL, tS, td, tp, tO⟩ : ∃ t : PC, s.turn irq = (t.performLast, (s.read (256 + (r.S + 1) % 256)).2) ∧ Live t r i 18 ∧ t.s = (r.S + 1) % 256 ∧ t.data = s.look (256 + (r.S + 1) % 256) ∧ t.pc = (r.PC + 1) % 65536 ∧ Outer t (s.read (256 + (r.S + 1) % 256)).1 := by
    refine ⟨({ (({ s with step := 3, s := (r.S + 1) % 256 } : PC).read1 (256 + (r.S + 1) % 256)) with data := s.look (256 + (r.S + 1) % 256) % 256 } : PC), ?_, ⟨K.a.trans hL.a, K.x.trans hL.x, K.y.trans hL.y, K.p.trans hL.p, K.ins.trans hL.ins, K.md.trans hL.md⟩, K.sp, el, K.pc.trans hpc, ⟨O.mem, O.rom, O.cnt, O.calls, O.on, O.due, O.cyc⟩⟩
    rw [turn_mode s irq 18 2 hst hL.md hstep, w3]
    show (({ (({ s with step := 3, s := (s.s + 1) % 256 } : PC).read1 (joinI ((s.s + 1) % 256) 1)) with data := s.look (joinI ((s.s + 1) % 256) 1) % 256 } : PC).performLast, (s.read (joinI ((s.s + 1) % 256) 1)).2) = _
    rw [hS]; rfl
  have hn : nextR (insName i) (modeName 18) r [b0, b1, c] = rdR (256 + (r.S + 3 - 2) % 256) := by rw [next_pl i _ r _ hi]; rcases hi with rfl | rfl <;> rfl
  have hm : (nextR (insName i) (modeName 18) r ([b0, b1, c] ++ [s.look (256 + (r.S + 1) % 256)])).2 = false := by rw [next_pl i _ r _ hi]; rcases hi with rfl | rfl <;> rfl
  have hf : Fin_ t.performLast (doneR (insName i) (modeName 18) r ([b0, b1, c] ++ [s.look (256 + (r.S + 1) % 256)])) ∧ Outer t.performLast t := by
    have hn : t.ins.toNat = i := by rw [tL.ins]; rfl
    rcases hi with rfl | rfl
    · have q : t.performLast = ({ t with a := t.data, p := nzR t.p t.data } : PC).finish := by
        unfold PC.performLast PC.perform
        rw [hn]
        show (t.loadA t.data).finish = _
        unfold PC.loadA
        rw [nz_eq t.p t.data (by rw [tL.p]; exact hR.P.1) (by rw [tL.p]; exact hR.P.2) (by rw [td]; exact hb.1) (by rw [td]; exact hb.2)]
      rw [q]
      refine ⟨⟨rfl, ⟨td, tL.x, tL.y, tS, ?_, tp⟩, td, tL.x, tL.y, tS, ?_, tp⟩, ⟨rfl, rfl, rfl, rfl, rfl, rfl, rfl⟩⟩
      all_goals (show nzR t.p t.data = nzR r.P (s.look (256 + (r.S + 1) % 256)); rw [tL.p, td])
    · have q : t.performLast = ({ t with p := i64or (i64and t.data 207) 32 } : PC).finish := by
        unfold PC.performLast PC.perform
        rw [hn]
        show ({ t with p := setpI t.data } : PC).finish = _
        rw [setp_eq t.data (by rw [td]; exact hb.1) (by rw [td]; exact hb.2)]
      rw [q]
      refine ⟨⟨rfl, ⟨tL.a, tL.x, tL.y, tS, ?_, tp⟩, tL.a, tL.x, tL.y, tS, ?_, tp⟩, ⟨rfl, rfl, rfl, rfl, rfl, rfl, rfl⟩⟩
      all_goals (show i64or (i64and t.data 207) 32 = i64or (i64and (s.look (256 + (r.S + 1) % 256)) 207) 32; rw [td])
  rw [e]
  unfold Good
  rw [hn, bus_rd s (256 + (r.S + 1) % 256) _ (by have := hR.S; omega)]
  exact ⟨rfl, hf.2.trans tO, .inr ⟨hm, hf.1⟩⟩
end

/-
  Pushes: each cycle of the program is the document's.
-/
section
theorem push_ok (i : Nat) (hi : i < 56) (h : okPair i 17 = true) : i = 35 ∨ i = 36 := by
  have : ∀ i : Fin 56, okPair i.val 17 = true → i.val = 35 ∨ i.val = 36 := by decide +kernel
  exact this ⟨i, hi⟩ h

inductive MidU (s : PC) (r : RG) : List Int → Prop
  | two {b0 b1 : Int} : s.st = 1 → s.step = 1 → s.s = r.S → s.pc = (r.PC + 1) % 65536 → MidU s r [b0, b1]

theorem one_push (s : PC) (r : RG) (i : Nat) (b0 : Int) (irq : Bool) (hi : i = 35 ∨ i = 36) (hL : Live s r i 17) (hst : s.st = 1) (hstep : s.step = 0) (hS : s.s = r.S) (hpc : s.pc = (r.PC + 1) % 65536) :
    Good (fun s h => MidU s r h) s (s.turn irq).1 (s.turn irq).2 r i 17 (insName i) (modeName 17) [b0] := by
  obtain ⟨g1, g2, g3, g4, -⟩ := g_read s 1 s.pc
  have e : s.turn irq = ({ s with step := 1 } : PC).read s.pc := by rw [turn_mode s irq 17 0 hst hL.md hstep, w1]; rfl
  have hm : (nextR (insName i) (modeName 17) r ([b0] ++ [(({ s with step := 1 } : PC).read s.pc).2.data])).2 = true := by rcases hi with rfl | rfl <;> rfl
  have hn : nextR (insName i) (modeName 17) r [b0] = rdR (r.PC + 1) := by rcases hi with rfl | rfl <;> rfl
  rw [e]
  unfold Good
  rw [hn, bus_rd s s.pc (r.PC + 1) hpc.symm]
  exact ⟨g1.bus, g1.out, .inl ⟨hm, g1.live hL, fun q hq => g1.beh q hq, .two (g2.trans hst) g3 (g1.sp.trans hS) (g4.trans hpc)⟩⟩

/-- The byte is pushed: it is done. -/
theorem two_push (s : PC) (r : RG) (i : Nat) (b0 b1 : Int) (irq : Bool) (hi : i = 35 ∨ i = 36) (hL : Live s r i 17) (hR : Rg r) (hst : s.st = 1) (hstep : s.step = 1) (hS : s.s = r.S) (hpc : s.pc = (r.PC + 1) % 65536) :
    Good (fun s h => MidU s r h) s (s.turn irq).1 (s.turn irq).2 r i 17 (insName i) (modeName 17) [b0, b1] := by
  have em : (256 + r.S) % 65536 = 256 + r.S := by have := hR.S; omega
  have hv : ∃ v : Int, ({ s with step := 2 } : PC).perform = { s with step := 2, data := v } ∧ nextR (insName i) (modeName 17) r [b0, b1] = wrR (256 + r.S) v := by
    have hn : ({ s with step := 2 } : PC).ins.toNat = i := by show s.ins.toNat = i; rw [hL.ins]; rfl
    rcases hi with rfl | rfl
    · refine ⟨s.a, ?_, ?_⟩
      · unfold PC.perform; rw [hn]; rfl
      · rw [hL.a]; rfl
    · refine ⟨bits .or .u8 s.p 16, ?_, ?_⟩
      · unfold PC.perform; rw [hn]; rfl
      · rw [or_u8_i64 s.p 16 (by rw [hL.p]; exact hR.P.1) (by rw [hL.p]; exact hR.P.2) (by omega) (by omega), hL.p]; rfl
  obtain ⟨v, hpf, hn⟩ := hv
  have e : s.turn irq = (({ (({ s with step := 2, data := v } : PC).write1 (256 + r.S) v) with s := ((({ s with step := 2, data := v } : PC).write1 (256 + r.S) v).s - 1) % 256 } : PC).finish, (s.write (256 + r.S) v).2) := by
    rw [turn_mode s irq 17 1 hst hL.md hstep, w2]
    show ((({ s with step := 2 } : PC).perform.pushed ({ s with step := 2 } : PC).perform.data).1.finish, (({ s with step := 2 } : PC).perform.pushed ({ s with step := 2 } : PC).perform.data).2) = _
    rw [hpf]
    show (({ (({ s with step := 2, data := v } : PC).write1 (joinI s.s 1) v) with s := ((({ s with step := 2, data := v } : PC).write1 (joinI s.s 1) v).s - 1) % 256 } : PC).finish, (s.write (joinI s.s 1) v).2) = _
    rw [show joinI s.s 1 = 256 + r.S from by rw [hS]; rfl]
  obtain ⟨w1', w2'⟩ := write_outer ({ s with step := 2, data := v } : PC) s (256 + r.S) v ⟨rfl, rfl, rfl, rfl, rfl, rfl, rfl⟩
  obtain ⟨u, hu, u1, u2, u3, u4, u5, u6, -⟩ := write_keeps ({ s with step := 2, data := v } : PC) (256 + r.S) v
  have hu' : ({ s with step := 2, data := v } : PC).write1 (256 + r.S) v = u := hu
  have w2'' : Outer u (s.write (256 + r.S) v).1 := by rw [← hu]; exact w2'
  rw [hu'] at e
  have hm : (nextR (insName i) (modeName 17) r ([b0, b1] ++ [v])).2 = false := by rcases hi with rfl | rfl <;> rfl
  have hd : doneR (insName i) (modeName 17) r ([b0, b1] ++ [v]) = { r with PC := (r.PC + 1) % 65536, S := (r.S - 1) % 256 } := by rcases hi with rfl | rfl <;> rfl
  rw [e]
  unfold Good
  rw [hn]
  have hbus : s.busOf (wrR (256 + r.S) v).1 = s.write (256 + r.S) v := by unfold PC.busOf wrR; simp only [em]; rfl
  rw [hbus]
  refine ⟨rfl, ⟨w2''.mem, w2''.rom, w2''.cnt, w2''.calls, w2''.on, w2''.due, w2''.cyc⟩, .inr ⟨hm, ?_⟩⟩
  show Fin_ _ (doneR (insName i) (modeName 17) r ([b0, b1] ++ [v]))
  rw [hd]
  have us : (u.s - 1) % 256 = (r.S - 1) % 256 := by rw [u4]; show (s.s - 1) % 256 = _; rw [hS]
  exact ⟨rfl, ⟨u1.trans hL.a, u2.trans hL.x, u3.trans hL.y, us, u5.trans hL.p, u6.trans hpc⟩, u1.trans hL.a, u2.trans hL.x, u3.trans hL.y, us, u5.trans hL.p, u6.trans hpc⟩
end

/-
  Ways back (RTS, RTI): each cycle of the program is the document's.
-/
section
theorem back_ok (i : Nat) (hi : i < 56) : (okPair i 16 = true → i = 42) ∧ (okPair i 22 = true → i = 41) := by
  have : ∀ i : Fin 56, (okPair i.val 16 = true → i.val = 42) ∧ (okPair i.val 22 = true → i.val = 41) := by decide +kernel
  exact this ⟨i, hi⟩

/-- In the midst of a way back; m: 16 (RTS), 22 (RTI). -/
inductive MidO (s : PC) (r : RG) : Nat → List Int → Prop
  | two {m : Nat} {b0 b1 : Int} : s.st = 1 → s.step = 1 → s.s = r.S → MidO s r m [b0, b1]
  | three {m : Nat} {b0 b1 c : Int} : s.st = 1 → s.step = 2 → s.s = r.S → MidO s r m [b0, b1, c]
  | rts4 {b0 b1 c d : Int} : s.st = 1 → s.step = 3 → s.s = (r.S + 1) % 256 → s.ad = d → MidO s r 16 [b0, b1, c, d]
  | rts5 {b0 b1 c d e : Int} : s.st = 1 → s.step = 4 → s.s = (r.S + 2) % 256 → s.ad = d + 256 * e → MidO s r 16 [b0, b1, c, d, e]
  | rti4 {b0 b1 c d : Int} : s.st = 1 → s.step = 3 → s.s = (r.S + 1) % 256 → s.data = d → MidO s r 22 [b0, b1, c, d]
  | rti5 {b0 b1 c d e : Int} : s.st = 1 → s.step = 4 → s.s = (r.S + 2) % 256 → s.data = d → s.ad = e → MidO s r 22 [b0, b1, c, d, e]

def bi (m : Nat) : Nat := if m = 16 then 42 else 41

theorem one_back (s : PC) (r : RG) (m : Nat) (b0 : Int) (irq : Bool) (hm : m = 16 ∨ m = 22) (hL : Live s r (bi m) m) (hst : s.st = 1) (hstep : s.step = 0) (hS : s.s = r.S) (hpc : s.pc = (r.PC + 1) % 65536) :
    Good (fun s h => MidO s r m h) s (s.turn irq).1 (s.turn irq).2 r (bi m) m (insName (bi m)) (modeName m) [b0] := by
  obtain ⟨g1, g2, g3, -, -⟩ := g_read s 1 s.pc
  have e : s.turn irq = ({ s with step := 1 } : PC).read s.pc := by
    rw [turn_mode s irq m 0 hst hL.md hstep, w1]; rcases hm with rfl | rfl <;> rfl
  have hmore : (nextR (insName (bi m)) (modeName m) r ([b0] ++ [(({ s with step := 1 } : PC).read s.pc).2.data])).2 = true := by rcases hm with rfl | rfl <;> rfl
  have hn : nextR (insName (bi m)) (modeName m) r [b0] = rdR (r.PC + 1) := by rcases hm with rfl | rfl <;> rfl
  rw [e]
  unfold Good
  rw [hn, bus_rd s s.pc (r.PC + 1) hpc.symm]
  exact ⟨g1.bus, g1.out, .inl ⟨hmore, g1.live hL, fun q hq => g1.beh q hq, .two (g2.trans hst) g3 (g1.sp.trans hS)⟩⟩

theorem two_back (s : PC) (r : RG) (m : Nat) (b0 b1 : Int) (irq : Bool) (hm : m = 16 ∨ m = 22) (hL : Live s r (bi m) m) (hR : Rg r) (hst : s.st = 1) (hstep : s.step = 1) (hS : s.s = r.S) :
    Good (fun s h => MidO s r m h) s (s.turn irq).1 (s.turn irq).2 r (bi m) m (insName (bi m)) (modeName m) [b0, b1] := by
  obtain ⟨g1, g2, g3, -, -⟩ := g_read s 2 (256 + r.S)
  have e : s.turn irq = ({ s with step := 2 } : PC).read (256 + r.S) := by
    rw [turn_mode s irq m 1 hst hL.md hstep, w2, ← hS]; rcases hm with rfl | rfl <;> rfl
  have hmore : (nextR (insName (bi m)) (modeName m) r ([b0, b1] ++ [(({ s with step := 2 } : PC).read (256 + r.S)).2.data])).2 = true := by rcases hm with rfl | rfl <;> rfl
  have hn : nextR (insName (bi m)) (modeName m) r [b0, b1] = rdR (256 + (r.S + 2 - 2) % 256) := by rcases hm with rfl | rfl <;> rfl
  rw [e]
  unfold Good
  rw [hn, bus_rd s (256 + r.S) _ (by have := hR.S; omega)]
  exact ⟨g1.bus, g1.out, .inl ⟨hmore, g1.live hL, fun q hq => g1.beh q hq, .three (g2.trans hst) g3 (g1.sp.trans hS)⟩⟩

/-- RTS: the lower byte. -/
theorem rts_3 (s : PC) (r : RG) (b0 b1 c : Int) (irq : Bool) (hL : Live s r 42 16) (hB : Bytes_ s) (hst : s.st = 1) (hstep : s.step = 2) (hS : s.s = r.S) :
    Good (fun s h => MidO s r 16 h) s (s.turn irq).1 (s.turn irq).2 r 42 16 (insName 42) (modeName 16) [b0, b1, c] := by
  have ha : 0 ≤ 256 + (r.S + 1) % 256 ∧ 256 + (r.S + 1) % 256 < 65536 := by omega
  obtain ⟨g1, g2, g3, g4, -, -⟩ := g_lowAt ({ s with s := (r.S + 1) % 256 } : PC) 3 1 (256 + (r.S + 1) % 256) hB ha
  have e : s.turn irq = takeLow (({ ({ s with s := (r.S + 1) % 256 } : PC) with step := 3, st := 1 } : PC).read (256 + (r.S + 1) % 256)) := by
    rw [turn_mode s irq 16 2 hst hL.md hstep, w3, step_st s 3 hst, ← hS]; rfl
  rw [e]
  refine Good.of (t := ({ s with s := (r.S + 1) % 256 } : PC)) ⟨rfl, rfl, rfl, rfl, rfl, rfl, rfl⟩ (fun q hq => ⟨hq.a, hq.x, hq.y, hq.sp, hq.p, hq.pc⟩) ?_
  unfold Good
  rw [show nextR (insName 42) (modeName 16) r [b0, b1, c] = rdR (256 + (r.S + 3 - 2) % 256) from rfl, bus_rd _ (256 + (r.S + 1) % 256) _ (by omega)]
  exact ⟨g1.bus, g1.out, .inl ⟨rfl, g1.live ⟨hL.a, hL.x, hL.y, hL.p, hL.ins, hL.md⟩, fun q hq => g1.beh q hq, .rts4 g2 g3 g1.sp g4⟩⟩

/-- RTS: the higher one. -/
theorem rts_4 (s : PC) (r : RG) (b0 b1 c d : Int) (irq : Bool) (hL : Live s r 42 16) (hB : Bytes_ s) (hd : 0 ≤ d ∧ d < 256) (hst : s.st = 1) (hstep : s.step = 3) (hS : s.s = (r.S + 1) % 256) (had : s.ad = d) :
    Good (fun s h => MidO s r 16 h) s (s.turn irq).1 (s.turn irq).2 r 42 16 (insName 42) (modeName 16) [b0, b1, c, d] := by
  have hs2 : (s.s + 1) % 256 = (r.S + 2) % 256 := by rw [hS]; omega
  have ha : 0 ≤ 256 + (r.S + 2) % 256 ∧ 256 + (r.S + 2) % 256 < 65536 := by omega
  obtain ⟨g1, g2, g3, g4, -⟩ := g_highAt ({ s with s := (r.S + 2) % 256 } : PC) 4 1 (256 + (r.S + 2) % 256) hB ha (by show 0 ≤ s.ad ∧ s.ad < 256; rw [had]; exact hd)
  have e : s.turn irq = takeHigh (({ ({ s with s := (r.S + 2) % 256 } : PC) with step := 4, st := 1 } : PC).read (256 + (r.S + 2) % 256)) := by
    rw [turn_mode s irq 16 3 hst hL.md hstep, w4, step_st s 4 hst, ← hs2]; rfl
  rw [e]
  refine Good.of (t := ({ s with s := (r.S + 2) % 256 } : PC)) ⟨rfl, rfl, rfl, rfl, rfl, rfl, rfl⟩ (fun q hq => ⟨hq.a, hq.x, hq.y, hq.sp, hq.p, hq.pc⟩) ?_
  unfold Good
  rw [show nextR (insName 42) (modeName 16) r [b0, b1, c, d] = rdR (256 + (r.S + 4 - 2) % 256) from rfl, bus_rd _ (256 + (r.S + 2) % 256) _ (by omega)]
  refine ⟨g1.bus, g1.out, .inl ⟨rfl, g1.live ⟨hL.a, hL.x, hL.y, hL.p, hL.ins, hL.md⟩, fun q hq => g1.beh q hq, .rts5 g2 g3 g1.sp ?_⟩⟩
  rw [g4]; show s.ad + 256 * _ = d + 256 * _; rw [had]; rfl

/-- RTS: done. -/
theorem rts_5 (s : PC) (r : RG) (b0 b1 c d f : Int) (irq : Bool) (hL : Live s r 42 16) (hd : 0 ≤ d ∧ d < 256) (hf : 0 ≤ f ∧ f < 256) (hst : s.st = 1) (hstep : s.step = 4) (hS : s.s = (r.S + 2) % 256) (had : s.ad = d + 256 * f) :
    Good (fun s h => MidO s r 16 h) s (s.turn irq).1 (s.turn irq).2 r 42 16 (insName 42) (modeName 16) [b0, b1, c, d, f] := by
  have ha : 0 ≤ s.ad ∧ s.ad < 65536 := by rw [had]; omega
  have K := read1_kept ({ s with step := 5 } : PC) s.ad
  have O := read1_outer ({ s with step := 5 } : PC) s s.ad ⟨rfl, rfl, rfl, rfl, rfl, rfl, rfl⟩
  have e : s.turn irq = ((({ s with step := 5 } : PC).read1 s.ad).performLast, (s.read s.ad).2) := by rw [turn_mode s irq 16 4 hst hL.md hstep, w5]; rfl
  have tL : Live (({ s with step := 5 } : PC).read1 s.ad) r 42 16 := ⟨K.a.trans hL.a, K.x.trans hL.x, K.y.trans hL.y, K.p.trans hL.p, K.ins.trans hL.ins, K.md.trans hL.md⟩
  have ta : (({ s with step := 5 } : PC).read1 s.ad).ad = d + 256 * f := K.ad.trans had
  have tS : (({ s with step := 5 } : PC).read1 s.ad).s = (r.S + 2) % 256 := K.sp.trans hS
  have tO : Outer (({ s with step := 5 } : PC).read1 s.ad) (s.read s.ad).1 := O
  generalize ({ s with step := 5 } : PC).read1 s.ad = t at *
  have hn : t.ins.toNat = 42 := by rw [tL.ins]; rfl
  have q : t.performLast = ({ t with pc := (t.ad + 1) % 65536 } : PC).finish := by unfold PC.performLast PC.perform; rw [hn]; rfl
  have tp : (t.ad + 1) % 65536 = (d + 256 * f + 1) % 65536 := by rw [ta]
  rw [e, q]
  unfold Good
  rw [show nextR (insName 42) (modeName 16) r [b0, b1, c, d, f] = rdR (d + 256 * f) from rfl, bus_rd s s.ad _ (by rw [had]; omega)]
  exact ⟨rfl, ⟨tO.mem, tO.rom, tO.cnt, tO.calls, tO.on, tO.due, tO.cyc⟩, .inr ⟨rfl, ⟨rfl, ⟨tL.a, tL.x, tL.y, tS, tL.p, tp⟩, tL.a, tL.x, tL.y, tS, tL.p, tp⟩⟩⟩
end

/-
  RTI: each cycle of the program is the document's.
-/
section
theorem g_dataAt (s : PC) (k t a : Int) (hB : Bytes_ s) (ha : 0 ≤ a ∧ a < 65536) :
    Gath s (takeData (({ s with step := k, st := t } : PC).read a)).1 (takeData (({ s with step := k, st := t } : PC).read a)).2 a ∧ (takeData (({ s with step := k, st := t } : PC).read a)).1.st = t ∧ (takeData (({ s with step := k, st := t } : PC).read a)).1.step = k ∧
    (takeData (({ s with step := k, st := t } : PC).read a)).1.data = s.look a := by
  have hb := look_b hB a ha.2
  obtain ⟨g1, g2, g3⟩ := gath_of s k t a (({ s with step := k, st := t } : PC).read1 a).pc (({ s with step := k, st := t } : PC).read1 a).ad (({ s with step := k, st := t } : PC).read1 a).hop (s.look a % 256)
  refine ⟨g1, g2, g3, ?_⟩
  show s.look a % 256 = _; omega

theorem g_lowAt_data (s : PC) (k t a : Int) : (takeLow (({ s with step := k, st := t } : PC).read a)).1.data = s.data := (read1_kept ({ s with step := k, st := t } : PC) a).data

theorem rti_3 (s : PC) (r : RG) (b0 b1 c : Int) (irq : Bool) (hL : Live s r 41 22) (hB : Bytes_ s) (hst : s.st = 1) (hstep : s.step = 2) (hS : s.s = r.S) :
    Good (fun s h => MidO s r 22 h) s (s.turn irq).1 (s.turn irq).2 r 41 22 (insName 41) (modeName 22) [b0, b1, c] := by
  have ha : 0 ≤ 256 + (r.S + 1) % 256 ∧ 256 + (r.S + 1) % 256 < 65536 := by omega
  obtain ⟨g1, g2, g3, g4⟩ := g_dataAt ({ s with s := (r.S + 1) % 256 } : PC) 3 1 (256 + (r.S + 1) % 256) hB ha
  have e : s.turn irq = takeData (({ ({ s with s := (r.S + 1) % 256 } : PC) with step := 3, st := 1 } : PC).read (256 + (r.S + 1) % 256)) := by
    rw [turn_mode s irq 22 2 hst hL.md hstep, w3, step_st s 3 hst, ← hS]; rfl
  rw [e]
  refine Good.of (t := ({ s with s := (r.S + 1) % 256 } : PC)) ⟨rfl, rfl, rfl, rfl, rfl, rfl, rfl⟩ (fun q hq => ⟨hq.a, hq.x, hq.y, hq.sp, hq.p, hq.pc⟩) ?_
  unfold Good
  rw [show nextR (insName 41) (modeName 22) r [b0, b1, c] = rdR (256 + (r.S + 3 - 2) % 256) from rfl, bus_rd _ (256 + (r.S + 1) % 256) _ (by omega)]
  exact ⟨g1.bus, g1.out, .inl ⟨rfl, g1.live ⟨hL.a, hL.x, hL.y, hL.p, hL.ins, hL.md⟩, fun q hq => g1.beh q hq, .rti4 g2 g3 g1.sp g4⟩⟩

theorem rti_4 (s : PC) (r : RG) (b0 b1 c d : Int) (irq : Bool) (hL : Live s r 41 22) (hB : Bytes_ s) (hst : s.st = 1) (hstep : s.step = 3) (hS : s.s = (r.S + 1) % 256) (hd : s.data = d) :
    Good (fun s h => MidO s r 22 h) s (s.turn irq).1 (s.turn irq).2 r 41 22 (insName 41) (modeName 22) [b0, b1, c, d] := by
  have hs2 : (s.s + 1) % 256 = (r.S + 2) % 256 := by rw [hS]; omega
  have ha : 0 ≤ 256 + (r.S + 2) % 256 ∧ 256 + (r.S + 2) % 256 < 65536 := by omega
  obtain ⟨g1, g2, g3, g4, -, -⟩ := g_lowAt ({ s with s := (r.S + 2) % 256 } : PC) 4 1 (256 + (r.S + 2) % 256) hB ha
  have gd := g_lowAt_data ({ s with s := (r.S + 2) % 256 } : PC) 4 1 (256 + (r.S + 2) % 256)
  have e : s.turn irq = takeLow (({ ({ s with s := (r.S + 2) % 256 } : PC) with step := 4, st := 1 } : PC).read (256 + (r.S + 2) % 256)) := by
    rw [turn_mode s irq 22 3 hst hL.md hstep, w4, step_st s 4 hst, ← hs2]; rfl
  rw [e]
  refine Good.of (t := ({ s with s := (r.S + 2) % 256 } : PC)) ⟨rfl, rfl, rfl, rfl, rfl, rfl, rfl⟩ (fun q hq => ⟨hq.a, hq.x, hq.y, hq.sp, hq.p, hq.pc⟩) ?_
  unfold Good
  rw [show nextR (insName 41) (modeName 22) r [b0, b1, c, d] = rdR (256 + (r.S + 4 - 2) % 256) from rfl, bus_rd _ (256 + (r.S + 2) % 256) _ (by omega)]
  exact ⟨g1.bus, g1.out, .inl ⟨rfl, g1.live ⟨hL.a, hL.x, hL.y, hL.p, hL.ins, hL.md⟩, fun q hq => g1.beh q hq, .rti5 g2 g3 g1.sp (gd.trans hd) g4⟩⟩

theorem rti_5 (s : PC) (r : RG) (b0 b1 c d f : Int) (irq : Bool) (hL : Live s r 41 22) (hB : Bytes_ s) (hdb : 0 ≤ d ∧ d < 256) (hf : 0 ≤ f ∧ f < 256) (hst : s.st = 1) (hstep : s.step = 4) (hS : s.s = (r.S + 2) % 256) (hd : s.data = d) (had : s.ad = f) :
    Good (fun s h => MidO s r 22 h) s (s.turn irq).1 (s.turn irq).2 r 41 22 (insName 41) (modeName 22) [b0, b1, c, d, f] := by
  have hs3 : (s.s + 1) % 256 = (r.S + 3) % 256 := by rw [hS]; omega
  have ha : 0 ≤ 256 + (r.S + 3) % 256 ∧ 256 + (r.S + 3) % 256 < 65536 := by omega
  have hb := look_b hB _ ha.2
  have K := read1_kept ({ s with step := 5, s := (r.S + 3) % 256 } : PC) (256 + (r.S + 3) % 256)
  have O := read1_outer ({ s with step := 5, s := (r.S + 3) % 256 } : PC) s (256 + (r.S + 3) % 256) ⟨rfl, rfl, rfl, rfl, rfl, rfl, rfl⟩
  have hj : joinI (loI (({ s with step := 5, s := (r.S + 3) % 256 } : PC).read1 (256 + (r.S + 3) % 256)).ad) (s.look (256 + (r.S + 3) % 256) % 256) = f + 256 * s.look (256 + (r.S + 3) % 256) := by
    rw [K.ad]; unfold joinI loI; show s.look (256 + (r.S + 3) % 256) % 256 * 256 + s.ad % 256 = _; rw [had]; omega
  obtain ⟨t, e, tL, tS, td, ta, tO⟩ : ∃ t : PC, s.turn irq = (t.performLast, (s.read (256 + (r.S + 3) % 256)).2) ∧ Live t r 41 22 ∧ t.s = (r.S + 3) % 256 ∧ t.data = d ∧ t.ad = f + 256 * s.look (256 + (r.S + 3) % 256) ∧ Outer t (s.read (256 + (r.S + 3) % 256)).1 := by
    refine ⟨({ (({ s with step := 5, s := (r.S + 3) % 256 } : PC).read1 (256 + (r.S + 3) % 256)) with ad := joinI (loI (({ s with step := 5, s := (r.S + 3) % 256 } : PC).read1 (256 + (r.S + 3) % 256)).ad) (s.look (256 + (r.S + 3) % 256) % 256) } : PC), ?_, ⟨K.a.trans hL.a, K.x.trans hL.x, K.y.trans hL.y, K.p.trans hL.p, K.ins.trans hL.ins, K.md.trans hL.md⟩, K.sp, K.data.trans hd, hj, ⟨O.mem, O.rom, O.cnt, O.calls, O.on, O.due, O.cyc⟩⟩
    rw [turn_mode s irq 22 4 hst hL.md hstep, w5, ← hs3]; rfl
  have hn : t.ins.toNat = 41 := by rw [tL.ins]; rfl
  have q : t.performLast = ({ t with p := i64or (i64and d 207) 32, pc := t.ad } : PC).finish := by
    unfold PC.performLast PC.perform; rw [hn]
    show ({ t with p := setpI t.data, pc := t.ad } : PC).finish = _
    rw [td, setp_eq d hdb.1 hdb.2]
  rw [e, q]
  unfold Good
  rw [show nextR (insName 41) (modeName 22) r [b0, b1, c, d, f] = rdR (256 + (r.S + 5 - 2) % 256) from rfl, bus_rd s (256 + (r.S + 3) % 256) _ (by omega)]
  exact ⟨rfl, ⟨tO.mem, tO.rom, tO.cnt, tO.calls, tO.on, tO.due, tO.cyc⟩, .inr ⟨rfl, ⟨rfl, ⟨tL.a, tL.x, tL.y, tS, rfl, ta⟩, tL.a, tL.x, tL.y, tS, rfl, ta⟩⟩⟩
end

/-
  JSR: each cycle of the program is the document's.
-/
section
/-- What a push leaves. -/
structure Push (s s' : PC) (b : BusI) (a v k : Int) : Prop where
  bus : b = (s.write a v).2
  out : Outer s' (s.write a v).1
  a : s'.a = s.a
  x : s'.x = s.x
  y : s'.y = s.y
  p : s'.p = s.p
  pc : s'.pc = s.pc
  ins : s'.ins = s.ins
  md : s'.md = s.md
  st : s'.st = s.st
  step : s'.step = k
  ad : s'.ad = s.ad
  sp : s'.s = (s.s - 1) % 256
  beh : ∀ q, Beh s q → Beh s' q

theorem g_push (s : PC) (k v a : Int) (ha : joinI s.s 1 = a) : Push s (({ s with step := k } : PC).pushed v).1 (({ s with step := k } : PC).pushed v).2 a v k := by
  subst ha
  obtain ⟨-, w2⟩ := write_outer ({ s with step := k } : PC) s (joinI s.s 1) v ⟨rfl, rfl, rfl, rfl, rfl, rfl, rfl⟩
  obtain ⟨u, hu, u1, u2, u3, u4, u5, u6, u7, u8, u9, u10, u11, u12, u13, u14, u15, u16, u17, -⟩ := write_keeps ({ s with step := k } : PC) (joinI s.s 1) v
  have e : ({ s with step := k } : PC).pushed v = ({ u with s := (u.s - 1) % 256 }, (s.write (joinI s.s 1) v).2) := by
    show ({ (({ s with step := k } : PC).write (joinI s.s 1) v).1 with s := ((({ s with step := k } : PC).write (joinI s.s 1) v).1.s - 1) % 256 }, (s.write (joinI s.s 1) v).2) = _
    rw [hu]
  rw [hu] at w2
  rw [e]
  exact ⟨rfl, ⟨w2.mem, w2.rom, w2.cnt, w2.calls, w2.on, w2.due, w2.cyc⟩, u1, u2, u3, u5, u6, u14, u15, u13, u16, u17, by show (u.s - 1) % 256 = _; rw [u4], fun q hq => ⟨u7.trans hq.a, u8.trans hq.x, u9.trans hq.y, u10.trans hq.sp, u11.trans hq.p, u12.trans hq.pc⟩⟩

theorem Push.live {s s' : PC} {b : BusI} {a v k : Int} (h : Push s s' b a v k) {r : RG} {i m : Nat} (hL : Live s r i m) : Live s' r i m :=
  ⟨h.a.trans hL.a, h.x.trans hL.x, h.y.trans hL.y, h.p.trans hL.p, h.ins.trans hL.ins, h.md.trans hL.md⟩
theorem bus_wr (s : PC) (a x v : Int) (hx : x % 65536 = a) : s.busOf (wrR x v).1 = s.write a v := by
  unfold PC.busOf wrR; simp only [hx]; rfl

inductive MidS (s : PC) (r : RG) : List Int → Prop
  | two {b0 b1 : Int} : s.st = 1 → s.step = 1 → s.ad = b1 → s.s = r.S → s.pc = (r.PC + 2) % 65536 → MidS s r [b0, b1]
  | three {b0 b1 c : Int} : s.st = 1 → s.step = 2 → s.ad = b1 → s.s = r.S → s.pc = (r.PC + 2) % 65536 → MidS s r [b0, b1, c]
  | four {b0 b1 c d : Int} : s.st = 1 → s.step = 3 → s.ad = b1 → s.s = (r.S - 1) % 256 → s.pc = (r.PC + 2) % 65536 → MidS s r [b0, b1, c, d]
  | five {b0 b1 c d f : Int} : s.st = 1 → s.step = 4 → s.ad = b1 → s.s = (r.S - 2) % 256 → s.pc = (r.PC + 2) % 65536 → MidS s r [b0, b1, c, d, f]

theorem jsr_1 (s : PC) (r : RG) (b0 : Int) (irq : Bool) (hL : Live s r 28 15) (hR : Rg r) (hB : Bytes_ s) (hst : s.st = 1) (hstep : s.step = 0) (hS : s.s = r.S) (hpc : s.pc = (r.PC + 1) % 65536) :
    Good (fun s h => MidS s r h) s (s.turn irq).1 (s.turn irq).2 r 28 15 (insName 28) (modeName 15) [b0] := by
  have hp : 0 ≤ s.pc ∧ s.pc < 65536 := by rw [hpc]; omega
  obtain ⟨g1, g2, g3, g4, g5⟩ := g_low s 1 1 hB hp
  have e : s.turn irq = takeLow ({ s with step := 1, st := 1 } : PC).readNext := by rw [turn_mode s irq 15 0 hst hL.md hstep, w1, step_st s 1 hst]; rfl
  rw [e]
  unfold Good
  rw [show nextR (insName 28) (modeName 15) r [b0] = rdR (r.PC + 1) from rfl, bus_rd s s.pc (r.PC + 1) hpc.symm]
  refine ⟨g1.bus, g1.out, .inl ⟨rfl, g1.live hL, fun q hq => g1.beh q hq, .two g2 g3 g4 (g1.sp.trans hS) ?_⟩⟩
  rw [g5, hpc]; have := hR.PC; omega
theorem jsr_2 (s : PC) (r : RG) (b0 b1 : Int) (irq : Bool) (hL : Live s r 28 15) (hR : Rg r) (hst : s.st = 1) (hstep : s.step = 1) (had : s.ad = b1) (hS : s.s = r.S) (hpc : s.pc = (r.PC + 2) % 65536) :
    Good (fun s h => MidS s r h) s (s.turn irq).1 (s.turn irq).2 r 28 15 (insName 28) (modeName 15) [b0, b1] := by
  obtain ⟨g1, g2, g3, g4, g5⟩ := g_read s 2 (256 + r.S)
  have e : s.turn irq = ({ s with step := 2 } : PC).read (256 + r.S) := by rw [turn_mode s irq 15 1 hst hL.md hstep, w2, ← hS]; rfl
  rw [e]
  unfold Good
  rw [show nextR (insName 28) (modeName 15) r [b0, b1] = rdR (256 + r.S) from rfl, bus_rd s (256 + r.S) _ (by have := hR.S; omega)]
  exact ⟨g1.bus, g1.out, .inl ⟨rfl, g1.live hL, fun q hq => g1.beh q hq, .three (g2.trans hst) g3 (g5.trans had) (g1.sp.trans hS) (g4.trans hpc)⟩⟩
theorem jsr_3 (s : PC) (r : RG) (b0 b1 c : Int) (irq : Bool) (hL : Live s r 28 15) (hR : Rg r) (hst : s.st = 1) (hstep : s.step = 2) (had : s.ad = b1) (hS : s.s = r.S) (hpc : s.pc = (r.PC + 2) % 65536) :
    Good (fun s h => MidS s r h) s (s.turn irq).1 (s.turn irq).2 r 28 15 (insName 28) (modeName 15) [b0, b1, c] := by
  have g := g_push s 3 ((r.PC + 2) % 65536 / 256) (256 + r.S) (by rw [hS]; rfl)
  have e : s.turn irq = ({ s with step := 3 } : PC).pushed ((r.PC + 2) % 65536 / 256) := by rw [turn_mode s irq 15 2 hst hL.md hstep, w3, ← hpc]; rfl
  rw [e]
  unfold Good
  rw [show nextR (insName 28) (modeName 15) r [b0, b1, c] = wrR (256 + r.S) ((r.PC + 1 + 1) % 65536 / 256) from rfl, show r.PC + 1 + 1 = r.PC + 2 from by omega, bus_wr s (256 + r.S) _ _ (by have := hR.S; omega)]
  exact ⟨g.bus, g.out, .inl ⟨rfl, g.live hL, g.beh, .four (g.st.trans hst) g.step (g.ad.trans had) (by rw [g.sp, hS]) (g.pc.trans hpc)⟩⟩
theorem jsr_4 (s : PC) (r : RG) (b0 b1 c d : Int) (irq : Bool) (hL : Live s r 28 15) (hst : s.st = 1) (hstep : s.step = 3) (had : s.ad = b1) (hS : s.s = (r.S - 1) % 256) (hpc : s.pc = (r.PC + 2) % 65536) :
    Good (fun s h => MidS s r h) s (s.turn irq).1 (s.turn irq).2 r 28 15 (insName 28) (modeName 15) [b0, b1, c, d] := by
  have g := g_push s 4 ((r.PC + 2) % 65536 % 256) (256 + (r.S - 1) % 256) (by rw [hS]; rfl)
  have e : s.turn irq = ({ s with step := 4 } : PC).pushed ((r.PC + 2) % 65536 % 256) := by rw [turn_mode s irq 15 3 hst hL.md hstep, w4, ← hpc]; rfl
  rw [e]
  unfold Good
  rw [show nextR (insName 28) (modeName 15) r [b0, b1, c, d] = wrR (256 + (r.S - 1) % 256) ((r.PC + 1 + 1) % 256) from rfl, show (r.PC + 1 + 1) % 256 = (r.PC + 2) % 65536 % 256 from by omega, bus_wr s (256 + (r.S - 1) % 256) _ _ (by omega)]
  exact ⟨g.bus, g.out, .inl ⟨rfl, g.live hL, g.beh, .five (g.st.trans hst) g.step (g.ad.trans had) (by rw [g.sp, hS]; omega) (g.pc.trans hpc)⟩⟩
end

/-
  JSR's last cycle; BRK, NMI and IRQ: each cycle of the program is the document's.
-/
section
/-- Where a jump ends: the higher byte comes. -/
theorem fin_go (s : PC) (r r' : RG) (i m : Nat) (k a : Int) (f : Int → Int) (hdo : ∀ t : PC, t.doIns i = { t with pc := t.ad, p := f t.p }) (hL : Live s r i m) (hA : r'.A = r.A) (hX : r'.X = r.X) (hY : r'.Y = r.Y) (hS : s.s = r'.S) (hP : f r.P = r'.P) (hB : Bytes_ s) (ha : 0 ≤ a ∧ a < 65536) (had : 0 ≤ s.ad ∧ s.ad < 256) (hpc : r'.PC = s.ad + 256 * s.look a) :
    (goThere (({ s with step := k } : PC).read a)).2 = (s.read a).2 ∧ Outer (goThere (({ s with step := k } : PC).read a)).1 (s.read a).1 ∧ Fin_ (goThere (({ s with step := k } : PC).read a)).1 r' := by
  have hb := look_b hB a ha.2
  have K := read1_kept ({ s with step := k } : PC) a
  have O := read1_outer ({ s with step := k } : PC) s a ⟨rfl, rfl, rfl, rfl, rfl, rfl, rfl⟩
  have hn : (({ s with step := k } : PC).read1 a).ins.toNat = i := by rw [K.ins]; show s.ins.toNat = i; rw [hL.ins]; rfl
  have hj : joinI (loI (({ s with step := k } : PC).read1 a).ad) (s.look a % 256) = s.ad + 256 * s.look a := by
    rw [K.ad]; unfold joinI loI; show s.look a % 256 * 256 + s.ad % 256 = _; omega
  have e : (goThere (({ s with step := k } : PC).read a)).1 = ({ ({ (({ s with step := k } : PC).read1 a) with ad := s.ad + 256 * s.look a } : PC) with pc := s.ad + 256 * s.look a, p := f (({ s with step := k } : PC).read1 a).p } : PC).finish := by
    show ({ (({ s with step := k } : PC).read1 a) with ad := joinI (loI (({ s with step := k } : PC).read1 a).ad) (s.look a % 256) } : PC).performLast = _
    rw [hj]
    unfold PC.performLast PC.perform
    show (({ (({ s with step := k } : PC).read1 a) with ad := s.ad + 256 * s.look a } : PC).doIns (({ s with step := k } : PC).read1 a).ins.toNat).finish = _
    rw [hn, hdo]
  have qp : f (({ s with step := k } : PC).read1 a).p = r'.P := by rw [K.p, ← hP]; show f s.p = _; rw [hL.p]
  have qa := (K.a.trans hL.a).trans hA.symm
  have qx := (K.x.trans hL.x).trans hX.symm
  have qy := (K.y.trans hL.y).trans hY.symm
  have qs := K.sp.trans hS
  rw [e]
  exact ⟨rfl, ⟨O.mem, O.rom, O.cnt, O.calls, O.on, O.due, O.cyc⟩, ⟨rfl, ⟨qa, qx, qy, qs, qp, hpc.symm⟩, qa, qx, qy, qs, qp, hpc.symm⟩⟩

theorem jsr_5 (s : PC) (r : RG) (b0 b1 c d f : Int) (irq : Bool) (hL : Live s r 28 15) (hB : Bytes_ s) (hb1 : 0 ≤ b1 ∧ b1 < 256) (hst : s.st = 1) (hstep : s.step = 4) (had : s.ad = b1) (hS : s.s = (r.S - 2) % 256) (hpc : s.pc = (r.PC + 2) % 65536) :
    Good (fun s h => MidS s r h) s (s.turn irq).1 (s.turn irq).2 r 28 15 (insName 28) (modeName 15) [b0, b1, c, d, f] := by
  subst had
  have hp : 0 ≤ s.pc ∧ s.pc < 65536 := by rw [hpc]; omega
  obtain ⟨f1, f2, f3⟩ := fin_go s r { r with S := (r.S - 2) % 256, PC := s.ad + 256 * s.look s.pc } 28 15 5 s.pc (fun p => p) (fun _ => rfl) hL rfl rfl rfl hS rfl hB hp hb1 rfl
  have e : s.turn irq = goThere (({ s with step := 5 } : PC).read s.pc) := by rw [turn_mode s irq 15 4 hst hL.md hstep, w5]; rfl
  rw [e]
  unfold Good
  rw [show nextR (insName 28) (modeName 15) r [b0, s.ad, c, d, f] = rdR (r.PC + 1 + 1) from rfl, bus_rd s s.pc (r.PC + 1 + 1) (by rw [hpc]; omega), f1]
  exact ⟨rfl, f2, .inr ⟨rfl, f3⟩⟩
end

/-
  BRK, NMI and IRQ: each cycle of the program is the document's.
-/
section
/-- What the three sequences have of their own. -/
structure Seq (m : Nat) (r : RG) (back fl vec : Int) : Prop where
  nx : ∀ h : List Int, nextR (opName 12 m) (modeName m) r h = entersR (opName 12 m) r h.length
  e2 : entersR (opName 12 m) r 2 = wrR (256 + r.S) (back / 256)
  e3 : entersR (opName 12 m) r 3 = wrR (256 + (r.S - 1) % 256) (back % 256)
  e4 : entersR (opName 12 m) r 4 = wrR (256 + (r.S - 2) % 256) fl
  e5 : entersR (opName 12 m) r 5 = rdR vec
  e6 : entersR (opName 12 m) r 6 = rdR (vec + 1)
  e7 : entersR (opName 12 m) r 7 = dnR
  dn : ∀ h : List Int, doneR (opName 12 m) (modeName m) r h = { r with S := (r.S - 3) % 256, P := i64or r.P 4, PC := hd h 5 + 256 * hd h 6 }
  tn : ∀ t : PC, t.p = r.P → t.step ≠ 1 → t.doMode m = t.enter vec fl
  vr : vec = 65530 ∨ vec = 65534

def backI (m : Nat) (r : RG) : Int := if m = 19 then (r.PC + 2) % 65536 else r.PC
def flI (m : Nat) (r : RG) : Int := if m = 19 then i64or r.P 16 else r.P
def vecI (m : Nat) : Int := if m = 20 then 65530 else 65534

theorem seq_ok (m : Nat) (r : RG) (hR : Rg r) (hm : m = 19 ∨ m = 20 ∨ m = 21) : Seq m r (backI m r) (flI m r) (vecI m) := by
  rcases hm with rfl | rfl | rfl
  · refine ⟨fun h => rfl, rfl, rfl, rfl, rfl, rfl, rfl, fun h => rfl, fun t ht hk => ?_, .inr rfl⟩
    show t.enterByBreak = _
    unfold PC.enterByBreak
    rw [if_neg hk, ht, or_u8_i64 r.P 16 hR.P.1 hR.P.2 (by decide) (by decide)]; rfl
  · refine ⟨fun h => rfl, rfl, rfl, rfl, rfl, rfl, rfl, fun h => rfl, fun t ht hk => ?_, .inl rfl⟩
    show t.enterByNMI = _
    unfold PC.enterByNMI
    rw [if_neg hk, ht]; rfl
  · refine ⟨fun h => rfl, rfl, rfl, rfl, rfl, rfl, rfl, fun h => rfl, fun t ht hk => ?_, .inr rfl⟩
    show t.enterByIRQ = _
    unfold PC.enterByIRQ
    rw [if_neg hk, ht]; rfl

inductive MidI (s : PC) (r : RG) (m : Nat) : List Int → Prop
  | two {b0 b1 : Int} : s.st = 1 → s.step = 1 → s.s = r.S → s.pc = backI m r → MidI s r m [b0, b1]
  | three {b0 b1 c : Int} : s.st = 1 → s.step = 2 → s.s = (r.S - 1) % 256 → s.pc = backI m r → MidI s r m [b0, b1, c]
  | four {b0 b1 c d : Int} : s.st = 1 → s.step = 3 → s.s = (r.S - 2) % 256 → MidI s r m [b0, b1, c, d]
  | five {b0 b1 c d f : Int} : s.st = 1 → s.step = 4 → s.s = (r.S - 3) % 256 → MidI s r m [b0, b1, c, d, f]
  | six {b0 b1 c d f g : Int} : s.st = 1 → s.step = 5 → s.ad = g → s.s = (r.S - 3) % 256 → MidI s r m [b0, b1, c, d, f, g]

theorem sei_eq (p : Int) (h0 : 0 ≤ p) (h1 : p < 256) : setf p 4 true = i64or p 4 :=
  all_byte (p := fun p => setf p 4 true = i64or p 4) (by decide +kernel) p h0 h1

section
variable (s : PC) (r : RG) (m : Nat) (irq : Bool) (hm : m = 19 ∨ m = 20 ∨ m = 21) (hR : Rg r) (hL : Live s r 12 m) (hst : s.st = 1)
include hm hR hL hst

theorem int_1 (b0 : Int) (hstep : s.step = 0) (hS : s.s = r.S) (hpc : s.pc = if m = 19 then (r.PC + 1) % 65536 else r.PC) :
    Good (fun s h => MidI s r m h) s (s.turn irq).1 (s.turn irq).2 r 12 m (opName 12 m) (modeName m) [b0] := by
  have S := seq_ok m r hR hm
  have hp : 0 ≤ s.pc ∧ s.pc < 65536 := by have := hR.PC; rw [hpc]; split <;> omega
  by_cases h19 : m = 19
  · subst h19
    have e : s.turn irq = ({ s with step := 1, st := 1 } : PC).readNext := by rw [turn_mode s irq 19 0 hst hL.md hstep, w1, step_st s 1 hst]; rfl
    obtain ⟨g1, g2, g3⟩ := gath_of s 1 1 s.pc ((s.pc + 1) % 65536) s.ad s.hop s.data
    have K := read1_kept ({ s with step := 1, st := 1 } : PC) s.pc
    have e2 : ({ s with step := 1, st := 1 } : PC).readNext = (({ (({ s with step := 1, st := 1 } : PC).read1 s.pc) with pc := (s.pc + 1) % 65536, ad := s.ad, hop := s.hop, data := s.data } : PC), (s.read s.pc).2) := by
      have q : ∀ V : PC, V.pc = s.pc → V.ad = s.ad → V.hop = s.hop → V.data = s.data → ({ V with pc := (V.pc + 1) % 65536 } : PC) = { V with pc := (s.pc + 1) % 65536, ad := s.ad, hop := s.hop, data := s.data } := by
        intro V h1 h2 h3 h4; rw [← h1, ← h2, ← h3, ← h4]
      show (({ (({ s with step := 1, st := 1 } : PC).read1 s.pc) with pc := ((({ s with step := 1, st := 1 } : PC).read1 s.pc).pc + 1) % 65536 } : PC), (s.read s.pc).2) = _
      rw [q _ K.pc K.ad K.hop K.data]
    rw [e, e2]
    unfold Good
    rw [show nextR (opName 12 19) (modeName 19) r [b0] = rdR (r.PC + 1) from rfl, bus_rd s s.pc (r.PC + 1) (by rw [hpc]; rfl)]
    refine ⟨g1.bus, g1.out, .inl ⟨rfl, g1.live hL, fun q hq => g1.beh q hq, .two g2 g3 (g1.sp.trans hS) ?_⟩⟩
    show (s.pc + 1) % 65536 = backI 19 r
    rw [hpc]; unfold backI; have := hR.PC; simp; omega
  · rw [if_neg h19] at hpc
    have e : s.turn irq = ({ s with step := 1 } : PC).read s.pc := by
      rw [turn_mode s irq m 0 hst hL.md hstep, w1]
      rcases hm with h | rfl | rfl
      · exact absurd h h19
      · rfl
      · rfl
    obtain ⟨g1, g2, g3, g4, g5⟩ := g_read s 1 s.pc
    have hn : nextR (opName 12 m) (modeName m) r [b0] = rdR r.PC := by
      rcases hm with h | rfl | rfl
      · exact absurd h h19
      · rfl
      · rfl
    rw [e]
    unfold Good
    rw [hn, bus_rd s s.pc r.PC (by rw [hpc]; have := hR.PC; omega)]
    refine ⟨g1.bus, g1.out, .inl ⟨?_, g1.live hL, fun q hq => g1.beh q hq, .two (g2.trans hst) g3 (g1.sp.trans hS) ?_⟩⟩
    · rw [S.nx]; show (entersR (opName 12 m) r 2).2 = true; rw [S.e2]; rfl
    · rw [g4, hpc]; unfold backI; rw [if_neg h19]

theorem int_2 (b0 b1 : Int) (hstep : s.step = 1) (hS : s.s = r.S) (hpc : s.pc = backI m r) :
    Good (fun s h => MidI s r m h) s (s.turn irq).1 (s.turn irq).2 r 12 m (opName 12 m) (modeName m) [b0, b1] := by
  have S := seq_ok m r hR hm
  have g := g_push s 2 (backI m r / 256) (256 + r.S) (by rw [hS]; rfl)
  have e : s.turn irq = ({ s with step := 2 } : PC).pushed (backI m r / 256) := by
    rw [turn_mode s irq m 1 hst hL.md hstep, w2, S.tn ({ s with step := 2 } : PC) hL.p (by show (2 : Int) ≠ 1; decide), ← hpc]; rfl
  rw [e]
  unfold Good
  rw [show nextR (opName 12 m) (modeName m) r [b0, b1] = wrR (256 + r.S) (backI m r / 256) from by rw [S.nx]; exact S.e2, bus_wr s (256 + r.S) _ _ (by have := hR.S; omega)]
  refine ⟨g.bus, g.out, .inl ⟨?_, g.live hL, g.beh, .three (g.st.trans hst) g.step (by rw [g.sp, hS]) (g.pc.trans hpc)⟩⟩
  rw [S.nx]; show (entersR (opName 12 m) r 3).2 = true; rw [S.e3]; rfl

theorem int_3 (b0 b1 c : Int) (hstep : s.step = 2) (hS : s.s = (r.S - 1) % 256) (hpc : s.pc = backI m r) :
    Good (fun s h => MidI s r m h) s (s.turn irq).1 (s.turn irq).2 r 12 m (opName 12 m) (modeName m) [b0, b1, c] := by
  have S := seq_ok m r hR hm
  have g := g_push s 3 (backI m r % 256) (256 + (r.S - 1) % 256) (by rw [hS]; rfl)
  have e : s.turn irq = ({ s with step := 3 } : PC).pushed (backI m r % 256) := by
    rw [turn_mode s irq m 2 hst hL.md hstep, w3, S.tn ({ s with step := 3 } : PC) hL.p (by show (3 : Int) ≠ 1; decide), ← hpc]; rfl
  rw [e]
  unfold Good
  rw [show nextR (opName 12 m) (modeName m) r [b0, b1, c] = wrR (256 + (r.S - 1) % 256) (backI m r % 256) from by rw [S.nx]; exact S.e3, bus_wr s (256 + (r.S - 1) % 256) _ _ (by omega)]
  refine ⟨g.bus, g.out, .inl ⟨?_, g.live hL, g.beh, .four (g.st.trans hst) g.step (by rw [g.sp, hS]; omega)⟩⟩
  rw [S.nx]; show (entersR (opName 12 m) r 4).2 = true; rw [S.e4]; rfl

theorem int_4 (b0 b1 c d : Int) (hstep : s.step = 3) (hS : s.s = (r.S - 2) % 256) :
    Good (fun s h => MidI s r m h) s (s.turn irq).1 (s.turn irq).2 r 12 m (opName 12 m) (modeName m) [b0, b1, c, d] := by
  have S := seq_ok m r hR hm
  have g := g_push s 4 (flI m r) (256 + (r.S - 2) % 256) (by rw [hS]; rfl)
  have e : s.turn irq = ({ s with step := 4 } : PC).pushed (flI m r) := by
    rw [turn_mode s irq m 3 hst hL.md hstep, w4, S.tn ({ s with step := 4 } : PC) hL.p (by show (4 : Int) ≠ 1; decide)]; rfl
  rw [e]
  unfold Good
  rw [show nextR (opName 12 m) (modeName m) r [b0, b1, c, d] = wrR (256 + (r.S - 2) % 256) (flI m r) from by rw [S.nx]; exact S.e4, bus_wr s (256 + (r.S - 2) % 256) _ _ (by omega)]
  refine ⟨g.bus, g.out, .inl ⟨?_, g.live hL, g.beh, .five (g.st.trans hst) g.step (by rw [g.sp, hS]; omega)⟩⟩
  rw [S.nx]; show (entersR (opName 12 m) r 5).2 = true; rw [S.e5]; rfl

theorem int_5 (b0 b1 c d f : Int) (hB : Bytes_ s) (hstep : s.step = 4) (hS : s.s = (r.S - 3) % 256) :
    Good (fun s h => MidI s r m h) s (s.turn irq).1 (s.turn irq).2 r 12 m (opName 12 m) (modeName m) [b0, b1, c, d, f] := by
  have S := seq_ok m r hR hm
  have hv := S.vr
  obtain ⟨g1, g2, g3, g4, g5⟩ := g_lowAt s 5 1 (vecI m) hB (by omega)
  have e : s.turn irq = takeLow (({ s with step := 5, st := 1 } : PC).read (vecI m)) := by
    rw [turn_mode s irq m 4 hst hL.md hstep, w5, S.tn ({ s with step := 5 } : PC) hL.p (by show (5 : Int) ≠ 1; decide), step_st s 5 hst]; rfl
  rw [e]
  unfold Good
  rw [show nextR (opName 12 m) (modeName m) r [b0, b1, c, d, f] = rdR (vecI m) from by rw [S.nx]; exact S.e5, bus_rd s (vecI m) _ (by omega)]
  refine ⟨g1.bus, g1.out, .inl ⟨?_, g1.live hL, fun q hq => g1.beh q hq, .six g2 g3 g4 (g1.sp.trans hS)⟩⟩
  rw [S.nx]; show (entersR (opName 12 m) r 6).2 = true; rw [S.e6]; rfl

theorem int_6 (b0 b1 c d f g : Int) (hB : Bytes_ s) (hg : 0 ≤ g ∧ g < 256) (hstep : s.step = 5) (had : s.ad = g) (hS : s.s = (r.S - 3) % 256) :
    Good (fun s h => MidI s r m h) s (s.turn irq).1 (s.turn irq).2 r 12 m (opName 12 m) (modeName m) [b0, b1, c, d, f, g] := by
  have S := seq_ok m r hR hm
  subst had
  have hv := S.vr
  have em : (vecI m + 1) % 65536 = vecI m + 1 := by omega
  obtain ⟨f1, f2, f3⟩ := fin_go s r { r with S := (r.S - 3) % 256, P := i64or r.P 4, PC := s.ad + 256 * s.look (vecI m + 1) } 12 m 6 (vecI m + 1) (fun p => setf p 4 true) (fun _ => rfl) hL rfl rfl rfl hS (sei_eq r.P hR.P.1 hR.P.2) hB (by omega) hg rfl
  have e : s.turn irq = goThere (({ s with step := 6 } : PC).read (vecI m + 1)) := by
    rw [turn_mode s irq m 5 hst hL.md hstep, w6, S.tn ({ s with step := 6 } : PC) hL.p (by show (6 : Int) ≠ 1; decide), ← em]; rfl
  rw [e]
  unfold Good
  rw [show nextR (opName 12 m) (modeName m) r [b0, b1, c, d, f, s.ad] = rdR (vecI m + 1) from by rw [S.nx]; exact S.e6, bus_rd s (vecI m + 1) _ (by omega), f1]
  refine ⟨rfl, f2, .inr ⟨?_, ?_⟩⟩
  · rw [S.nx]; show (entersR (opName 12 m) r 7).2 = false; rw [S.e7]; rfl
  · rw [S.dn]; exact f3
end
end

/-
  All modes in one: how the program stands in the midst of an instruction, and that its next cycle is the document's.
-/
section
/-- How the program stands behind the bytes h of an instruction i in mode m. -/
inductive Midst (s : PC) (r : RG) (i m : Nat) (h : List Int) : Prop
  | one (b0 : Int) : h = [b0] → s.st = 1 → s.step = 0 → s.s = r.S → (s.pc = if m = 20 ∨ m = 21 then r.PC else (r.PC + 1) % 65536) → Midst s r i m h
  | plc : 4 ≤ m → m ≤ 11 → Mid s r i m h → Midst s r i m h
  | rel : m = 12 → MidB s r (insName i) h → Midst s r i m h
  | jmp : m = 13 ∨ m = 14 → MidJ s r m h → Midst s r i m h
  | jsr : m = 15 → MidS s r h → Midst s r i m h
  | back : m = 16 ∨ m = 22 → MidO s r m h → Midst s r i m h
  | push : m = 17 → MidU s r h → Midst s r i m h
  | pull : m = 18 → MidP s r h → Midst s r i m h
  | int : m = 19 ∨ m = 20 ∨ m = 21 → MidI s r m h → Midst s r i m h

theorem Good.mono {M M' : PC → List Int → Prop} {s s' : PC} {b : BusI} {r : RG} {i m : Nat} {op md : BA} {h : List Int} (f : ∀ s h, M s h → M' s h) (g : Good M s s' b r i m op md h) : Good M' s s' b r i m op md h := by
  obtain ⟨g1, g2, g3⟩ := g
  refine ⟨g1, g2, ?_⟩
  rcases g3 with ⟨a, b, c, d⟩ | q
  · exact .inl ⟨a, b, c, f _ _ d⟩
  · exact .inr q

theorem opName_ins (i m : Nat) (h0 : m ≠ 20) (h1 : m ≠ 21) : opName i m = insName i := by unfold opName; rw [if_neg h0, if_neg h1]

theorem m_zero (i : Nat) (hi : i < 56) : okPair i 0 = false := by
  have : ∀ i : Fin 56, okPair i.val 0 = false := by decide +kernel
  exact this ⟨i, hi⟩
theorem m_le (i m : Nat) (h : okPair i m = true) : m ≤ 22 := by
  unfold okPair at h
  rw [Bool.or_eq_true] at h
  rcases h with h | h
  · rw [List.any_eq_true] at h
    obtain ⟨e, he, hh⟩ := h
    have all : ∀ e ∈ opTable, e.2.2 ≤ 22 := by decide +kernel
    have := all e he
    simp at hh; omega
  · simp at h; omega
theorem int_ok (i m : Nat) (hi : i < 56) (hm : m = 19 ∨ m = 20 ∨ m = 21) (h : okPair i m = true) : i = 12 := by
  have : ∀ i : Fin 56, (okPair i.val 19 = true → i.val = 12) ∧ (okPair i.val 20 = true → i.val = 12) ∧ (okPair i.val 21 = true → i.val = 12) := by decide +kernel
  rcases hm with rfl | rfl | rfl
  · exact (this ⟨i, hi⟩).1 h
  · exact (this ⟨i, hi⟩).2.1 h
  · exact (this ⟨i, hi⟩).2.2 h
theorem jsr_ok (i : Nat) (hi : i < 56) (h : okPair i 15 = true) : i = 28 := by
  have : ∀ i : Fin 56, okPair i.val 15 = true → i.val = 28 := by decide +kernel
  exact this ⟨i, hi⟩ h

set_option maxHeartbeats 1000000 in
theorem midst_step (s : PC) (r : RG) (i m : Nat) (h : List Int) (irq : Bool) (hL : Live s r i m) (hR : Rg r) (hB : Bytes_ s) (hD : 0 ≤ s.data ∧ s.data < 256) (hi : i < 56) (hok : okPair i m = true) (hH : Byt h) (hM : Midst s r i m h) :
    Good (fun s h => Midst s r i m h) s (s.turn irq).1 (s.turn irq).2 r i m (opName i m) (modeName m) h := by
  cases hM with
  | one b0 e st step sp pc =>
    subst e
    by_cases m2 : m = 20 ∨ m = 21
    · rw [if_pos m2] at pc
      have e12 : i = 12 := int_ok i m hi (by omega) hok
      subst e12
      exact (int_1 s r m irq (by omega) hR hL st b0 step sp (by rw [if_neg (by omega)]; exact pc)).mono (fun s h q => .int (by omega) q)
    · rw [if_neg m2] at pc
      rw [opName_ins i m (by omega) (by omega)]
      have h22 := m_le i m hok
      have hm0 : m ≠ 0 := by rintro rfl; rw [m_zero i hi] at hok; cases hok
      by_cases e1 : m = 1
      · subst e1; exact one_imp _ s r i b0 irq hL hR hD hi hok st step sp pc
      by_cases e2 : m = 2
      · subst e2; exact one_acc _ s r i b0 irq hL hR hi hok st step sp pc
      by_cases e3 : m = 3
      · subst e3; exact one_imm _ s r i b0 irq hL hR hB hi hok st step sp pc
      by_cases e11 : m ≤ 11
      · exact (placed_step s r i m [b0] irq hL hR hB hi hok (by omega) e11 hH (.one (by omega) (by omega) st step sp pc)).mono (fun s h q => .plc (by omega) e11 q)
      by_cases e12 : m = 12
      · subst e12; exact (one_rel s r i b0 irq hL hR hB hD hi hok st step sp pc).mono (fun s h q => .rel rfl q)
      by_cases e13 : m = 13 ∨ m = 14
      · have := jmp_ok i m hi e13 hok; subst this
        exact (one_jmp s r m b0 irq e13 hL hR hB st step sp pc).mono (fun s h q => .jmp e13 q)
      by_cases e15 : m = 15
      · subst e15; have := jsr_ok i hi hok; subst this
        exact (jsr_1 s r b0 irq hL hR hB st step sp pc).mono (fun s h q => .jsr rfl q)
      by_cases e16 : m = 16 ∨ m = 22
      · have hb : i = bi m := by rcases e16 with rfl | rfl; exact (back_ok i hi).1 hok; exact (back_ok i hi).2 hok
        subst hb
        exact (one_back s r m b0 irq e16 hL st step sp pc).mono (fun s h q => .back e16 q)
      by_cases e17 : m = 17
      · subst e17; exact (one_push s r i b0 irq (push_ok i hi hok) hL st step sp pc).mono (fun s h q => .push rfl q)
      by_cases e18 : m = 18
      · subst e18; exact (one_pull s r i b0 irq (pull_ok i hi hok) hL st step sp pc).mono (fun s h q => .pull rfl q)
      have e19 : m = 19 := by omega
      subst e19
      have := int_ok i 19 hi (.inl rfl) hok; subst this
      exact (int_1 s r 19 irq (.inl rfl) hR hL st b0 step sp pc).mono (fun s h q => .int (.inl rfl) q)
  | plc h4 h11 q =>
    rw [opName_ins i m (by omega) (by omega)]
    exact (placed_step s r i m h irq hL hR hB hi hok h4 h11 hH q).mono (fun s h q => .plc h4 h11 q)
  | rel e q =>
    subst e
    rw [opName_ins i 12 (by decide) (by decide)]
    refine Good.mono (fun s h q => .rel rfl q) (?_ : Good (fun s h => MidB s r (insName i) h) _ _ _ _ _ _ _ _ _)
    cases q with
    | two ht st step ad sp pc => exact two_rel s r i _ _ irq hL hi hok ht st step ad sp pc
    | three ht st step ad sp pc hne => exact three_rel s r i _ _ _ irq hL hi hok ht st step ad sp pc hne
  | jmp e q =>
    have := jmp_ok i m hi e hok; subst this
    rw [opName_ins 27 m (by omega) (by omega)]
    refine Good.mono (fun s h q => .jmp e q) (?_ : Good (fun s h => MidJ s r m h) _ _ _ _ _ _ _ _ _)
    cases q with
    | @two _ b0 b1 hm st step ad sp pc =>
      rcases hm with rfl | rfl
      · exact two_jmp s r b0 b1 irq hL hB (hH b1 (by simp)) st step ad sp pc
      · exact two_ind s r b0 b1 irq hL hB (hH b1 (by simp)) st step ad sp pc
    | @three b0 b1 c st step hop sp => exact three_ind s r b0 b1 c irq hL hB (hH b1 (by simp)) (hH c (by simp)) st step hop sp
    | @four b0 b1 c d st step hop ad sp => exact four_ind s r b0 b1 c d irq hL hB (hH b1 (by simp)) (hH c (by simp)) (hH d (by simp)) st step hop ad sp
  | jsr e q =>
    subst e; have := jsr_ok i hi hok; subst this
    refine Good.mono (fun s h q => .jsr rfl q) (?_ : Good (fun s h => MidS s r h) _ _ _ _ _ _ _ _ _)
    cases q with
    | two st step ad sp pc => exact jsr_2 s r _ _ irq hL hR st step ad sp pc
    | three st step ad sp pc => exact jsr_3 s r _ _ _ irq hL hR st step ad sp pc
    | four st step ad sp pc => exact jsr_4 s r _ _ _ _ irq hL st step ad sp pc
    | @five b0 b1 c d f st step ad sp pc => exact jsr_5 s r b0 b1 c d f irq hL hB (hH b1 (by simp)) st step ad sp pc
  | back e q =>
    have hb : i = bi m := by rcases e with rfl | rfl; exact (back_ok i hi).1 hok; exact (back_ok i hi).2 hok
    subst hb
    rw [opName_ins _ m (by omega) (by omega)]
    refine Good.mono (fun s h q => .back e q) (?_ : Good (fun s h => MidO s r m h) _ _ _ _ _ _ _ _ _)
    cases q with
    | two st step sp => exact two_back s r m _ _ irq e hL hR st step sp
    | three st step sp =>
      rcases e with rfl | rfl
      · exact rts_3 s r _ _ _ irq hL hB st step sp
      · exact rti_3 s r _ _ _ irq hL hB st step sp
    | @rts4 b0 b1 c d st step sp ad => exact rts_4 s r b0 b1 c d irq hL hB (hH d (by simp)) st step sp ad
    | @rts5 b0 b1 c d f st step sp ad => exact rts_5 s r b0 b1 c d f irq hL (hH d (by simp)) (hH f (by simp)) st step sp ad
    | rti4 st step sp d => exact rti_4 s r _ _ _ _ irq hL hB st step sp d
    | @rti5 b0 b1 c d f st step sp dt ad => exact rti_5 s r b0 b1 c d f irq hL hB (hH d (by simp)) (hH f (by simp)) st step sp dt ad
  | push e q =>
    subst e
    rw [opName_ins i 17 (by decide) (by decide)]
    refine Good.mono (fun s h q => .push rfl q) (?_ : Good (fun s h => MidU s r h) _ _ _ _ _ _ _ _ _)
    cases q with
    | two st step sp pc => exact two_push s r i _ _ irq (push_ok i hi hok) hL hR st step sp pc
  | pull e q =>
    subst e
    rw [opName_ins i 18 (by decide) (by decide)]
    refine Good.mono (fun s h q => .pull rfl q) (?_ : Good (fun s h => MidP s r h) _ _ _ _ _ _ _ _ _)
    cases q with
    | two st step sp pc => exact two_pull s r i _ _ irq (pull_ok i hi hok) hL hR st step sp pc
    | three st step sp pc => exact three_pull s r i _ _ _ irq (pull_ok i hi hok) hL hR hB st step sp pc
  | int e q =>
    have := int_ok i m hi e hok; subst this
    refine Good.mono (fun s h q => .int e q) (?_ : Good (fun s h => MidI s r m h) _ _ _ _ _ _ _ _ _)
    cases q with
    | two st step sp pc => exact int_2 s r m irq e hR hL st _ _ step sp pc
    | three st step sp pc => exact int_3 s r m irq e hR hL st _ _ _ step sp pc
    | four st step sp => exact int_4 s r m irq e hR hL st _ _ _ _ step sp
    | five st step sp => exact int_5 s r m irq e hR hL st _ _ _ _ _ hB step sp
    | @six b0 b1 c d f g st step ad sp => exact int_6 s r m irq e hR hL st b0 b1 c d f g hB (hH g (by simp)) step ad sp
end

/-
  What the document's rule asks for is no fetch, and writes bytes.
-/
section
def OkAct (a : Act) : Prop := a.ft = false ∧ (a.wr = true → 0 ≤ a.data ∧ a.data < 256) ∧ a.addr < 65536 ∧ 0 ≤ a.addr

theorem ok_rd (a : Int) : OkAct (rdR a).1 := ⟨rfl, fun h => (by cases h), by show a % 65536 < 65536; omega, by show 0 ≤ a % 65536; omega⟩
theorem ok_dn : OkAct dnR.1 := ⟨rfl, fun h => (by cases h), by decide, by decide⟩
theorem ok_at (q : Int) (h : 0 ≤ q ∧ q < 65536) : OkAct ⟨q, false, 0, false⟩ := ⟨rfl, fun h => (by cases h), h.2, h.1⟩
theorem ok_nil : OkAct Act.nil := ⟨rfl, fun h => (by cases h), by decide, by decide⟩
theorem ok_wr (a v : Int) (h : 0 ≤ v ∧ v < 256) : OkAct (wrR a v).1 := ⟨rfl, fun _ => h, by show a % 65536 < 65536; omega, by show 0 ≤ a % 65536; omega⟩

theorem and1_b (p : Int) (h : 0 ≤ p ∧ p < 256) : 0 ≤ i64and p 1 ∧ i64and p 1 ≤ 1 :=
  all_byte (p := fun p => 0 ≤ i64and p 1 ∧ i64and p 1 ≤ 1) (by decide +kernel) p h.1 h.2
theorem or16_r (p : Int) (h : 0 ≤ p ∧ p < 256) : 0 ≤ i64or p 16 ∧ i64or p 16 < 256 :=
  all_byte (p := fun p => 0 ≤ i64or p 16 ∧ i64or p 16 < 256) (by decide +kernel) p h.1 h.2

theorem changed_r (op : BA) (b p : Int) (hb : 0 ≤ b ∧ b < 256) (hp : 0 ≤ p ∧ p < 256) : 0 ≤ (changedR op b p).1 ∧ (changedR op b p).1 < 256 := by
  have := and1_b p hp
  unfold changedR
  repeat' split
  all_goals (simp only []; omega)

theorem ok_uses (op : BA) (r : RG) (h : List Int) (a fr : Int) (hR : Rg r) (hH : Byt h) : OkAct (usesR op r h a fr).1 := by
  unfold usesR
  simp only []
  split
  · split
    · exact ok_rd _
    · exact ok_dn
  · split
    · split
      · refine ok_wr _ _ ?_
        split
        · exact hR.A
        · split
          · exact hR.X
          · exact hR.Y
      · exact ok_dn
    · split
      · exact ok_rd _
      · split
        · exact ok_wr _ _ (hd_byte h hH _)
        · split
          · exact ok_wr _ _ (changed_r op _ _ (hd_byte h hH _) hR.P)
          · exact ok_dn

theorem ok_enters (op : BA) (r : RG) (n : Int) (hR : Rg r) : OkAct (entersR op r n).1 := by
  have h1 := hR.PC
  have h2 := or16_r r.P hR.P
  have h3 := hR.P
  unfold entersR
  simp only []
  split
  · split <;> exact ok_rd _
  · split
    · refine ok_wr _ _ ?_
      split <;> omega
    · split
      · refine ok_wr _ _ ?_
        omega
      · split
        · refine ok_wr _ _ ?_
          split
          · exact h2
          · exact h3
        · split
          · exact ok_rd _
          · split
            · exact ok_rd _
            · exact ok_dn

theorem ok_indexed (op : BA) (lo hi index n at_ : Int) (hh : 0 ≤ hi ∧ hi < 256) : OkAct (indexedR op lo hi index n at_).2.2.1 := by
  unfold indexedR
  simp only []
  split
  · exact ok_nil
  · split
    · exact ok_at _ (by omega)
    · exact ok_nil

theorem ok_place (op md : BA) (r : RG) (h : List Int) (hH : Byt h) : OkAct (placeR op md r h).2.2.1 := by
  have h1 := hd_byte h hH 1
  have h2 := hd_byte h hH 2
  have h3 := hd_byte h hH 3
  unfold placeR
  simp only []
  repeat' split
  all_goals first | exact ok_rd _ | exact ok_nil | exact ok_at _ (by omega) | exact ok_indexed _ _ _ _ _ _ (by omega)

theorem ok_next (op md : BA) (r : RG) (h : List Int) (hR : Rg r) (hH : Byt h) : OkAct (nextR op md r h).1 := by
  have h1 := hR.PC
  unfold nextR
  simp only []
  split
  · exact ok_enters op r _ hR
  split
  · repeat' split
    all_goals first | exact ok_rd _ | exact ok_dn | (refine ok_wr _ _ ?_; omega)
  split
  · unfold pullsR
    simp only []
    repeat' split
    all_goals first | exact ok_rd _ | exact ok_dn
  split
  · exact ok_wr _ _ hR.A
  split
  · exact ok_wr _ _ (or16_r r.P hR.P)
  split
  · unfold jumpsR
    simp only []
    repeat' split
    all_goals first | exact ok_rd _ | exact ok_dn
  split
  · split
    · exact ok_rd _
    · exact ok_dn
  split
  · unfold branchesR
    simp only []
    repeat' split
    all_goals first | exact ok_rd _ | exact ok_dn
  split
  · exact ok_place op md r h hH
  · exact ok_uses op r h _ _ hR hH

/-- Behind the fetch there is always a cycle more. -/
theorem next_fst (op md : BA) (r : RG) (b0 : Int) : (nextR op md r [b0]).2 = true := by
  unfold nextR
  have hl : (([b0] : List Int).length : Int) = 1 := rfl
  simp only [hl]
  split
  · unfold entersR; simp only [if_true]; split <;> rfl
  split
  · rfl
  split
  · unfold pullsR; simp only [hl, if_true]; rfl
  split
  · rename_i h; exact absurd h.2 (by decide)
  split
  · rename_i h; exact absurd h.2 (by decide)
  split
  · unfold jumpsR; simp only [hl]; rw [if_pos (by decide)]; rfl
  split
  · rfl
  split
  · unfold branchesR; simp only [hl, if_true]; rfl
  · rw [place_one]; rfl
end

/-
  A cycle of the program's computer is the document's, and they stay alike.
-/
section
/-- What has nothing to do with where an instruction stands may turn. -/
abbrev PC.off (s : PC) (a b : Bool) (c : Int) (d : Bool) (e : Int) : PC := { s with nmiOn := a, nmiDue := b, cnt := c, calls := d, cyc := e }
abbrev RG.off (r : RG) (f : Int) : RG := { r with cyc := f }

section
variable {s : PC} {r : RG} {i m : Nat} {h : List Int} (a b : Bool) (c : Int) (d : Bool) (e f : Int)
theorem Acc.off {k A : Int} {fr : Nat} (q : Acc s k h A fr) : Acc (s.off a b c d e) k h A fr := by
  cases q with
  | due x y z => exact .due x y z
  | was x y z v w => exact .was x y z v w
  | new x y z v w => exact .new x y z v w
theorem Mid.off (q : Mid s r i m h) : Mid (s.off a b c d e) (r.off f) i m h := by
  cases q with
  | one x y z v w u => exact .one x y z v w u
  | acc A fr x y z v w u t p => exact .acc A fr x y z v (w.off a b c d e) u t p
  | low x y z v w u => exact .low x y z v w u
  | abs3 x y z v w u => exact .abs3 x y z v w u
  | hop2 x y z v w u => exact .hop2 x y z v w u
  | izx3 x y z v w => exact .izx3 x y z v w
  | izx4 x y z v w u => exact .izx4 x y z v w u
  | izy3 x y z v w u => exact .izy3 x y z v w u
  | izy4 x y z v w => exact .izy4 x y z v w
theorem MidB.off {op : BA} (q : MidB s r op h) : MidB (s.off a b c d e) (r.off f) op h := by
  cases q with
  | two x y z v w u => exact .two x y z v w u
  | three x y z v w u t => exact .three x y z v w u t
theorem MidJ.off (q : MidJ s r m h) : MidJ (s.off a b c d e) (r.off f) m h := by
  cases q with
  | two x y z v w u => exact .two x y z v w u
  | three x y z v => exact .three x y z v
  | four x y z v w => exact .four x y z v w
theorem MidS.off (q : MidS s r h) : MidS (s.off a b c d e) (r.off f) h := by
  cases q with
  | two x y z v w => exact .two x y z v w
  | three x y z v w => exact .three x y z v w
  | four x y z v w => exact .four x y z v w
  | five x y z v w => exact .five x y z v w
theorem MidO.off (q : MidO s r m h) : MidO (s.off a b c d e) (r.off f) m h := by
  cases q with
  | two x y z => exact .two x y z
  | three x y z => exact .three x y z
  | rts4 x y z v => exact .rts4 x y z v
  | rts5 x y z v => exact .rts5 x y z v
  | rti4 x y z v => exact .rti4 x y z v
  | rti5 x y z v w => exact .rti5 x y z v w
theorem MidU.off (q : MidU s r h) : MidU (s.off a b c d e) (r.off f) h := by
  cases q with
  | two x y z v => exact .two x y z v
theorem MidP.off (q : MidP s r h) : MidP (s.off a b c d e) (r.off f) h := by
  cases q with
  | two x y z v => exact .two x y z v
  | three x y z v => exact .three x y z v
theorem MidI.off (q : MidI s r m h) : MidI (s.off a b c d e) (r.off f) m h := by
  cases q with
  | two x y z v => exact .two x y z v
  | three x y z v => exact .three x y z v
  | four x y z => exact .four x y z
  | five x y z => exact .five x y z
  | six x y z v => exact .six x y z v
theorem Midst.off (q : Midst s r i m h) : Midst (s.off a b c d e) (r.off f) i m h := by
  cases q with
  | one b0 x y z v w => exact .one b0 x y z v w
  | plc x y z => exact .plc x y (z.off a b c d e f)
  | rel x y => exact .rel x (y.off a b c d e f)
  | jmp x y => exact .jmp x (y.off a b c d e f)
  | jsr x y => exact .jsr x (y.off a b c d e f)
  | back x y => exact .back x (y.off a b c d e f)
  | push x y => exact .push x (y.off a b c d e f)
  | pull x y => exact .pull x (y.off a b c d e f)
  | int x y => exact .int x (y.off a b c d e f)
end

/-- The bounds of what the program holds. -/
structure Rn (s : PC) : Prop where
  bytes : Bytes_ s
  data : 0 ≤ s.data ∧ s.data < 256
  a : 0 ≤ s.ba ∧ s.ba < 256
  x : 0 ≤ s.bx ∧ s.bx < 256
  y : 0 ≤ s.b_y ∧ s.b_y < 256
  sp : 0 ≤ s.bs ∧ s.bs < 256
  p : 0 ≤ s.bp ∧ s.bp < 256
  pc : 0 ≤ s.bpc ∧ s.bpc < 65536

inductive Way (s : PC) (t : RS) : Prop
  | idle : t.h = [] → t.r.jam = false → Fin_ s t.r → Way s t
  | midst (i m : Nat) : t.h ≠ [] → t.r.jam = false → i < 56 → okPair i m = true → t.op = opName i m → t.md = modeName m → Live s t.r i m → Byt t.h → Beh s t.r → Midst s t.r i m t.h → Way s t
  | jam : t.r.jam = true → s.st = 5 → Beh s t.r → Way s t

/-- The two computers are alike. -/
structure Alike (s : PC) (t : RS) : Prop where
  mem : s.mem = t.mem
  rom : s.rom = t.rom
  cnt : s.cnt = t.cnt
  calls : s.calls = t.calls
  on : s.nmiOn = t.nmi
  due : s.nmiDue = t.due
  cyc : s.cyc = t.r.cyc
  way : Way s t

theorem Way.beh {s : PC} {t : RS} (w : Way s t) : Beh s t.r := by
  cases w with
  | idle _ _ f => exact f.b
  | midst _ _ _ _ _ _ _ _ _ _ b _ => exact b
  | jam _ _ b => exact b

theorem Alike.rg {s : PC} {t : RS} (h : Alike s t) (n : Rn s) : Rg t.r := by
  have b := h.way.beh
  exact ⟨b.a ▸ n.a, b.x ▸ n.x, b.y ▸ n.y, b.sp ▸ n.sp, b.p ▸ n.p, b.pc ▸ n.pc⟩

theorem tick_off (s : PC) : ∃ c d, s.tick = { s with cnt := c, calls := d } := by
  unfold PC.tick
  split
  · exact ⟨s.cnt, s.calls, rfl⟩
  · split
    · exact ⟨_, true, rfl⟩
    · exact ⟨_, s.calls, rfl⟩

/-- The timer counts alike. -/
theorem counts_alike (s : PC) (t : RS) (b : BusI) (c0 : 0 ≤ s.cnt ∧ s.cnt < 256) (hc : s.cnt = t.cnt) (hk : s.calls = t.calls) (s3 : PC) (h3 : s3 = if b.wr = false ∨ b.addr ≠ 53248 then s.tick else s) : s3.cnt = (t.counts b).cnt ∧ s3.calls = (t.counts b).calls ∧ ∃ c d, s3 = { s with cnt := c, calls := d } := by
  subst h3
  unfold RS.counts
  by_cases e : b.wr = true ∧ b.addr = 53248
  · rw [if_neg (by rintro (q | q); rw [e.1] at q; cases q; exact q e.2), if_pos (.inl e)]
    exact ⟨hc, hk, s.cnt, s.calls, rfl⟩
  · rw [if_pos (by
      by_cases q : b.wr = true
      · exact .inr (fun x => e ⟨q, x⟩)
      · exact .inl (by simpa using q))]
    obtain ⟨c, d, q⟩ := tick_off s
    by_cases z : s.cnt = 0
    · have tk : s.tick = s := by unfold PC.tick; rw [if_pos z]
      rw [if_pos (.inr (hc ▸ z))]
      exact ⟨by rw [tk]; exact hc, by rw [tk]; exact hk, c, d, q⟩
    · have n : ¬ (b.wr = true ∧ b.addr = 53248 ∨ t.cnt = 0) := fun x => x.elim e (fun x => z (hc.trans x))
      rw [if_neg n]
      by_cases y : (s.cnt - 1) % 256 = 0
      · have tk : s.tick = { s with cnt := (s.cnt - 1) % 256, calls := true } := by unfold PC.tick; rw [if_neg z, if_pos y]
        rw [if_pos (by omega)]
        exact ⟨by rw [tk]; show (s.cnt - 1) % 256 = t.cnt - 1; omega, by rw [tk], c, d, q⟩
      · have tk : s.tick = { s with cnt := (s.cnt - 1) % 256 } := by unfold PC.tick; rw [if_neg z, if_neg y]
        rw [if_neg (by omega)]
        exact ⟨by rw [tk]; show (s.cnt - 1) % 256 = t.cnt - 1; omega, by rw [tk]; exact hk, c, d, q⟩

/-- The bus alike. -/
theorem bus_alike (s : PC) (t : RS) (a : Act) (ok : a.ft = false) (h1 : s.mem = t.mem) (h2 : s.rom = t.rom) (h3 : s.cnt = t.cnt) (h4 : s.calls = t.calls) :
    (s.busOf a).2 = (t.bus a).2 ∧ (s.busOf a).1.mem = (t.bus a).1.mem ∧ (s.busOf a).1.rom = (t.bus a).1.rom ∧ (s.busOf a).1.cnt = (t.bus a).1.cnt ∧ (s.busOf a).1.calls = (t.bus a).1.calls ∧
    (s.busOf a).1.nmiOn = s.nmiOn ∧ (s.busOf a).1.nmiDue = s.nmiDue ∧ (s.busOf a).1.cyc = s.cyc ∧ (t.bus a).1.nmi = t.nmi ∧ (t.bus a).1.due = t.due ∧ (t.bus a).1.r = t.r ∧ (t.bus a).1.op = t.op ∧ (t.bus a).1.md = t.md ∧ (t.bus a).1.h = t.h := by
  unfold PC.busOf RS.bus
  by_cases w : a.wr = true
  · rw [if_pos w, if_neg (by rw [w]; decide)]
    unfold PC.write PC.write1
    by_cases e : a.addr = 53248
    · rw [if_pos e, if_pos e]; exact ⟨by rw [ok], h1, h2, rfl, h4, rfl, rfl, rfl, rfl, rfl, rfl, rfl, rfl, rfl⟩
    · rw [if_neg e, if_neg e]
      by_cases e2 : a.addr ≠ 53249 ∧ a.addr < s.rom
      · rw [if_pos e2, if_pos ⟨h2 ▸ e2.2, e2.1⟩]; exact ⟨by rw [ok], by rw [h1], h2, h3, h4, rfl, rfl, rfl, rfl, rfl, rfl, rfl, rfl, rfl⟩
      · rw [if_neg e2, if_neg (fun x => e2 ⟨x.2, h2 ▸ x.1⟩)]; exact ⟨by rw [ok], h1, h2, h3, h4, rfl, rfl, rfl, rfl, rfl, rfl, rfl, rfl, rfl⟩
  · have w' : a.wr = false := by simpa using w
    rw [if_neg w, if_pos w']
    have pk : s.look a.addr = t.peek a.addr := by unfold PC.look RS.peek; rw [h1, h3, h4]
    unfold PC.read PC.read1
    by_cases e : a.addr = 53249
    · rw [if_pos e, if_pos e]; exact ⟨by rw [ok, pk], h1, h2, h3, rfl, rfl, rfl, rfl, rfl, rfl, rfl, rfl, rfl, rfl⟩
    · rw [if_neg e, if_neg e]; exact ⟨by rw [ok, pk], h1, h2, h3, h4, rfl, rfl, rfl, rfl, rfl, rfl, rfl, rfl, rfl⟩

theorem busOf_byte (s : PC) (a : Act) (hB : Bytes_ s) (ok : OkAct a) : 0 ≤ (s.busOf a).2.data ∧ (s.busOf a).2.data < 256 := by
  unfold PC.busOf
  by_cases w : a.wr = true
  · rw [if_pos w]; exact ok.2.1 w
  · rw [if_neg w]; exact look_b hB _ ok.2.2.1
end

end Go.Proofs.YtcgjliflnnklnaaGreat
