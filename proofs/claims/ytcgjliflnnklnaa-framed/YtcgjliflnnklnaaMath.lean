/-
  Plain facts: what is framed is scanned again; with one byte turned it is bad.
-/
import Derived.Test.YtcgjliflnnklnaaFeed
namespace Go.Proofs.Ytcgjliflnnklnaa
open Go.RowKit

def sc0 : Sc := ⟨0, [], 0⟩

theorem feed_head (h : List UInt8) (hn : ∀ c ∈ h, c ≠ 36) : feedS sc0 h = sc0 ∧ feedP sc0 h = [] := by
  induction h with
  | nil => exact ⟨rfl, rfl⟩
  | cons c r ih =>
    have hc := hn c (by simp)
    have hr := ih (fun d hd => hn d (by simp [hd]))
    have e : sc0.step c = sc0 := by simp [Sc.step, sc0, hc]
    refine ⟨?_, ?_⟩
    · show feedS (sc0.step c) r = sc0; rw [e]; exact hr.1
    · simp only [feedP]; rw [e, hr.2]; simp [sc0]

theorem feed_raw (r acc : List UInt8) (sm : UInt8) (hn : ∀ c ∈ r, c ≠ 36 ∧ c ≠ 35) (hl : acc.length + r.length ≤ 200) : feedS ⟨1, acc, sm⟩ r = ⟨1, acc ++ r, sm⟩ ∧ feedP ⟨1, acc, sm⟩ r = [] := by
  induction r generalizing acc with
  | nil => simp [feedS, feedP]
  | cons c r ih =>
    have hc := hn c (by simp)
    simp only [List.length_cons] at hl
    have e : (Sc.mk 1 acc sm).step c = ⟨1, acc ++ [c], sm⟩ := by
      have : acc.length ≠ 200 := by omega
      simp [Sc.step, hc.1, hc.2, this]
    have hr := ih (acc ++ [c]) (fun d hd => hn d (by simp [hd])) (by simp; omega)
    refine ⟨?_, ?_⟩
    · show feedS (Sc.step ⟨1, acc, sm⟩ c) r = _; rw [e, hr.1]; simp
    · simp only [feedP]; rw [e, hr.2]; simp

/-- The scanner over a head without a start, a start, bytes, an end and two more. -/
theorem feed_all (h r : List UInt8) (x y : UInt8) (hh : ∀ c ∈ h, c ≠ 36) (hr : ∀ c ∈ r, c ≠ 36 ∧ c ≠ 35) (hl : r.length ≤ 200) :
    feedS sc0 (h ++ (36 :: r ++ [35, x])) = ⟨3, r, x⟩ ∧ feedP sc0 (h ++ (36 :: r ++ [35, x])) = [] ∧ feedP sc0 (h ++ (36 :: r ++ [35, x, y])) = [readPk r x y] := by
  have h1 := feed_head h hh
  have h2 := feed_raw r [] 0 hr (by simpa using hl)
  simp only [List.nil_append] at h2
  have e36 : sc0.step 36 = ⟨1, [], 0⟩ := by simp [Sc.step, sc0]
  have hS : feedS sc0 (h ++ (36 :: r ++ [35, x])) = ⟨3, r, x⟩ := by
    rw [feedS_append, h1.1, List.cons_append]
    show feedS (sc0.step 36) (r ++ [35, x]) = _
    rw [e36, feedS_append, h2.1]; simp [feedS, Sc.step]
  have hP : feedP sc0 (h ++ (36 :: r ++ [35, x])) = [] := by
    rw [feedP_append, h1.1, h1.2, List.cons_append]
    simp only [feedP, List.nil_append]
    rw [e36, feedP_append, h2.1, h2.2]; simp [feedP, Sc.step, sc0]
  refine ⟨hS, hP, ?_⟩
  rw [show h ++ (36 :: r ++ [35, x, y]) = (h ++ (36 :: r ++ [35, x])) ++ [y] from by simp, feedP_append, hS, hP]
  simp [feedP]

theorem hb_hex2 (c : UInt8) : hb (hexd (c.toNat / 16)) (hexd (c.toNat % 16)) = (c, true) := by
  revert c; apply all_u8; decide +kernel
theorem hex2_ok (c : UInt8) : ∀ d ∈ hex2 c, d ≠ 36 ∧ d ≠ 35 := by
  revert c; apply all_u8; decide +kernel
theorem esc1_ok (c : UInt8) : ∀ d ∈ esc1 c, d ≠ 36 ∧ d ≠ 35 := by
  revert c; apply all_u8; decide +kernel
theorem esc_ok (l : List UInt8) : ∀ d ∈ esc l, d ≠ 36 ∧ d ≠ 35 := by
  intro d hd; simp only [esc, List.mem_flatMap] at hd; obtain ⟨c, _, hc⟩ := hd; exact esc1_ok c d hc
theorem raw_ok (b : UInt8) (l : List UInt8) : ∀ d ∈ rawOf b l, d ≠ 36 ∧ d ≠ 35 := by
  intro d hd; simp only [rawOf, List.mem_append] at hd
  rcases hd with hd | hd
  · exact hex2_ok b d hd
  · exact esc_ok l d hd
theorem raw_len (b : UInt8) (l : List UInt8) (h : l.length ≤ 80) : (rawOf b l).length ≤ 162 := by
  have := esc_len l; simp [rawOf, hex2]; omega

theorem xor_back (c : UInt8) : c ^^^ 32 ^^^ 32 = c := by revert c; apply all_u8; decide +kernel

theorem unesc_esc (l : List UInt8) : unesc (esc l) = some l := by
  induction l with
  | nil => rfl
  | cons c r ih =>
    show unesc (esc1 c ++ esc r) = _
    by_cases h : c = 36 ∨ c = 35 ∨ c = 125
    · rw [show esc1 c = [125, c ^^^ 32] from by unfold esc1; rw [if_pos h]]
      show unesc (125 :: (c ^^^ 32) :: esc r) = _
      rw [unesc_two, ih, xor_back]; rfl
    · rw [show esc1 c = [c] from by unfold esc1; rw [if_neg h]]
      show unesc (c :: esc r) = _
      rw [unesc_plain _ _ (fun e => h (.inr (.inr e))), ih]; rfl

theorem frameOf_eq (b : UInt8) (l : List UInt8) : frameOf b l = 36 :: rawOf b l ++ [35, hexd ((sum8 (rawOf b l)).toNat / 16), hexd ((sum8 (rawOf b l)).toNat % 16)] := by
  simp [frameOf, rawOf, hex2]

theorem read_back (b : UInt8) (l : List UInt8) (h : l.length ≤ 80) :
    readPk (rawOf b l) (hexd ((sum8 (rawOf b l)).toNat / 16)) (hexd ((sum8 (rawOf b l)).toNat % 16)) = ⟨b.toNat, l, false⟩ := by
  have h2 : 2 ≤ (rawOf b l).length := by simp [rawOf, hex2]
  unfold readPk
  rw [hb_hex2, if_pos ⟨rfl, rfl, h2⟩]
  have e0 : (rawOf b l).getD 0 0 = hexd (b.toNat / 16) := by simp [rawOf, hex2]
  have e1 : (rawOf b l).getD 1 0 = hexd (b.toNat % 16) := by simp [rawOf, hex2]
  have e2 : (rawOf b l).drop 2 = esc l := by simp [rawOf, hex2]
  rw [e0, e1]
  unfold tailPk
  rw [hb_hex2, e2, unesc_esc]
  simp [h]

theorem read_bad (r : List UInt8) (c : UInt8) (h : sum8 r ≠ c) : readPk r (hexd (c.toNat / 16)) (hexd (c.toNat % 16)) = badPk := by
  unfold readPk
  rw [hb_hex2, if_neg]
  rintro ⟨_, h2, _⟩
  exact h h2.symm

theorem sum8_cons (c : UInt8) (l : List UInt8) : sum8 (c :: l) = c + sum8 l := by
  have : ∀ (l : List UInt8) (a : UInt8), l.foldl (· + ·) a = a + l.foldl (· + ·) 0 := by
    intro l
    induction l with
    | nil => intro a; simp
    | cons d r ih => intro a; simp only [List.foldl_cons]; rw [ih (a + d), ih (0 + d)]; simp [UInt8.add_assoc]
  show l.foldl (· + ·) (0 + c) = c + l.foldl (· + ·) 0
  rw [this l (0 + c)]; simp

theorem add_cancel_r {a b c : UInt8} (h : a + c = b + c) : a = b := by
  have h' := congrArg UInt8.toNat h
  rw [UInt8.toNat_add, UInt8.toNat_add] at h'
  have h1 := a.toNat_lt
  have h2 := b.toNat_lt
  have h3 := c.toNat_lt
  exact UInt8.toNat_inj.1 (by omega)
theorem add_cancel_l {a b c : UInt8} (h : c + a = c + b) : a = b := add_cancel_r (c := c) (by rw [UInt8.add_comm a c, UInt8.add_comm b c]; exact h)
theorem sum8_set (l : List UInt8) (j : Nat) (v : UInt8) (hj : j < l.length) (hv : v ≠ l[j]) : sum8 (l.set j v) ≠ sum8 l := by
  induction l generalizing j with
  | nil => simp at hj
  | cons c r ih =>
    cases j with
    | zero =>
      rw [List.set_cons_zero, sum8_cons, sum8_cons]
      intro e; exact hv (by simpa using add_cancel_r e)
    | succ j =>
      rw [List.set_cons_succ, sum8_cons, sum8_cons]
      intro e
      exact ih j (by simpa using hj) (by simpa using hv) (add_cancel_l e)

end Go.Proofs.Ytcgjliflnnklnaa
