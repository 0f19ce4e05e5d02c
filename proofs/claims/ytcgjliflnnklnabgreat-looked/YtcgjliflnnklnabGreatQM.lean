/-
  Joined texts.
-/
import Derived.Test.YtcgjliflnnklnabGreatQA
import Derived.Test.YtcgjliflnnklnabGreatQJ
namespace Go.Proofs.YtcgjliflnnklnabGreat
open Go.RowKit

/-
  Plain facts: what is framed is scanned again; with one byte turned it is bad.
-/
section
def sc0 : Sc := ⟨0, [], 0⟩

theorem feed_head (h : List UInt8) (hn : ∀ c ∈ h, c ≠ 36) : feedS sc0 h = sc0 ∧ feedP sc0 h = [] := by
  induction h with
  | nil => exact ⟨rfl, rfl⟩
  | cons c r ih =>
    have hc := hn c (by simp)
    have hr := ih (fun d hd => hn d (by simp [hd]))
    have e : sc0.step c = sc0 := by simp [Sc.step, sc0, hc]
    refine ⟨?_, ?_⟩
    · show feedS (sc0.step c) r = sc0; rw [e]; exact hr.1
    · simp only [feedP]; rw [e, hr.2]; simp [sc0]

theorem feed_raw (r acc : List UInt8) (sm : UInt8) (hn : ∀ c ∈ r, c ≠ 36 ∧ c ≠ 35) (hl : acc.length + r.length ≤ 200) : feedS ⟨1, acc, sm⟩ r = ⟨1, acc ++ r, sm⟩ ∧ feedP ⟨1, acc, sm⟩ r = [] := by
  induction r generalizing acc with
  | nil => simp [feedS, feedP]
  | cons c r ih =>
    have hc := hn c (by simp)
    simp only [List.length_cons] at hl
    have e : (Sc.mk 1 acc sm).step c = ⟨1, acc ++ [c], sm⟩ := by
      have : acc.length ≠ 200 := by omega
      simp [Sc.step, hc.1, hc.2, this]
    have hr := ih (acc ++ [c]) (fun d hd => hn d (by simp [hd])) (by simp; omega)
    refine ⟨?_, ?_⟩
    · show feedS (Sc.step ⟨1, acc, sm⟩ c) r = _; rw [e, hr.1]; simp
    · simp only [feedP]; rw [e, hr.2]; simp

/-- The scanner over a head without a start, a start, bytes, an end and two more. -/
theorem feed_all (h r : List UInt8) (x y : UInt8) (hh : ∀ c ∈ h, c ≠ 36) (hr : ∀ c ∈ r, c ≠ 36 ∧ c ≠ 35) (hl : r.length ≤ 200) :
    feedS sc0 (h ++ (36 :: r ++ [35, x])) = ⟨3, r, x⟩ ∧ feedP sc0 (h ++ (36 :: r ++ [35, x])) = [] ∧ feedP sc0 (h ++ (36 :: r ++ [35, x, y])) = [readPk r x y] := by
  have h1 := feed_head h hh
  have h2 := feed_raw r [] 0 hr (by simpa using hl)
  simp only [List.nil_append] at h2
  have e36 : sc0.step 36 = ⟨1, [], 0⟩ := by simp [Sc.step, sc0]
  have hS : feedS sc0 (h ++ (36 :: r ++ [35, x])) = ⟨3, r, x⟩ := by
    rw [feedS_append, h1.1, List.cons_append]
    show feedS (sc0.step 36) (r ++ [35, x]) = _
    rw [e36, feedS_append, h2.1]; simp [feedS, Sc.step]
  have hP : feedP sc0 (h ++ (36 :: r ++ [35, x])) = [] := by
    rw [feedP_append, h1.1, h1.2, List.cons_append]
    simp only [feedP, List.nil_append]
    rw [e36, feedP_append, h2.1, h2.2]; simp [feedP, Sc.step, sc0]
  refine ⟨hS, hP, ?_⟩
  rw [show h ++ (36 :: r ++ [35, x, y]) = (h ++ (36 :: r ++ [35, x])) ++ [y] from by simp, feedP_append, hS, hP]
  simp [feedP]

theorem hb_hex2 (c : UInt8) : hb (hexd (c.toNat / 16)) (hexd (c.toNat % 16)) = (c, true) := by
  revert c; apply all_u8; decide +kernel
theorem hex2_ok (c : UInt8) : ∀ d ∈ hex2 c, d ≠ 36 ∧ d ≠ 35 := by
  revert c; apply all_u8; decide +kernel
theorem esc1_ok (c : UInt8) : ∀ d ∈ esc1 c, d ≠ 36 ∧ d ≠ 35 := by
  revert c; apply all_u8; decide +kernel
theorem esc_ok (l : List UInt8) : ∀ d ∈ esc l, d ≠ 36 ∧ d ≠ 35 := by
  intro d hd; simp only [esc, List.mem_flatMap] at hd; obtain ⟨c, _, hc⟩ := hd; exact esc1_ok c d hc
theorem raw_ok (b : UInt8) (l : List UInt8) : ∀ d ∈ rawOf b l, d ≠ 36 ∧ d ≠ 35 := by
  intro d hd; simp only [rawOf, List.mem_append] at hd
  rcases hd with hd | hd
  · exact hex2_ok b d hd
  · exact esc_ok l d hd
theorem raw_len (b : UInt8) (l : List UInt8) (h : l.length ≤ 80) : (rawOf b l).length ≤ 162 := by
  have := esc_len l; simp [rawOf, hex2]; omega

theorem xor_back (c : UInt8) : c ^^^ 32 ^^^ 32 = c := by revert c; apply all_u8; decide +kernel

theorem unesc_esc (l : List UInt8) : unesc (esc l) = some l := by
  induction l with
  | nil => rfl
  | cons c r ih =>
    show unesc (esc1 c ++ esc r) = _
    by_cases h : c = 36 ∨ c = 35 ∨ c = 125
    · rw [show esc1 c = [125, c ^^^ 32] from by unfold esc1; rw [if_pos h]]
      show unesc (125 :: (c ^^^ 32) :: esc r) = _
      rw [unesc_two, ih, xor_back]; rfl
    · rw [show esc1 c = [c] from by unfold esc1; rw [if_neg h]]
      show unesc (c :: esc r) = _
      rw [unesc_plain _ _ (fun e => h (.inr (.inr e))), ih]; rfl

theorem frameOf_eq (b : UInt8) (l : List UInt8) : frameOf b l = 36 :: rawOf b l ++ [35, hexd ((sum8 (rawOf b l)).toNat / 16), hexd ((sum8 (rawOf b l)).toNat % 16)] := by
  simp [frameOf, rawOf, hex2]

theorem read_back (b : UInt8) (l : List UInt8) (h : l.length ≤ 80) :
    readPk (rawOf b l) (hexd ((sum8 (rawOf b l)).toNat / 16)) (hexd ((sum8 (rawOf b l)).toNat % 16)) = ⟨b.toNat, l, false⟩ := by
  have h2 : 2 ≤ (rawOf b l).length := by simp [rawOf, hex2]
  unfold readPk
  rw [hb_hex2, if_pos ⟨rfl, rfl, h2⟩]
  have e0 : (rawOf b l).getD 0 0 = hexd (b.toNat / 16) := by simp [rawOf, hex2]
  have e1 : (rawOf b l).getD 1 0 = hexd (b.toNat % 16) := by simp [rawOf, hex2]
  have e2 : (rawOf b l).drop 2 = esc l := by simp [rawOf, hex2]
  rw [e0, e1]
  unfold tailPk
  rw [hb_hex2, e2, unesc_esc]
  simp [h]

theorem read_bad (r : List UInt8) (c : UInt8) (h : sum8 r ≠ c) : readPk r (hexd (c.toNat / 16)) (hexd (c.toNat % 16)) = badPk := by
  unfold readPk
  rw [hb_hex2, if_neg]
  rintro ⟨_, h2, _⟩
  exact h h2.symm

theorem sum8_cons (c : UInt8) (l : List UInt8) : sum8 (c :: l) = c + sum8 l := by
  have : ∀ (l : List UInt8) (a : UInt8), l.foldl (· + ·) a = a + l.foldl (· + ·) 0 := by
    intro l
    induction l with
    | nil => intro a; simp
    | cons d r ih => intro a; simp only [List.foldl_cons]; rw [ih (a + d), ih (0 + d)]; simp [UInt8.add_assoc]
  show l.foldl (· + ·) (0 + c) = c + l.foldl (· + ·) 0
  rw [this l (0 + c)]; simp

theorem add_cancel_r {a b c : UInt8} (h : a + c = b + c) : a = b := by
  have h' := congrArg UInt8.toNat h
  rw [UInt8.toNat_add, UInt8.toNat_add] at h'
  have h1 := a.toNat_lt
  have h2 := b.toNat_lt
  have h3 := c.toNat_lt
  exact UInt8.toNat_inj.1 (by omega)
theorem add_cancel_l {a b c : UInt8} (h : c + a = c + b) : a = b := add_cancel_r (c := c) (by rw [UInt8.add_comm a c, UInt8.add_comm b c]; exact h)
theorem sum8_set (l : List UInt8) (j : Nat) (v : UInt8) (hj : j < l.length) (hv : v ≠ l[j]) : sum8 (l.set j v) ≠ sum8 l := by
  induction l generalizing j with
  | nil => simp at hj
  | cons c r ih =>
    cases j with
    | zero =>
      rw [List.set_cons_zero, sum8_cons, sum8_cons]
      intro e; exact hv (by simpa using add_cancel_r e)
    | succ j =>
      rw [List.set_cons_succ, sum8_cons, sum8_cons]
      intro e
      exact ih j (by simpa using hj) (by simpa using hv) (add_cancel_l e)
end

/-
  A stub and one packet: what it answers, and that a packet which comes again is answered again and does nothing.
-/
section
theorem settle_due (S : SB) : S.settle.due = S.due := by
  unfold SB.settle
  split <;> rfl
theorem cyc1_due (S : SB) : S.cyc1.1.due = S.due := settle_due S.ran.1
theorem ite_due {α : Type} {p : Prop} [Decidable p] {a b : SB × α} {d : UInt8} (h1 : a.1.due = d) (h2 : b.1.due = d) : (if p then a else b).1.due = d := by split <;> assumption
theorem go_due (f : Nat) : ∀ (S : SB) (l : Int) (wh : Bool) (k : Int), (S.go f l wh k).1.due = S.due := by
  induction f with
  | zero => intro S l wh k; rfl
  | succ f ih =>
    intro S l wh k
    rw [SB.go]
    cases S.look l k with
    | some why => rfl
    | none =>
      refine ite_due (cyc1_due S) ?_
      exact (ih S.cyc1.1 _ wh (k + 1)).trans (cyc1_due S)
theorem addPat_due (S : SB) (a : Int) (bs : List UInt8) : (S.addPat a bs).1.due = S.due :=
  ite_due rfl (ite_due rfl (settle_due { S with pa := S.pa ++ [mkPat S.pa.length a bs] }))
theorem doW_due (S : SB) (b : UInt8) (n : Int) (m : List UInt8) : (S.doW b n m).1.due = S.due :=
  ite_due (addPat_due S n m) (ite_due rfl (ite_due rfl (ite_due rfl (ite_due rfl (ite_due rfl (ite_due rfl (ite_due (go_due _ S n false 0) (ite_due (ite_due rfl (go_due _ S n true 0)) rfl))))))))
theorem doI_due (S : SB) (b : List UInt8) : (S.doI b).1.due = S.due := by
  refine ite_due rfl (ite_due rfl (ite_due rfl (ite_due rfl (ite_due rfl (ite_due rfl (ite_due rfl (ite_due rfl (ite_due rfl ?_))))))))
  cases hexB b.tail with
  | none => rfl
  | some l => exact ite_due rfl (doW_due S _ _ _)

/-- A scanner that rests, over a start, bytes, an end and two more. -/
theorem rest_all (s : Sc) (h0 : s.st = 0) (r : List UInt8) (x y : UInt8) (hr : ∀ c ∈ r, c ≠ 36 ∧ c ≠ 35) (hl : r.length ≤ 200) :
    (feedS s (36 :: r ++ [35, x, y])).st = 0 ∧ feedP s (36 :: r ++ [35, x, y]) = [readPk r x y] := by
  obtain ⟨st, raw, sm⟩ := s
  have h0 : st = 0 := h0
  subst h0
  have h2 := feed_raw r [] sm hr (by simpa using hl)
  simp only [List.nil_append] at h2
  have e36 : (Sc.mk 0 raw sm).step 36 = ⟨1, [], sm⟩ := by simp [Sc.step]
  constructor
  · rw [List.cons_append]
    show (feedS ((Sc.mk 0 raw sm).step 36) (r ++ [35, x, y])).st = 0
    rw [e36, feedS_append, h2.1]; simp [feedS, Sc.step]
  · rw [List.cons_append]
    simp only [feedP]
    rw [e36, feedP_append, h2.1, h2.2]; simp [feedP, Sc.step]

/-- S is U but for its scanner, which rests. -/
def Al (S U : SB) : Prop := ∃ c : Sc, S = U.ws c ∧ c.st = 0
theorem al_feed {S U : SB} (h : Al S U) (r : List UInt8) (x y : UInt8) (hr : ∀ c ∈ r, c ≠ 36 ∧ c ≠ 35) (hl : r.length ≤ 200) :
    Al (S.feed (36 :: r ++ [35, x, y])).1 (U.ans (readPk r x y)).1 ∧ (S.feed (36 :: r ++ [35, x, y])).2 = (U.ans (readPk r x y)).2 := by
  obtain ⟨c, rfl, hc⟩ := h
  obtain ⟨q1, q2⟩ := rest_all c hc r x y hr hl
  have e : (U.ws c).feed (36 :: r ++ [35, x, y]) = (U.ws (feedS c (36 :: r ++ [35, x, y]))).answers [readPk r x y] := by
    unfold SB.feed
    rw [show (U.ws c).sc = c from rfl, q2]
    rfl
  rw [e]
  have a := ans_ws (c := feedS c (36 :: r ++ [35, x, y])) U (readPk r x y)
  simp only [SB.answers, List.append_nil]
  rw [← a]
  exact ⟨⟨_, rfl, q1⟩, rfl⟩
theorem al_frame {S U : SB} (h : Al S U) (b : UInt8) (l : List UInt8) (hl : l.length ≤ 80) :
    Al (S.feed (frameOf b l)).1 (U.ans ⟨b.toNat, l, false⟩).1 ∧ (S.feed (frameOf b l)).2 = (U.ans ⟨b.toNat, l, false⟩).2 := by
  have := raw_len b l hl
  have q := al_feed h (rawOf b l) (hexd ((sum8 (rawOf b l)).toNat / 16)) (hexd ((sum8 (rawOf b l)).toNat % 16)) (raw_ok b l) (by omega)
  rw [← frameOf_eq, read_back b l hl] at q
  exact q

/-- The second byte turned. -/
def spoilt (l : List UInt8) : List UInt8 := l.set 1 (l.getD 1 0 ^^^ 1)
theorem hexd_x (n : Nat) (h : n < 16) : hexd n ^^^ 1 ≠ 36 ∧ hexd n ^^^ 1 ≠ 35 ∧ hexd n ^^^ 1 ≠ hexd n := by
  have : ∀ n ∈ List.range 16, hexd n ^^^ 1 ≠ 36 ∧ hexd n ^^^ 1 ≠ 35 ∧ hexd n ^^^ 1 ≠ hexd n := by decide +kernel
  exact this n (List.mem_range.2 h)
theorem ans_bad (U : SB) : U.ans badPk = (U, [45]) := if_pos (show badPk.bad = true from rfl)
theorem al_spoilt {S U : SB} (h : Al S U) (b : UInt8) (l : List UInt8) (hl : l.length ≤ 80) :
    Al (S.feed (spoilt (frameOf b l))).1 U ∧ (S.feed (spoilt (frameOf b l))).2 = [45] := by
  have hb := b.toNat_lt
  have hx := hexd_x (b.toNat / 16) (by omega)
  have hlen := raw_len b l hl
  have e0 : rawOf b l = hexd (b.toNat / 16) :: (hexd (b.toNat % 16) :: esc l) := by simp [rawOf, hex2]
  have es : spoilt (frameOf b l) = 36 :: ((rawOf b l).set 0 (hexd (b.toNat / 16) ^^^ 1)) ++ [35, hexd ((sum8 (rawOf b l)).toNat / 16), hexd ((sum8 (rawOf b l)).toNat % 16)] := by
    rw [frameOf_eq]; generalize sum8 (rawOf b l) = s8; rw [e0]; rfl
  have hs : sum8 ((rawOf b l).set 0 (hexd (b.toNat / 16) ^^^ 1)) ≠ sum8 (rawOf b l) := sum8_set _ 0 _ (by rw [e0]; simp) (by simp only [e0, List.getElem_cons_zero]; exact hx.2.2)
  have q := al_feed h ((rawOf b l).set 0 (hexd (b.toNat / 16) ^^^ 1)) (hexd ((sum8 (rawOf b l)).toNat / 16)) (hexd ((sum8 (rawOf b l)).toNat % 16)) (fun c hc => by
    rcases List.mem_or_eq_of_mem_set hc with hc | rfl
    · exact raw_ok b l c hc
    · exact ⟨hx.1, hx.2.1⟩) (by rw [List.length_set]; omega)
  rw [← es, read_bad _ _ hs, ans_bad] at q
  exact q

/-- A packet with the due number. -/
theorem ans_due (U : SB) (l : List UInt8) : U.ans ⟨U.due.toNat, l, false⟩ = ({ (U.doI l).1 with rp := (U.doI l).2, bg := true, due := (U.doI l).1.due + 1 }, 43 :: frameOf U.due (U.doI l).2) := by
  unfold SB.ans
  rw [if_neg (by simp), if_pos rfl]
theorem ans_due_due (U : SB) (l : List UInt8) : (U.ans ⟨U.due.toNat, l, false⟩).1.due = U.due + 1 := by
  rw [ans_due]
  show (U.doI l).1.due + 1 = _
  rw [doI_due]
theorem ans_again (U : SB) (l : List UInt8) : (U.ans ⟨U.due.toNat, l, false⟩).1.ans ⟨U.due.toNat, l, false⟩ = ((U.ans ⟨U.due.toNat, l, false⟩).1, (U.ans ⟨U.due.toNat, l, false⟩).2) := by
  have e1 := ans_due_due U l
  have e2 : (U.ans ⟨U.due.toNat, l, false⟩).1.bg = true := by rw [ans_due]
  have e3 : (U.ans ⟨U.due.toNat, l, false⟩).2 = 43 :: frameOf U.due (U.ans ⟨U.due.toNat, l, false⟩).1.rp := by rw [ans_due]
  rw [e3]
  generalize (U.ans ⟨U.due.toNat, l, false⟩).1 = V at *
  have hb := U.due.toNat_lt
  have e4 : V.due - 1 = U.due := by rw [e1]; simp
  unfold SB.ans
  rw [if_neg (by simp), if_neg, if_pos ⟨e2, by rw [e4]⟩, e4]
  show ¬ U.due.toNat = V.due.toNat
  rw [e1, UInt8.toNat_add]
  show ¬ U.due.toNat = (U.due.toNat + 1) % 256
  omega
/-- An old one. -/
theorem ans_old (U : SB) (n : Nat) (l : List UInt8) (h1 : n ≠ U.due.toNat) (h2 : n ≠ (U.due - 1).toNat) : U.ans ⟨n, l, false⟩ = (U, [63]) := by
  unfold SB.ans
  rw [if_neg (by simp), if_neg h1, if_neg (fun h => h2 h.2)]
theorem due_len (U : SB) (l : List UInt8) : 7 ≤ (U.ans ⟨U.due.toNat, l, false⟩).2.length := by
  rw [ans_due]; simp [frameOf, hex2]
theorem due_head (U : SB) (l : List UInt8) : (U.ans ⟨U.due.toNat, l, false⟩).2.getD 0 0 = 43 := by
  rw [ans_due]; rfl
end

end Go.Proofs.YtcgjliflnnklnabGreat
