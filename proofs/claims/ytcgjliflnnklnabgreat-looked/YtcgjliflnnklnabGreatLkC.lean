/-
  A stub beside a computer that runs by itself.
-/
import Derived.Test.YtcgjliflnnklnabGreatLkB
namespace Go.Proofs.YtcgjliflnnklnabGreat
open Go.RowKit

/-- A stub, up to its scanner, and a computer beside it. -/
def Lkd (w W : World) (A B : Nat) (U : SB) (M : PC) (N : Int) : Prop :=
  ∃ S : SB, Al S U ∧ Stb W A S N ∧ CAt W B M ∧ Below w.heap.size w W ∧ A ≠ B ∧ w.heap.size ≤ A ∧ w.heap.size ≤ B
theorem Lkd.bel {w W W' : World} {A B : Nat} {U : SB} {M : PC} {N : Int} (h : Lkd w W A B U M N) (b : Below W.heap.size W W') : Lkd w W' A B U M N := by
  obtain ⟨S, h1, h3, h4, h5, h6⟩ := h
  exact ⟨S, h1, h3.bel b, h4.bl b, h5.trans (b.mono h5.size), h6⟩
theorem Lkd.old {w W : World} {A B : Nat} {U : SB} {M : PC} {N : Int} (h : Lkd w W A B U M N) : Below w.heap.size w W := by
  obtain ⟨S, h1, h3, h4, h5, h6⟩ := h; exact h5
theorem Lkd.lt {w W : World} {A B : Nat} {U : SB} {M : PC} {N : Int} (h : Lkd w W A B U M N) : A < W.heap.size ∧ B < W.heap.size := by
  obtain ⟨S, h1, h3, h4, h5, h6⟩ := h; exact ⟨h3.lt, h4.lt⟩
theorem Lkd.mono {w W : World} {A B : Nat} {U : SB} {M : PC} {N K : Int} (h : Lkd w W A B U M N) (e : N ≤ K) : Lkd w W A B U M K := by
  obtain ⟨S, h1, h3, h4, h5, h6⟩ := h
  exact ⟨S, h1, h3.mono e, h4, h5, h6⟩
theorem Lkd.mach {w W : World} {A B : Nat} {U : SB} {M : PC} {N : Int} (h : Lkd w W A B U M N) : CAt W B M ∧ w.heap.size ≤ B := by
  obtain ⟨S, h1, h3, h4, h5, h6, h7, h8⟩ := h; exact ⟨h4, h8⟩

/-- What is said of the stub fed. -/
def FedL (w w' : World) (A B : Nat) (U : SB) (M : PC) (N : Int) (L : List UInt8) (e : Ending) : Prop :=
  ∃ g c, e = .returned (.slice (some ⟨g, 0, none⟩) L.length c) ∧ (convert 22 9 (.slice (some ⟨g, 0, none⟩) L.length c)).run Tryz.prog w' = .ok (.string ⟨L.toArray⟩) w' ∧ Lkd w w' A B U M (N + 200000000)
theorem Lkd.sa {w W : World} {A B : Nat} {U U' : SB} {M : PC} {N : Int} (h : Lkd w W A B U M N) (hN0 : 0 ≤ N) (hN : N ≤ 100000000000) (F : ByteArray) (L : List UInt8) (hl : F.size ≤ 200) (hL : 0 < L.length)
    (hA : ∀ S, Al S U → Al (S.feed F.data.toList).1 U' ∧ (S.feed F.data.toList).2 = L) (c cap : Nat) (fr : Nat × Nat) :
    Calls Tryz.prog 9 #[.pointer (some ⟨A, 0, none⟩), .slice (some ⟨W.heap.size, 0, none⟩) F.size cap] ((W.alloc (.cells (bytesRow F c) 5 fr)).drew) fun e w' => FedL w w' A B U' M N L e := by
  have hlt := h.lt
  obtain ⟨S, h1, h3, h4, h5, h6, h7, h8⟩ := h.bel (bl_drew (bl_alloc (o := .cells (bytesRow F c) 5 fr) (Below.refl _ _)))
  obtain ⟨q1, q2⟩ := hA S h1
  have hF : F.data.toList.length = F.size := by simp
  refine (h3.feed hN0 (by omega) W.heap.size 0 cap F.size F.data.toList hF (by omega) (bytes_newS W F c fr) (by omega)).mono ?_
  rintro e w' ⟨v, rfl, o, s, g⟩
  rw [q2] at o
  rcases own_parts o rfl with ⟨rfl, -⟩ | ⟨gg, cc, rfl⟩
  · simp at hL
  · exact ⟨gg, cc, rfl, to_string_s o, _, q1, s.mono (by omega), h4.beside g (Ne.symm h6), below_grown h5 g h7 h5.size, h6, h7, h8⟩

theorem tri_wf {s : PC} {n : Nat} (h : TrI s n) : s.st = 1 → s.md ≠ 0 := by
  intro h1
  cases h with
  | mid m _ hm m1 => rw [hm]; omega
  | idle h _ _ => omega
  | two h _ => omega
  | three h _ => omega
  | four h _ => omega
  | jam h => omega

/-- The computer beside, behind j cycles. -/
def Ran (w W : World) (B : Nat) (P : PC) (R : Nat → Option Value) (j : Nat) : Prop := CAt W B ((P.runN j).rr R) ∧ (∃ n, TrI (P.runN j) n) ∧ Below w.heap.size w W ∧ w.heap.size ≤ B
theorem Ran.next {w W W' : World} {B : Nat} {P : PC} {R : Nat → Option Value} {j : Nat} (h : Ran w W B P R j) (h5 : (P.runN j).st ≠ 5) (T : Tn B (cycV ((P.runN j).rr R) false false).1 W W') : Ran w W' B P R (j + 1) := by
  obtain ⟨h1, ⟨n, h2⟩, h3, h4⟩ := h
  have h5' : ((P.runN j).rr R).st ≠ 5 := h5
  have e : (cycV ((P.runN j).rr R) false false).1 = (P.runN (j + 1)).rr R := by
    rw [go_on _ h5', cycle_rr]
    show (rr2 ((P.runN j).cycle false false) R).1 = (cycV (P.runN j) false false).1.rr R
    rw [go_on _ h5]
    rfl
  rw [e] at T
  have rg : RgP (P.runN j) := ⟨h1.rpc, h1.rad, h1.rhop, h1.rs, h1.rx⟩
  have z := cycle_ok (P.runN j) n false false rg h2 h5
  have nx : TrI (P.runN (j + 1)) (if ((P.runN j).cycle false false).2.ft = true then 0 else n + 1) := by
    show TrI (cycV (P.runN j) false false).1 _
    rw [go_on _ h5]
    exact z.nx
  exact ⟨T.c, ⟨_, nx⟩, below_grown h3 T.g h4 h3.size, h4⟩

theorem fresh_tr (bs : List UInt8) (v3 v4 : Value) (R : Nat → Option Value) : PC.fresh 250 (trCs bs v3 v4) R = (trPC bs).rr R := rfl
theorem lk_fresh (bs : List UInt8) : Lk (trPC bs) (trSB bs) 0 := ⟨rfl, rfl, rfl, rfl, rfl, fun k hk => by omega⟩

/-- The strings of the commands. -/
def lookV : List Value := [.string ⟨#[103]⟩, .string ⟨#[109, 48, 52, 48, 48, 50, 48]⟩, .string ⟨#[115, 48, 48, 48, 49]⟩, .string ⟨#[115, 48, 48, 48, 55]⟩, .string ⟨#[105, 48, 48, 48, 49]⟩, .string ⟨#[105, 48, 48, 48, 51]⟩, .string ⟨#[109, 100, 48, 48, 48, 48, 52]⟩, .string ⟨#[116, 49]⟩, .string ⟨#[113]⟩, .string ⟨#[116, 48]⟩]
theorem lookV_get (d : Nat) (h : d < 10) : ∃ T : ByteArray, (∀ h', lookV[d]'h' = .string T) ∧ T.data.toList ∈ lookT ∧ T.size ≤ 7 := by
  rcases (show d = 0 ∨ d = 1 ∨ d = 2 ∨ d = 3 ∨ d = 4 ∨ d = 5 ∨ d = 6 ∨ d = 7 ∨ d = 8 ∨ d = 9 from by omega) with rfl | rfl | rfl | rfl | rfl | rfl | rfl | rfl | rfl | rfl
  all_goals exact ⟨_, fun _ => rfl, by decide, by decide⟩

end Go.Proofs.YtcgjliflnnklnabGreat
