/-
  Branched: a branch reckoned.
-/
import Derived.Test.YtcgjliflnnklnaaGreatGE
namespace Go.Proofs.YtcgjliflnnklnaaGreat
open Go.RowKit

/-- n cycles, none of them in the midst of nothing or behind a jam: which are fetches; PC as it is told then. -/
def runF : Nat → PC → Option (List Bool × Int)
  | 0, s => some ([], s.bpc)
  | n + 1, s => bif (s.st != 5 && !(s.st == 1 && s.md == 0)) then
      (match runF n (cycV s false false).1 with
        | some (l, p) => some ((cycV s false false).2.1.ft :: l, p)
        | none => none) else none

theorem runF_says : ∀ (n : Nat) (s : PC) (l : List Bool) (p : Int), runF n s = some (l, p) → (s.runN n).bpc = p ∧ l.length = n ∧ ∀ k, k < n → (s.runN k).st ≠ 5 ∧ WF (s.runN k) ∧ l[k]? = some (cycV (s.runN k) false false).2.1.ft
  | 0, s, l, p, h => by
    unfold runF at h
    injection h with h
    injection h with h1 h2
    subst h1
    exact ⟨h2, rfl, fun k hk => by omega⟩
  | n + 1, s, l, p, h => by
    unfold runF at h
    cases e : (s.st != 5 && !(s.st == 1 && s.md == 0)) with
    | false => rw [e] at h; cases h
    | true =>
      rw [e] at h
      cases e2 : runF n (cycV s false false).1 with
      | none => rw [e2] at h; cases h
      | some q =>
        obtain ⟨l', p'⟩ := q
        rw [e2] at h
        injection h with h
        injection h with ha hb
        obtain ⟨h1, h2, h3⟩ := runF_says n _ l' p' e2
        rw [runN_in] at h1
        subst ha hb
        refine ⟨h1, by simp [h2], fun k hk => ?_⟩
        cases k with
        | zero =>
          rw [Bool.and_eq_true] at e
          refine ⟨by show s.st ≠ 5; simpa using e.1, fun e1 e2' => ?_, rfl⟩
          have e3 := e.2
          have e1' : s.st = 1 := e1
          have e2'' : s.md = 0 := e2'
          rw [e1', e2''] at e3
          cases e3
        | succ k => rw [← runN_in]; exact h3 k (by omega)

def brCode (op d : UInt8) : List UInt8 := List.replicate 150 2 ++ [40, op, d] ++ List.replicate 147 2
def brCs (op d p : UInt8) (v1 v2 v3 : Value) : List Chn := [⟨1024, v1, brCode op d⟩, ⟨510, v2, [p]⟩, ⟨65532, v3, [150, 4]⟩]
def brPC (op d p : UInt8) (v1 v2 v3 : Value) (R : Nat → Option Value) : PC := .fresh 0 (brCs op d p v1 v2 v3) R
def brOps : List UInt8 := [144, 176, 208, 240, 16, 48, 80, 112]
def brP (set : Bool) : UInt8 := if set then 195 else 0
/-- How many cycles; where it goes. -/
def brWant (taken : Bool) (d : Nat) : Int := if taken then 1177 + (if d < 128 then (d : Int) else (d : Int) - 256) else 1177
def brN (taken : Bool) (d : Nat) : Nat := if taken then (if brWant taken d / 256 = 4 then 3 else 4) else 2
def brEnd (taken : Bool) (d : Nat) : Option (List Bool × Int) :=
  some ([true, false, false, false, true] ++ List.replicate (brN taken d - 1) false ++ [true], brWant taken d)

theorem br_no (i : Nat) (hi : i < 8) (d : UInt8) (v1 v2 v3 : Value) (R : Nat → Option Value) : runF 7 (brPC (brOps.getD i 0) d (brP (i % 2 == 0)) v1 v2 v3 R) = some ([true, false, false, false, true, false, true], 1177) := by
  rcases (show i = 0 ∨ i = 1 ∨ i = 2 ∨ i = 3 ∨ i = 4 ∨ i = 5 ∨ i = 6 ∨ i = 7 from by omega) with rfl | rfl | rfl | rfl | rfl | rfl | rfl | rfl <;> kernel_rfl

end Go.Proofs.YtcgjliflnnklnaaGreat
