/-
  Joined texts.
-/
import Derived.Test.YtcgjliflnnklnaaGreatGK
import Derived.Test.YtcgjliflnnklnaaGreatGF
namespace Go.Proofs.YtcgjliflnnklnaaGreat
open Go.RowKit

/-
  A program's run reckoned in one go.
-/
section
/-- n cycles, the pins off, and a jam just then: the registers. -/
def runR : Nat → PC → Option RegI
  | 0, s => bif s.st == 5 then some s.regs else none
  | n + 1, s => bif (s.st != 5 && !(s.st == 1 && s.md == 0)) then runR n (cycV s false false).1 else none

theorem runN_in (s : PC) (n : Nat) : (cycV s false false).1.runN n = s.runN (n + 1) := by
  induction n with
  | zero => rfl
  | succ n ih => show (cycV ((cycV s false false).1.runN n) false false).1 = _; rw [ih]; rfl

theorem runR_says : ∀ (n : Nat) (s : PC) (r : RegI), runR n s = some r → (s.runN n).regs = r ∧ (s.runN n).st = 5 ∧ ∀ k, k < n → (s.runN k).st ≠ 5 ∧ WF (s.runN k)
  | 0, s, r, h => by
    unfold runR at h
    cases e : s.st == 5 with
    | false => rw [e] at h; cases h
    | true => rw [e] at h; injection h with h; exact ⟨h, by show s.st = 5; simpa using e, fun k hk => by omega⟩
  | n + 1, s, r, h => by
    unfold runR at h
    cases e : (s.st != 5 && !(s.st == 1 && s.md == 0)) with
    | false => rw [e] at h; cases h
    | true =>
      rw [e] at h
      obtain ⟨h1, h2, h3⟩ := runR_says n _ r h
      rw [runN_in] at h1 h2
      refine ⟨h1, h2, fun k hk => ?_⟩
      cases k with
      | zero =>
        rw [Bool.and_eq_true] at e
        refine ⟨by show s.st ≠ 5; simpa using e.1, fun e1 e2 => ?_⟩
        have e3 := e.2
        have e1' : s.st = 1 := e1
        have e2' : s.md = 0 := e2
        rw [e1', e2'] at e3
        cases e3
      | succ k => rw [← runN_in]; exact h3 k (by omega)

theorem runs_R {B : Nat} {s : PC} {w0 w : World} (h : Tn B s w0 w) (most n : Nat) (hn : n < most) (hm : most ≤ 1000) (r : RegI) (hr : runR n s = some r) :
    Calls Tryz.prog 18 #[.pointer (some ⟨B, 0, none⟩), .int .i64 most] w fun e w' => e = .returned (.tuple #[r.val, .bool true]) ∧ Tn B (s.runN n) w0 w' := by
  obtain ⟨h1, h2, h3⟩ := runR_says n s r hr
  have := runs_any h most n hn hm (fun k hk => by
    by_cases e : k = n
    · subst e; intro e1; rw [h2] at e1; cases e1
    · exact (h3 k (by omega)).2) (fun k hk => (h3 k hk).1) h2
  rw [h1] at this
  exact this

/-- What holds by the kernel's reckoning of all numbers below n, one by one. -/
theorem by_range {α : Type} {f g : Nat → α} {n : Nat} (h : (List.range n).map f = (List.range n).map g) (i : Nat) (hi : i < n) : f i = g i := by
  have e := congrArg (fun l => l[i]?) h
  simpa [hi] using e

def stCode (s a f : UInt8) : List UInt8 := [162, s, 154, 169, a, 72, 169, 0, 32, 32, 4, 104, 2] ++ List.replicate 19 2 ++ [f, 8, 24, 40, 162, 7, 96]
def stPC (s a f : UInt8) (v1 v2 v3 v4 : Value) (R : Nat → Option Value) : PC := .fresh 256 (keepCs (stCode s a f) [] [] v1 v2 v3 v4) R

/-- The flags at its end. -/
def stQ (n z : Bool) (A : Int) (c : Bool) : Int :=
  let p4 := setf (nzI (nzI (nzB 36 n z) (A % 256)) 0) 1 c
  nzI (nzI (setpI (bits .or .u8 p4 16 % 256)) 7) (A % 256 % 256)
theorem stQ_says : ∀ (a : Fin 256) (n z c : Bool), (bits .and .i64 (stQ n z ((a.1 : Nat) : Int) c) 1 != 0) = c ∧ (bits .and .i64 (stQ n z ((a.1 : Nat) : Int) c) 128 != 0) = decide (127 < ((a.1 : Nat) : Int)) := by decide +kernel

def stEnd (a : UInt8) (c : Bool) (s : Nat) : Option RegI :=
  some ⟨(a.toNat : Int) % 256 % 256, 7, 0, (s : Int), stQ (bits .and .u8 (s : Int) 128 != 0) ((s : Int) == 0) a.toNat c, 1036, 41, true⟩
end

end Go.Proofs.YtcgjliflnnklnaaGreat
