/-
  Shifted: what five small programs do with a byte.
-/
import Derived.Test.YtcgjliflnnklnaaGreatGE
import Derived.Test.YtcgjliflnnklnaaGreatGA
namespace Go.Proofs.YtcgjliflnnklnaaGreat
open Go.RowKit

/-- ASL, ROR, LSR, ROL of a byte, one behind the other (each byte cut as it is taken, if it comes from memory). -/
def shAcc (p b : Int) : Int × Int :=
  let z : PC := { zeroPC (fun _ => none) with data := b, p := p }
  let t1 := z.shl 0
  let t2 := t1.shr (bits .and .u8 t1.p 1)
  let t3 := t2.shr 0
  let t4 := t3.shl (bits .and .u8 t3.p 1)
  (t4.data, t4.p)
def shMem (p b : Int) : Int × Int :=
  let z : PC := { zeroPC (fun _ => none) with data := b % 256, p := p }
  let t1 := z.shl 0
  let t1' : PC := { t1 with data := t1.data % 256 }
  let t2 := t1'.shr (bits .and .u8 t1'.p 1)
  let t2' : PC := { t2 with data := t2.data % 256 }
  let t3 := t2'.shr 0
  let t3' : PC := { t3 with data := t3.data % 256 }
  let t4 := t3'.shl (bits .and .u8 t3'.p 1)
  (t4.data, t4.p)

def shP (c z : Bool) : Int := nzB (setf 36 1 c) false z
theorem shAcc_says : ∀ (b : Fin 256) (c z : Bool), (shAcc (nzI (shP c z) (((b.1 : Nat) : Int) % 256)) (((b.1 : Nat) : Int) % 256)).1 = ((b.1 : Nat) : Int) ∧ bits .and .i64 (shAcc (nzI (shP c z) (((b.1 : Nat) : Int) % 256)) (((b.1 : Nat) : Int) % 256)).2 1 = 0 := by decide +kernel
theorem shMem_says : ∀ (b : Fin 256) (c z : Bool), (shMem (shP c z) ((b.1 : Nat) : Int)).1 = ((b.1 : Nat) : Int) ∧ bits .and .i64 (shMem (shP c z) ((b.1 : Nat) : Int)).2 1 = 0 := by decide +kernel

def shCode (c : Bool) (k b : UInt8) (way : Nat) : List UInt8 :=
  [flagB c, 162, k] ++ (match way with
    | 0 => [169, b, 10, 106, 74, 42]
    | 1 => [6, 128, 102, 128, 70, 128, 38, 128]
    | 2 => [22, 128, 118, 128, 86, 128, 54, 128]
    | 3 => [14, 0, 3, 110, 0, 3, 78, 0, 3, 46, 0, 3]
    | _ => [30, 0, 3, 126, 0, 3, 94, 0, 3, 62, 0, 3]) ++ [2]
def shPC (c : Bool) (k b : UInt8) (way : Nat) (v1 v2 v3 v4 : Value) (R : Nat → Option Value) : PC := .fresh 256 (keepCs (shCode c k b way) (List.replicate 32 b) (List.replicate 32 b) v1 v2 v3 v4) R
def shN (way : Nat) : Nat := match way with
  | 0 => 15 | 1 => 25 | 2 => 29 | 3 => 29 | _ => 33
def shAt (way k : Nat) : Int := match way with
  | 1 => 128 | 2 => 128 + k | 3 => 768 | _ => 768 + k

def shEnd (way : Nat) (c : Bool) (b : UInt8) (k : Nat) : Option RegI × Int :=
  match way with
  | 0 => (some ⟨(shAcc (nzI (shP c ((k : Int) == 0)) ((b.toNat : Int) % 256)) ((b.toNat : Int) % 256)).1, (k : Int), 0, 253, (shAcc (nzI (shP c ((k : Int) == 0)) ((b.toNat : Int) % 256)) ((b.toNat : Int) % 256)).2, 1033, 15, true⟩, 0)
  | 1 => (some ⟨0, (k : Int), 0, 253, (shMem (shP c ((k : Int) == 0)) (b.toNat : Int)).2, 1035, 25, true⟩, (shMem (shP c ((k : Int) == 0)) (b.toNat : Int)).1)
  | 2 => (some ⟨0, (k : Int), 0, 253, (shMem (shP c ((k : Int) == 0)) (b.toNat : Int)).2, 1035, 29, true⟩, (shMem (shP c ((k : Int) == 0)) (b.toNat : Int)).1)
  | 3 => (some ⟨0, (k : Int), 0, 253, (shMem (shP c ((k : Int) == 0)) (b.toNat : Int)).2, 1039, 29, true⟩, (shMem (shP c ((k : Int) == 0)) (b.toNat : Int)).1)
  | _ => (some ⟨0, (k : Int), 0, 253, (shMem (shP c ((k : Int) == 0)) (b.toNat : Int)).2, 1039, 33, true⟩, (shMem (shP c ((k : Int) == 0)) (b.toNat : Int)).1)
def shRun (way : Nat) (c : Bool) (b : UInt8) (v1 v2 v3 v4 : Value) (R : Nat → Option Value) (k : Nat) : Option RegI × Int :=
  match way with
  | 0 => (runR 15 (shPC c (UInt8.ofNat k) b 0 v1 v2 v3 v4 R), 0)
  | n + 1 => (runR (shN (n + 1)) (shPC c (UInt8.ofNat k) b (n + 1) v1 v2 v3 v4 R), ((shPC c (UInt8.ofNat k) b (n + 1) v1 v2 v3 v4 R).runN (shN (n + 1))).peek (shAt (n + 1) k))

theorem sh_all (way : Nat) (hw : way < 5) (c : Bool) (b : UInt8) (v1 v2 v3 v4 : Value) (R : Nat → Option Value) : (List.range 16).map (shRun way c b v1 v2 v3 v4 R) = (List.range 16).map (shEnd way c b) := by
  rcases (show way = 0 ∨ way = 1 ∨ way = 2 ∨ way = 3 ∨ way = 4 from by omega) with rfl | rfl | rfl | rfl | rfl <;> cases c <;> kernel_rfl

end Go.Proofs.YtcgjliflnnklnaaGreat
