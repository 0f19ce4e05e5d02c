/-
  Joined texts.
-/
import Derived.Test.YtcgjliflnnklnaaGreatCp0
namespace Go.Proofs.YtcgjliflnnklnaaGreat
open Go.RowKit

/-
  The document's computer, told as functions over plain data, in the words of its own text.
-/
section
structure RG where
  A : Int
  X : Int
  Y : Int
  S : Int
  P : Int
  PC : Int
  cyc : Int
  jam : Bool

structure Act where
  addr : Int
  wr : Bool
  data : Int
  ft : Bool

def Act.nil : Act := ⟨0, false, 0, false⟩

abbrev BA := ByteArray
def b3 (a b c : UInt8) : BA := ⟨#[a, b, c]⟩
def b2 (a b : UInt8) : BA := ⟨#[a, b]⟩

def i64and (a b : Int) : Int := bits .and .i64 a b
def i64or (a b : Int) : Int := bits .or .i64 a b
def i64xor (a b : Int) : Int := bits .xor .i64 a b

def isW (op : BA) : Bool := op == (b3 83 84 65) || op == (b3 83 84 88) || op == (b3 83 84 89)
def isC (op : BA) : Bool := op == (b3 65 83 76) || op == (b3 76 83 82) || op == (b3 82 79 76) || op == (b3 82 79 82) || op == (b3 73 78 67) || op == (b3 68 69 67)
def kindR (op : BA) : Int := if isW op = true then 119 else if isC op = true then 99 else 114

def rdR (a : Int) : Act × Bool := (⟨a % 65536, false, 0, false⟩, true)
def wrR (a d : Int) : Act × Bool := (⟨a % 65536, true, d, false⟩, true)
def dnR : Act × Bool := (Act.nil, false)

def hd (h : List Int) (i : Nat) : Int := h.getD i 0

def indexedR (op : BA) (lo hi index n at_ : Int) : Int × Int × Act × Bool :=
  let wrong := (lo + index) % 256 + 256 * hi
  let right := (lo + index + 256 * hi) % 65536
  if kindR op = 114 ∧ wrong = right then (right, at_, Act.nil, true)
  else if n = at_ then (0, 0, ⟨wrong, false, 0, false⟩, false)
  else (right, at_ + 1, Act.nil, true)

def placeR (op md : BA) (r : RG) (h : List Int) : Int × Int × Act × Bool :=
  let n : Int := h.length
  let index := if md = (b3 122 112 121) ∨ md = (b3 97 98 121) ∨ md = (b3 105 122 121) then r.Y else r.X
  if n = 1 ∨ n = 2 ∧ (md = (b3 97 98 115) ∨ md = (b3 97 98 120) ∨ md = (b3 97 98 121)) then (0, 0, (rdR (r.PC + 1 + n - 1)).1, false)
  else if md = (b2 122 112) then (hd h 1, 2, Act.nil, true)
  else if md = (b3 122 112 120) ∨ md = (b3 122 112 121) then
    if n = 2 then (0, 0, ⟨hd h 1, false, 0, false⟩, false) else ((hd h 1 + index) % 256, 3, Act.nil, true)
  else if md = (b3 97 98 115) then (hd h 1 + 256 * hd h 2, 3, Act.nil, true)
  else if md = (b3 97 98 120) ∨ md = (b3 97 98 121) then indexedR op (hd h 1) (hd h 2) index n 3
  else if md = (b3 105 122 120) then
    if n < 5 then (0, 0, ⟨(if n = 2 then hd h 1 else if n = 3 then hd h 1 + r.X else hd h 1 + r.X + 1) % 256, false, 0, false⟩, false)
    else (hd h 3 + 256 * hd h 4, 5, Act.nil, true)
  else if n < 4 then (0, 0, ⟨(hd h 1 + n - 2) % 256, false, 0, false⟩, false)
  else indexedR op (hd h 2) (hd h 3) index n 4

def nzR (p b : Int) : Int :=
  let p1 := i64and p 125
  let p2 := if 127 < b then i64or p1 128 else p1
  if b = 0 then i64or p2 2 else p2
def carryR (p : Int) (c : Bool) : Int := if c = true then i64or p 1 else i64and p 254

def changedR (op : BA) (b p : Int) : Int × Int :=
  if op = (b3 65 83 76) then (b * 2 % 256, nzR (carryR p (decide (127 < b))) (b * 2 % 256))
  else if op = (b3 82 79 76) then (b * 2 % 256 + i64and p 1, nzR (carryR p (decide (127 < b))) (b * 2 % 256 + i64and p 1))
  else if op = (b3 76 83 82) then (b / 2, nzR (carryR p (b % 2 == 1)) (b / 2))
  else if op = (b3 82 79 82) then (b / 2 + 128 * i64and p 1, nzR (carryR p (b % 2 == 1)) (b / 2 + 128 * i64and p 1))
  else if op = (b3 73 78 67) then ((b + 1) % 256, nzR p ((b + 1) % 256))
  else if op = (b3 68 69 67) then ((b - 1) % 256, nzR p ((b - 1) % 256))
  else (b, nzR p b)

def usesR (op : BA) (r : RG) (h : List Int) (a from_ : Int) : Act × Bool :=
  let n : Int := h.length - from_
  if kindR op = 114 then (if n = 0 then rdR a else dnR)
  else if kindR op = 119 then (if n = 0 then wrR a (if op = (b3 83 84 65) then r.A else if op = (b3 83 84 88) then r.X else r.Y) else dnR)
  else if n = 0 then rdR a
  else if n = 1 then wrR a (hd h from_.toNat)
  else if n = 2 then wrR a (changedR op (hd h from_.toNat) r.P).1
  else dnR

def entersR (op : BA) (r : RG) (n : Int) : Act × Bool :=
  let back := if op = (b3 66 82 75) then (r.PC + 2) % 65536 else r.PC
  let p := if op = (b3 66 82 75) then i64or r.P 16 else r.P
  let vector := if op = (b3 78 77 73) then 65530 else 65534
  if n = 1 then (if op = (b3 66 82 75) then rdR (r.PC + 1) else rdR r.PC)
  else if n = 2 then wrR (256 + r.S) (back / 256)
  else if n = 3 then wrR (256 + (r.S - 1) % 256) (back % 256)
  else if n = 4 then wrR (256 + (r.S - 2) % 256) p
  else if n = 5 then rdR vector
  else if n = 6 then rdR (vector + 1)
  else dnR

def pullsR (op : BA) (r : RG) (h : List Int) : Act × Bool :=
  let n : Int := h.length
  let most := if op = (b3 82 84 83) then 5 else if op = (b3 82 84 73) then 6 else 4
  if n = 1 then rdR (r.PC + 1)
  else if n < most then rdR (256 + (r.S + n - 2) % 256)
  else if n = 5 ∧ op = (b3 82 84 83) then rdR (hd h 3 + 256 * hd h 4)
  else dnR

def jumpsR (md : BA) (r : RG) (h : List Int) : Act × Bool :=
  let n : Int := h.length
  if n < 3 then rdR (r.PC + n)
  else if n = 3 ∧ md = (b3 105 110 100) then rdR (hd h 1 + 256 * hd h 2)
  else if n = 4 then rdR ((hd h 1 + 1) % 256 + 256 * hd h 2)
  else dnR

def takenR (op : BA) (p : Int) : Bool :=
  if op = (b3 66 67 67) then (i64and p 1 != 0) == false
  else if op = (b3 66 67 83) then (i64and p 1 != 0) == true
  else if op = (b3 66 78 69) then (i64and p 2 != 0) == false
  else if op = (b3 66 69 81) then (i64and p 2 != 0) == true
  else if op = (b3 66 80 76) then (i64and p 128 != 0) == false
  else if op = (b3 66 77 73) then (i64and p 128 != 0) == true
  else if op = (b3 66 86 67) then (i64and p 64 != 0) == false
  else if op = (b3 66 86 83) then (i64and p 64 != 0) == true
  else false

def goalR (r : RG) (d : Int) : Int := (r.PC + 2 + (if 127 < d then d - 256 else d)) % 65536

def branchesR (op : BA) (r : RG) (h : List Int) : Act × Bool :=
  let n : Int := h.length
  let behind := (r.PC + 2) % 65536
  if n = 1 then rdR (r.PC + 1)
  else if n = 2 ∧ takenR op r.P = true then rdR behind
  else if n = 3 then
    (if goalR r (hd h 1) / 256 ≠ behind / 256 then rdR (behind / 256 * 256 + goalR r (hd h 1) % 256) else dnR)
  else dnR

def nextR (op md : BA) (r : RG) (h : List Int) : Act × Bool :=
  let n : Int := h.length
  if op = (b3 78 77 73) ∨ op = (b3 73 82 81) ∨ op = (b3 66 82 75) then entersR op r n
  else if op = (b3 74 83 82) then
    (if n = 1 then rdR (r.PC + 1)
    else if n = 2 then rdR (256 + r.S)
    else if n = 3 then wrR (256 + r.S) ((r.PC + 1 + 1) % 65536 / 256)
    else if n = 4 then wrR (256 + (r.S - 1) % 256) ((r.PC + 1 + 1) % 256)
    else if n = 5 then rdR (r.PC + 1 + 1)
    else dnR)
  else if op = (b3 82 84 83) ∨ op = (b3 82 84 73) ∨ op = (b3 80 76 65) ∨ op = (b3 80 76 80) then pullsR op r h
  else if op = (b3 80 72 65) ∧ n = 2 then wrR (256 + r.S) r.A
  else if op = (b3 80 72 80) ∧ n = 2 then wrR (256 + r.S) (i64or r.P 16)
  else if op = (b3 74 77 80) then jumpsR md r h
  else if md = (b3 105 109 112) ∨ md = (b3 97 99 99) ∨ md = (b3 105 109 109) then (if n = 1 then rdR (r.PC + 1) else dnR)
  else if md = (b3 114 101 108) then branchesR op r h
  else
    let q := placeR op md r h
    if q.2.2.2 = false then (q.2.2.1, true) else usesR op r h q.1 q.2.1

def addedR (r : RG) (m : Int) : RG :=
  let sum := r.A + m + i64and r.P 1
  let b := sum % 256
  let p := i64and (carryR (nzR r.P b) (decide (255 < sum))) 191
  let p2 := if (decide (127 < r.A) == decide (127 < m)) = true ∧ (decide (127 < b) != decide (127 < m)) = true then i64or p 64 else p
  { r with A := b, P := p2 }
def comparedR (r : RG) (a m : Int) : RG := { r with P := carryR (nzR r.P ((a - m) % 256)) (decide (m ≤ a)) }

def loadsR (op : BA) (r : RG) (m : Int) : RG :=
  if op = (b3 76 68 65) then { r with A := m, P := nzR r.P m }
  else if op = (b3 76 68 88) then { r with X := m, P := nzR r.P m }
  else if op = (b3 76 68 89) then { r with Y := m, P := nzR r.P m }
  else if op = (b3 65 78 68) then { r with A := i64and r.A m, P := nzR r.P (i64and r.A m) }
  else if op = (b3 79 82 65) then { r with A := i64or r.A m, P := nzR r.P (i64or r.A m) }
  else if op = (b3 69 79 82) then { r with A := i64xor r.A m, P := nzR r.P (i64xor r.A m) }
  else if op = (b3 65 68 67) then addedR r m
  else if op = (b3 83 66 67) then addedR r (255 - m)
  else if op = (b3 67 77 80) then comparedR r r.A m
  else if op = (b3 67 80 88) then comparedR r r.X m
  else if op = (b3 67 80 89) then comparedR r r.Y m
  else if op = (b3 66 73 84) then { r with P := i64or (i64and (nzR r.P (i64and r.A m)) 63) (i64and m 192) }
  else r

def plainR (op : BA) (r : RG) : RG :=
  if op = (b3 84 65 88) then { r with X := r.A, P := nzR r.P r.A }
  else if op = (b3 84 65 89) then { r with Y := r.A, P := nzR r.P r.A }
  else if op = (b3 84 88 65) then { r with A := r.X, P := nzR r.P r.X }
  else if op = (b3 84 89 65) then { r with A := r.Y, P := nzR r.P r.Y }
  else if op = (b3 84 83 88) then { r with X := r.S, P := nzR r.P r.S }
  else if op = (b3 84 88 83) then { r with S := r.X }
  else if op = (b3 73 78 88) then { r with X := (r.X + 1) % 256, P := nzR r.P ((r.X + 1) % 256) }
  else if op = (b3 73 78 89) then { r with Y := (r.Y + 1) % 256, P := nzR r.P ((r.Y + 1) % 256) }
  else if op = (b3 68 69 88) then { r with X := (r.X - 1) % 256, P := nzR r.P ((r.X - 1) % 256) }
  else if op = (b3 68 69 89) then { r with Y := (r.Y - 1) % 256, P := nzR r.P ((r.Y - 1) % 256) }
  else if op = (b3 67 76 67) then { r with P := i64and r.P 254 }
  else if op = (b3 83 69 67) then { r with P := i64or r.P 1 }
  else if op = (b3 67 76 73) then { r with P := i64and r.P 251 }
  else if op = (b3 83 69 73) then { r with P := i64or r.P 4 }
  else if op = (b3 67 76 86) then { r with P := i64and r.P 191 }
  else if op = (b3 67 76 68) then { r with P := i64and r.P 247 }
  else if op = (b3 83 69 68) then { r with P := i64or r.P 8 }
  else if op = (b3 80 72 65) ∨ op = (b3 80 72 80) then { r with S := (r.S - 1) % 256 }
  else r

def flowsR (op : BA) (r : RG) (h : List Int) : RG :=
  if op = (b3 78 77 73) ∨ op = (b3 73 82 81) ∨ op = (b3 66 82 75) then { r with S := (r.S - 3) % 256, P := i64or r.P 4, PC := hd h 5 + 256 * hd h 6 }
  else if op = (b3 74 83 82) then { r with S := (r.S - 2) % 256, PC := hd h 1 + 256 * hd h 5 }
  else if op = (b3 82 84 83) then { r with S := (r.S + 2) % 256, PC := (hd h 3 + 256 * hd h 4 + 1) % 65536 }
  else if op = (b3 82 84 73) then { r with S := (r.S + 3) % 256, P := i64or (i64and (hd h 3) 207) 32, PC := hd h 4 + 256 * hd h 5 }
  else if op = (b3 80 76 65) then { r with S := (r.S + 1) % 256, A := hd h 3, P := nzR r.P (hd h 3) }
  else if op = (b3 80 76 80) then { r with S := (r.S + 1) % 256, P := i64or (i64and (hd h 3) 207) 32 }
  else if op = (b3 74 77 80) then { r with PC := hd h (h.length - 2) + 256 * hd h (h.length - 1) }
  else r

def sizeR (md : BA) : Int :=
  if md = (b3 105 109 109) ∨ md = (b2 122 112) ∨ md = (b3 122 112 120) ∨ md = (b3 122 112 121) ∨ md = (b3 105 122 120) ∨ md = (b3 105 122 121) ∨ md = (b3 114 101 108) then 2
  else if md = (b3 97 98 115) ∨ md = (b3 97 98 120) ∨ md = (b3 97 98 121) then 3 else 1

def farR (op : BA) : Bool := op == (b3 78 77 73) || op == (b3 73 82 81) || op == (b3 66 82 75) || op == (b3 74 83 82) || op == (b3 82 84 83) || op == (b3 82 84 73) || op == (b3 74 77 80)

def doneR (op md : BA) (r : RG) (h : List Int) : RG :=
  if farR op = true then flowsR op r h
  else
    let r2 : RG := { r with PC := if md = (b3 114 101 108) ∧ takenR op r.P = true then goalR r (hd h 1) else (r.PC + sizeR md) % 65536 }
    if md = (b3 105 109 112) then flowsR op (plainR op r2) h
    else if md = (b3 97 99 99) then { r2 with A := (changedR op r2.A r2.P).1, P := (changedR op r2.A r2.P).2 }
    else if md = (b3 114 101 108) ∨ kindR op = 119 then r2
    else if kindR op = 99 then { r2 with P := (changedR op (hd h (h.length - 3)) r2.P).2 }
    else loadsR op r2 (hd h (h.length - 1))

/-- The document's table. -/
def refTable : List (Nat × BA × BA) := [(0, (b3 66 82 75), (b3 105 109 112)), (1, (b3 79 82 65), (b3 105 122 120)), (5, (b3 79 82 65), (b2 122 112)), (6, (b3 65 83 76), (b2 122 112)), (8, (b3 80 72 80), (b3 105 109 112)), (9, (b3 79 82 65), (b3 105 109 109)), (10, (b3 65 83 76), (b3 97 99 99)), (13, (b3 79 82 65), (b3 97 98 115)), (14, (b3 65 83 76), (b3 97 98 115)), (16, (b3 66 80 76), (b3 114 101 108)), (17, (b3 79 82 65), (b3 105 122 121)), (21, (b3 79 82 65), (b3 122 112 120)), (22, (b3 65 83 76), (b3 122 112 120)), (24, (b3 67 76 67), (b3 105 109 112)), (25, (b3 79 82 65), (b3 97 98 121)), (29, (b3 79 82 65), (b3 97 98 120)), (30, (b3 65 83 76), (b3 97 98 120)), (32, (b3 74 83 82), (b3 97 98 115)), (33, (b3 65 78 68), (b3 105 122 120)), (36, (b3 66 73 84), (b2 122 112)), (37, (b3 65 78 68), (b2 122 112)), (38, (b3 82 79 76), (b2 122 112)), (40, (b3 80 76 80), (b3 105 109 112)), (41, (b3 65 78 68), (b3 105 109 109)), (42, (b3 82 79 76), (b3 97 99 99)), (44, (b3 66 73 84), (b3 97 98 115)), (45, (b3 65 78 68), (b3 97 98 115)), (46, (b3 82 79 76), (b3 97 98 115)), (48, (b3 66 77 73), (b3 114 101 108)), (49, (b3 65 78 68), (b3 105 122 121)), (53, (b3 65 78 68), (b3 122 112 120)), (54, (b3 82 79 76), (b3 122 112 120)), (56, (b3 83 69 67), (b3 105 109 112)), (57, (b3 65 78 68), (b3 97 98 121)), (61, (b3 65 78 68), (b3 97 98 120)), (62, (b3 82 79 76), (b3 97 98 120)), (64, (b3 82 84 73), (b3 105 109 112)), (65, (b3 69 79 82), (b3 105 122 120)), (69, (b3 69 79 82), (b2 122 112)), (70, (b3 76 83 82), (b2 122 112)), (72, (b3 80 72 65), (b3 105 109 112)), (73, (b3 69 79 82), (b3 105 109 109)), (74, (b3 76 83 82), (b3 97 99 99)), (76, (b3 74 77 80), (b3 97 98 115)), (77, (b3 69 79 82), (b3 97 98 115)), (78, (b3 76 83 82), (b3 97 98 115)), (80, (b3 66 86 67), (b3 114 101 108)), (81, (b3 69 79 82), (b3 105 122 121)), (85, (b3 69 79 82), (b3 122 112 120)), (86, (b3 76 83 82), (b3 122 112 120)), (88, (b3 67 76 73), (b3 105 109 112)), (89, (b3 69 79 82), (b3 97 98 121)), (93, (b3 69 79 82), (b3 97 98 120)), (94, (b3 76 83 82), (b3 97 98 120)), (96, (b3 82 84 83), (b3 105 109 112)), (97, (b3 65 68 67), (b3 105 122 120)), (101, (b3 65 68 67), (b2 122 112)), (102, (b3 82 79 82), (b2 122 112)), (104, (b3 80 76 65), (b3 105 109 112)), (105, (b3 65 68 67), (b3 105 109 109)), (106, (b3 82 79 82), (b3 97 99 99)), (108, (b3 74 77 80), (b3 105 110 100)), (109, (b3 65 68 67), (b3 97 98 115)), (110, (b3 82 79 82), (b3 97 98 115)), (112, (b3 66 86 83), (b3 114 101 108)), (113, (b3 65 68 67), (b3 105 122 121)), (117, (b3 65 68 67), (b3 122 112 120)), (118, (b3 82 79 82), (b3 122 112 120)), (120, (b3 83 69 73), (b3 105 109 112)), (121, (b3 65 68 67), (b3 97 98 121)), (125, (b3 65 68 67), (b3 97 98 120)), (126, (b3 82 79 82), (b3 97 98 120)), (129, (b3 83 84 65), (b3 105 122 120)), (132, (b3 83 84 89), (b2 122 112)), (133, (b3 83 84 65), (b2 122 112)), (134, (b3 83 84 88), (b2 122 112)), (136, (b3 68 69 89), (b3 105 109 112)), (138, (b3 84 88 65), (b3 105 109 112)), (140, (b3 83 84 89), (b3 97 98 115)), (141, (b3 83 84 65), (b3 97 98 115)), (142, (b3 83 84 88), (b3 97 98 115)), (144, (b3 66 67 67), (b3 114 101 108)), (145, (b3 83 84 65), (b3 105 122 121)), (148, (b3 83 84 89), (b3 122 112 120)), (149, (b3 83 84 65), (b3 122 112 120)), (150, (b3 83 84 88), (b3 122 112 121)), (152, (b3 84 89 65), (b3 105 109 112)), (153, (b3 83 84 65), (b3 97 98 121)), (154, (b3 84 88 83), (b3 105 109 112)), (157, (b3 83 84 65), (b3 97 98 120)), (160, (b3 76 68 89), (b3 105 109 109)), (161, (b3 76 68 65), (b3 105 122 120)), (162, (b3 76 68 88), (b3 105 109 109)), (164, (b3 76 68 89), (b2 122 112)), (165, (b3 76 68 65), (b2 122 112)), (166, (b3 76 68 88), (b2 122 112)), (168, (b3 84 65 89), (b3 105 109 112)), (169, (b3 76 68 65), (b3 105 109 109)), (170, (b3 84 65 88), (b3 105 109 112)), (172, (b3 76 68 89), (b3 97 98 115)), (173, (b3 76 68 65), (b3 97 98 115)), (174, (b3 76 68 88), (b3 97 98 115)), (176, (b3 66 67 83), (b3 114 101 108)), (177, (b3 76 68 65), (b3 105 122 121)), (180, (b3 76 68 89), (b3 122 112 120)), (181, (b3 76 68 65), (b3 122 112 120)), (182, (b3 76 68 88), (b3 122 112 121)), (184, (b3 67 76 86), (b3 105 109 112)), (185, (b3 76 68 65), (b3 97 98 121)), (186, (b3 84 83 88), (b3 105 109 112)), (188, (b3 76 68 89), (b3 97 98 120)), (189, (b3 76 68 65), (b3 97 98 120)), (190, (b3 76 68 88), (b3 97 98 121)), (192, (b3 67 80 89), (b3 105 109 109)), (193, (b3 67 77 80), (b3 105 122 120)), (196, (b3 67 80 89), (b2 122 112)), (197, (b3 67 77 80), (b2 122 112)), (198, (b3 68 69 67), (b2 122 112)), (200, (b3 73 78 89), (b3 105 109 112)), (201, (b3 67 77 80), (b3 105 109 109)), (202, (b3 68 69 88), (b3 105 109 112)), (204, (b3 67 80 89), (b3 97 98 115)), (205, (b3 67 77 80), (b3 97 98 115)), (206, (b3 68 69 67), (b3 97 98 115)), (208, (b3 66 78 69), (b3 114 101 108)), (209, (b3 67 77 80), (b3 105 122 121)), (213, (b3 67 77 80), (b3 122 112 120)), (214, (b3 68 69 67), (b3 122 112 120)), (216, (b3 67 76 68), (b3 105 109 112)), (217, (b3 67 77 80), (b3 97 98 121)), (221, (b3 67 77 80), (b3 97 98 120)), (222, (b3 68 69 67), (b3 97 98 120)), (224, (b3 67 80 88), (b3 105 109 109)), (225, (b3 83 66 67), (b3 105 122 120)), (228, (b3 67 80 88), (b2 122 112)), (229, (b3 83 66 67), (b2 122 112)), (230, (b3 73 78 67), (b2 122 112)), (232, (b3 73 78 88), (b3 105 109 112)), (233, (b3 83 66 67), (b3 105 109 109)), (234, (b3 78 79 80), (b3 105 109 112)), (236, (b3 67 80 88), (b3 97 98 115)), (237, (b3 83 66 67), (b3 97 98 115)), (238, (b3 73 78 67), (b3 97 98 115)), (240, (b3 66 69 81), (b3 114 101 108)), (241, (b3 83 66 67), (b3 105 122 121)), (245, (b3 83 66 67), (b3 122 112 120)), (246, (b3 73 78 67), (b3 122 112 120)), (248, (b3 83 69 68), (b3 105 109 112)), (249, (b3 83 66 67), (b3 97 98 121)), (253, (b3 83 66 67), (b3 97 98 120)), (254, (b3 73 78 67), (b3 97 98 120))]
def codeR (b : Int) : BA × BA := match refTable.find? (fun e => (e.1 : Int) == b) with
  | some e => e.2
  | none => (⟨#[]⟩, ⟨#[]⟩)

structure RS where
  mem : Nat → Int
  rom : Int
  r : RG
  cnt : Int
  calls : Bool
  nmi : Bool
  due : Bool
  op : BA
  md : BA
  h : List Int

def RS.peek (t : RS) (a : Int) : Int := if a = 53248 then t.cnt else if a = 53249 then (if t.calls = true then 128 else 0) else t.mem a.toNat

def RS.bus (t : RS) (a : Act) : RS × BusI :=
  if a.wr = false then
    (if a.addr = 53249 then { t with calls := false } else t, ⟨a.addr, t.peek a.addr, false, a.ft⟩)
  else if a.addr = 53248 then ({ t with cnt := a.data }, ⟨a.addr, a.data, true, a.ft⟩)
  else if a.addr < t.rom ∧ a.addr ≠ 53249 then ({ t with mem := mput t.mem a.addr.toNat a.data }, ⟨a.addr, a.data, true, a.ft⟩)
  else (t, ⟨a.addr, a.data, true, a.ft⟩)

def RS.counts (t : RS) (b : BusI) : RS :=
  if b.wr = true ∧ b.addr = 53248 ∨ t.cnt = 0 then t
  else if t.cnt - 1 = 0 then { t with cnt := t.cnt - 1, calls := true } else { t with cnt := t.cnt - 1 }

def RS.begins (t : RS) (b : Int) (irq : Bool) : RS :=
  if t.due = true then { t with due := false, op := (b3 78 77 73), md := (b3 115 101 113) }
  else if (irq || t.calls) = true ∧ i64and t.r.P 4 = 0 then { t with op := (b3 73 82 81), md := (b3 115 101 113) }
  else { t with op := (codeR b).1, md := (codeR b).2, r := { t.r with jam := (codeR b).1 == ⟨#[]⟩ } }

def RS.cycle (t : RS) (nmi irq : Bool) : RS × BusI :=
  let t1 : RS := { t with due := t.due || (nmi && !t.nmi), nmi := nmi, r := { t.r with cyc := IntKind.wrap .i64 (t.r.cyc + 1) } }
  let a := if t1.h.length > 0 then (nextR t1.op t1.md t1.r t1.h).1 else ⟨t1.r.PC, false, 0, true⟩
  let q := t1.bus a
  let t2 := if t1.h.length = 0 then q.1.begins q.2.data irq else q.1
  let t3 := t2.counts q.2
  if t3.r.jam = true then (t3, q.2)
  else
    let h := t3.h ++ [q.2.data]
    if (nextR t3.op t3.md t3.r h).2 = true then ({ t3 with h := h }, q.2)
    else ({ t3 with h := [], r := doneR t3.op t3.md t3.r h }, q.2)
end

/-
  Flags: the program's and the document's, alike.
-/
section
theorem all_byte {p : Int → Prop} (h : ∀ n : Fin 256, p ((n.val : Nat) : Int)) (c : Int) (h0 : 0 ≤ c) (h1 : c < 256) : p c := by
  have := h ⟨c.toNat, by omega⟩
  simpa [Int.toNat_of_nonneg h0] using this

def nzB (p : Int) (n z : Bool) : Int := setf (setf p 128 n) 2 z
def nzRB (p : Int) (n z : Bool) : Int :=
  let p1 := i64and p 125
  let p2 := if n = true then i64or p1 128 else p1
  if z = true then i64or p2 2 else p2

theorem top_bit (b : Int) (h0 : 0 ≤ b) (h1 : b < 256) : (bits .and .u8 b 128 != 0) = decide (127 < b) := by
  revert b
  intro b h0 h1
  exact all_byte (p := fun b => (bits .and .u8 b 128 != 0) = decide (127 < b)) (by decide +kernel) b h0 h1
theorem low_bit (b : Int) (h0 : 0 ≤ b) (h1 : b < 256) : (bits .and .u8 b 1 != 0) = (b % 2 == 1) :=
  all_byte (p := fun b => (bits .and .u8 b 1 != 0) = (b % 2 == 1)) (by decide +kernel) b h0 h1

theorem nz_alike (p : Int) (h0 : 0 ≤ p) (h1 : p < 256) (n z : Bool) : nzB p n z = nzRB p n z :=
  all_byte (p := fun p => ∀ n z, nzB p n z = nzRB p n z) (by decide +kernel) p h0 h1 n z

theorem nz_eq (p b : Int) (h0 : 0 ≤ p) (h1 : p < 256) (b0 : 0 ≤ b) (b1 : b < 256) : nzI p b = nzR p b := by
  have e1 : nzI p b = nzB p (decide (127 < b)) (b == 0) := by unfold nzI nzB; rw [top_bit b b0 b1]
  have e2 : nzR p b = nzRB p (decide (127 < b)) (b == 0) := by unfold nzR nzRB; simp only [decide_eq_true_eq, beq_iff_eq]
  rw [e1, e2, nz_alike p h0 h1]

theorem carry_eq (p : Int) (c : Bool) (h0 : 0 ≤ p) (h1 : p < 256) : setf p 1 c = carryR p c :=
  all_byte (p := fun p => ∀ c, setf p 1 c = carryR p c) (by decide +kernel) p h0 h1 c

theorem carryR_r (p : Int) (c : Bool) (h0 : 0 ≤ p) (h1 : p < 256) : 0 ≤ carryR p c ∧ carryR p c < 256 :=
  all_byte (p := fun p => ∀ c, 0 ≤ carryR p c ∧ carryR p c < 256) (by decide +kernel) p h0 h1 c

theorem nzR_r (p b : Int) (h0 : 0 ≤ p) (h1 : p < 256) : 0 ≤ nzR p b ∧ nzR p b < 256 := by
  have e2 : nzR p b = nzRB p (decide (127 < b)) (b == 0) := by unfold nzR nzRB; simp only [decide_eq_true_eq, beq_iff_eq]
  rw [e2]
  exact all_byte (p := fun p => ∀ n z, 0 ≤ nzRB p n z ∧ nzRB p n z < 256) (by decide +kernel) p h0 h1 _ _

/-- C ahead of N and Z, or behind them. -/
theorem nz_carry (p : Int) (h0 : 0 ≤ p) (h1 : p < 256) (n z c : Bool) : nzB (setf p 1 c) n z = carryR (nzRB p n z) c :=
  all_byte (p := fun p => ∀ n z c, nzB (setf p 1 c) n z = carryR (nzRB p n z) c) (by decide +kernel) p h0 h1 n z c

theorem cmp_flags (p b : Int) (c : Bool) (h0 : 0 ≤ p) (h1 : p < 256) (b0 : 0 ≤ b) (b1 : b < 256) : nzI (setf p 1 c) b = carryR (nzR p b) c := by
  have e1 : nzI (setf p 1 c) b = nzB (setf p 1 c) (decide (127 < b)) (b == 0) := by unfold nzI nzB; rw [top_bit b b0 b1]
  have e2 : nzR p b = nzRB p (decide (127 < b)) (b == 0) := by unfold nzR nzRB; simp only [decide_eq_true_eq, beq_iff_eq]
  rw [e1, e2, nz_carry p h0 h1]

theorem adc_flags (p : Int) (h0 : 0 ≤ p) (h1 : p < 256) (n z c v : Bool) : nzB (setf (setf p 1 c) 64 v) n z = (if v = true then i64or (i64and (carryR (nzRB p n z) c) 191) 64 else i64and (carryR (nzRB p n z) c) 191) :=
  all_byte (p := fun p => ∀ n z c v, nzB (setf (setf p 1 c) 64 v) n z = (if v = true then i64or (i64and (carryR (nzRB p n z) c) 191) 64 else i64and (carryR (nzRB p n z) c) 191)) (by decide +kernel) p h0 h1 n z c v

theorem ofInt_64 (a : Nat) (ha : a < 256) : (BitVec.ofInt 64 (a : Int)).toNat = a := by
  rw [BitVec.ofInt_natCast, BitVec.toNat_ofNat]; exact Nat.mod_eq_of_lt (by omega)
theorem i64_and_nat (a b : Nat) (ha : a < 256) (hb : b < 256) : i64and (a : Int) (b : Int) = ((a &&& b : Nat) : Int) := by
  have hx : a &&& b < 2 ^ 8 := Nat.and_lt_two_pow _ (by omega)
  show IntKind.i64.wrap ((BitVec.ofInt 64 (a : Int) &&& BitVec.ofInt 64 (b : Int)).toNat : Int) = _
  rw [BitVec.toNat_and, ofInt_64 a ha, ofInt_64 b hb, IntKind.wrap_i64]
  omega
theorem i64_or_nat (a b : Nat) (ha : a < 256) (hb : b < 256) : i64or (a : Int) (b : Int) = ((a ||| b : Nat) : Int) := by
  have hx : a ||| b < 2 ^ 8 := Nat.or_lt_two_pow (by omega) (by omega)
  show IntKind.i64.wrap ((BitVec.ofInt 64 (a : Int) ||| BitVec.ofInt 64 (b : Int)).toNat : Int) = _
  rw [BitVec.toNat_or, ofInt_64 a ha, ofInt_64 b hb, IntKind.wrap_i64]
  omega
theorem i64_xor_nat (a b : Nat) (ha : a < 256) (hb : b < 256) : i64xor (a : Int) (b : Int) = ((a ^^^ b : Nat) : Int) := by
  have hx : a ^^^ b < 2 ^ 8 := Nat.xor_lt_two_pow (by omega) (by omega)
  show IntKind.i64.wrap ((BitVec.ofInt 64 (a : Int) ^^^ BitVec.ofInt 64 (b : Int)).toNat : Int) = _
  rw [BitVec.toNat_xor, ofInt_64 a ha, ofInt_64 b hb, IntKind.wrap_i64]
  omega

theorem and_u8_i64 (a b : Int) (h0 : 0 ≤ a) (h1 : a < 256) (b0 : 0 ≤ b) (b1 : b < 256) : bits .and .u8 a b = i64and a b := by
  obtain ⟨A, rfl⟩ := Int.eq_ofNat_of_zero_le h0
  obtain ⟨B, rfl⟩ := Int.eq_ofNat_of_zero_le b0
  rw [u8_and_nat A B (by omega) (by omega), i64_and_nat A B (by omega) (by omega)]
theorem or_u8_i64 (a b : Int) (h0 : 0 ≤ a) (h1 : a < 256) (b0 : 0 ≤ b) (b1 : b < 256) : bits .or .u8 a b = i64or a b := by
  obtain ⟨A, rfl⟩ := Int.eq_ofNat_of_zero_le h0
  obtain ⟨B, rfl⟩ := Int.eq_ofNat_of_zero_le b0
  rw [u8_or_nat A B (by omega) (by omega), i64_or_nat A B (by omega) (by omega)]
theorem xor_u8_i64 (a b : Int) (h0 : 0 ≤ a) (h1 : a < 256) (b0 : 0 ≤ b) (b1 : b < 256) : bits .xor .u8 a b = i64xor a b := by
  obtain ⟨A, rfl⟩ := Int.eq_ofNat_of_zero_le h0
  obtain ⟨B, rfl⟩ := Int.eq_ofNat_of_zero_le b0
  rw [u8_xor_nat A B (by omega) (by omega), i64_xor_nat A B (by omega) (by omega)]

theorem bit7 (n : Nat) (h : n < 256) : n.testBit 7 = decide (127 < n) := by
  have : ∀ n : Fin 256, n.val.testBit 7 = decide (127 < n.val) := by decide +kernel
  exact this ⟨n, h⟩
theorem and128 (n : Nat) (h : n < 256) : ((n &&& 128 : Nat) != 0) = n.testBit 7 := by
  have : ∀ n : Fin 256, ((n.val &&& 128 : Nat) != 0) = n.val.testBit 7 := by decide +kernel
  exact this ⟨n, h⟩

theorem overflow_eq (a m c : Int) (a0 : 0 ≤ a) (a1 : a < 256) (m0 : 0 ≤ m) (m1 : m < 256) (c0 : 0 ≤ c) (c1 : c < 256) :
    (bits .and .u8 (bits .and .u8 (bits .xor .u8 c a) (bits .xor .u8 c m)) 128 != 0) = ((decide (127 < a) == decide (127 < m)) && (decide (127 < c) != decide (127 < m))) := by
  obtain ⟨A, rfl⟩ := Int.eq_ofNat_of_zero_le a0
  obtain ⟨M, rfl⟩ := Int.eq_ofNat_of_zero_le m0
  obtain ⟨C, rfl⟩ := Int.eq_ofNat_of_zero_le c0
  have x1 : C ^^^ A < 2 ^ 8 := Nat.xor_lt_two_pow (by omega) (by omega)
  have x2 : C ^^^ M < 2 ^ 8 := Nat.xor_lt_two_pow (by omega) (by omega)
  have x3 : (C ^^^ A) &&& (C ^^^ M) < 2 ^ 8 := Nat.and_lt_two_pow _ (by omega)
  rw [u8_xor_nat C A (by omega) (by omega), u8_xor_nat C M (by omega) (by omega), u8_and_nat _ _ (by omega) (by omega)]
  rw [show (128 : Int) = ((128 : Nat) : Int) from rfl, u8_and_nat _ _ (by omega) (by omega)]
  have e : ((((C ^^^ A) &&& (C ^^^ M) &&& 128 : Nat) : Int) != 0) = (((C ^^^ A) &&& (C ^^^ M) &&& 128 : Nat) != 0) := by
    rw [Bool.eq_iff_iff]; simp
  rw [e, and128 _ (by omega), Nat.testBit_and, Nat.testBit_xor, Nat.testBit_xor, bit7 C (by omega), bit7 A (by omega), bit7 M (by omega)]
  have q : ∀ n : Nat, decide ((127 : Int) < (n : Int)) = decide (127 < n) := fun n => by rw [decide_eq_decide]; omega
  rw [q, q, q]
  cases decide (127 < C) <;> cases decide (127 < A) <;> cases decide (127 < M) <;> rfl
end

end Go.Proofs.YtcgjliflnnklnaaGreat
