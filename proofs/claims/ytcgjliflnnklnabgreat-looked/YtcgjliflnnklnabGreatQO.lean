/-
  Joined texts.
-/
import Derived.WalkKit
import Derived.Laws.BitsAllLaws
namespace Go.Proofs.YtcgjliflnnklnabGreat
open Go.RowKit

/-
  The program's computer, told as functions over plain data, in the words of its own text.
-/
section
structure PC where
  mem : Nat → Int
  rom : Int
  cnt : Int
  calls : Bool
  a : Int
  x : Int
  y : Int
  s : Int
  p : Int
  pc : Int
  ba : Int
  bx : Int
  b_y : Int
  bs : Int
  bp : Int
  bpc : Int
  st : Int
  ins : Int
  md : Int
  step : Int
  ad : Int
  hop : Int
  data : Int
  taken : Bool
  nmiOn : Bool
  nmiDue : Bool
  cyc : Int
  rest : Nat → Option Value

/-- A byte put into memory. -/
def mput (m : Nat → Int) (i : Nat) (v : Int) : Nat → Int := fun k => if k = i then v else m k

structure BusI where
  addr : Int
  data : Int
  wr : Bool
  ft : Bool

def BusI.val (b : BusI) : Value := .agg #[.int .i64 b.addr, .int .i64 b.data, .bool b.wr, .bool b.ft]

def joinI (lo hi : Int) : Int := hi * 256 + lo
def loI (a : Int) : Int := a % 256
def hiI (a : Int) : Int := a / 256
def withinI (a b : Int) : Int := joinI ((loI a + b) % 256) (hiI a)

def setf (p f : Int) (on : Bool) : Int := if on = true then bits .or .u8 (bits .andNot .u8 p f) f else bits .andNot .u8 p f
def hasf (p f : Int) : Bool := bits .and .u8 p f != 0
def nzI (p b : Int) : Int := setf (setf p 128 (bits .and .u8 b 128 != 0)) 2 (b == 0)
def setpI (b : Int) : Int := bits .or .u8 (bits .andNot .u8 b 16) 32

def PC.look (s : PC) (at_ : Int) : Int :=
  if at_ = 53248 then s.cnt else if at_ = 53249 then (if s.calls = true then 128 else 0) else s.mem at_.toNat
def PC.read1 (s : PC) (at_ : Int) : PC := if at_ = 53249 then { s with calls := false } else s
def PC.write1 (s : PC) (at_ d : Int) : PC :=
  if at_ = 53248 then { s with cnt := d } else if at_ ≠ 53249 ∧ at_ < s.rom then { s with mem := mput s.mem at_.toNat d } else s
def PC.read (s : PC) (at_ : Int) : PC × BusI := (s.read1 at_, ⟨at_, s.look at_, false, false⟩)
def PC.write (s : PC) (at_ d : Int) : PC × BusI := (s.write1 at_ d, ⟨at_, d, true, false⟩)
def PC.tick (s : PC) : PC :=
  if s.cnt = 0 then s else if (s.cnt - 1) % 256 = 0 then { s with cnt := (s.cnt - 1) % 256, calls := true } else { s with cnt := (s.cnt - 1) % 256 }

def kindI (i : Int) : Int := if i = 47 ∨ i = 48 ∨ i = 49 then 1 else if i = 2 ∨ i = 32 ∨ i = 39 ∨ i = 40 ∨ i = 24 ∨ i = 20 then 2 else 0

def PC.readNext (s : PC) : PC × BusI := let r := s.read s.pc; ({ r.1 with pc := (r.1.pc + 1) % 65536 }, r.2)
def takeData (r : PC × BusI) : PC × BusI := ({ r.1 with data := r.2.data % 256 }, r.2)
def takeLow (r : PC × BusI) : PC × BusI := ({ r.1 with ad := joinI (r.2.data % 256) 0 }, r.2)
def takeHigh (r : PC × BusI) : PC × BusI := ({ r.1 with ad := joinI (loI r.1.ad) (r.2.data % 256) }, r.2)
def takeHop (r : PC × BusI) : PC × BusI := ({ r.1 with hop := joinI (r.2.data % 256) 0 }, r.2)
def PC.stackTop (s : PC) : Int := joinI s.s 1
def PC.pushed (s : PC) (d : Int) : PC × BusI := let r := s.write s.stackTop d; ({ r.1 with s := (r.1.s - 1) % 256 }, r.2)
def PC.pulled (s : PC) : PC × BusI := let t := { s with s := (s.s + 1) % 256 }; t.read t.stackTop

def PC.finish (s : PC) : PC := { s with ba := s.a, bx := s.x, b_y := s.y, bs := s.s, bp := s.p, bpc := s.pc, st := 0 }

def PC.loadA (s : PC) (v : Int) : PC := { s with a := v, p := nzI s.p v }
def PC.loadX (s : PC) (v : Int) : PC := { s with x := v, p := nzI s.p v }
def PC.loadY (s : PC) (v : Int) : PC := { s with y := v, p := nzI s.p v }
def PC.loadD (s : PC) (v : Int) : PC := { s with data := v, p := nzI s.p v }
def PC.setF (s : PC) (f : Int) (on : Bool) : PC := { s with p := setf s.p f on }
def PC.add (s : PC) (m : Int) : PC :=
  let sum := s.a + m + bits .and .u8 s.p 1
  let cut := sum % 256
  let s1 := s.setF 1 (decide (255 < sum))
  let s2 := s1.setF 64 (bits .and .u8 (bits .and .u8 (bits .xor .u8 cut s.a) (bits .xor .u8 cut m)) 128 != 0)
  s2.loadA cut
def PC.compare (s : PC) (r : Int) : PC :=
  let s1 := s.setF 1 (decide (s.data ≤ r))
  { s1 with p := nzI s1.p ((r - s.data) % 256) }
def PC.shl (s : PC) (i : Int) : PC :=
  let s1 := s.setF 1 (bits .and .u8 s.data 128 != 0)
  s1.loadD (bits .or .u8 (s.data * 2 % 256) i)
def PC.shr (s : PC) (i : Int) : PC :=
  let s1 := s.setF 1 (bits .and .u8 s.data 1 != 0)
  s1.loadD (bits .or .u8 (s.data / 2) (i * 128 % 256))

/-- What instruction number i does. -/
def PC.doIns (s : PC) (i : Nat) : PC := match i with
  | 0 => s.add s.data
  | 1 => s.loadA (bits .and .u8 s.a s.data)
  | 2 => s.shl 0
  | 3 => { s with taken := !hasf s.p 1 }
  | 4 => { s with taken := hasf s.p 1 }
  | 5 => { s with taken := hasf s.p 2 }
  | 6 => { s with taken := hasf s.p 128 }
  | 7 => { s with taken := !hasf s.p 2 }
  | 8 => { s with taken := !hasf s.p 128 }
  | 9 => { s with taken := !hasf s.p 64 }
  | 10 => { s with taken := hasf s.p 64 }
  | 11 => ((s.setF 2 (bits .and .u8 s.a s.data == 0)).setF 128 (bits .and .u8 s.data 128 != 0)).setF 64 (bits .and .u8 s.data 64 != 0)
  | 12 => { s.setF 4 true with pc := s.ad }
  | 13 => s.setF 1 false
  | 14 => s.setF 8 false
  | 15 => s.setF 4 false
  | 16 => s.setF 64 false
  | 17 => s.compare s.a
  | 18 => s.compare s.x
  | 19 => s.compare s.y
  | 20 => s.loadD ((s.data - 1) % 256)
  | 21 => s.loadX ((s.x - 1) % 256)
  | 22 => s.loadY ((s.y - 1) % 256)
  | 23 => s.loadA (bits .xor .u8 s.a s.data)
  | 24 => s.loadD ((s.data + 1) % 256)
  | 25 => s.loadX ((s.x + 1) % 256)
  | 26 => s.loadY ((s.y + 1) % 256)
  | 27 => { s with pc := s.ad }
  | 28 => { s with pc := s.ad }
  | 29 => s.loadA s.data
  | 30 => s.loadX s.data
  | 31 => s.loadY s.data
  | 32 => s.shr 0
  | 33 => s
  | 34 => s.loadA (bits .or .u8 s.a s.data)
  | 35 => { s with data := s.a }
  | 36 => { s with data := bits .or .u8 s.p 16 }
  | 37 => s.loadA s.data
  | 38 => { s with p := setpI s.data }
  | 39 => s.shl (bits .and .u8 s.p 1)
  | 40 => s.shr (bits .and .u8 s.p 1)
  | 41 => { s with p := setpI s.data, pc := s.ad }
  | 42 => { s with pc := (s.ad + 1) % 65536 }
  | 43 => s.add (255 - s.data)
  | 44 => s.setF 1 true
  | 45 => s.setF 8 true
  | 46 => s.setF 4 true
  | 47 => { s with data := s.a }
  | 48 => { s with data := s.x }
  | 49 => { s with data := s.y }
  | 50 => s.loadX s.a
  | 51 => s.loadY s.a
  | 52 => s.loadX s.s
  | 53 => s.loadA s.x
  | 54 => { s with s := s.x }
  | _ => s.loadA s.y

def PC.perform (s : PC) : PC := s.doIns s.ins.toNat
def PC.performLast (s : PC) : PC := s.perform.finish

def PC.access (s : PC) : PC × BusI :=
  if kindI s.ins = 1 then let t := s.performLast; t.write t.ad t.data
  else if kindI s.ins = 2 then let t := { s with st := 3 }; takeData (t.read t.ad)
  else let r := takeData (s.read s.ad); (r.1.performLast, r.2)
def PC.restore (s : PC) : PC × BusI := let t := { s with st := 4 }; t.write t.ad t.data
def PC.change (s : PC) : PC × BusI := let t := s.performLast; t.write t.ad t.data

def goThere (r : PC × BusI) : PC × BusI := ((takeHigh r).1.performLast, r.2)

def PC.branch (s : PC) : PC := ({ s with pc := s.ad } : PC).finish

def PC.implied (s : PC) : PC × BusI := let r := s.read s.pc; (r.1.performLast, r.2)
def PC.accumulator (s : PC) : PC × BusI :=
  let r := s.read s.pc
  let t := ({ r.1 with data := r.1.a } : PC).perform
  (({ t with a := t.data } : PC).finish, r.2)
def PC.immediate (s : PC) : PC × BusI := let r := takeData s.readNext; (r.1.performLast, r.2)
def PC.zeroPage (s : PC) : PC × BusI := takeLow ({ s with st := 2 } : PC).readNext
def PC.zeroPageBy (s : PC) (i : Int) : PC × BusI :=
  if s.step = 1 then takeLow s.readNext
  else let r := s.read s.ad; ({ r.1 with ad := withinI r.1.ad i, st := 2 }, r.2)
def PC.absolute (s : PC) : PC × BusI :=
  if s.step = 1 then takeLow s.readNext else takeHigh ({ s with st := 2 } : PC).readNext
def PC.indexed (s : PC) (i : Int) : PC × BusI :=
  let near := withinI s.ad i
  let t := { s with ad := (s.ad + i) % 65536, st := 2 }
  if t.ad = near ∧ kindI t.ins = 0 then t.access else t.read near
def PC.absoluteBy (s : PC) (i : Int) : PC × BusI :=
  if s.step = 1 then takeLow s.readNext else if s.step = 2 then takeHigh s.readNext else s.indexed i
def PC.indirectX (s : PC) : PC × BusI :=
  if s.step = 1 then takeHop s.readNext
  else if s.step = 2 then let r := s.read s.hop; ({ r.1 with hop := withinI r.1.hop r.1.x }, r.2)
  else if s.step = 3 then takeLow (s.read s.hop)
  else let t := { s with st := 2 }; takeHigh (t.read (withinI t.hop 1))
def PC.indirectY (s : PC) : PC × BusI :=
  if s.step = 1 then takeHop s.readNext
  else if s.step = 2 then takeLow (s.read s.hop)
  else if s.step = 3 then takeHigh (s.read (withinI s.hop 1))
  else s.indexed s.y
def sgn (b : Int) : Int := if b < 128 then b else b + 65280
def PC.relative (s : PC) : PC × BusI :=
  if s.step = 1 then
    let r := s.readNext
    let t := ({ r.1 with ad := (r.1.pc + sgn r.2.data) % 65536 } : PC).perform
    (if t.taken = true then t else t.finish, r.2)
  else if s.step = 2 then
    let r := s.read s.pc
    (if hiI r.1.ad = hiI r.1.pc then r.1.branch else r.1, r.2)
  else let r := s.read (joinI (loI s.ad) (hiI s.pc)); (r.1.branch, r.2)
def PC.jumpAbsolute (s : PC) : PC × BusI := if s.step = 1 then takeLow s.readNext else goThere (s.read s.pc)
def PC.jumpIndirect (s : PC) : PC × BusI :=
  if s.step = 1 then takeLow s.readNext
  else if s.step = 2 then let r := takeHigh s.readNext; ({ r.1 with hop := r.1.ad }, r.2)
  else if s.step = 3 then takeLow (s.read s.hop)
  else goThere (s.read (withinI s.hop 1))
def PC.callSubroutine (s : PC) : PC × BusI :=
  if s.step = 1 then takeLow s.readNext
  else if s.step = 2 then s.read s.stackTop
  else if s.step = 3 then s.pushed (hiI s.pc)
  else if s.step = 4 then s.pushed (loI s.pc)
  else goThere (s.read s.pc)
def PC.leaveSubroutine (s : PC) : PC × BusI :=
  if s.step = 1 then s.read s.pc
  else if s.step = 2 then s.read s.stackTop
  else if s.step = 3 then takeLow s.pulled
  else if s.step = 4 then takeHigh s.pulled
  else let r := s.read s.ad; (r.1.performLast, r.2)
def PC.leaveInterrupt (s : PC) : PC × BusI :=
  if s.step = 1 then s.read s.pc
  else if s.step = 2 then s.read s.stackTop
  else if s.step = 3 then takeData s.pulled
  else if s.step = 4 then takeLow s.pulled
  else goThere s.pulled
def PC.pushByte (s : PC) : PC × BusI :=
  if s.step = 1 then s.read s.pc
  else let t := s.perform; let r := t.pushed t.data; (r.1.finish, r.2)
def PC.pullByte (s : PC) : PC × BusI :=
  if s.step = 1 then s.read s.pc
  else if s.step = 2 then s.read s.stackTop
  else let r := takeData s.pulled; (r.1.performLast, r.2)
def PC.enter (s : PC) (v f : Int) : PC × BusI :=
  if s.step = 2 then s.pushed (hiI s.pc)
  else if s.step = 3 then s.pushed (loI s.pc)
  else if s.step = 4 then s.pushed f
  else if s.step = 5 then takeLow (s.read v)
  else goThere (s.read ((v + 1) % 65536))
def PC.enterByBreak (s : PC) : PC × BusI := if s.step = 1 then s.readNext else s.enter 65534 (bits .or .u8 s.p 16)
def PC.enterByIRQ (s : PC) : PC × BusI := if s.step = 1 then s.read s.pc else s.enter 65534 s.p
def PC.enterByNMI (s : PC) : PC × BusI := if s.step = 1 then s.read s.pc else s.enter 65530 s.p

/-- One cycle of mode number m. -/
def PC.doMode (s : PC) (m : Nat) : PC × BusI := match m with
  | 1 => s.implied
  | 2 => s.accumulator
  | 3 => s.immediate
  | 4 => s.zeroPage
  | 5 => s.zeroPageBy s.x
  | 6 => s.zeroPageBy s.y
  | 7 => s.absolute
  | 8 => s.absoluteBy s.x
  | 9 => s.absoluteBy s.y
  | 10 => s.indirectX
  | 11 => s.indirectY
  | 12 => s.relative
  | 13 => s.jumpAbsolute
  | 14 => s.jumpIndirect
  | 15 => s.callSubroutine
  | 16 => s.leaveSubroutine
  | 17 => s.pushByte
  | 18 => s.pullByte
  | 19 => s.enterByBreak
  | 20 => s.enterByNMI
  | 21 => s.enterByIRQ
  | _ => s.leaveInterrupt

def PC.begin_ (s : PC) (i m : Int) : PC :=
  if m = 0 then { s with ins := i, md := m, step := 0, st := 5 } else { s with ins := i, md := m, step := 0, st := 1 }

/-- The opcodes: instruction and mode of a byte. -/
def opTable : List (Nat × Nat × Nat) := [(0, 12, 19), (1, 34, 10), (5, 34, 4), (6, 2, 4), (8, 36, 17), (9, 34, 3), (10, 2, 2), (13, 34, 7), (14, 2, 7), (16, 8, 12), (17, 34, 11), (21, 34, 5), (22, 2, 5), (24, 13, 1), (25, 34, 9), (29, 34, 8), (30, 2, 8), (32, 28, 15), (33, 1, 10), (36, 11, 4), (37, 1, 4), (38, 39, 4), (40, 38, 18), (41, 1, 3), (42, 39, 2), (44, 11, 7), (45, 1, 7), (46, 39, 7), (48, 6, 12), (49, 1, 11), (53, 1, 5), (54, 39, 5), (56, 44, 1), (57, 1, 9), (61, 1, 8), (62, 39, 8), (64, 41, 22), (65, 23, 10), (69, 23, 4), (70, 32, 4), (72, 35, 17), (73, 23, 3), (74, 32, 2), (76, 27, 13), (77, 23, 7), (78, 32, 7), (80, 9, 12), (81, 23, 11), (85, 23, 5), (86, 32, 5), (88, 15, 1), (89, 23, 9), (93, 23, 8), (94, 32, 8), (96, 42, 16), (97, 0, 10), (101, 0, 4), (102, 40, 4), (104, 37, 18), (105, 0, 3), (106, 40, 2), (108, 27, 14), (109, 0, 7), (110, 40, 7), (112, 10, 12), (113, 0, 11), (117, 0, 5), (118, 40, 5), (120, 46, 1), (121, 0, 9), (125, 0, 8), (126, 40, 8), (129, 47, 10), (132, 49, 4), (133, 47, 4), (134, 48, 4), (136, 22, 1), (138, 53, 1), (140, 49, 7), (141, 47, 7), (142, 48, 7), (144, 3, 12), (145, 47, 11), (148, 49, 5), (149, 47, 5), (150, 48, 6), (152, 55, 1), (153, 47, 9), (154, 54, 1), (157, 47, 8), (160, 31, 3), (161, 29, 10), (162, 30, 3), (164, 31, 4), (165, 29, 4), (166, 30, 4), (168, 51, 1), (169, 29, 3), (170, 50, 1), (172, 31, 7), (173, 29, 7), (174, 30, 7), (176, 4, 12), (177, 29, 11), (180, 31, 5), (181, 29, 5), (182, 30, 6), (184, 16, 1), (185, 29, 9), (186, 52, 1), (188, 31, 8), (189, 29, 8), (190, 30, 9), (192, 19, 3), (193, 17, 10), (196, 19, 4), (197, 17, 4), (198, 20, 4), (200, 26, 1), (201, 17, 3), (202, 21, 1), (204, 19, 7), (205, 17, 7), (206, 20, 7), (208, 7, 12), (209, 17, 11), (213, 17, 5), (214, 20, 5), (216, 14, 1), (217, 17, 9), (221, 17, 8), (222, 20, 8), (224, 18, 3), (225, 43, 10), (228, 18, 4), (229, 43, 4), (230, 24, 4), (232, 25, 1), (233, 43, 3), (234, 33, 1), (236, 18, 7), (237, 43, 7), (238, 24, 7), (240, 5, 12), (241, 43, 11), (245, 43, 5), (246, 24, 5), (248, 45, 1), (249, 43, 9), (253, 43, 8), (254, 24, 8)]
def decodeI (c : Nat) : Nat × Nat := match opTable.find? (fun e => e.1 == c) with
  | some e => e.2
  | none => (0, 0)

def PC.fetch (s : PC) (irq : Bool) : PC × BusI :=
  let r := s.read s.pc
  let b : BusI := { r.2 with ft := true }
  if r.1.nmiDue = true then (({ r.1 with nmiDue := false } : PC).begin_ 12 20, b)
  else if (irq || r.1.calls) = true ∧ hasf r.1.p 4 = false then (r.1.begin_ 12 21, b)
  else (({ r.1 with pc := (r.1.pc + 1) % 65536 } : PC).begin_ (decodeI (b.data % 256).toNat).1 (decodeI (b.data % 256).toNat).2, b)

def PC.turn (s : PC) (irq : Bool) : PC × BusI :=
  if s.st = 0 then s.fetch irq
  else if s.st = 2 then s.access
  else if s.st = 3 then s.restore
  else if s.st = 4 then s.change
  else let t := { s with step := IntKind.wrap .i64 (s.step + 1) }; t.doMode t.md.toNat

def PC.cycle (s : PC) (nmi irq : Bool) : PC × BusI :=
  let s1 : PC := if nmi = true ∧ s.nmiOn = false then { s with nmiDue := true } else s
  let s2 := { s1 with nmiOn := nmi }
  let r := s2.turn irq
  let s3 := if r.2.wr = false ∨ r.2.addr ≠ 53248 then r.1.tick else r.1
  ({ s3 with cyc := IntKind.wrap .i64 (s3.cyc + 1) }, r.2)
end

/-
  A cycle in three parts; the table's bounds.
-/
section
def PC.pins (s : PC) (nmi : Bool) : PC := { s with nmiOn := nmi, nmiDue := s.nmiDue || (nmi && !s.nmiOn) }
def PC.ends (s : PC) (b : BusI) : PC := if b.wr = false ∨ b.addr ≠ 53248 then s.tick else s

theorem pc_cycle (s : PC) (nmi irq : Bool) : s.cycle nmi irq = ({ ((s.pins nmi).turn irq).1.ends ((s.pins nmi).turn irq).2 with cyc := IntKind.wrap .i64 ((((s.pins nmi).turn irq).1.ends ((s.pins nmi).turn irq).2).cyc + 1) }, ((s.pins nmi).turn irq).2) := by
  have e : ({ (if nmi = true ∧ s.nmiOn = false then { s with nmiDue := true } else s : PC) with nmiOn := nmi } : PC) = s.pins nmi := by
    unfold PC.pins
    cases nmi
    · simp
    · cases h : s.nmiOn <;> simp
  unfold PC.cycle PC.ends
  simp only [e]


theorem decode_lt (b : Nat) (h : b < 256) : (decodeI b).1 < 56 ∧ (decodeI b).2 < 23 := by
  have : ∀ n : Fin 256, (decodeI n.val).1 < 56 ∧ (decodeI n.val).2 < 23 := by decide +kernel
  exact this ⟨b, h⟩
end

end Go.Proofs.YtcgjliflnnklnabGreat
