/-
  Joined texts.
-/
import Derived.WalkKit
import Derived.Laws.BitsAllLaws
namespace Go.Proofs.YtcgjliflnnklnaaGreat
open Go.RowKit

/-
  Joined texts.
-/
section
/-
  The program's computer, told as functions over plain data, in the words of its own text.
-/
section
structure PC where
  mem : Nat → Int
  rom : Int
  cnt : Int
  calls : Bool
  a : Int
  x : Int
  y : Int
  s : Int
  p : Int
  pc : Int
  ba : Int
  bx : Int
  b_y : Int
  bs : Int
  bp : Int
  bpc : Int
  st : Int
  ins : Int
  md : Int
  step : Int
  ad : Int
  hop : Int
  data : Int
  taken : Bool
  nmiOn : Bool
  nmiDue : Bool
  cyc : Int
  rest : Nat → Option Value

/-- A byte put into memory. -/
def mput (m : Nat → Int) (i : Nat) (v : Int) : Nat → Int := fun k => if k = i then v else m k

structure BusI where
  addr : Int
  data : Int
  wr : Bool
  ft : Bool

def BusI.val (b : BusI) : Value := .agg #[.int .i64 b.addr, .int .i64 b.data, .bool b.wr, .bool b.ft]

def joinI (lo hi : Int) : Int := hi * 256 + lo
def loI (a : Int) : Int := a % 256
def hiI (a : Int) : Int := a / 256
def withinI (a b : Int) : Int := joinI ((loI a + b) % 256) (hiI a)

def setf (p f : Int) (on : Bool) : Int := if on = true then bits .or .u8 (bits .andNot .u8 p f) f else bits .andNot .u8 p f
def hasf (p f : Int) : Bool := bits .and .u8 p f != 0
def nzI (p b : Int) : Int := setf (setf p 128 (bits .and .u8 b 128 != 0)) 2 (b == 0)
def setpI (b : Int) : Int := bits .or .u8 (bits .andNot .u8 b 16) 32

def PC.look (s : PC) (at_ : Int) : Int :=
  if at_ = 53248 then s.cnt else if at_ = 53249 then (if s.calls = true then 128 else 0) else s.mem at_.toNat
def PC.read1 (s : PC) (at_ : Int) : PC := if at_ = 53249 then { s with calls := false } else s
def PC.write1 (s : PC) (at_ d : Int) : PC :=
  if at_ = 53248 then { s with cnt := d } else if at_ ≠ 53249 ∧ at_ < s.rom then { s with mem := mput s.mem at_.toNat d } else s
def PC.read (s : PC) (at_ : Int) : PC × BusI := (s.read1 at_, ⟨at_, s.look at_, false, false⟩)
def PC.write (s : PC) (at_ d : Int) : PC × BusI := (s.write1 at_ d, ⟨at_, d, true, false⟩)
def PC.tick (s : PC) : PC :=
  if s.cnt = 0 then s else if (s.cnt - 1) % 256 = 0 then { s with cnt := (s.cnt - 1) % 256, calls := true } else { s with cnt := (s.cnt - 1) % 256 }

def kindI (i : Int) : Int := if i = 47 ∨ i = 48 ∨ i = 49 then 1 else if i = 2 ∨ i = 32 ∨ i = 39 ∨ i = 40 ∨ i = 24 ∨ i = 20 then 2 else 0

def PC.readNext (s : PC) : PC × BusI := let r := s.read s.pc; ({ r.1 with pc := (r.1.pc + 1) % 65536 }, r.2)
def takeData (r : PC × BusI) : PC × BusI := ({ r.1 with data := r.2.data % 256 }, r.2)
def takeLow (r : PC × BusI) : PC × BusI := ({ r.1 with ad := joinI (r.2.data % 256) 0 }, r.2)
def takeHigh (r : PC × BusI) : PC × BusI := ({ r.1 with ad := joinI (loI r.1.ad) (r.2.data % 256) }, r.2)
def takeHop (r : PC × BusI) : PC × BusI := ({ r.1 with hop := joinI (r.2.data % 256) 0 }, r.2)
def PC.stackTop (s : PC) : Int := joinI s.s 1
def PC.pushed (s : PC) (d : Int) : PC × BusI := let r := s.write s.stackTop d; ({ r.1 with s := (r.1.s - 1) % 256 }, r.2)
def PC.pulled (s : PC) : PC × BusI := let t := { s with s := (s.s + 1) % 256 }; t.read t.stackTop

def PC.finish (s : PC) : PC := { s with ba := s.a, bx := s.x, b_y := s.y, bs := s.s, bp := s.p, bpc := s.pc, st := 0 }

def PC.loadA (s : PC) (v : Int) : PC := { s with a := v, p := nzI s.p v }
def PC.loadX (s : PC) (v : Int) : PC := { s with x := v, p := nzI s.p v }
def PC.loadY (s : PC) (v : Int) : PC := { s with y := v, p := nzI s.p v }
def PC.loadD (s : PC) (v : Int) : PC := { s with data := v, p := nzI s.p v }
def PC.setF (s : PC) (f : Int) (on : Bool) : PC := { s with p := setf s.p f on }
def PC.add (s : PC) (m : Int) : PC :=
  let sum := s.a + m + bits .and .u8 s.p 1
  let cut := sum % 256
  let s1 := s.setF 1 (decide (255 < sum))
  let s2 := s1.setF 64 (bits .and .u8 (bits .and .u8 (bits .xor .u8 cut s.a) (bits .xor .u8 cut m)) 128 != 0)
  s2.loadA cut
def PC.compare (s : PC) (r : Int) : PC :=
  let s1 := s.setF 1 (decide (s.data ≤ r))
  { s1 with p := nzI s1.p ((r - s.data) % 256) }
def PC.shl (s : PC) (i : Int) : PC :=
  let s1 := s.setF 1 (bits .and .u8 s.data 128 != 0)
  s1.loadD (bits .or .u8 (s.data * 2 % 256) i)
def PC.shr (s : PC) (i : Int) : PC :=
  let s1 := s.setF 1 (bits .and .u8 s.data 1 != 0)
  s1.loadD (bits .or .u8 (s.data / 2) (i * 128 % 256))

/-- What instruction number i does. -/
def PC.doIns (s : PC) (i : Nat) : PC := match i with
  | 0 => s.add s.data
  | 1 => s.loadA (bits .and .u8 s.a s.data)
  | 2 => s.shl 0
  | 3 => { s with taken := !hasf s.p 1 }
  | 4 => { s with taken := hasf s.p 1 }
  | 5 => { s with taken := hasf s.p 2 }
  | 6 => { s with taken := hasf s.p 128 }
  | 7 => { s with taken := !hasf s.p 2 }
  | 8 => { s with taken := !hasf s.p 128 }
  | 9 => { s with taken := !hasf s.p 64 }
  | 10 => { s with taken := hasf s.p 64 }
  | 11 => ((s.setF 2 (bits .and .u8 s.a s.data == 0)).setF 128 (bits .and .u8 s.data 128 != 0)).setF 64 (bits .and .u8 s.data 64 != 0)
  | 12 => { s.setF 4 true with pc := s.ad }
  | 13 => s.setF 1 false
  | 14 => s.setF 8 false
  | 15 => s.setF 4 false
  | 16 => s.setF 64 false
  | 17 => s.compare s.a
  | 18 => s.compare s.x
  | 19 => s.compare s.y
  | 20 => s.loadD ((s.data - 1) % 256)
  | 21 => s.loadX ((s.x - 1) % 256)
  | 22 => s.loadY ((s.y - 1) % 256)
  | 23 => s.loadA (bits .xor .u8 s.a s.data)
  | 24 => s.loadD ((s.data + 1) % 256)
  | 25 => s.loadX ((s.x + 1) % 256)
  | 26 => s.loadY ((s.y + 1) % 256)
  | 27 => { s with pc := s.ad }
  | 28 => { s with pc := s.ad }
  | 29 => s.loadA s.data
  | 30 => s.loadX s.data
  | 31 => s.loadY s.data
  | 32 => s.shr 0
  | 33 => s
  | 34 => s.loadA (bits .or .u8 s.a s.data)
  | 35 => { s with data := s.a }
  | 36 => { s with data := bits .or .u8 s.p 16 }
  | 37 => s.loadA s.data
  | 38 => { s with p := setpI s.data }
  | 39 => s.shl (bits .and .u8 s.p 1)
  | 40 => s.shr (bits .and .u8 s.p 1)
  | 41 => { s with p := setpI s.data, pc := s.ad }
  | 42 => { s with pc := (s.ad + 1) % 65536 }
  | 43 => s.add (255 - s.data)
  | 44 => s.setF 1 true
  | 45 => s.setF 8 true
  | 46 => s.setF 4 true
  | 47 => { s with data := s.a }
  | 48 => { s with data := s.x }
  | 49 => { s with data := s.y }
  | 50 => s.loadX s.a
  | 51 => s.loadY s.a
  | 52 => s.loadX s.s
  | 53 => s.loadA s.x
  | 54 => { s with s := s.x }
  | _ => s.loadA s.y

def PC.perform (s : PC) : PC := s.doIns s.ins.toNat
def PC.performLast (s : PC) : PC := s.perform.finish

def PC.access (s : PC) : PC × BusI :=
  if kindI s.ins = 1 then let t := s.performLast; t.write t.ad t.data
  else if kindI s.ins = 2 then let t := { s with st := 3 }; takeData (t.read t.ad)
  else let r := takeData (s.read s.ad); (r.1.performLast, r.2)
def PC.restore (s : PC) : PC × BusI := let t := { s with st := 4 }; t.write t.ad t.data
def PC.change (s : PC) : PC × BusI := let t := s.performLast; t.write t.ad t.data

def goThere (r : PC × BusI) : PC × BusI := ((takeHigh r).1.performLast, r.2)

def PC.branch (s : PC) : PC := ({ s with pc := s.ad } : PC).finish

def PC.implied (s : PC) : PC × BusI := let r := s.read s.pc; (r.1.performLast, r.2)
def PC.accumulator (s : PC) : PC × BusI :=
  let r := s.read s.pc
  let t := ({ r.1 with data := r.1.a } : PC).perform
  (({ t with a := t.data } : PC).finish, r.2)
def PC.immediate (s : PC) : PC × BusI := let r := takeData s.readNext; (r.1.performLast, r.2)
def PC.zeroPage (s : PC) : PC × BusI := takeLow ({ s with st := 2 } : PC).readNext
def PC.zeroPageBy (s : PC) (i : Int) : PC × BusI :=
  if s.step = 1 then takeLow s.readNext
  else let r := s.read s.ad; ({ r.1 with ad := withinI r.1.ad i, st := 2 }, r.2)
def PC.absolute (s : PC) : PC × BusI :=
  if s.step = 1 then takeLow s.readNext else takeHigh ({ s with st := 2 } : PC).readNext
def PC.indexed (s : PC) (i : Int) : PC × BusI :=
  let near := withinI s.ad i
  let t := { s with ad := (s.ad + i) % 65536, st := 2 }
  if t.ad = near ∧ kindI t.ins = 0 then t.access else t.read near
def PC.absoluteBy (s : PC) (i : Int) : PC × BusI :=
  if s.step = 1 then takeLow s.readNext else if s.step = 2 then takeHigh s.readNext else s.indexed i
def PC.indirectX (s : PC) : PC × BusI :=
  if s.step = 1 then takeHop s.readNext
  else if s.step = 2 then let r := s.read s.hop; ({ r.1 with hop := withinI r.1.hop r.1.x }, r.2)
  else if s.step = 3 then takeLow (s.read s.hop)
  else let t := { s with st := 2 }; takeHigh (t.read (withinI t.hop 1))
def PC.indirectY (s : PC) : PC × BusI :=
  if s.step = 1 then takeHop s.readNext
  else if s.step = 2 then takeLow (s.read s.hop)
  else if s.step = 3 then takeHigh (s.read (withinI s.hop 1))
  else s.indexed s.y
def sgn (b : Int) : Int := if b < 128 then b else b + 65280
def PC.relative (s : PC) : PC × BusI :=
  if s.step = 1 then
    let r := s.readNext
    let t := ({ r.1 with ad := (r.1.pc + sgn r.2.data) % 65536 } : PC).perform
    (if t.taken = true then t else t.finish, r.2)
  else if s.step = 2 then
    let r := s.read s.pc
    (if hiI r.1.ad = hiI r.1.pc then r.1.branch else r.1, r.2)
  else let r := s.read (joinI (loI s.ad) (hiI s.pc)); (r.1.branch, r.2)
def PC.jumpAbsolute (s : PC) : PC × BusI := if s.step = 1 then takeLow s.readNext else goThere (s.read s.pc)
def PC.jumpIndirect (s : PC) : PC × BusI :=
  if s.step = 1 then takeLow s.readNext
  else if s.step = 2 then let r := takeHigh s.readNext; ({ r.1 with hop := r.1.ad }, r.2)
  else if s.step = 3 then takeLow (s.read s.hop)
  else goThere (s.read (withinI s.hop 1))
def PC.callSubroutine (s : PC) : PC × BusI :=
  if s.step = 1 then takeLow s.readNext
  else if s.step = 2 then s.read s.stackTop
  else if s.step = 3 then s.pushed (hiI s.pc)
  else if s.step = 4 then s.pushed (loI s.pc)
  else goThere (s.read s.pc)
def PC.leaveSubroutine (s : PC) : PC × BusI :=
  if s.step = 1 then s.read s.pc
  else if s.step = 2 then s.read s.stackTop
  else if s.step = 3 then takeLow s.pulled
  else if s.step = 4 then takeHigh s.pulled
  else let r := s.read s.ad; (r.1.performLast, r.2)
def PC.leaveInterrupt (s : PC) : PC × BusI :=
  if s.step = 1 then s.read s.pc
  else if s.step = 2 then s.read s.stackTop
  else if s.step = 3 then takeData s.pulled
  else if s.step = 4 then takeLow s.pulled
  else goThere s.pulled
def PC.pushByte (s : PC) : PC × BusI :=
  if s.step = 1 then s.read s.pc
  else let t := s.perform; let r := t.pushed t.data; (r.1.finish, r.2)
def PC.pullByte (s : PC) : PC × BusI :=
  if s.step = 1 then s.read s.pc
  else if s.step = 2 then s.read s.stackTop
  else let r := takeData s.pulled; (r.1.performLast, r.2)
def PC.enter (s : PC) (v f : Int) : PC × BusI :=
  if s.step = 2 then s.pushed (hiI s.pc)
  else if s.step = 3 then s.pushed (loI s.pc)
  else if s.step = 4 then s.pushed f
  else if s.step = 5 then takeLow (s.read v)
  else goThere (s.read ((v + 1) % 65536))
def PC.enterByBreak (s : PC) : PC × BusI := if s.step = 1 then s.readNext else s.enter 65534 (bits .or .u8 s.p 16)
def PC.enterByIRQ (s : PC) : PC × BusI := if s.step = 1 then s.read s.pc else s.enter 65534 s.p
def PC.enterByNMI (s : PC) : PC × BusI := if s.step = 1 then s.read s.pc else s.enter 65530 s.p

/-- One cycle of mode number m. -/
def PC.doMode (s : PC) (m : Nat) : PC × BusI := match m with
  | 1 => s.implied
  | 2 => s.accumulator
  | 3 => s.immediate
  | 4 => s.zeroPage
  | 5 => s.zeroPageBy s.x
  | 6 => s.zeroPageBy s.y
  | 7 => s.absolute
  | 8 => s.absoluteBy s.x
  | 9 => s.absoluteBy s.y
  | 10 => s.indirectX
  | 11 => s.indirectY
  | 12 => s.relative
  | 13 => s.jumpAbsolute
  | 14 => s.jumpIndirect
  | 15 => s.callSubroutine
  | 16 => s.leaveSubroutine
  | 17 => s.pushByte
  | 18 => s.pullByte
  | 19 => s.enterByBreak
  | 20 => s.enterByNMI
  | 21 => s.enterByIRQ
  | _ => s.leaveInterrupt

def PC.begin_ (s : PC) (i m : Int) : PC :=
  if m = 0 then { s with ins := i, md := m, step := 0, st := 5 } else { s with ins := i, md := m, step := 0, st := 1 }

/-- The opcodes: instruction and mode of a byte. -/
def opTable : List (Nat × Nat × Nat) := [(0, 12, 19), (1, 34, 10), (5, 34, 4), (6, 2, 4), (8, 36, 17), (9, 34, 3), (10, 2, 2), (13, 34, 7), (14, 2, 7), (16, 8, 12), (17, 34, 11), (21, 34, 5), (22, 2, 5), (24, 13, 1), (25, 34, 9), (29, 34, 8), (30, 2, 8), (32, 28, 15), (33, 1, 10), (36, 11, 4), (37, 1, 4), (38, 39, 4), (40, 38, 18), (41, 1, 3), (42, 39, 2), (44, 11, 7), (45, 1, 7), (46, 39, 7), (48, 6, 12), (49, 1, 11), (53, 1, 5), (54, 39, 5), (56, 44, 1), (57, 1, 9), (61, 1, 8), (62, 39, 8), (64, 41, 22), (65, 23, 10), (69, 23, 4), (70, 32, 4), (72, 35, 17), (73, 23, 3), (74, 32, 2), (76, 27, 13), (77, 23, 7), (78, 32, 7), (80, 9, 12), (81, 23, 11), (85, 23, 5), (86, 32, 5), (88, 15, 1), (89, 23, 9), (93, 23, 8), (94, 32, 8), (96, 42, 16), (97, 0, 10), (101, 0, 4), (102, 40, 4), (104, 37, 18), (105, 0, 3), (106, 40, 2), (108, 27, 14), (109, 0, 7), (110, 40, 7), (112, 10, 12), (113, 0, 11), (117, 0, 5), (118, 40, 5), (120, 46, 1), (121, 0, 9), (125, 0, 8), (126, 40, 8), (129, 47, 10), (132, 49, 4), (133, 47, 4), (134, 48, 4), (136, 22, 1), (138, 53, 1), (140, 49, 7), (141, 47, 7), (142, 48, 7), (144, 3, 12), (145, 47, 11), (148, 49, 5), (149, 47, 5), (150, 48, 6), (152, 55, 1), (153, 47, 9), (154, 54, 1), (157, 47, 8), (160, 31, 3), (161, 29, 10), (162, 30, 3), (164, 31, 4), (165, 29, 4), (166, 30, 4), (168, 51, 1), (169, 29, 3), (170, 50, 1), (172, 31, 7), (173, 29, 7), (174, 30, 7), (176, 4, 12), (177, 29, 11), (180, 31, 5), (181, 29, 5), (182, 30, 6), (184, 16, 1), (185, 29, 9), (186, 52, 1), (188, 31, 8), (189, 29, 8), (190, 30, 9), (192, 19, 3), (193, 17, 10), (196, 19, 4), (197, 17, 4), (198, 20, 4), (200, 26, 1), (201, 17, 3), (202, 21, 1), (204, 19, 7), (205, 17, 7), (206, 20, 7), (208, 7, 12), (209, 17, 11), (213, 17, 5), (214, 20, 5), (216, 14, 1), (217, 17, 9), (221, 17, 8), (222, 20, 8), (224, 18, 3), (225, 43, 10), (228, 18, 4), (229, 43, 4), (230, 24, 4), (232, 25, 1), (233, 43, 3), (234, 33, 1), (236, 18, 7), (237, 43, 7), (238, 24, 7), (240, 5, 12), (241, 43, 11), (245, 43, 5), (246, 24, 5), (248, 45, 1), (249, 43, 9), (253, 43, 8), (254, 24, 8)]
def decodeI (c : Nat) : Nat × Nat := match opTable.find? (fun e => e.1 == c) with
  | some e => e.2
  | none => (0, 0)

def PC.fetch (s : PC) (irq : Bool) : PC × BusI :=
  let r := s.read s.pc
  let b : BusI := { r.2 with ft := true }
  if r.1.nmiDue = true then (({ r.1 with nmiDue := false } : PC).begin_ 12 20, b)
  else if (irq || r.1.calls) = true ∧ hasf r.1.p 4 = false then (r.1.begin_ 12 21, b)
  else (({ r.1 with pc := (r.1.pc + 1) % 65536 } : PC).begin_ (decodeI (b.data % 256).toNat).1 (decodeI (b.data % 256).toNat).2, b)

def PC.turn (s : PC) (irq : Bool) : PC × BusI :=
  if s.st = 0 then s.fetch irq
  else if s.st = 2 then s.access
  else if s.st = 3 then s.restore
  else if s.st = 4 then s.change
  else let t := { s with step := IntKind.wrap .i64 (s.step + 1) }; t.doMode t.md.toNat

def PC.cycle (s : PC) (nmi irq : Bool) : PC × BusI :=
  let s1 : PC := if nmi = true ∧ s.nmiOn = false then { s with nmiDue := true } else s
  let s2 := { s1 with nmiOn := nmi }
  let r := s2.turn irq
  let s3 := if r.2.wr = false ∨ r.2.addr ≠ 53248 then r.1.tick else r.1
  ({ s3 with cyc := IntKind.wrap .i64 (s3.cyc + 1) }, r.2)
end

/-
  A cycle in three parts; the table's bounds.
-/
section
def PC.pins (s : PC) (nmi : Bool) : PC := { s with nmiOn := nmi, nmiDue := s.nmiDue || (nmi && !s.nmiOn) }
def PC.ends (s : PC) (b : BusI) : PC := if b.wr = false ∨ b.addr ≠ 53248 then s.tick else s

theorem pc_cycle (s : PC) (nmi irq : Bool) : s.cycle nmi irq = ({ ((s.pins nmi).turn irq).1.ends ((s.pins nmi).turn irq).2 with cyc := IntKind.wrap .i64 ((((s.pins nmi).turn irq).1.ends ((s.pins nmi).turn irq).2).cyc + 1) }, ((s.pins nmi).turn irq).2) := by
  have e : ({ (if nmi = true ∧ s.nmiOn = false then { s with nmiDue := true } else s : PC) with nmiOn := nmi } : PC) = s.pins nmi := by
    unfold PC.pins
    cases nmi
    · simp
    · cases h : s.nmiOn <;> simp
  unfold PC.cycle PC.ends
  simp only [e]


theorem decode_lt (b : Nat) (h : b < 256) : (decodeI b).1 < 56 ∧ (decodeI b).2 < 23 := by
  have : ∀ n : Fin 256, (decodeI n.val).1 < 56 ∧ (decodeI n.val).2 < 23 := by decide +kernel
  exact this ⟨b, h⟩
end
end

/-
  The document's computer, told as functions over plain data, in the words of its own text.
-/
section
structure RG where
  A : Int
  X : Int
  Y : Int
  S : Int
  P : Int
  PC : Int
  cyc : Int
  jam : Bool

structure Act where
  addr : Int
  wr : Bool
  data : Int
  ft : Bool

def Act.nil : Act := ⟨0, false, 0, false⟩

abbrev BA := ByteArray
def b3 (a b c : UInt8) : BA := ⟨#[a, b, c]⟩
def b2 (a b : UInt8) : BA := ⟨#[a, b]⟩

def i64and (a b : Int) : Int := bits .and .i64 a b
def i64or (a b : Int) : Int := bits .or .i64 a b
def i64xor (a b : Int) : Int := bits .xor .i64 a b

def isW (op : BA) : Bool := op == (b3 83 84 65) || op == (b3 83 84 88) || op == (b3 83 84 89)
def isC (op : BA) : Bool := op == (b3 65 83 76) || op == (b3 76 83 82) || op == (b3 82 79 76) || op == (b3 82 79 82) || op == (b3 73 78 67) || op == (b3 68 69 67)
def kindR (op : BA) : Int := if isW op = true then 119 else if isC op = true then 99 else 114

def rdR (a : Int) : Act × Bool := (⟨a % 65536, false, 0, false⟩, true)
def wrR (a d : Int) : Act × Bool := (⟨a % 65536, true, d, false⟩, true)
def dnR : Act × Bool := (Act.nil, false)

def hd (h : List Int) (i : Nat) : Int := h.getD i 0

def indexedR (op : BA) (lo hi index n at_ : Int) : Int × Int × Act × Bool :=
  let wrong := (lo + index) % 256 + 256 * hi
  let right := (lo + index + 256 * hi) % 65536
  if kindR op = 114 ∧ wrong = right then (right, at_, Act.nil, true)
  else if n = at_ then (0, 0, ⟨wrong, false, 0, false⟩, false)
  else (right, at_ + 1, Act.nil, true)

def placeR (op md : BA) (r : RG) (h : List Int) : Int × Int × Act × Bool :=
  let n : Int := h.length
  let index := if md = (b3 122 112 121) ∨ md = (b3 97 98 121) ∨ md = (b3 105 122 121) then r.Y else r.X
  if n = 1 ∨ n = 2 ∧ (md = (b3 97 98 115) ∨ md = (b3 97 98 120) ∨ md = (b3 97 98 121)) then (0, 0, (rdR (r.PC + 1 + n - 1)).1, false)
  else if md = (b2 122 112) then (hd h 1, 2, Act.nil, true)
  else if md = (b3 122 112 120) ∨ md = (b3 122 112 121) then
    if n = 2 then (0, 0, ⟨hd h 1, false, 0, false⟩, false) else ((hd h 1 + index) % 256, 3, Act.nil, true)
  else if md = (b3 97 98 115) then (hd h 1 + 256 * hd h 2, 3, Act.nil, true)
  else if md = (b3 97 98 120) ∨ md = (b3 97 98 121) then indexedR op (hd h 1) (hd h 2) index n 3
  else if md = (b3 105 122 120) then
    if n < 5 then (0, 0, ⟨(if n = 2 then hd h 1 else if n = 3 then hd h 1 + r.X else hd h 1 + r.X + 1) % 256, false, 0, false⟩, false)
    else (hd h 3 + 256 * hd h 4, 5, Act.nil, true)
  else if n < 4 then (0, 0, ⟨(hd h 1 + n - 2) % 256, false, 0, false⟩, false)
  else indexedR op (hd h 2) (hd h 3) index n 4

def nzR (p b : Int) : Int :=
  let p1 := i64and p 125
  let p2 := if 127 < b then i64or p1 128 else p1
  if b = 0 then i64or p2 2 else p2
def carryR (p : Int) (c : Bool) : Int := if c = true then i64or p 1 else i64and p 254

def changedR (op : BA) (b p : Int) : Int × Int :=
  if op = (b3 65 83 76) then (b * 2 % 256, nzR (carryR p (decide (127 < b))) (b * 2 % 256))
  else if op = (b3 82 79 76) then (b * 2 % 256 + i64and p 1, nzR (carryR p (decide (127 < b))) (b * 2 % 256 + i64and p 1))
  else if op = (b3 76 83 82) then (b / 2, nzR (carryR p (b % 2 == 1)) (b / 2))
  else if op = (b3 82 79 82) then (b / 2 + 128 * i64and p 1, nzR (carryR p (b % 2 == 1)) (b / 2 + 128 * i64and p 1))
  else if op = (b3 73 78 67) then ((b + 1) % 256, nzR p ((b + 1) % 256))
  else if op = (b3 68 69 67) then ((b - 1) % 256, nzR p ((b - 1) % 256))
  else (b, nzR p b)

def usesR (op : BA) (r : RG) (h : List Int) (a from_ : Int) : Act × Bool :=
  let n : Int := h.length - from_
  if kindR op = 114 then (if n = 0 then rdR a else dnR)
  else if kindR op = 119 then (if n = 0 then wrR a (if op = (b3 83 84 65) then r.A else if op = (b3 83 84 88) then r.X else r.Y) else dnR)
  else if n = 0 then rdR a
  else if n = 1 then wrR a (hd h from_.toNat)
  else if n = 2 then wrR a (changedR op (hd h from_.toNat) r.P).1
  else dnR

def entersR (op : BA) (r : RG) (n : Int) : Act × Bool :=
  let back := if op = (b3 66 82 75) then (r.PC + 2) % 65536 else r.PC
  let p := if op = (b3 66 82 75) then i64or r.P 16 else r.P
  let vector := if op = (b3 78 77 73) then 65530 else 65534
  if n = 1 then (if op = (b3 66 82 75) then rdR (r.PC + 1) else rdR r.PC)
  else if n = 2 then wrR (256 + r.S) (back / 256)
  else if n = 3 then wrR (256 + (r.S - 1) % 256) (back % 256)
  else if n = 4 then wrR (256 + (r.S - 2) % 256) p
  else if n = 5 then rdR vector
  else if n = 6 then rdR (vector + 1)
  else dnR

def pullsR (op : BA) (r : RG) (h : List Int) : Act × Bool :=
  let n : Int := h.length
  let most := if op = (b3 82 84 83) then 5 else if op = (b3 82 84 73) then 6 else 4
  if n = 1 then rdR (r.PC + 1)
  else if n < most then rdR (256 + (r.S + n - 2) % 256)
  else if n = 5 ∧ op = (b3 82 84 83) then rdR (hd h 3 + 256 * hd h 4)
  else dnR

def jumpsR (md : BA) (r : RG) (h : List Int) : Act × Bool :=
  let n : Int := h.length
  if n < 3 then rdR (r.PC + n)
  else if n = 3 ∧ md = (b3 105 110 100) then rdR (hd h 1 + 256 * hd h 2)
  else if n = 4 then rdR ((hd h 1 + 1) % 256 + 256 * hd h 2)
  else dnR

def takenR (op : BA) (p : Int) : Bool :=
  if op = (b3 66 67 67) then (i64and p 1 != 0) == false
  else if op = (b3 66 67 83) then (i64and p 1 != 0) == true
  else if op = (b3 66 78 69) then (i64and p 2 != 0) == false
  else if op = (b3 66 69 81) then (i64and p 2 != 0) == true
  else if op = (b3 66 80 76) then (i64and p 128 != 0) == false
  else if op = (b3 66 77 73) then (i64and p 128 != 0) == true
  else if op = (b3 66 86 67) then (i64and p 64 != 0) == false
  else if op = (b3 66 86 83) then (i64and p 64 != 0) == true
  else false

def goalR (r : RG) (d : Int) : Int := (r.PC + 2 + (if 127 < d then d - 256 else d)) % 65536

def branchesR (op : BA) (r : RG) (h : List Int) : Act × Bool :=
  let n : Int := h.length
  let behind := (r.PC + 2) % 65536
  if n = 1 then rdR (r.PC + 1)
  else if n = 2 ∧ takenR op r.P = true then rdR behind
  else if n = 3 then
    (if goalR r (hd h 1) / 256 ≠ behind / 256 then rdR (behind / 256 * 256 + goalR r (hd h 1) % 256) else dnR)
  else dnR

def nextR (op md : BA) (r : RG) (h : List Int) : Act × Bool :=
  let n : Int := h.length
  if op = (b3 78 77 73) ∨ op = (b3 73 82 81) ∨ op = (b3 66 82 75) then entersR op r n
  else if op = (b3 74 83 82) then
    (if n = 1 then rdR (r.PC + 1)
    else if n = 2 then rdR (256 + r.S)
    else if n = 3 then wrR (256 + r.S) ((r.PC + 1 + 1) % 65536 / 256)
    else if n = 4 then wrR (256 + (r.S - 1) % 256) ((r.PC + 1 + 1) % 256)
    else if n = 5 then rdR (r.PC + 1 + 1)
    else dnR)
  else if op = (b3 82 84 83) ∨ op = (b3 82 84 73) ∨ op = (b3 80 76 65) ∨ op = (b3 80 76 80) then pullsR op r h
  else if op = (b3 80 72 65) ∧ n = 2 then wrR (256 + r.S) r.A
  else if op = (b3 80 72 80) ∧ n = 2 then wrR (256 + r.S) (i64or r.P 16)
  else if op = (b3 74 77 80) then jumpsR md r h
  else if md = (b3 105 109 112) ∨ md = (b3 97 99 99) ∨ md = (b3 105 109 109) then (if n = 1 then rdR (r.PC + 1) else dnR)
  else if md = (b3 114 101 108) then branchesR op r h
  else
    let q := placeR op md r h
    if q.2.2.2 = false then (q.2.2.1, true) else usesR op r h q.1 q.2.1

def addedR (r : RG) (m : Int) : RG :=
  let sum := r.A + m + i64and r.P 1
  let b := sum % 256
  let p := i64and (carryR (nzR r.P b) (decide (255 < sum))) 191
  let p2 := if (decide (127 < r.A) == decide (127 < m)) = true ∧ (decide (127 < b) != decide (127 < m)) = true then i64or p 64 else p
  { r with A := b, P := p2 }
def comparedR (r : RG) (a m : Int) : RG := { r with P := carryR (nzR r.P ((a - m) % 256)) (decide (m ≤ a)) }

def loadsR (op : BA) (r : RG) (m : Int) : RG :=
  if op = (b3 76 68 65) then { r with A := m, P := nzR r.P m }
  else if op = (b3 76 68 88) then { r with X := m, P := nzR r.P m }
  else if op = (b3 76 68 89) then { r with Y := m, P := nzR r.P m }
  else if op = (b3 65 78 68) then { r with A := i64and r.A m, P := nzR r.P (i64and r.A m) }
  else if op = (b3 79 82 65) then { r with A := i64or r.A m, P := nzR r.P (i64or r.A m) }
  else if op = (b3 69 79 82) then { r with A := i64xor r.A m, P := nzR r.P (i64xor r.A m) }
  else if op = (b3 65 68 67) then addedR r m
  else if op = (b3 83 66 67) then addedR r (255 - m)
  else if op = (b3 67 77 80) then comparedR r r.A m
  else if op = (b3 67 80 88) then comparedR r r.X m
  else if op = (b3 67 80 89) then comparedR r r.Y m
  else if op = (b3 66 73 84) then { r with P := i64or (i64and (nzR r.P (i64and r.A m)) 63) (i64and m 192) }
  else r

def plainR (op : BA) (r : RG) : RG :=
  if op = (b3 84 65 88) then { r with X := r.A, P := nzR r.P r.A }
  else if op = (b3 84 65 89) then { r with Y := r.A, P := nzR r.P r.A }
  else if op = (b3 84 88 65) then { r with A := r.X, P := nzR r.P r.X }
  else if op = (b3 84 89 65) then { r with A := r.Y, P := nzR r.P r.Y }
  else if op = (b3 84 83 88) then { r with X := r.S, P := nzR r.P r.S }
  else if op = (b3 84 88 83) then { r with S := r.X }
  else if op = (b3 73 78 88) then { r with X := (r.X + 1) % 256, P := nzR r.P ((r.X + 1) % 256) }
  else if op = (b3 73 78 89) then { r with Y := (r.Y + 1) % 256, P := nzR r.P ((r.Y + 1) % 256) }
  else if op = (b3 68 69 88) then { r with X := (r.X - 1) % 256, P := nzR r.P ((r.X - 1) % 256) }
  else if op = (b3 68 69 89) then { r with Y := (r.Y - 1) % 256, P := nzR r.P ((r.Y - 1) % 256) }
  else if op = (b3 67 76 67) then { r with P := i64and r.P 254 }
  else if op = (b3 83 69 67) then { r with P := i64or r.P 1 }
  else if op = (b3 67 76 73) then { r with P := i64and r.P 251 }
  else if op = (b3 83 69 73) then { r with P := i64or r.P 4 }
  else if op = (b3 67 76 86) then { r with P := i64and r.P 191 }
  else if op = (b3 67 76 68) then { r with P := i64and r.P 247 }
  else if op = (b3 83 69 68) then { r with P := i64or r.P 8 }
  else if op = (b3 80 72 65) ∨ op = (b3 80 72 80) then { r with S := (r.S - 1) % 256 }
  else r

def flowsR (op : BA) (r : RG) (h : List Int) : RG :=
  if op = (b3 78 77 73) ∨ op = (b3 73 82 81) ∨ op = (b3 66 82 75) then { r with S := (r.S - 3) % 256, P := i64or r.P 4, PC := hd h 5 + 256 * hd h 6 }
  else if op = (b3 74 83 82) then { r with S := (r.S - 2) % 256, PC := hd h 1 + 256 * hd h 5 }
  else if op = (b3 82 84 83) then { r with S := (r.S + 2) % 256, PC := (hd h 3 + 256 * hd h 4 + 1) % 65536 }
  else if op = (b3 82 84 73) then { r with S := (r.S + 3) % 256, P := i64or (i64and (hd h 3) 207) 32, PC := hd h 4 + 256 * hd h 5 }
  else if op = (b3 80 76 65) then { r with S := (r.S + 1) % 256, A := hd h 3, P := nzR r.P (hd h 3) }
  else if op = (b3 80 76 80) then { r with S := (r.S + 1) % 256, P := i64or (i64and (hd h 3) 207) 32 }
  else if op = (b3 74 77 80) then { r with PC := hd h (h.length - 2) + 256 * hd h (h.length - 1) }
  else r

def sizeR (md : BA) : Int :=
  if md = (b3 105 109 109) ∨ md = (b2 122 112) ∨ md = (b3 122 112 120) ∨ md = (b3 122 112 121) ∨ md = (b3 105 122 120) ∨ md = (b3 105 122 121) ∨ md = (b3 114 101 108) then 2
  else if md = (b3 97 98 115) ∨ md = (b3 97 98 120) ∨ md = (b3 97 98 121) then 3 else 1

def farR (op : BA) : Bool := op == (b3 78 77 73) || op == (b3 73 82 81) || op == (b3 66 82 75) || op == (b3 74 83 82) || op == (b3 82 84 83) || op == (b3 82 84 73) || op == (b3 74 77 80)

def doneR (op md : BA) (r : RG) (h : List Int) : RG :=
  if farR op = true then flowsR op r h
  else
    let r2 : RG := { r with PC := if md = (b3 114 101 108) ∧ takenR op r.P = true then goalR r (hd h 1) else (r.PC + sizeR md) % 65536 }
    if md = (b3 105 109 112) then flowsR op (plainR op r2) h
    else if md = (b3 97 99 99) then { r2 with A := (changedR op r2.A r2.P).1, P := (changedR op r2.A r2.P).2 }
    else if md = (b3 114 101 108) ∨ kindR op = 119 then r2
    else if kindR op = 99 then { r2 with P := (changedR op (hd h (h.length - 3)) r2.P).2 }
    else loadsR op r2 (hd h (h.length - 1))

/-- The document's table. -/
def refTable : List (Nat × BA × BA) := [(0, (b3 66 82 75), (b3 105 109 112)), (1, (b3 79 82 65), (b3 105 122 120)), (5, (b3 79 82 65), (b2 122 112)), (6, (b3 65 83 76), (b2 122 112)), (8, (b3 80 72 80), (b3 105 109 112)), (9, (b3 79 82 65), (b3 105 109 109)), (10, (b3 65 83 76), (b3 97 99 99)), (13, (b3 79 82 65), (b3 97 98 115)), (14, (b3 65 83 76), (b3 97 98 115)), (16, (b3 66 80 76), (b3 114 101 108)), (17, (b3 79 82 65), (b3 105 122 121)), (21, (b3 79 82 65), (b3 122 112 120)), (22, (b3 65 83 76), (b3 122 112 120)), (24, (b3 67 76 67), (b3 105 109 112)), (25, (b3 79 82 65), (b3 97 98 121)), (29, (b3 79 82 65), (b3 97 98 120)), (30, (b3 65 83 76), (b3 97 98 120)), (32, (b3 74 83 82), (b3 97 98 115)), (33, (b3 65 78 68), (b3 105 122 120)), (36, (b3 66 73 84), (b2 122 112)), (37, (b3 65 78 68), (b2 122 112)), (38, (b3 82 79 76), (b2 122 112)), (40, (b3 80 76 80), (b3 105 109 112)), (41, (b3 65 78 68), (b3 105 109 109)), (42, (b3 82 79 76), (b3 97 99 99)), (44, (b3 66 73 84), (b3 97 98 115)), (45, (b3 65 78 68), (b3 97 98 115)), (46, (b3 82 79 76), (b3 97 98 115)), (48, (b3 66 77 73), (b3 114 101 108)), (49, (b3 65 78 68), (b3 105 122 121)), (53, (b3 65 78 68), (b3 122 112 120)), (54, (b3 82 79 76), (b3 122 112 120)), (56, (b3 83 69 67), (b3 105 109 112)), (57, (b3 65 78 68), (b3 97 98 121)), (61, (b3 65 78 68), (b3 97 98 120)), (62, (b3 82 79 76), (b3 97 98 120)), (64, (b3 82 84 73), (b3 105 109 112)), (65, (b3 69 79 82), (b3 105 122 120)), (69, (b3 69 79 82), (b2 122 112)), (70, (b3 76 83 82), (b2 122 112)), (72, (b3 80 72 65), (b3 105 109 112)), (73, (b3 69 79 82), (b3 105 109 109)), (74, (b3 76 83 82), (b3 97 99 99)), (76, (b3 74 77 80), (b3 97 98 115)), (77, (b3 69 79 82), (b3 97 98 115)), (78, (b3 76 83 82), (b3 97 98 115)), (80, (b3 66 86 67), (b3 114 101 108)), (81, (b3 69 79 82), (b3 105 122 121)), (85, (b3 69 79 82), (b3 122 112 120)), (86, (b3 76 83 82), (b3 122 112 120)), (88, (b3 67 76 73), (b3 105 109 112)), (89, (b3 69 79 82), (b3 97 98 121)), (93, (b3 69 79 82), (b3 97 98 120)), (94, (b3 76 83 82), (b3 97 98 120)), (96, (b3 82 84 83), (b3 105 109 112)), (97, (b3 65 68 67), (b3 105 122 120)), (101, (b3 65 68 67), (b2 122 112)), (102, (b3 82 79 82), (b2 122 112)), (104, (b3 80 76 65), (b3 105 109 112)), (105, (b3 65 68 67), (b3 105 109 109)), (106, (b3 82 79 82), (b3 97 99 99)), (108, (b3 74 77 80), (b3 105 110 100)), (109, (b3 65 68 67), (b3 97 98 115)), (110, (b3 82 79 82), (b3 97 98 115)), (112, (b3 66 86 83), (b3 114 101 108)), (113, (b3 65 68 67), (b3 105 122 121)), (117, (b3 65 68 67), (b3 122 112 120)), (118, (b3 82 79 82), (b3 122 112 120)), (120, (b3 83 69 73), (b3 105 109 112)), (121, (b3 65 68 67), (b3 97 98 121)), (125, (b3 65 68 67), (b3 97 98 120)), (126, (b3 82 79 82), (b3 97 98 120)), (129, (b3 83 84 65), (b3 105 122 120)), (132, (b3 83 84 89), (b2 122 112)), (133, (b3 83 84 65), (b2 122 112)), (134, (b3 83 84 88), (b2 122 112)), (136, (b3 68 69 89), (b3 105 109 112)), (138, (b3 84 88 65), (b3 105 109 112)), (140, (b3 83 84 89), (b3 97 98 115)), (141, (b3 83 84 65), (b3 97 98 115)), (142, (b3 83 84 88), (b3 97 98 115)), (144, (b3 66 67 67), (b3 114 101 108)), (145, (b3 83 84 65), (b3 105 122 121)), (148, (b3 83 84 89), (b3 122 112 120)), (149, (b3 83 84 65), (b3 122 112 120)), (150, (b3 83 84 88), (b3 122 112 121)), (152, (b3 84 89 65), (b3 105 109 112)), (153, (b3 83 84 65), (b3 97 98 121)), (154, (b3 84 88 83), (b3 105 109 112)), (157, (b3 83 84 65), (b3 97 98 120)), (160, (b3 76 68 89), (b3 105 109 109)), (161, (b3 76 68 65), (b3 105 122 120)), (162, (b3 76 68 88), (b3 105 109 109)), (164, (b3 76 68 89), (b2 122 112)), (165, (b3 76 68 65), (b2 122 112)), (166, (b3 76 68 88), (b2 122 112)), (168, (b3 84 65 89), (b3 105 109 112)), (169, (b3 76 68 65), (b3 105 109 109)), (170, (b3 84 65 88), (b3 105 109 112)), (172, (b3 76 68 89), (b3 97 98 115)), (173, (b3 76 68 65), (b3 97 98 115)), (174, (b3 76 68 88), (b3 97 98 115)), (176, (b3 66 67 83), (b3 114 101 108)), (177, (b3 76 68 65), (b3 105 122 121)), (180, (b3 76 68 89), (b3 122 112 120)), (181, (b3 76 68 65), (b3 122 112 120)), (182, (b3 76 68 88), (b3 122 112 121)), (184, (b3 67 76 86), (b3 105 109 112)), (185, (b3 76 68 65), (b3 97 98 121)), (186, (b3 84 83 88), (b3 105 109 112)), (188, (b3 76 68 89), (b3 97 98 120)), (189, (b3 76 68 65), (b3 97 98 120)), (190, (b3 76 68 88), (b3 97 98 121)), (192, (b3 67 80 89), (b3 105 109 109)), (193, (b3 67 77 80), (b3 105 122 120)), (196, (b3 67 80 89), (b2 122 112)), (197, (b3 67 77 80), (b2 122 112)), (198, (b3 68 69 67), (b2 122 112)), (200, (b3 73 78 89), (b3 105 109 112)), (201, (b3 67 77 80), (b3 105 109 109)), (202, (b3 68 69 88), (b3 105 109 112)), (204, (b3 67 80 89), (b3 97 98 115)), (205, (b3 67 77 80), (b3 97 98 115)), (206, (b3 68 69 67), (b3 97 98 115)), (208, (b3 66 78 69), (b3 114 101 108)), (209, (b3 67 77 80), (b3 105 122 121)), (213, (b3 67 77 80), (b3 122 112 120)), (214, (b3 68 69 67), (b3 122 112 120)), (216, (b3 67 76 68), (b3 105 109 112)), (217, (b3 67 77 80), (b3 97 98 121)), (221, (b3 67 77 80), (b3 97 98 120)), (222, (b3 68 69 67), (b3 97 98 120)), (224, (b3 67 80 88), (b3 105 109 109)), (225, (b3 83 66 67), (b3 105 122 120)), (228, (b3 67 80 88), (b2 122 112)), (229, (b3 83 66 67), (b2 122 112)), (230, (b3 73 78 67), (b2 122 112)), (232, (b3 73 78 88), (b3 105 109 112)), (233, (b3 83 66 67), (b3 105 109 109)), (234, (b3 78 79 80), (b3 105 109 112)), (236, (b3 67 80 88), (b3 97 98 115)), (237, (b3 83 66 67), (b3 97 98 115)), (238, (b3 73 78 67), (b3 97 98 115)), (240, (b3 66 69 81), (b3 114 101 108)), (241, (b3 83 66 67), (b3 105 122 121)), (245, (b3 83 66 67), (b3 122 112 120)), (246, (b3 73 78 67), (b3 122 112 120)), (248, (b3 83 69 68), (b3 105 109 112)), (249, (b3 83 66 67), (b3 97 98 121)), (253, (b3 83 66 67), (b3 97 98 120)), (254, (b3 73 78 67), (b3 97 98 120))]
def codeR (b : Int) : BA × BA := match refTable.find? (fun e => (e.1 : Int) == b) with
  | some e => e.2
  | none => (⟨#[]⟩, ⟨#[]⟩)

structure RS where
  mem : Nat → Int
  rom : Int
  r : RG
  cnt : Int
  calls : Bool
  nmi : Bool
  due : Bool
  op : BA
  md : BA
  h : List Int

def RS.peek (t : RS) (a : Int) : Int := if a = 53248 then t.cnt else if a = 53249 then (if t.calls = true then 128 else 0) else t.mem a.toNat

def RS.bus (t : RS) (a : Act) : RS × BusI :=
  if a.wr = false then
    (if a.addr = 53249 then { t with calls := false } else t, ⟨a.addr, t.peek a.addr, false, a.ft⟩)
  else if a.addr = 53248 then ({ t with cnt := a.data }, ⟨a.addr, a.data, true, a.ft⟩)
  else if a.addr < t.rom ∧ a.addr ≠ 53249 then ({ t with mem := mput t.mem a.addr.toNat a.data }, ⟨a.addr, a.data, true, a.ft⟩)
  else (t, ⟨a.addr, a.data, true, a.ft⟩)

def RS.counts (t : RS) (b : BusI) : RS :=
  if b.wr = true ∧ b.addr = 53248 ∨ t.cnt = 0 then t
  else if t.cnt - 1 = 0 then { t with cnt := t.cnt - 1, calls := true } else { t with cnt := t.cnt - 1 }

def RS.begins (t : RS) (b : Int) (irq : Bool) : RS :=
  if t.due = true then { t with due := false, op := (b3 78 77 73), md := (b3 115 101 113) }
  else if (irq || t.calls) = true ∧ i64and t.r.P 4 = 0 then { t with op := (b3 73 82 81), md := (b3 115 101 113) }
  else { t with op := (codeR b).1, md := (codeR b).2, r := { t.r with jam := (codeR b).1 == ⟨#[]⟩ } }

def RS.cycle (t : RS) (nmi irq : Bool) : RS × BusI :=
  let t1 : RS := { t with due := t.due || (nmi && !t.nmi), nmi := nmi, r := { t.r with cyc := IntKind.wrap .i64 (t.r.cyc + 1) } }
  let a := if t1.h.length > 0 then (nextR t1.op t1.md t1.r t1.h).1 else ⟨t1.r.PC, false, 0, true⟩
  let q := t1.bus a
  let t2 := if t1.h.length = 0 then q.1.begins q.2.data irq else q.1
  let t3 := t2.counts q.2
  if t3.r.jam = true then (t3, q.2)
  else
    let h := t3.h ++ [q.2.data]
    if (nextR t3.op t3.md t3.r h).2 = true then ({ t3 with h := h }, q.2)
    else ({ t3 with h := [], r := doneR t3.op t3.md t3.r h }, q.2)
end

/-
  Flags: the program's and the document's, alike.
-/
section
theorem all_byte {p : Int → Prop} (h : ∀ n : Fin 256, p ((n.val : Nat) : Int)) (c : Int) (h0 : 0 ≤ c) (h1 : c < 256) : p c := by
  have := h ⟨c.toNat, by omega⟩
  simpa [Int.toNat_of_nonneg h0] using this

def nzB (p : Int) (n z : Bool) : Int := setf (setf p 128 n) 2 z
def nzRB (p : Int) (n z : Bool) : Int :=
  let p1 := i64and p 125
  let p2 := if n = true then i64or p1 128 else p1
  if z = true then i64or p2 2 else p2

theorem top_bit (b : Int) (h0 : 0 ≤ b) (h1 : b < 256) : (bits .and .u8 b 128 != 0) = decide (127 < b) := by
  revert b
  intro b h0 h1
  exact all_byte (p := fun b => (bits .and .u8 b 128 != 0) = decide (127 < b)) (by decide +kernel) b h0 h1
theorem low_bit (b : Int) (h0 : 0 ≤ b) (h1 : b < 256) : (bits .and .u8 b 1 != 0) = (b % 2 == 1) :=
  all_byte (p := fun b => (bits .and .u8 b 1 != 0) = (b % 2 == 1)) (by decide +kernel) b h0 h1

theorem nz_alike (p : Int) (h0 : 0 ≤ p) (h1 : p < 256) (n z : Bool) : nzB p n z = nzRB p n z :=
  all_byte (p := fun p => ∀ n z, nzB p n z = nzRB p n z) (by decide +kernel) p h0 h1 n z

theorem nz_eq (p b : Int) (h0 : 0 ≤ p) (h1 : p < 256) (b0 : 0 ≤ b) (b1 : b < 256) : nzI p b = nzR p b := by
  have e1 : nzI p b = nzB p (decide (127 < b)) (b == 0) := by unfold nzI nzB; rw [top_bit b b0 b1]
  have e2 : nzR p b = nzRB p (decide (127 < b)) (b == 0) := by unfold nzR nzRB; simp only [decide_eq_true_eq, beq_iff_eq]
  rw [e1, e2, nz_alike p h0 h1]

theorem carry_eq (p : Int) (c : Bool) (h0 : 0 ≤ p) (h1 : p < 256) : setf p 1 c = carryR p c :=
  all_byte (p := fun p => ∀ c, setf p 1 c = carryR p c) (by decide +kernel) p h0 h1 c

theorem carryR_r (p : Int) (c : Bool) (h0 : 0 ≤ p) (h1 : p < 256) : 0 ≤ carryR p c ∧ carryR p c < 256 :=
  all_byte (p := fun p => ∀ c, 0 ≤ carryR p c ∧ carryR p c < 256) (by decide +kernel) p h0 h1 c

/-- C ahead of N and Z, or behind them. -/
theorem nz_carry (p : Int) (h0 : 0 ≤ p) (h1 : p < 256) (n z c : Bool) : nzB (setf p 1 c) n z = carryR (nzRB p n z) c :=
  all_byte (p := fun p => ∀ n z c, nzB (setf p 1 c) n z = carryR (nzRB p n z) c) (by decide +kernel) p h0 h1 n z c

theorem cmp_flags (p b : Int) (c : Bool) (h0 : 0 ≤ p) (h1 : p < 256) (b0 : 0 ≤ b) (b1 : b < 256) : nzI (setf p 1 c) b = carryR (nzR p b) c := by
  have e1 : nzI (setf p 1 c) b = nzB (setf p 1 c) (decide (127 < b)) (b == 0) := by unfold nzI nzB; rw [top_bit b b0 b1]
  have e2 : nzR p b = nzRB p (decide (127 < b)) (b == 0) := by unfold nzR nzRB; simp only [decide_eq_true_eq, beq_iff_eq]
  rw [e1, e2, nz_carry p h0 h1]

theorem adc_flags (p : Int) (h0 : 0 ≤ p) (h1 : p < 256) (n z c v : Bool) : nzB (setf (setf p 1 c) 64 v) n z = (if v = true then i64or (i64and (carryR (nzRB p n z) c) 191) 64 else i64and (carryR (nzRB p n z) c) 191) :=
  all_byte (p := fun p => ∀ n z c v, nzB (setf (setf p 1 c) 64 v) n z = (if v = true then i64or (i64and (carryR (nzRB p n z) c) 191) 64 else i64and (carryR (nzRB p n z) c) 191)) (by decide +kernel) p h0 h1 n z c v

theorem ofInt_64 (a : Nat) (ha : a < 256) : (BitVec.ofInt 64 (a : Int)).toNat = a := by
  rw [BitVec.ofInt_natCast, BitVec.toNat_ofNat]; exact Nat.mod_eq_of_lt (by omega)
theorem i64_and_nat (a b : Nat) (ha : a < 256) (hb : b < 256) : i64and (a : Int) (b : Int) = ((a &&& b : Nat) : Int) := by
  have hx : a &&& b < 2 ^ 8 := Nat.and_lt_two_pow _ (by omega)
  show IntKind.i64.wrap ((BitVec.ofInt 64 (a : Int) &&& BitVec.ofInt 64 (b : Int)).toNat : Int) = _
  rw [BitVec.toNat_and, ofInt_64 a ha, ofInt_64 b hb, IntKind.wrap_i64]
  omega
theorem i64_or_nat (a b : Nat) (ha : a < 256) (hb : b < 256) : i64or (a : Int) (b : Int) = ((a ||| b : Nat) : Int) := by
  have hx : a ||| b < 2 ^ 8 := Nat.or_lt_two_pow (by omega) (by omega)
  show IntKind.i64.wrap ((BitVec.ofInt 64 (a : Int) ||| BitVec.ofInt 64 (b : Int)).toNat : Int) = _
  rw [BitVec.toNat_or, ofInt_64 a ha, ofInt_64 b hb, IntKind.wrap_i64]
  omega
theorem i64_xor_nat (a b : Nat) (ha : a < 256) (hb : b < 256) : i64xor (a : Int) (b : Int) = ((a ^^^ b : Nat) : Int) := by
  have hx : a ^^^ b < 2 ^ 8 := Nat.xor_lt_two_pow (by omega) (by omega)
  show IntKind.i64.wrap ((BitVec.ofInt 64 (a : Int) ^^^ BitVec.ofInt 64 (b : Int)).toNat : Int) = _
  rw [BitVec.toNat_xor, ofInt_64 a ha, ofInt_64 b hb, IntKind.wrap_i64]
  omega

theorem and_u8_i64 (a b : Int) (h0 : 0 ≤ a) (h1 : a < 256) (b0 : 0 ≤ b) (b1 : b < 256) : bits .and .u8 a b = i64and a b := by
  obtain ⟨A, rfl⟩ := Int.eq_ofNat_of_zero_le h0
  obtain ⟨B, rfl⟩ := Int.eq_ofNat_of_zero_le b0
  rw [u8_and_nat A B (by omega) (by omega), i64_and_nat A B (by omega) (by omega)]
theorem or_u8_i64 (a b : Int) (h0 : 0 ≤ a) (h1 : a < 256) (b0 : 0 ≤ b) (b1 : b < 256) : bits .or .u8 a b = i64or a b := by
  obtain ⟨A, rfl⟩ := Int.eq_ofNat_of_zero_le h0
  obtain ⟨B, rfl⟩ := Int.eq_ofNat_of_zero_le b0
  rw [u8_or_nat A B (by omega) (by omega), i64_or_nat A B (by omega) (by omega)]
theorem xor_u8_i64 (a b : Int) (h0 : 0 ≤ a) (h1 : a < 256) (b0 : 0 ≤ b) (b1 : b < 256) : bits .xor .u8 a b = i64xor a b := by
  obtain ⟨A, rfl⟩ := Int.eq_ofNat_of_zero_le h0
  obtain ⟨B, rfl⟩ := Int.eq_ofNat_of_zero_le b0
  rw [u8_xor_nat A B (by omega) (by omega), i64_xor_nat A B (by omega) (by omega)]

theorem bit7 (n : Nat) (h : n < 256) : n.testBit 7 = decide (127 < n) := by
  have : ∀ n : Fin 256, n.val.testBit 7 = decide (127 < n.val) := by decide +kernel
  exact this ⟨n, h⟩
theorem and128 (n : Nat) (h : n < 256) : ((n &&& 128 : Nat) != 0) = n.testBit 7 := by
  have : ∀ n : Fin 256, ((n.val &&& 128 : Nat) != 0) = n.val.testBit 7 := by decide +kernel
  exact this ⟨n, h⟩

theorem overflow_eq (a m c : Int) (a0 : 0 ≤ a) (a1 : a < 256) (m0 : 0 ≤ m) (m1 : m < 256) (c0 : 0 ≤ c) (c1 : c < 256) :
    (bits .and .u8 (bits .and .u8 (bits .xor .u8 c a) (bits .xor .u8 c m)) 128 != 0) = ((decide (127 < a) == decide (127 < m)) && (decide (127 < c) != decide (127 < m))) := by
  obtain ⟨A, rfl⟩ := Int.eq_ofNat_of_zero_le a0
  obtain ⟨M, rfl⟩ := Int.eq_ofNat_of_zero_le m0
  obtain ⟨C, rfl⟩ := Int.eq_ofNat_of_zero_le c0
  have x1 : C ^^^ A < 2 ^ 8 := Nat.xor_lt_two_pow (by omega) (by omega)
  have x2 : C ^^^ M < 2 ^ 8 := Nat.xor_lt_two_pow (by omega) (by omega)
  have x3 : (C ^^^ A) &&& (C ^^^ M) < 2 ^ 8 := Nat.and_lt_two_pow _ (by omega)
  rw [u8_xor_nat C A (by omega) (by omega), u8_xor_nat C M (by omega) (by omega), u8_and_nat _ _ (by omega) (by omega)]
  rw [show (128 : Int) = ((128 : Nat) : Int) from rfl, u8_and_nat _ _ (by omega) (by omega)]
  have e : ((((C ^^^ A) &&& (C ^^^ M) &&& 128 : Nat) : Int) != 0) = (((C ^^^ A) &&& (C ^^^ M) &&& 128 : Nat) != 0) := by
    rw [Bool.eq_iff_iff]; simp
  rw [e, and128 _ (by omega), Nat.testBit_and, Nat.testBit_xor, Nat.testBit_xor, bit7 C (by omega), bit7 A (by omega), bit7 M (by omega)]
  have q : ∀ n : Nat, decide ((127 : Int) < (n : Int)) = decide (127 < n) := fun n => by rw [decide_eq_decide]; omega
  rw [q, q, q]
  cases decide (127 < C) <;> cases decide (127 < A) <;> cases decide (127 < M) <;> rfl
end

/-
  Instructions: what the program does and what the document says, alike.
-/
section
/-- The names of the instructions, by the program's numbers. -/
def insName (i : Nat) : BA := match i with
  | 0 => (b3 65 68 67)
  | 1 => (b3 65 78 68)
  | 2 => (b3 65 83 76)
  | 3 => (b3 66 67 67)
  | 4 => (b3 66 67 83)
  | 5 => (b3 66 69 81)
  | 6 => (b3 66 77 73)
  | 7 => (b3 66 78 69)
  | 8 => (b3 66 80 76)
  | 9 => (b3 66 86 67)
  | 10 => (b3 66 86 83)
  | 11 => (b3 66 73 84)
  | 12 => (b3 66 82 75)
  | 13 => (b3 67 76 67)
  | 14 => (b3 67 76 68)
  | 15 => (b3 67 76 73)
  | 16 => (b3 67 76 86)
  | 17 => (b3 67 77 80)
  | 18 => (b3 67 80 88)
  | 19 => (b3 67 80 89)
  | 20 => (b3 68 69 67)
  | 21 => (b3 68 69 88)
  | 22 => (b3 68 69 89)
  | 23 => (b3 69 79 82)
  | 24 => (b3 73 78 67)
  | 25 => (b3 73 78 88)
  | 26 => (b3 73 78 89)
  | 27 => (b3 74 77 80)
  | 28 => (b3 74 83 82)
  | 29 => (b3 76 68 65)
  | 30 => (b3 76 68 88)
  | 31 => (b3 76 68 89)
  | 32 => (b3 76 83 82)
  | 33 => (b3 78 79 80)
  | 34 => (b3 79 82 65)
  | 35 => (b3 80 72 65)
  | 36 => (b3 80 72 80)
  | 37 => (b3 80 76 65)
  | 38 => (b3 80 76 80)
  | 39 => (b3 82 79 76)
  | 40 => (b3 82 79 82)
  | 41 => (b3 82 84 73)
  | 42 => (b3 82 84 83)
  | 43 => (b3 83 66 67)
  | 44 => (b3 83 69 67)
  | 45 => (b3 83 69 68)
  | 46 => (b3 83 69 73)
  | 47 => (b3 83 84 65)
  | 48 => (b3 83 84 88)
  | 49 => (b3 83 84 89)
  | 50 => (b3 84 65 88)
  | 51 => (b3 84 65 89)
  | 52 => (b3 84 83 88)
  | 53 => (b3 84 88 65)
  | 54 => (b3 84 88 83)
  | _ => (b3 84 89 65)

/-- The registers, as the document has them. -/
def PC.rg (s : PC) (c : Int) (j : Bool) : RG := ⟨s.a, s.x, s.y, s.s, s.p, s.pc, c, j⟩

/-- The registers of s turned into those of r. -/
def PC.withR (s : PC) (r : RG) : PC := { s with a := r.A, x := r.X, y := r.Y, s := r.S, p := r.P, pc := r.PC }

structure PC.Wf (s : PC) : Prop where
  wa : 0 ≤ s.a ∧ s.a < 256
  wx : 0 ≤ s.x ∧ s.x < 256
  wy : 0 ≤ s.y ∧ s.y < 256
  ws : 0 ≤ s.s ∧ s.s < 256
  wp : 0 ≤ s.p ∧ s.p < 256
  wd : 0 ≤ s.data ∧ s.data < 256

theorem bits_rr (op : BinOp) (a b : Int) : 0 ≤ bits op .u8 a b ∧ bits op .u8 a b < 256 := by
  cases op <;> (show 0 ≤ IntKind.u8.wrap _ ∧ IntKind.u8.wrap _ < 256; rw [IntKind.wrap_u8']; omega)

theorem add_alike (s : PC) (h : s.Wf) (m : Int) (m0 : 0 ≤ m) (m1 : m < 256) (c : Int) (j : Bool) : s.add m = s.withR (addedR (s.rg c j) m) := by
  have hp := and_u8_i64 s.p 1 h.wp.1 h.wp.2 (by omega) (by omega)
  have hs0 : 0 ≤ (s.a + m + i64and s.p 1) % 256 := by omega
  have hs1 : (s.a + m + i64and s.p 1) % 256 < 256 := by omega
  have hf := adc_flags s.p h.wp.1 h.wp.2 (decide (127 < (s.a + m + i64and s.p 1) % 256)) ((s.a + m + i64and s.p 1) % 256 == 0) (decide (255 < s.a + m + i64and s.p 1)) ((decide (127 < s.a) == decide (127 < m)) && (decide (127 < (s.a + m + i64and s.p 1) % 256) != decide (127 < m)))
  have e1 : ∀ q : Int, nzI q ((s.a + m + i64and s.p 1) % 256) = nzB q (decide (127 < (s.a + m + i64and s.p 1) % 256)) ((s.a + m + i64and s.p 1) % 256 == 0) := fun q => by unfold nzI nzB; rw [top_bit _ hs0 hs1]
  have e2 : nzR s.p ((s.a + m + i64and s.p 1) % 256) = nzRB s.p (decide (127 < (s.a + m + i64and s.p 1) % 256)) ((s.a + m + i64and s.p 1) % 256 == 0) := by unfold nzR nzRB; simp only [decide_eq_true_eq, beq_iff_eq]
  have ho := overflow_eq s.a m ((s.a + m + i64and s.p 1) % 256) h.wa.1 h.wa.2 m0 m1 hs0 hs1
  unfold PC.add addedR PC.withR PC.rg PC.loadA PC.setF
  simp only [hp, ho, e1, e2, hf, Bool.and_eq_true]

theorem and_r (a b : Int) (h : bits .and .u8 a b = i64and a b) : 0 ≤ i64and a b ∧ i64and a b < 256 := h ▸ bits_rr _ _ _
theorem or_r (a b : Int) (h : bits .or .u8 a b = i64or a b) : 0 ≤ i64or a b ∧ i64or a b < 256 := h ▸ bits_rr _ _ _
theorem xor_r (a b : Int) (h : bits .xor .u8 a b = i64xor a b) : 0 ≤ i64xor a b ∧ i64xor a b < 256 := h ▸ bits_rr _ _ _

theorem bit_flags (p : Int) (h0 : 0 ≤ p) (h1 : p < 256) (k z n v : Bool) : setf (setf (setf p 2 z) 128 n) 64 v = i64or (i64and (nzRB p k z) 63) ((if n = true then 128 else 0) + (if v = true then 64 else 0)) :=
  all_byte (p := fun p => ∀ k z n v, setf (setf (setf p 2 z) 128 n) 64 v = i64or (i64and (nzRB p k z) 63) ((if n = true then 128 else 0) + (if v = true then 64 else 0))) (by decide +kernel) p h0 h1 k z n v
theorem bit_top (m : Int) (h0 : 0 ≤ m) (h1 : m < 256) : i64and m 192 = (if (bits .and .u8 m 128 != 0) = true then 128 else 0) + (if (bits .and .u8 m 64 != 0) = true then 64 else 0) :=
  all_byte (p := fun m => i64and m 192 = (if (bits .and .u8 m 128 != 0) = true then 128 else 0) + (if (bits .and .u8 m 64 != 0) = true then 64 else 0)) (by decide +kernel) m h0 h1

theorem loadA_alike (s : PC) (h : s.Wf) (v : Int) (v0 : 0 ≤ v) (v1 : v < 256) : s.loadA v = { s with a := v, p := nzR s.p v } := by unfold PC.loadA; rw [nz_eq s.p v h.wp.1 h.wp.2 v0 v1]
theorem loadX_alike (s : PC) (h : s.Wf) (v : Int) (v0 : 0 ≤ v) (v1 : v < 256) : s.loadX v = { s with x := v, p := nzR s.p v } := by unfold PC.loadX; rw [nz_eq s.p v h.wp.1 h.wp.2 v0 v1]
theorem loadY_alike (s : PC) (h : s.Wf) (v : Int) (v0 : 0 ≤ v) (v1 : v < 256) : s.loadY v = { s with y := v, p := nzR s.p v } := by unfold PC.loadY; rw [nz_eq s.p v h.wp.1 h.wp.2 v0 v1]
theorem compare_alike (s : PC) (h : s.Wf) (r : Int) : s.compare r = { s with p := carryR (nzR s.p ((r - s.data) % 256)) (decide (s.data ≤ r)) } := by
  unfold PC.compare PC.setF; simp only []; rw [cmp_flags s.p _ _ h.wp.1 h.wp.2 (by omega) (by omega)]

/-- A READ: what it does with its byte. -/
theorem reads_ok (s : PC) (h : s.Wf) (c : Int) (j : Bool) (i : Nat) (hi : i ∈ [0, 1, 11, 17, 18, 19, 23, 29, 30, 31, 34, 43]) : s.doIns i = s.withR (loadsR (insName i) (s.rg c j) s.data) := by
  have ea := and_u8_i64 s.a s.data h.wa.1 h.wa.2 h.wd.1 h.wd.2
  have eo := or_u8_i64 s.a s.data h.wa.1 h.wa.2 h.wd.1 h.wd.2
  have ex := xor_u8_i64 s.a s.data h.wa.1 h.wa.2 h.wd.1 h.wd.2
  have ra := and_r _ _ ea
  have ro := or_r _ _ eo
  have rx := xor_r _ _ ex
  simp only [List.mem_cons, List.not_mem_nil, or_false] at hi
  rcases hi with rfl | rfl | rfl | rfl | rfl | rfl | rfl | rfl | rfl | rfl | rfl | rfl
  · exact add_alike s h s.data h.wd.1 h.wd.2 c j
  · show s.loadA (bits .and .u8 s.a s.data) = _; rw [ea, loadA_alike s h _ ra.1 ra.2]; rfl
  · have hf := bit_flags s.p h.wp.1 h.wp.2 (decide (127 < i64and s.a s.data)) (i64and s.a s.data == 0) (bits .and .u8 s.data 128 != 0) (bits .and .u8 s.data 64 != 0)
    have e2 : nzR s.p (i64and s.a s.data) = nzRB s.p (decide (127 < i64and s.a s.data)) (i64and s.a s.data == 0) := by unfold nzR nzRB; simp only [decide_eq_true_eq, beq_iff_eq]
    rw [← bit_top s.data h.wd.1 h.wd.2, ← e2, ← ea] at hf
    show ({ s with p := setf (setf (setf s.p 2 (bits .and .u8 s.a s.data == 0)) 128 (bits .and .u8 s.data 128 != 0)) 64 (bits .and .u8 s.data 64 != 0) } : PC) = _
    rw [hf, ea]; rfl
  · show s.compare s.a = _; rw [compare_alike s h]; rfl
  · show s.compare s.x = _; rw [compare_alike s h]; rfl
  · show s.compare s.y = _; rw [compare_alike s h]; rfl
  · show s.loadA (bits .xor .u8 s.a s.data) = _; rw [ex, loadA_alike s h _ rx.1 rx.2]; rfl
  · show s.loadA s.data = _; rw [loadA_alike s h _ h.wd.1 h.wd.2]; rfl
  · show s.loadX s.data = _; rw [loadX_alike s h _ h.wd.1 h.wd.2]; rfl
  · show s.loadY s.data = _; rw [loadY_alike s h _ h.wd.1 h.wd.2]; rfl
  · show s.loadA (bits .or .u8 s.a s.data) = _; rw [eo, loadA_alike s h _ ro.1 ro.2]; rfl
  · exact add_alike s h (255 - s.data) (by have := h.wd; omega) (by have := h.wd; omega) c j

theorem flag_eq (p : Int) (h0 : 0 ≤ p) (h1 : p < 256) : setf p 1 false = i64and p 254 ∧ setf p 8 false = i64and p 247 ∧ setf p 4 false = i64and p 251 ∧ setf p 64 false = i64and p 191 ∧ setf p 1 true = i64or p 1 ∧ setf p 8 true = i64or p 8 ∧ setf p 4 true = i64or p 4 :=
  all_byte (p := fun p => setf p 1 false = i64and p 254 ∧ setf p 8 false = i64and p 247 ∧ setf p 4 false = i64and p 251 ∧ setf p 64 false = i64and p 191 ∧ setf p 1 true = i64or p 1 ∧ setf p 8 true = i64or p 8 ∧ setf p 4 true = i64or p 4) (by decide +kernel) p h0 h1

/-- Instructions without a byte. -/
theorem plain_ok (s : PC) (h : s.Wf) (c : Int) (j : Bool) (i : Nat) (hi : i ∈ [13, 14, 15, 16, 21, 22, 25, 26, 33, 44, 45, 46, 50, 51, 52, 53, 54, 55]) : s.doIns i = s.withR (plainR (insName i) (s.rg c j)) := by
  obtain ⟨f1, f2, f3, f4, f5, f6, f7⟩ := flag_eq s.p h.wp.1 h.wp.2
  simp only [List.mem_cons, List.not_mem_nil, or_false] at hi
  rcases hi with rfl | rfl | rfl | rfl | rfl | rfl | rfl | rfl | rfl | rfl | rfl | rfl | rfl | rfl | rfl | rfl | rfl | rfl
  · show s.setF 1 false = _; unfold PC.setF; rw [f1]; rfl
  · show s.setF 8 false = _; unfold PC.setF; rw [f2]; rfl
  · show s.setF 4 false = _; unfold PC.setF; rw [f3]; rfl
  · show s.setF 64 false = _; unfold PC.setF; rw [f4]; rfl
  · show s.loadX ((s.x - 1) % 256) = _; rw [loadX_alike s h _ (by omega) (by omega)]; rfl
  · show s.loadY ((s.y - 1) % 256) = _; rw [loadY_alike s h _ (by omega) (by omega)]; rfl
  · show s.loadX ((s.x + 1) % 256) = _; rw [loadX_alike s h _ (by omega) (by omega)]; rfl
  · show s.loadY ((s.y + 1) % 256) = _; rw [loadY_alike s h _ (by omega) (by omega)]; rfl
  · rfl
  · show s.setF 1 true = _; unfold PC.setF; rw [f5]; rfl
  · show s.setF 8 true = _; unfold PC.setF; rw [f6]; rfl
  · show s.setF 4 true = _; unfold PC.setF; rw [f7]; rfl
  · show s.loadX s.a = _; rw [loadX_alike s h _ h.wa.1 h.wa.2]; rfl
  · show s.loadY s.a = _; rw [loadY_alike s h _ h.wa.1 h.wa.2]; rfl
  · show s.loadX s.s = _; rw [loadX_alike s h _ h.ws.1 h.ws.2]; rfl
  · show s.loadA s.x = _; rw [loadA_alike s h _ h.wx.1 h.wx.2]; rfl
  · rfl
  · show s.loadA s.y = _; rw [loadA_alike s h _ h.wy.1 h.wy.2]; rfl

/-- Branches: are they taken? -/
theorem taken_ok (s : PC) (h : s.Wf) (i : Nat) (hi : i ∈ [3, 4, 5, 6, 7, 8, 9, 10]) : s.doIns i = { s with taken := takenR (insName i) s.p } := by
  have e : ∀ f : Int, 0 ≤ f → f < 256 → hasf s.p f = (i64and s.p f != 0) := fun f f0 f1 => by unfold hasf; rw [and_u8_i64 s.p f h.wp.1 h.wp.2 f0 f1]
  have b : ∀ x : Bool, (!x) = (x == false) := by decide
  have b2 : ∀ x : Bool, x = (x == true) := by decide
  simp only [List.mem_cons, List.not_mem_nil, or_false] at hi
  rcases hi with rfl | rfl | rfl | rfl | rfl | rfl | rfl | rfl
  · show ({ s with taken := !hasf s.p 1 } : PC) = _; rw [e 1 (by omega) (by omega), b]; rfl
  · show ({ s with taken := hasf s.p 1 } : PC) = _; rw [e 1 (by omega) (by omega), b2 (i64and s.p 1 != 0)]; rfl
  · show ({ s with taken := hasf s.p 2 } : PC) = _; rw [e 2 (by omega) (by omega), b2 (i64and s.p 2 != 0)]; rfl
  · show ({ s with taken := hasf s.p 128 } : PC) = _; rw [e 128 (by omega) (by omega), b2 (i64and s.p 128 != 0)]; rfl
  · show ({ s with taken := !hasf s.p 2 } : PC) = _; rw [e 2 (by omega) (by omega), b]; rfl
  · show ({ s with taken := !hasf s.p 128 } : PC) = _; rw [e 128 (by omega) (by omega), b]; rfl
  · show ({ s with taken := !hasf s.p 64 } : PC) = _; rw [e 64 (by omega) (by omega), b]; rfl
  · show ({ s with taken := hasf s.p 64 } : PC) = _; rw [e 64 (by omega) (by omega), b2 (i64and s.p 64 != 0)]; rfl

theorem setp_eq (b : Int) (h0 : 0 ≤ b) (h1 : b < 256) : setpI b = i64or (i64and b 207) 32 :=
  all_byte (p := fun b => setpI b = i64or (i64and b 207) 32) (by decide +kernel) b h0 h1

/-- The flags behind a shift, by the bits that are told. -/
theorem shift_flags (p b : Int) (c : Bool) (h0 : 0 ≤ p) (h1 : p < 256) (b0 : 0 ≤ b) (b1 : b < 256) : nzI (setf p 1 c) b = nzR (carryR p c) b := by
  rw [carry_eq p c h0 h1]
  obtain ⟨r0, r1⟩ := carryR_r p c h0 h1
  exact nz_eq _ b r0 r1 b0 b1

theorem shl_byte (b : Int) (h0 : 0 ≤ b) (h1 : b < 256) : bits .or .u8 (b * 2 % 256) 0 = b * 2 % 256 ∧ bits .or .u8 (b * 2 % 256) 1 = b * 2 % 256 + 1 ∧ bits .or .u8 (b / 2) (0 * 128 % 256) = b / 2 ∧ bits .or .u8 (b / 2) (1 * 128 % 256) = b / 2 + 128 * 1 :=
  all_byte (p := fun b => bits .or .u8 (b * 2 % 256) 0 = b * 2 % 256 ∧ bits .or .u8 (b * 2 % 256) 1 = b * 2 % 256 + 1 ∧ bits .or .u8 (b / 2) (0 * 128 % 256) = b / 2 ∧ bits .or .u8 (b / 2) (1 * 128 % 256) = b / 2 + 128 * 1) (by decide +kernel) b h0 h1
theorem p1 (p : Int) (h0 : 0 ≤ p) (h1 : p < 256) : i64and p 1 = 0 ∨ i64and p 1 = 1 :=
  all_byte (p := fun p => i64and p 1 = 0 ∨ i64and p 1 = 1) (by decide +kernel) p h0 h1

/-- A CHANGE: what it makes of its byte. -/
theorem change_ok (s : PC) (h : s.Wf) (i : Nat) (hi : i ∈ [2, 20, 24, 32, 39, 40]) : s.doIns i = { s with data := (changedR (insName i) s.data s.p).1, p := (changedR (insName i) s.data s.p).2 } := by
  obtain ⟨d0, d1⟩ := h.wd
  obtain ⟨l1, l2, l3, l4⟩ := shl_byte s.data d0 d1
  have t := top_bit s.data d0 d1
  have lo := low_bit s.data d0 d1
  have ep := and_u8_i64 s.p 1 h.wp.1 h.wp.2 (by omega) (by omega)
  simp only [List.mem_cons, List.not_mem_nil, or_false] at hi
  rcases hi with rfl | rfl | rfl | rfl | rfl | rfl
  · show s.shl 0 = _; unfold PC.shl PC.setF PC.loadD; simp only []; rw [l1, t, shift_flags _ _ _ h.wp.1 h.wp.2 (by omega) (by omega)]; rfl
  · show s.loadD ((s.data - 1) % 256) = _; unfold PC.loadD; rw [nz_eq _ _ h.wp.1 h.wp.2 (by omega) (by omega)]; rfl
  · show s.loadD ((s.data + 1) % 256) = _; unfold PC.loadD; rw [nz_eq _ _ h.wp.1 h.wp.2 (by omega) (by omega)]; rfl
  · show s.shr 0 = _; unfold PC.shr PC.setF PC.loadD; simp only []; rw [l3, lo, shift_flags _ _ _ h.wp.1 h.wp.2 (by omega) (by omega)]; rfl
  · have q : bits .or .u8 (s.data * 2 % 256) (i64and s.p 1) = s.data * 2 % 256 + i64and s.p 1 := by
      rcases p1 s.p h.wp.1 h.wp.2 with e | e <;> rw [e]
      · rw [l1]; omega
      · exact l2
    have r := p1 s.p h.wp.1 h.wp.2
    show s.shl (bits .and .u8 s.p 1) = _; unfold PC.shl PC.setF PC.loadD; simp only []; rw [ep, q, t, shift_flags _ _ _ h.wp.1 h.wp.2 (by omega) (by omega)]; rfl
  · have q : bits .or .u8 (s.data / 2) (i64and s.p 1 * 128 % 256) = s.data / 2 + 128 * i64and s.p 1 := by
      rcases p1 s.p h.wp.1 h.wp.2 with e | e <;> rw [e]
      · rw [l3]; omega
      · exact l4
    have r := p1 s.p h.wp.1 h.wp.2
    show s.shr (bits .and .u8 s.p 1) = _; unfold PC.shr PC.setF PC.loadD; simp only []; rw [ep, q, lo, shift_flags _ _ _ h.wp.1 h.wp.2 (by omega) (by omega)]; rfl
end

/-
  Opcodes: the program's table and the document's, alike; what the names of a mode mean to the document's rule.
-/
section
/-- The names of the modes, by the program's numbers. -/
def modeName (m : Nat) : BA := match m with
  | 2 => (b3 97 99 99)
  | 3 => (b3 105 109 109)
  | 4 => (b2 122 112)
  | 5 => (b3 122 112 120)
  | 6 => (b3 122 112 121)
  | 7 => (b3 97 98 115)
  | 8 => (b3 97 98 120)
  | 9 => (b3 97 98 121)
  | 10 => (b3 105 122 120)
  | 11 => (b3 105 122 121)
  | 12 => (b3 114 101 108)
  | 13 => (b3 97 98 115)
  | 14 => (b3 105 110 100)
  | 15 => (b3 97 98 115)
  | 20 => (b3 115 101 113)
  | 21 => (b3 115 101 113)
  | _ => (b3 105 109 112)
def opName (i m : Nat) : BA := if m = 20 then (b3 78 77 73) else if m = 21 then (b3 73 82 81) else insName i

/-- An instruction and a mode that go together. -/
def okPair (i m : Nat) : Bool := (opTable.any fun e => e.2.1 == i && e.2.2 == m) || (i == 12 && (m == 20 || m == 21))

theorem code_alike (b : Nat) (h : b < 256) : ((decodeI b).2 = 0 ∧ codeR b = (⟨#[]⟩, ⟨#[]⟩)) ∨ ((decodeI b).2 ≠ 0 ∧ okPair (decodeI b).1 (decodeI b).2 = true ∧ codeR b = (opName (decodeI b).1 (decodeI b).2, modeName (decodeI b).2) ∧ (codeR b).1 ≠ ⟨#[]⟩) := by
  have : ∀ n : Fin 256, ((decodeI n.val).2 = 0 ∧ codeR (n.val : Nat) = (⟨#[]⟩, ⟨#[]⟩)) ∨ ((decodeI n.val).2 ≠ 0 ∧ okPair (decodeI n.val).1 (decodeI n.val).2 = true ∧ codeR (n.val : Nat) = (opName (decodeI n.val).1 (decodeI n.val).2, modeName (decodeI n.val).2) ∧ (codeR (n.val : Nat)).1 ≠ ⟨#[]⟩) := by decide +kernel
  exact this ⟨b, h⟩

/-- Instructions with rules of their own. -/
def spec (op : BA) : Bool := decide (op = (b3 78 77 73)) || decide (op = (b3 73 82 81)) || decide (op = (b3 66 82 75)) || decide (op = (b3 74 83 82)) || decide (op = (b3 82 84 83)) || decide (op = (b3 82 84 73)) || decide (op = (b3 80 76 65)) || decide (op = (b3 80 76 80)) || decide (op = (b3 80 72 65)) || decide (op = (b3 80 72 80)) || decide (op = (b3 74 77 80))

def kindC (k : Int) : Int := if k = 1 then 119 else if k = 2 then 99 else 114

/-- What goes with the modes that have an address. -/
theorem placed_ok (i m : Nat) (hi : i < 56) (h : okPair i m = true) (h4 : 4 ≤ m) (h11 : m ≤ 11) :
    spec (insName i) = false ∧ farR (insName i) = false ∧ kindR (insName i) = kindC (kindI i) ∧ (kindI i = 0 → i ∈ [0, 1, 11, 17, 18, 19, 23, 29, 30, 31, 34, 43]) ∧ (kindI i = 2 → i ∈ [2, 20, 24, 32, 39, 40]) ∧ (m = 10 → kindI i ≠ 2) ∧ (m = 11 → kindI i ≠ 2) := by
  have : ∀ i : Fin 56, ∀ m : Fin 12, okPair i.val m.val = true → 4 ≤ m.val →
    spec (insName i.val) = false ∧ farR (insName i.val) = false ∧ kindR (insName i.val) = kindC (kindI i.val) ∧ (kindI i.val = 0 → i.val ∈ [0, 1, 11, 17, 18, 19, 23, 29, 30, 31, 34, 43]) ∧ (kindI i.val = 2 → i.val ∈ [2, 20, 24, 32, 39, 40]) ∧ (m.val = 10 → kindI i.val ≠ 2) ∧ (m.val = 11 → kindI i.val ≠ 2) := by decide +kernel
  exact this ⟨i, hi⟩ ⟨m, by omega⟩ h h4

theorem next_place (op md : BA) (r : RG) (h : List Int) (hs : spec op = false) (m1 : md ≠ (b3 105 109 112)) (m2 : md ≠ (b3 97 99 99)) (m3 : md ≠ (b3 105 109 109)) (m4 : md ≠ (b3 114 101 108)) :
    nextR op md r h = (if (placeR op md r h).2.2.2 = false then ((placeR op md r h).2.2.1, true) else usesR op r h (placeR op md r h).1 (placeR op md r h).2.1) := by
  simp only [spec, Bool.or_eq_false_iff, decide_eq_false_iff_not] at hs
  obtain ⟨⟨⟨⟨⟨⟨⟨⟨⟨⟨s1, s2⟩, s3⟩, s4⟩, s5⟩, s6⟩, s7⟩, s8⟩, s9⟩, s10⟩, s11⟩ := hs
  unfold nextR
  simp only []
  rw [if_neg (by simp [s1, s2, s3]), if_neg s4, if_neg (by simp [s5, s6, s7, s8]), if_neg (by simp [s9]), if_neg (by simp [s10]), if_neg s11, if_neg (by simp [m1, m2, m3]), if_neg m4]
end

/-
  In the midst of an instruction: a byte is accessed, by the program's states and by the document's rule.
-/
section
/-- A cycle on the bus. -/
def PC.busOf (s : PC) (a : Act) : PC × BusI := if a.wr = true then s.write a.addr a.data else s.read a.addr

/-- All but the processor is alike. -/
structure Outer (s t : PC) : Prop where
  mem : s.mem = t.mem
  rom : s.rom = t.rom
  cnt : s.cnt = t.cnt
  calls : s.calls = t.calls
  on : s.nmiOn = t.nmiOn
  due : s.nmiDue = t.nmiDue
  cyc : s.cyc = t.cyc

/-- The registers behind the last instruction. -/
structure Beh (s : PC) (r : RG) : Prop where
  a : s.ba = r.A
  x : s.bx = r.X
  y : s.b_y = r.Y
  sp : s.bs = r.S
  p : s.bp = r.P
  pc : s.bpc = r.PC

/-- The registers in the midst of an instruction, but S and PC. -/
structure Live (s : PC) (r : RG) (i m : Nat) : Prop where
  a : s.a = r.A
  x : s.x = r.X
  y : s.y = r.Y
  p : s.p = r.P
  ins : s.ins = i
  md : s.md = m

structure Rg (r : RG) : Prop where
  A : 0 ≤ r.A ∧ r.A < 256
  X : 0 ≤ r.X ∧ r.X < 256
  Y : 0 ≤ r.Y ∧ r.Y < 256
  S : 0 ≤ r.S ∧ r.S < 256
  P : 0 ≤ r.P ∧ r.P < 256
  PC : 0 ≤ r.PC ∧ r.PC < 65536

/-- An instruction is done: the registers are q. -/
structure Fin_ (s : PC) (q : RG) : Prop where
  st : s.st = 0
  b : Beh s q
  a : s.a = q.A
  x : s.x = q.X
  y : s.y = q.Y
  sp : s.s = q.S
  p : s.p = q.P
  pc : s.pc = q.PC

/-- Memory and the timer hold bytes. -/
def Bytes_ (s : PC) : Prop := (∀ k, k < 65536 → 0 ≤ s.mem k ∧ s.mem k < 256) ∧ 0 ≤ s.cnt ∧ s.cnt < 256

theorem look_b {s : PC} (h : Bytes_ s) (a : Int) (h2 : a < 65536) : 0 ≤ s.look a ∧ s.look a < 256 := by
  unfold PC.look
  split
  · exact h.2
  · split
    · split <;> decide
    · exact h.1 _ (by omega)

/-- The byte at a is due, or was read and is to be written. -/
inductive Acc (s : PC) (k : Int) (h : List Int) (a : Int) (fr : Nat) : Prop
  | due : h.length = fr → s.st = 2 → s.ad = a → Acc s k h a fr
  | was : k = 2 → h.length = fr + 1 → s.st = 3 → s.ad = a → s.data = hd h fr → Acc s k h a fr
  | new : k = 2 → h.length = fr + 2 → s.st = 4 → s.ad = a → s.data = hd h fr → Acc s k h a fr

theorem hd_old (h : List Int) (d : Int) (k : Nat) (hk : k < h.length) : hd (h ++ [d]) k = hd h k := by
  unfold hd; simp [List.getElem?_append_left hk]
theorem hd_new (h : List Int) (d : Int) : hd (h ++ [d]) h.length = d := by unfold hd; simp

theorem uses_r (op : BA) (r : RG) (h : List Int) (a : Int) (fr : Nat) (hk : kindR op = 114) : usesR op r h a fr = if h.length = fr then rdR a else dnR := by
  unfold usesR; rw [if_pos hk]
  by_cases e : h.length = fr
  · rw [if_pos e, if_pos (by omega)]
  · rw [if_neg e, if_neg (by omega)]

/-- A READ's byte comes: it is done. -/
theorem acc_read (s : PC) (r : RG) (i m : Nat) (op : BA) (a : Int) (irq : Bool) (hL : Live s r i m) (hS : s.s = r.S) (hR : Rg r) (hB : Bytes_ s)
    (ha : 0 ≤ a ∧ a < 65536) (hst : s.st = 2) (had : s.ad = a) (hk : kindI i = 0) (hop : op = insName i) (hi : i ∈ [0, 1, 11, 17, 18, 19, 23, 29, 30, 31, 34, 43]) :
    (s.turn irq).2 = (s.busOf (rdR a).1).2 ∧ Outer (s.turn irq).1 (s.busOf (rdR a).1).1 ∧
    Fin_ (s.turn irq).1 (loadsR op { r with PC := s.pc } (s.look a)) ∧ (s.turn irq).1.ins = s.ins ∧ (s.turn irq).1.md = s.md := by
  have hi0 : kindI s.ins = 0 := by rw [hL.ins]; exact hk
  have e : s.turn irq = ((takeData (s.read s.ad)).1.performLast, (takeData (s.read s.ad)).2) := by
    unfold PC.turn PC.access
    rw [if_neg (by rw [hst]; decide), if_pos hst, if_neg (by rw [hi0]; decide), if_neg (by rw [hi0]; decide)]
  have hb := look_b hB a ha.2
  have em : a % 65536 = a := by omega
  have el : s.look a % 256 = s.look a := by omega
  rw [e, had, hop]
  have hbus : s.busOf (rdR a).1 = s.read a := by unfold PC.busOf rdR; simp only [em]; rfl
  rw [hbus]
  -- the computer ahead of the instruction's work
  have ht : ∃ t : PC, (takeData (s.read a)).1 = t ∧ t.a = s.a ∧ t.x = s.x ∧ t.y = s.y ∧ t.s = s.s ∧ t.p = s.p ∧ t.pc = s.pc ∧ t.data = s.look a ∧ t.ins = s.ins ∧ t.md = s.md ∧ Outer t (s.read a).1 := by
    have q : (takeData (s.read a)).1 = { s.read1 a with data := s.look a } := by
      show ({ s.read1 a with data := s.look a % 256 } : PC) = _
      rw [el]
    refine ⟨_, q, ?_⟩
    show _ ∧ _ ∧ _ ∧ _ ∧ _ ∧ _ ∧ _ ∧ _ ∧ _ ∧ Outer _ (s.read1 a)
    unfold PC.read1
    split <;> exact ⟨rfl, rfl, rfl, rfl, rfl, rfl, rfl, rfl, rfl, ⟨rfl, rfl, rfl, rfl, rfl, rfl, rfl⟩⟩
  obtain ⟨t, ht0, t1, t2, t3, t4, t5, t6, t7, t8, t9, tO⟩ := ht
  have hw : t.Wf := ⟨by rw [t1, hL.a]; exact hR.A, by rw [t2, hL.x]; exact hR.X, by rw [t3, hL.y]; exact hR.Y, by rw [t4, hS]; exact hR.S, by rw [t5, hL.p]; exact hR.P, by rw [t7]; exact hb⟩
  have hd := reads_ok t hw r.cyc r.jam i hi
  have hrg : t.rg r.cyc r.jam = { r with PC := s.pc } := by unfold PC.rg; rw [t1, t2, t3, t4, t5, t6, hL.a, hL.x, hL.y, hL.p, hS]
  rw [hrg, t7] at hd
  have hp : t.performLast = (t.withR (loadsR (insName i) { r with PC := s.pc } (s.look a))).finish := by
    unfold PC.performLast PC.perform
    rw [t8, hL.ins]
    rw [show ((i : Int)).toNat = i from rfl, hd]
  refine ⟨rfl, ?_, ?_, ?_, ?_⟩
  · simp only [ht0, hp]
    exact ⟨tO.mem, tO.rom, tO.cnt, tO.calls, tO.on, tO.due, tO.cyc⟩
  · simp only [ht0, hp]
    exact ⟨rfl, ⟨rfl, rfl, rfl, rfl, rfl, rfl⟩, rfl, rfl, rfl, rfl, rfl, rfl⟩
  · simp only [ht0, hp]; exact t8
  · simp only [ht0, hp]; exact t9

theorem write_outer (s t : PC) (a d : Int) (h : Outer s t) : (s.write a d).2 = (t.write a d).2 ∧ Outer (s.write a d).1 (t.write a d).1 := by
  refine ⟨rfl, ?_⟩
  show Outer (s.write1 a d) (t.write1 a d)
  unfold PC.write1
  by_cases c1 : a = 53248
  · rw [if_pos c1, if_pos c1]; exact ⟨h.mem, h.rom, rfl, h.calls, h.on, h.due, h.cyc⟩
  · rw [if_neg c1, if_neg c1]
    by_cases c2 : a ≠ 53249 ∧ a < t.rom
    · rw [if_pos (by rw [h.rom]; exact c2), if_pos c2]
      exact ⟨by show mput s.mem _ _ = mput t.mem _ _; rw [h.mem], h.rom, h.cnt, h.calls, h.on, h.due, h.cyc⟩
    · rw [if_neg (by rw [h.rom]; exact c2), if_neg c2]; exact h

/-- What a write leaves of the processor: all. -/
theorem write_keeps (s : PC) (a d : Int) : ∃ u : PC, (s.write a d).1 = u ∧ u.a = s.a ∧ u.x = s.x ∧ u.y = s.y ∧ u.s = s.s ∧ u.p = s.p ∧ u.pc = s.pc ∧ u.ba = s.ba ∧ u.bx = s.bx ∧ u.b_y = s.b_y ∧ u.bs = s.bs ∧ u.bp = s.bp ∧ u.bpc = s.bpc ∧ u.st = s.st ∧ u.ins = s.ins ∧ u.md = s.md ∧ u.step = s.step ∧ u.ad = s.ad ∧ u.data = s.data := by
  refine ⟨_, rfl, ?_⟩
  show _ ∧ _
  unfold PC.write PC.write1
  simp only []
  split
  · simp
  · split <;> simp

/-- A WRITE writes its byte: it is done. -/
theorem acc_write (s : PC) (r : RG) (i m : Nat) (a v : Int) (irq : Bool) (hL : Live s r i m) (hS : s.s = r.S)
    (ha : 0 ≤ a ∧ a < 65536) (hst : s.st = 2) (had : s.ad = a) (hk : kindI i = 1) (hv : s.doIns i = { s with data := v }) :
    (s.turn irq).2 = (s.busOf (wrR a v).1).2 ∧ Outer (s.turn irq).1 (s.busOf (wrR a v).1).1 ∧
    Fin_ (s.turn irq).1 { r with PC := s.pc } ∧ (s.turn irq).1.ins = s.ins ∧ (s.turn irq).1.md = s.md := by
  have hi0 : kindI s.ins = 1 := by rw [hL.ins]; exact hk
  have hp : s.performLast = ({ s with data := v } : PC).finish := by
    have hn : s.ins.toNat = i := by rw [hL.ins]; rfl
    unfold PC.performLast PC.perform
    rw [hn, hv]
  have e : s.turn irq = (({ s with data := v } : PC).finish).write a v := by
    unfold PC.turn PC.access
    rw [if_neg (by rw [hst]; decide), if_pos hst, if_pos hi0]
    show s.performLast.write s.performLast.ad s.performLast.data = _
    rw [hp]
    show (({ s with data := v } : PC).finish).write s.ad v = _
    rw [had]
  have em : a % 65536 = a := by omega
  have hbus : s.busOf (wrR a v).1 = s.write a v := by unfold PC.busOf wrR; simp only [em]; rfl
  obtain ⟨w1, w2⟩ := write_outer (({ s with data := v } : PC).finish) s a v ⟨rfl, rfl, rfl, rfl, rfl, rfl, rfl⟩
  obtain ⟨u, hu, u1, u2, u3, u4, u5, u6, u7, u8, u9, u10, u11, u12, u13, u14, u15, -⟩ := write_keeps (({ s with data := v } : PC).finish) a v
  rw [e, hbus]
  refine ⟨w1, w2, ?_, ?_, ?_⟩
  · rw [hu]
    exact ⟨u13, ⟨u7.trans hL.a, u8.trans hL.x, u9.trans hL.y, u10.trans hS, u11.trans hL.p, u12⟩, u1.trans hL.a, u2.trans hL.x, u3.trans hL.y, u4.trans hS, u5.trans hL.p, u6⟩
  · rw [hu]; exact u14
  · rw [hu]; exact u15

/-- A CHANGE: the byte is read. -/
theorem acc_first (s : PC) (r : RG) (i m : Nat) (a : Int) (irq : Bool) (hL : Live s r i m) (hB : Bytes_ s)
    (ha : 0 ≤ a ∧ a < 65536) (hst : s.st = 2) (had : s.ad = a) (hk : kindI i = 2) :
    (s.turn irq).2 = (s.busOf (rdR a).1).2 ∧ Outer (s.turn irq).1 (s.busOf (rdR a).1).1 ∧ Live (s.turn irq).1 r i m ∧ (s.turn irq).1.s = s.s ∧ (s.turn irq).1.pc = s.pc ∧
    (s.turn irq).1.st = 3 ∧ (s.turn irq).1.ad = a ∧ (s.turn irq).1.data = s.look a ∧ (∀ q, Beh s q → Beh (s.turn irq).1 q) := by
  have hi0 : kindI s.ins = 2 := by rw [hL.ins]; exact hk
  have hb := look_b hB a ha.2
  have em : a % 65536 = a := by omega
  have el : s.look a % 256 = s.look a := by omega
  have e : s.turn irq = ({ ({ s with st := 3 } : PC).read1 a with data := s.look a }, (s.read a).2) := by
    unfold PC.turn PC.access
    rw [if_neg (by rw [hst]; decide), if_pos hst, if_neg (by rw [hi0]; decide), if_pos hi0]
    show (({ ({ s with st := 3 } : PC).read1 s.ad with data := s.look s.ad % 256 } : PC), (s.read s.ad).2) = _
    rw [had, el]
  have hbus : s.busOf (rdR a).1 = s.read a := by unfold PC.busOf rdR; simp only [em]; rfl
  rw [e, hbus]
  refine ⟨rfl, ?_⟩
  show Outer _ (s.read1 a) ∧ _
  unfold PC.read1
  split
  all_goals exact ⟨⟨rfl, rfl, rfl, rfl, rfl, rfl, rfl⟩, ⟨hL.a, hL.x, hL.y, hL.p, hL.ins, hL.md⟩, rfl, rfl, rfl, had, rfl, fun q hq => ⟨hq.a, hq.x, hq.y, hq.sp, hq.p, hq.pc⟩⟩

/-- A CHANGE: the byte is written as it was. -/
theorem acc_second (s : PC) (r : RG) (i m : Nat) (a : Int) (irq : Bool) (hL : Live s r i m)
    (ha : 0 ≤ a ∧ a < 65536) (hst : s.st = 3) (had : s.ad = a) :
    (s.turn irq).2 = (s.busOf (wrR a s.data).1).2 ∧ Outer (s.turn irq).1 (s.busOf (wrR a s.data).1).1 ∧ Live (s.turn irq).1 r i m ∧ (s.turn irq).1.s = s.s ∧ (s.turn irq).1.pc = s.pc ∧
    (s.turn irq).1.st = 4 ∧ (s.turn irq).1.ad = a ∧ (s.turn irq).1.data = s.data ∧ (∀ q, Beh s q → Beh (s.turn irq).1 q) := by
  have em : a % 65536 = a := by omega
  have e : s.turn irq = ({ s with st := 4 } : PC).write a s.data := by
    unfold PC.turn PC.restore
    rw [if_neg (by rw [hst]; decide), if_neg (by rw [hst]; decide), if_pos hst]
    show ({ s with st := 4 } : PC).write s.ad s.data = _
    rw [had]
  have hbus : s.busOf (wrR a s.data).1 = s.write a s.data := by unfold PC.busOf wrR; simp only [em]; rfl
  obtain ⟨w1, w2⟩ := write_outer ({ s with st := 4 } : PC) s a s.data ⟨rfl, rfl, rfl, rfl, rfl, rfl, rfl⟩
  obtain ⟨u, hu, u1, u2, u3, u4, u5, u6, u7, u8, u9, u10, u11, u12, u13, u14, u15, u16, u17, u18⟩ := write_keeps ({ s with st := 4 } : PC) a s.data
  rw [e, hbus]
  refine ⟨w1, w2, ?_⟩
  rw [hu]
  exact ⟨⟨u1.trans hL.a, u2.trans hL.x, u3.trans hL.y, u5.trans hL.p, u14.trans hL.ins, u15.trans hL.md⟩, u4, u6, u13, u17.trans had, u18, fun q hq => ⟨u7.trans hq.a, u8.trans hq.x, u9.trans hq.y, u10.trans hq.sp, u11.trans hq.p, u12.trans hq.pc⟩⟩

/-- A CHANGE: the new byte is written: it is done. -/
theorem acc_third (s : PC) (r : RG) (i m : Nat) (a : Int) (irq : Bool) (hL : Live s r i m) (hS : s.s = r.S) (hR : Rg r) (hd : 0 ≤ s.data ∧ s.data < 256)
    (ha : 0 ≤ a ∧ a < 65536) (hst : s.st = 4) (had : s.ad = a) (hi : i ∈ [2, 20, 24, 32, 39, 40]) :
    (s.turn irq).2 = (s.busOf (wrR a (changedR (insName i) s.data r.P).1).1).2 ∧ Outer (s.turn irq).1 (s.busOf (wrR a (changedR (insName i) s.data r.P).1).1).1 ∧
    Fin_ (s.turn irq).1 { r with PC := s.pc, P := (changedR (insName i) s.data r.P).2 } ∧ (s.turn irq).1.ins = s.ins ∧ (s.turn irq).1.md = s.md := by
  have hw : s.Wf := ⟨by rw [hL.a]; exact hR.A, by rw [hL.x]; exact hR.X, by rw [hL.y]; exact hR.Y, by rw [hS]; exact hR.S, by rw [hL.p]; exact hR.P, hd⟩
  have hc := change_ok s hw i hi
  rw [hL.p] at hc
  generalize (changedR (insName i) s.data r.P).1 = v at *
  generalize (changedR (insName i) s.data r.P).2 = q at *
  have hn : s.ins.toNat = i := by rw [hL.ins]; rfl
  have hp : s.performLast = ({ s with data := v, p := q } : PC).finish := by unfold PC.performLast PC.perform; rw [hn, hc]
  have em : a % 65536 = a := by omega
  have e : s.turn irq = (({ s with data := v, p := q } : PC).finish).write a v := by
    unfold PC.turn PC.change
    rw [if_neg (by rw [hst]; decide), if_neg (by rw [hst]; decide), if_neg (by rw [hst]; decide), if_pos hst]
    show s.performLast.write s.performLast.ad s.performLast.data = _
    rw [hp]
    show (({ s with data := v, p := q } : PC).finish).write s.ad v = _
    rw [had]
  have hbus : s.busOf (wrR a v).1 = s.write a v := by unfold PC.busOf wrR; simp only [em]; rfl
  obtain ⟨w1, w2⟩ := write_outer (({ s with data := v, p := q } : PC).finish) s a v ⟨rfl, rfl, rfl, rfl, rfl, rfl, rfl⟩
  obtain ⟨u, hu, u1, u2, u3, u4, u5, u6, u7, u8, u9, u10, u11, u12, u13, u14, u15, -⟩ := write_keeps (({ s with data := v, p := q } : PC).finish) a v
  rw [e, hbus]
  refine ⟨w1, w2, ?_, ?_, ?_⟩
  · rw [hu]
    exact ⟨u13, ⟨u7.trans hL.a, u8.trans hL.x, u9.trans hL.y, u10.trans hS, u11, u12⟩, u1.trans hL.a, u2.trans hL.x, u3.trans hL.y, u4.trans hS, u5, u6⟩
  · rw [hu]; exact u14
  · rw [hu]; exact u15
end

/-
  In the midst of an instruction with an address: a cycle of the program is the document's.
-/
section
theorem done_placed (op md : BA) (r : RG) (h : List Int) (hf : farR op = false) (m1 : md ≠ (b3 105 109 112)) (m2 : md ≠ (b3 97 99 99)) (m4 : md ≠ (b3 114 101 108)) :
    doneR op md r h = (if kindR op = 119 then { r with PC := (r.PC + sizeR md) % 65536 } else if kindR op = 99 then { r with PC := (r.PC + sizeR md) % 65536, P := (changedR op (hd h (h.length - 3)) r.P).2 } else loadsR op { r with PC := (r.PC + sizeR md) % 65536 } (hd h (h.length - 1))) := by
  unfold doneR
  rw [if_neg (by rw [hf]; decide)]
  have e0 : (if md = (b3 114 101 108) ∧ takenR op r.P = true then goalR r (hd h 1) else (r.PC + sizeR md) % 65536) = (r.PC + sizeR md) % 65536 := if_neg (fun q => m4 q.1)
  simp only [e0]
  rw [if_neg m1, if_neg m2]
  by_cases e : kindR op = 119
  · rw [if_pos (.inr e), if_pos e]
  · rw [if_neg (by intro q; rcases q with q | q; exact m4 q; exact e q), if_neg e]

/-- What is asked of a cycle. -/
def Good (M : PC → List Int → Prop) (s s' : PC) (b : BusI) (r : RG) (i m : Nat) (op md : BA) (h : List Int) : Prop :=
  b = (s.busOf (nextR op md r h).1).2 ∧ Outer s' (s.busOf (nextR op md r h).1).1 ∧
  (((nextR op md r (h ++ [b.data])).2 = true ∧ Live s' r i m ∧ (∀ q, Beh s q → Beh s' q) ∧ M s' (h ++ [b.data])) ∨
   ((nextR op md r (h ++ [b.data])).2 = false ∧ Fin_ s' (doneR op md r (h ++ [b.data]))))

theorem kind_r_of {i : Nat} {op : BA} (h : kindR op = kindC (kindI i)) (hk : kindI i = 0) : kindR op = 114 := by rw [h, hk]; rfl
theorem kind_w_of {i : Nat} {op : BA} (h : kindR op = kindC (kindI i)) (hk : kindI i = 1) : kindR op = 119 := by rw [h, hk]; rfl
theorem kind_c_of {i : Nat} {op : BA} (h : kindR op = kindC (kindI i)) (hk : kindI i = 2) : kindR op = 99 := by rw [h, hk]; rfl

theorem w_val (s : PC) (i m : Nat) (r : RG) (hL : Live s r i m) (hk : kindI i = 1) (hi : i < 56) : s.doIns i = { s with data := (if insName i = (b3 83 84 65) then r.A else if insName i = (b3 83 84 88) then r.X else r.Y) } := by
  have : ∀ i : Fin 56, kindI i.val = 1 → i.val = 47 ∨ i.val = 48 ∨ i.val = 49 := by decide +kernel
  rcases this ⟨i, hi⟩ hk with e | e | e
  · simp only at e; subst e; show ({ s with data := s.a } : PC) = _; rw [hL.a]; rfl
  · simp only at e; subst e; show ({ s with data := s.x } : PC) = _; rw [hL.x]; rfl
  · simp only at e; subst e; show ({ s with data := s.y } : PC) = _; rw [hL.y]; rfl

theorem uses_w (op : BA) (r : RG) (h : List Int) (a : Int) (fr : Nat) (hk : kindR op = 119) : usesR op r h a fr = if h.length = fr then wrR a (if op = (b3 83 84 65) then r.A else if op = (b3 83 84 88) then r.X else r.Y) else dnR := by
  unfold usesR; rw [if_neg (by rw [hk]; decide), if_pos hk]
  by_cases e : h.length = fr
  · rw [if_pos e, if_pos (by omega)]
  · rw [if_neg e, if_neg (by omega)]
theorem uses_c (op : BA) (r : RG) (h : List Int) (a : Int) (fr : Nat) (hk : kindR op = 99) : usesR op r h a fr = if h.length = fr then rdR a else if h.length = fr + 1 then wrR a (hd h fr) else if h.length = fr + 2 then wrR a (changedR op (hd h fr) r.P).1 else dnR := by
  unfold usesR; rw [if_neg (by rw [hk]; decide), if_neg (by rw [hk]; decide), Int.toNat_natCast]
  by_cases e : h.length = fr
  · rw [if_pos e, if_pos (by omega)]
  · rw [if_neg e, if_neg (by omega)]
    by_cases e2 : h.length = fr + 1
    · rw [if_pos e2, if_pos (by omega)]
    · rw [if_neg e2, if_neg (by omega)]
      by_cases e3 : h.length = fr + 2
      · rw [if_pos e3, if_pos (by omega)]
      · rw [if_neg e3, if_neg (by omega)]

theorem kind_012' (i : Nat) : kindI i = 0 ∨ kindI i = 1 ∨ kindI i = 2 := by
  unfold kindI
  split
  · exact .inr (.inl rfl)
  · split
    · exact .inr (.inr rfl)
    · exact .inl rfl

/-- The accessing cycles of an instruction with an address. -/
theorem acc_good (M : PC → List Int → Prop) (s : PC) (r : RG) (i m : Nat) (op md : BA) (h : List Int) (a : Int) (fr : Nat) (irq : Bool) (hL : Live s r i m) (hS : s.s = r.S) (hR : Rg r) (hB : Bytes_ s) (hi : i < 56) (hop : op = insName i)
    (hs : spec op = false) (hf : farR op = false) (hkd : kindR op = kindC (kindI i)) (hir : kindI i = 0 → i ∈ [0, 1, 11, 17, 18, 19, 23, 29, 30, 31, 34, 43]) (hic : kindI i = 2 → i ∈ [2, 20, 24, 32, 39, 40])
    (m1 : md ≠ (b3 105 109 112)) (m2 : md ≠ (b3 97 99 99)) (m3 : md ≠ (b3 105 109 109)) (m4 : md ≠ (b3 114 101 108)) (ha : 0 ≤ a ∧ a < 65536) (hpc : s.pc = (r.PC + sizeR md) % 65536) (hH : ∀ k, 0 ≤ hd h k ∧ hd h k < 256) (hfr : 1 ≤ fr)
    (hp : ∀ l : List Int, placeR op md r (h ++ l) = (a, (fr : Int), Act.nil, true)) (hA : Acc s (kindI i) h a fr)
    (hM : ∀ s' d, kindI i = 2 → Acc s' 2 (h ++ [d]) a fr → s'.s = r.S → s'.pc = s.pc → M s' (h ++ [d])) : Good M s (s.turn irq).1 (s.turn irq).2 r i m op md h := by
  have hn : ∀ l : List Int, nextR op md r (h ++ l) = usesR op r (h ++ l) a (fr : Int) := by
    intro l
    rw [next_place op md r (h ++ l) hs m1 m2 m3 m4, hp l]
    rfl
  have hn0 := hn []
  rw [List.append_nil] at hn0
  unfold Good
  rw [hn0]
  have hlen : ∀ d : Int, (h ++ [d]).length = h.length + 1 := fun d => by simp
  rcases kind_012' i with hk | hk | hk
  · -- READ
    have k114 := kind_r_of hkd hk
    cases hA with
    | due l st ad =>
      obtain ⟨g1, g2, g3, -, -⟩ := acc_read s r i m op a irq hL hS hR hB ha st ad hk hop (hir hk)
      have u0 : usesR op r h a fr = rdR a := by rw [uses_r op r h a fr k114, if_pos l]
      rw [u0]
      refine ⟨g1, g2, .inr ⟨?_, ?_⟩⟩
      · rw [hn, uses_r op r _ a fr k114, if_neg (by rw [hlen]; omega)]; rfl
      · have em : a % 65536 = a := by omega
        have hb : (s.turn irq).2.data = s.look a := by rw [g1]; unfold PC.busOf rdR; simp only [em]; rfl
        rw [hb, done_placed op md r _ hf m1 m2 m4, if_neg (by rw [k114]; decide), if_neg (by rw [k114]; decide), hlen, Nat.add_sub_cancel, hd_new]
        rw [hpc] at g3; exact g3
    | was e _ _ _ _ => rw [hk] at e; cases e
    | new e _ _ _ _ => rw [hk] at e; cases e
  · -- WRITE
    have k119 := kind_w_of hkd hk
    cases hA with
    | due l st ad =>
      have hv := w_val s i m r hL hk hi
      rw [← hop] at hv
      obtain ⟨g1, g2, g3, -, -⟩ := acc_write s r i m a _ irq hL hS ha st ad hk hv
      have u0 : usesR op r h a fr = wrR a (if op = (b3 83 84 65) then r.A else if op = (b3 83 84 88) then r.X else r.Y) := by rw [uses_w op r h a fr k119, if_pos l]
      rw [u0]
      refine ⟨g1, g2, .inr ⟨?_, ?_⟩⟩
      · rw [hn, uses_w op r _ a fr k119, if_neg (by rw [hlen]; omega)]; rfl
      · rw [done_placed op md r _ hf m1 m2 m4, if_pos k119]
        rw [hpc] at g3; exact g3
    | was e _ _ _ _ => rw [hk] at e; cases e
    | new e _ _ _ _ => rw [hk] at e; cases e
  · -- CHANGE
    have k99 := kind_c_of hkd hk
    have em : a % 65536 = a := by omega
    cases hA with
    | due l st ad =>
      obtain ⟨g1, g2, g3, g4, g5, g6, g7, g8, g9⟩ := acc_first s r i m a irq hL hB ha st ad hk
      have u0 : usesR op r h a fr = rdR a := by rw [uses_c op r h a fr k99, if_pos l]
      rw [u0]
      have hb : (s.turn irq).2.data = s.look a := by rw [g1]; unfold PC.busOf rdR; simp only [em]; rfl
      refine ⟨g1, g2, .inl ⟨?_, g3, g9, ?_⟩⟩
      · rw [hn, uses_c op r _ a fr k99, if_neg (by rw [hlen]; omega), if_pos (by rw [hlen]; omega)]; rfl
      · refine hM _ _ hk ?_ (g4.trans hS) g5
        exact .was rfl (by rw [hlen, l]) g6 g7 (by rw [g8, hb, ← l, hd_new])
    | was e l st ad dt =>
      obtain ⟨g1, g2, g3, g4, g5, g6, g7, g8, g9⟩ := acc_second s r i m a irq hL ha st ad
      have u0 : usesR op r h a fr = wrR a s.data := by rw [uses_c op r h a fr k99, if_neg (by omega), if_pos l, dt]
      rw [u0]
      refine ⟨g1, g2, .inl ⟨?_, g3, g9, ?_⟩⟩
      · rw [hn, uses_c op r _ a fr k99, if_neg (by rw [hlen]; omega), if_neg (by rw [hlen]; omega), if_pos (by rw [hlen]; omega)]; rfl
      · refine hM _ _ hk ?_ (g4.trans hS) g5
        exact .new rfl (by rw [hlen, l]) g6 g7 (by rw [g8, dt, hd_old _ _ _ (by omega)])
    | new e l st ad dt =>
      have hdr : 0 ≤ s.data ∧ s.data < 256 := by rw [dt]; exact hH fr
      obtain ⟨g1, g2, g3, -, -⟩ := acc_third s r i m a irq hL hS hR hdr ha st ad (hic hk)
      have u0 : usesR op r h a fr = wrR a (changedR (insName i) s.data r.P).1 := by rw [uses_c op r h a fr k99, if_neg (by omega), if_neg (by omega), if_pos l, dt, hop]
      rw [u0]
      refine ⟨g1, g2, .inr ⟨?_, ?_⟩⟩
      · rw [hn, uses_c op r _ a fr k99, if_neg (by rw [hlen]; omega), if_neg (by rw [hlen]; omega), if_neg (by rw [hlen]; omega)]; rfl
      · rw [done_placed op md r _ hf m1 m2 m4, if_neg (by rw [k99]; decide), if_pos k99, hlen, l, show fr + 2 + 1 - 3 = fr from by omega, hd_old _ _ _ (by omega), ← dt, hop]
        rw [hpc] at g3; exact g3
end

/-
  The cycles that gather an address: what each leaves of the processor.
-/
section
theorem turn_mode (s : PC) (irq : Bool) (m : Nat) (k : Int) (hst : s.st = 1) (hmd : s.md = m) (hk : s.step = k) : s.turn irq = ({ s with step := IntKind.wrap .i64 (k + 1) } : PC).doMode m := by
  have hn : s.md.toNat = m := by rw [hmd]; rfl
  unfold PC.turn
  rw [if_neg (by rw [hst]; decide), if_neg (by rw [hst]; decide), if_neg (by rw [hst]; decide), if_neg (by rw [hst]; decide)]
  simp only [hn, hk]

theorem w1 : IntKind.wrap .i64 (0 + 1) = 1 := by decide
theorem w2 : IntKind.wrap .i64 (1 + 1) = 2 := by decide
theorem w3 : IntKind.wrap .i64 (2 + 1) = 3 := by decide
theorem w4 : IntKind.wrap .i64 (3 + 1) = 4 := by decide
theorem w5 : IntKind.wrap .i64 (4 + 1) = 5 := by decide
theorem w6 : IntKind.wrap .i64 (5 + 1) = 6 := by decide

/-- What a cycle that only gathers leaves: all registers but PC (and S), what is behind; the bus's cycle is a read of q. -/
structure Gath (s s' : PC) (b : BusI) (q : Int) : Prop where
  bus : b = (s.read q).2
  out : Outer s' (s.read q).1
  a : s'.a = s.a
  x : s'.x = s.x
  y : s'.y = s.y
  sp : s'.s = s.s
  p : s'.p = s.p
  ins : s'.ins = s.ins
  md : s'.md = s.md
  ba : s'.ba = s.ba
  bx : s'.bx = s.bx
  b_y : s'.b_y = s.b_y
  bs : s'.bs = s.bs
  bp : s'.bp = s.bp
  bpc : s'.bpc = s.bpc

theorem Gath.live {s s' : PC} {b : BusI} {q : Int} (h : Gath s s' b q) {r : RG} {i m : Nat} (hL : Live s r i m) : Live s' r i m :=
  ⟨h.a.trans hL.a, h.x.trans hL.x, h.y.trans hL.y, h.p.trans hL.p, h.ins.trans hL.ins, h.md.trans hL.md⟩
theorem Gath.beh {s s' : PC} {b : BusI} {q : Int} (h : Gath s s' b q) (r : RG) (hb : Beh s r) : Beh s' r :=
  ⟨h.ba.trans hb.a, h.bx.trans hb.x, h.b_y.trans hb.y, h.bs.trans hb.sp, h.bp.trans hb.p, h.bpc.trans hb.pc⟩

theorem read1_outer (U s : PC) (a : Int) (h : Outer U s) : Outer (U.read1 a) (s.read1 a) := by
  unfold PC.read1
  by_cases e : a = 53249
  · rw [if_pos e, if_pos e]; exact ⟨h.mem, h.rom, h.cnt, rfl, h.on, h.due, h.cyc⟩
  · rw [if_neg e, if_neg e]; exact h

/-- What a read leaves of the processor: all. -/
structure Kept (U V : PC) : Prop where
  a : V.a = U.a
  x : V.x = U.x
  y : V.y = U.y
  sp : V.s = U.s
  p : V.p = U.p
  pc : V.pc = U.pc
  ins : V.ins = U.ins
  md : V.md = U.md
  ba : V.ba = U.ba
  bx : V.bx = U.bx
  b_y : V.b_y = U.b_y
  bs : V.bs = U.bs
  bp : V.bp = U.bp
  bpc : V.bpc = U.bpc
  st : V.st = U.st
  step : V.step = U.step
  ad : V.ad = U.ad
  hop : V.hop = U.hop
  data : V.data = U.data
  taken : V.taken = U.taken

theorem read1_kept (U : PC) (a : Int) : Kept U (U.read1 a) := by
  unfold PC.read1
  split <;> exact ⟨rfl, rfl, rfl, rfl, rfl, rfl, rfl, rfl, rfl, rfl, rfl, rfl, rfl, rfl, rfl, rfl, rfl, rfl, rfl, rfl⟩

/-- A cycle that reads, and then sets PC, the address, the pointer, the byte. -/
theorem gath_of (s : PC) (k t a P A H D : Int) :
    Gath s ({ (({ s with step := k, st := t } : PC).read1 a) with pc := P, ad := A, hop := H, data := D } : PC) (s.read a).2 a ∧
    ({ (({ s with step := k, st := t } : PC).read1 a) with pc := P, ad := A, hop := H, data := D } : PC).st = t ∧
    ({ (({ s with step := k, st := t } : PC).read1 a) with pc := P, ad := A, hop := H, data := D } : PC).step = k := by
  have K := read1_kept ({ s with step := k, st := t } : PC) a
  have O := read1_outer ({ s with step := k, st := t } : PC) s a ⟨rfl, rfl, rfl, rfl, rfl, rfl, rfl⟩
  exact ⟨⟨rfl, ⟨O.mem, O.rom, O.cnt, O.calls, O.on, O.due, O.cyc⟩, K.a, K.x, K.y, K.sp, K.p, K.ins, K.md, K.ba, K.bx, K.b_y, K.bs, K.bp, K.bpc⟩, K.st, K.step⟩

/-- The next byte into the address. -/
theorem g_low (s : PC) (k t : Int) (hB : Bytes_ s) (hpc : 0 ≤ s.pc ∧ s.pc < 65536) :
    Gath s (takeLow ({ s with step := k, st := t } : PC).readNext).1 (takeLow ({ s with step := k, st := t } : PC).readNext).2 s.pc ∧ (takeLow ({ s with step := k, st := t } : PC).readNext).1.st = t ∧ (takeLow ({ s with step := k, st := t } : PC).readNext).1.step = k ∧
    (takeLow ({ s with step := k, st := t } : PC).readNext).1.ad = s.look s.pc ∧ (takeLow ({ s with step := k, st := t } : PC).readNext).1.pc = (s.pc + 1) % 65536 := by
  have hb := look_b hB s.pc hpc.2
  have K := read1_kept ({ s with step := k, st := t } : PC) s.pc
  obtain ⟨g1, g2, g3⟩ := gath_of s k t s.pc (((({ s with step := k, st := t } : PC).read1 s.pc).pc + 1) % 65536) (joinI (s.look s.pc % 256) 0) (({ s with step := k, st := t } : PC).read1 s.pc).hop (({ s with step := k, st := t } : PC).read1 s.pc).data
  refine ⟨g1, g2, g3, ?_, ?_⟩
  · show joinI (s.look s.pc % 256) 0 = _; unfold joinI; omega
  · show ((({ s with step := k, st := t } : PC).read1 s.pc).pc + 1) % 65536 = _; rw [K.pc]

/-- The next byte above the address. -/
theorem g_high (s : PC) (k t : Int) (hB : Bytes_ s) (hpc : 0 ≤ s.pc ∧ s.pc < 65536) (had : 0 ≤ s.ad ∧ s.ad < 256) :
    Gath s (takeHigh ({ s with step := k, st := t } : PC).readNext).1 (takeHigh ({ s with step := k, st := t } : PC).readNext).2 s.pc ∧ (takeHigh ({ s with step := k, st := t } : PC).readNext).1.st = t ∧ (takeHigh ({ s with step := k, st := t } : PC).readNext).1.step = k ∧
    (takeHigh ({ s with step := k, st := t } : PC).readNext).1.ad = s.ad + 256 * s.look s.pc ∧ (takeHigh ({ s with step := k, st := t } : PC).readNext).1.pc = (s.pc + 1) % 65536 := by
  have hb := look_b hB s.pc hpc.2
  have K := read1_kept ({ s with step := k, st := t } : PC) s.pc
  obtain ⟨g1, g2, g3⟩ := gath_of s k t s.pc (((({ s with step := k, st := t } : PC).read1 s.pc).pc + 1) % 65536) (joinI (loI (({ s with step := k, st := t } : PC).read1 s.pc).ad) (s.look s.pc % 256)) (({ s with step := k, st := t } : PC).read1 s.pc).hop (({ s with step := k, st := t } : PC).read1 s.pc).data
  refine ⟨g1, g2, g3, ?_, ?_⟩
  · show joinI (loI (({ s with step := k, st := t } : PC).read1 s.pc).ad) (s.look s.pc % 256) = _; rw [K.ad]; unfold joinI loI; show s.look s.pc % 256 * 256 + s.ad % 256 = _; omega
  · show ((({ s with step := k, st := t } : PC).read1 s.pc).pc + 1) % 65536 = _; rw [K.pc]

/-- The next byte into the pointer. -/
theorem g_hop (s : PC) (k t : Int) (hB : Bytes_ s) (hpc : 0 ≤ s.pc ∧ s.pc < 65536) :
    Gath s (takeHop ({ s with step := k, st := t } : PC).readNext).1 (takeHop ({ s with step := k, st := t } : PC).readNext).2 s.pc ∧ (takeHop ({ s with step := k, st := t } : PC).readNext).1.st = t ∧ (takeHop ({ s with step := k, st := t } : PC).readNext).1.step = k ∧
    (takeHop ({ s with step := k, st := t } : PC).readNext).1.hop = s.look s.pc ∧ (takeHop ({ s with step := k, st := t } : PC).readNext).1.pc = (s.pc + 1) % 65536 := by
  have hb := look_b hB s.pc hpc.2
  have K := read1_kept ({ s with step := k, st := t } : PC) s.pc
  obtain ⟨g1, g2, g3⟩ := gath_of s k t s.pc (((({ s with step := k, st := t } : PC).read1 s.pc).pc + 1) % 65536) (({ s with step := k, st := t } : PC).read1 s.pc).ad (joinI (s.look s.pc % 256) 0) (({ s with step := k, st := t } : PC).read1 s.pc).data
  refine ⟨g1, g2, g3, ?_, ?_⟩
  · show joinI (s.look s.pc % 256) 0 = _; unfold joinI; omega
  · show ((({ s with step := k, st := t } : PC).read1 s.pc).pc + 1) % 65536 = _; rw [K.pc]
end

/-
  Where the document's rule sees the address: mode by mode.
-/
section
theorem len2 (b0 b1 : Int) (l : List Int) : ((b0 :: b1 :: l).length : Int) = 2 + l.length := by simp; omega
theorem len3 (b0 b1 b2 : Int) (l : List Int) : ((b0 :: b1 :: b2 :: l).length : Int) = 3 + l.length := by simp; omega

theorem place_one (op md : BA) (r : RG) (b0 : Int) : placeR op md r [b0] = (0, 0, (rdR (r.PC + 1 + 1 - 1)).1, false) := by
  unfold placeR
  simp only []
  rw [if_pos (by simp)]
  rfl
theorem place_zp (op : BA) (r : RG) (b0 b1 : Int) (l : List Int) : placeR op (b2 122 112) r (b0 :: b1 :: l) = (b1, 2, Act.nil, true) := by
  unfold placeR
  simp only []
  rw [len2, if_neg (by intro q; rcases q with q | ⟨_, q | q | q⟩; omega; exact absurd q (by decide); exact absurd q (by decide); exact absurd q (by decide)), if_pos (by simp)]
  rfl
theorem place_zpx (op : BA) (r : RG) (b0 b1 c : Int) (l : List Int) : placeR op (b3 122 112 120) r (b0 :: b1 :: c :: l) = ((b1 + r.X) % 256, 3, Act.nil, true) := by
  unfold placeR
  simp only []
  rw [len3, if_neg (by intro q; rcases q with q | ⟨q, _⟩ <;> omega), if_neg (by decide), if_pos (by simp), if_neg (by omega), if_neg (by decide)]
  rfl
theorem place_zpx2 (op : BA) (r : RG) (b0 b1 : Int) : placeR op (b3 122 112 120) r [b0, b1] = (0, 0, ⟨b1, false, 0, false⟩, false) := rfl
theorem place_zpy (op : BA) (r : RG) (b0 b1 c : Int) (l : List Int) : placeR op (b3 122 112 121) r (b0 :: b1 :: c :: l) = ((b1 + r.Y) % 256, 3, Act.nil, true) := by
  unfold placeR
  simp only []
  rw [len3, if_neg (by intro q; rcases q with q | ⟨q, _⟩ <;> omega), if_neg (by decide), if_pos (by simp), if_neg (by omega), if_pos (by simp)]
  rfl
theorem place_zpy2 (op : BA) (r : RG) (b0 b1 : Int) : placeR op (b3 122 112 121) r [b0, b1] = (0, 0, ⟨b1, false, 0, false⟩, false) := rfl
theorem place_abs (op : BA) (r : RG) (b0 b1 c : Int) (l : List Int) : placeR op (b3 97 98 115) r (b0 :: b1 :: c :: l) = (b1 + 256 * c, 3, Act.nil, true) := by
  unfold placeR
  simp only []
  rw [len3, if_neg (by intro q; rcases q with q | ⟨q, _⟩ <;> omega), if_neg (by decide), if_neg (by decide), if_pos (by simp)]
  rfl
theorem place_abs2 (op : BA) (r : RG) (b0 b1 : Int) : placeR op (b3 97 98 115) r [b0, b1] = (0, 0, (rdR (r.PC + 1 + 2 - 1)).1, false) := rfl
theorem place_abx2 (op : BA) (r : RG) (b0 b1 : Int) : placeR op (b3 97 98 120) r [b0, b1] = (0, 0, (rdR (r.PC + 1 + 2 - 1)).1, false) := rfl
theorem place_aby2 (op : BA) (r : RG) (b0 b1 : Int) : placeR op (b3 97 98 121) r [b0, b1] = (0, 0, (rdR (r.PC + 1 + 2 - 1)).1, false) := rfl

/-- When an address is known and its byte is due, there is a cycle more. -/
theorem uses_more (op : BA) (r : RG) (h : List Int) (a : Int) (fr : Nat) (i : Nat) (hk : kindR op = kindC (kindI i)) (hl : h.length = fr) : (usesR op r h a fr).2 = true := by
  rcases kind_012' i with e | e | e
  · rw [uses_r op r h a fr (kind_r_of hk e), if_pos hl]; rfl
  · rw [uses_w op r h a fr (kind_w_of hk e), if_pos hl]; rfl
  · rw [uses_c op r h a fr (kind_c_of hk e), if_pos hl]; rfl
end

/-
  Instructions with an address on page zero, or an absolute one: each cycle of the program is the document's.
-/
section
/-- In the midst of an instruction with an address: how the program stands behind the bytes h. -/
inductive Mid (s : PC) (r : RG) (i : Nat) : Nat → List Int → Prop
  | one {m : Nat} {b0 : Int} : m ≠ 20 → m ≠ 21 → s.st = 1 → s.step = 0 → s.s = r.S → s.pc = (r.PC + 1) % 65536 → Mid s r i m [b0]
  | acc {m : Nat} {h : List Int} (a : Int) (fr : Nat) : 4 ≤ m → m ≤ 11 → 1 ≤ fr → (∀ l, placeR (insName i) (modeName m) r (h ++ l) = (a, (fr : Int), Act.nil, true)) → Acc s (kindI i) h a fr → (0 ≤ a ∧ a < 65536) →
      s.s = r.S → s.pc = (r.PC + sizeR (modeName m)) % 65536 → Mid s r i m h
  | low {m : Nat} {b0 b1 : Int} : m ∈ [5, 6, 7, 8, 9] → s.st = 1 → s.step = 1 → s.ad = b1 → s.s = r.S → s.pc = (r.PC + 2) % 65536 → Mid s r i m [b0, b1]
  | abs3 {m : Nat} {b0 b1 c : Int} : m ∈ [8, 9] → s.st = 1 → s.step = 2 → s.ad = b1 + 256 * c → s.s = r.S → s.pc = (r.PC + 3) % 65536 → Mid s r i m [b0, b1, c]
  | hop2 {m : Nat} {b0 b1 : Int} : m ∈ [10, 11] → s.st = 1 → s.step = 1 → s.hop = b1 → s.s = r.S → s.pc = (r.PC + 2) % 65536 → Mid s r i m [b0, b1]
  | izx3 {b0 b1 c : Int} : s.st = 1 → s.step = 2 → s.hop = (b1 + r.X) % 256 → s.s = r.S → s.pc = (r.PC + 2) % 65536 → Mid s r i 10 [b0, b1, c]
  | izx4 {b0 b1 c e : Int} : s.st = 1 → s.step = 3 → s.hop = (b1 + r.X) % 256 → s.ad = e → s.s = r.S → s.pc = (r.PC + 2) % 65536 → Mid s r i 10 [b0, b1, c, e]
  | izy3 {b0 b1 c : Int} : s.st = 1 → s.step = 2 → s.hop = b1 → s.ad = c → s.s = r.S → s.pc = (r.PC + 2) % 65536 → Mid s r i 11 [b0, b1, c]
  | izy4 {b0 b1 c e : Int} : s.st = 1 → s.step = 3 → s.ad = c + 256 * e → s.s = r.S → s.pc = (r.PC + 2) % 65536 → Mid s r i 11 [b0, b1, c, e]

theorem mode_ne {m : Nat} (h4 : 4 ≤ m) (h11 : m ≤ 11) : modeName m ≠ (b3 105 109 112) ∧ modeName m ≠ (b3 97 99 99) ∧ modeName m ≠ (b3 105 109 109) ∧ modeName m ≠ (b3 114 101 108) := by
  have : ∀ m : Fin 12, 4 ≤ m.val → modeName m.val ≠ (b3 105 109 112) ∧ modeName m.val ≠ (b3 97 99 99) ∧ modeName m.val ≠ (b3 105 109 109) ∧ modeName m.val ≠ (b3 114 101 108) := by decide +kernel
  exact this ⟨m, by omega⟩ h4

/-- The rule's word for a mode with an address: told, or used. -/
theorem next_told (i m : Nat) (r : RG) (h : List Int) (hi : i < 56) (hok : okPair i m = true) (h4 : 4 ≤ m) (h11 : m ≤ 11) (act : Act) (hp : placeR (insName i) (modeName m) r h = (0, 0, act, false)) : nextR (insName i) (modeName m) r h = (act, true) := by
  obtain ⟨hs, -⟩ := placed_ok i m hi hok h4 h11
  obtain ⟨n1, n2, n3, n4⟩ := mode_ne h4 h11
  rw [next_place _ _ r h hs n1 n2 n3 n4, hp]; rfl
theorem next_used (i m : Nat) (r : RG) (h : List Int) (hi : i < 56) (hok : okPair i m = true) (h4 : 4 ≤ m) (h11 : m ≤ 11) (a : Int) (fr : Nat) (hp : placeR (insName i) (modeName m) r h = (a, (fr : Int), Act.nil, true)) : nextR (insName i) (modeName m) r h = usesR (insName i) r h a fr := by
  obtain ⟨hs, -⟩ := placed_ok i m hi hok h4 h11
  obtain ⟨n1, n2, n3, n4⟩ := mode_ne h4 h11
  rw [next_place _ _ r h hs n1 n2 n3 n4, hp]; rfl

theorem bus_rd (s : PC) (q : Int) (x : Int) (hx : x % 65536 = q) : s.busOf (rdR x).1 = s.read q := by
  unfold PC.busOf rdR; simp only [hx]; rfl
theorem bus_at (s : PC) (q : Int) : s.busOf ⟨q, false, 0, false⟩ = s.read q := rfl

/-- A cycle that gathers, and the next byte is due to be used. -/
theorem good_acc (s s' : PC) (b : BusI) (r : RG) (i m : Nat) (h : List Int) (q : Int) (a : Int) (fr : Nat) (hL : Live s r i m) (hi : i < 56) (hok : okPair i m = true) (h4 : 4 ≤ m) (h11 : m ≤ 11)
    (g : Gath s s' b q) (act : Act) (hp0 : placeR (insName i) (modeName m) r h = (0, 0, act, false)) (hact : s.busOf act = s.read q)
    (hlen : (h ++ [b.data]).length = fr) (hfr : 1 ≤ fr) (hp : ∀ l, placeR (insName i) (modeName m) r ((h ++ [b.data]) ++ l) = (a, (fr : Int), Act.nil, true)) (hst : s'.st = 2) (had : s'.ad = a) (ha : 0 ≤ a ∧ a < 65536)
    (hS : s'.s = r.S) (hpc : s'.pc = (r.PC + sizeR (modeName m)) % 65536) : Good (fun s h => Mid s r i m h) s s' b r i m (insName i) (modeName m) h := by
  have hn := next_told i m r h hi hok h4 h11 act hp0
  have hp1 := hp []
  rw [List.append_nil] at hp1
  have hu := next_used i m r (h ++ [b.data]) hi hok h4 h11 a fr hp1
  obtain ⟨-, -, hkd, -⟩ := placed_ok i m hi hok h4 h11
  unfold Good
  rw [hn, hact, hu]
  exact ⟨g.bus, g.out, .inl ⟨uses_more _ r _ a fr i hkd hlen, g.live hL, fun q hq => g.beh q hq, .acc a fr h4 h11 hfr hp (.due hlen hst had) ha hS hpc⟩⟩

/-- zp: its byte's address. -/
theorem one_zp (s : PC) (r : RG) (i : Nat) (b0 : Int) (irq : Bool) (hL : Live s r i 4) (hR : Rg r) (hB : Bytes_ s) (hi : i < 56) (hok : okPair i 4 = true) (hst : s.st = 1) (hstep : s.step = 0) (hS : s.s = r.S) (hpc : s.pc = (r.PC + 1) % 65536) :
    Good (fun s h => Mid s r i 4 h) s (s.turn irq).1 (s.turn irq).2 r i 4 (insName i) (modeName 4) [b0] := by
  have hp : 0 ≤ s.pc ∧ s.pc < 65536 := by rw [hpc]; omega
  obtain ⟨g1, g2, g3, g4, g5⟩ := g_low s 1 2 hB hp
  have e : s.turn irq = takeLow ({ s with step := 1, st := 2 } : PC).readNext := by rw [turn_mode s irq 4 0 hst hL.md hstep, w1]; rfl
  rw [e]
  have hd : (takeLow ({ s with step := 1, st := 2 } : PC).readNext).2.data = s.look s.pc := rfl
  have hb := look_b hB s.pc hp.2
  refine good_acc s _ _ r i 4 [b0] s.pc (s.look s.pc) 2 hL hi hok (by omega) (by omega) g1 _ (place_one _ _ r b0) (bus_rd s s.pc _ (by rw [hpc]; omega)) rfl (by omega) ?_ g2 g4 (by omega) (g1.sp.trans hS) ?_
  · intro l; exact place_zp _ r b0 _ l
  · rw [g5, hpc]; show _ = (r.PC + 2) % 65536; have := hR.PC; omega

/-- A cycle that gathers, and so does the next. -/
theorem good_told (s s' : PC) (b : BusI) (r : RG) (i m : Nat) (h : List Int) (q : Int) (hL : Live s r i m) (hi : i < 56) (hok : okPair i m = true) (h4 : 4 ≤ m) (h11 : m ≤ 11)
    (g : Gath s s' b q) (act act2 : Act) (hp0 : placeR (insName i) (modeName m) r h = (0, 0, act, false)) (hact : s.busOf act = s.read q)
    (hp : placeR (insName i) (modeName m) r (h ++ [b.data]) = (0, 0, act2, false)) (hM : Mid s' r i m (h ++ [b.data])) : Good (fun s h => Mid s r i m h) s s' b r i m (insName i) (modeName m) h := by
  unfold Good
  rw [next_told i m r h hi hok h4 h11 act hp0, hact, next_told i m r _ hi hok h4 h11 act2 hp]
  exact ⟨g.bus, g.out, .inl ⟨rfl, g.live hL, fun q hq => g.beh q hq, hM⟩⟩

theorem step_st (s : PC) (k : Int) (hst : s.st = 1) : ({ s with step := k } : PC) = { s with step := k, st := 1 } := by
  cases s; simp only at hst; subst hst; rfl

theorem low_mode (T : PC) (m : Nat) (hm : m ∈ [5, 6, 7, 8, 9]) (h : T.step = 1) : T.doMode m = takeLow T.readNext := by
  simp only [List.mem_cons, List.not_mem_nil, or_false] at hm
  rcases hm with rfl | rfl | rfl | rfl | rfl
  · show T.zeroPageBy T.x = _; unfold PC.zeroPageBy; rw [if_pos h]
  · show T.zeroPageBy T.y = _; unfold PC.zeroPageBy; rw [if_pos h]
  · show T.absolute = _; unfold PC.absolute; rw [if_pos h]
  · show T.absoluteBy T.x = _; unfold PC.absoluteBy; rw [if_pos h]
  · show T.absoluteBy T.y = _; unfold PC.absoluteBy; rw [if_pos h]

theorem place_low (op : BA) (r : RG) (m : Nat) (hm : m ∈ [5, 6, 7, 8, 9]) (b0 b1 : Int) : placeR op (modeName m) r [b0, b1] = (0, 0, if m ∈ [5, 6] then ⟨b1, false, 0, false⟩ else (rdR (r.PC + 1 + 2 - 1)).1, false) := by
  simp only [List.mem_cons, List.not_mem_nil, or_false] at hm
  rcases hm with rfl | rfl | rfl | rfl | rfl <;> rfl

/-- The first byte of the address, of these modes. -/
theorem one_low (s : PC) (r : RG) (i m : Nat) (b0 : Int) (irq : Bool) (hm : m ∈ [5, 6, 7, 8, 9]) (hL : Live s r i m) (hR : Rg r) (hB : Bytes_ s) (hi : i < 56) (hok : okPair i m = true) (hst : s.st = 1) (hstep : s.step = 0) (hS : s.s = r.S) (hpc : s.pc = (r.PC + 1) % 65536) :
    Good (fun s h => Mid s r i m h) s (s.turn irq).1 (s.turn irq).2 r i m (insName i) (modeName m) [b0] := by
  have hp : 0 ≤ s.pc ∧ s.pc < 65536 := by rw [hpc]; omega
  have hb4 : 4 ≤ m ∧ m ≤ 11 := by simp only [List.mem_cons, List.not_mem_nil, or_false] at hm; omega
  obtain ⟨g1, g2, g3, g4, g5⟩ := g_low s 1 1 hB hp
  have e : s.turn irq = takeLow ({ s with step := 1, st := 1 } : PC).readNext := by rw [turn_mode s irq m 0 hst hL.md hstep, w1, step_st s 1 hst, low_mode _ m hm rfl]
  rw [e]
  refine good_told s _ _ r i m [b0] s.pc hL hi hok hb4.1 hb4.2 g1 _ _ (place_one _ _ r b0) (bus_rd s s.pc _ (by rw [hpc]; omega)) (place_low _ r m hm b0 _) ?_
  refine .low hm g2 g3 g4 (g1.sp.trans hS) ?_
  rw [g5, hpc]; have := hR.PC; omega

/-- abs: the second byte of the address. -/
theorem low_abs (s : PC) (r : RG) (i : Nat) (b0 b1 : Int) (irq : Bool) (hL : Live s r i 7) (hR : Rg r) (hB : Bytes_ s) (hi : i < 56) (hok : okPair i 7 = true) (hb1 : 0 ≤ b1 ∧ b1 < 256) (hst : s.st = 1) (hstep : s.step = 1) (had : s.ad = b1) (hS : s.s = r.S) (hpc : s.pc = (r.PC + 2) % 65536) :
    Good (fun s h => Mid s r i 7 h) s (s.turn irq).1 (s.turn irq).2 r i 7 (insName i) (modeName 7) [b0, b1] := by
  have hp : 0 ≤ s.pc ∧ s.pc < 65536 := by rw [hpc]; omega
  obtain ⟨g1, g2, g3, g4, g5⟩ := g_high s 2 2 hB hp (by rw [had]; exact hb1)
  have e : s.turn irq = takeHigh ({ s with step := 2, st := 2 } : PC).readNext := by rw [turn_mode s irq 7 1 hst hL.md hstep, w2]; rfl
  rw [e]
  have hb := look_b hB s.pc hp.2
  refine good_acc s _ _ r i 7 [b0, b1] s.pc (b1 + 256 * s.look s.pc) 3 hL hi hok (by omega) (by omega) g1 _ (place_abs2 _ r b0 b1) (bus_rd s s.pc _ (by rw [hpc]; omega)) rfl (by omega) ?_ g2 (by rw [g4, had]) (by omega) (g1.sp.trans hS) ?_
  · intro l; exact place_abs _ r b0 b1 _ l
  · rw [g5, hpc]; show _ = (r.PC + 3) % 65536; have := hR.PC; omega
end

/-
  Instructions with an index on page zero, or a pointer: each cycle of the program is the document's.
-/
section
/-- A byte read for nothing; then the address is another, and its byte is due. -/
theorem g_idle (s : PC) (k a A : Int) : Gath s ({ (({ s with step := k } : PC).read1 a) with ad := A, st := 2 } : PC) (s.read a).2 a ∧ ({ (({ s with step := k } : PC).read1 a) with ad := A, st := 2 } : PC).pc = s.pc := by
  have K := read1_kept ({ s with step := k } : PC) a
  have O := read1_outer ({ s with step := k } : PC) s a ⟨rfl, rfl, rfl, rfl, rfl, rfl, rfl⟩
  exact ⟨⟨rfl, ⟨O.mem, O.rom, O.cnt, O.calls, O.on, O.due, O.cyc⟩, K.a, K.x, K.y, K.sp, K.p, K.ins, K.md, K.ba, K.bx, K.b_y, K.bs, K.bp, K.bpc⟩, K.pc⟩
/-- A byte read for nothing; then the pointer is another. -/
theorem g_idleH (s : PC) (k a H : Int) : Gath s ({ (({ s with step := k } : PC).read1 a) with hop := H } : PC) (s.read a).2 a ∧ ({ (({ s with step := k } : PC).read1 a) with hop := H } : PC).pc = s.pc ∧ ({ (({ s with step := k } : PC).read1 a) with hop := H } : PC).st = s.st ∧ ({ (({ s with step := k } : PC).read1 a) with hop := H } : PC).step = k := by
  have K := read1_kept ({ s with step := k } : PC) a
  have O := read1_outer ({ s with step := k } : PC) s a ⟨rfl, rfl, rfl, rfl, rfl, rfl, rfl⟩
  exact ⟨⟨rfl, ⟨O.mem, O.rom, O.cnt, O.calls, O.on, O.due, O.cyc⟩, K.a, K.x, K.y, K.sp, K.p, K.ins, K.md, K.ba, K.bx, K.b_y, K.bs, K.bp, K.bpc⟩, K.pc, K.st, K.step⟩

theorem within_zp (b x : Int) (h : 0 ≤ b ∧ b < 256) : withinI b x = (b + x) % 256 := by unfold withinI joinI loI hiI; omega

/-- zpx, zpy: the byte that is read for nothing. -/
theorem low_zpx (s : PC) (r : RG) (i : Nat) (b0 b1 : Int) (irq : Bool) (hL : Live s r i 5) (hi : i < 56) (hok : okPair i 5 = true) (hb1 : 0 ≤ b1 ∧ b1 < 256) (hst : s.st = 1) (hstep : s.step = 1) (had : s.ad = b1) (hS : s.s = r.S) (hpc : s.pc = (r.PC + 2) % 65536) :
    Good (fun s h => Mid s r i 5 h) s (s.turn irq).1 (s.turn irq).2 r i 5 (insName i) (modeName 5) [b0, b1] := by
  subst had
  have K := read1_kept ({ s with step := 2 } : PC) s.ad
  have e : s.turn irq = ({ (({ s with step := 2 } : PC).read1 s.ad) with ad := (s.ad + r.X) % 256, st := 2 }, (s.read s.ad).2) := by
    rw [turn_mode s irq 5 1 hst hL.md hstep, w2]
    show ({ (({ s with step := 2 } : PC).read1 s.ad) with ad := withinI (({ s with step := 2 } : PC).read1 s.ad).ad s.x, st := 2 }, (s.read s.ad).2) = _
    rw [K.ad]
    show ({ (({ s with step := 2 } : PC).read1 s.ad) with ad := withinI s.ad s.x, st := 2 }, (s.read s.ad).2) = _
    rw [within_zp s.ad s.x hb1, hL.x]
  obtain ⟨g1, g2⟩ := g_idle s 2 s.ad ((s.ad + r.X) % 256)
  rw [e]
  refine good_acc s _ _ r i 5 [b0, s.ad] s.ad ((s.ad + r.X) % 256) 3 hL hi hok (by omega) (by omega) g1 _ (place_zpx2 _ r b0 s.ad) (bus_at s s.ad) rfl (by omega) ?_ rfl rfl (by omega) (g1.sp.trans hS) ?_
  · intro l; exact place_zpx _ r b0 s.ad _ l
  · rw [g2, hpc]; rfl
theorem low_zpy (s : PC) (r : RG) (i : Nat) (b0 b1 : Int) (irq : Bool) (hL : Live s r i 6) (hi : i < 56) (hok : okPair i 6 = true) (hb1 : 0 ≤ b1 ∧ b1 < 256) (hst : s.st = 1) (hstep : s.step = 1) (had : s.ad = b1) (hS : s.s = r.S) (hpc : s.pc = (r.PC + 2) % 65536) :
    Good (fun s h => Mid s r i 6 h) s (s.turn irq).1 (s.turn irq).2 r i 6 (insName i) (modeName 6) [b0, b1] := by
  subst had
  have K := read1_kept ({ s with step := 2 } : PC) s.ad
  have e : s.turn irq = ({ (({ s with step := 2 } : PC).read1 s.ad) with ad := (s.ad + r.Y) % 256, st := 2 }, (s.read s.ad).2) := by
    rw [turn_mode s irq 6 1 hst hL.md hstep, w2]
    show ({ (({ s with step := 2 } : PC).read1 s.ad) with ad := withinI (({ s with step := 2 } : PC).read1 s.ad).ad s.y, st := 2 }, (s.read s.ad).2) = _
    rw [K.ad]
    show ({ (({ s with step := 2 } : PC).read1 s.ad) with ad := withinI s.ad s.y, st := 2 }, (s.read s.ad).2) = _
    rw [within_zp s.ad s.y hb1, hL.y]
  obtain ⟨g1, g2⟩ := g_idle s 2 s.ad ((s.ad + r.Y) % 256)
  rw [e]
  refine good_acc s _ _ r i 6 [b0, s.ad] s.ad ((s.ad + r.Y) % 256) 3 hL hi hok (by omega) (by omega) g1 _ (place_zpy2 _ r b0 s.ad) (bus_at s s.ad) rfl (by omega) ?_ rfl rfl (by omega) (g1.sp.trans hS) ?_
  · intro l; exact place_zpy _ r b0 s.ad _ l
  · rw [g2, hpc]; rfl

theorem place_iz2 (op : BA) (r : RG) (b0 b1 : Int) : placeR op (b3 105 122 120) r [b0, b1] = (0, 0, ⟨b1 % 256, false, 0, false⟩, false) ∧ placeR op (b3 105 122 121) r [b0, b1] = (0, 0, ⟨(b1 + 2 - 2) % 256, false, 0, false⟩, false) := ⟨rfl, rfl⟩
theorem place_izx3 (op : BA) (r : RG) (b0 b1 c : Int) : placeR op (b3 105 122 120) r [b0, b1, c] = (0, 0, ⟨(b1 + r.X) % 256, false, 0, false⟩, false) := rfl
theorem place_izx4 (op : BA) (r : RG) (b0 b1 c d : Int) : placeR op (b3 105 122 120) r [b0, b1, c, d] = (0, 0, ⟨(b1 + r.X + 1) % 256, false, 0, false⟩, false) := rfl
theorem place_izx (op : BA) (r : RG) (b0 b1 c d e : Int) (l : List Int) : placeR op (b3 105 122 120) r (b0 :: b1 :: c :: d :: e :: l) = (d + 256 * e, 5, Act.nil, true) := by
  have hl : ((b0 :: b1 :: c :: d :: e :: l).length : Int) = 5 + l.length := by simp; omega
  unfold placeR
  simp only []
  rw [hl, if_neg (by intro q; rcases q with q | ⟨q, _⟩ <;> omega), if_neg (by decide), if_neg (by decide), if_neg (by decide), if_neg (by decide), if_pos (by simp), if_neg (by omega)]
  rfl

/-- izx, izy: the pointer. -/
theorem one_hop (s : PC) (r : RG) (i m : Nat) (b0 : Int) (irq : Bool) (hm : m ∈ [10, 11]) (hL : Live s r i m) (hR : Rg r) (hB : Bytes_ s) (hi : i < 56) (hok : okPair i m = true) (hst : s.st = 1) (hstep : s.step = 0) (hS : s.s = r.S) (hpc : s.pc = (r.PC + 1) % 65536) :
    Good (fun s h => Mid s r i m h) s (s.turn irq).1 (s.turn irq).2 r i m (insName i) (modeName m) [b0] := by
  have hp : 0 ≤ s.pc ∧ s.pc < 65536 := by rw [hpc]; omega
  obtain ⟨g1, g2, g3, g4, g5⟩ := g_hop s 1 1 hB hp
  have hpc2 : (takeHop ({ s with step := 1, st := 1 } : PC).readNext).1.pc = (r.PC + 2) % 65536 := by rw [g5, hpc]; have := hR.PC; omega
  have hm' := hm
  simp only [List.mem_cons, List.not_mem_nil, or_false] at hm
  rcases hm with rfl | rfl
  · have e : s.turn irq = takeHop ({ s with step := 1, st := 1 } : PC).readNext := by rw [turn_mode s irq 10 0 hst hL.md hstep, w1, step_st s 1 hst]; rfl
    rw [e]
    exact good_told s _ _ r i 10 [b0] s.pc hL hi hok (by omega) (by omega) g1 _ _ (place_one _ _ r b0) (bus_rd s s.pc _ (by rw [hpc]; omega)) (place_iz2 _ r b0 _).1 (.hop2 hm' g2 g3 g4 (g1.sp.trans hS) hpc2)
  · have e : s.turn irq = takeHop ({ s with step := 1, st := 1 } : PC).readNext := by rw [turn_mode s irq 11 0 hst hL.md hstep, w1, step_st s 1 hst]; rfl
    rw [e]
    exact good_told s _ _ r i 11 [b0] s.pc hL hi hok (by omega) (by omega) g1 _ _ (place_one _ _ r b0) (bus_rd s s.pc _ (by rw [hpc]; omega)) (place_iz2 _ r b0 _).2 (.hop2 hm' g2 g3 g4 (g1.sp.trans hS) hpc2)
end

/-
  Instructions with a pointer: each cycle of the program is the document's.
-/
section
/-- A byte from an address into the lower; or above it. -/
theorem g_lowAt (s : PC) (k t a : Int) (hB : Bytes_ s) (ha : 0 ≤ a ∧ a < 65536) :
    Gath s (takeLow (({ s with step := k, st := t } : PC).read a)).1 (takeLow (({ s with step := k, st := t } : PC).read a)).2 a ∧ (takeLow (({ s with step := k, st := t } : PC).read a)).1.st = t ∧ (takeLow (({ s with step := k, st := t } : PC).read a)).1.step = k ∧
    (takeLow (({ s with step := k, st := t } : PC).read a)).1.ad = s.look a ∧ (takeLow (({ s with step := k, st := t } : PC).read a)).1.pc = s.pc ∧ (takeLow (({ s with step := k, st := t } : PC).read a)).1.hop = s.hop := by
  have hb := look_b hB a ha.2
  have K := read1_kept ({ s with step := k, st := t } : PC) a
  obtain ⟨g1, g2, g3⟩ := gath_of s k t a (({ s with step := k, st := t } : PC).read1 a).pc (joinI (s.look a % 256) 0) (({ s with step := k, st := t } : PC).read1 a).hop (({ s with step := k, st := t } : PC).read1 a).data
  refine ⟨g1, g2, g3, ?_, K.pc, K.hop⟩
  show joinI (s.look a % 256) 0 = _; unfold joinI; omega
theorem g_highAt (s : PC) (k t a : Int) (hB : Bytes_ s) (ha : 0 ≤ a ∧ a < 65536) (had : 0 ≤ s.ad ∧ s.ad < 256) :
    Gath s (takeHigh (({ s with step := k, st := t } : PC).read a)).1 (takeHigh (({ s with step := k, st := t } : PC).read a)).2 a ∧ (takeHigh (({ s with step := k, st := t } : PC).read a)).1.st = t ∧ (takeHigh (({ s with step := k, st := t } : PC).read a)).1.step = k ∧
    (takeHigh (({ s with step := k, st := t } : PC).read a)).1.ad = s.ad + 256 * s.look a ∧ (takeHigh (({ s with step := k, st := t } : PC).read a)).1.pc = s.pc := by
  have hb := look_b hB a ha.2
  have K := read1_kept ({ s with step := k, st := t } : PC) a
  obtain ⟨g1, g2, g3⟩ := gath_of s k t a (({ s with step := k, st := t } : PC).read1 a).pc (joinI (loI (({ s with step := k, st := t } : PC).read1 a).ad) (s.look a % 256)) (({ s with step := k, st := t } : PC).read1 a).hop (({ s with step := k, st := t } : PC).read1 a).data
  refine ⟨g1, g2, g3, ?_, K.pc⟩
  show joinI (loI (({ s with step := k, st := t } : PC).read1 a).ad) (s.look a % 256) = _
  rw [K.ad]; unfold joinI loI; show s.look a % 256 * 256 + s.ad % 256 = _; omega

theorem izx_2 (s : PC) (r : RG) (i : Nat) (b0 b1 : Int) (irq : Bool) (hL : Live s r i 10) (hi : i < 56) (hok : okPair i 10 = true) (hb1 : 0 ≤ b1 ∧ b1 < 256) (hst : s.st = 1) (hstep : s.step = 1) (hh : s.hop = b1) (hS : s.s = r.S) (hpc : s.pc = (r.PC + 2) % 65536) :
    Good (fun s h => Mid s r i 10 h) s (s.turn irq).1 (s.turn irq).2 r i 10 (insName i) (modeName 10) [b0, b1] := by
  subst hh
  have K := read1_kept ({ s with step := 2 } : PC) s.hop
  have e : s.turn irq = ({ (({ s with step := 2 } : PC).read1 s.hop) with hop := (s.hop + r.X) % 256 }, (s.read s.hop).2) := by
    rw [turn_mode s irq 10 1 hst hL.md hstep, w2]
    show ({ (({ s with step := 2 } : PC).read1 s.hop) with hop := withinI (({ s with step := 2 } : PC).read1 s.hop).hop (({ s with step := 2 } : PC).read1 s.hop).x }, (s.read s.hop).2) = _
    rw [K.hop, K.x]
    show ({ (({ s with step := 2 } : PC).read1 s.hop) with hop := withinI s.hop s.x }, (s.read s.hop).2) = _
    rw [within_zp s.hop s.x hb1, hL.x]
  obtain ⟨g1, g2, g3, g4⟩ := g_idleH s 2 s.hop ((s.hop + r.X) % 256)
  rw [e]
  have em : s.hop % 256 = s.hop := by omega
  refine good_told s _ _ r i 10 [b0, s.hop] s.hop hL hi hok (by omega) (by omega) g1 _ _ (place_iz2 _ r b0 s.hop).1 (by rw [em]; rfl) (place_izx3 _ r b0 s.hop _) ?_
  exact .izx3 (g3.trans hst) g4 rfl (g1.sp.trans hS) (g2.trans hpc)

theorem izx_3 (s : PC) (r : RG) (i : Nat) (b0 b1 c : Int) (irq : Bool) (hL : Live s r i 10) (hB : Bytes_ s) (hi : i < 56) (hok : okPair i 10 = true) (hst : s.st = 1) (hstep : s.step = 2) (hh : s.hop = (b1 + r.X) % 256) (hS : s.s = r.S) (hpc : s.pc = (r.PC + 2) % 65536) :
    Good (fun s h => Mid s r i 10 h) s (s.turn irq).1 (s.turn irq).2 r i 10 (insName i) (modeName 10) [b0, b1, c] := by
  have ha : 0 ≤ s.hop ∧ s.hop < 65536 := by rw [hh]; omega
  obtain ⟨g1, g2, g3, g4, g5, g6⟩ := g_lowAt s 3 1 s.hop hB ha
  have e : s.turn irq = takeLow (({ s with step := 3, st := 1 } : PC).read s.hop) := by rw [turn_mode s irq 10 2 hst hL.md hstep, w3, step_st s 3 hst]; rfl
  rw [e]
  refine good_told s _ _ r i 10 [b0, b1, c] s.hop hL hi hok (by omega) (by omega) g1 _ _ (place_izx3 _ r b0 b1 c) (by rw [hh]; rfl) (place_izx4 _ r b0 b1 c _) ?_
  exact .izx4 g2 g3 (g6.trans hh) g4 (g1.sp.trans hS) (g5.trans hpc)

theorem izx_4 (s : PC) (r : RG) (i : Nat) (b0 b1 c d : Int) (irq : Bool) (hL : Live s r i 10) (hB : Bytes_ s) (hi : i < 56) (hok : okPair i 10 = true) (hd : 0 ≤ d ∧ d < 256) (hst : s.st = 1) (hstep : s.step = 3) (hh : s.hop = (b1 + r.X) % 256) (had : s.ad = d) (hS : s.s = r.S) (hpc : s.pc = (r.PC + 2) % 65536) :
    Good (fun s h => Mid s r i 10 h) s (s.turn irq).1 (s.turn irq).2 r i 10 (insName i) (modeName 10) [b0, b1, c, d] := by
  have hw : withinI s.hop 1 = (b1 + r.X + 1) % 256 := by rw [within_zp s.hop 1 (by rw [hh]; omega), hh]; omega
  have ha : 0 ≤ (b1 + r.X + 1) % 256 ∧ (b1 + r.X + 1) % 256 < 65536 := by omega
  have hb := look_b hB _ ha.2
  obtain ⟨g1, g2, g3, g4, g5⟩ := g_highAt s 4 2 ((b1 + r.X + 1) % 256) hB ha (by rw [had]; exact hd)
  have e : s.turn irq = takeHigh (({ s with step := 4, st := 2 } : PC).read ((b1 + r.X + 1) % 256)) := by
    rw [turn_mode s irq 10 3 hst hL.md hstep, w4]
    show takeHigh (({ s with step := 4, st := 2 } : PC).read (withinI s.hop 1)) = _
    rw [hw]
  rw [e]
  refine good_acc s _ _ r i 10 [b0, b1, c, d] ((b1 + r.X + 1) % 256) (d + 256 * s.look ((b1 + r.X + 1) % 256)) 5 hL hi hok (by omega) (by omega) g1 _ (place_izx4 _ r b0 b1 c d) rfl rfl (by omega) ?_ g2 (by rw [g4, had]) (by omega) (g1.sp.trans hS) (g5.trans hpc)
  intro l; exact place_izx _ r b0 b1 c d _ l

theorem place_izy3 (op : BA) (r : RG) (b0 b1 c : Int) : placeR op (b3 105 122 121) r [b0, b1, c] = (0, 0, ⟨(b1 + 3 - 2) % 256, false, 0, false⟩, false) := rfl
theorem izy_2 (s : PC) (r : RG) (i : Nat) (b0 b1 : Int) (irq : Bool) (hL : Live s r i 11) (hB : Bytes_ s) (hi : i < 56) (hok : okPair i 11 = true) (hb1 : 0 ≤ b1 ∧ b1 < 256) (hst : s.st = 1) (hstep : s.step = 1) (hh : s.hop = b1) (hS : s.s = r.S) (hpc : s.pc = (r.PC + 2) % 65536) :
    Good (fun s h => Mid s r i 11 h) s (s.turn irq).1 (s.turn irq).2 r i 11 (insName i) (modeName 11) [b0, b1] := by
  have ha : 0 ≤ s.hop ∧ s.hop < 65536 := by rw [hh]; omega
  obtain ⟨g1, g2, g3, g4, g5, g6⟩ := g_lowAt s 2 1 s.hop hB ha
  have e : s.turn irq = takeLow (({ s with step := 2, st := 1 } : PC).read s.hop) := by rw [turn_mode s irq 11 1 hst hL.md hstep, w2, step_st s 2 hst]; rfl
  rw [e]
  have em : (b1 + 2 - 2) % 256 = s.hop := by omega
  refine good_told s _ _ r i 11 [b0, b1] s.hop hL hi hok (by omega) (by omega) g1 _ _ (place_iz2 _ r b0 b1).2 (by rw [em]; rfl) (place_izy3 _ r b0 b1 _) ?_
  exact .izy3 g2 g3 (g6.trans hh) g4 (g1.sp.trans hS) (g5.trans hpc)
end

/-
  Instructions with an index that may cross a page: each cycle of the program is the document's.
-/
section
theorem Outer.trans {a b c : PC} (h : Outer a b) (k : Outer b c) : Outer a c := ⟨h.mem.trans k.mem, h.rom.trans k.rom, h.cnt.trans k.cnt, h.calls.trans k.calls, h.on.trans k.on, h.due.trans k.due, h.cyc.trans k.cyc⟩
theorem look_outer (t s : PC) (a : Int) (h : Outer t s) : t.look a = s.look a := by unfold PC.look; rw [h.cnt, h.calls, h.mem]
theorem busOf_outer (t s : PC) (a : Act) (h : Outer t s) : (t.busOf a).2 = (s.busOf a).2 ∧ Outer (t.busOf a).1 (s.busOf a).1 := by
  unfold PC.busOf
  by_cases e : a.wr = true
  · rw [if_pos e, if_pos e]; exact write_outer t s _ _ h
  · rw [if_neg e, if_neg e]
    refine ⟨?_, read1_outer t s _ h⟩
    show (⟨a.addr, t.look a.addr, false, false⟩ : BusI) = ⟨a.addr, s.look a.addr, false, false⟩
    rw [look_outer t s _ h]

/-- Alike from without, and behind. -/
theorem Good.of {M : PC → List Int → Prop} {t s s' : PC} {b : BusI} {r : RG} {i m : Nat} {op md : BA} {h : List Int} (hO : Outer t s) (hb : ∀ q, Beh s q → Beh t q) (g : Good M t s' b r i m op md h) : Good M s s' b r i m op md h := by
  obtain ⟨o1, o2⟩ := busOf_outer t s (nextR op md r h).1 hO
  obtain ⟨g1, g2, g3⟩ := g
  refine ⟨g1.trans o1, g2.trans o2, ?_⟩
  rcases g3 with ⟨a, b, c, d⟩ | ⟨a, b⟩
  · exact .inl ⟨a, b, fun q hq => c q (hb q hq), d⟩
  · exact .inr ⟨a, b⟩

theorem turn_acc (t : PC) (irq : Bool) (h : t.st = 2) : t.turn irq = t.access := by
  unfold PC.turn; rw [if_neg (by rw [h]; decide), if_pos h]

theorem g_idx (s : PC) (k a A : Int) : Gath s ((({ s with step := k, ad := A, st := 2 } : PC).read a).1) (({ s with step := k, ad := A, st := 2 } : PC).read a).2 a ∧ ((({ s with step := k, ad := A, st := 2 } : PC).read a).1).st = 2 ∧ ((({ s with step := k, ad := A, st := 2 } : PC).read a).1).ad = A ∧ ((({ s with step := k, ad := A, st := 2 } : PC).read a).1).pc = s.pc := by
  have K := read1_kept ({ s with step := k, ad := A, st := 2 } : PC) a
  have O := read1_outer ({ s with step := k, ad := A, st := 2 } : PC) s a ⟨rfl, rfl, rfl, rfl, rfl, rfl, rfl⟩
  exact ⟨⟨rfl, O, K.a, K.x, K.y, K.sp, K.p, K.ins, K.md, K.ba, K.bx, K.b_y, K.bs, K.bp, K.bpc⟩, K.st, K.ad, K.pc⟩

/-- The cycle in which an index is added. -/
theorem idx_good (s : PC) (r : RG) (i m : Nat) (h : List Int) (lo hi' idx k : Int) (at_ : Nat) (irq : Bool) (hL : Live s r i m) (hR : Rg r) (hB : Bytes_ s) (hi : i < 56) (hok : okPair i m = true) (h4 : 4 ≤ m) (h11 : m ≤ 11)
    (hlo : 0 ≤ lo ∧ lo < 256) (had : s.ad = lo + 256 * hi') (hS : s.s = r.S) (hpc : s.pc = (r.PC + sizeR (modeName m)) % 65536) (hH : ∀ k, 0 ≤ hd h k ∧ hd h k < 256)
    (hlen : h.length = at_) (hat : 1 ≤ at_) (hpl : ∀ l : List Int, placeR (insName i) (modeName m) r (h ++ l) = indexedR (insName i) lo hi' idx (at_ + l.length : Int) at_)
    (e : s.turn irq = ({ s with step := k } : PC).indexed idx) : Good (fun s h => Mid s r i m h) s (s.turn irq).1 (s.turn irq).2 r i m (insName i) (modeName m) h := by
  obtain ⟨hs, hf, hkd, hir, hic, -⟩ := placed_ok i m hi hok h4 h11
  obtain ⟨n1, n2, n3, n4⟩ := mode_ne h4 h11
  have hn : withinI s.ad idx = (lo + idx) % 256 + 256 * hi' := by rw [had]; unfold withinI joinI loI hiI; omega
  have hr : (s.ad + idx) % 65536 = (lo + idx + 256 * hi') % 65536 := by rw [had]; congr 1; omega
  have hki : ∀ j : Int, (kindI s.ins = j) = (kindI i = j) := fun j => by rw [hL.ins]
  by_cases c : kindR (insName i) = 114 ∧ (lo + idx) % 256 + 256 * hi' = (lo + idx + 256 * hi') % 65536
  · -- a READ, no page crossed
    have k0 : kindI i = 0 := by
      rcases kind_012' i with q | q | q
      · exact q
      · have := c.1; rw [kind_w_of hkd q] at this; cases this
      · have := c.1; rw [kind_c_of hkd q] at this; cases this
    have e2 : s.turn irq = ({ s with step := k, ad := (lo + idx + 256 * hi') % 65536, st := 2 } : PC).turn irq := by
      rw [e, turn_acc _ irq rfl]
      show (if (s.ad + idx) % 65536 = withinI s.ad idx ∧ kindI s.ins = 0 then ({ s with step := k, ad := (s.ad + idx) % 65536, st := 2 } : PC).access else _) = _
      rw [if_pos ⟨by rw [hr, hn]; exact c.2.symm, by rw [hki]; exact k0⟩, hr]
    rw [e2]
    refine Good.of (t := ({ s with step := k, ad := (lo + idx + 256 * hi') % 65536, st := 2 } : PC)) ⟨rfl, rfl, rfl, rfl, rfl, rfl, rfl⟩ (fun q hq => ⟨hq.a, hq.x, hq.y, hq.sp, hq.p, hq.pc⟩) ?_
    refine acc_good _ ({ s with step := k, ad := (lo + idx + 256 * hi') % 65536, st := 2 } : PC) r i m (insName i) (modeName m) h ((lo + idx + 256 * hi') % 65536) at_ irq ⟨hL.a, hL.x, hL.y, hL.p, hL.ins, hL.md⟩ hS hR hB hi rfl hs hf hkd hir hic n1 n2 n3 n4 (by omega) hpc hH hat ?_ (.due hlen rfl rfl) ?_
    · intro l; rw [hpl l]; unfold indexedR; simp only []; rw [if_pos c]
    · intro s' d q; rw [k0] at q; cases q
  · have e2 : s.turn irq = ({ s with step := k, ad := (lo + idx + 256 * hi') % 65536, st := 2 } : PC).read ((lo + idx) % 256 + 256 * hi') := by
      rw [e]
      show (if (s.ad + idx) % 65536 = withinI s.ad idx ∧ kindI s.ins = 0 then _ else ({ s with step := k, ad := (s.ad + idx) % 65536, st := 2 } : PC).read (withinI s.ad idx)) = _
      rw [if_neg ?_, hr, hn]
      intro q
      apply c
      refine ⟨kind_r_of hkd (by have := q.2; rw [hki] at this; exact this), ?_⟩
      rw [← hr, ← hn]; exact q.1.symm
    obtain ⟨g1, g2, g3, g4⟩ := g_idx s k ((lo + idx) % 256 + 256 * hi') ((lo + idx + 256 * hi') % 65536)
    rw [e2]
    refine good_acc s _ _ r i m h _ ((lo + idx + 256 * hi') % 65536) (at_ + 1) hL hi hok h4 h11 g1 ⟨(lo + idx) % 256 + 256 * hi', false, 0, false⟩ ?_ rfl (by simp [hlen]) (by omega) ?_ g2 g3 (by omega) (g1.sp.trans hS) (g4.trans hpc)
    · have := hpl []
      rw [List.append_nil] at this
      rw [this]; unfold indexedR; simp only []; rw [if_neg c, if_pos (by simp)]
    · intro l
      rw [List.append_assoc, hpl]; unfold indexedR; simp only []; rw [if_neg c, if_neg (by simp; omega)]; simp

theorem place_abx3 (op : BA) (r : RG) (b0 b1 c : Int) (l : List Int) : placeR op (b3 97 98 120) r (b0 :: b1 :: c :: l) = indexedR op b1 c r.X (3 + l.length) 3 := by
  unfold placeR
  simp only []
  rw [len3, if_neg (by intro q; rcases q with q | ⟨q, _⟩ <;> omega), if_neg (by decide), if_neg (by decide), if_neg (by decide), if_pos (by simp), if_neg (by decide)]
  rfl
theorem place_aby3 (op : BA) (r : RG) (b0 b1 c : Int) (l : List Int) : placeR op (b3 97 98 121) r (b0 :: b1 :: c :: l) = indexedR op b1 c r.Y (3 + l.length) 3 := by
  unfold placeR
  simp only []
  rw [len3, if_neg (by intro q; rcases q with q | ⟨q, _⟩ <;> omega), if_neg (by decide), if_neg (by decide), if_neg (by decide), if_pos (by simp), if_pos (by simp)]
  rfl
theorem place_izy4 (op : BA) (r : RG) (b0 b1 c e : Int) (l : List Int) : placeR op (b3 105 122 121) r (b0 :: b1 :: c :: e :: l) = indexedR op c e r.Y (4 + l.length) 4 := by
  have hl : ((b0 :: b1 :: c :: e :: l).length : Int) = 4 + l.length := by simp; omega
  unfold placeR
  simp only []
  rw [hl, if_neg (by intro q; rcases q with q | ⟨q, _⟩ <;> omega), if_neg (by decide), if_neg (by decide), if_neg (by decide), if_neg (by decide), if_neg (by decide), if_neg (by omega), if_pos (by simp)]
  rfl

/-- There is a cycle more where an index is to be added. -/
theorem idx_more (i m : Nat) (r : RG) (h : List Int) (lo hi' idx : Int) (at_ : Nat) (hi : i < 56) (hok : okPair i m = true) (h4 : 4 ≤ m) (h11 : m ≤ 11) (hlen : h.length = at_)
    (hp : placeR (insName i) (modeName m) r h = indexedR (insName i) lo hi' idx (at_ : Int) at_) : (nextR (insName i) (modeName m) r h).2 = true := by
  obtain ⟨-, -, hkd, -⟩ := placed_ok i m hi hok h4 h11
  by_cases c : kindR (insName i) = 114 ∧ (lo + idx) % 256 + 256 * hi' = (lo + idx + 256 * hi') % 65536
  · have q : placeR (insName i) (modeName m) r h = ((lo + idx + 256 * hi') % 65536, (at_ : Int), Act.nil, true) := by rw [hp]; unfold indexedR; simp only []; rw [if_pos c]
    rw [next_used i m r h hi hok h4 h11 _ at_ q]
    exact uses_more _ r h _ at_ i hkd hlen
  · have q : placeR (insName i) (modeName m) r h = (0, 0, ⟨(lo + idx) % 256 + 256 * hi', false, 0, false⟩, false) := by rw [hp]; unfold indexedR; simp only []; rw [if_neg c, if_pos trivial]
    rw [next_told i m r h hi hok h4 h11 _ q]

/-- A cycle that gathers, and there is one more. -/
theorem good_more (s s' : PC) (b : BusI) (r : RG) (i m : Nat) (h : List Int) (q : Int) (hL : Live s r i m) (hi : i < 56) (hok : okPair i m = true) (h4 : 4 ≤ m) (h11 : m ≤ 11)
    (g : Gath s s' b q) (act : Act) (hp0 : placeR (insName i) (modeName m) r h = (0, 0, act, false)) (hact : s.busOf act = s.read q)
    (hmore : (nextR (insName i) (modeName m) r (h ++ [b.data])).2 = true) (hM : Mid s' r i m (h ++ [b.data])) : Good (fun s h => Mid s r i m h) s s' b r i m (insName i) (modeName m) h := by
  unfold Good
  rw [next_told i m r h hi hok h4 h11 act hp0, hact]
  exact ⟨g.bus, g.out, .inl ⟨hmore, g.live hL, fun q hq => g.beh q hq, hM⟩⟩

/-- abx, aby: the second byte of the address. -/
theorem low_abxy (s : PC) (r : RG) (i m : Nat) (b0 b1 : Int) (irq : Bool) (hm : m ∈ [8, 9]) (hL : Live s r i m) (hR : Rg r) (hB : Bytes_ s) (hi : i < 56) (hok : okPair i m = true) (hb1 : 0 ≤ b1 ∧ b1 < 256) (hst : s.st = 1) (hstep : s.step = 1) (had : s.ad = b1) (hS : s.s = r.S) (hpc : s.pc = (r.PC + 2) % 65536) :
    Good (fun s h => Mid s r i m h) s (s.turn irq).1 (s.turn irq).2 r i m (insName i) (modeName m) [b0, b1] := by
  have hp : 0 ≤ s.pc ∧ s.pc < 65536 := by rw [hpc]; omega
  obtain ⟨g1, g2, g3, g4, g5⟩ := g_high s 2 1 hB hp (by rw [had]; exact hb1)
  have hpc3 : (takeHigh ({ s with step := 2, st := 1 } : PC).readNext).1.pc = (r.PC + 3) % 65536 := by rw [g5, hpc]; have := hR.PC; omega
  have hm' := hm
  simp only [List.mem_cons, List.not_mem_nil, or_false] at hm
  rcases hm with rfl | rfl
  · have e : s.turn irq = takeHigh ({ s with step := 2, st := 1 } : PC).readNext := by rw [turn_mode s irq 8 1 hst hL.md hstep, w2, step_st s 2 hst]; rfl
    rw [e]
    exact good_more s _ _ r i 8 [b0, b1] s.pc hL hi hok (by omega) (by omega) g1 _ (place_abx2 _ r b0 b1) (bus_rd s s.pc _ (by rw [hpc]; omega)) (idx_more i 8 r _ b1 _ r.X 3 hi hok (by omega) (by omega) rfl (place_abx3 _ r b0 b1 _ [])) (.abs3 hm' g2 g3 (by rw [g4, had]; rfl) (g1.sp.trans hS) hpc3)
  · have e : s.turn irq = takeHigh ({ s with step := 2, st := 1 } : PC).readNext := by rw [turn_mode s irq 9 1 hst hL.md hstep, w2, step_st s 2 hst]; rfl
    rw [e]
    exact good_more s _ _ r i 9 [b0, b1] s.pc hL hi hok (by omega) (by omega) g1 _ (place_aby2 _ r b0 b1) (bus_rd s s.pc _ (by rw [hpc]; omega)) (idx_more i 9 r _ b1 _ r.Y 3 hi hok (by omega) (by omega) rfl (place_aby3 _ r b0 b1 _ [])) (.abs3 hm' g2 g3 (by rw [g4, had]; rfl) (g1.sp.trans hS) hpc3)

theorem hd3 (b0 b1 c : Int) (h0 : 0 ≤ b0 ∧ b0 < 256) (h1 : 0 ≤ b1 ∧ b1 < 256) (h2 : 0 ≤ c ∧ c < 256) (k : Nat) : 0 ≤ hd [b0, b1, c] k ∧ hd [b0, b1, c] k < 256 := by
  match k with
  | 0 => exact h0
  | 1 => exact h1
  | 2 => exact h2
  | k + 3 => exact ⟨Int.le_refl 0, by show (0 : Int) < 256; decide⟩

/-- abx, aby: the index is added. -/
theorem abs3_abxy (s : PC) (r : RG) (i m : Nat) (b0 b1 c : Int) (irq : Bool) (hm : m ∈ [8, 9]) (hL : Live s r i m) (hR : Rg r) (hB : Bytes_ s) (hi : i < 56) (hok : okPair i m = true) (hb0 : 0 ≤ b0 ∧ b0 < 256) (hb1 : 0 ≤ b1 ∧ b1 < 256) (hc : 0 ≤ c ∧ c < 256) (hst : s.st = 1) (hstep : s.step = 2) (had : s.ad = b1 + 256 * c) (hS : s.s = r.S) (hpc : s.pc = (r.PC + 3) % 65536) :
    Good (fun s h => Mid s r i m h) s (s.turn irq).1 (s.turn irq).2 r i m (insName i) (modeName m) [b0, b1, c] := by
  simp only [List.mem_cons, List.not_mem_nil, or_false] at hm
  rcases hm with rfl | rfl
  · refine idx_good s r i 8 [b0, b1, c] b1 c r.X 3 3 irq hL hR hB hi hok (by omega) (by omega) hb1 had hS hpc (hd3 b0 b1 c hb0 hb1 hc) rfl (by omega) (fun l => place_abx3 _ r b0 b1 c l) ?_
    rw [turn_mode s irq 8 2 hst hL.md hstep, w3, ← hL.x]; rfl
  · refine idx_good s r i 9 [b0, b1, c] b1 c r.Y 3 3 irq hL hR hB hi hok (by omega) (by omega) hb1 had hS hpc (hd3 b0 b1 c hb0 hb1 hc) rfl (by omega) (fun l => place_aby3 _ r b0 b1 c l) ?_
    rw [turn_mode s irq 9 2 hst hL.md hstep, w3, ← hL.y]; rfl

theorem hd4 (b0 b1 c d : Int) (h0 : 0 ≤ b0 ∧ b0 < 256) (h1 : 0 ≤ b1 ∧ b1 < 256) (h2 : 0 ≤ c ∧ c < 256) (h3 : 0 ≤ d ∧ d < 256) (k : Nat) : 0 ≤ hd [b0, b1, c, d] k ∧ hd [b0, b1, c, d] k < 256 := by
  match k with
  | 0 => exact h0
  | 1 => exact h1
  | 2 => exact h2
  | 3 => exact h3
  | k + 4 => exact ⟨Int.le_refl 0, by show (0 : Int) < 256; decide⟩

/-- izy: the address, its second byte. -/
theorem izy_3 (s : PC) (r : RG) (i : Nat) (b0 b1 c : Int) (irq : Bool) (hL : Live s r i 11) (hB : Bytes_ s) (hi : i < 56) (hok : okPair i 11 = true) (hb1 : 0 ≤ b1 ∧ b1 < 256) (hc : 0 ≤ c ∧ c < 256) (hst : s.st = 1) (hstep : s.step = 2) (hh : s.hop = b1) (had : s.ad = c) (hS : s.s = r.S) (hpc : s.pc = (r.PC + 2) % 65536) :
    Good (fun s h => Mid s r i 11 h) s (s.turn irq).1 (s.turn irq).2 r i 11 (insName i) (modeName 11) [b0, b1, c] := by
  have hw : withinI s.hop 1 = (b1 + 3 - 2) % 256 := by rw [within_zp s.hop 1 (by rw [hh]; exact hb1), hh]; omega
  have ha : 0 ≤ (b1 + 3 - 2) % 256 ∧ (b1 + 3 - 2) % 256 < 65536 := by omega
  obtain ⟨g1, g2, g3, g4, g5⟩ := g_highAt s 3 1 ((b1 + 3 - 2) % 256) hB ha (by rw [had]; exact hc)
  have e : s.turn irq = takeHigh (({ s with step := 3, st := 1 } : PC).read ((b1 + 3 - 2) % 256)) := by
    rw [turn_mode s irq 11 2 hst hL.md hstep, w3, step_st s 3 hst]
    show takeHigh (({ s with step := 3, st := 1 } : PC).read (withinI s.hop 1)) = _
    rw [hw]
  rw [e]
  exact good_more s _ _ r i 11 [b0, b1, c] _ hL hi hok (by omega) (by omega) g1 _ (place_izy3 _ r b0 b1 c) rfl (idx_more i 11 r _ c _ r.Y 4 hi hok (by omega) (by omega) rfl (place_izy4 _ r b0 b1 c _ [])) (.izy4 g2 g3 (by rw [g4, had]; rfl) (g1.sp.trans hS) (g5.trans hpc))

/-- izy: the index is added. -/
theorem izy_4 (s : PC) (r : RG) (i : Nat) (b0 b1 c d : Int) (irq : Bool) (hL : Live s r i 11) (hR : Rg r) (hB : Bytes_ s) (hi : i < 56) (hok : okPair i 11 = true) (hb0 : 0 ≤ b0 ∧ b0 < 256) (hb1 : 0 ≤ b1 ∧ b1 < 256) (hc : 0 ≤ c ∧ c < 256) (hd' : 0 ≤ d ∧ d < 256) (hst : s.st = 1) (hstep : s.step = 3) (had : s.ad = c + 256 * d) (hS : s.s = r.S) (hpc : s.pc = (r.PC + 2) % 65536) :
    Good (fun s h => Mid s r i 11 h) s (s.turn irq).1 (s.turn irq).2 r i 11 (insName i) (modeName 11) [b0, b1, c, d] := by
  refine idx_good s r i 11 [b0, b1, c, d] c d r.Y 4 4 irq hL hR hB hi hok (by omega) (by omega) hc had hS hpc (hd4 b0 b1 c d hb0 hb1 hc hd') rfl (by omega) (fun l => place_izy4 _ r b0 b1 c d l) ?_
  rw [turn_mode s irq 11 3 hst hL.md hstep, w4, ← hL.y]; rfl
end

/-
  Every cycle in the midst of an instruction with an address.
-/
section
def Byt (h : List Int) : Prop := ∀ b ∈ h, 0 ≤ b ∧ b < 256
theorem hd_byte (h : List Int) (hb : Byt h) (k : Nat) : 0 ≤ hd h k ∧ hd h k < 256 := by
  unfold hd
  by_cases e : k < h.length
  · rw [List.getD_eq_getElem?_getD, List.getElem?_eq_getElem e]; exact hb _ (List.getElem_mem e)
  · rw [List.getD_eq_getElem?_getD, List.getElem?_eq_none (by omega)]; exact ⟨Int.le_refl 0, by decide⟩

set_option maxHeartbeats 1000000 in
theorem placed_step (s : PC) (r : RG) (i m : Nat) (h : List Int) (irq : Bool) (hL : Live s r i m) (hR : Rg r) (hB : Bytes_ s) (hi : i < 56) (hok : okPair i m = true) (h4 : 4 ≤ m) (h11 : m ≤ 11) (hH : Byt h) (hM : Mid s r i m h) :
    Good (fun s h => Mid s r i m h) s (s.turn irq).1 (s.turn irq).2 r i m (insName i) (modeName m) h := by
  cases hM with
  | one n1 n2 st step sp pc =>
    by_cases e4 : m = 4
    · subst e4; exact one_zp s r i _ irq hL hR hB hi hok st step sp pc
    · by_cases e9 : m ≤ 9
      · exact one_low s r i m _ irq (by simp; omega) hL hR hB hi hok st step sp pc
      · exact one_hop s r i m _ irq (by simp; omega) hL hR hB hi hok st step sp pc
  | acc a fr a4 a11 hfr hp hA ha sp pc =>
    obtain ⟨hs, hf, hkd, hir, hic, -⟩ := placed_ok i m hi hok h4 h11
    obtain ⟨n1, n2, n3, n4⟩ := mode_ne h4 h11
    refine acc_good _ s r i m _ _ h a fr irq hL sp hR hB hi rfl hs hf hkd hir hic n1 n2 n3 n4 ha pc (hd_byte h hH) hfr hp hA ?_
    intro s' d hk hA' hS' hpc'
    exact .acc a fr h4 h11 hfr (fun l => by rw [List.append_assoc]; exact hp _) (by rw [hk]; exact hA') ha hS' (hpc'.trans pc)
  | @low _ b0 b1 hm st step ad sp pc =>
    have hb1 := hH b1 (by simp)
    by_cases e5 : m = 5
    · subst e5; exact low_zpx s r i b0 b1 irq hL hi hok hb1 st step ad sp pc
    · by_cases e6 : m = 6
      · subst e6; exact low_zpy s r i b0 b1 irq hL hi hok hb1 st step ad sp pc
      · by_cases e7 : m = 7
        · subst e7; exact low_abs s r i b0 b1 irq hL hR hB hi hok hb1 st step ad sp pc
        · exact low_abxy s r i m b0 b1 irq (by simp at hm ⊢; omega) hL hR hB hi hok hb1 st step ad sp pc
  | @abs3 _ b0 b1 c hm st step ad sp pc => exact abs3_abxy s r i m b0 b1 c irq hm hL hR hB hi hok (hH b0 (by simp)) (hH b1 (by simp)) (hH c (by simp)) st step ad sp pc
  | @hop2 _ b0 b1 hm st step hop sp pc =>
    have hb1 := hH b1 (by simp)
    by_cases e : m = 10
    · subst e; exact izx_2 s r i b0 b1 irq hL hi hok hb1 st step hop sp pc
    · have e : m = 11 := by simp at hm; omega
      subst e; exact izy_2 s r i b0 b1 irq hL hB hi hok hb1 st step hop sp pc
  | izx3 st step hop sp pc => exact izx_3 s r i _ _ _ irq hL hB hi hok st step hop sp pc
  | @izx4 b0 b1 c e st step hop ad sp pc => exact izx_4 s r i b0 b1 c e irq hL hB hi hok (hH e (by simp)) st step hop ad sp pc
  | @izy3 b0 b1 c st step hop ad sp pc => exact izy_3 s r i b0 b1 c irq hL hB hi hok (hH b1 (by simp)) (hH c (by simp)) st step hop ad sp pc
  | @izy4 b0 b1 c e st step ad sp pc => exact izy_4 s r i b0 b1 c e irq hL hR hB hi hok (hH b0 (by simp)) (hH b1 (by simp)) (hH c (by simp)) (hH e (by simp)) st step ad sp pc
end

/-
  Instructions of two cycles: imp, acc, imm.
-/
section
theorem fin_reads (t : PC) (r : RG) (i m : Nat) (hL : Live t r i m) (hS : t.s = r.S) (hR : Rg r) (hd : 0 ≤ t.data ∧ t.data < 256) (hi : i ∈ [0, 1, 11, 17, 18, 19, 23, 29, 30, 31, 34, 43]) :
    Fin_ t.performLast (loadsR (insName i) { r with PC := t.pc } t.data) ∧ Outer t.performLast t := by
  have hw : t.Wf := ⟨by rw [hL.a]; exact hR.A, by rw [hL.x]; exact hR.X, by rw [hL.y]; exact hR.Y, by rw [hS]; exact hR.S, by rw [hL.p]; exact hR.P, hd⟩
  have h := reads_ok t hw r.cyc r.jam i hi
  have hrg : t.rg r.cyc r.jam = { r with PC := t.pc } := by unfold PC.rg; rw [hL.a, hL.x, hL.y, hL.p, hS]
  rw [hrg] at h
  have hn : t.ins.toNat = i := by rw [hL.ins]; rfl
  have hp : t.performLast = (t.withR (loadsR (insName i) { r with PC := t.pc } t.data)).finish := by unfold PC.performLast PC.perform; rw [hn, h]
  rw [hp]
  exact ⟨⟨rfl, ⟨rfl, rfl, rfl, rfl, rfl, rfl⟩, rfl, rfl, rfl, rfl, rfl, rfl⟩, ⟨rfl, rfl, rfl, rfl, rfl, rfl, rfl⟩⟩
theorem fin_plain (t : PC) (r : RG) (i m : Nat) (hL : Live t r i m) (hS : t.s = r.S) (hR : Rg r) (hd : 0 ≤ t.data ∧ t.data < 256) (hi : i ∈ [13, 14, 15, 16, 21, 22, 25, 26, 33, 44, 45, 46, 50, 51, 52, 53, 54, 55]) :
    Fin_ t.performLast (plainR (insName i) { r with PC := t.pc }) ∧ Outer t.performLast t := by
  have hw : t.Wf := ⟨by rw [hL.a]; exact hR.A, by rw [hL.x]; exact hR.X, by rw [hL.y]; exact hR.Y, by rw [hS]; exact hR.S, by rw [hL.p]; exact hR.P, hd⟩
  have h := plain_ok t hw r.cyc r.jam i hi
  have hrg : t.rg r.cyc r.jam = { r with PC := t.pc } := by unfold PC.rg; rw [hL.a, hL.x, hL.y, hL.p, hS]
  rw [hrg] at h
  have hn : t.ins.toNat = i := by rw [hL.ins]; rfl
  have hp : t.performLast = (t.withR (plainR (insName i) { r with PC := t.pc })).finish := by unfold PC.performLast PC.perform; rw [hn, h]
  rw [hp]
  exact ⟨⟨rfl, ⟨rfl, rfl, rfl, rfl, rfl, rfl⟩, rfl, rfl, rfl, rfl, rfl, rfl⟩, ⟨rfl, rfl, rfl, rfl, rfl, rfl, rfl⟩⟩

/-- What goes with imm, with imp, with acc. -/
theorem imm_ok (i : Nat) (hi : i < 56) (h : okPair i 3 = true) : spec (insName i) = false ∧ farR (insName i) = false ∧ kindR (insName i) = 114 ∧ i ∈ [0, 1, 11, 17, 18, 19, 23, 29, 30, 31, 34, 43] := by
  have : ∀ i : Fin 56, okPair i.val 3 = true → spec (insName i.val) = false ∧ farR (insName i.val) = false ∧ kindR (insName i.val) = 114 ∧ i.val ∈ [0, 1, 11, 17, 18, 19, 23, 29, 30, 31, 34, 43] := by decide +kernel
  exact this ⟨i, hi⟩ h
theorem imp_ok (i : Nat) (hi : i < 56) (h : okPair i 1 = true) : spec (insName i) = false ∧ farR (insName i) = false ∧ i ∈ [13, 14, 15, 16, 21, 22, 25, 26, 33, 44, 45, 46, 50, 51, 52, 53, 54, 55] := by
  have : ∀ i : Fin 56, okPair i.val 1 = true → spec (insName i.val) = false ∧ farR (insName i.val) = false ∧ i.val ∈ [13, 14, 15, 16, 21, 22, 25, 26, 33, 44, 45, 46, 50, 51, 52, 53, 54, 55] := by decide +kernel
  exact this ⟨i, hi⟩ h
theorem acc_ok (i : Nat) (hi : i < 56) (h : okPair i 2 = true) : spec (insName i) = false ∧ farR (insName i) = false ∧ i ∈ [2, 20, 24, 32, 39, 40] := by
  have : ∀ i : Fin 56, okPair i.val 2 = true → spec (insName i.val) = false ∧ farR (insName i.val) = false ∧ i.val ∈ [2, 20, 24, 32, 39, 40] := by decide +kernel
  exact this ⟨i, hi⟩ h

theorem next_two (op md : BA) (r : RG) (h : List Int) (hs : spec op = false) (hm : md = (b3 105 109 112) ∨ md = (b3 97 99 99) ∨ md = (b3 105 109 109)) :
    nextR op md r h = (if (h.length : Int) = 1 then rdR (r.PC + 1) else dnR) := by
  simp only [spec, Bool.or_eq_false_iff, decide_eq_false_iff_not] at hs
  obtain ⟨⟨⟨⟨⟨⟨⟨⟨⟨⟨s1, s2⟩, s3⟩, s4⟩, s5⟩, s6⟩, s7⟩, s8⟩, s9⟩, s10⟩, s11⟩ := hs
  unfold nextR
  simp only []
  rw [if_neg (by simp [s1, s2, s3]), if_neg s4, if_neg (by simp [s5, s6, s7, s8]), if_neg (by simp [s9]), if_neg (by simp [s10]), if_neg s11, if_pos hm]

/-- imm. -/
theorem one_imm (M : PC → List Int → Prop) (s : PC) (r : RG) (i : Nat) (b0 : Int) (irq : Bool) (hL : Live s r i 3) (hR : Rg r) (hB : Bytes_ s) (hi : i < 56) (hok : okPair i 3 = true) (hst : s.st = 1) (hstep : s.step = 0) (hS : s.s = r.S) (hpc : s.pc = (r.PC + 1) % 65536) :
    Good M s (s.turn irq).1 (s.turn irq).2 r i 3 (insName i) (modeName 3) [b0] := by
  obtain ⟨hs, hf, hk, hin⟩ := imm_ok i hi hok
  have hp : 0 ≤ s.pc ∧ s.pc < 65536 := by rw [hpc]; omega
  have hb := look_b hB s.pc hp.2
  have el : s.look s.pc % 256 = s.look s.pc := by omega
  have K := read1_kept ({ s with step := 1 } : PC) s.pc
  have O := read1_outer ({ s with step := 1 } : PC) s s.pc ⟨rfl, rfl, rfl, rfl, rfl, rfl, rfl⟩
  obtain ⟨t, e, tL, tS, td, tp, tO⟩ : ∃ t : PC, s.turn irq = (t.performLast, (s.read s.pc).2) ∧ Live t r i 3 ∧ t.s = r.S ∧ t.data = s.look s.pc ∧ t.pc = (r.PC + 2) % 65536 ∧ Outer t (s.read s.pc).1 := by
    refine ⟨({ (({ s with step := 1 } : PC).read1 s.pc) with pc := ((({ s with step := 1 } : PC).read1 s.pc).pc + 1) % 65536, data := s.look s.pc % 256 } : PC), ?_, ⟨K.a.trans hL.a, K.x.trans hL.x, K.y.trans hL.y, K.p.trans hL.p, K.ins.trans hL.ins, K.md.trans hL.md⟩, K.sp.trans hS, el, ?_, ⟨O.mem, O.rom, O.cnt, O.calls, O.on, O.due, O.cyc⟩⟩
    · rw [turn_mode s irq 3 0 hst hL.md hstep, w1]; rfl
    · show ((({ s with step := 1 } : PC).read1 s.pc).pc + 1) % 65536 = _
      rw [K.pc]
      show (s.pc + 1) % 65536 = _
      rw [hpc]; have := hR.PC; omega
  obtain ⟨f1, f2⟩ := fin_reads t r i 3 tL tS hR (by rw [td]; exact hb) hin
  rw [td, tp] at f1
  have hn := next_two (insName i) (modeName 3) r [b0] hs (.inr (.inr rfl))
  have hn2 := next_two (insName i) (modeName 3) r ([b0] ++ [s.look s.pc]) hs (.inr (.inr rfl))
  rw [e]
  unfold Good
  rw [hn]
  show _ = (s.busOf (rdR (r.PC + 1)).1).2 ∧ Outer _ (s.busOf (rdR (r.PC + 1)).1).1 ∧ _
  rw [bus_rd s s.pc (r.PC + 1) hpc.symm]
  refine ⟨rfl, f2.trans tO, .inr ⟨?_, ?_⟩⟩
  · show (nextR (insName i) (modeName 3) r ([b0] ++ [s.look s.pc])).2 = false
    rw [hn2]; rfl
  · show Fin_ t.performLast (doneR (insName i) (modeName 3) r ([b0] ++ [s.look s.pc]))
    rw [done_placed _ _ r _ hf (by decide) (by decide) (by decide), if_neg (by rw [hk]; decide), if_neg (by rw [hk]; decide)]
    exact f1

theorem flows_plain (i : Nat) (q : RG) (h : List Int) (hi : i ∈ [13, 14, 15, 16, 21, 22, 25, 26, 33, 44, 45, 46, 50, 51, 52, 53, 54, 55]) : flowsR (insName i) q h = q := by
  simp only [List.mem_cons, List.not_mem_nil, or_false] at hi
  rcases hi with rfl | rfl | rfl | rfl | rfl | rfl | rfl | rfl | rfl | rfl | rfl | rfl | rfl | rfl | rfl | rfl | rfl | rfl <;> rfl

/-- imp. -/
theorem one_imp (M : PC → List Int → Prop) (s : PC) (r : RG) (i : Nat) (b0 : Int) (irq : Bool) (hL : Live s r i 1) (hR : Rg r) (hD : 0 ≤ s.data ∧ s.data < 256) (hi : i < 56) (hok : okPair i 1 = true) (hst : s.st = 1) (hstep : s.step = 0) (hS : s.s = r.S) (hpc : s.pc = (r.PC + 1) % 65536) :
    Good M s (s.turn irq).1 (s.turn irq).2 r i 1 (insName i) (modeName 1) [b0] := by
  obtain ⟨hs, hf, hin⟩ := imp_ok i hi hok
  have K := read1_kept ({ s with step := 1 } : PC) s.pc
  have O := read1_outer ({ s with step := 1 } : PC) s s.pc ⟨rfl, rfl, rfl, rfl, rfl, rfl, rfl⟩
  obtain ⟨t, e, tL, tS, td, tp, tO⟩ : ∃ t : PC, s.turn irq = (t.performLast, (s.read s.pc).2) ∧ Live t r i 1 ∧ t.s = r.S ∧ t.data = s.data ∧ t.pc = (r.PC + 1) % 65536 ∧ Outer t (s.read s.pc).1 := by
    refine ⟨({ s with step := 1 } : PC).read1 s.pc, ?_, ⟨K.a.trans hL.a, K.x.trans hL.x, K.y.trans hL.y, K.p.trans hL.p, K.ins.trans hL.ins, K.md.trans hL.md⟩, K.sp.trans hS, K.data, K.pc.trans hpc, O⟩
    rw [turn_mode s irq 1 0 hst hL.md hstep, w1]; rfl
  obtain ⟨f1, f2⟩ := fin_plain t r i 1 tL tS hR (by rw [td]; exact hD) hin
  rw [tp] at f1
  have hn := next_two (insName i) (modeName 1) r [b0] hs (.inl rfl)
  have hn2 := next_two (insName i) (modeName 1) r ([b0] ++ [s.look s.pc]) hs (.inl rfl)
  rw [e]
  unfold Good
  rw [hn]
  show _ = (s.busOf (rdR (r.PC + 1)).1).2 ∧ Outer _ (s.busOf (rdR (r.PC + 1)).1).1 ∧ _
  rw [bus_rd s s.pc (r.PC + 1) hpc.symm]
  refine ⟨rfl, f2.trans tO, .inr ⟨?_, ?_⟩⟩
  · show (nextR (insName i) (modeName 1) r ([b0] ++ [s.look s.pc])).2 = false
    rw [hn2]; rfl
  · show Fin_ t.performLast (doneR (insName i) (modeName 1) r ([b0] ++ [s.look s.pc]))
    have hd : doneR (insName i) (modeName 1) r ([b0] ++ [s.look s.pc]) = plainR (insName i) { r with PC := (r.PC + 1) % 65536 } := by
      unfold doneR
      rw [if_neg (by rw [hf]; decide)]
      show flowsR (insName i) (plainR (insName i) { r with PC := (r.PC + 1) % 65536 }) _ = _
      exact flows_plain i _ _ hin
    rw [hd]; exact f1

/-- acc. -/
theorem one_acc (M : PC → List Int → Prop) (s : PC) (r : RG) (i : Nat) (b0 : Int) (irq : Bool) (hL : Live s r i 2) (hR : Rg r) (hi : i < 56) (hok : okPair i 2 = true) (hst : s.st = 1) (hstep : s.step = 0) (hS : s.s = r.S) (hpc : s.pc = (r.PC + 1) % 65536) :
    Good M s (s.turn irq).1 (s.turn irq).2 r i 2 (insName i) (modeName 2) [b0] := by
  obtain ⟨hs, hf, hin⟩ := acc_ok i hi hok
  have K := read1_kept ({ s with step := 1 } : PC) s.pc
  have O := read1_outer ({ s with step := 1 } : PC) s s.pc ⟨rfl, rfl, rfl, rfl, rfl, rfl, rfl⟩
  obtain ⟨u, e, uL, uS, ud, up, uO⟩ : ∃ u : PC, s.turn irq = (({ u.perform with a := u.perform.data } : PC).finish, (s.read s.pc).2) ∧ Live u r i 2 ∧ u.s = r.S ∧ u.data = r.A ∧ u.pc = (r.PC + 1) % 65536 ∧ Outer u (s.read s.pc).1 := by
    refine ⟨({ (({ s with step := 1 } : PC).read1 s.pc) with data := (({ s with step := 1 } : PC).read1 s.pc).a } : PC), ?_, ⟨K.a.trans hL.a, K.x.trans hL.x, K.y.trans hL.y, K.p.trans hL.p, K.ins.trans hL.ins, K.md.trans hL.md⟩, K.sp.trans hS, K.a.trans hL.a, K.pc.trans hpc, ⟨O.mem, O.rom, O.cnt, O.calls, O.on, O.due, O.cyc⟩⟩
    rw [turn_mode s irq 2 0 hst hL.md hstep, w1]; rfl
  have hw : u.Wf := ⟨by rw [uL.a]; exact hR.A, by rw [uL.x]; exact hR.X, by rw [uL.y]; exact hR.Y, by rw [uS]; exact hR.S, by rw [uL.p]; exact hR.P, by rw [ud]; exact hR.A⟩
  have hc := change_ok u hw i hin
  rw [ud, uL.p] at hc
  have hu : u.ins.toNat = i := by rw [uL.ins]; rfl
  have hp : u.perform = { u with data := (changedR (insName i) r.A r.P).1, p := (changedR (insName i) r.A r.P).2 } := by unfold PC.perform; rw [hu, hc]
  have hn := next_two (insName i) (modeName 2) r [b0] hs (.inr (.inl rfl))
  have hn2 := next_two (insName i) (modeName 2) r ([b0] ++ [s.look s.pc]) hs (.inr (.inl rfl))
  have hd : doneR (insName i) (modeName 2) r ([b0] ++ [s.look s.pc]) = { r with PC := (r.PC + 1) % 65536, A := (changedR (insName i) r.A r.P).1, P := (changedR (insName i) r.A r.P).2 } := by
    unfold doneR
    rw [if_neg (by rw [hf]; decide)]
    rfl
  rw [e, hp]
  generalize (changedR (insName i) r.A r.P).1 = v at *
  generalize (changedR (insName i) r.A r.P).2 = q at *
  unfold Good
  rw [hn]
  show _ = (s.busOf (rdR (r.PC + 1)).1).2 ∧ Outer _ (s.busOf (rdR (r.PC + 1)).1).1 ∧ _
  rw [bus_rd s s.pc (r.PC + 1) hpc.symm]
  refine ⟨rfl, ⟨uO.mem, uO.rom, uO.cnt, uO.calls, uO.on, uO.due, uO.cyc⟩, .inr ⟨?_, ?_⟩⟩
  · show (nextR (insName i) (modeName 2) r ([b0] ++ [s.look s.pc])).2 = false
    rw [hn2]; rfl
  · show Fin_ _ (doneR (insName i) (modeName 2) r ([b0] ++ [s.look s.pc]))
    rw [hd]
    exact ⟨rfl, ⟨rfl, uL.x, uL.y, uS, rfl, up⟩, rfl, uL.x, uL.y, uS, rfl, up⟩
end

/-
  Branches: each cycle of the program is the document's.
-/
section
theorem rel_ok (i : Nat) (hi : i < 56) (h : okPair i 12 = true) : spec (insName i) = false ∧ farR (insName i) = false ∧ i ∈ [3, 4, 5, 6, 7, 8, 9, 10] := by
  have : ∀ i : Fin 56, okPair i.val 12 = true → spec (insName i.val) = false ∧ farR (insName i.val) = false ∧ i.val ∈ [3, 4, 5, 6, 7, 8, 9, 10] := by decide +kernel
  exact this ⟨i, hi⟩ h

theorem next_br (op : BA) (r : RG) (h : List Int) (hs : spec op = false) : nextR op (b3 114 101 108) r h = branchesR op r h := by
  simp only [spec, Bool.or_eq_false_iff, decide_eq_false_iff_not] at hs
  obtain ⟨⟨⟨⟨⟨⟨⟨⟨⟨⟨s1, s2⟩, s3⟩, s4⟩, s5⟩, s6⟩, s7⟩, s8⟩, s9⟩, s10⟩, s11⟩ := hs
  unfold nextR
  simp only []
  rw [if_neg (by simp [s1, s2, s3]), if_neg s4, if_neg (by simp [s5, s6, s7, s8]), if_neg (by simp [s9]), if_neg (by simp [s10]), if_neg s11, if_neg (by decide), if_pos (by simp)]

theorem done_br (op : BA) (r : RG) (h : List Int) (hf : farR op = false) : doneR op (b3 114 101 108) r h = { r with PC := if takenR op r.P = true then goalR r (hd h 1) else (r.PC + 2) % 65536 } := by
  unfold doneR
  rw [if_neg (by rw [hf]; decide)]
  by_cases t : takenR op r.P = true
  · simp only [t]; rfl
  · simp only [t]; rfl

theorem goal_eq (P d : Int) (hd : 0 ≤ d ∧ d < 256) : ((P + 2) % 65536 + sgn d) % 65536 = (P + 2 + (if 127 < d then d - 256 else d)) % 65536 := by
  unfold sgn; split <;> split <;> omega

/-- In the midst of a branch that is taken. -/
inductive MidB (s : PC) (r : RG) (op : BA) : List Int → Prop
  | two {b0 d : Int} : takenR op r.P = true → s.st = 1 → s.step = 1 → s.ad = goalR r d → s.s = r.S → s.pc = (r.PC + 2) % 65536 → MidB s r op [b0, d]
  | three {b0 d x : Int} : takenR op r.P = true → s.st = 1 → s.step = 2 → s.ad = goalR r d → s.s = r.S → s.pc = (r.PC + 2) % 65536 → goalR r d / 256 ≠ (r.PC + 2) % 65536 / 256 → MidB s r op [b0, d, x]

/-- The branch's own cycle. -/
theorem one_rel (s : PC) (r : RG) (i : Nat) (b0 : Int) (irq : Bool) (hL : Live s r i 12) (hR : Rg r) (hB : Bytes_ s) (hD : 0 ≤ s.data ∧ s.data < 256) (hi : i < 56) (hok : okPair i 12 = true) (hst : s.st = 1) (hstep : s.step = 0) (hS : s.s = r.S) (hpc : s.pc = (r.PC + 1) % 65536) :
    Good (fun s h => MidB s r (insName i) h) s (s.turn irq).1 (s.turn irq).2 r i 12 (insName i) (modeName 12) [b0] := by
  obtain ⟨hs, hf, hin⟩ := rel_ok i hi hok
  have hp : 0 ≤ s.pc ∧ s.pc < 65536 := by rw [hpc]; omega
  have hb := look_b hB s.pc hp.2
  have hpc2 : (s.pc + 1) % 65536 = (r.PC + 2) % 65536 := by rw [hpc]; have := hR.PC; omega
  have K := read1_kept ({ s with step := 1 } : PC) s.pc
  have O := read1_outer ({ s with step := 1 } : PC) s s.pc ⟨rfl, rfl, rfl, rfl, rfl, rfl, rfl⟩
  obtain ⟨u, e, uL, uS, ud, up, ua, ust, ustep, ub, uO⟩ : ∃ u : PC, s.turn irq = (if u.perform.taken = true then u.perform else u.perform.finish, (s.read s.pc).2) ∧ Live u r i 12 ∧ u.s = r.S ∧ u.data = s.data ∧ u.pc = (r.PC + 2) % 65536 ∧ u.ad = goalR r (s.look s.pc) ∧ u.st = 1 ∧ u.step = 1 ∧ (∀ q, Beh s q → Beh u q) ∧ Outer u (s.read s.pc).1 := by
    refine ⟨({ (({ s with step := 1 } : PC).read1 s.pc) with pc := ((({ s with step := 1 } : PC).read1 s.pc).pc + 1) % 65536, ad := (((({ s with step := 1 } : PC).read1 s.pc).pc + 1) % 65536 + sgn (s.look s.pc)) % 65536 } : PC), ?_, ⟨K.a.trans hL.a, K.x.trans hL.x, K.y.trans hL.y, K.p.trans hL.p, K.ins.trans hL.ins, K.md.trans hL.md⟩, K.sp.trans hS, K.data, ?_, ?_, K.st.trans hst, K.step, fun q hq => ⟨K.ba.trans hq.a, K.bx.trans hq.x, K.b_y.trans hq.y, K.bs.trans hq.sp, K.bp.trans hq.p, K.bpc.trans hq.pc⟩, ⟨O.mem, O.rom, O.cnt, O.calls, O.on, O.due, O.cyc⟩⟩
    · rw [turn_mode s irq 12 0 hst hL.md hstep, w1]; rfl
    · show ((({ s with step := 1 } : PC).read1 s.pc).pc + 1) % 65536 = _
      rw [K.pc]; exact hpc2
    · show (((({ s with step := 1 } : PC).read1 s.pc).pc + 1) % 65536 + sgn (s.look s.pc)) % 65536 = _
      rw [K.pc]
      show ((s.pc + 1) % 65536 + sgn (s.look s.pc)) % 65536 = _
      rw [hpc2, goal_eq _ _ hb]; rfl
  have hw : u.Wf := ⟨by rw [uL.a]; exact hR.A, by rw [uL.x]; exact hR.X, by rw [uL.y]; exact hR.Y, by rw [uS]; exact hR.S, by rw [uL.p]; exact hR.P, by rw [ud]; exact hD⟩
  have hc := taken_ok u hw i hin
  rw [uL.p] at hc
  have hu : u.ins.toNat = i := by rw [uL.ins]; rfl
  have hpf : u.perform = { u with p := r.P, taken := takenR (insName i) r.P } := by unfold PC.perform; rw [hu, hc]
  have hn : nextR (insName i) (modeName 12) r [b0] = rdR (r.PC + 1) := by rw [show modeName 12 = (b3 114 101 108) from rfl, next_br _ r _ hs]; rfl
  have hn2 : nextR (insName i) (modeName 12) r ([b0] ++ [s.look s.pc]) = if takenR (insName i) r.P = true then rdR ((r.PC + 2) % 65536) else dnR := by
    rw [show modeName 12 = (b3 114 101 108) from rfl, next_br _ r _ hs]
    by_cases t : takenR (insName i) r.P = true
    · rw [if_pos t]; unfold branchesR; simp only [t]; rfl
    · rw [if_neg t]; unfold branchesR; simp only [t]; rfl
  have hdn := done_br (insName i) r ([b0] ++ [s.look s.pc]) hf
  rw [e, hpf]
  unfold Good
  rw [hn, bus_rd s s.pc (r.PC + 1) hpc.symm]
  by_cases t : takenR (insName i) r.P = true
  · refine ⟨rfl, ?_, .inl ⟨?_, ?_, ?_, ?_⟩⟩
    · simp only [t, if_true]; exact ⟨uO.mem, uO.rom, uO.cnt, uO.calls, uO.on, uO.due, uO.cyc⟩
    · show (nextR (insName i) (modeName 12) r ([b0] ++ [s.look s.pc])).2 = true
      rw [hn2, if_pos t]; rfl
    · simp only [t, if_true]; exact ⟨uL.a, uL.x, uL.y, rfl, uL.ins, uL.md⟩
    · intro q hq; have := ub q hq; simp only [t, if_true]; exact ⟨this.a, this.x, this.y, this.sp, this.p, this.pc⟩
    · simp only [t, if_true]
      exact .two t ust ustep ua uS up
  · have tf : takenR (insName i) r.P = false := by simpa using t
    refine ⟨rfl, ?_, .inr ⟨?_, ?_⟩⟩
    · simp only [tf]; exact ⟨uO.mem, uO.rom, uO.cnt, uO.calls, uO.on, uO.due, uO.cyc⟩
    · show (nextR (insName i) (modeName 12) r ([b0] ++ [s.look s.pc])).2 = false
      rw [hn2, if_neg t]; rfl
    · show Fin_ _ (doneR (insName i) (b3 114 101 108) r ([b0] ++ [s.look s.pc]))
      rw [hdn, if_neg t]
      simp only [tf]
      exact ⟨rfl, ⟨uL.a, uL.x, uL.y, uS, rfl, up⟩, uL.a, uL.x, uL.y, uS, rfl, up⟩

theorem goal_r (r : RG) (d : Int) : 0 ≤ goalR r d ∧ goalR r d < 65536 := by unfold goalR; omega

/-- Behind a branch: what it leaves. -/
theorem fin_branch (t : PC) (r : RG) (i : Nat) (g : Int) (hL : Live t r i 12) (hS : t.s = r.S) (ha : t.ad = g) : Fin_ t.branch { r with PC := g } ∧ Outer t.branch t :=
  ⟨⟨rfl, ⟨hL.a, hL.x, hL.y, hS, hL.p, ha⟩, hL.a, hL.x, hL.y, hS, hL.p, ha⟩, ⟨rfl, rfl, rfl, rfl, rfl, rfl, rfl⟩⟩

/-- The cycle behind it. -/
theorem two_rel (s : PC) (r : RG) (i : Nat) (b0 d : Int) (irq : Bool) (hL : Live s r i 12) (hi : i < 56) (hok : okPair i 12 = true) (ht : takenR (insName i) r.P = true) (hst : s.st = 1) (hstep : s.step = 1) (had : s.ad = goalR r d) (hS : s.s = r.S) (hpc : s.pc = (r.PC + 2) % 65536) :
    Good (fun s h => MidB s r (insName i) h) s (s.turn irq).1 (s.turn irq).2 r i 12 (insName i) (modeName 12) [b0, d] := by
  obtain ⟨hs, hf, -⟩ := rel_ok i hi hok
  have K := read1_kept ({ s with step := 2 } : PC) s.pc
  have O := read1_outer ({ s with step := 2 } : PC) s s.pc ⟨rfl, rfl, rfl, rfl, rfl, rfl, rfl⟩
  have e : s.turn irq = (if hiI (({ s with step := 2 } : PC).read1 s.pc).ad = hiI (({ s with step := 2 } : PC).read1 s.pc).pc then (({ s with step := 2 } : PC).read1 s.pc).branch else ({ s with step := 2 } : PC).read1 s.pc, (s.read s.pc).2) := by rw [turn_mode s irq 12 1 hst hL.md hstep, w2]; rfl
  have tL : Live (({ s with step := 2 } : PC).read1 s.pc) r i 12 := ⟨K.a.trans hL.a, K.x.trans hL.x, K.y.trans hL.y, K.p.trans hL.p, K.ins.trans hL.ins, K.md.trans hL.md⟩
  have ta : (({ s with step := 2 } : PC).read1 s.pc).ad = goalR r d := K.ad.trans had
  have tp : (({ s with step := 2 } : PC).read1 s.pc).pc = (r.PC + 2) % 65536 := K.pc.trans hpc
  have tS : (({ s with step := 2 } : PC).read1 s.pc).s = r.S := K.sp.trans hS
  have tst : (({ s with step := 2 } : PC).read1 s.pc).st = 1 := K.st.trans hst
  have tstep : (({ s with step := 2 } : PC).read1 s.pc).step = 2 := K.step
  have tb : ∀ q, Beh s q → Beh (({ s with step := 2 } : PC).read1 s.pc) q := fun q hq => ⟨K.ba.trans hq.a, K.bx.trans hq.x, K.b_y.trans hq.y, K.bs.trans hq.sp, K.bp.trans hq.p, K.bpc.trans hq.pc⟩
  have tO : Outer (({ s with step := 2 } : PC).read1 s.pc) (s.read s.pc).1 := O
  generalize ({ s with step := 2 } : PC).read1 s.pc = t at *
  rw [ta, tp] at e
  have hn : nextR (insName i) (modeName 12) r [b0, d] = rdR ((r.PC + 2) % 65536) := by
    rw [show modeName 12 = (b3 114 101 108) from rfl, next_br _ r _ hs]; unfold branchesR; simp only [ht]; rfl
  have hn2 : nextR (insName i) (modeName 12) r ([b0, d] ++ [s.look s.pc]) = if goalR r d / 256 ≠ (r.PC + 2) % 65536 / 256 then rdR ((r.PC + 2) % 65536 / 256 * 256 + goalR r d % 256) else dnR := by
    rw [show modeName 12 = (b3 114 101 108) from rfl, next_br _ r _ hs]; rfl
  have hdn := done_br (insName i) r ([b0, d] ++ [s.look s.pc]) hf
  rw [if_pos ht] at hdn
  rw [e]
  unfold Good
  rw [hn, bus_rd s s.pc _ (by rw [hpc]; omega)]
  by_cases c : hiI (goalR r d) = hiI ((r.PC + 2) % 65536)
  · obtain ⟨f1, f2⟩ := fin_branch t r i _ tL tS ta
    refine ⟨rfl, ?_, .inr ⟨?_, ?_⟩⟩
    · simp only [c, if_true]; exact f2.trans tO
    · show (nextR (insName i) (modeName 12) r ([b0, d] ++ [s.look s.pc])).2 = false
      rw [hn2, if_neg (by intro q; exact q c)]; rfl
    · show Fin_ _ (doneR (insName i) (b3 114 101 108) r ([b0, d] ++ [s.look s.pc]))
      rw [hdn]; simp only [c, if_true]; exact f1
  · refine ⟨rfl, ?_, .inl ⟨?_, ?_, ?_, ?_⟩⟩
    · simp only [c, if_false]; exact tO
    · show (nextR (insName i) (modeName 12) r ([b0, d] ++ [s.look s.pc])).2 = true
      rw [hn2, if_pos (show goalR r d / 256 ≠ (r.PC + 2) % 65536 / 256 from c)]; rfl
    · simp only [c, if_false]; exact tL
    · intro q hq; simp only [c, if_false]; exact tb q hq
    · simp only [c, if_false]; exact .three ht tst tstep ta tS tp c

/-- The cycle in which the page is mended. -/
theorem three_rel (s : PC) (r : RG) (i : Nat) (b0 d x : Int) (irq : Bool) (hL : Live s r i 12) (hi : i < 56) (hok : okPair i 12 = true) (ht : takenR (insName i) r.P = true) (hst : s.st = 1) (hstep : s.step = 2) (had : s.ad = goalR r d) (hS : s.s = r.S) (hpc : s.pc = (r.PC + 2) % 65536) (hne : goalR r d / 256 ≠ (r.PC + 2) % 65536 / 256) :
    Good (fun s h => MidB s r (insName i) h) s (s.turn irq).1 (s.turn irq).2 r i 12 (insName i) (modeName 12) [b0, d, x] := by
  obtain ⟨hs, hf, -⟩ := rel_ok i hi hok
  have hg := goal_r r d
  have hq : joinI (loI s.ad) (hiI s.pc) = (r.PC + 2) % 65536 / 256 * 256 + goalR r d % 256 := by rw [had, hpc]; unfold joinI loI hiI; omega
  have K := read1_kept ({ s with step := 3 } : PC) ((r.PC + 2) % 65536 / 256 * 256 + goalR r d % 256)
  have O := read1_outer ({ s with step := 3 } : PC) s ((r.PC + 2) % 65536 / 256 * 256 + goalR r d % 256) ⟨rfl, rfl, rfl, rfl, rfl, rfl, rfl⟩
  have e : s.turn irq = ((({ s with step := 3 } : PC).read1 ((r.PC + 2) % 65536 / 256 * 256 + goalR r d % 256)).branch, (s.read ((r.PC + 2) % 65536 / 256 * 256 + goalR r d % 256)).2) := by
    rw [turn_mode s irq 12 2 hst hL.md hstep, w3]
    show ((({ s with step := 3 } : PC).read1 (joinI (loI s.ad) (hiI s.pc))).branch, (s.read (joinI (loI s.ad) (hiI s.pc))).2) = _
    rw [hq]
  obtain ⟨f1, f2⟩ := fin_branch (({ s with step := 3 } : PC).read1 ((r.PC + 2) % 65536 / 256 * 256 + goalR r d % 256)) r i (goalR r d) ⟨K.a.trans hL.a, K.x.trans hL.x, K.y.trans hL.y, K.p.trans hL.p, K.ins.trans hL.ins, K.md.trans hL.md⟩ (K.sp.trans hS) (K.ad.trans had)
  have hn : nextR (insName i) (modeName 12) r [b0, d, x] = rdR ((r.PC + 2) % 65536 / 256 * 256 + goalR r d % 256) := by
    rw [show modeName 12 = (b3 114 101 108) from rfl, next_br _ r _ hs]
    show (if goalR r d / 256 ≠ (r.PC + 2) % 65536 / 256 then rdR ((r.PC + 2) % 65536 / 256 * 256 + goalR r d % 256) else dnR) = _
    rw [if_pos hne]
  have hdn := done_br (insName i) r ([b0, d, x] ++ [s.look ((r.PC + 2) % 65536 / 256 * 256 + goalR r d % 256)]) hf
  rw [if_pos ht] at hdn
  rw [e]
  unfold Good
  rw [hn, bus_rd s ((r.PC + 2) % 65536 / 256 * 256 + goalR r d % 256) _ (by omega)]
  refine ⟨rfl, f2.trans O, .inr ⟨?_, ?_⟩⟩
  · show (nextR (insName i) (modeName 12) r ([b0, d, x] ++ [s.look ((r.PC + 2) % 65536 / 256 * 256 + goalR r d % 256)])).2 = false
    rw [show modeName 12 = (b3 114 101 108) from rfl, next_br _ r _ hs]; rfl
  · show Fin_ _ (doneR (insName i) (b3 114 101 108) r ([b0, d, x] ++ [s.look ((r.PC + 2) % 65536 / 256 * 256 + goalR r d % 256)]))
    rw [hdn]; exact f1
end

/-
  Jumps: each cycle of the program is the document's.
-/
section
theorem jmp_ok (i m : Nat) (hi : i < 56) (hm : m = 13 ∨ m = 14) (h : okPair i m = true) : i = 27 := by
  have : ∀ i : Fin 56, (okPair i.val 13 = true → i.val = 27) ∧ (okPair i.val 14 = true → i.val = 27) := by decide +kernel
  rcases hm with rfl | rfl
  · exact (this ⟨i, hi⟩).1 h
  · exact (this ⟨i, hi⟩).2 h

theorem next_jmp (md : BA) (r : RG) (h : List Int) : nextR (insName 27) md r h = jumpsR md r h := rfl
inductive MidJ (s : PC) (r : RG) : Nat → List Int → Prop
  | two {m : Nat} {b0 b1 : Int} : m = 13 ∨ m = 14 → s.st = 1 → s.step = 1 → s.ad = b1 → s.s = r.S → s.pc = (r.PC + 2) % 65536 → MidJ s r m [b0, b1]
  | three {b0 b1 c : Int} : s.st = 1 → s.step = 2 → s.hop = b1 + 256 * c → s.s = r.S → MidJ s r 14 [b0, b1, c]
  | four {b0 b1 c d : Int} : s.st = 1 → s.step = 3 → s.hop = b1 + 256 * c → s.ad = d → s.s = r.S → MidJ s r 14 [b0, b1, c, d]

/-- Where a jump ends: the higher byte comes. -/
theorem fin_jmp (s : PC) (r : RG) (m : Nat) (k a : Int) (hL : Live s r 27 m) (hS : s.s = r.S) (hB : Bytes_ s) (ha : 0 ≤ a ∧ a < 65536) (had : 0 ≤ s.ad ∧ s.ad < 256) :
    (goThere (({ s with step := k } : PC).read a)).2 = (s.read a).2 ∧ Outer (goThere (({ s with step := k } : PC).read a)).1 (s.read a).1 ∧ Fin_ (goThere (({ s with step := k } : PC).read a)).1 { r with PC := s.ad + 256 * s.look a } := by
  have hb := look_b hB a ha.2
  have K := read1_kept ({ s with step := k } : PC) a
  have O := read1_outer ({ s with step := k } : PC) s a ⟨rfl, rfl, rfl, rfl, rfl, rfl, rfl⟩
  have hn : (({ s with step := k } : PC).read1 a).ins.toNat = 27 := by rw [K.ins]; show s.ins.toNat = 27; rw [hL.ins]; rfl
  have hj : joinI (loI (({ s with step := k } : PC).read1 a).ad) (s.look a % 256) = s.ad + 256 * s.look a := by
    rw [K.ad]; unfold joinI loI; show s.look a % 256 * 256 + s.ad % 256 = _; omega
  have e : (goThere (({ s with step := k } : PC).read a)).1 = ({ ({ (({ s with step := k } : PC).read1 a) with ad := s.ad + 256 * s.look a } : PC) with pc := s.ad + 256 * s.look a } : PC).finish := by
    show ({ (({ s with step := k } : PC).read1 a) with ad := joinI (loI (({ s with step := k } : PC).read1 a).ad) (s.look a % 256) } : PC).performLast = _
    rw [hj]
    unfold PC.performLast PC.perform
    show (({ (({ s with step := k } : PC).read1 a) with ad := s.ad + 256 * s.look a } : PC).doIns (({ s with step := k } : PC).read1 a).ins.toNat).finish = _
    rw [hn]; rfl
  rw [e]
  exact ⟨rfl, ⟨O.mem, O.rom, O.cnt, O.calls, O.on, O.due, O.cyc⟩, ⟨rfl, ⟨K.a.trans hL.a, K.x.trans hL.x, K.y.trans hL.y, K.sp.trans hS, K.p.trans hL.p, rfl⟩, K.a.trans hL.a, K.x.trans hL.x, K.y.trans hL.y, K.sp.trans hS, K.p.trans hL.p, rfl⟩⟩

/-- The first byte. -/
theorem one_jmp (s : PC) (r : RG) (m : Nat) (b0 : Int) (irq : Bool) (hm : m = 13 ∨ m = 14) (hL : Live s r 27 m) (hR : Rg r) (hB : Bytes_ s) (hst : s.st = 1) (hstep : s.step = 0) (hS : s.s = r.S) (hpc : s.pc = (r.PC + 1) % 65536) :
    Good (fun s h => MidJ s r m h) s (s.turn irq).1 (s.turn irq).2 r 27 m (insName 27) (modeName m) [b0] := by
  have hp : 0 ≤ s.pc ∧ s.pc < 65536 := by rw [hpc]; omega
  obtain ⟨g1, g2, g3, g4, g5⟩ := g_low s 1 1 hB hp
  have e : s.turn irq = takeLow ({ s with step := 1, st := 1 } : PC).readNext := by
    rcases hm with rfl | rfl
    · rw [turn_mode s irq 13 0 hst hL.md hstep, w1, step_st s 1 hst]; rfl
    · rw [turn_mode s irq 14 0 hst hL.md hstep, w1, step_st s 1 hst]; rfl
  rw [e]
  unfold Good
  rw [next_jmp]
  show _ = (s.busOf (rdR (r.PC + 1)).1).2 ∧ Outer _ (s.busOf (rdR (r.PC + 1)).1).1 ∧ _
  rw [bus_rd s s.pc (r.PC + 1) hpc.symm]
  refine ⟨g1.bus, g1.out, .inl ⟨rfl, g1.live hL, fun q hq => g1.beh q hq, .two hm g2 g3 g4 (g1.sp.trans hS) ?_⟩⟩
  rw [g5, hpc]; have := hR.PC; omega

/-- JMP abs: the second byte: it is done. -/
theorem two_jmp (s : PC) (r : RG) (b0 b1 : Int) (irq : Bool) (hL : Live s r 27 13) (hB : Bytes_ s) (hb1 : 0 ≤ b1 ∧ b1 < 256) (hst : s.st = 1) (hstep : s.step = 1) (had : s.ad = b1) (hS : s.s = r.S) (hpc : s.pc = (r.PC + 2) % 65536) :
    Good (fun s h => MidJ s r 13 h) s (s.turn irq).1 (s.turn irq).2 r 27 13 (insName 27) (modeName 13) [b0, b1] := by
  subst had
  have hp : 0 ≤ s.pc ∧ s.pc < 65536 := by rw [hpc]; omega
  obtain ⟨f1, f2, f3⟩ := fin_jmp s r 13 2 s.pc hL hS hB hp hb1
  have e : s.turn irq = goThere (({ s with step := 2 } : PC).read s.pc) := by rw [turn_mode s irq 13 1 hst hL.md hstep, w2]; rfl
  rw [e]
  unfold Good
  rw [next_jmp]
  show _ = (s.busOf (rdR (r.PC + 2)).1).2 ∧ Outer _ (s.busOf (rdR (r.PC + 2)).1).1 ∧ _
  rw [bus_rd s s.pc (r.PC + 2) hpc.symm, f1]
  refine ⟨rfl, f2, .inr ⟨rfl, ?_⟩⟩
  exact f3

/-- JMP ind: the second byte. -/
theorem two_ind (s : PC) (r : RG) (b0 b1 : Int) (irq : Bool) (hL : Live s r 27 14) (hB : Bytes_ s) (hb1 : 0 ≤ b1 ∧ b1 < 256) (hst : s.st = 1) (hstep : s.step = 1) (had : s.ad = b1) (hS : s.s = r.S) (hpc : s.pc = (r.PC + 2) % 65536) :
    Good (fun s h => MidJ s r 14 h) s (s.turn irq).1 (s.turn irq).2 r 27 14 (insName 27) (modeName 14) [b0, b1] := by
  have hp : 0 ≤ s.pc ∧ s.pc < 65536 := by rw [hpc]; omega
  obtain ⟨g1, g2, g3, g4, g5⟩ := g_high s 2 1 hB hp (by rw [had]; exact hb1)
  have e : s.turn irq = ({ (takeHigh ({ s with step := 2, st := 1 } : PC).readNext).1 with hop := (takeHigh ({ s with step := 2, st := 1 } : PC).readNext).1.ad }, (takeHigh ({ s with step := 2, st := 1 } : PC).readNext).2) := by
    rw [turn_mode s irq 14 1 hst hL.md hstep, w2, step_st s 2 hst]; rfl
  have hl : Live (takeHigh ({ s with step := 2, st := 1 } : PC).readNext).1 r 27 14 := g1.live hL
  have hb : ∀ q, Beh s q → Beh (takeHigh ({ s with step := 2, st := 1 } : PC).readNext).1 q := fun q hq => g1.beh q hq
  have hsp := g1.sp.trans hS
  have ho := g1.out
  rw [e]
  unfold Good
  rw [next_jmp]
  show _ = (s.busOf (rdR (r.PC + 2)).1).2 ∧ Outer _ (s.busOf (rdR (r.PC + 2)).1).1 ∧ _
  rw [bus_rd s s.pc (r.PC + 2) hpc.symm]
  exact ⟨g1.bus, ⟨ho.mem, ho.rom, ho.cnt, ho.calls, ho.on, ho.due, ho.cyc⟩, .inl ⟨rfl, ⟨hl.a, hl.x, hl.y, hl.p, hl.ins, hl.md⟩, fun q hq => ⟨(hb q hq).a, (hb q hq).x, (hb q hq).y, (hb q hq).sp, (hb q hq).p, (hb q hq).pc⟩, .three g2 g3 (by show (takeHigh ({ s with step := 2, st := 1 } : PC).readNext).1.ad = _; rw [g4, had]; rfl) hsp⟩⟩

/-- JMP ind: the lower byte of where it goes. -/
theorem three_ind (s : PC) (r : RG) (b0 b1 c : Int) (irq : Bool) (hL : Live s r 27 14) (hB : Bytes_ s) (hb1 : 0 ≤ b1 ∧ b1 < 256) (hc : 0 ≤ c ∧ c < 256) (hst : s.st = 1) (hstep : s.step = 2) (hh : s.hop = b1 + 256 * c) (hS : s.s = r.S) :
    Good (fun s h => MidJ s r 14 h) s (s.turn irq).1 (s.turn irq).2 r 27 14 (insName 27) (modeName 14) [b0, b1, c] := by
  have ha : 0 ≤ s.hop ∧ s.hop < 65536 := by rw [hh]; omega
  obtain ⟨g1, g2, g3, g4, g5, g6⟩ := g_lowAt s 3 1 s.hop hB ha
  have e : s.turn irq = takeLow (({ s with step := 3, st := 1 } : PC).read s.hop) := by rw [turn_mode s irq 14 2 hst hL.md hstep, w3, step_st s 3 hst]; rfl
  rw [e]
  unfold Good
  rw [next_jmp]
  show _ = (s.busOf (rdR (b1 + 256 * c)).1).2 ∧ Outer _ (s.busOf (rdR (b1 + 256 * c)).1).1 ∧ _
  rw [bus_rd s s.hop (b1 + 256 * c) (by rw [hh]; omega)]
  exact ⟨g1.bus, g1.out, .inl ⟨rfl, g1.live hL, fun q hq => g1.beh q hq, .four g2 g3 (g6.trans hh) g4 (g1.sp.trans hS)⟩⟩

/-- JMP ind: the higher one: it is done. -/
theorem four_ind (s : PC) (r : RG) (b0 b1 c d : Int) (irq : Bool) (hL : Live s r 27 14) (hB : Bytes_ s) (hb1 : 0 ≤ b1 ∧ b1 < 256) (hc : 0 ≤ c ∧ c < 256) (hd : 0 ≤ d ∧ d < 256) (hst : s.st = 1) (hstep : s.step = 3) (hh : s.hop = b1 + 256 * c) (had : s.ad = d) (hS : s.s = r.S) :
    Good (fun s h => MidJ s r 14 h) s (s.turn irq).1 (s.turn irq).2 r 27 14 (insName 27) (modeName 14) [b0, b1, c, d] := by
  subst had
  have hw : withinI s.hop 1 = (b1 + 1) % 256 + 256 * c := by rw [hh]; unfold withinI joinI loI hiI; omega
  have ha : 0 ≤ (b1 + 1) % 256 + 256 * c ∧ (b1 + 1) % 256 + 256 * c < 65536 := by omega
  obtain ⟨f1, f2, f3⟩ := fin_jmp s r 14 4 ((b1 + 1) % 256 + 256 * c) hL hS hB ha hd
  have e : s.turn irq = goThere (({ s with step := 4 } : PC).read ((b1 + 1) % 256 + 256 * c)) := by
    rw [turn_mode s irq 14 3 hst hL.md hstep, w4]
    show goThere (({ s with step := 4 } : PC).read (withinI s.hop 1)) = _
    rw [hw]
  rw [e]
  unfold Good
  rw [next_jmp]
  show _ = (s.busOf (rdR ((b1 + 1) % 256 + 256 * c)).1).2 ∧ Outer _ (s.busOf (rdR ((b1 + 1) % 256 + 256 * c)).1).1 ∧ _
  rw [bus_rd s ((b1 + 1) % 256 + 256 * c) _ (by omega), f1]
  exact ⟨rfl, f2, .inr ⟨rfl, f3⟩⟩
end

/-
  Pulls: each cycle of the program is the document's.
-/
section
/-- A byte read for nothing. -/
theorem g_read (s : PC) (k a : Int) : Gath s (({ s with step := k } : PC).read a).1 (({ s with step := k } : PC).read a).2 a ∧ (({ s with step := k } : PC).read a).1.st = s.st ∧ (({ s with step := k } : PC).read a).1.step = k ∧ (({ s with step := k } : PC).read a).1.pc = s.pc ∧ (({ s with step := k } : PC).read a).1.ad = s.ad := by
  have K := read1_kept ({ s with step := k } : PC) a
  have O := read1_outer ({ s with step := k } : PC) s a ⟨rfl, rfl, rfl, rfl, rfl, rfl, rfl⟩
  exact ⟨⟨rfl, O, K.a, K.x, K.y, K.sp, K.p, K.ins, K.md, K.ba, K.bx, K.b_y, K.bs, K.bp, K.bpc⟩, K.st, K.step, K.pc, K.ad⟩

theorem pull_ok (i : Nat) (hi : i < 56) (h : okPair i 18 = true) : i = 37 ∨ i = 38 := by
  have : ∀ i : Fin 56, okPair i.val 18 = true → i.val = 37 ∨ i.val = 38 := by decide +kernel
  exact this ⟨i, hi⟩ h
theorem next_pl (i : Nat) (md : BA) (r : RG) (h : List Int) (hi : i = 37 ∨ i = 38) : nextR (insName i) md r h = pullsR (insName i) r h := by
  rcases hi with rfl | rfl <;> rfl

inductive MidP (s : PC) (r : RG) : List Int → Prop
  | two {b0 b1 : Int} : s.st = 1 → s.step = 1 → s.s = r.S → s.pc = (r.PC + 1) % 65536 → MidP s r [b0, b1]
  | three {b0 b1 c : Int} : s.st = 1 → s.step = 2 → s.s = r.S → s.pc = (r.PC + 1) % 65536 → MidP s r [b0, b1, c]

theorem one_pull (s : PC) (r : RG) (i : Nat) (b0 : Int) (irq : Bool) (hi : i = 37 ∨ i = 38) (hL : Live s r i 18) (hst : s.st = 1) (hstep : s.step = 0) (hS : s.s = r.S) (hpc : s.pc = (r.PC + 1) % 65536) :
    Good (fun s h => MidP s r h) s (s.turn irq).1 (s.turn irq).2 r i 18 (insName i) (modeName 18) [b0] := by
  obtain ⟨g1, g2, g3, g4, -⟩ := g_read s 1 s.pc
  have e : s.turn irq = ({ s with step := 1 } : PC).read s.pc := by rw [turn_mode s irq 18 0 hst hL.md hstep, w1]; rfl
  have hm : (nextR (insName i) (modeName 18) r ([b0] ++ [(({ s with step := 1 } : PC).read s.pc).2.data])).2 = true := by rw [next_pl i _ r _ hi]; rcases hi with rfl | rfl <;> rfl
  rw [e]
  unfold Good
  rw [next_pl i _ r _ hi]
  show _ = (s.busOf (rdR (r.PC + 1)).1).2 ∧ Outer _ (s.busOf (rdR (r.PC + 1)).1).1 ∧ _
  rw [bus_rd s s.pc (r.PC + 1) hpc.symm]
  exact ⟨g1.bus, g1.out, .inl ⟨hm, g1.live hL, fun q hq => g1.beh q hq, .two (g2.trans hst) g3 (g1.sp.trans hS) (g4.trans hpc)⟩⟩

theorem two_pull (s : PC) (r : RG) (i : Nat) (b0 b1 : Int) (irq : Bool) (hi : i = 37 ∨ i = 38) (hL : Live s r i 18) (hR : Rg r) (hst : s.st = 1) (hstep : s.step = 1) (hS : s.s = r.S) (hpc : s.pc = (r.PC + 1) % 65536) :
    Good (fun s h => MidP s r h) s (s.turn irq).1 (s.turn irq).2 r i 18 (insName i) (modeName 18) [b0, b1] := by
  obtain ⟨g1, g2, g3, g4, -⟩ := g_read s 2 (256 + r.S)
  have e : s.turn irq = ({ s with step := 2 } : PC).read (256 + r.S) := by
    rw [turn_mode s irq 18 1 hst hL.md hstep, w2]
    show ({ s with step := 2 } : PC).read (joinI s.s 1) = _
    rw [hS]; rfl
  have hm : (nextR (insName i) (modeName 18) r ([b0, b1] ++ [(({ s with step := 2 } : PC).read (256 + r.S)).2.data])).2 = true := by rw [next_pl i _ r _ hi]; rcases hi with rfl | rfl <;> rfl
  have hn : nextR (insName i) (modeName 18) r [b0, b1] = rdR (256 + (r.S + 2 - 2) % 256) := by rw [next_pl i _ r _ hi]; rcases hi with rfl | rfl <;> rfl
  rw [e]
  unfold Good
  rw [hn, bus_rd s (256 + r.S) _ (by have := hR.S; omega)]
  exact ⟨g1.bus, g1.out, .inl ⟨hm, g1.live hL, fun q hq => g1.beh q hq, .three (g2.trans hst) g3 (g1.sp.trans hS) (g4.trans hpc)⟩⟩

/-- The byte is pulled: it is done. -/
theorem three_pull (s : PC) (r : RG) (i : Nat) (b0 b1 c : Int) (irq : Bool) (hi : i = 37 ∨ i = 38) (hL : Live s r i 18) (hR : Rg r) (hB : Bytes_ s) (hst : s.st = 1) (hstep : s.step = 2) (hS : s.s = r.S) (hpc : s.pc = (r.PC + 1) % 65536) :
    Good (fun s h => MidP s r h) s (s.turn irq).1 (s.turn irq).2 r i 18 (insName i) (modeName 18) [b0, b1, c] := by
  have ha : 0 ≤ 256 + (r.S + 1) % 256 ∧ 256 + (r.S + 1) % 256 < 65536 := by omega
  have hb := look_b hB _ ha.2
  have el : s.look (256 + (r.S + 1) % 256) % 256 = s.look (256 + (r.S + 1) % 256) := by omega
  have K := read1_kept ({ s with step := 3, s := (r.S + 1) % 256 } : PC) (256 + (r.S + 1) % 256)
  have O := read1_outer ({ s with step := 3, s := (r.S + 1) % 256 } : PC) s (256 + (r.S + 1) % 256) ⟨rfl, rfl, rfl, rfl, rfl, rfl, rfl⟩
  obtain ⟨t, e, tL, tS, td, tp, tO⟩ : ∃ t : PC, s.turn irq = (t.performLast, (s.read (256 + (r.S + 1) % 256)).2) ∧ Live t r i 18 ∧ t.s = (r.S + 1) % 256 ∧ t.data = s.look (256 + (r.S + 1) % 256) ∧ t.pc = (r.PC + 1) % 65536 ∧ Outer t (s.read (256 + (r.S + 1) % 256)).1 := by
    refine ⟨({ (({ s with step := 3, s := (r.S + 1) % 256 } : PC).read1 (256 + (r.S + 1) % 256)) with data := s.look (256 + (r.S + 1) % 256) % 256 } : PC), ?_, ⟨K.a.trans hL.a, K.x.trans hL.x, K.y.trans hL.y, K.p.trans hL.p, K.ins.trans hL.ins, K.md.trans hL.md⟩, K.sp, el, K.pc.trans hpc, ⟨O.mem, O.rom, O.cnt, O.calls, O.on, O.due, O.cyc⟩⟩
    rw [turn_mode s irq 18 2 hst hL.md hstep, w3]
    show (({ (({ s with step := 3, s := (s.s + 1) % 256 } : PC).read1 (joinI ((s.s + 1) % 256) 1)) with data := s.look (joinI ((s.s + 1) % 256) 1) % 256 } : PC).performLast, (s.read (joinI ((s.s + 1) % 256) 1)).2) = _
    rw [hS]; rfl
  have hn : nextR (insName i) (modeName 18) r [b0, b1, c] = rdR (256 + (r.S + 3 - 2) % 256) := by rw [next_pl i _ r _ hi]; rcases hi with rfl | rfl <;> rfl
  have hm : (nextR (insName i) (modeName 18) r ([b0, b1, c] ++ [s.look (256 + (r.S + 1) % 256)])).2 = false := by rw [next_pl i _ r _ hi]; rcases hi with rfl | rfl <;> rfl
  have hf : Fin_ t.performLast (doneR (insName i) (modeName 18) r ([b0, b1, c] ++ [s.look (256 + (r.S + 1) % 256)])) ∧ Outer t.performLast t := by
    have hn : t.ins.toNat = i := by rw [tL.ins]; rfl
    rcases hi with rfl | rfl
    · have q : t.performLast = ({ t with a := t.data, p := nzR t.p t.data } : PC).finish := by
        unfold PC.performLast PC.perform
        rw [hn]
        show (t.loadA t.data).finish = _
        unfold PC.loadA
        rw [nz_eq t.p t.data (by rw [tL.p]; exact hR.P.1) (by rw [tL.p]; exact hR.P.2) (by rw [td]; exact hb.1) (by rw [td]; exact hb.2)]
      rw [q]
      refine ⟨⟨rfl, ⟨td, tL.x, tL.y, tS, ?_, tp⟩, td, tL.x, tL.y, tS, ?_, tp⟩, ⟨rfl, rfl, rfl, rfl, rfl, rfl, rfl⟩⟩
      all_goals (show nzR t.p t.data = nzR r.P (s.look (256 + (r.S + 1) % 256)); rw [tL.p, td])
    · have q : t.performLast = ({ t with p := i64or (i64and t.data 207) 32 } : PC).finish := by
        unfold PC.performLast PC.perform
        rw [hn]
        show ({ t with p := setpI t.data } : PC).finish = _
        rw [setp_eq t.data (by rw [td]; exact hb.1) (by rw [td]; exact hb.2)]
      rw [q]
      refine ⟨⟨rfl, ⟨tL.a, tL.x, tL.y, tS, ?_, tp⟩, tL.a, tL.x, tL.y, tS, ?_, tp⟩, ⟨rfl, rfl, rfl, rfl, rfl, rfl, rfl⟩⟩
      all_goals (show i64or (i64and t.data 207) 32 = i64or (i64and (s.look (256 + (r.S + 1) % 256)) 207) 32; rw [td])
  rw [e]
  unfold Good
  rw [hn, bus_rd s (256 + (r.S + 1) % 256) _ (by have := hR.S; omega)]
  exact ⟨rfl, hf.2.trans tO, .inr ⟨hm, hf.1⟩⟩
end

/-
  Pushes: each cycle of the program is the document's.
-/
section
theorem push_ok (i : Nat) (hi : i < 56) (h : okPair i 17 = true) : i = 35 ∨ i = 36 := by
  have : ∀ i : Fin 56, okPair i.val 17 = true → i.val = 35 ∨ i.val = 36 := by decide +kernel
  exact this ⟨i, hi⟩ h

inductive MidU (s : PC) (r : RG) : List Int → Prop
  | two {b0 b1 : Int} : s.st = 1 → s.step = 1 → s.s = r.S → s.pc = (r.PC + 1) % 65536 → MidU s r [b0, b1]

theorem one_push (s : PC) (r : RG) (i : Nat) (b0 : Int) (irq : Bool) (hi : i = 35 ∨ i = 36) (hL : Live s r i 17) (hst : s.st = 1) (hstep : s.step = 0) (hS : s.s = r.S) (hpc : s.pc = (r.PC + 1) % 65536) :
    Good (fun s h => MidU s r h) s (s.turn irq).1 (s.turn irq).2 r i 17 (insName i) (modeName 17) [b0] := by
  obtain ⟨g1, g2, g3, g4, -⟩ := g_read s 1 s.pc
  have e : s.turn irq = ({ s with step := 1 } : PC).read s.pc := by rw [turn_mode s irq 17 0 hst hL.md hstep, w1]; rfl
  have hm : (nextR (insName i) (modeName 17) r ([b0] ++ [(({ s with step := 1 } : PC).read s.pc).2.data])).2 = true := by rcases hi with rfl | rfl <;> rfl
  have hn : nextR (insName i) (modeName 17) r [b0] = rdR (r.PC + 1) := by rcases hi with rfl | rfl <;> rfl
  rw [e]
  unfold Good
  rw [hn, bus_rd s s.pc (r.PC + 1) hpc.symm]
  exact ⟨g1.bus, g1.out, .inl ⟨hm, g1.live hL, fun q hq => g1.beh q hq, .two (g2.trans hst) g3 (g1.sp.trans hS) (g4.trans hpc)⟩⟩

/-- The byte is pushed: it is done. -/
theorem two_push (s : PC) (r : RG) (i : Nat) (b0 b1 : Int) (irq : Bool) (hi : i = 35 ∨ i = 36) (hL : Live s r i 17) (hR : Rg r) (hst : s.st = 1) (hstep : s.step = 1) (hS : s.s = r.S) (hpc : s.pc = (r.PC + 1) % 65536) :
    Good (fun s h => MidU s r h) s (s.turn irq).1 (s.turn irq).2 r i 17 (insName i) (modeName 17) [b0, b1] := by
  have em : (256 + r.S) % 65536 = 256 + r.S := by have := hR.S; omega
  have hv : ∃ v : Int, ({ s with step := 2 } : PC).perform = { s with step := 2, data := v } ∧ nextR (insName i) (modeName 17) r [b0, b1] = wrR (256 + r.S) v := by
    have hn : ({ s with step := 2 } : PC).ins.toNat = i := by show s.ins.toNat = i; rw [hL.ins]; rfl
    rcases hi with rfl | rfl
    · refine ⟨s.a, ?_, ?_⟩
      · unfold PC.perform; rw [hn]; rfl
      · rw [hL.a]; rfl
    · refine ⟨bits .or .u8 s.p 16, ?_, ?_⟩
      · unfold PC.perform; rw [hn]; rfl
      · rw [or_u8_i64 s.p 16 (by rw [hL.p]; exact hR.P.1) (by rw [hL.p]; exact hR.P.2) (by omega) (by omega), hL.p]; rfl
  obtain ⟨v, hpf, hn⟩ := hv
  have e : s.turn irq = (({ (({ s with step := 2, data := v } : PC).write1 (256 + r.S) v) with s := ((({ s with step := 2, data := v } : PC).write1 (256 + r.S) v).s - 1) % 256 } : PC).finish, (s.write (256 + r.S) v).2) := by
    rw [turn_mode s irq 17 1 hst hL.md hstep, w2]
    show ((({ s with step := 2 } : PC).perform.pushed ({ s with step := 2 } : PC).perform.data).1.finish, (({ s with step := 2 } : PC).perform.pushed ({ s with step := 2 } : PC).perform.data).2) = _
    rw [hpf]
    show (({ (({ s with step := 2, data := v } : PC).write1 (joinI s.s 1) v) with s := ((({ s with step := 2, data := v } : PC).write1 (joinI s.s 1) v).s - 1) % 256 } : PC).finish, (s.write (joinI s.s 1) v).2) = _
    rw [show joinI s.s 1 = 256 + r.S from by rw [hS]; rfl]
  obtain ⟨w1', w2'⟩ := write_outer ({ s with step := 2, data := v } : PC) s (256 + r.S) v ⟨rfl, rfl, rfl, rfl, rfl, rfl, rfl⟩
  obtain ⟨u, hu, u1, u2, u3, u4, u5, u6, -⟩ := write_keeps ({ s with step := 2, data := v } : PC) (256 + r.S) v
  have hu' : ({ s with step := 2, data := v } : PC).write1 (256 + r.S) v = u := hu
  have w2'' : Outer u (s.write (256 + r.S) v).1 := by rw [← hu]; exact w2'
  rw [hu'] at e
  have hm : (nextR (insName i) (modeName 17) r ([b0, b1] ++ [v])).2 = false := by rcases hi with rfl | rfl <;> rfl
  have hd : doneR (insName i) (modeName 17) r ([b0, b1] ++ [v]) = { r with PC := (r.PC + 1) % 65536, S := (r.S - 1) % 256 } := by rcases hi with rfl | rfl <;> rfl
  rw [e]
  unfold Good
  rw [hn]
  have hbus : s.busOf (wrR (256 + r.S) v).1 = s.write (256 + r.S) v := by unfold PC.busOf wrR; simp only [em]; rfl
  rw [hbus]
  refine ⟨rfl, ⟨w2''.mem, w2''.rom, w2''.cnt, w2''.calls, w2''.on, w2''.due, w2''.cyc⟩, .inr ⟨hm, ?_⟩⟩
  show Fin_ _ (doneR (insName i) (modeName 17) r ([b0, b1] ++ [v]))
  rw [hd]
  have us : (u.s - 1) % 256 = (r.S - 1) % 256 := by rw [u4]; show (s.s - 1) % 256 = _; rw [hS]
  exact ⟨rfl, ⟨u1.trans hL.a, u2.trans hL.x, u3.trans hL.y, us, u5.trans hL.p, u6.trans hpc⟩, u1.trans hL.a, u2.trans hL.x, u3.trans hL.y, us, u5.trans hL.p, u6.trans hpc⟩
end

end Go.Proofs.YtcgjliflnnklnaaGreat
