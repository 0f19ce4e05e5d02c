/-
  Joined texts.
-/
import Derived.WalkKit
import Derived.WalkSpells
import Derived.WalkLawsBesides
import Derived.Deep.RegionHeld3
import Derived.Test.YtcgjliflnnklnaaGreatProg
import Derived.Test.YtcgjliflnnklnaaGreatJ02
namespace Go.Proofs.YtcgjliflnnklnaaGreat
open Go.RowKit

/-
  The program's computer as plain data, and where it lies in memory.
-/
section
theorem cp_addr (B a b : Nat) (h : a ≠ b) : (⟨B, a, none⟩ : Addr) ≠ ⟨B, b, none⟩ := by
  intro e; injection e with e1 e2; exact h e2

/-- The computer s lies in block B. -/
structure CAt (w : World) (B : Nat) (s : PC) : Prop where
  mem : ∀ i, i < 65536 → w.cell? ⟨B, i, none⟩ = some (.int .u8 (s.mem i))
  rmem : ∀ i, i < 65536 → 0 ≤ s.mem i ∧ s.mem i < 256
  crom : w.cell? ⟨B, 65536, none⟩ = some (.int .i64 s.rom)
  ccnt : w.cell? ⟨B, 65537, none⟩ = some (.int .u8 s.cnt)
  ccalls : w.cell? ⟨B, 65538, none⟩ = some (.bool s.calls)
  ca : w.cell? ⟨B, 65539, none⟩ = some (.int .u8 s.a)
  cx : w.cell? ⟨B, 65540, none⟩ = some (.int .u8 s.x)
  cy : w.cell? ⟨B, 65541, none⟩ = some (.int .u8 s.y)
  cs : w.cell? ⟨B, 65542, none⟩ = some (.int .u8 s.s)
  cp : w.cell? ⟨B, 65543, none⟩ = some (.int .u8 s.p)
  cpc : w.cell? ⟨B, 65544, none⟩ = some (.int .u16 s.pc)
  cba : w.cell? ⟨B, 65545, none⟩ = some (.int .u8 s.ba)
  cbx : w.cell? ⟨B, 65546, none⟩ = some (.int .u8 s.bx)
  cb_y : w.cell? ⟨B, 65547, none⟩ = some (.int .u8 s.b_y)
  cbs : w.cell? ⟨B, 65548, none⟩ = some (.int .u8 s.bs)
  cbp : w.cell? ⟨B, 65549, none⟩ = some (.int .u8 s.bp)
  cbpc : w.cell? ⟨B, 65550, none⟩ = some (.int .u16 s.bpc)
  cst : w.cell? ⟨B, 65551, none⟩ = some (.int .u8 s.st)
  cins : w.cell? ⟨B, 65552, none⟩ = some (.int .u8 s.ins)
  cmd : w.cell? ⟨B, 65553, none⟩ = some (.int .u8 s.md)
  cstep : w.cell? ⟨B, 65554, none⟩ = some (.int .i64 s.step)
  cad : w.cell? ⟨B, 65555, none⟩ = some (.int .u16 s.ad)
  chop : w.cell? ⟨B, 65556, none⟩ = some (.int .u16 s.hop)
  cdata : w.cell? ⟨B, 65557, none⟩ = some (.int .u8 s.data)
  ctaken : w.cell? ⟨B, 65558, none⟩ = some (.bool s.taken)
  cnmiOn : w.cell? ⟨B, 65559, none⟩ = some (.bool s.nmiOn)
  cnmiDue : w.cell? ⟨B, 65560, none⟩ = some (.bool s.nmiDue)
  ccyc : w.cell? ⟨B, 65561, none⟩ = some (.int .i64 s.cyc)
  rrom : 0 ≤ s.rom ∧ s.rom < 65537
  rcnt : 0 ≤ s.cnt ∧ s.cnt < 256
  ra : 0 ≤ s.a ∧ s.a < 256
  rx : 0 ≤ s.x ∧ s.x < 256
  ry : 0 ≤ s.y ∧ s.y < 256
  rs : 0 ≤ s.s ∧ s.s < 256
  rp : 0 ≤ s.p ∧ s.p < 256
  rpc : 0 ≤ s.pc ∧ s.pc < 65536
  rba : 0 ≤ s.ba ∧ s.ba < 256
  rbx : 0 ≤ s.bx ∧ s.bx < 256
  rb_y : 0 ≤ s.b_y ∧ s.b_y < 256
  rbs : 0 ≤ s.bs ∧ s.bs < 256
  rbp : 0 ≤ s.bp ∧ s.bp < 256
  rbpc : 0 ≤ s.bpc ∧ s.bpc < 65536
  rst : 0 ≤ s.st ∧ s.st < 6
  rins : 0 ≤ s.ins ∧ s.ins < 56
  rmd : 0 ≤ s.md ∧ s.md < 23
  rstep : -9223372036854775808 ≤ s.step ∧ s.step < 9223372036854775808
  rad : 0 ≤ s.ad ∧ s.ad < 65536
  rhop : 0 ≤ s.hop ∧ s.hop < 65536
  rdata : 0 ≤ s.data ∧ s.data < 256
  rcyc : -9223372036854775808 ≤ s.cyc ∧ s.cyc < 9223372036854775808
  free : ∀ o, w.frozen? ⟨B, o, none⟩ = false
  crest : ∀ o, 65562 ≤ o → w.cell? ⟨B, o, none⟩ = s.rest o

theorem CAt.lt {w : World} {B : Nat} {s : PC} (h : CAt w B s) : B < w.heap.size := World.block_lt_of_cell? w ⟨B, 65536, none⟩ h.crom
theorem CAt.same {w w' : World} {B : Nat} {s : PC} (h : CAt w B s) (e : w'.heap[B]? = w.heap[B]?) : CAt w' B s := by
  have q : ∀ o, w'.cell? ⟨B, o, none⟩ = w.cell? ⟨B, o, none⟩ := fun o => World.cell?_of_block (a := ⟨B, o, none⟩) e
  exact { mem := fun i hi => (q _).trans (h.mem i hi), rmem := h.rmem, crom := (q _).trans h.crom, ccnt := (q _).trans h.ccnt, ccalls := (q _).trans h.ccalls, ca := (q _).trans h.ca, cx := (q _).trans h.cx, cy := (q _).trans h.cy, cs := (q _).trans h.cs, cp := (q _).trans h.cp, cpc := (q _).trans h.cpc, cba := (q _).trans h.cba, cbx := (q _).trans h.cbx, cb_y := (q _).trans h.cb_y, cbs := (q _).trans h.cbs, cbp := (q _).trans h.cbp, cbpc := (q _).trans h.cbpc, cst := (q _).trans h.cst, cins := (q _).trans h.cins, cmd := (q _).trans h.cmd, cstep := (q _).trans h.cstep, cad := (q _).trans h.cad, chop := (q _).trans h.chop, cdata := (q _).trans h.cdata, ctaken := (q _).trans h.ctaken, cnmiOn := (q _).trans h.cnmiOn, cnmiDue := (q _).trans h.cnmiDue, ccyc := (q _).trans h.ccyc, rrom := h.rrom, rcnt := h.rcnt, ra := h.ra, rx := h.rx, ry := h.ry, rs := h.rs, rp := h.rp, rpc := h.rpc, rba := h.rba, rbx := h.rbx, rb_y := h.rb_y, rbs := h.rbs, rbp := h.rbp, rbpc := h.rbpc, rst := h.rst, rins := h.rins, rmd := h.rmd, rstep := h.rstep, rad := h.rad, rhop := h.rhop, rdata := h.rdata, rcyc := h.rcyc, free := fun o => (World.frozen?_of_block (a := ⟨B, o, none⟩) e).trans (h.free o), crest := fun o ho => (q _).trans (h.crest o ho) }

theorem catq (w : World) (B n : Nat) (v : Value) : ∀ o, o ≠ n → (w.setCell ⟨B, n, none⟩ v).cell? ⟨B, o, none⟩ = w.cell? ⟨B, o, none⟩ := fun _ ho => World.cell?_setCell_other _ _ _ _ (cp_addr _ _ _ (fun e => ho e.symm))
theorem cset {p : Prop} (z : p := by exact { mem := fun i hi => (q _ (by omega)).trans (h.mem i hi), rmem := h.rmem, crom := by first | exact (q _ (by decide)).trans h.crom | exact World.cell?_setCell_same _ _ _ h.crom, ccnt := by first | exact (q _ (by decide)).trans h.ccnt | exact World.cell?_setCell_same _ _ _ h.ccnt, ccalls := by first | exact (q _ (by decide)).trans h.ccalls | exact World.cell?_setCell_same _ _ _ h.ccalls, ca := by first | exact (q _ (by decide)).trans h.ca | exact World.cell?_setCell_same _ _ _ h.ca, cx := by first | exact (q _ (by decide)).trans h.cx | exact World.cell?_setCell_same _ _ _ h.cx, cy := by first | exact (q _ (by decide)).trans h.cy | exact World.cell?_setCell_same _ _ _ h.cy, cs := by first | exact (q _ (by decide)).trans h.cs | exact World.cell?_setCell_same _ _ _ h.cs, cp := by first | exact (q _ (by decide)).trans h.cp | exact World.cell?_setCell_same _ _ _ h.cp, cpc := by first | exact (q _ (by decide)).trans h.cpc | exact World.cell?_setCell_same _ _ _ h.cpc, cba := by first | exact (q _ (by decide)).trans h.cba | exact World.cell?_setCell_same _ _ _ h.cba, cbx := by first | exact (q _ (by decide)).trans h.cbx | exact World.cell?_setCell_same _ _ _ h.cbx, cb_y := by first | exact (q _ (by decide)).trans h.cb_y | exact World.cell?_setCell_same _ _ _ h.cb_y, cbs := by first | exact (q _ (by decide)).trans h.cbs | exact World.cell?_setCell_same _ _ _ h.cbs, cbp := by first | exact (q _ (by decide)).trans h.cbp | exact World.cell?_setCell_same _ _ _ h.cbp, cbpc := by first | exact (q _ (by decide)).trans h.cbpc | exact World.cell?_setCell_same _ _ _ h.cbpc, cst := by first | exact (q _ (by decide)).trans h.cst | exact World.cell?_setCell_same _ _ _ h.cst, cins := by first | exact (q _ (by decide)).trans h.cins | exact World.cell?_setCell_same _ _ _ h.cins, cmd := by first | exact (q _ (by decide)).trans h.cmd | exact World.cell?_setCell_same _ _ _ h.cmd, cstep := by first | exact (q _ (by decide)).trans h.cstep | exact World.cell?_setCell_same _ _ _ h.cstep, cad := by first | exact (q _ (by decide)).trans h.cad | exact World.cell?_setCell_same _ _ _ h.cad, chop := by first | exact (q _ (by decide)).trans h.chop | exact World.cell?_setCell_same _ _ _ h.chop, cdata := by first | exact (q _ (by decide)).trans h.cdata | exact World.cell?_setCell_same _ _ _ h.cdata, ctaken := by first | exact (q _ (by decide)).trans h.ctaken | exact World.cell?_setCell_same _ _ _ h.ctaken, cnmiOn := by first | exact (q _ (by decide)).trans h.cnmiOn | exact World.cell?_setCell_same _ _ _ h.cnmiOn, cnmiDue := by first | exact (q _ (by decide)).trans h.cnmiDue | exact World.cell?_setCell_same _ _ _ h.cnmiDue, ccyc := by first | exact (q _ (by decide)).trans h.ccyc | exact World.cell?_setCell_same _ _ _ h.ccyc, rrom := by first | exact h.rrom | exact hv, rcnt := by first | exact h.rcnt | exact hv, ra := by first | exact h.ra | exact hv, rx := by first | exact h.rx | exact hv, ry := by first | exact h.ry | exact hv, rs := by first | exact h.rs | exact hv, rp := by first | exact h.rp | exact hv, rpc := by first | exact h.rpc | exact hv, rba := by first | exact h.rba | exact hv, rbx := by first | exact h.rbx | exact hv, rb_y := by first | exact h.rb_y | exact hv, rbs := by first | exact h.rbs | exact hv, rbp := by first | exact h.rbp | exact hv, rbpc := by first | exact h.rbpc | exact hv, rst := by first | exact h.rst | exact hv, rins := by first | exact h.rins | exact hv, rmd := by first | exact h.rmd | exact hv, rstep := by first | exact h.rstep | exact hv, rad := by first | exact h.rad | exact hv, rhop := by first | exact h.rhop | exact hv, rdata := by first | exact h.rdata | exact hv, rcyc := by first | exact h.rcyc | exact hv, free := fun o => by rw [World.frozen?_setCell]; exact h.free o, crest := fun o ho => (q _ (by omega)).trans (h.crest o ho) }) : p := z
theorem CAt.setRom {w : World} {B : Nat} {s : PC} (h : CAt w B s) (v : Int) (hv : 0 ≤ v ∧ v < 65537) : CAt (w.setCell ⟨B, 65536, none⟩ (.int .i64 v)) B { s with rom := v } := by
  have q := catq w B 65536 (.int .i64 v)
  exact cset
theorem CAt.setCnt {w : World} {B : Nat} {s : PC} (h : CAt w B s) (v : Int) (hv : 0 ≤ v ∧ v < 256) : CAt (w.setCell ⟨B, 65537, none⟩ (.int .u8 v)) B { s with cnt := v } := by
  have q := catq w B 65537 (.int .u8 v)
  exact cset
theorem CAt.setCalls {w : World} {B : Nat} {s : PC} (h : CAt w B s) (v : Bool) : CAt (w.setCell ⟨B, 65538, none⟩ (.bool v)) B { s with calls := v } := by
  have q := catq w B 65538 (.bool v)
  exact cset
theorem CAt.setA {w : World} {B : Nat} {s : PC} (h : CAt w B s) (v : Int) (hv : 0 ≤ v ∧ v < 256) : CAt (w.setCell ⟨B, 65539, none⟩ (.int .u8 v)) B { s with a := v } := by
  have q := catq w B 65539 (.int .u8 v)
  exact cset
theorem CAt.setX {w : World} {B : Nat} {s : PC} (h : CAt w B s) (v : Int) (hv : 0 ≤ v ∧ v < 256) : CAt (w.setCell ⟨B, 65540, none⟩ (.int .u8 v)) B { s with x := v } := by
  have q := catq w B 65540 (.int .u8 v)
  exact cset
theorem CAt.setY {w : World} {B : Nat} {s : PC} (h : CAt w B s) (v : Int) (hv : 0 ≤ v ∧ v < 256) : CAt (w.setCell ⟨B, 65541, none⟩ (.int .u8 v)) B { s with y := v } := by
  have q := catq w B 65541 (.int .u8 v)
  exact cset
theorem CAt.setS {w : World} {B : Nat} {s : PC} (h : CAt w B s) (v : Int) (hv : 0 ≤ v ∧ v < 256) : CAt (w.setCell ⟨B, 65542, none⟩ (.int .u8 v)) B { s with s := v } := by
  have q := catq w B 65542 (.int .u8 v)
  exact cset
theorem CAt.setP {w : World} {B : Nat} {s : PC} (h : CAt w B s) (v : Int) (hv : 0 ≤ v ∧ v < 256) : CAt (w.setCell ⟨B, 65543, none⟩ (.int .u8 v)) B { s with p := v } := by
  have q := catq w B 65543 (.int .u8 v)
  exact cset
theorem CAt.setPc {w : World} {B : Nat} {s : PC} (h : CAt w B s) (v : Int) (hv : 0 ≤ v ∧ v < 65536) : CAt (w.setCell ⟨B, 65544, none⟩ (.int .u16 v)) B { s with pc := v } := by
  have q := catq w B 65544 (.int .u16 v)
  exact cset
theorem CAt.setBa {w : World} {B : Nat} {s : PC} (h : CAt w B s) (v : Int) (hv : 0 ≤ v ∧ v < 256) : CAt (w.setCell ⟨B, 65545, none⟩ (.int .u8 v)) B { s with ba := v } := by
  have q := catq w B 65545 (.int .u8 v)
  exact cset
theorem CAt.setBx {w : World} {B : Nat} {s : PC} (h : CAt w B s) (v : Int) (hv : 0 ≤ v ∧ v < 256) : CAt (w.setCell ⟨B, 65546, none⟩ (.int .u8 v)) B { s with bx := v } := by
  have q := catq w B 65546 (.int .u8 v)
  exact cset
theorem CAt.setB_y {w : World} {B : Nat} {s : PC} (h : CAt w B s) (v : Int) (hv : 0 ≤ v ∧ v < 256) : CAt (w.setCell ⟨B, 65547, none⟩ (.int .u8 v)) B { s with b_y := v } := by
  have q := catq w B 65547 (.int .u8 v)
  exact cset
theorem CAt.setBs {w : World} {B : Nat} {s : PC} (h : CAt w B s) (v : Int) (hv : 0 ≤ v ∧ v < 256) : CAt (w.setCell ⟨B, 65548, none⟩ (.int .u8 v)) B { s with bs := v } := by
  have q := catq w B 65548 (.int .u8 v)
  exact cset
theorem CAt.setBp {w : World} {B : Nat} {s : PC} (h : CAt w B s) (v : Int) (hv : 0 ≤ v ∧ v < 256) : CAt (w.setCell ⟨B, 65549, none⟩ (.int .u8 v)) B { s with bp := v } := by
  have q := catq w B 65549 (.int .u8 v)
  exact cset
theorem CAt.setBpc {w : World} {B : Nat} {s : PC} (h : CAt w B s) (v : Int) (hv : 0 ≤ v ∧ v < 65536) : CAt (w.setCell ⟨B, 65550, none⟩ (.int .u16 v)) B { s with bpc := v } := by
  have q := catq w B 65550 (.int .u16 v)
  exact cset
theorem CAt.setSt {w : World} {B : Nat} {s : PC} (h : CAt w B s) (v : Int) (hv : 0 ≤ v ∧ v < 6) : CAt (w.setCell ⟨B, 65551, none⟩ (.int .u8 v)) B { s with st := v } := by
  have q := catq w B 65551 (.int .u8 v)
  exact cset
theorem CAt.setIns {w : World} {B : Nat} {s : PC} (h : CAt w B s) (v : Int) (hv : 0 ≤ v ∧ v < 56) : CAt (w.setCell ⟨B, 65552, none⟩ (.int .u8 v)) B { s with ins := v } := by
  have q := catq w B 65552 (.int .u8 v)
  exact cset
theorem CAt.setMd {w : World} {B : Nat} {s : PC} (h : CAt w B s) (v : Int) (hv : 0 ≤ v ∧ v < 23) : CAt (w.setCell ⟨B, 65553, none⟩ (.int .u8 v)) B { s with md := v } := by
  have q := catq w B 65553 (.int .u8 v)
  exact cset
theorem CAt.setStep {w : World} {B : Nat} {s : PC} (h : CAt w B s) (v : Int) (hv : -9223372036854775808 ≤ v ∧ v < 9223372036854775808) : CAt (w.setCell ⟨B, 65554, none⟩ (.int .i64 v)) B { s with step := v } := by
  have q := catq w B 65554 (.int .i64 v)
  exact cset
theorem CAt.setAd {w : World} {B : Nat} {s : PC} (h : CAt w B s) (v : Int) (hv : 0 ≤ v ∧ v < 65536) : CAt (w.setCell ⟨B, 65555, none⟩ (.int .u16 v)) B { s with ad := v } := by
  have q := catq w B 65555 (.int .u16 v)
  exact cset
theorem CAt.setHop {w : World} {B : Nat} {s : PC} (h : CAt w B s) (v : Int) (hv : 0 ≤ v ∧ v < 65536) : CAt (w.setCell ⟨B, 65556, none⟩ (.int .u16 v)) B { s with hop := v } := by
  have q := catq w B 65556 (.int .u16 v)
  exact cset
theorem CAt.setData {w : World} {B : Nat} {s : PC} (h : CAt w B s) (v : Int) (hv : 0 ≤ v ∧ v < 256) : CAt (w.setCell ⟨B, 65557, none⟩ (.int .u8 v)) B { s with data := v } := by
  have q := catq w B 65557 (.int .u8 v)
  exact cset
theorem CAt.setTaken {w : World} {B : Nat} {s : PC} (h : CAt w B s) (v : Bool) : CAt (w.setCell ⟨B, 65558, none⟩ (.bool v)) B { s with taken := v } := by
  have q := catq w B 65558 (.bool v)
  exact cset
theorem CAt.setNmiOn {w : World} {B : Nat} {s : PC} (h : CAt w B s) (v : Bool) : CAt (w.setCell ⟨B, 65559, none⟩ (.bool v)) B { s with nmiOn := v } := by
  have q := catq w B 65559 (.bool v)
  exact cset
theorem CAt.setNmiDue {w : World} {B : Nat} {s : PC} (h : CAt w B s) (v : Bool) : CAt (w.setCell ⟨B, 65560, none⟩ (.bool v)) B { s with nmiDue := v } := by
  have q := catq w B 65560 (.bool v)
  exact cset
theorem CAt.setCyc {w : World} {B : Nat} {s : PC} (h : CAt w B s) (v : Int) (hv : -9223372036854775808 ≤ v ∧ v < 9223372036854775808) : CAt (w.setCell ⟨B, 65561, none⟩ (.int .i64 v)) B { s with cyc := v } := by
  have q := catq w B 65561 (.int .i64 v)
  exact cset
theorem CAt.setMem {w : World} {B : Nat} {s : PC} (h : CAt w B s) (i : Nat) (v : Int) (hi : i < 65536) (hv : 0 ≤ v ∧ v < 256) : CAt (w.setCell ⟨B, i, none⟩ (.int .u8 v)) B { s with mem := mput s.mem i v } := by
  have q : ∀ o, o ≠ i → (w.setCell ⟨B, i, none⟩ (.int .u8 v)).cell? ⟨B, o, none⟩ = w.cell? ⟨B, o, none⟩ := fun _ ho => World.cell?_setCell_other _ _ _ _ (cp_addr _ _ _ (fun e => ho e.symm))
  exact { mem := fun k hk => by
            by_cases e : k = i
            · subst e; rw [World.cell?_setCell_same _ _ _ (h.mem k hk)]; simp [mput]
            · rw [q k e, h.mem k hk]; simp [mput, e],
          rmem := fun k hk => by
            by_cases e : k = i
            · subst e; simpa [mput] using hv
            · simpa [mput, e] using h.rmem k hk,
          crom := (q _ (by omega)).trans h.crom, ccnt := (q _ (by omega)).trans h.ccnt, ccalls := (q _ (by omega)).trans h.ccalls, ca := (q _ (by omega)).trans h.ca, cx := (q _ (by omega)).trans h.cx, cy := (q _ (by omega)).trans h.cy, cs := (q _ (by omega)).trans h.cs, cp := (q _ (by omega)).trans h.cp, cpc := (q _ (by omega)).trans h.cpc, cba := (q _ (by omega)).trans h.cba, cbx := (q _ (by omega)).trans h.cbx, cb_y := (q _ (by omega)).trans h.cb_y, cbs := (q _ (by omega)).trans h.cbs, cbp := (q _ (by omega)).trans h.cbp, cbpc := (q _ (by omega)).trans h.cbpc, cst := (q _ (by omega)).trans h.cst, cins := (q _ (by omega)).trans h.cins, cmd := (q _ (by omega)).trans h.cmd, cstep := (q _ (by omega)).trans h.cstep, cad := (q _ (by omega)).trans h.cad, chop := (q _ (by omega)).trans h.chop, cdata := (q _ (by omega)).trans h.cdata, ctaken := (q _ (by omega)).trans h.ctaken, cnmiOn := (q _ (by omega)).trans h.cnmiOn, cnmiDue := (q _ (by omega)).trans h.cnmiDue, ccyc := (q _ (by omega)).trans h.ccyc, rrom := h.rrom, rcnt := h.rcnt, ra := h.ra, rx := h.rx, ry := h.ry, rs := h.rs, rp := h.rp, rpc := h.rpc, rba := h.rba, rbx := h.rbx, rb_y := h.rb_y, rbs := h.rbs, rbp := h.rbp, rbpc := h.rbpc, rst := h.rst, rins := h.rins, rmd := h.rmd, rstep := h.rstep, rad := h.rad, rhop := h.rhop, rdata := h.rdata, rcyc := h.rcyc, free := fun o => by rw [World.frozen?_setCell]; exact h.free o, crest := fun o ho => (q _ (by omega)).trans (h.crest o ho) }

theorem cp_set (w : World) (B o : Nat) (v : Value) : w.grownBy (w.setCell ⟨B, o, none⟩ v) (some B) :=
  ⟨rfl, rfl, rfl, by simp, fun k _ hne => Below.heap_setCell _ _ _ _ (fun e => hne (by rw [e]))⟩
theorem cp_trans {a b c : World} {row : Option Nat} (h : a.grownBy b row) (k : b.grownBy c row) : a.grownBy c row :=
  ⟨k.os.trans h.os, k.tape.trans h.tape, k.output.trans h.output, Nat.le_trans h.size k.size, fun i hi hne => (k.block i (Nat.lt_of_lt_of_le hi h.size) hne).trans (h.block i hi hne)⟩
theorem cp_drew (w : World) (row : Option Nat) : w.grownBy w.drew row := ⟨rfl, rfl, rfl, Nat.le_refl _, fun _ _ _ => rfl⟩
theorem cp_int {k : IntKind} {a b : Int} (h : a = b) : Ending.returned (.int k a) = .returned (.int k b) := by rw [h]
theorem cp_bool {a b : Bool} (h : a = b) : Ending.returned (.bool a) = .returned (.bool b) := by rw [h]
theorem cp_refl (w : World) (row : Option Nat) : w.grownBy w row := ⟨rfl, rfl, rfl, Nat.le_refl _, fun _ _ _ => rfl⟩
theorem cp_alloc (w : World) (o : Obj) (row : Option Nat) : w.grownBy (w.alloc o) row :=
  ⟨rfl, rfl, rfl, by simp, fun k hk _ => Below.heap_alloc _ _ _ hk⟩

/-- A call that turns the computer in block B into s' and touches no other block that was there. -/
structure Tn (B : Nat) (s' : PC) (w w' : World) : Prop where
  c : CAt w' B s'
  g : w.grownBy w' (some B)

theorem Tn.trans {B : Nat} {s1 s2 : PC} {a b c : World} (h : Tn B s1 a b) (k : Tn B s2 b c) : Tn B s2 a c := ⟨k.c, cp_trans h.g k.g⟩
theorem Tn.refl {B : Nat} {s : PC} {w : World} (h : CAt w B s) : Tn B s w w := ⟨h, cp_refl _ _⟩
theorem Tn.drew {B : Nat} {s : PC} {w w' : World} (h : Tn B s w w') : Tn B s w w'.drew := ⟨h.c.same rfl, cp_trans h.g (cp_drew _ _)⟩
theorem Tn.alloc {B : Nat} {s : PC} {w w' : World} (h : Tn B s w w') (o : Obj) : Tn B s w (w'.alloc o) :=
  ⟨h.c.same (Below.heap_alloc _ _ _ h.c.lt), cp_trans h.g (cp_alloc _ _ _)⟩

theorem Tn.setRom {w w' : World} {B : Nat} {s : PC} (h : Tn B s w w') (v : Int) (hv : 0 ≤ v ∧ v < 65537) : Tn B { s with rom := v } w (w'.setCell ⟨B, 65536, none⟩ (.int .i64 v)) := ⟨h.c.setRom v hv, cp_trans h.g (cp_set _ _ _ _)⟩
theorem Tn.setCnt {w w' : World} {B : Nat} {s : PC} (h : Tn B s w w') (v : Int) (hv : 0 ≤ v ∧ v < 256) : Tn B { s with cnt := v } w (w'.setCell ⟨B, 65537, none⟩ (.int .u8 v)) := ⟨h.c.setCnt v hv, cp_trans h.g (cp_set _ _ _ _)⟩
theorem Tn.setCalls {w w' : World} {B : Nat} {s : PC} (h : Tn B s w w') (v : Bool) : Tn B { s with calls := v } w (w'.setCell ⟨B, 65538, none⟩ (.bool v)) := ⟨h.c.setCalls v, cp_trans h.g (cp_set _ _ _ _)⟩
theorem Tn.setA {w w' : World} {B : Nat} {s : PC} (h : Tn B s w w') (v : Int) (hv : 0 ≤ v ∧ v < 256) : Tn B { s with a := v } w (w'.setCell ⟨B, 65539, none⟩ (.int .u8 v)) := ⟨h.c.setA v hv, cp_trans h.g (cp_set _ _ _ _)⟩
theorem Tn.setX {w w' : World} {B : Nat} {s : PC} (h : Tn B s w w') (v : Int) (hv : 0 ≤ v ∧ v < 256) : Tn B { s with x := v } w (w'.setCell ⟨B, 65540, none⟩ (.int .u8 v)) := ⟨h.c.setX v hv, cp_trans h.g (cp_set _ _ _ _)⟩
theorem Tn.setY {w w' : World} {B : Nat} {s : PC} (h : Tn B s w w') (v : Int) (hv : 0 ≤ v ∧ v < 256) : Tn B { s with y := v } w (w'.setCell ⟨B, 65541, none⟩ (.int .u8 v)) := ⟨h.c.setY v hv, cp_trans h.g (cp_set _ _ _ _)⟩
theorem Tn.setS {w w' : World} {B : Nat} {s : PC} (h : Tn B s w w') (v : Int) (hv : 0 ≤ v ∧ v < 256) : Tn B { s with s := v } w (w'.setCell ⟨B, 65542, none⟩ (.int .u8 v)) := ⟨h.c.setS v hv, cp_trans h.g (cp_set _ _ _ _)⟩
theorem Tn.setP {w w' : World} {B : Nat} {s : PC} (h : Tn B s w w') (v : Int) (hv : 0 ≤ v ∧ v < 256) : Tn B { s with p := v } w (w'.setCell ⟨B, 65543, none⟩ (.int .u8 v)) := ⟨h.c.setP v hv, cp_trans h.g (cp_set _ _ _ _)⟩
theorem Tn.setPc {w w' : World} {B : Nat} {s : PC} (h : Tn B s w w') (v : Int) (hv : 0 ≤ v ∧ v < 65536) : Tn B { s with pc := v } w (w'.setCell ⟨B, 65544, none⟩ (.int .u16 v)) := ⟨h.c.setPc v hv, cp_trans h.g (cp_set _ _ _ _)⟩
theorem Tn.setBa {w w' : World} {B : Nat} {s : PC} (h : Tn B s w w') (v : Int) (hv : 0 ≤ v ∧ v < 256) : Tn B { s with ba := v } w (w'.setCell ⟨B, 65545, none⟩ (.int .u8 v)) := ⟨h.c.setBa v hv, cp_trans h.g (cp_set _ _ _ _)⟩
theorem Tn.setBx {w w' : World} {B : Nat} {s : PC} (h : Tn B s w w') (v : Int) (hv : 0 ≤ v ∧ v < 256) : Tn B { s with bx := v } w (w'.setCell ⟨B, 65546, none⟩ (.int .u8 v)) := ⟨h.c.setBx v hv, cp_trans h.g (cp_set _ _ _ _)⟩
theorem Tn.setB_y {w w' : World} {B : Nat} {s : PC} (h : Tn B s w w') (v : Int) (hv : 0 ≤ v ∧ v < 256) : Tn B { s with b_y := v } w (w'.setCell ⟨B, 65547, none⟩ (.int .u8 v)) := ⟨h.c.setB_y v hv, cp_trans h.g (cp_set _ _ _ _)⟩
theorem Tn.setBs {w w' : World} {B : Nat} {s : PC} (h : Tn B s w w') (v : Int) (hv : 0 ≤ v ∧ v < 256) : Tn B { s with bs := v } w (w'.setCell ⟨B, 65548, none⟩ (.int .u8 v)) := ⟨h.c.setBs v hv, cp_trans h.g (cp_set _ _ _ _)⟩
theorem Tn.setBp {w w' : World} {B : Nat} {s : PC} (h : Tn B s w w') (v : Int) (hv : 0 ≤ v ∧ v < 256) : Tn B { s with bp := v } w (w'.setCell ⟨B, 65549, none⟩ (.int .u8 v)) := ⟨h.c.setBp v hv, cp_trans h.g (cp_set _ _ _ _)⟩
theorem Tn.setBpc {w w' : World} {B : Nat} {s : PC} (h : Tn B s w w') (v : Int) (hv : 0 ≤ v ∧ v < 65536) : Tn B { s with bpc := v } w (w'.setCell ⟨B, 65550, none⟩ (.int .u16 v)) := ⟨h.c.setBpc v hv, cp_trans h.g (cp_set _ _ _ _)⟩
theorem Tn.setSt {w w' : World} {B : Nat} {s : PC} (h : Tn B s w w') (v : Int) (hv : 0 ≤ v ∧ v < 6) : Tn B { s with st := v } w (w'.setCell ⟨B, 65551, none⟩ (.int .u8 v)) := ⟨h.c.setSt v hv, cp_trans h.g (cp_set _ _ _ _)⟩
theorem Tn.setIns {w w' : World} {B : Nat} {s : PC} (h : Tn B s w w') (v : Int) (hv : 0 ≤ v ∧ v < 56) : Tn B { s with ins := v } w (w'.setCell ⟨B, 65552, none⟩ (.int .u8 v)) := ⟨h.c.setIns v hv, cp_trans h.g (cp_set _ _ _ _)⟩
theorem Tn.setMd {w w' : World} {B : Nat} {s : PC} (h : Tn B s w w') (v : Int) (hv : 0 ≤ v ∧ v < 23) : Tn B { s with md := v } w (w'.setCell ⟨B, 65553, none⟩ (.int .u8 v)) := ⟨h.c.setMd v hv, cp_trans h.g (cp_set _ _ _ _)⟩
theorem Tn.setStep {w w' : World} {B : Nat} {s : PC} (h : Tn B s w w') (v : Int) (hv : -9223372036854775808 ≤ v ∧ v < 9223372036854775808) : Tn B { s with step := v } w (w'.setCell ⟨B, 65554, none⟩ (.int .i64 v)) := ⟨h.c.setStep v hv, cp_trans h.g (cp_set _ _ _ _)⟩
theorem Tn.setAd {w w' : World} {B : Nat} {s : PC} (h : Tn B s w w') (v : Int) (hv : 0 ≤ v ∧ v < 65536) : Tn B { s with ad := v } w (w'.setCell ⟨B, 65555, none⟩ (.int .u16 v)) := ⟨h.c.setAd v hv, cp_trans h.g (cp_set _ _ _ _)⟩
theorem Tn.setHop {w w' : World} {B : Nat} {s : PC} (h : Tn B s w w') (v : Int) (hv : 0 ≤ v ∧ v < 65536) : Tn B { s with hop := v } w (w'.setCell ⟨B, 65556, none⟩ (.int .u16 v)) := ⟨h.c.setHop v hv, cp_trans h.g (cp_set _ _ _ _)⟩
theorem Tn.setData {w w' : World} {B : Nat} {s : PC} (h : Tn B s w w') (v : Int) (hv : 0 ≤ v ∧ v < 256) : Tn B { s with data := v } w (w'.setCell ⟨B, 65557, none⟩ (.int .u8 v)) := ⟨h.c.setData v hv, cp_trans h.g (cp_set _ _ _ _)⟩
theorem Tn.setTaken {w w' : World} {B : Nat} {s : PC} (h : Tn B s w w') (v : Bool) : Tn B { s with taken := v } w (w'.setCell ⟨B, 65558, none⟩ (.bool v)) := ⟨h.c.setTaken v, cp_trans h.g (cp_set _ _ _ _)⟩
theorem Tn.setNmiOn {w w' : World} {B : Nat} {s : PC} (h : Tn B s w w') (v : Bool) : Tn B { s with nmiOn := v } w (w'.setCell ⟨B, 65559, none⟩ (.bool v)) := ⟨h.c.setNmiOn v, cp_trans h.g (cp_set _ _ _ _)⟩
theorem Tn.setNmiDue {w w' : World} {B : Nat} {s : PC} (h : Tn B s w w') (v : Bool) : Tn B { s with nmiDue := v } w (w'.setCell ⟨B, 65560, none⟩ (.bool v)) := ⟨h.c.setNmiDue v, cp_trans h.g (cp_set _ _ _ _)⟩
theorem Tn.setCyc {w w' : World} {B : Nat} {s : PC} (h : Tn B s w w') (v : Int) (hv : -9223372036854775808 ≤ v ∧ v < 9223372036854775808) : Tn B { s with cyc := v } w (w'.setCell ⟨B, 65561, none⟩ (.int .i64 v)) := ⟨h.c.setCyc v hv, cp_trans h.g (cp_set _ _ _ _)⟩
theorem Tn.setMem {w w' : World} {B : Nat} {s : PC} (h : Tn B s w w') (i : Nat) (v : Int) (hi : i < 65536) (hv : 0 ≤ v ∧ v < 256) : Tn B { s with mem := mput s.mem i v } w (w'.setCell ⟨B, i, none⟩ (.int .u8 v)) := ⟨h.c.setMem i v hi hv, cp_trans h.g (cp_set _ _ _ _)⟩
end

/-
  Leaf walks of the computer: words of bytes, flags, kinds.
-/
section
set_option maxRecDepth 100000
set_option maxHeartbeats 1000000

theorem or_join (lo hi : Int) (h1 : 0 ≤ lo) (h2 : lo < 256) (h3 : 0 ≤ hi) (h4 : hi < 256) : bits .or .u16 (hi * 256) lo = joinI lo hi := by
  rw [u16_or _ _ (by omega) (by omega) (by omega) (by omega)]
  obtain ⟨a, rfl⟩ := Int.eq_ofNat_of_zero_le h1
  obtain ⟨b, rfl⟩ := Int.eq_ofNat_of_zero_le h3
  have e : ((b : Int) * 256).toNat = b * 256 := by omega
  rw [e, Int.toNat_natCast, nat_join 8 _ _ (by omega) (by omega)]
  unfold joinI; omega

theorem join_any (lo hi : Int) (w : World) (h1 : 0 ≤ lo) (h2 : lo < 256) (h3 : 0 ≤ hi) (h4 : hi < 256) :
    Calls Tryz.prog 52 #[.int .u8 lo, .int .u8 hi] w fun e w' => e = .returned (.int .u16 (joinI lo hi)) ∧ w' = w := by
  have hj : Hid (bits .or .u16 (hi * 256) lo = joinI lo hi) := or_join lo hi h1 h2 h3 h4
  go_enter Tryz.func52, Tryz.ntmps52
  go_wp2
  go_ret
  exact ⟨cp_int hj.out, rfl⟩

theorem lowOf_any (a : Int) (w : World) :
    Calls Tryz.prog 179 #[.int .u16 a] w fun e w' => e = .returned (.int .u8 (loI a)) ∧ w' = w := by
  go_enter Tryz.func179, Tryz.ntmps179
  go_wp2
  go_ret
  exact ⟨cp_int rfl, rfl⟩

theorem highOf_any (a : Int) (w : World) (h1 : 0 ≤ a) (h2 : a < 65536) :
    Calls Tryz.prog 177 #[.int .u16 a] w fun e w' => e = .returned (.int .u8 (hiI a)) ∧ w' = w := by
  go_enter Tryz.func177, Tryz.ntmps177
  go_wp2
  go_ret
  exact ⟨cp_int (by unfold hiI; omega), rfl⟩

theorem lo_r (a : Int) : 0 ≤ loI a ∧ loI a < 256 := by unfold loI; omega
theorem hi_r (a : Int) (h1 : 0 ≤ a) (h2 : a < 65536) : 0 ≤ hiI a ∧ hiI a < 256 := by unfold hiI; omega
theorem join_r (a b : Int) (h1 : 0 ≤ a) (h2 : a < 256) (h3 : 0 ≤ b) (h4 : b < 256) : 0 ≤ joinI a b ∧ joinI a b < 65536 := by unfold joinI; omega
theorem within_r (a b : Int) (h1 : 0 ≤ a) (h2 : a < 65536) : 0 ≤ withinI a b ∧ withinI a b < 65536 := by unfold withinI joinI loI hiI; omega

theorem within_any (a b : Int) (w : World) (h1 : 0 ≤ a) (h2 : a < 65536) :
    Calls Tryz.prog 175 #[.int .u16 a, .int .u8 b] w fun e w' => e = .returned (.int .u16 (withinI a b)) ∧ w' = w := by
  obtain ⟨l1, l2⟩ := lo_r a
  obtain ⟨m1, m2⟩ := hi_r a h1 h2
  go_enter Tryz.func175, Tryz.ntmps175
  go_wp2_with (first | (go_at_call 179; refine (lowOf_any a _).mono ?_; rintro e w' ⟨rfl, rfl⟩) | (go_at_call 177; refine (highOf_any a _ h1 h2).mono ?_; rintro e w' ⟨rfl, rfl⟩) | (go_at_call 52; refine (join_any _ _ _ (by omega) (by omega) m1 m2).mono ?_; rintro e w' ⟨rfl, rfl⟩))
  go_ret
  exact ⟨cp_int rfl, rfl⟩

theorem bit_r (op : BinOp) (a b : Int) : 0 ≤ bits op .u8 a b ∧ bits op .u8 a b < 256 := by
  cases op <;> (show 0 ≤ IntKind.u8.wrap _ ∧ IntKind.u8.wrap _ < 256; rw [IntKind.wrap_u8']; omega)
theorem setf_r (p f : Int) (on : Bool) : 0 ≤ setf p f on ∧ setf p f on < 256 := by unfold setf; split <;> exact bit_r _ _ _
theorem nz_r (p b : Int) : 0 ≤ nzI p b ∧ nzI p b < 256 := setf_r _ _ _
theorem setp_r (b : Int) : 0 ≤ setpI b ∧ setpI b < 256 := bit_r _ _ _

theorem Tn.eq {B : Nat} {s1 s2 : PC} {w w' : World} (h : Tn B s1 w w') (e : s1 = s2) : Tn B s2 w w' := e ▸ h

theorem has_any {B : Nat} {s : PC} {w0 w : World} (h : Tn B s w0 w) (f : Int) :
    Calls Tryz.prog 105 #[.pointer (some ⟨B, 65539, none⟩), .int .u8 f] w fun e w' => e = .returned (.bool (hasf s.p f)) ∧ w' = w := by
  have h1 := h.c.cp
  go_enter Tryz.func105, Tryz.ntmps105
  go_wp2
  go_ret
  exact ⟨cp_bool rfl, rfl⟩

theorem set_any {B : Nat} {s : PC} {w0 w : World} (h : Tn B s w0 w) (f : Int) (on : Bool) :
    Calls Tryz.prog 282 #[.pointer (some ⟨B, 65539, none⟩), .int .u8 f, .bool on] w fun e w' => e = .returned (.tuple #[]) ∧ Tn B (s.setF f on) w0 w' := by
  have h1 := h.c.cp
  have f1 := h.c.free 65543
  cases on
  all_goals
    go_enter Tryz.func282, Tryz.ntmps282
    go_wp2
    go_end0
    refine ⟨rfl, ?_⟩
    apply Tn.eq
    · repeat (first | exact h | apply Tn.drew | apply Tn.alloc | (apply Tn.setP; case hv => (first | assumption | omega | exact bit_r _ _ _ | exact nz_r _ _ | exact setf_r _ _ _ | exact setp_r _ | (unfold loI; omega) | (simp only [joinI, loI, hiI, withinI]; omega))))
    · rfl

theorem setNZ_any {B : Nat} {s : PC} {w0 w : World} (h : Tn B s w0 w) (b : Int) :
    Calls Tryz.prog 290 #[.pointer (some ⟨B, 65539, none⟩), .int .u8 b] w fun e w' => e = .returned (.tuple #[]) ∧ Tn B { s with p := nzI s.p b } w0 w' := by
  go_enter Tryz.func290, Tryz.ntmps290
  go_wp2_with fail
  refine (set_any h _ _).mono ?_
  rintro e w1 ⟨rfl, h1⟩
  go_wp2_with fail
  refine (set_any h1 _ _).mono ?_
  rintro e w1 ⟨rfl, h2⟩
  go_wp2
  go_end0
  exact ⟨rfl, h2⟩

theorem setP_any {B : Nat} {s : PC} {w0 w : World} (h : Tn B s w0 w) (b : Int) :
    Calls Tryz.prog 285 #[.pointer (some ⟨B, 65539, none⟩), .int .u8 b] w fun e w' => e = .returned (.tuple #[]) ∧ Tn B { s with p := setpI b } w0 w' := by
  have h1 := h.c.cp
  have f1 := h.c.free 65543
  go_enter Tryz.func285, Tryz.ntmps285
  go_wp2
  go_end0
  refine ⟨rfl, ?_⟩
  apply Tn.eq
  · repeat (first | exact h | apply Tn.drew | apply Tn.alloc | (apply Tn.setP; case hv => (first | assumption | omega | exact bit_r _ _ _ | exact nz_r _ _ | exact setf_r _ _ _ | exact setp_r _ | (unfold loI; omega) | (simp only [joinI, loI, hiI, withinI]; omega))))
  · rfl

theorem kind_any (i : Int) (w : World) :
    Calls Tryz.prog 107 #[.int .u8 i] w fun e w' => e = .returned (.int .u8 (kindI i)) ∧ w' = w := by
  go_enter Tryz.func107, Tryz.ntmps107
  go_wp2
  all_goals go_ret
  all_goals exact ⟨cp_int (by simp only [beq_iff_eq, beq_eq_false_iff_ne] at *; simp [kindI, *]), rfl⟩
end

/-
  The computer's instructions, walked.
-/
section
set_option maxRecDepth 100000
set_option maxHeartbeats 1000000

theorem wr_r (x : Int) : 0 ≤ IntKind.u8.wrap x ∧ IntKind.u8.wrap x < 256 := by rw [IntKind.wrap_u8']; omega
theorem wr16_r (x : Int) : 0 ≤ IntKind.u16.wrap x ∧ IntKind.u16.wrap x < 65536 := by rw [IntKind.wrap_u16]; omega

theorem loadA_any {B : Nat} {s : PC} {w0 w : World} (h : Tn B s w0 w) (b : Int) (hb : 0 ≤ b ∧ b < 256) :
    Calls Tryz.prog 280 #[.pointer (some ⟨B, 0, none⟩), .pointer (some ⟨B, 65539, none⟩), .int .u8 b] w fun e w' => e = .returned (.tuple #[]) ∧ Tn B (s.loadA b) w0 w' := by
  have c_a := h.c.ca; obtain ⟨l_a, u_a⟩ := h.c.ra
  have f_a := h.c.free 65539
  go_enter Tryz.func280, Tryz.ntmps280
  go_wp2_with fail
  refine (setNZ_any (h.setA b hb) b).mono ?_
  rintro e w1 ⟨rfl, h1⟩
  go_wp2
  go_end0
  exact ⟨rfl, h1⟩

theorem loadX_any {B : Nat} {s : PC} {w0 w : World} (h : Tn B s w0 w) (b : Int) (hb : 0 ≤ b ∧ b < 256) :
    Calls Tryz.prog 280 #[.pointer (some ⟨B, 0, none⟩), .pointer (some ⟨B, 65540, none⟩), .int .u8 b] w fun e w' => e = .returned (.tuple #[]) ∧ Tn B (s.loadX b) w0 w' := by
  have c_x := h.c.cx; obtain ⟨l_x, u_x⟩ := h.c.rx
  have f_x := h.c.free 65540
  go_enter Tryz.func280, Tryz.ntmps280
  go_wp2_with fail
  refine (setNZ_any (h.setX b hb) b).mono ?_
  rintro e w1 ⟨rfl, h1⟩
  go_wp2
  go_end0
  exact ⟨rfl, h1⟩

theorem loadY_any {B : Nat} {s : PC} {w0 w : World} (h : Tn B s w0 w) (b : Int) (hb : 0 ≤ b ∧ b < 256) :
    Calls Tryz.prog 280 #[.pointer (some ⟨B, 0, none⟩), .pointer (some ⟨B, 65541, none⟩), .int .u8 b] w fun e w' => e = .returned (.tuple #[]) ∧ Tn B (s.loadY b) w0 w' := by
  have c_y := h.c.cy; obtain ⟨l_y, u_y⟩ := h.c.ry
  have f_y := h.c.free 65541
  go_enter Tryz.func280, Tryz.ntmps280
  go_wp2_with fail
  refine (setNZ_any (h.setY b hb) b).mono ?_
  rintro e w1 ⟨rfl, h1⟩
  go_wp2
  go_end0
  exact ⟨rfl, h1⟩

theorem loadD_any {B : Nat} {s : PC} {w0 w : World} (h : Tn B s w0 w) (b : Int) (hb : 0 ≤ b ∧ b < 256) :
    Calls Tryz.prog 280 #[.pointer (some ⟨B, 0, none⟩), .pointer (some ⟨B, 65557, none⟩), .int .u8 b] w fun e w' => e = .returned (.tuple #[]) ∧ Tn B (s.loadD b) w0 w' := by
  have c_data := h.c.cdata; obtain ⟨l_data, u_data⟩ := h.c.rdata
  have f_data := h.c.free 65557
  go_enter Tryz.func280, Tryz.ntmps280
  go_wp2_with fail
  refine (setNZ_any (h.setData b hb) b).mono ?_
  rintro e w1 ⟨rfl, h1⟩
  go_wp2
  go_end0
  exact ⟨rfl, h1⟩

theorem lda_any {B : Nat} {s : PC} {w0 w : World} (h : Tn B s w0 w) :
    Calls Tryz.prog 244 #[.pointer (some ⟨B, 0, none⟩)] w fun e w' => e = .returned (.tuple #[]) ∧ Tn B (s.doIns 29) w0 w' := by
  have c_data := h.c.cdata; obtain ⟨l_data, u_data⟩ := h.c.rdata
  go_enter Tryz.func244, Tryz.ntmps244
  go_wp2
  go_region_with (first | (go_at_call 280; refine (loadA_any h.drew _ (by first | exact ⟨by assumption, by assumption⟩ | exact bit_r _ _ _ | exact wr_r _ | omega)).mono ?_; rintro e w1 ⟨rfl, h1⟩))
  all_goals go_wp2
  all_goals go_end0
  all_goals exact ⟨rfl, h1.eq (by rfl)⟩

theorem ldx_any {B : Nat} {s : PC} {w0 w : World} (h : Tn B s w0 w) :
    Calls Tryz.prog 245 #[.pointer (some ⟨B, 0, none⟩)] w fun e w' => e = .returned (.tuple #[]) ∧ Tn B (s.doIns 30) w0 w' := by
  have c_data := h.c.cdata; obtain ⟨l_data, u_data⟩ := h.c.rdata
  go_enter Tryz.func245, Tryz.ntmps245
  go_wp2
  go_region_with (first | (go_at_call 280; refine (loadX_any h.drew _ (by first | exact ⟨by assumption, by assumption⟩ | exact bit_r _ _ _ | exact wr_r _ | omega)).mono ?_; rintro e w1 ⟨rfl, h1⟩))
  all_goals go_wp2
  all_goals go_end0
  all_goals exact ⟨rfl, h1.eq (by rfl)⟩

theorem ldy_any {B : Nat} {s : PC} {w0 w : World} (h : Tn B s w0 w) :
    Calls Tryz.prog 246 #[.pointer (some ⟨B, 0, none⟩)] w fun e w' => e = .returned (.tuple #[]) ∧ Tn B (s.doIns 31) w0 w' := by
  have c_data := h.c.cdata; obtain ⟨l_data, u_data⟩ := h.c.rdata
  go_enter Tryz.func246, Tryz.ntmps246
  go_wp2
  go_region_with (first | (go_at_call 280; refine (loadY_any h.drew _ (by first | exact ⟨by assumption, by assumption⟩ | exact bit_r _ _ _ | exact wr_r _ | omega)).mono ?_; rintro e w1 ⟨rfl, h1⟩))
  all_goals go_wp2
  all_goals go_end0
  all_goals exact ⟨rfl, h1.eq (by rfl)⟩

theorem tax_any {B : Nat} {s : PC} {w0 w : World} (h : Tn B s w0 w) :
    Calls Tryz.prog 265 #[.pointer (some ⟨B, 0, none⟩)] w fun e w' => e = .returned (.tuple #[]) ∧ Tn B (s.doIns 50) w0 w' := by
  have c_a := h.c.ca; obtain ⟨l_a, u_a⟩ := h.c.ra
  go_enter Tryz.func265, Tryz.ntmps265
  go_wp2
  go_region_with (first | (go_at_call 280; refine (loadX_any h.drew _ (by first | exact ⟨by assumption, by assumption⟩ | exact bit_r _ _ _ | exact wr_r _ | omega)).mono ?_; rintro e w1 ⟨rfl, h1⟩))
  all_goals go_wp2
  all_goals go_end0
  all_goals exact ⟨rfl, h1.eq (by rfl)⟩

theorem tay_any {B : Nat} {s : PC} {w0 w : World} (h : Tn B s w0 w) :
    Calls Tryz.prog 266 #[.pointer (some ⟨B, 0, none⟩)] w fun e w' => e = .returned (.tuple #[]) ∧ Tn B (s.doIns 51) w0 w' := by
  have c_a := h.c.ca; obtain ⟨l_a, u_a⟩ := h.c.ra
  go_enter Tryz.func266, Tryz.ntmps266
  go_wp2
  go_region_with (first | (go_at_call 280; refine (loadY_any h.drew _ (by first | exact ⟨by assumption, by assumption⟩ | exact bit_r _ _ _ | exact wr_r _ | omega)).mono ?_; rintro e w1 ⟨rfl, h1⟩))
  all_goals go_wp2
  all_goals go_end0
  all_goals exact ⟨rfl, h1.eq (by rfl)⟩

theorem tsx_any {B : Nat} {s : PC} {w0 w : World} (h : Tn B s w0 w) :
    Calls Tryz.prog 267 #[.pointer (some ⟨B, 0, none⟩)] w fun e w' => e = .returned (.tuple #[]) ∧ Tn B (s.doIns 52) w0 w' := by
  have c_s := h.c.cs; obtain ⟨l_s, u_s⟩ := h.c.rs
  go_enter Tryz.func267, Tryz.ntmps267
  go_wp2
  go_region_with (first | (go_at_call 280; refine (loadX_any h.drew _ (by first | exact ⟨by assumption, by assumption⟩ | exact bit_r _ _ _ | exact wr_r _ | omega)).mono ?_; rintro e w1 ⟨rfl, h1⟩))
  all_goals go_wp2
  all_goals go_end0
  all_goals exact ⟨rfl, h1.eq (by rfl)⟩

theorem txa_any {B : Nat} {s : PC} {w0 w : World} (h : Tn B s w0 w) :
    Calls Tryz.prog 268 #[.pointer (some ⟨B, 0, none⟩)] w fun e w' => e = .returned (.tuple #[]) ∧ Tn B (s.doIns 53) w0 w' := by
  have c_x := h.c.cx; obtain ⟨l_x, u_x⟩ := h.c.rx
  go_enter Tryz.func268, Tryz.ntmps268
  go_wp2
  go_region_with (first | (go_at_call 280; refine (loadA_any h.drew _ (by first | exact ⟨by assumption, by assumption⟩ | exact bit_r _ _ _ | exact wr_r _ | omega)).mono ?_; rintro e w1 ⟨rfl, h1⟩))
  all_goals go_wp2
  all_goals go_end0
  all_goals exact ⟨rfl, h1.eq (by rfl)⟩

theorem tya_any {B : Nat} {s : PC} {w0 w : World} (h : Tn B s w0 w) :
    Calls Tryz.prog 270 #[.pointer (some ⟨B, 0, none⟩)] w fun e w' => e = .returned (.tuple #[]) ∧ Tn B (s.doIns 55) w0 w' := by
  have c_y := h.c.cy; obtain ⟨l_y, u_y⟩ := h.c.ry
  go_enter Tryz.func270, Tryz.ntmps270
  go_wp2
  go_region_with (first | (go_at_call 280; refine (loadA_any h.drew _ (by first | exact ⟨by assumption, by assumption⟩ | exact bit_r _ _ _ | exact wr_r _ | omega)).mono ?_; rintro e w1 ⟨rfl, h1⟩))
  all_goals go_wp2
  all_goals go_end0
  all_goals exact ⟨rfl, h1.eq (by rfl)⟩

theorem pla_any {B : Nat} {s : PC} {w0 w : World} (h : Tn B s w0 w) :
    Calls Tryz.prog 252 #[.pointer (some ⟨B, 0, none⟩)] w fun e w' => e = .returned (.tuple #[]) ∧ Tn B (s.doIns 37) w0 w' := by
  have c_data := h.c.cdata; obtain ⟨l_data, u_data⟩ := h.c.rdata
  go_enter Tryz.func252, Tryz.ntmps252
  go_wp2
  go_region_with (first | (go_at_call 280; refine (loadA_any h.drew _ (by first | exact ⟨by assumption, by assumption⟩ | exact bit_r _ _ _ | exact wr_r _ | omega)).mono ?_; rintro e w1 ⟨rfl, h1⟩))
  all_goals go_wp2
  all_goals go_end0
  all_goals exact ⟨rfl, h1.eq (by rfl)⟩

theorem and_any {B : Nat} {s : PC} {w0 w : World} (h : Tn B s w0 w) :
    Calls Tryz.prog 216 #[.pointer (some ⟨B, 0, none⟩)] w fun e w' => e = .returned (.tuple #[]) ∧ Tn B (s.doIns 1) w0 w' := by
  have c_a := h.c.ca; obtain ⟨l_a, u_a⟩ := h.c.ra; have c_data := h.c.cdata; obtain ⟨l_data, u_data⟩ := h.c.rdata
  go_enter Tryz.func216, Tryz.ntmps216
  go_wp2
  go_region_with (first | (go_at_call 280; refine (loadA_any h.drew _ (by first | exact ⟨by assumption, by assumption⟩ | exact bit_r _ _ _ | exact wr_r _ | omega)).mono ?_; rintro e w1 ⟨rfl, h1⟩))
  all_goals go_wp2
  all_goals go_end0
  all_goals exact ⟨rfl, h1.eq (by rfl)⟩

theorem ora_any {B : Nat} {s : PC} {w0 w : World} (h : Tn B s w0 w) :
    Calls Tryz.prog 249 #[.pointer (some ⟨B, 0, none⟩)] w fun e w' => e = .returned (.tuple #[]) ∧ Tn B (s.doIns 34) w0 w' := by
  have c_a := h.c.ca; obtain ⟨l_a, u_a⟩ := h.c.ra; have c_data := h.c.cdata; obtain ⟨l_data, u_data⟩ := h.c.rdata
  go_enter Tryz.func249, Tryz.ntmps249
  go_wp2
  go_region_with (first | (go_at_call 280; refine (loadA_any h.drew _ (by first | exact ⟨by assumption, by assumption⟩ | exact bit_r _ _ _ | exact wr_r _ | omega)).mono ?_; rintro e w1 ⟨rfl, h1⟩))
  all_goals go_wp2
  all_goals go_end0
  all_goals exact ⟨rfl, h1.eq (by rfl)⟩

theorem eor_any {B : Nat} {s : PC} {w0 w : World} (h : Tn B s w0 w) :
    Calls Tryz.prog 238 #[.pointer (some ⟨B, 0, none⟩)] w fun e w' => e = .returned (.tuple #[]) ∧ Tn B (s.doIns 23) w0 w' := by
  have c_a := h.c.ca; obtain ⟨l_a, u_a⟩ := h.c.ra; have c_data := h.c.cdata; obtain ⟨l_data, u_data⟩ := h.c.rdata
  go_enter Tryz.func238, Tryz.ntmps238
  go_wp2
  go_region_with (first | (go_at_call 280; refine (loadA_any h.drew _ (by first | exact ⟨by assumption, by assumption⟩ | exact bit_r _ _ _ | exact wr_r _ | omega)).mono ?_; rintro e w1 ⟨rfl, h1⟩))
  all_goals go_wp2
  all_goals go_end0
  all_goals exact ⟨rfl, h1.eq (by rfl)⟩

theorem inc_any {B : Nat} {s : PC} {w0 w : World} (h : Tn B s w0 w) :
    Calls Tryz.prog 239 #[.pointer (some ⟨B, 0, none⟩)] w fun e w' => e = .returned (.tuple #[]) ∧ Tn B (s.doIns 24) w0 w' := by
  have c_data := h.c.cdata; obtain ⟨l_data, u_data⟩ := h.c.rdata
  go_enter Tryz.func239, Tryz.ntmps239
  go_wp2
  go_region_with (first | (go_at_call 280; refine (loadD_any h.drew _ (by first | exact ⟨by assumption, by assumption⟩ | exact bit_r _ _ _ | exact wr_r _ | omega)).mono ?_; rintro e w1 ⟨rfl, h1⟩))
  all_goals go_wp2
  all_goals go_end0
  all_goals exact ⟨rfl, h1.eq (by rfl)⟩

theorem dec_any {B : Nat} {s : PC} {w0 w : World} (h : Tn B s w0 w) :
    Calls Tryz.prog 235 #[.pointer (some ⟨B, 0, none⟩)] w fun e w' => e = .returned (.tuple #[]) ∧ Tn B (s.doIns 20) w0 w' := by
  have c_data := h.c.cdata; obtain ⟨l_data, u_data⟩ := h.c.rdata
  go_enter Tryz.func235, Tryz.ntmps235
  go_wp2
  go_region_with (first | (go_at_call 280; refine (loadD_any h.drew _ (by first | exact ⟨by assumption, by assumption⟩ | exact bit_r _ _ _ | exact wr_r _ | omega)).mono ?_; rintro e w1 ⟨rfl, h1⟩))
  all_goals go_wp2
  all_goals go_end0
  all_goals exact ⟨rfl, h1.eq (by rfl)⟩

theorem inx_any {B : Nat} {s : PC} {w0 w : World} (h : Tn B s w0 w) :
    Calls Tryz.prog 240 #[.pointer (some ⟨B, 0, none⟩)] w fun e w' => e = .returned (.tuple #[]) ∧ Tn B (s.doIns 25) w0 w' := by
  have c_x := h.c.cx; obtain ⟨l_x, u_x⟩ := h.c.rx
  go_enter Tryz.func240, Tryz.ntmps240
  go_wp2
  go_region_with (first | (go_at_call 280; refine (loadX_any h.drew _ (by first | exact ⟨by assumption, by assumption⟩ | exact bit_r _ _ _ | exact wr_r _ | omega)).mono ?_; rintro e w1 ⟨rfl, h1⟩))
  all_goals go_wp2
  all_goals go_end0
  all_goals exact ⟨rfl, h1.eq (by rfl)⟩

theorem dex_any {B : Nat} {s : PC} {w0 w : World} (h : Tn B s w0 w) :
    Calls Tryz.prog 236 #[.pointer (some ⟨B, 0, none⟩)] w fun e w' => e = .returned (.tuple #[]) ∧ Tn B (s.doIns 21) w0 w' := by
  have c_x := h.c.cx; obtain ⟨l_x, u_x⟩ := h.c.rx
  go_enter Tryz.func236, Tryz.ntmps236
  go_wp2
  go_region_with (first | (go_at_call 280; refine (loadX_any h.drew _ (by first | exact ⟨by assumption, by assumption⟩ | exact bit_r _ _ _ | exact wr_r _ | omega)).mono ?_; rintro e w1 ⟨rfl, h1⟩))
  all_goals go_wp2
  all_goals go_end0
  all_goals exact ⟨rfl, h1.eq (by rfl)⟩

theorem iny_any {B : Nat} {s : PC} {w0 w : World} (h : Tn B s w0 w) :
    Calls Tryz.prog 241 #[.pointer (some ⟨B, 0, none⟩)] w fun e w' => e = .returned (.tuple #[]) ∧ Tn B (s.doIns 26) w0 w' := by
  have c_y := h.c.cy; obtain ⟨l_y, u_y⟩ := h.c.ry
  go_enter Tryz.func241, Tryz.ntmps241
  go_wp2
  go_region_with (first | (go_at_call 280; refine (loadY_any h.drew _ (by first | exact ⟨by assumption, by assumption⟩ | exact bit_r _ _ _ | exact wr_r _ | omega)).mono ?_; rintro e w1 ⟨rfl, h1⟩))
  all_goals go_wp2
  all_goals go_end0
  all_goals exact ⟨rfl, h1.eq (by rfl)⟩

theorem dey_any {B : Nat} {s : PC} {w0 w : World} (h : Tn B s w0 w) :
    Calls Tryz.prog 237 #[.pointer (some ⟨B, 0, none⟩)] w fun e w' => e = .returned (.tuple #[]) ∧ Tn B (s.doIns 22) w0 w' := by
  have c_y := h.c.cy; obtain ⟨l_y, u_y⟩ := h.c.ry
  go_enter Tryz.func237, Tryz.ntmps237
  go_wp2
  go_region_with (first | (go_at_call 280; refine (loadY_any h.drew _ (by first | exact ⟨by assumption, by assumption⟩ | exact bit_r _ _ _ | exact wr_r _ | omega)).mono ?_; rintro e w1 ⟨rfl, h1⟩))
  all_goals go_wp2
  all_goals go_end0
  all_goals exact ⟨rfl, h1.eq (by rfl)⟩

theorem txs_any {B : Nat} {s : PC} {w0 w : World} (h : Tn B s w0 w) :
    Calls Tryz.prog 269 #[.pointer (some ⟨B, 0, none⟩)] w fun e w' => e = .returned (.tuple #[]) ∧ Tn B (s.doIns 54) w0 w' := by
  have c_x := h.c.cx; obtain ⟨l_x, u_x⟩ := h.c.rx; have c_s := h.c.cs; obtain ⟨l_s, u_s⟩ := h.c.rs
  have f_s := h.c.free 65542
  go_enter Tryz.func269, Tryz.ntmps269
  go_wp2
  go_end0
  refine ⟨rfl, ?_⟩
  apply Tn.eq
  · repeat (first | with_reducible exact h | with_reducible apply Tn.drew | with_reducible apply Tn.alloc | (with_reducible apply Tn.setS; case hv => (first | assumption | exact ⟨by assumption, by assumption⟩ | exact wr_r _ | exact wr16_r _ | omega | exact bit_r _ _ _ | exact nz_r _ _ | exact setf_r _ _ _ | exact setp_r _ | (unfold loI; omega) | (simp only [joinI, loI, hiI, withinI]; omega))))
  · rfl

theorem sta_any {B : Nat} {s : PC} {w0 w : World} (h : Tn B s w0 w) :
    Calls Tryz.prog 262 #[.pointer (some ⟨B, 0, none⟩)] w fun e w' => e = .returned (.tuple #[]) ∧ Tn B (s.doIns 47) w0 w' := by
  have c_a := h.c.ca; obtain ⟨l_a, u_a⟩ := h.c.ra; have c_data := h.c.cdata; obtain ⟨l_data, u_data⟩ := h.c.rdata
  have f_data := h.c.free 65557
  go_enter Tryz.func262, Tryz.ntmps262
  go_wp2
  go_end0
  refine ⟨rfl, ?_⟩
  apply Tn.eq
  · repeat (first | with_reducible exact h | with_reducible apply Tn.drew | with_reducible apply Tn.alloc | (with_reducible apply Tn.setData; case hv => (first | assumption | exact ⟨by assumption, by assumption⟩ | exact wr_r _ | exact wr16_r _ | omega | exact bit_r _ _ _ | exact nz_r _ _ | exact setf_r _ _ _ | exact setp_r _ | (unfold loI; omega) | (simp only [joinI, loI, hiI, withinI]; omega))))
  · rfl

theorem stx_any {B : Nat} {s : PC} {w0 w : World} (h : Tn B s w0 w) :
    Calls Tryz.prog 263 #[.pointer (some ⟨B, 0, none⟩)] w fun e w' => e = .returned (.tuple #[]) ∧ Tn B (s.doIns 48) w0 w' := by
  have c_x := h.c.cx; obtain ⟨l_x, u_x⟩ := h.c.rx; have c_data := h.c.cdata; obtain ⟨l_data, u_data⟩ := h.c.rdata
  have f_data := h.c.free 65557
  go_enter Tryz.func263, Tryz.ntmps263
  go_wp2
  go_end0
  refine ⟨rfl, ?_⟩
  apply Tn.eq
  · repeat (first | with_reducible exact h | with_reducible apply Tn.drew | with_reducible apply Tn.alloc | (with_reducible apply Tn.setData; case hv => (first | assumption | exact ⟨by assumption, by assumption⟩ | exact wr_r _ | exact wr16_r _ | omega | exact bit_r _ _ _ | exact nz_r _ _ | exact setf_r _ _ _ | exact setp_r _ | (unfold loI; omega) | (simp only [joinI, loI, hiI, withinI]; omega))))
  · rfl

theorem sty_any {B : Nat} {s : PC} {w0 w : World} (h : Tn B s w0 w) :
    Calls Tryz.prog 264 #[.pointer (some ⟨B, 0, none⟩)] w fun e w' => e = .returned (.tuple #[]) ∧ Tn B (s.doIns 49) w0 w' := by
  have c_y := h.c.cy; obtain ⟨l_y, u_y⟩ := h.c.ry; have c_data := h.c.cdata; obtain ⟨l_data, u_data⟩ := h.c.rdata
  have f_data := h.c.free 65557
  go_enter Tryz.func264, Tryz.ntmps264
  go_wp2
  go_end0
  refine ⟨rfl, ?_⟩
  apply Tn.eq
  · repeat (first | with_reducible exact h | with_reducible apply Tn.drew | with_reducible apply Tn.alloc | (with_reducible apply Tn.setData; case hv => (first | assumption | exact ⟨by assumption, by assumption⟩ | exact wr_r _ | exact wr16_r _ | omega | exact bit_r _ _ _ | exact nz_r _ _ | exact setf_r _ _ _ | exact setp_r _ | (unfold loI; omega) | (simp only [joinI, loI, hiI, withinI]; omega))))
  · rfl

theorem pha_any {B : Nat} {s : PC} {w0 w : World} (h : Tn B s w0 w) :
    Calls Tryz.prog 250 #[.pointer (some ⟨B, 0, none⟩)] w fun e w' => e = .returned (.tuple #[]) ∧ Tn B (s.doIns 35) w0 w' := by
  have c_a := h.c.ca; obtain ⟨l_a, u_a⟩ := h.c.ra; have c_data := h.c.cdata; obtain ⟨l_data, u_data⟩ := h.c.rdata
  have f_data := h.c.free 65557
  go_enter Tryz.func250, Tryz.ntmps250
  go_wp2
  go_end0
  refine ⟨rfl, ?_⟩
  apply Tn.eq
  · repeat (first | with_reducible exact h | with_reducible apply Tn.drew | with_reducible apply Tn.alloc | (with_reducible apply Tn.setData; case hv => (first | assumption | exact ⟨by assumption, by assumption⟩ | exact wr_r _ | exact wr16_r _ | omega | exact bit_r _ _ _ | exact nz_r _ _ | exact setf_r _ _ _ | exact setp_r _ | (unfold loI; omega) | (simp only [joinI, loI, hiI, withinI]; omega))))
  · rfl

theorem php_any {B : Nat} {s : PC} {w0 w : World} (h : Tn B s w0 w) :
    Calls Tryz.prog 251 #[.pointer (some ⟨B, 0, none⟩)] w fun e w' => e = .returned (.tuple #[]) ∧ Tn B (s.doIns 36) w0 w' := by
  have c_p := h.c.cp; obtain ⟨l_p, u_p⟩ := h.c.rp; have c_data := h.c.cdata; obtain ⟨l_data, u_data⟩ := h.c.rdata
  have f_data := h.c.free 65557
  go_enter Tryz.func251, Tryz.ntmps251
  go_wp2
  go_end0
  refine ⟨rfl, ?_⟩
  apply Tn.eq
  · repeat (first | with_reducible exact h | with_reducible apply Tn.drew | with_reducible apply Tn.alloc | (with_reducible apply Tn.setData; case hv => (first | assumption | exact ⟨by assumption, by assumption⟩ | exact wr_r _ | exact wr16_r _ | omega | exact bit_r _ _ _ | exact nz_r _ _ | exact setf_r _ _ _ | exact setp_r _ | (unfold loI; omega) | (simp only [joinI, loI, hiI, withinI]; omega))))
  · rfl

theorem jmp_any {B : Nat} {s : PC} {w0 w : World} (h : Tn B s w0 w) :
    Calls Tryz.prog 242 #[.pointer (some ⟨B, 0, none⟩)] w fun e w' => e = .returned (.tuple #[]) ∧ Tn B (s.doIns 27) w0 w' := by
  have c_ad := h.c.cad; obtain ⟨l_ad, u_ad⟩ := h.c.rad; have c_pc := h.c.cpc; obtain ⟨l_pc, u_pc⟩ := h.c.rpc
  have f_pc := h.c.free 65544
  go_enter Tryz.func242, Tryz.ntmps242
  go_wp2
  go_end0
  refine ⟨rfl, ?_⟩
  apply Tn.eq
  · repeat (first | with_reducible exact h | with_reducible apply Tn.drew | with_reducible apply Tn.alloc | (with_reducible apply Tn.setPc; case hv => (first | assumption | exact ⟨by assumption, by assumption⟩ | exact wr_r _ | exact wr16_r _ | omega | exact bit_r _ _ _ | exact nz_r _ _ | exact setf_r _ _ _ | exact setp_r _ | (unfold loI; omega) | (simp only [joinI, loI, hiI, withinI]; omega))))
  · rfl

theorem jsr_any {B : Nat} {s : PC} {w0 w : World} (h : Tn B s w0 w) :
    Calls Tryz.prog 243 #[.pointer (some ⟨B, 0, none⟩)] w fun e w' => e = .returned (.tuple #[]) ∧ Tn B (s.doIns 28) w0 w' := by
  have c_ad := h.c.cad; obtain ⟨l_ad, u_ad⟩ := h.c.rad; have c_pc := h.c.cpc; obtain ⟨l_pc, u_pc⟩ := h.c.rpc
  have f_pc := h.c.free 65544
  go_enter Tryz.func243, Tryz.ntmps243
  go_wp2
  go_end0
  refine ⟨rfl, ?_⟩
  apply Tn.eq
  · repeat (first | with_reducible exact h | with_reducible apply Tn.drew | with_reducible apply Tn.alloc | (with_reducible apply Tn.setPc; case hv => (first | assumption | exact ⟨by assumption, by assumption⟩ | exact wr_r _ | exact wr16_r _ | omega | exact bit_r _ _ _ | exact nz_r _ _ | exact setf_r _ _ _ | exact setp_r _ | (unfold loI; omega) | (simp only [joinI, loI, hiI, withinI]; omega))))
  · rfl

theorem rts_any {B : Nat} {s : PC} {w0 w : World} (h : Tn B s w0 w) :
    Calls Tryz.prog 257 #[.pointer (some ⟨B, 0, none⟩)] w fun e w' => e = .returned (.tuple #[]) ∧ Tn B (s.doIns 42) w0 w' := by
  have c_ad := h.c.cad; obtain ⟨l_ad, u_ad⟩ := h.c.rad; have c_pc := h.c.cpc; obtain ⟨l_pc, u_pc⟩ := h.c.rpc
  have f_pc := h.c.free 65544
  go_enter Tryz.func257, Tryz.ntmps257
  go_wp2
  go_end0
  refine ⟨rfl, ?_⟩
  apply Tn.eq
  · repeat (first | with_reducible exact h | with_reducible apply Tn.drew | with_reducible apply Tn.alloc | (with_reducible apply Tn.setPc; case hv => (first | assumption | exact ⟨by assumption, by assumption⟩ | exact wr_r _ | exact wr16_r _ | omega | exact bit_r _ _ _ | exact nz_r _ _ | exact setf_r _ _ _ | exact setp_r _ | (unfold loI; omega) | (simp only [joinI, loI, hiI, withinI]; omega))))
  · rfl

theorem nop_any {B : Nat} {s : PC} {w0 w : World} (h : Tn B s w0 w) :
    Calls Tryz.prog 248 #[.pointer (some ⟨B, 0, none⟩)] w fun e w' => e = .returned (.tuple #[]) ∧ Tn B (s.doIns 33) w0 w' := by
  go_enter Tryz.func248, Tryz.ntmps248
  go_wp2
  go_end0
  exact ⟨rfl, h⟩

theorem clc_any {B : Nat} {s : PC} {w0 w : World} (h : Tn B s w0 w) :
    Calls Tryz.prog 228 #[.pointer (some ⟨B, 0, none⟩)] w fun e w' => e = .returned (.tuple #[]) ∧ Tn B (s.doIns 13) w0 w' := by
  go_enter Tryz.func228, Tryz.ntmps228
  go_wp2_with fail
  refine (set_any h _ _).mono ?_
  rintro e w1 ⟨rfl, h1⟩
  go_wp2
  go_end0
  exact ⟨rfl, h1.eq (by rfl)⟩

theorem sec_any {B : Nat} {s : PC} {w0 w : World} (h : Tn B s w0 w) :
    Calls Tryz.prog 259 #[.pointer (some ⟨B, 0, none⟩)] w fun e w' => e = .returned (.tuple #[]) ∧ Tn B (s.doIns 44) w0 w' := by
  go_enter Tryz.func259, Tryz.ntmps259
  go_wp2_with fail
  refine (set_any h _ _).mono ?_
  rintro e w1 ⟨rfl, h1⟩
  go_wp2
  go_end0
  exact ⟨rfl, h1.eq (by rfl)⟩

theorem cli_any {B : Nat} {s : PC} {w0 w : World} (h : Tn B s w0 w) :
    Calls Tryz.prog 230 #[.pointer (some ⟨B, 0, none⟩)] w fun e w' => e = .returned (.tuple #[]) ∧ Tn B (s.doIns 15) w0 w' := by
  go_enter Tryz.func230, Tryz.ntmps230
  go_wp2_with fail
  refine (set_any h _ _).mono ?_
  rintro e w1 ⟨rfl, h1⟩
  go_wp2
  go_end0
  exact ⟨rfl, h1.eq (by rfl)⟩

theorem sei_any {B : Nat} {s : PC} {w0 w : World} (h : Tn B s w0 w) :
    Calls Tryz.prog 261 #[.pointer (some ⟨B, 0, none⟩)] w fun e w' => e = .returned (.tuple #[]) ∧ Tn B (s.doIns 46) w0 w' := by
  go_enter Tryz.func261, Tryz.ntmps261
  go_wp2_with fail
  refine (set_any h _ _).mono ?_
  rintro e w1 ⟨rfl, h1⟩
  go_wp2
  go_end0
  exact ⟨rfl, h1.eq (by rfl)⟩

theorem clv_any {B : Nat} {s : PC} {w0 w : World} (h : Tn B s w0 w) :
    Calls Tryz.prog 231 #[.pointer (some ⟨B, 0, none⟩)] w fun e w' => e = .returned (.tuple #[]) ∧ Tn B (s.doIns 16) w0 w' := by
  go_enter Tryz.func231, Tryz.ntmps231
  go_wp2_with fail
  refine (set_any h _ _).mono ?_
  rintro e w1 ⟨rfl, h1⟩
  go_wp2
  go_end0
  exact ⟨rfl, h1.eq (by rfl)⟩

theorem cld_any {B : Nat} {s : PC} {w0 w : World} (h : Tn B s w0 w) :
    Calls Tryz.prog 229 #[.pointer (some ⟨B, 0, none⟩)] w fun e w' => e = .returned (.tuple #[]) ∧ Tn B (s.doIns 14) w0 w' := by
  go_enter Tryz.func229, Tryz.ntmps229
  go_wp2_with fail
  refine (set_any h _ _).mono ?_
  rintro e w1 ⟨rfl, h1⟩
  go_wp2
  go_end0
  exact ⟨rfl, h1.eq (by rfl)⟩

theorem sed_any {B : Nat} {s : PC} {w0 w : World} (h : Tn B s w0 w) :
    Calls Tryz.prog 260 #[.pointer (some ⟨B, 0, none⟩)] w fun e w' => e = .returned (.tuple #[]) ∧ Tn B (s.doIns 45) w0 w' := by
  go_enter Tryz.func260, Tryz.ntmps260
  go_wp2_with fail
  refine (set_any h _ _).mono ?_
  rintro e w1 ⟨rfl, h1⟩
  go_wp2
  go_end0
  exact ⟨rfl, h1.eq (by rfl)⟩
end

end Go.Proofs.YtcgjliflnnklnaaGreat
