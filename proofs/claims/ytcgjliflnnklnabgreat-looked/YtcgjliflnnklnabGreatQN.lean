/-
  Joined texts.
-/
import Derived.Test.YtcgjliflnnklnabGreatQO
import Derived.Test.YtcgjliflnnklnabGreatCpG
import Derived.Test.YtcgjliflnnklnabGreatCpL
namespace Go.Proofs.YtcgjliflnnklnabGreat
open Go.RowKit

/-
  The computer does not touch what lies behind it.
-/
section
/-- The same computer with other cells behind it. -/
def PC.rr (s : PC) (R : Nat → Option Value) : PC := { s with rest := R }
def rr2 (r : PC × BusI) (R : Nat → Option Value) : PC × BusI := (r.1.rr R, r.2)
variable {R : Nat → Option Value}
theorem rr_ite {c : Prop} [Decidable c] {a b a' b' : PC} (h1 : a.rr R = a') (h2 : b.rr R = b') : (if c then a else b).rr R = if c then a' else b' := by split <;> assumption
theorem rr2_ite {c : Prop} [Decidable c] {a b a' b' : PC × BusI} (h1 : rr2 a R = a') (h2 : rr2 b R = b') : rr2 (if c then a else b) R = if c then a' else b' := by split <;> assumption
theorem read1_rr (s : PC) (a : Int) : (s.read1 a).rr R = (s.rr R).read1 a := rr_ite rfl rfl
theorem write1_rr (s : PC) (a d : Int) : (s.write1 a d).rr R = (s.rr R).write1 a d := rr_ite rfl (rr_ite rfl rfl)
theorem read_rr (s : PC) (a : Int) : rr2 (s.read a) R = (s.rr R).read a := Prod.ext (read1_rr s a) rfl
theorem write_rr (s : PC) (a d : Int) : rr2 (s.write a d) R = (s.rr R).write a d := Prod.ext (write1_rr s a d) rfl
theorem tick_rr (s : PC) : s.tick.rr R = (s.rr R).tick := rr_ite rfl (rr_ite rfl rfl)
theorem rr_then {a b : PC × BusI} (f : PC → PC) (hf : ∀ s : PC, (f s).rr R = f (s.rr R)) (h : rr2 a R = b) : rr2 (f a.1, a.2) R = (f b.1, b.2) := by subst h; exact Prod.ext (hf a.1) rfl
theorem rr_map {a b : PC × BusI} (f : PC × BusI → PC × BusI) (hf : ∀ r, rr2 (f r) R = f (rr2 r R)) (h : rr2 a R = b) : rr2 (f a) R = f b := by subst h; exact hf a
theorem tD {a b : PC × BusI} (h : rr2 a R = b) : rr2 (takeData a) R = takeData b := rr_map _ (fun _ => rfl) h
theorem tL {a b : PC × BusI} (h : rr2 a R = b) : rr2 (takeLow a) R = takeLow b := rr_map _ (fun _ => rfl) h
theorem tH {a b : PC × BusI} (h : rr2 a R = b) : rr2 (takeHigh a) R = takeHigh b := rr_map _ (fun _ => rfl) h
theorem tP {a b : PC × BusI} (h : rr2 a R = b) : rr2 (takeHop a) R = takeHop b := rr_map _ (fun _ => rfl) h
theorem readNext_rr (s : PC) : rr2 s.readNext R = (s.rr R).readNext := rr_then (fun t => { t with pc := (t.pc + 1) % 65536 }) (fun _ => rfl) (read_rr s s.pc)
theorem pushed_rr (s : PC) (d : Int) : rr2 (s.pushed d) R = (s.rr R).pushed d := rr_then (fun t => { t with s := (t.s - 1) % 256 }) (fun _ => rfl) (write_rr s s.stackTop d)
theorem pulled_rr (s : PC) : rr2 s.pulled R = (s.rr R).pulled := read_rr { s with s := (s.s + 1) % 256 } _
theorem finish_rr (s : PC) : s.finish.rr R = (s.rr R).finish := rfl
theorem doIns_rr (s : PC) (i : Nat) : (s.doIns i).rr R = (s.rr R).doIns i := by
  unfold PC.doIns
  split <;> rfl
theorem perform_rr (s : PC) : s.perform.rr R = (s.rr R).perform := doIns_rr s _
theorem performLast_rr (s : PC) : s.performLast.rr R = (s.rr R).performLast := congrArg PC.finish (perform_rr s)
theorem pL {a b : PC × BusI} (h : rr2 a R = b) : rr2 (a.1.performLast, a.2) R = (b.1.performLast, b.2) := rr_then PC.performLast performLast_rr h
theorem gT {a b : PC × BusI} (h : rr2 a R = b) : rr2 (goThere a) R = goThere b := rr_map _ (fun r => Prod.ext (performLast_rr (takeHigh r).1) rfl) h
theorem change_rr (s : PC) : rr2 s.change R = (s.rr R).change := by
  unfold PC.change
  rw [write_rr]
  show (s.performLast.rr R).write (s.performLast.rr R).ad (s.performLast.rr R).data = _
  rw [performLast_rr]
theorem access_rr (s : PC) : rr2 s.access R = (s.rr R).access := rr2_ite (change_rr s) (rr2_ite (tD (read_rr { s with st := 3 } _)) (pL (tD (read_rr s _))))
theorem restore_rr (s : PC) : rr2 s.restore R = (s.rr R).restore := write_rr { s with st := 4 } _ _
theorem implied_rr (s : PC) : rr2 s.implied R = (s.rr R).implied := pL (read_rr s _)
theorem accumulator_rr (s : PC) : rr2 s.accumulator R = (s.rr R).accumulator :=
  rr_then (fun q => (({ (({ q with data := q.a } : PC).perform) with a := (({ q with data := q.a } : PC).perform).data } : PC).finish)) (fun q => by
    have h := perform_rr (R := R) ({ q with data := q.a } : PC)
    have e : (({ q.rr R with data := (q.rr R).a } : PC)) = ({ q with data := q.a } : PC).rr R := rfl
    simp only [e, ← h]
    rfl) (read_rr s _)
theorem immediate_rr (s : PC) : rr2 s.immediate R = (s.rr R).immediate := pL (tD (readNext_rr s))
theorem zeroPage_rr (s : PC) : rr2 s.zeroPage R = (s.rr R).zeroPage := tL (readNext_rr { s with st := 2 })
theorem zeroPageBy_rr (s : PC) (i : Int) : rr2 (s.zeroPageBy i) R = (s.rr R).zeroPageBy i := rr2_ite (tL (readNext_rr s)) (rr_then (fun t => { t with ad := withinI t.ad i, st := 2 }) (fun _ => rfl) (read_rr s _))
theorem absolute_rr (s : PC) : rr2 s.absolute R = (s.rr R).absolute := rr2_ite (tL (readNext_rr s)) (tH (readNext_rr { s with st := 2 }))
theorem indexed_rr (s : PC) (i : Int) : rr2 (s.indexed i) R = (s.rr R).indexed i := rr2_ite (access_rr { s with ad := (s.ad + i) % 65536, st := 2 }) (read_rr { s with ad := (s.ad + i) % 65536, st := 2 } _)
theorem absoluteBy_rr (s : PC) (i : Int) : rr2 (s.absoluteBy i) R = (s.rr R).absoluteBy i := rr2_ite (tL (readNext_rr s)) (rr2_ite (tH (readNext_rr s)) (indexed_rr s i))
theorem indirectX_rr (s : PC) : rr2 s.indirectX R = (s.rr R).indirectX := rr2_ite (tP (readNext_rr s)) (rr2_ite (rr_then (fun t => { t with hop := withinI t.hop t.x }) (fun _ => rfl) (read_rr s _)) (rr2_ite (tL (read_rr s _)) (tH (read_rr { s with st := 2 } _))))
theorem indirectY_rr (s : PC) : rr2 s.indirectY R = (s.rr R).indirectY := rr2_ite (tP (readNext_rr s)) (rr2_ite (tL (read_rr s _)) (rr2_ite (tH (read_rr s _)) (indexed_rr s _)))
theorem relative_rr (s : PC) : rr2 s.relative R = (s.rr R).relative := by
  refine rr2_ite ?_ (rr2_ite (rr_then (fun t => if hiI t.ad = hiI t.pc then t.branch else t) (fun t => rr_ite rfl rfl) (read_rr s _)) (rr_then PC.branch (fun _ => rfl) (read_rr s _)))
  have h := readNext_rr (R := R) s
  show rr2 (_, s.readNext.2) R = (_, (s.rr R).readNext.2)
  rw [← h]
  refine Prod.ext ?_ rfl
  have p := perform_rr (R := R) ({ s.readNext.1 with ad := (s.readNext.1.pc + sgn s.readNext.2.data) % 65536 } : PC)
  show PC.rr (if ({ s.readNext.1 with ad := (s.readNext.1.pc + sgn s.readNext.2.data) % 65536 } : PC).perform.taken = true then ({ s.readNext.1 with ad := (s.readNext.1.pc + sgn s.readNext.2.data) % 65536 } : PC).perform else ({ s.readNext.1 with ad := (s.readNext.1.pc + sgn s.readNext.2.data) % 65536 } : PC).perform.finish) R =
    if (({ s.readNext.1 with ad := (s.readNext.1.pc + sgn s.readNext.2.data) % 65536 } : PC).rr R).perform.taken = true then (({ s.readNext.1 with ad := (s.readNext.1.pc + sgn s.readNext.2.data) % 65536 } : PC).rr R).perform else (({ s.readNext.1 with ad := (s.readNext.1.pc + sgn s.readNext.2.data) % 65536 } : PC).rr R).perform.finish
  rw [← p]
  exact rr_ite rfl rfl
theorem jumpAbsolute_rr (s : PC) : rr2 s.jumpAbsolute R = (s.rr R).jumpAbsolute := rr2_ite (tL (readNext_rr s)) (gT (read_rr s _))
theorem jumpIndirect_rr (s : PC) : rr2 s.jumpIndirect R = (s.rr R).jumpIndirect := rr2_ite (tL (readNext_rr s)) (rr2_ite (rr_then (fun t => { t with hop := t.ad }) (fun _ => rfl) (tH (readNext_rr s))) (rr2_ite (tL (read_rr s _)) (gT (read_rr s _))))
theorem callSubroutine_rr (s : PC) : rr2 s.callSubroutine R = (s.rr R).callSubroutine := rr2_ite (tL (readNext_rr s)) (rr2_ite (read_rr s _) (rr2_ite (pushed_rr s _) (rr2_ite (pushed_rr s _) (gT (read_rr s _)))))
theorem leaveSubroutine_rr (s : PC) : rr2 s.leaveSubroutine R = (s.rr R).leaveSubroutine := rr2_ite (read_rr s _) (rr2_ite (read_rr s _) (rr2_ite (tL (pulled_rr s)) (rr2_ite (tH (pulled_rr s)) (pL (read_rr s _)))))
theorem leaveInterrupt_rr (s : PC) : rr2 s.leaveInterrupt R = (s.rr R).leaveInterrupt := rr2_ite (read_rr s _) (rr2_ite (read_rr s _) (rr2_ite (tD (pulled_rr s)) (rr2_ite (tL (pulled_rr s)) (gT (pulled_rr s)))))
theorem pushByte_rr (s : PC) : rr2 s.pushByte R = (s.rr R).pushByte := by
  refine rr2_ite (read_rr s _) ?_
  have q : rr2 (s.perform.pushed s.perform.data) R = (s.rr R).perform.pushed (s.rr R).perform.data := by rw [pushed_rr, ← perform_rr]; rfl
  exact rr_then PC.finish (fun _ => rfl) q
theorem pullByte_rr (s : PC) : rr2 s.pullByte R = (s.rr R).pullByte := rr2_ite (read_rr s _) (rr2_ite (read_rr s _) (pL (tD (pulled_rr s))))
theorem enter_rr (s : PC) (v f : Int) : rr2 (s.enter v f) R = (s.rr R).enter v f := rr2_ite (pushed_rr s _) (rr2_ite (pushed_rr s _) (rr2_ite (pushed_rr s _) (rr2_ite (tL (read_rr s _)) (gT (read_rr s _)))))
theorem enterByBreak_rr (s : PC) : rr2 s.enterByBreak R = (s.rr R).enterByBreak := rr2_ite (readNext_rr s) (enter_rr s _ _)
theorem enterByIRQ_rr (s : PC) : rr2 s.enterByIRQ R = (s.rr R).enterByIRQ := rr2_ite (read_rr s _) (enter_rr s _ _)
theorem enterByNMI_rr (s : PC) : rr2 s.enterByNMI R = (s.rr R).enterByNMI := rr2_ite (read_rr s _) (enter_rr s _ _)
theorem doMode_rr (s : PC) (m : Nat) : rr2 (s.doMode m) R = (s.rr R).doMode m := by
  unfold PC.doMode
  split
  · exact implied_rr s
  · exact accumulator_rr s
  · exact immediate_rr s
  · exact zeroPage_rr s
  · exact zeroPageBy_rr s _
  · exact zeroPageBy_rr s _
  · exact absolute_rr s
  · exact absoluteBy_rr s _
  · exact absoluteBy_rr s _
  · exact indirectX_rr s
  · exact indirectY_rr s
  · exact relative_rr s
  · exact jumpAbsolute_rr s
  · exact jumpIndirect_rr s
  · exact callSubroutine_rr s
  · exact leaveSubroutine_rr s
  · exact pushByte_rr s
  · exact pullByte_rr s
  · exact enterByBreak_rr s
  · exact enterByNMI_rr s
  · exact enterByIRQ_rr s
  · exact leaveInterrupt_rr s
theorem begin_rr (s : PC) (i m : Int) : (s.begin_ i m).rr R = (s.rr R).begin_ i m := rr_ite rfl rfl
theorem fetch_rr (s : PC) (irq : Bool) : rr2 (s.fetch irq) R = (s.rr R).fetch irq := by
  have h := read_rr (R := R) s s.pc
  unfold PC.fetch
  rw [show (s.rr R).read (s.rr R).pc = rr2 (s.read s.pc) R from h.symm]
  refine rr2_ite ?_ (rr2_ite ?_ ?_)
  · exact Prod.ext (begin_rr _ _ _) rfl
  · exact Prod.ext (begin_rr _ _ _) rfl
  · exact Prod.ext (begin_rr _ _ _) rfl
theorem turn_rr (s : PC) (irq : Bool) : rr2 (s.turn irq) R = (s.rr R).turn irq :=
  rr2_ite (fetch_rr s irq) (rr2_ite (access_rr s) (rr2_ite (restore_rr s) (rr2_ite (change_rr s) (doMode_rr { s with step := IntKind.wrap .i64 (s.step + 1) } _))))
theorem ends_rr (s : PC) (b : BusI) : (s.ends b).rr R = (s.rr R).ends b := rr_ite (tick_rr s) rfl
def ended (r : PC × BusI) : PC × BusI := ({ r.1.ends r.2 with cyc := IntKind.wrap .i64 ((r.1.ends r.2).cyc + 1) }, r.2)
theorem ended_rr (r : PC × BusI) : rr2 (ended r) R = ended (rr2 r R) := by
  unfold ended
  rw [show (rr2 r R).1.ends (rr2 r R).2 = (r.1.ends r.2).rr R from (ends_rr r.1 r.2).symm]
  rfl
theorem cycle_rr (s : PC) (R : Nat → Option Value) (n i : Bool) : (s.rr R).cycle n i = rr2 (s.cycle n i) R := by
  rw [pc_cycle, pc_cycle]
  exact (rr_map ended ended_rr (turn_rr (s.pins n) i)).symm
end

/-
  Cells behind the computer, put.
-/
section
theorem hid {p : Prop} (h : p) : Hid p := h

/-- The cell o behind the computer turned. -/
def PC.put (s : PC) (o : Nat) (v : Value) : PC := s.rr (fun k => if k = o then some v else s.rest k)

theorem put_same (s : PC) (o : Nat) (v : Value) : (s.put o v).rest o = some v := if_pos rfl
theorem put_other (s : PC) (o k : Nat) (v : Value) (h : k ≠ o) : (s.put o v).rest k = s.rest k := if_neg h

theorem CAt.put {w : World} {B : Nat} {s : PC} (h : CAt w B s) (o : Nat) (v v0 : Value) (ho : 65562 ≤ o) (h0 : s.rest o = some v0) : CAt (w.setCell ⟨B, o, none⟩ v) B (s.put o v) := by
  have q : ∀ k, k ≠ o → (w.setCell ⟨B, o, none⟩ v).cell? ⟨B, k, none⟩ = w.cell? ⟨B, k, none⟩ := fun k hk => World.cell?_setCell_other _ _ _ _ (cp_addr _ _ _ (fun e => hk e.symm))
  have p : ∀ k, k < 65562 → (w.setCell ⟨B, o, none⟩ v).cell? ⟨B, k, none⟩ = w.cell? ⟨B, k, none⟩ := fun k hk => q k (by omega)
  have f : ∀ k, (w.setCell ⟨B, o, none⟩ v).frozen? ⟨B, k, none⟩ = false := fun k => by rw [World.frozen?_setCell]; exact h.free k
  refine { h with mem := fun i hi => (p i (by omega)).trans (h.mem i hi), crom := (p _ (by decide)).trans h.crom, ccnt := (p _ (by decide)).trans h.ccnt, ccalls := (p _ (by decide)).trans h.ccalls, ca := (p _ (by decide)).trans h.ca, cx := (p _ (by decide)).trans h.cx, cy := (p _ (by decide)).trans h.cy, cs := (p _ (by decide)).trans h.cs, cp := (p _ (by decide)).trans h.cp, cpc := (p _ (by decide)).trans h.cpc, cba := (p _ (by decide)).trans h.cba, cbx := (p _ (by decide)).trans h.cbx, cb_y := (p _ (by decide)).trans h.cb_y, cbs := (p _ (by decide)).trans h.cbs, cbp := (p _ (by decide)).trans h.cbp, cbpc := (p _ (by decide)).trans h.cbpc, cst := (p _ (by decide)).trans h.cst, cins := (p _ (by decide)).trans h.cins, cmd := (p _ (by decide)).trans h.cmd, cstep := (p _ (by decide)).trans h.cstep, cad := (p _ (by decide)).trans h.cad, chop := (p _ (by decide)).trans h.chop, cdata := (p _ (by decide)).trans h.cdata, ctaken := (p _ (by decide)).trans h.ctaken, cnmiOn := (p _ (by decide)).trans h.cnmiOn, cnmiDue := (p _ (by decide)).trans h.cnmiDue, ccyc := (p _ (by decide)).trans h.ccyc, free := f, crest := fun k hk => ?_ }
  by_cases e : k = o
  · subst e
    exact (World.cell?_setCell_same _ _ _ ((h.crest k hk).trans h0)).trans (put_same s k v).symm
  · exact ((q k e).trans (h.crest k hk)).trans (put_other s o k v e).symm
theorem Tn.put {w0 w : World} {B : Nat} {s : PC} (h : Tn B s w0 w) (o : Nat) (v v0 : Value) (ho : 65562 ≤ o) (h0 : s.rest o = some v0) : Tn B (s.put o v) w0 (w.setCell ⟨B, o, none⟩ v) := ⟨h.c.put o v v0 ho h0, G.set h.g⟩
theorem Tn.rest {w0 w : World} {B : Nat} {s : PC} (h : Tn B s w0 w) {o : Nat} {v : Value} (ho : 65562 ≤ o) (h0 : s.rest o = some v) : w.cell? ⟨B, o, none⟩ = some v := (h.c.crest o ho).trans h0
theorem CAt.rr {w : World} {B : Nat} {s : PC} (h : CAt w B s) : ∀ o, 65562 ≤ o → w.cell? ⟨B, o, none⟩ = s.rest o := h.crest

/-- Points, as plain data. -/
structure Pts where
  at_ : Nat → Int
  n : Nat
def findG (f : Nat → Int) (a : Int) : Nat → Nat → Option Nat
  | _, 0 => none
  | k, c + 1 => if a = f k then some k else findG f a (k + 1) c
def Pts.find (p : Pts) (a : Int) : Option Nat := findG p.at_ a 0 p.n
def fInt : Option Nat → Int
  | none => -1
  | some i => i
theorem findG_s (f : Nat → Int) (a : Int) (k c : Nat) : findG f a k (c + 1) = if a = f k then some k else findG f a (k + 1) c := rfl
theorem findG_lt (f : Nat → Int) (a : Int) : ∀ (c k i : Nat), findG f a k c = some i → k ≤ i ∧ i < k + c
  | 0, _, _, h => by cases h
  | c + 1, k, i, h => by
    unfold findG at h
    split at h
    · injection h with h; omega
    · have := findG_lt f a c (k + 1) i h; omega
def Pts.has (p : Pts) (a : Int) : Bool := (p.find a).isSome
def okT : List UInt8 := [79, 75]
def eT (n : UInt8) : List UInt8 := [69, n]
def Pts.add (p : Pts) (a : Int) : Pts × List UInt8 :=
  if p.has a = true then (p, okT) else if p.n = 4 then (p, eT 52) else (⟨fun k => if k = p.n then a else p.at_ k, p.n + 1⟩, okT)
def Pts.remove (p : Pts) (a : Int) : Pts × List UInt8 := match p.find a with
  | none => (p, eT 53)
  | some i => (⟨fun k => if k = i then p.at_ (p.n - 1) else p.at_ k, p.n - 1⟩, okT)
/-- They lie at P. -/
structure PtsR (R : Nat → Option Value) (P : Nat) (p : Pts) : Prop where
  n4 : p.n ≤ 4
  cn : R (P + 4) = some (.int .i64 (p.n : Int))
  ca : ∀ i, i < 4 → R (P + i) = some (.int .u16 (p.at_ i))

set_option maxRecDepth 100000 in
set_option maxHeartbeats 1000000 in
theorem index_any (w : World) (b off n cap : Nat) (f : Nat → Int) (a : Int) (hc : ∀ i, i < n → w.cell? ⟨b, off + i, none⟩ = some (.int .u16 (f i))) (hn : n ≤ 4) :
    Calls Tryz.prog 123 #[.slice (some ⟨b, off, none⟩) n cap, .int .u16 a] w fun e w' => e = .returned (.int .i64 (fInt (findG f a 0 n))) ∧ w' = w := by
  obtain ⟨r, hR⟩ : ∃ r, Hid (findG f a 0 n = r) := ⟨_, rfl⟩
  rw [hR.out]
  go_enter Tryz.func123, Tryz.ntmps123
  go_wp2_with fail
  go_loopw [8] (fun i wr => ∃ (k : Nat), k ≤ n ∧ i = .int .i64 k ∧ wr = w ∧ findG f a k (n - k) = r) (fun i _ => n - (intOf i).toNat)
  case atStart => exact ⟨0, by omega, rfl, rfl, hR.out⟩
  case round =>
    obtain ⟨k, hk, rfl, rfl, hf⟩ := hrel
    by_cases hlt : k < n
    · have hc1 := hc k hlt
      have e1 : n - k = (n - (k + 1)) + 1 := by omega
      rw [e1, findG_s] at hf
      by_cases hq : a = f k
      · rw [if_pos hq] at hf
        subst hf
        go_wp2
        go_ret
        exact ⟨rfl, rfl⟩
      · rw [if_neg hq] at hf
        go_wp2
        go_roundw
        case rel => exact ⟨k + 1, by omega, by go_num, trivial, hf⟩
        case measure => simp [intOf]; omega
    · have e1 : n - k = 0 := by omega
      rw [e1] at hf
      have hr : none = r := hf
      subst hr
      go_wp2
      go_ret
      exact ⟨rfl, rfl⟩
end

/-
  A cycle's data is a byte.
-/
section
/-- What is read is what a look sees; what is written is the computer's data, or a byte. -/
def DR (s : PC) (r : PC × BusI) : Prop := (r.2.wr = false ∧ r.2.data = s.look r.2.addr) ∨ (r.2.data = r.1.data ∨ (0 ≤ r.2.data ∧ r.2.data < 256))
theorem DR.rd {s : PC} {r : PC × BusI} (h : r.2.wr = false) (e : r.2.data = s.look r.2.addr) : DR s r := .inl ⟨h, e⟩
theorem DR.by_ {s : PC} {r : PC × BusI} (h : 0 ≤ r.2.data ∧ r.2.data < 256) : DR s r := .inr (.inr h)
theorem DR.ite {s : PC} {c : Prop} [Decidable c] {a b : PC × BusI} (h1 : DR s a) (h2 : DR s b) : DR s (if c then a else b) := by split <;> assumption
theorem w1d (s : PC) (a d : Int) : (s.write1 a d).data = s.data := by
  unfold PC.write1; split
  · rfl
  · split <;> rfl
theorem DR.wr (s t : PC) : DR s (t.write t.ad t.data) := .inr (.inl (w1d t t.ad t.data).symm)
theorem DR.access (s : PC) : DR s s.access := DR.ite (DR.wr s _) (DR.ite (.rd rfl rfl) (.rd rfl rfl))
theorem DR.indexed (s : PC) (i : Int) : DR s (s.indexed i) := DR.ite (DR.access { s with ad := (s.ad + i) % 65536, st := 2 }) (.rd rfl rfl)
theorem DR.pushed (s t : PC) (d : Int) (h : 0 ≤ d ∧ d < 256) : DR s (t.pushed d) := .by_ h
theorem sd_hi (a : Int) (h0 : 0 ≤ a) (h1 : a < 65536) : 0 ≤ hiI a ∧ hiI a < 256 := by unfold hiI; omega
theorem sd_lo (a : Int) : 0 ≤ loI a ∧ loI a < 256 := by unfold loI; omega
theorem DR.pushByte (s : PC) : DR s s.pushByte := DR.ite (.rd rfl rfl) (.inr (.inl (w1d s.perform s.perform.stackTop s.perform.data).symm))
theorem DR.enter (s : PC) (v f : Int) (h0 : 0 ≤ s.pc) (h1 : s.pc < 65536) (hf : 0 ≤ f ∧ f < 256) : DR s (s.enter v f) :=
  DR.ite (DR.pushed s s _ (sd_hi _ h0 h1)) (DR.ite (DR.pushed s s _ (sd_lo _)) (DR.ite (DR.pushed s s _ hf) (DR.ite (.rd rfl rfl) (.rd rfl rfl))))
theorem DR.doMode (s : PC) (m : Nat) (h0 : 0 ≤ s.pc) (h1 : s.pc < 65536) (p0 : 0 ≤ s.p ∧ s.p < 256) : DR s (s.doMode m) := by
  unfold PC.doMode
  split
  · exact .rd rfl rfl
  · exact .rd rfl rfl
  · exact .rd rfl rfl
  · exact .rd rfl rfl
  · exact DR.ite (.rd rfl rfl) (.rd rfl rfl)
  · exact DR.ite (.rd rfl rfl) (.rd rfl rfl)
  · exact DR.ite (.rd rfl rfl) (.rd rfl rfl)
  · exact DR.ite (.rd rfl rfl) (DR.ite (.rd rfl rfl) (DR.indexed s _))
  · exact DR.ite (.rd rfl rfl) (DR.ite (.rd rfl rfl) (DR.indexed s _))
  · exact DR.ite (.rd rfl rfl) (DR.ite (.rd rfl rfl) (DR.ite (.rd rfl rfl) (.rd rfl rfl)))
  · exact DR.ite (.rd rfl rfl) (DR.ite (.rd rfl rfl) (DR.ite (.rd rfl rfl) (DR.indexed s _)))
  · exact DR.ite (.rd rfl rfl) (DR.ite (.rd rfl rfl) (.rd rfl rfl))
  · exact DR.ite (.rd rfl rfl) (.rd rfl rfl)
  · exact DR.ite (.rd rfl rfl) (DR.ite (.rd rfl rfl) (DR.ite (.rd rfl rfl) (.rd rfl rfl)))
  · exact DR.ite (.rd rfl rfl) (DR.ite (.rd rfl rfl) (DR.ite (DR.pushed s s _ (sd_hi _ h0 h1)) (DR.ite (DR.pushed s s _ (sd_lo _)) (.rd rfl rfl))))
  · exact DR.ite (.rd rfl rfl) (DR.ite (.rd rfl rfl) (DR.ite (.rd rfl rfl) (DR.ite (.rd rfl rfl) (.rd rfl rfl))))
  · exact DR.pushByte s
  · exact DR.ite (.rd rfl rfl) (DR.ite (.rd rfl rfl) (.rd rfl rfl))
  · exact DR.ite (.rd rfl rfl) (DR.enter s _ _ h0 h1 (bit_r _ _ _))
  · exact DR.ite (.rd rfl rfl) (DR.enter s _ _ h0 h1 p0)
  · exact DR.ite (.rd rfl rfl) (DR.enter s _ _ h0 h1 p0)
  · exact DR.ite (.rd rfl rfl) (DR.ite (.rd rfl rfl) (DR.ite (.rd rfl rfl) (DR.ite (.rd rfl rfl) (.rd rfl rfl))))
theorem DR.turn (s : PC) (irq : Bool) (h0 : 0 ≤ s.pc) (h1 : s.pc < 65536) (p0 : 0 ≤ s.p ∧ s.p < 256) : DR s (s.turn irq) := by
  refine DR.ite ?_ (DR.ite (DR.access s) (DR.ite (DR.wr s _) (DR.ite (DR.wr s _) (DR.doMode { s with step := IntKind.wrap .i64 (s.step + 1) } _ h0 h1 p0))))
  exact DR.ite (.rd rfl rfl) (DR.ite (.rd rfl rfl) (.rd rfl rfl))
theorem tick_d (s : PC) : s.tick.data = s.data := by
  unfold PC.tick; split
  · rfl
  · split <;> rfl
theorem ends_d (s : PC) (b : BusI) : (s.ends b).data = s.data := by
  unfold PC.ends; split
  · exact tick_d s
  · rfl
/-- Of a computer whose cells are bytes, and whose data is one behind the cycle, the cycle's data is a byte. -/
theorem bus_byte (s : PC) (nmi irq : Bool) (h0 : 0 ≤ s.pc) (h1 : s.pc < 65536) (p0 : 0 ≤ s.p ∧ s.p < 256) (c0 : 0 ≤ s.cnt ∧ s.cnt < 256) (m0 : ∀ i, i < 65536 → 0 ≤ s.mem i ∧ s.mem i < 256)
    (d0 : 0 ≤ (s.cycle nmi irq).1.data ∧ (s.cycle nmi irq).1.data < 256) (a0 : 0 ≤ (s.cycle nmi irq).2.addr) (a1 : (s.cycle nmi irq).2.addr < 65536) :
    0 ≤ (s.cycle nmi irq).2.data ∧ (s.cycle nmi irq).2.data < 256 := by
  have T := DR.turn (s.pins nmi) irq h0 h1 p0
  rw [pc_cycle] at d0 a0 a1 ⊢
  have e : ((({ ((s.pins nmi).turn irq).1.ends ((s.pins nmi).turn irq).2 with cyc := IntKind.wrap .i64 ((((s.pins nmi).turn irq).1.ends ((s.pins nmi).turn irq).2).cyc + 1) } : PC), ((s.pins nmi).turn irq).2) : PC × BusI).1.data = ((s.pins nmi).turn irq).1.data := ends_d _ _
  rw [e] at d0
  clear e
  rcases T with ⟨-, T⟩ | T | T
  · show 0 ≤ ((s.pins nmi).turn irq).2.data ∧ ((s.pins nmi).turn irq).2.data < 256
    rw [T]
    have a0 : 0 ≤ ((s.pins nmi).turn irq).2.addr := a0
    have a1 : ((s.pins nmi).turn irq).2.addr < 65536 := a1
    unfold PC.look
    split
    · exact c0
    · split
      · split <;> omega
      · exact m0 _ (by omega)
  · show 0 ≤ ((s.pins nmi).turn irq).2.data ∧ ((s.pins nmi).turn irq).2.data < 256
    rw [T]; exact d0
  · exact T
end

end Go.Proofs.YtcgjliflnnklnabGreat
