/-
  The computer does not touch what lies behind it.
-/
import Derived.Test.YtcgjliflnnklnaaGreatCp1
namespace Go.Proofs.YtcgjliflnnklnaaGreat
open Go.RowKit

/-- The same computer with other cells behind it. -/
def PC.rr (s : PC) (R : Nat → Option Value) : PC := { s with rest := R }
def rr2 (r : PC × BusI) (R : Nat → Option Value) : PC × BusI := (r.1.rr R, r.2)
variable {R : Nat → Option Value}
theorem rr_ite {c : Prop} [Decidable c] {a b a' b' : PC} (h1 : a.rr R = a') (h2 : b.rr R = b') : (if c then a else b).rr R = if c then a' else b' := by split <;> assumption
theorem rr2_ite {c : Prop} [Decidable c] {a b a' b' : PC × BusI} (h1 : rr2 a R = a') (h2 : rr2 b R = b') : rr2 (if c then a else b) R = if c then a' else b' := by split <;> assumption
theorem read1_rr (s : PC) (a : Int) : (s.read1 a).rr R = (s.rr R).read1 a := rr_ite rfl rfl
theorem write1_rr (s : PC) (a d : Int) : (s.write1 a d).rr R = (s.rr R).write1 a d := rr_ite rfl (rr_ite rfl rfl)
theorem read_rr (s : PC) (a : Int) : rr2 (s.read a) R = (s.rr R).read a := Prod.ext (read1_rr s a) rfl
theorem write_rr (s : PC) (a d : Int) : rr2 (s.write a d) R = (s.rr R).write a d := Prod.ext (write1_rr s a d) rfl
theorem tick_rr (s : PC) : s.tick.rr R = (s.rr R).tick := rr_ite rfl (rr_ite rfl rfl)
theorem rr_then {a b : PC × BusI} (f : PC → PC) (hf : ∀ s : PC, (f s).rr R = f (s.rr R)) (h : rr2 a R = b) : rr2 (f a.1, a.2) R = (f b.1, b.2) := by subst h; exact Prod.ext (hf a.1) rfl
theorem rr_map {a b : PC × BusI} (f : PC × BusI → PC × BusI) (hf : ∀ r, rr2 (f r) R = f (rr2 r R)) (h : rr2 a R = b) : rr2 (f a) R = f b := by subst h; exact hf a
theorem tD {a b : PC × BusI} (h : rr2 a R = b) : rr2 (takeData a) R = takeData b := rr_map _ (fun _ => rfl) h
theorem tL {a b : PC × BusI} (h : rr2 a R = b) : rr2 (takeLow a) R = takeLow b := rr_map _ (fun _ => rfl) h
theorem tH {a b : PC × BusI} (h : rr2 a R = b) : rr2 (takeHigh a) R = takeHigh b := rr_map _ (fun _ => rfl) h
theorem tP {a b : PC × BusI} (h : rr2 a R = b) : rr2 (takeHop a) R = takeHop b := rr_map _ (fun _ => rfl) h
theorem readNext_rr (s : PC) : rr2 s.readNext R = (s.rr R).readNext := rr_then (fun t => { t with pc := (t.pc + 1) % 65536 }) (fun _ => rfl) (read_rr s s.pc)
theorem pushed_rr (s : PC) (d : Int) : rr2 (s.pushed d) R = (s.rr R).pushed d := rr_then (fun t => { t with s := (t.s - 1) % 256 }) (fun _ => rfl) (write_rr s s.stackTop d)
theorem pulled_rr (s : PC) : rr2 s.pulled R = (s.rr R).pulled := read_rr { s with s := (s.s + 1) % 256 } _
theorem finish_rr (s : PC) : s.finish.rr R = (s.rr R).finish := rfl
theorem doIns_rr (s : PC) (i : Nat) : (s.doIns i).rr R = (s.rr R).doIns i := by
  unfold PC.doIns
  split <;> rfl
theorem perform_rr (s : PC) : s.perform.rr R = (s.rr R).perform := doIns_rr s _
theorem performLast_rr (s : PC) : s.performLast.rr R = (s.rr R).performLast := congrArg PC.finish (perform_rr s)
theorem pL {a b : PC × BusI} (h : rr2 a R = b) : rr2 (a.1.performLast, a.2) R = (b.1.performLast, b.2) := rr_then PC.performLast performLast_rr h
theorem gT {a b : PC × BusI} (h : rr2 a R = b) : rr2 (goThere a) R = goThere b := rr_map _ (fun r => Prod.ext (performLast_rr (takeHigh r).1) rfl) h
theorem change_rr (s : PC) : rr2 s.change R = (s.rr R).change := by
  unfold PC.change
  rw [write_rr]
  show (s.performLast.rr R).write (s.performLast.rr R).ad (s.performLast.rr R).data = _
  rw [performLast_rr]
theorem access_rr (s : PC) : rr2 s.access R = (s.rr R).access := rr2_ite (change_rr s) (rr2_ite (tD (read_rr { s with st := 3 } _)) (pL (tD (read_rr s _))))
theorem restore_rr (s : PC) : rr2 s.restore R = (s.rr R).restore := write_rr { s with st := 4 } _ _
theorem implied_rr (s : PC) : rr2 s.implied R = (s.rr R).implied := pL (read_rr s _)
theorem accumulator_rr (s : PC) : rr2 s.accumulator R = (s.rr R).accumulator :=
  rr_then (fun q => (({ (({ q with data := q.a } : PC).perform) with a := (({ q with data := q.a } : PC).perform).data } : PC).finish)) (fun q => by
    have h := perform_rr (R := R) ({ q with data := q.a } : PC)
    have e : (({ q.rr R with data := (q.rr R).a } : PC)) = ({ q with data := q.a } : PC).rr R := rfl
    simp only [e, ← h]
    rfl) (read_rr s _)
theorem immediate_rr (s : PC) : rr2 s.immediate R = (s.rr R).immediate := pL (tD (readNext_rr s))
theorem zeroPage_rr (s : PC) : rr2 s.zeroPage R = (s.rr R).zeroPage := tL (readNext_rr { s with st := 2 })
theorem zeroPageBy_rr (s : PC) (i : Int) : rr2 (s.zeroPageBy i) R = (s.rr R).zeroPageBy i := rr2_ite (tL (readNext_rr s)) (rr_then (fun t => { t with ad := withinI t.ad i, st := 2 }) (fun _ => rfl) (read_rr s _))
theorem absolute_rr (s : PC) : rr2 s.absolute R = (s.rr R).absolute := rr2_ite (tL (readNext_rr s)) (tH (readNext_rr { s with st := 2 }))
theorem indexed_rr (s : PC) (i : Int) : rr2 (s.indexed i) R = (s.rr R).indexed i := rr2_ite (access_rr { s with ad := (s.ad + i) % 65536, st := 2 }) (read_rr { s with ad := (s.ad + i) % 65536, st := 2 } _)
theorem absoluteBy_rr (s : PC) (i : Int) : rr2 (s.absoluteBy i) R = (s.rr R).absoluteBy i := rr2_ite (tL (readNext_rr s)) (rr2_ite (tH (readNext_rr s)) (indexed_rr s i))
theorem indirectX_rr (s : PC) : rr2 s.indirectX R = (s.rr R).indirectX := rr2_ite (tP (readNext_rr s)) (rr2_ite (rr_then (fun t => { t with hop := withinI t.hop t.x }) (fun _ => rfl) (read_rr s _)) (rr2_ite (tL (read_rr s _)) (tH (read_rr { s with st := 2 } _))))
theorem indirectY_rr (s : PC) : rr2 s.indirectY R = (s.rr R).indirectY := rr2_ite (tP (readNext_rr s)) (rr2_ite (tL (read_rr s _)) (rr2_ite (tH (read_rr s _)) (indexed_rr s _)))
theorem relative_rr (s : PC) : rr2 s.relative R = (s.rr R).relative := by
  refine rr2_ite ?_ (rr2_ite (rr_then (fun t => if hiI t.ad = hiI t.pc then t.branch else t) (fun t => rr_ite rfl rfl) (read_rr s _)) (rr_then PC.branch (fun _ => rfl) (read_rr s _)))
  have h := readNext_rr (R := R) s
  show rr2 (_, s.readNext.2) R = (_, (s.rr R).readNext.2)
  rw [← h]
  refine Prod.ext ?_ rfl
  have p := perform_rr (R := R) ({ s.readNext.1 with ad := (s.readNext.1.pc + sgn s.readNext.2.data) % 65536 } : PC)
  show PC.rr (if ({ s.readNext.1 with ad := (s.readNext.1.pc + sgn s.readNext.2.data) % 65536 } : PC).perform.taken = true then ({ s.readNext.1 with ad := (s.readNext.1.pc + sgn s.readNext.2.data) % 65536 } : PC).perform else ({ s.readNext.1 with ad := (s.readNext.1.pc + sgn s.readNext.2.data) % 65536 } : PC).perform.finish) R =
    if (({ s.readNext.1 with ad := (s.readNext.1.pc + sgn s.readNext.2.data) % 65536 } : PC).rr R).perform.taken = true then (({ s.readNext.1 with ad := (s.readNext.1.pc + sgn s.readNext.2.data) % 65536 } : PC).rr R).perform else (({ s.readNext.1 with ad := (s.readNext.1.pc + sgn s.readNext.2.data) % 65536 } : PC).rr R).perform.finish
  rw [← p]
  exact rr_ite rfl rfl
theorem jumpAbsolute_rr (s : PC) : rr2 s.jumpAbsolute R = (s.rr R).jumpAbsolute := rr2_ite (tL (readNext_rr s)) (gT (read_rr s _))
theorem jumpIndirect_rr (s : PC) : rr2 s.jumpIndirect R = (s.rr R).jumpIndirect := rr2_ite (tL (readNext_rr s)) (rr2_ite (rr_then (fun t => { t with hop := t.ad }) (fun _ => rfl) (tH (readNext_rr s))) (rr2_ite (tL (read_rr s _)) (gT (read_rr s _))))
theorem callSubroutine_rr (s : PC) : rr2 s.callSubroutine R = (s.rr R).callSubroutine := rr2_ite (tL (readNext_rr s)) (rr2_ite (read_rr s _) (rr2_ite (pushed_rr s _) (rr2_ite (pushed_rr s _) (gT (read_rr s _)))))
theorem leaveSubroutine_rr (s : PC) : rr2 s.leaveSubroutine R = (s.rr R).leaveSubroutine := rr2_ite (read_rr s _) (rr2_ite (read_rr s _) (rr2_ite (tL (pulled_rr s)) (rr2_ite (tH (pulled_rr s)) (pL (read_rr s _)))))
theorem leaveInterrupt_rr (s : PC) : rr2 s.leaveInterrupt R = (s.rr R).leaveInterrupt := rr2_ite (read_rr s _) (rr2_ite (read_rr s _) (rr2_ite (tD (pulled_rr s)) (rr2_ite (tL (pulled_rr s)) (gT (pulled_rr s)))))
theorem pushByte_rr (s : PC) : rr2 s.pushByte R = (s.rr R).pushByte := by
  refine rr2_ite (read_rr s _) ?_
  have q : rr2 (s.perform.pushed s.perform.data) R = (s.rr R).perform.pushed (s.rr R).perform.data := by rw [pushed_rr, ← perform_rr]; rfl
  exact rr_then PC.finish (fun _ => rfl) q
theorem pullByte_rr (s : PC) : rr2 s.pullByte R = (s.rr R).pullByte := rr2_ite (read_rr s _) (rr2_ite (read_rr s _) (pL (tD (pulled_rr s))))
theorem enter_rr (s : PC) (v f : Int) : rr2 (s.enter v f) R = (s.rr R).enter v f := rr2_ite (pushed_rr s _) (rr2_ite (pushed_rr s _) (rr2_ite (pushed_rr s _) (rr2_ite (tL (read_rr s _)) (gT (read_rr s _)))))
theorem enterByBreak_rr (s : PC) : rr2 s.enterByBreak R = (s.rr R).enterByBreak := rr2_ite (readNext_rr s) (enter_rr s _ _)
theorem enterByIRQ_rr (s : PC) : rr2 s.enterByIRQ R = (s.rr R).enterByIRQ := rr2_ite (read_rr s _) (enter_rr s _ _)
theorem enterByNMI_rr (s : PC) : rr2 s.enterByNMI R = (s.rr R).enterByNMI := rr2_ite (read_rr s _) (enter_rr s _ _)
theorem doMode_rr (s : PC) (m : Nat) : rr2 (s.doMode m) R = (s.rr R).doMode m := by
  unfold PC.doMode
  split
  · exact implied_rr s
  · exact accumulator_rr s
  · exact immediate_rr s
  · exact zeroPage_rr s
  · exact zeroPageBy_rr s _
  · exact zeroPageBy_rr s _
  · exact absolute_rr s
  · exact absoluteBy_rr s _
  · exact absoluteBy_rr s _
  · exact indirectX_rr s
  · exact indirectY_rr s
  · exact relative_rr s
  · exact jumpAbsolute_rr s
  · exact jumpIndirect_rr s
  · exact callSubroutine_rr s
  · exact leaveSubroutine_rr s
  · exact pushByte_rr s
  · exact pullByte_rr s
  · exact enterByBreak_rr s
  · exact enterByNMI_rr s
  · exact enterByIRQ_rr s
  · exact leaveInterrupt_rr s
theorem begin_rr (s : PC) (i m : Int) : (s.begin_ i m).rr R = (s.rr R).begin_ i m := rr_ite rfl rfl
theorem fetch_rr (s : PC) (irq : Bool) : rr2 (s.fetch irq) R = (s.rr R).fetch irq := by
  have h := read_rr (R := R) s s.pc
  unfold PC.fetch
  rw [show (s.rr R).read (s.rr R).pc = rr2 (s.read s.pc) R from h.symm]
  refine rr2_ite ?_ (rr2_ite ?_ ?_)
  · exact Prod.ext (begin_rr _ _ _) rfl
  · exact Prod.ext (begin_rr _ _ _) rfl
  · exact Prod.ext (begin_rr _ _ _) rfl
theorem turn_rr (s : PC) (irq : Bool) : rr2 (s.turn irq) R = (s.rr R).turn irq :=
  rr2_ite (fetch_rr s irq) (rr2_ite (access_rr s) (rr2_ite (restore_rr s) (rr2_ite (change_rr s) (doMode_rr { s with step := IntKind.wrap .i64 (s.step + 1) } _))))
theorem ends_rr (s : PC) (b : BusI) : (s.ends b).rr R = (s.rr R).ends b := rr_ite (tick_rr s) rfl
def ended (r : PC × BusI) : PC × BusI := ({ r.1.ends r.2 with cyc := IntKind.wrap .i64 ((r.1.ends r.2).cyc + 1) }, r.2)
theorem ended_rr (r : PC × BusI) : rr2 (ended r) R = ended (rr2 r R) := by
  unfold ended
  rw [show (rr2 r R).1.ends (rr2 r R).2 = (r.1.ends r.2).rr R from (ends_rr r.1 r.2).symm]
  rfl
theorem cycle_rr (s : PC) (R : Nat → Option Value) (n i : Bool) : (s.rr R).cycle n i = rr2 (s.cycle n i) R := by
  rw [pc_cycle, pc_cycle]
  exact (rr_map ended ended_rr (turn_rr (s.pins n) i)).symm

end Go.Proofs.YtcgjliflnnklnaaGreat
