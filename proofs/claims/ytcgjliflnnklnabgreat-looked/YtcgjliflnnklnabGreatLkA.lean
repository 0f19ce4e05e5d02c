/-
  Looked, the plain part: a stub that is only looked at and gone on with is the computer that runs by itself.
-/
import Derived.Test.YtcgjliflnnklnabGreatQM
import Derived.Test.YtcgjliflnnklnabGreatQF
namespace Go.Proofs.YtcgjliflnnklnabGreat
open Go.RowKit

section
/-- The same computer with another count of cycles. -/
def PC.wc (s : PC) (R : Int) : PC := { s with cyc := R }
def wc2 (r : PC × BusI) (R : Int) : PC × BusI := (r.1.wc R, r.2)
variable {R : Int}
theorem wc_ite {c : Prop} [Decidable c] {a b a' b' : PC} (h1 : a.wc R = a') (h2 : b.wc R = b') : (if c then a else b).wc R = if c then a' else b' := by split <;> assumption
theorem wc2_ite {c : Prop} [Decidable c] {a b a' b' : PC × BusI} (h1 : wc2 a R = a') (h2 : wc2 b R = b') : wc2 (if c then a else b) R = if c then a' else b' := by split <;> assumption
theorem read1_wc (s : PC) (a : Int) : (s.read1 a).wc R = (s.wc R).read1 a := wc_ite rfl rfl
theorem write1_wc (s : PC) (a d : Int) : (s.write1 a d).wc R = (s.wc R).write1 a d := wc_ite rfl (wc_ite rfl rfl)
theorem read_wc (s : PC) (a : Int) : wc2 (s.read a) R = (s.wc R).read a := Prod.ext (read1_wc s a) rfl
theorem write_wc (s : PC) (a d : Int) : wc2 (s.write a d) R = (s.wc R).write a d := Prod.ext (write1_wc s a d) rfl
theorem tick_wc (s : PC) : s.tick.wc R = (s.wc R).tick := wc_ite rfl (wc_ite rfl rfl)
theorem wc_then {a b : PC × BusI} (f : PC → PC) (hf : ∀ s : PC, (f s).wc R = f (s.wc R)) (h : wc2 a R = b) : wc2 (f a.1, a.2) R = (f b.1, b.2) := by subst h; exact Prod.ext (hf a.1) rfl
theorem wc_map {a b : PC × BusI} (f : PC × BusI → PC × BusI) (hf : ∀ r, wc2 (f r) R = f (wc2 r R)) (h : wc2 a R = b) : wc2 (f a) R = f b := by subst h; exact hf a
theorem tDc {a b : PC × BusI} (h : wc2 a R = b) : wc2 (takeData a) R = takeData b := wc_map _ (fun _ => rfl) h
theorem tLc {a b : PC × BusI} (h : wc2 a R = b) : wc2 (takeLow a) R = takeLow b := wc_map _ (fun _ => rfl) h
theorem tHc {a b : PC × BusI} (h : wc2 a R = b) : wc2 (takeHigh a) R = takeHigh b := wc_map _ (fun _ => rfl) h
theorem tPc {a b : PC × BusI} (h : wc2 a R = b) : wc2 (takeHop a) R = takeHop b := wc_map _ (fun _ => rfl) h
theorem readNext_wc (s : PC) : wc2 s.readNext R = (s.wc R).readNext := wc_then (fun t => { t with pc := (t.pc + 1) % 65536 }) (fun _ => rfl) (read_wc s s.pc)
theorem pushed_wc (s : PC) (d : Int) : wc2 (s.pushed d) R = (s.wc R).pushed d := wc_then (fun t => { t with s := (t.s - 1) % 256 }) (fun _ => rfl) (write_wc s s.stackTop d)
theorem pulled_wc (s : PC) : wc2 s.pulled R = (s.wc R).pulled := read_wc { s with s := (s.s + 1) % 256 } _
theorem finish_wc (s : PC) : s.finish.wc R = (s.wc R).finish := rfl
theorem doIns_wc (s : PC) (i : Nat) : (s.doIns i).wc R = (s.wc R).doIns i := by
  unfold PC.doIns
  split <;> rfl
theorem perform_wc (s : PC) : s.perform.wc R = (s.wc R).perform := doIns_wc s _
theorem performLast_wc (s : PC) : s.performLast.wc R = (s.wc R).performLast := congrArg PC.finish (perform_wc s)
theorem pLc {a b : PC × BusI} (h : wc2 a R = b) : wc2 (a.1.performLast, a.2) R = (b.1.performLast, b.2) := wc_then PC.performLast performLast_wc h
theorem gTc {a b : PC × BusI} (h : wc2 a R = b) : wc2 (goThere a) R = goThere b := wc_map _ (fun r => Prod.ext (performLast_wc (takeHigh r).1) rfl) h
theorem change_wc (s : PC) : wc2 s.change R = (s.wc R).change := by
  unfold PC.change
  rw [write_wc]
  show (s.performLast.wc R).write (s.performLast.wc R).ad (s.performLast.wc R).data = _
  rw [performLast_wc]
theorem access_wc (s : PC) : wc2 s.access R = (s.wc R).access := wc2_ite (change_wc s) (wc2_ite (tDc (read_wc { s with st := 3 } _)) (pLc (tDc (read_wc s _))))
theorem restore_wc (s : PC) : wc2 s.restore R = (s.wc R).restore := write_wc { s with st := 4 } _ _
theorem implied_wc (s : PC) : wc2 s.implied R = (s.wc R).implied := pLc (read_wc s _)
theorem accumulator_wc (s : PC) : wc2 s.accumulator R = (s.wc R).accumulator :=
  wc_then (fun q => (({ (({ q with data := q.a } : PC).perform) with a := (({ q with data := q.a } : PC).perform).data } : PC).finish)) (fun q => by
    have h := perform_wc (R := R) ({ q with data := q.a } : PC)
    have e : (({ q.wc R with data := (q.wc R).a } : PC)) = ({ q with data := q.a } : PC).wc R := rfl
    simp only [e, ← h]
    rfl) (read_wc s _)
theorem immediate_wc (s : PC) : wc2 s.immediate R = (s.wc R).immediate := pLc (tDc (readNext_wc s))
theorem zeroPage_wc (s : PC) : wc2 s.zeroPage R = (s.wc R).zeroPage := tLc (readNext_wc { s with st := 2 })
theorem zeroPageBy_wc (s : PC) (i : Int) : wc2 (s.zeroPageBy i) R = (s.wc R).zeroPageBy i := wc2_ite (tLc (readNext_wc s)) (wc_then (fun t => { t with ad := withinI t.ad i, st := 2 }) (fun _ => rfl) (read_wc s _))
theorem absolute_wc (s : PC) : wc2 s.absolute R = (s.wc R).absolute := wc2_ite (tLc (readNext_wc s)) (tHc (readNext_wc { s with st := 2 }))
theorem indexed_wc (s : PC) (i : Int) : wc2 (s.indexed i) R = (s.wc R).indexed i := wc2_ite (access_wc { s with ad := (s.ad + i) % 65536, st := 2 }) (read_wc { s with ad := (s.ad + i) % 65536, st := 2 } _)
theorem absoluteBy_wc (s : PC) (i : Int) : wc2 (s.absoluteBy i) R = (s.wc R).absoluteBy i := wc2_ite (tLc (readNext_wc s)) (wc2_ite (tHc (readNext_wc s)) (indexed_wc s i))
theorem indirectX_wc (s : PC) : wc2 s.indirectX R = (s.wc R).indirectX := wc2_ite (tPc (readNext_wc s)) (wc2_ite (wc_then (fun t => { t with hop := withinI t.hop t.x }) (fun _ => rfl) (read_wc s _)) (wc2_ite (tLc (read_wc s _)) (tHc (read_wc { s with st := 2 } _))))
theorem indirectY_wc (s : PC) : wc2 s.indirectY R = (s.wc R).indirectY := wc2_ite (tPc (readNext_wc s)) (wc2_ite (tLc (read_wc s _)) (wc2_ite (tHc (read_wc s _)) (indexed_wc s _)))
theorem relative_wc (s : PC) : wc2 s.relative R = (s.wc R).relative := by
  refine wc2_ite ?_ (wc2_ite (wc_then (fun t => if hiI t.ad = hiI t.pc then t.branch else t) (fun t => wc_ite rfl rfl) (read_wc s _)) (wc_then PC.branch (fun _ => rfl) (read_wc s _)))
  have h := readNext_wc (R := R) s
  show wc2 (_, s.readNext.2) R = (_, (s.wc R).readNext.2)
  rw [← h]
  refine Prod.ext ?_ rfl
  have p := perform_wc (R := R) ({ s.readNext.1 with ad := (s.readNext.1.pc + sgn s.readNext.2.data) % 65536 } : PC)
  show PC.wc (if ({ s.readNext.1 with ad := (s.readNext.1.pc + sgn s.readNext.2.data) % 65536 } : PC).perform.taken = true then ({ s.readNext.1 with ad := (s.readNext.1.pc + sgn s.readNext.2.data) % 65536 } : PC).perform else ({ s.readNext.1 with ad := (s.readNext.1.pc + sgn s.readNext.2.data) % 65536 } : PC).perform.finish) R =
    if (({ s.readNext.1 with ad := (s.readNext.1.pc + sgn s.readNext.2.data) % 65536 } : PC).wc R).perform.taken = true then (({ s.readNext.1 with ad := (s.readNext.1.pc + sgn s.readNext.2.data) % 65536 } : PC).wc R).perform else (({ s.readNext.1 with ad := (s.readNext.1.pc + sgn s.readNext.2.data) % 65536 } : PC).wc R).perform.finish
  rw [← p]
  exact wc_ite rfl rfl
theorem jumpAbsolute_wc (s : PC) : wc2 s.jumpAbsolute R = (s.wc R).jumpAbsolute := wc2_ite (tLc (readNext_wc s)) (gTc (read_wc s _))
theorem jumpIndirect_wc (s : PC) : wc2 s.jumpIndirect R = (s.wc R).jumpIndirect := wc2_ite (tLc (readNext_wc s)) (wc2_ite (wc_then (fun t => { t with hop := t.ad }) (fun _ => rfl) (tHc (readNext_wc s))) (wc2_ite (tLc (read_wc s _)) (gTc (read_wc s _))))
theorem callSubroutine_wc (s : PC) : wc2 s.callSubroutine R = (s.wc R).callSubroutine := wc2_ite (tLc (readNext_wc s)) (wc2_ite (read_wc s _) (wc2_ite (pushed_wc s _) (wc2_ite (pushed_wc s _) (gTc (read_wc s _)))))
theorem leaveSubroutine_wc (s : PC) : wc2 s.leaveSubroutine R = (s.wc R).leaveSubroutine := wc2_ite (read_wc s _) (wc2_ite (read_wc s _) (wc2_ite (tLc (pulled_wc s)) (wc2_ite (tHc (pulled_wc s)) (pLc (read_wc s _)))))
theorem leaveInterrupt_wc (s : PC) : wc2 s.leaveInterrupt R = (s.wc R).leaveInterrupt := wc2_ite (read_wc s _) (wc2_ite (read_wc s _) (wc2_ite (tDc (pulled_wc s)) (wc2_ite (tLc (pulled_wc s)) (gTc (pulled_wc s)))))
theorem pushByte_wc (s : PC) : wc2 s.pushByte R = (s.wc R).pushByte := by
  refine wc2_ite (read_wc s _) ?_
  have q : wc2 (s.perform.pushed s.perform.data) R = (s.wc R).perform.pushed (s.wc R).perform.data := by rw [pushed_wc, ← perform_wc]; rfl
  exact wc_then PC.finish (fun _ => rfl) q
theorem pullByte_wc (s : PC) : wc2 s.pullByte R = (s.wc R).pullByte := wc2_ite (read_wc s _) (wc2_ite (read_wc s _) (pLc (tDc (pulled_wc s))))
theorem enter_wc (s : PC) (v f : Int) : wc2 (s.enter v f) R = (s.wc R).enter v f := wc2_ite (pushed_wc s _) (wc2_ite (pushed_wc s _) (wc2_ite (pushed_wc s _) (wc2_ite (tLc (read_wc s _)) (gTc (read_wc s _)))))
theorem enterByBreak_wc (s : PC) : wc2 s.enterByBreak R = (s.wc R).enterByBreak := wc2_ite (readNext_wc s) (enter_wc s _ _)
theorem enterByIRQ_wc (s : PC) : wc2 s.enterByIRQ R = (s.wc R).enterByIRQ := wc2_ite (read_wc s _) (enter_wc s _ _)
theorem enterByNMI_wc (s : PC) : wc2 s.enterByNMI R = (s.wc R).enterByNMI := wc2_ite (read_wc s _) (enter_wc s _ _)
theorem doMode_wc (s : PC) (m : Nat) : wc2 (s.doMode m) R = (s.wc R).doMode m := by
  unfold PC.doMode
  split
  · exact implied_wc s
  · exact accumulator_wc s
  · exact immediate_wc s
  · exact zeroPage_wc s
  · exact zeroPageBy_wc s _
  · exact zeroPageBy_wc s _
  · exact absolute_wc s
  · exact absoluteBy_wc s _
  · exact absoluteBy_wc s _
  · exact indirectX_wc s
  · exact indirectY_wc s
  · exact relative_wc s
  · exact jumpAbsolute_wc s
  · exact jumpIndirect_wc s
  · exact callSubroutine_wc s
  · exact leaveSubroutine_wc s
  · exact pushByte_wc s
  · exact pullByte_wc s
  · exact enterByBreak_wc s
  · exact enterByNMI_wc s
  · exact enterByIRQ_wc s
  · exact leaveInterrupt_wc s
theorem begin_wc (s : PC) (i m : Int) : (s.begin_ i m).wc R = (s.wc R).begin_ i m := wc_ite rfl rfl
theorem fetch_wc (s : PC) (irq : Bool) : wc2 (s.fetch irq) R = (s.wc R).fetch irq := by
  have h := read_wc (R := R) s s.pc
  unfold PC.fetch
  rw [show (s.wc R).read (s.wc R).pc = wc2 (s.read s.pc) R from h.symm]
  refine wc2_ite ?_ (wc2_ite ?_ ?_)
  · exact Prod.ext (begin_wc _ _ _) rfl
  · exact Prod.ext (begin_wc _ _ _) rfl
  · exact Prod.ext (begin_wc _ _ _) rfl
theorem turn_wc (s : PC) (irq : Bool) : wc2 (s.turn irq) R = (s.wc R).turn irq :=
  wc2_ite (fetch_wc s irq) (wc2_ite (access_wc s) (wc2_ite (restore_wc s) (wc2_ite (change_wc s) (doMode_wc { s with step := IntKind.wrap .i64 (s.step + 1) } _))))
end
theorem turn_cyc (s : PC) (irq : Bool) : (s.turn irq).1.cyc = s.cyc := by
  have q := turn_wc (R := s.cyc) s irq
  have e : s.wc s.cyc = s := rfl
  rw [e] at q
  have h := congrArg (fun r => r.1.cyc) q
  exact h.symm
theorem tick_cyc (s : PC) : s.tick.cyc = s.cyc := by
  unfold PC.tick
  repeat' split
  all_goals rfl
theorem cycle_cyc (s : PC) (n i : Bool) : (s.cycle n i).1.cyc = IntKind.wrap .i64 (s.cyc + 1) := by
  rw [pc_cycle]
  have e : (((s.pins n).turn i).1.ends ((s.pins n).turn i).2).cyc = s.cyc := by
    unfold PC.ends
    split
    · rw [tick_cyc, turn_cyc]; rfl
    · rw [turn_cyc]; rfl
  show IntKind.wrap .i64 ((((s.pins n).turn i).1.ends ((s.pins n).turn i).2).cyc + 1) = _
  rw [e]

/-- The stub's computer is P, run for n cycles by itself; nothing waits, and no pin is held. -/
structure Lk (P : PC) (S : SB) (n : Nat) : Prop where
  pa : S.pa = []
  nm : S.nmi = false
  iq : S.irq = false
  run : S.pc = P.runN n
  cyc : S.pc.cyc = n
  ok : ∀ k, k < n → (P.runN k).st ≠ 5
theorem settled_nil (m : Nat → Int) : settled m [] = m := rfl
theorem Lk.cyc1 {P : PC} {S : SB} {n : Nat} (h : Lk P S n) (h5 : S.pc.st ≠ 5) (hn : n < 1000000) : Lk P S.cyc1.1 (n + 1) := by
  have e0 : S.ran.1.pa = [] := h.pa
  have e1 : S.ran.1.settle.pc = S.ran.1.pc ∧ S.ran.1.settle.pa = [] ∧ S.ran.1.settle.nmi = false ∧ S.ran.1.settle.irq = false := by
    unfold SB.settle
    split
    · rw [e0]; exact ⟨rfl, rfl, h.nm, h.iq⟩
    · exact ⟨rfl, e0, h.nm, h.iq⟩
  have e2 : S.ran.1.pc = (S.pc.cycle false false).1 := by
    show (S.pc.cycle S.nmi S.irq).1 = _
    rw [h.nm, h.iq]
  have e3 : S.cyc1.1.pc = (S.pc.cycle false false).1 := e1.1.trans e2
  have h5' : (P.runN n).st ≠ 5 := by rw [← h.run]; exact h5
  refine ⟨e1.2.1, e1.2.2.1, e1.2.2.2, ?_, ?_, fun k hk => ?_⟩
  · rw [e3, h.run]
    show _ = (cycV (P.runN n) false false).1
    rw [go_on _ h5']
  · rw [e3, cycle_cyc, h.cyc, show ((n : Int) + 1) = ((n + 1 : Nat) : Int) from by omega, wrap_i64_nat _ (by omega)]
  · rcases Nat.lt_succ_iff_lt_or_eq.1 hk with hk | rfl
    · exact h.ok k hk
    · exact h5'
theorem Lk.go {P : PC} (f : Nat) : ∀ {S : SB} {n : Nat} (l : Int) (wh : Bool) (c : Int), Lk P S n → n + f < 1000000 → ∃ m, m ≤ n + f ∧ Lk P (S.go f l wh c).1 m := by
  induction f with
  | zero => intro S n l wh c h _; exact ⟨n, by omega, h⟩
  | succ f ih =>
    intro S n l wh c h hn
    rw [SB.go]
    cases hL : S.look l c with
    | some why => exact ⟨n, by omega, h⟩
    | none =>
      have h5 : S.pc.st ≠ 5 := by
        intro e
        unfold SB.look at hL
        split at hL
        · cases hL
        · split at hL
          · cases hL
          · cases hL
      have h1 := h.cyc1 h5 (by omega)
      show ∃ m, m ≤ n + (f + 1) ∧ Lk P (if S.cyc1.1.wp.has S.cyc1.2.addr = true then (S.cyc1.1, tellI 2 (c + 1)) else SB.go f S.cyc1.1 (if wh = false ∨ S.cyc1.1.pc.betw = true then l - 1 else l) wh (c + 1)).1 m
      split
      · exact ⟨n + 1, by omega, h1⟩
      · obtain ⟨m, hm, q⟩ := ih (if wh = false ∨ S.cyc1.1.pc.betw = true then l - 1 else l) wh (c + 1) h1 (by omega)
        exact ⟨m, by omega, q⟩

/-- The commands that are given. -/
def lookT : List (List UInt8) := [[103], [109, 48, 52, 48, 48, 50, 48], [115, 48, 48, 48, 49], [115, 48, 48, 48, 55], [105, 48, 48, 48, 49], [105, 48, 48, 48, 51], [109, 100, 48, 48, 48, 48, 52], [116, 49], [113], [116, 48]]
theorem doI_num (S : SB) (c : UInt8) (a b d e : UInt8) (x y : UInt8) (hx : hexB [a, b, d, e] = some [x, y]) : S.doI [c, a, b, d, e] = S.doW c (nums [x, y]) [] := by
  unfold SB.doI
  rw [if_neg (by simp), if_neg (by simp), if_neg (by simp), if_neg (by simp), if_neg (by simp), if_neg (by simp), if_neg (by simp), if_neg (by simp), if_neg (by simp)]
  show (match hexB [a, b, d, e] with | none => _ | some l => _) = _
  rw [hx]
  rfl
theorem doI_mem (S : SB) (a b d e f g : UInt8) (x y z : UInt8) (hx : hexB [a, b, d, e, f, g] = some [x, y, z]) : (S.doI [109, a, b, d, e, f, g]).1 = S := by
  unfold SB.doI
  rw [if_neg (by simp), if_neg (by simp), if_neg (by simp), if_neg (by simp), if_neg (by simp), if_neg (by simp), if_neg (by simp), if_neg (by simp), if_neg (by simp)]
  show (match hexB [a, b, d, e, f, g] with | none => _ | some l => _ : SB × List UInt8).1 = _
  rw [hx]
  rfl
theorem doW_s (S : SB) (n : Int) : S.doW 115 n [] = S.go (10 * n.toNat + 9) n false 0 := rfl
theorem doW_i (S : SB) (n : Int) (h : n ≤ 4095) : S.doW 105 n [] = S.go (10 * n.toNat + 9) n true 0 := by
  show S.goIns n = _
  unfold SB.goIns
  rw [if_neg (by omega)]
theorem nums_1 : nums [0, 1] = 1 := by decide
theorem nums_3 : nums [0, 3] = 3 := by decide
theorem nums_7 : nums [0, 7] = 7 := by decide
theorem Lk.doI {P : PC} {S : SB} {n : Nat} (h : Lk P S n) (hn : n < 100000) (t : List UInt8) (ht : t ∈ lookT) : ∃ m, m ≤ n + 100 ∧ Lk P (S.doI t).1 m := by
  unfold lookT at ht
  simp only [List.mem_cons, List.not_mem_nil, or_false] at ht
  rcases ht with rfl | rfl | rfl | rfl | rfl | rfl | rfl | rfl | rfl | rfl
  · exact ⟨n, by omega, h⟩
  · rw [doI_mem S 48 52 48 48 50 48 4 0 32 (by decide)]; exact ⟨n, by omega, h⟩
  · rw [doI_num S 115 48 48 48 49 0 1 (by decide), nums_1, doW_s]
    obtain ⟨m, hm, q⟩ := h.go (10 * (1 : Int).toNat + 9) 1 false 0 (by show n + 19 < 1000000; omega)
    have hm : m ≤ n + 19 := hm
    exact ⟨m, by omega, q⟩
  · rw [doI_num S 115 48 48 48 55 0 7 (by decide), nums_7, doW_s]
    obtain ⟨m, hm, q⟩ := h.go (10 * (7 : Int).toNat + 9) 7 false 0 (by show n + 79 < 1000000; omega)
    have hm : m ≤ n + 79 := hm
    exact ⟨m, by omega, q⟩
  · rw [doI_num S 105 48 48 48 49 0 1 (by decide), nums_1, doW_i _ _ (by decide)]
    obtain ⟨m, hm, q⟩ := h.go (10 * (1 : Int).toNat + 9) 1 true 0 (by show n + 19 < 1000000; omega)
    have hm : m ≤ n + 19 := hm
    exact ⟨m, by omega, q⟩
  · rw [doI_num S 105 48 48 48 51 0 3 (by decide), nums_3, doW_i _ _ (by decide)]
    obtain ⟨m, hm, q⟩ := h.go (10 * (3 : Int).toNat + 9) 3 true 0 (by show n + 39 < 1000000; omega)
    have hm : m ≤ n + 39 := hm
    exact ⟨m, by omega, q⟩
  · rw [doI_mem S 100 48 48 48 48 52 208 0 4 (by decide)]; exact ⟨n, by omega, h⟩
  · exact ⟨n, by omega, ⟨h.pa, h.nm, h.iq, h.run, h.cyc, h.ok⟩⟩
  · exact ⟨n, by omega, ⟨h.pa, h.nm, h.iq, h.run, h.cyc, h.ok⟩⟩
  · exact ⟨n, by omega, ⟨h.pa, h.nm, h.iq, h.run, h.cyc, h.ok⟩⟩
theorem Lk.ans {P : PC} {S : SB} {n : Nat} (h : Lk P S n) (hn : n < 100000) (t : List UInt8) (ht : t ∈ lookT) : ∃ m, m ≤ n + 100 ∧ Lk P (S.ans ⟨S.due.toNat, t, false⟩).1 m := by
  obtain ⟨m, hm, q⟩ := h.doI hn t ht
  rw [ans_due]
  exact ⟨m, hm, ⟨q.pa, q.nm, q.iq, q.run, q.cyc, q.ok⟩⟩

end Go.Proofs.YtcgjliflnnklnabGreat
