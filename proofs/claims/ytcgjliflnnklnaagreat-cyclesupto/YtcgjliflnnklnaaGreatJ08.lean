/-
  Joined texts.
-/
import Derived.Test.YtcgjliflnnklnaaGreatJ02
namespace Go.Proofs.YtcgjliflnnklnaaGreat
open Go.RowKit

/-
  Ways back (RTS, RTI): each cycle of the program is the document's.
-/
section
theorem back_ok (i : Nat) (hi : i < 56) : (okPair i 16 = true → i = 42) ∧ (okPair i 22 = true → i = 41) := by
  have : ∀ i : Fin 56, (okPair i.val 16 = true → i.val = 42) ∧ (okPair i.val 22 = true → i.val = 41) := by decide +kernel
  exact this ⟨i, hi⟩

/-- In the midst of a way back; m: 16 (RTS), 22 (RTI). -/
inductive MidO (s : PC) (r : RG) : Nat → List Int → Prop
  | two {m : Nat} {b0 b1 : Int} : s.st = 1 → s.step = 1 → s.s = r.S → MidO s r m [b0, b1]
  | three {m : Nat} {b0 b1 c : Int} : s.st = 1 → s.step = 2 → s.s = r.S → MidO s r m [b0, b1, c]
  | rts4 {b0 b1 c d : Int} : s.st = 1 → s.step = 3 → s.s = (r.S + 1) % 256 → s.ad = d → MidO s r 16 [b0, b1, c, d]
  | rts5 {b0 b1 c d e : Int} : s.st = 1 → s.step = 4 → s.s = (r.S + 2) % 256 → s.ad = d + 256 * e → MidO s r 16 [b0, b1, c, d, e]
  | rti4 {b0 b1 c d : Int} : s.st = 1 → s.step = 3 → s.s = (r.S + 1) % 256 → s.data = d → MidO s r 22 [b0, b1, c, d]
  | rti5 {b0 b1 c d e : Int} : s.st = 1 → s.step = 4 → s.s = (r.S + 2) % 256 → s.data = d → s.ad = e → MidO s r 22 [b0, b1, c, d, e]

def bi (m : Nat) : Nat := if m = 16 then 42 else 41

theorem one_back (s : PC) (r : RG) (m : Nat) (b0 : Int) (irq : Bool) (hm : m = 16 ∨ m = 22) (hL : Live s r (bi m) m) (hst : s.st = 1) (hstep : s.step = 0) (hS : s.s = r.S) (hpc : s.pc = (r.PC + 1) % 65536) :
    Good (fun s h => MidO s r m h) s (s.turn irq).1 (s.turn irq).2 r (bi m) m (insName (bi m)) (modeName m) [b0] := by
  obtain ⟨g1, g2, g3, -, -⟩ := g_read s 1 s.pc
  have e : s.turn irq = ({ s with step := 1 } : PC).read s.pc := by
    rw [turn_mode s irq m 0 hst hL.md hstep, w1]; rcases hm with rfl | rfl <;> rfl
  have hmore : (nextR (insName (bi m)) (modeName m) r ([b0] ++ [(({ s with step := 1 } : PC).read s.pc).2.data])).2 = true := by rcases hm with rfl | rfl <;> rfl
  have hn : nextR (insName (bi m)) (modeName m) r [b0] = rdR (r.PC + 1) := by rcases hm with rfl | rfl <;> rfl
  rw [e]
  unfold Good
  rw [hn, bus_rd s s.pc (r.PC + 1) hpc.symm]
  exact ⟨g1.bus, g1.out, .inl ⟨hmore, g1.live hL, fun q hq => g1.beh q hq, .two (g2.trans hst) g3 (g1.sp.trans hS)⟩⟩

theorem two_back (s : PC) (r : RG) (m : Nat) (b0 b1 : Int) (irq : Bool) (hm : m = 16 ∨ m = 22) (hL : Live s r (bi m) m) (hR : Rg r) (hst : s.st = 1) (hstep : s.step = 1) (hS : s.s = r.S) :
    Good (fun s h => MidO s r m h) s (s.turn irq).1 (s.turn irq).2 r (bi m) m (insName (bi m)) (modeName m) [b0, b1] := by
  obtain ⟨g1, g2, g3, -, -⟩ := g_read s 2 (256 + r.S)
  have e : s.turn irq = ({ s with step := 2 } : PC).read (256 + r.S) := by
    rw [turn_mode s irq m 1 hst hL.md hstep, w2, ← hS]; rcases hm with rfl | rfl <;> rfl
  have hmore : (nextR (insName (bi m)) (modeName m) r ([b0, b1] ++ [(({ s with step := 2 } : PC).read (256 + r.S)).2.data])).2 = true := by rcases hm with rfl | rfl <;> rfl
  have hn : nextR (insName (bi m)) (modeName m) r [b0, b1] = rdR (256 + (r.S + 2 - 2) % 256) := by rcases hm with rfl | rfl <;> rfl
  rw [e]
  unfold Good
  rw [hn, bus_rd s (256 + r.S) _ (by have := hR.S; omega)]
  exact ⟨g1.bus, g1.out, .inl ⟨hmore, g1.live hL, fun q hq => g1.beh q hq, .three (g2.trans hst) g3 (g1.sp.trans hS)⟩⟩

/-- RTS: the lower byte. -/
theorem rts_3 (s : PC) (r : RG) (b0 b1 c : Int) (irq : Bool) (hL : Live s r 42 16) (hB : Bytes_ s) (hst : s.st = 1) (hstep : s.step = 2) (hS : s.s = r.S) :
    Good (fun s h => MidO s r 16 h) s (s.turn irq).1 (s.turn irq).2 r 42 16 (insName 42) (modeName 16) [b0, b1, c] := by
  have ha : 0 ≤ 256 + (r.S + 1) % 256 ∧ 256 + (r.S + 1) % 256 < 65536 := by omega
  obtain ⟨g1, g2, g3, g4, -, -⟩ := g_lowAt ({ s with s := (r.S + 1) % 256 } : PC) 3 1 (256 + (r.S + 1) % 256) hB ha
  have e : s.turn irq = takeLow (({ ({ s with s := (r.S + 1) % 256 } : PC) with step := 3, st := 1 } : PC).read (256 + (r.S + 1) % 256)) := by
    rw [turn_mode s irq 16 2 hst hL.md hstep, w3, step_st s 3 hst, ← hS]; rfl
  rw [e]
  refine Good.of (t := ({ s with s := (r.S + 1) % 256 } : PC)) ⟨rfl, rfl, rfl, rfl, rfl, rfl, rfl⟩ (fun q hq => ⟨hq.a, hq.x, hq.y, hq.sp, hq.p, hq.pc⟩) ?_
  unfold Good
  rw [show nextR (insName 42) (modeName 16) r [b0, b1, c] = rdR (256 + (r.S + 3 - 2) % 256) from rfl, bus_rd _ (256 + (r.S + 1) % 256) _ (by omega)]
  exact ⟨g1.bus, g1.out, .inl ⟨rfl, g1.live ⟨hL.a, hL.x, hL.y, hL.p, hL.ins, hL.md⟩, fun q hq => g1.beh q hq, .rts4 g2 g3 g1.sp g4⟩⟩

/-- RTS: the higher one. -/
theorem rts_4 (s : PC) (r : RG) (b0 b1 c d : Int) (irq : Bool) (hL : Live s r 42 16) (hB : Bytes_ s) (hd : 0 ≤ d ∧ d < 256) (hst : s.st = 1) (hstep : s.step = 3) (hS : s.s = (r.S + 1) % 256) (had : s.ad = d) :
    Good (fun s h => MidO s r 16 h) s (s.turn irq).1 (s.turn irq).2 r 42 16 (insName 42) (modeName 16) [b0, b1, c, d] := by
  have hs2 : (s.s + 1) % 256 = (r.S + 2) % 256 := by rw [hS]; omega
  have ha : 0 ≤ 256 + (r.S + 2) % 256 ∧ 256 + (r.S + 2) % 256 < 65536 := by omega
  obtain ⟨g1, g2, g3, g4, -⟩ := g_highAt ({ s with s := (r.S + 2) % 256 } : PC) 4 1 (256 + (r.S + 2) % 256) hB ha (by show 0 ≤ s.ad ∧ s.ad < 256; rw [had]; exact hd)
  have e : s.turn irq = takeHigh (({ ({ s with s := (r.S + 2) % 256 } : PC) with step := 4, st := 1 } : PC).read (256 + (r.S + 2) % 256)) := by
    rw [turn_mode s irq 16 3 hst hL.md hstep, w4, step_st s 4 hst, ← hs2]; rfl
  rw [e]
  refine Good.of (t := ({ s with s := (r.S + 2) % 256 } : PC)) ⟨rfl, rfl, rfl, rfl, rfl, rfl, rfl⟩ (fun q hq => ⟨hq.a, hq.x, hq.y, hq.sp, hq.p, hq.pc⟩) ?_
  unfold Good
  rw [show nextR (insName 42) (modeName 16) r [b0, b1, c, d] = rdR (256 + (r.S + 4 - 2) % 256) from rfl, bus_rd _ (256 + (r.S + 2) % 256) _ (by omega)]
  refine ⟨g1.bus, g1.out, .inl ⟨rfl, g1.live ⟨hL.a, hL.x, hL.y, hL.p, hL.ins, hL.md⟩, fun q hq => g1.beh q hq, .rts5 g2 g3 g1.sp ?_⟩⟩
  rw [g4]; show s.ad + 256 * _ = d + 256 * _; rw [had]; rfl

/-- RTS: done. -/
theorem rts_5 (s : PC) (r : RG) (b0 b1 c d f : Int) (irq : Bool) (hL : Live s r 42 16) (hd : 0 ≤ d ∧ d < 256) (hf : 0 ≤ f ∧ f < 256) (hst : s.st = 1) (hstep : s.step = 4) (hS : s.s = (r.S + 2) % 256) (had : s.ad = d + 256 * f) :
    Good (fun s h => MidO s r 16 h) s (s.turn irq).1 (s.turn irq).2 r 42 16 (insName 42) (modeName 16) [b0, b1, c, d, f] := by
  have ha : 0 ≤ s.ad ∧ s.ad < 65536 := by rw [had]; omega
  have K := read1_kept ({ s with step := 5 } : PC) s.ad
  have O := read1_outer ({ s with step := 5 } : PC) s s.ad ⟨rfl, rfl, rfl, rfl, rfl, rfl, rfl⟩
  have e : s.turn irq = ((({ s with step := 5 } : PC).read1 s.ad).performLast, (s.read s.ad).2) := by rw [turn_mode s irq 16 4 hst hL.md hstep, w5]; rfl
  have tL : Live (({ s with step := 5 } : PC).read1 s.ad) r 42 16 := ⟨K.a.trans hL.a, K.x.trans hL.x, K.y.trans hL.y, K.p.trans hL.p, K.ins.trans hL.ins, K.md.trans hL.md⟩
  have ta : (({ s with step := 5 } : PC).read1 s.ad).ad = d + 256 * f := K.ad.trans had
  have tS : (({ s with step := 5 } : PC).read1 s.ad).s = (r.S + 2) % 256 := K.sp.trans hS
  have tO : Outer (({ s with step := 5 } : PC).read1 s.ad) (s.read s.ad).1 := O
  generalize ({ s with step := 5 } : PC).read1 s.ad = t at *
  have hn : t.ins.toNat = 42 := by rw [tL.ins]; rfl
  have q : t.performLast = ({ t with pc := (t.ad + 1) % 65536 } : PC).finish := by unfold PC.performLast PC.perform; rw [hn]; rfl
  have tp : (t.ad + 1) % 65536 = (d + 256 * f + 1) % 65536 := by rw [ta]
  rw [e, q]
  unfold Good
  rw [show nextR (insName 42) (modeName 16) r [b0, b1, c, d, f] = rdR (d + 256 * f) from rfl, bus_rd s s.ad _ (by rw [had]; omega)]
  exact ⟨rfl, ⟨tO.mem, tO.rom, tO.cnt, tO.calls, tO.on, tO.due, tO.cyc⟩, .inr ⟨rfl, ⟨rfl, ⟨tL.a, tL.x, tL.y, tS, tL.p, tp⟩, tL.a, tL.x, tL.y, tS, tL.p, tp⟩⟩⟩
end

/-
  RTI: each cycle of the program is the document's.
-/
section
theorem g_dataAt (s : PC) (k t a : Int) (hB : Bytes_ s) (ha : 0 ≤ a ∧ a < 65536) :
    Gath s (takeData (({ s with step := k, st := t } : PC).read a)).1 (takeData (({ s with step := k, st := t } : PC).read a)).2 a ∧ (takeData (({ s with step := k, st := t } : PC).read a)).1.st = t ∧ (takeData (({ s with step := k, st := t } : PC).read a)).1.step = k ∧
    (takeData (({ s with step := k, st := t } : PC).read a)).1.data = s.look a := by
  have hb := look_b hB a ha.2
  obtain ⟨g1, g2, g3⟩ := gath_of s k t a (({ s with step := k, st := t } : PC).read1 a).pc (({ s with step := k, st := t } : PC).read1 a).ad (({ s with step := k, st := t } : PC).read1 a).hop (s.look a % 256)
  refine ⟨g1, g2, g3, ?_⟩
  show s.look a % 256 = _; omega

theorem g_lowAt_data (s : PC) (k t a : Int) : (takeLow (({ s with step := k, st := t } : PC).read a)).1.data = s.data := (read1_kept ({ s with step := k, st := t } : PC) a).data

theorem rti_3 (s : PC) (r : RG) (b0 b1 c : Int) (irq : Bool) (hL : Live s r 41 22) (hB : Bytes_ s) (hst : s.st = 1) (hstep : s.step = 2) (hS : s.s = r.S) :
    Good (fun s h => MidO s r 22 h) s (s.turn irq).1 (s.turn irq).2 r 41 22 (insName 41) (modeName 22) [b0, b1, c] := by
  have ha : 0 ≤ 256 + (r.S + 1) % 256 ∧ 256 + (r.S + 1) % 256 < 65536 := by omega
  obtain ⟨g1, g2, g3, g4⟩ := g_dataAt ({ s with s := (r.S + 1) % 256 } : PC) 3 1 (256 + (r.S + 1) % 256) hB ha
  have e : s.turn irq = takeData (({ ({ s with s := (r.S + 1) % 256 } : PC) with step := 3, st := 1 } : PC).read (256 + (r.S + 1) % 256)) := by
    rw [turn_mode s irq 22 2 hst hL.md hstep, w3, step_st s 3 hst, ← hS]; rfl
  rw [e]
  refine Good.of (t := ({ s with s := (r.S + 1) % 256 } : PC)) ⟨rfl, rfl, rfl, rfl, rfl, rfl, rfl⟩ (fun q hq => ⟨hq.a, hq.x, hq.y, hq.sp, hq.p, hq.pc⟩) ?_
  unfold Good
  rw [show nextR (insName 41) (modeName 22) r [b0, b1, c] = rdR (256 + (r.S + 3 - 2) % 256) from rfl, bus_rd _ (256 + (r.S + 1) % 256) _ (by omega)]
  exact ⟨g1.bus, g1.out, .inl ⟨rfl, g1.live ⟨hL.a, hL.x, hL.y, hL.p, hL.ins, hL.md⟩, fun q hq => g1.beh q hq, .rti4 g2 g3 g1.sp g4⟩⟩

theorem rti_4 (s : PC) (r : RG) (b0 b1 c d : Int) (irq : Bool) (hL : Live s r 41 22) (hB : Bytes_ s) (hst : s.st = 1) (hstep : s.step = 3) (hS : s.s = (r.S + 1) % 256) (hd : s.data = d) :
    Good (fun s h => MidO s r 22 h) s (s.turn irq).1 (s.turn irq).2 r 41 22 (insName 41) (modeName 22) [b0, b1, c, d] := by
  have hs2 : (s.s + 1) % 256 = (r.S + 2) % 256 := by rw [hS]; omega
  have ha : 0 ≤ 256 + (r.S + 2) % 256 ∧ 256 + (r.S + 2) % 256 < 65536 := by omega
  obtain ⟨g1, g2, g3, g4, -, -⟩ := g_lowAt ({ s with s := (r.S + 2) % 256 } : PC) 4 1 (256 + (r.S + 2) % 256) hB ha
  have gd := g_lowAt_data ({ s with s := (r.S + 2) % 256 } : PC) 4 1 (256 + (r.S + 2) % 256)
  have e : s.turn irq = takeLow (({ ({ s with s := (r.S + 2) % 256 } : PC) with step := 4, st := 1 } : PC).read (256 + (r.S + 2) % 256)) := by
    rw [turn_mode s irq 22 3 hst hL.md hstep, w4, step_st s 4 hst, ← hs2]; rfl
  rw [e]
  refine Good.of (t := ({ s with s := (r.S + 2) % 256 } : PC)) ⟨rfl, rfl, rfl, rfl, rfl, rfl, rfl⟩ (fun q hq => ⟨hq.a, hq.x, hq.y, hq.sp, hq.p, hq.pc⟩) ?_
  unfold Good
  rw [show nextR (insName 41) (modeName 22) r [b0, b1, c, d] = rdR (256 + (r.S + 4 - 2) % 256) from rfl, bus_rd _ (256 + (r.S + 2) % 256) _ (by omega)]
  exact ⟨g1.bus, g1.out, .inl ⟨rfl, g1.live ⟨hL.a, hL.x, hL.y, hL.p, hL.ins, hL.md⟩, fun q hq => g1.beh q hq, .rti5 g2 g3 g1.sp (gd.trans hd) g4⟩⟩

theorem rti_5 (s : PC) (r : RG) (b0 b1 c d f : Int) (irq : Bool) (hL : Live s r 41 22) (hB : Bytes_ s) (hdb : 0 ≤ d ∧ d < 256) (hf : 0 ≤ f ∧ f < 256) (hst : s.st = 1) (hstep : s.step = 4) (hS : s.s = (r.S + 2) % 256) (hd : s.data = d) (had : s.ad = f) :
    Good (fun s h => MidO s r 22 h) s (s.turn irq).1 (s.turn irq).2 r 41 22 (insName 41) (modeName 22) [b0, b1, c, d, f] := by
  have hs3 : (s.s + 1) % 256 = (r.S + 3) % 256 := by rw [hS]; omega
  have ha : 0 ≤ 256 + (r.S + 3) % 256 ∧ 256 + (r.S + 3) % 256 < 65536 := by omega
  have hb := look_b hB _ ha.2
  have K := read1_kept ({ s with step := 5, s := (r.S + 3) % 256 } : PC) (256 + (r.S + 3) % 256)
  have O := read1_outer ({ s with step := 5, s := (r.S + 3) % 256 } : PC) s (256 + (r.S + 3) % 256) ⟨rfl, rfl, rfl, rfl, rfl, rfl, rfl⟩
  have hj : joinI (loI (({ s with step := 5, s := (r.S + 3) % 256 } : PC).read1 (256 + (r.S + 3) % 256)).ad) (s.look (256 + (r.S + 3) % 256) % 256) = f + 256 * s.look (256 + (r.S + 3) % 256) := by
    rw [K.ad]; unfold joinI loI; show s.look (256 + (r.S + 3) % 256) % 256 * 256 + s.ad % 256 = _; rw [had]; omega
  obtain ⟨t, e, tL, tS, td, ta, tO⟩ : ∃ t : PC, s.turn irq = (t.performLast, (s.read (256 + (r.S + 3) % 256)).2) ∧ Live t r 41 22 ∧ t.s = (r.S + 3) % 256 ∧ t.data = d ∧ t.ad = f + 256 * s.look (256 + (r.S + 3) % 256) ∧ Outer t (s.read (256 + (r.S + 3) % 256)).1 := by
    refine ⟨({ (({ s with step := 5, s := (r.S + 3) % 256 } : PC).read1 (256 + (r.S + 3) % 256)) with ad := joinI (loI (({ s with step := 5, s := (r.S + 3) % 256 } : PC).read1 (256 + (r.S + 3) % 256)).ad) (s.look (256 + (r.S + 3) % 256) % 256) } : PC), ?_, ⟨K.a.trans hL.a, K.x.trans hL.x, K.y.trans hL.y, K.p.trans hL.p, K.ins.trans hL.ins, K.md.trans hL.md⟩, K.sp, K.data.trans hd, hj, ⟨O.mem, O.rom, O.cnt, O.calls, O.on, O.due, O.cyc⟩⟩
    rw [turn_mode s irq 22 4 hst hL.md hstep, w5, ← hs3]; rfl
  have hn : t.ins.toNat = 41 := by rw [tL.ins]; rfl
  have q : t.performLast = ({ t with p := i64or (i64and d 207) 32, pc := t.ad } : PC).finish := by
    unfold PC.performLast PC.perform; rw [hn]
    show ({ t with p := setpI t.data, pc := t.ad } : PC).finish = _
    rw [td, setp_eq d hdb.1 hdb.2]
  rw [e, q]
  unfold Good
  rw [show nextR (insName 41) (modeName 22) r [b0, b1, c, d, f] = rdR (256 + (r.S + 5 - 2) % 256) from rfl, bus_rd s (256 + (r.S + 3) % 256) _ (by omega)]
  exact ⟨rfl, ⟨tO.mem, tO.rom, tO.cnt, tO.calls, tO.on, tO.due, tO.cyc⟩, .inr ⟨rfl, ⟨rfl, ⟨tL.a, tL.x, tL.y, tS, rfl, ta⟩, tL.a, tL.x, tL.y, tS, rfl, ta⟩⟩⟩
end

/-
  JSR: each cycle of the program is the document's.
-/
section
/-- What a push leaves. -/
structure Push (s s' : PC) (b : BusI) (a v k : Int) : Prop where
  bus : b = (s.write a v).2
  out : Outer s' (s.write a v).1
  a : s'.a = s.a
  x : s'.x = s.x
  y : s'.y = s.y
  p : s'.p = s.p
  pc : s'.pc = s.pc
  ins : s'.ins = s.ins
  md : s'.md = s.md
  st : s'.st = s.st
  step : s'.step = k
  ad : s'.ad = s.ad
  sp : s'.s = (s.s - 1) % 256
  beh : ∀ q, Beh s q → Beh s' q

theorem g_push (s : PC) (k v a : Int) (ha : joinI s.s 1 = a) : Push s (({ s with step := k } : PC).pushed v).1 (({ s with step := k } : PC).pushed v).2 a v k := by
  subst ha
  obtain ⟨-, w2⟩ := write_outer ({ s with step := k } : PC) s (joinI s.s 1) v ⟨rfl, rfl, rfl, rfl, rfl, rfl, rfl⟩
  obtain ⟨u, hu, u1, u2, u3, u4, u5, u6, u7, u8, u9, u10, u11, u12, u13, u14, u15, u16, u17, -⟩ := write_keeps ({ s with step := k } : PC) (joinI s.s 1) v
  have e : ({ s with step := k } : PC).pushed v = ({ u with s := (u.s - 1) % 256 }, (s.write (joinI s.s 1) v).2) := by
    show ({ (({ s with step := k } : PC).write (joinI s.s 1) v).1 with s := ((({ s with step := k } : PC).write (joinI s.s 1) v).1.s - 1) % 256 }, (s.write (joinI s.s 1) v).2) = _
    rw [hu]
  rw [hu] at w2
  rw [e]
  exact ⟨rfl, ⟨w2.mem, w2.rom, w2.cnt, w2.calls, w2.on, w2.due, w2.cyc⟩, u1, u2, u3, u5, u6, u14, u15, u13, u16, u17, by show (u.s - 1) % 256 = _; rw [u4], fun q hq => ⟨u7.trans hq.a, u8.trans hq.x, u9.trans hq.y, u10.trans hq.sp, u11.trans hq.p, u12.trans hq.pc⟩⟩

theorem Push.live {s s' : PC} {b : BusI} {a v k : Int} (h : Push s s' b a v k) {r : RG} {i m : Nat} (hL : Live s r i m) : Live s' r i m :=
  ⟨h.a.trans hL.a, h.x.trans hL.x, h.y.trans hL.y, h.p.trans hL.p, h.ins.trans hL.ins, h.md.trans hL.md⟩
theorem bus_wr (s : PC) (a x v : Int) (hx : x % 65536 = a) : s.busOf (wrR x v).1 = s.write a v := by
  unfold PC.busOf wrR; simp only [hx]; rfl

inductive MidS (s : PC) (r : RG) : List Int → Prop
  | two {b0 b1 : Int} : s.st = 1 → s.step = 1 → s.ad = b1 → s.s = r.S → s.pc = (r.PC + 2) % 65536 → MidS s r [b0, b1]
  | three {b0 b1 c : Int} : s.st = 1 → s.step = 2 → s.ad = b1 → s.s = r.S → s.pc = (r.PC + 2) % 65536 → MidS s r [b0, b1, c]
  | four {b0 b1 c d : Int} : s.st = 1 → s.step = 3 → s.ad = b1 → s.s = (r.S - 1) % 256 → s.pc = (r.PC + 2) % 65536 → MidS s r [b0, b1, c, d]
  | five {b0 b1 c d f : Int} : s.st = 1 → s.step = 4 → s.ad = b1 → s.s = (r.S - 2) % 256 → s.pc = (r.PC + 2) % 65536 → MidS s r [b0, b1, c, d, f]

theorem jsr_1 (s : PC) (r : RG) (b0 : Int) (irq : Bool) (hL : Live s r 28 15) (hR : Rg r) (hB : Bytes_ s) (hst : s.st = 1) (hstep : s.step = 0) (hS : s.s = r.S) (hpc : s.pc = (r.PC + 1) % 65536) :
    Good (fun s h => MidS s r h) s (s.turn irq).1 (s.turn irq).2 r 28 15 (insName 28) (modeName 15) [b0] := by
  have hp : 0 ≤ s.pc ∧ s.pc < 65536 := by rw [hpc]; omega
  obtain ⟨g1, g2, g3, g4, g5⟩ := g_low s 1 1 hB hp
  have e : s.turn irq = takeLow ({ s with step := 1, st := 1 } : PC).readNext := by rw [turn_mode s irq 15 0 hst hL.md hstep, w1, step_st s 1 hst]; rfl
  rw [e]
  unfold Good
  rw [show nextR (insName 28) (modeName 15) r [b0] = rdR (r.PC + 1) from rfl, bus_rd s s.pc (r.PC + 1) hpc.symm]
  refine ⟨g1.bus, g1.out, .inl ⟨rfl, g1.live hL, fun q hq => g1.beh q hq, .two g2 g3 g4 (g1.sp.trans hS) ?_⟩⟩
  rw [g5, hpc]; have := hR.PC; omega
theorem jsr_2 (s : PC) (r : RG) (b0 b1 : Int) (irq : Bool) (hL : Live s r 28 15) (hR : Rg r) (hst : s.st = 1) (hstep : s.step = 1) (had : s.ad = b1) (hS : s.s = r.S) (hpc : s.pc = (r.PC + 2) % 65536) :
    Good (fun s h => MidS s r h) s (s.turn irq).1 (s.turn irq).2 r 28 15 (insName 28) (modeName 15) [b0, b1] := by
  obtain ⟨g1, g2, g3, g4, g5⟩ := g_read s 2 (256 + r.S)
  have e : s.turn irq = ({ s with step := 2 } : PC).read (256 + r.S) := by rw [turn_mode s irq 15 1 hst hL.md hstep, w2, ← hS]; rfl
  rw [e]
  unfold Good
  rw [show nextR (insName 28) (modeName 15) r [b0, b1] = rdR (256 + r.S) from rfl, bus_rd s (256 + r.S) _ (by have := hR.S; omega)]
  exact ⟨g1.bus, g1.out, .inl ⟨rfl, g1.live hL, fun q hq => g1.beh q hq, .three (g2.trans hst) g3 (g5.trans had) (g1.sp.trans hS) (g4.trans hpc)⟩⟩
theorem jsr_3 (s : PC) (r : RG) (b0 b1 c : Int) (irq : Bool) (hL : Live s r 28 15) (hR : Rg r) (hst : s.st = 1) (hstep : s.step = 2) (had : s.ad = b1) (hS : s.s = r.S) (hpc : s.pc = (r.PC + 2) % 65536) :
    Good (fun s h => MidS s r h) s (s.turn irq).1 (s.turn irq).2 r 28 15 (insName 28) (modeName 15) [b0, b1, c] := by
  have g := g_push s 3 ((r.PC + 2) % 65536 / 256) (256 + r.S) (by rw [hS]; rfl)
  have e : s.turn irq = ({ s with step := 3 } : PC).pushed ((r.PC + 2) % 65536 / 256) := by rw [turn_mode s irq 15 2 hst hL.md hstep, w3, ← hpc]; rfl
  rw [e]
  unfold Good
  rw [show nextR (insName 28) (modeName 15) r [b0, b1, c] = wrR (256 + r.S) ((r.PC + 1 + 1) % 65536 / 256) from rfl, show r.PC + 1 + 1 = r.PC + 2 from by omega, bus_wr s (256 + r.S) _ _ (by have := hR.S; omega)]
  exact ⟨g.bus, g.out, .inl ⟨rfl, g.live hL, g.beh, .four (g.st.trans hst) g.step (g.ad.trans had) (by rw [g.sp, hS]) (g.pc.trans hpc)⟩⟩
theorem jsr_4 (s : PC) (r : RG) (b0 b1 c d : Int) (irq : Bool) (hL : Live s r 28 15) (hst : s.st = 1) (hstep : s.step = 3) (had : s.ad = b1) (hS : s.s = (r.S - 1) % 256) (hpc : s.pc = (r.PC + 2) % 65536) :
    Good (fun s h => MidS s r h) s (s.turn irq).1 (s.turn irq).2 r 28 15 (insName 28) (modeName 15) [b0, b1, c, d] := by
  have g := g_push s 4 ((r.PC + 2) % 65536 % 256) (256 + (r.S - 1) % 256) (by rw [hS]; rfl)
  have e : s.turn irq = ({ s with step := 4 } : PC).pushed ((r.PC + 2) % 65536 % 256) := by rw [turn_mode s irq 15 3 hst hL.md hstep, w4, ← hpc]; rfl
  rw [e]
  unfold Good
  rw [show nextR (insName 28) (modeName 15) r [b0, b1, c, d] = wrR (256 + (r.S - 1) % 256) ((r.PC + 1 + 1) % 256) from rfl, show (r.PC + 1 + 1) % 256 = (r.PC + 2) % 65536 % 256 from by omega, bus_wr s (256 + (r.S - 1) % 256) _ _ (by omega)]
  exact ⟨g.bus, g.out, .inl ⟨rfl, g.live hL, g.beh, .five (g.st.trans hst) g.step (g.ad.trans had) (by rw [g.sp, hS]; omega) (g.pc.trans hpc)⟩⟩
end

/-
  JSR's last cycle; BRK, NMI and IRQ: each cycle of the program is the document's.
-/
section
/-- Where a jump ends: the higher byte comes. -/
theorem fin_go (s : PC) (r r' : RG) (i m : Nat) (k a : Int) (f : Int → Int) (hdo : ∀ t : PC, t.doIns i = { t with pc := t.ad, p := f t.p }) (hL : Live s r i m) (hA : r'.A = r.A) (hX : r'.X = r.X) (hY : r'.Y = r.Y) (hS : s.s = r'.S) (hP : f r.P = r'.P) (hB : Bytes_ s) (ha : 0 ≤ a ∧ a < 65536) (had : 0 ≤ s.ad ∧ s.ad < 256) (hpc : r'.PC = s.ad + 256 * s.look a) :
    (goThere (({ s with step := k } : PC).read a)).2 = (s.read a).2 ∧ Outer (goThere (({ s with step := k } : PC).read a)).1 (s.read a).1 ∧ Fin_ (goThere (({ s with step := k } : PC).read a)).1 r' := by
  have hb := look_b hB a ha.2
  have K := read1_kept ({ s with step := k } : PC) a
  have O := read1_outer ({ s with step := k } : PC) s a ⟨rfl, rfl, rfl, rfl, rfl, rfl, rfl⟩
  have hn : (({ s with step := k } : PC).read1 a).ins.toNat = i := by rw [K.ins]; show s.ins.toNat = i; rw [hL.ins]; rfl
  have hj : joinI (loI (({ s with step := k } : PC).read1 a).ad) (s.look a % 256) = s.ad + 256 * s.look a := by
    rw [K.ad]; unfold joinI loI; show s.look a % 256 * 256 + s.ad % 256 = _; omega
  have e : (goThere (({ s with step := k } : PC).read a)).1 = ({ ({ (({ s with step := k } : PC).read1 a) with ad := s.ad + 256 * s.look a } : PC) with pc := s.ad + 256 * s.look a, p := f (({ s with step := k } : PC).read1 a).p } : PC).finish := by
    show ({ (({ s with step := k } : PC).read1 a) with ad := joinI (loI (({ s with step := k } : PC).read1 a).ad) (s.look a % 256) } : PC).performLast = _
    rw [hj]
    unfold PC.performLast PC.perform
    show (({ (({ s with step := k } : PC).read1 a) with ad := s.ad + 256 * s.look a } : PC).doIns (({ s with step := k } : PC).read1 a).ins.toNat).finish = _
    rw [hn, hdo]
  have qp : f (({ s with step := k } : PC).read1 a).p = r'.P := by rw [K.p, ← hP]; show f s.p = _; rw [hL.p]
  have qa := (K.a.trans hL.a).trans hA.symm
  have qx := (K.x.trans hL.x).trans hX.symm
  have qy := (K.y.trans hL.y).trans hY.symm
  have qs := K.sp.trans hS
  rw [e]
  exact ⟨rfl, ⟨O.mem, O.rom, O.cnt, O.calls, O.on, O.due, O.cyc⟩, ⟨rfl, ⟨qa, qx, qy, qs, qp, hpc.symm⟩, qa, qx, qy, qs, qp, hpc.symm⟩⟩

theorem jsr_5 (s : PC) (r : RG) (b0 b1 c d f : Int) (irq : Bool) (hL : Live s r 28 15) (hB : Bytes_ s) (hb1 : 0 ≤ b1 ∧ b1 < 256) (hst : s.st = 1) (hstep : s.step = 4) (had : s.ad = b1) (hS : s.s = (r.S - 2) % 256) (hpc : s.pc = (r.PC + 2) % 65536) :
    Good (fun s h => MidS s r h) s (s.turn irq).1 (s.turn irq).2 r 28 15 (insName 28) (modeName 15) [b0, b1, c, d, f] := by
  subst had
  have hp : 0 ≤ s.pc ∧ s.pc < 65536 := by rw [hpc]; omega
  obtain ⟨f1, f2, f3⟩ := fin_go s r { r with S := (r.S - 2) % 256, PC := s.ad + 256 * s.look s.pc } 28 15 5 s.pc (fun p => p) (fun _ => rfl) hL rfl rfl rfl hS rfl hB hp hb1 rfl
  have e : s.turn irq = goThere (({ s with step := 5 } : PC).read s.pc) := by rw [turn_mode s irq 15 4 hst hL.md hstep, w5]; rfl
  rw [e]
  unfold Good
  rw [show nextR (insName 28) (modeName 15) r [b0, s.ad, c, d, f] = rdR (r.PC + 1 + 1) from rfl, bus_rd s s.pc (r.PC + 1 + 1) (by rw [hpc]; omega), f1]
  exact ⟨rfl, f2, .inr ⟨rfl, f3⟩⟩
end

/-
  BRK, NMI and IRQ: each cycle of the program is the document's.
-/
section
/-- What the three sequences have of their own. -/
structure Seq (m : Nat) (r : RG) (back fl vec : Int) : Prop where
  nx : ∀ h : List Int, nextR (opName 12 m) (modeName m) r h = entersR (opName 12 m) r h.length
  e2 : entersR (opName 12 m) r 2 = wrR (256 + r.S) (back / 256)
  e3 : entersR (opName 12 m) r 3 = wrR (256 + (r.S - 1) % 256) (back % 256)
  e4 : entersR (opName 12 m) r 4 = wrR (256 + (r.S - 2) % 256) fl
  e5 : entersR (opName 12 m) r 5 = rdR vec
  e6 : entersR (opName 12 m) r 6 = rdR (vec + 1)
  e7 : entersR (opName 12 m) r 7 = dnR
  dn : ∀ h : List Int, doneR (opName 12 m) (modeName m) r h = { r with S := (r.S - 3) % 256, P := i64or r.P 4, PC := hd h 5 + 256 * hd h 6 }
  tn : ∀ t : PC, t.p = r.P → t.step ≠ 1 → t.doMode m = t.enter vec fl
  vr : vec = 65530 ∨ vec = 65534

def backI (m : Nat) (r : RG) : Int := if m = 19 then (r.PC + 2) % 65536 else r.PC
def flI (m : Nat) (r : RG) : Int := if m = 19 then i64or r.P 16 else r.P
def vecI (m : Nat) : Int := if m = 20 then 65530 else 65534

theorem seq_ok (m : Nat) (r : RG) (hR : Rg r) (hm : m = 19 ∨ m = 20 ∨ m = 21) : Seq m r (backI m r) (flI m r) (vecI m) := by
  rcases hm with rfl | rfl | rfl
  · refine ⟨fun h => rfl, rfl, rfl, rfl, rfl, rfl, rfl, fun h => rfl, fun t ht hk => ?_, .inr rfl⟩
    show t.enterByBreak = _
    unfold PC.enterByBreak
    rw [if_neg hk, ht, or_u8_i64 r.P 16 hR.P.1 hR.P.2 (by decide) (by decide)]; rfl
  · refine ⟨fun h => rfl, rfl, rfl, rfl, rfl, rfl, rfl, fun h => rfl, fun t ht hk => ?_, .inl rfl⟩
    show t.enterByNMI = _
    unfold PC.enterByNMI
    rw [if_neg hk, ht]; rfl
  · refine ⟨fun h => rfl, rfl, rfl, rfl, rfl, rfl, rfl, fun h => rfl, fun t ht hk => ?_, .inr rfl⟩
    show t.enterByIRQ = _
    unfold PC.enterByIRQ
    rw [if_neg hk, ht]; rfl

inductive MidI (s : PC) (r : RG) (m : Nat) : List Int → Prop
  | two {b0 b1 : Int} : s.st = 1 → s.step = 1 → s.s = r.S → s.pc = backI m r → MidI s r m [b0, b1]
  | three {b0 b1 c : Int} : s.st = 1 → s.step = 2 → s.s = (r.S - 1) % 256 → s.pc = backI m r → MidI s r m [b0, b1, c]
  | four {b0 b1 c d : Int} : s.st = 1 → s.step = 3 → s.s = (r.S - 2) % 256 → MidI s r m [b0, b1, c, d]
  | five {b0 b1 c d f : Int} : s.st = 1 → s.step = 4 → s.s = (r.S - 3) % 256 → MidI s r m [b0, b1, c, d, f]
  | six {b0 b1 c d f g : Int} : s.st = 1 → s.step = 5 → s.ad = g → s.s = (r.S - 3) % 256 → MidI s r m [b0, b1, c, d, f, g]

theorem sei_eq (p : Int) (h0 : 0 ≤ p) (h1 : p < 256) : setf p 4 true = i64or p 4 :=
  all_byte (p := fun p => setf p 4 true = i64or p 4) (by decide +kernel) p h0 h1

section

theorem int_1 (s : PC) (r : RG) (m : Nat) (irq : Bool) (hm : m = 19 ∨ m = 20 ∨ m = 21) (hR : Rg r) (hL : Live s r 12 m) (hst : s.st = 1) (b0 : Int) (hstep : s.step = 0) (hS : s.s = r.S) (hpc : s.pc = if m = 19 then (r.PC + 1) % 65536 else r.PC) :
    Good (fun s h => MidI s r m h) s (s.turn irq).1 (s.turn irq).2 r 12 m (opName 12 m) (modeName m) [b0] := by
  have S := seq_ok m r hR hm
  have hp : 0 ≤ s.pc ∧ s.pc < 65536 := by have := hR.PC; rw [hpc]; split <;> omega
  by_cases h19 : m = 19
  · subst h19
    have e : s.turn irq = ({ s with step := 1, st := 1 } : PC).readNext := by rw [turn_mode s irq 19 0 hst hL.md hstep, w1, step_st s 1 hst]; rfl
    obtain ⟨g1, g2, g3⟩ := gath_of s 1 1 s.pc ((s.pc + 1) % 65536) s.ad s.hop s.data
    have K := read1_kept ({ s with step := 1, st := 1 } : PC) s.pc
    have e2 : ({ s with step := 1, st := 1 } : PC).readNext = (({ (({ s with step := 1, st := 1 } : PC).read1 s.pc) with pc := (s.pc + 1) % 65536, ad := s.ad, hop := s.hop, data := s.data } : PC), (s.read s.pc).2) := by
      have q : ∀ V : PC, V.pc = s.pc → V.ad = s.ad → V.hop = s.hop → V.data = s.data → ({ V with pc := (V.pc + 1) % 65536 } : PC) = { V with pc := (s.pc + 1) % 65536, ad := s.ad, hop := s.hop, data := s.data } := by
        intro V h1 h2 h3 h4; rw [← h1, ← h2, ← h3, ← h4]
      show (({ (({ s with step := 1, st := 1 } : PC).read1 s.pc) with pc := ((({ s with step := 1, st := 1 } : PC).read1 s.pc).pc + 1) % 65536 } : PC), (s.read s.pc).2) = _
      rw [q _ K.pc K.ad K.hop K.data]
    rw [e, e2]
    unfold Good
    rw [show nextR (opName 12 19) (modeName 19) r [b0] = rdR (r.PC + 1) from rfl, bus_rd s s.pc (r.PC + 1) (by rw [hpc]; rfl)]
    refine ⟨g1.bus, g1.out, .inl ⟨rfl, g1.live hL, fun q hq => g1.beh q hq, .two g2 g3 (g1.sp.trans hS) ?_⟩⟩
    show (s.pc + 1) % 65536 = backI 19 r
    rw [hpc]; unfold backI; have := hR.PC; simp; omega
  · rw [if_neg h19] at hpc
    have e : s.turn irq = ({ s with step := 1 } : PC).read s.pc := by
      rw [turn_mode s irq m 0 hst hL.md hstep, w1]
      rcases hm with h | rfl | rfl
      · exact absurd h h19
      · rfl
      · rfl
    obtain ⟨g1, g2, g3, g4, g5⟩ := g_read s 1 s.pc
    have hn : nextR (opName 12 m) (modeName m) r [b0] = rdR r.PC := by
      rcases hm with h | rfl | rfl
      · exact absurd h h19
      · rfl
      · rfl
    rw [e]
    unfold Good
    rw [hn, bus_rd s s.pc r.PC (by rw [hpc]; have := hR.PC; omega)]
    refine ⟨g1.bus, g1.out, .inl ⟨?_, g1.live hL, fun q hq => g1.beh q hq, .two (g2.trans hst) g3 (g1.sp.trans hS) ?_⟩⟩
    · rw [S.nx]; show (entersR (opName 12 m) r 2).2 = true; rw [S.e2]; rfl
    · rw [g4, hpc]; unfold backI; rw [if_neg h19]

theorem int_2 (s : PC) (r : RG) (m : Nat) (irq : Bool) (hm : m = 19 ∨ m = 20 ∨ m = 21) (hR : Rg r) (hL : Live s r 12 m) (hst : s.st = 1) (b0 b1 : Int) (hstep : s.step = 1) (hS : s.s = r.S) (hpc : s.pc = backI m r) :
    Good (fun s h => MidI s r m h) s (s.turn irq).1 (s.turn irq).2 r 12 m (opName 12 m) (modeName m) [b0, b1] := by
  have S := seq_ok m r hR hm
  have g := g_push s 2 (backI m r / 256) (256 + r.S) (by rw [hS]; rfl)
  have e : s.turn irq = ({ s with step := 2 } : PC).pushed (backI m r / 256) := by
    rw [turn_mode s irq m 1 hst hL.md hstep, w2, S.tn ({ s with step := 2 } : PC) hL.p (by show (2 : Int) ≠ 1; decide), ← hpc]; rfl
  rw [e]
  unfold Good
  rw [show nextR (opName 12 m) (modeName m) r [b0, b1] = wrR (256 + r.S) (backI m r / 256) from by rw [S.nx]; exact S.e2, bus_wr s (256 + r.S) _ _ (by have := hR.S; omega)]
  refine ⟨g.bus, g.out, .inl ⟨?_, g.live hL, g.beh, .three (g.st.trans hst) g.step (by rw [g.sp, hS]) (g.pc.trans hpc)⟩⟩
  rw [S.nx]; show (entersR (opName 12 m) r 3).2 = true; rw [S.e3]; rfl

theorem int_3 (s : PC) (r : RG) (m : Nat) (irq : Bool) (hm : m = 19 ∨ m = 20 ∨ m = 21) (hR : Rg r) (hL : Live s r 12 m) (hst : s.st = 1) (b0 b1 c : Int) (hstep : s.step = 2) (hS : s.s = (r.S - 1) % 256) (hpc : s.pc = backI m r) :
    Good (fun s h => MidI s r m h) s (s.turn irq).1 (s.turn irq).2 r 12 m (opName 12 m) (modeName m) [b0, b1, c] := by
  have S := seq_ok m r hR hm
  have g := g_push s 3 (backI m r % 256) (256 + (r.S - 1) % 256) (by rw [hS]; rfl)
  have e : s.turn irq = ({ s with step := 3 } : PC).pushed (backI m r % 256) := by
    rw [turn_mode s irq m 2 hst hL.md hstep, w3, S.tn ({ s with step := 3 } : PC) hL.p (by show (3 : Int) ≠ 1; decide), ← hpc]; rfl
  rw [e]
  unfold Good
  rw [show nextR (opName 12 m) (modeName m) r [b0, b1, c] = wrR (256 + (r.S - 1) % 256) (backI m r % 256) from by rw [S.nx]; exact S.e3, bus_wr s (256 + (r.S - 1) % 256) _ _ (by omega)]
  refine ⟨g.bus, g.out, .inl ⟨?_, g.live hL, g.beh, .four (g.st.trans hst) g.step (by rw [g.sp, hS]; omega)⟩⟩
  rw [S.nx]; show (entersR (opName 12 m) r 4).2 = true; rw [S.e4]; rfl

theorem int_4 (s : PC) (r : RG) (m : Nat) (irq : Bool) (hm : m = 19 ∨ m = 20 ∨ m = 21) (hR : Rg r) (hL : Live s r 12 m) (hst : s.st = 1) (b0 b1 c d : Int) (hstep : s.step = 3) (hS : s.s = (r.S - 2) % 256) :
    Good (fun s h => MidI s r m h) s (s.turn irq).1 (s.turn irq).2 r 12 m (opName 12 m) (modeName m) [b0, b1, c, d] := by
  have S := seq_ok m r hR hm
  have g := g_push s 4 (flI m r) (256 + (r.S - 2) % 256) (by rw [hS]; rfl)
  have e : s.turn irq = ({ s with step := 4 } : PC).pushed (flI m r) := by
    rw [turn_mode s irq m 3 hst hL.md hstep, w4, S.tn ({ s with step := 4 } : PC) hL.p (by show (4 : Int) ≠ 1; decide)]; rfl
  rw [e]
  unfold Good
  rw [show nextR (opName 12 m) (modeName m) r [b0, b1, c, d] = wrR (256 + (r.S - 2) % 256) (flI m r) from by rw [S.nx]; exact S.e4, bus_wr s (256 + (r.S - 2) % 256) _ _ (by omega)]
  refine ⟨g.bus, g.out, .inl ⟨?_, g.live hL, g.beh, .five (g.st.trans hst) g.step (by rw [g.sp, hS]; omega)⟩⟩
  rw [S.nx]; show (entersR (opName 12 m) r 5).2 = true; rw [S.e5]; rfl

theorem int_5 (s : PC) (r : RG) (m : Nat) (irq : Bool) (hm : m = 19 ∨ m = 20 ∨ m = 21) (hR : Rg r) (hL : Live s r 12 m) (hst : s.st = 1) (b0 b1 c d f : Int) (hB : Bytes_ s) (hstep : s.step = 4) (hS : s.s = (r.S - 3) % 256) :
    Good (fun s h => MidI s r m h) s (s.turn irq).1 (s.turn irq).2 r 12 m (opName 12 m) (modeName m) [b0, b1, c, d, f] := by
  have S := seq_ok m r hR hm
  have hv := S.vr
  obtain ⟨g1, g2, g3, g4, g5⟩ := g_lowAt s 5 1 (vecI m) hB (by omega)
  have e : s.turn irq = takeLow (({ s with step := 5, st := 1 } : PC).read (vecI m)) := by
    rw [turn_mode s irq m 4 hst hL.md hstep, w5, S.tn ({ s with step := 5 } : PC) hL.p (by show (5 : Int) ≠ 1; decide), step_st s 5 hst]; rfl
  rw [e]
  unfold Good
  rw [show nextR (opName 12 m) (modeName m) r [b0, b1, c, d, f] = rdR (vecI m) from by rw [S.nx]; exact S.e5, bus_rd s (vecI m) _ (by omega)]
  refine ⟨g1.bus, g1.out, .inl ⟨?_, g1.live hL, fun q hq => g1.beh q hq, .six g2 g3 g4 (g1.sp.trans hS)⟩⟩
  rw [S.nx]; show (entersR (opName 12 m) r 6).2 = true; rw [S.e6]; rfl

theorem int_6 (s : PC) (r : RG) (m : Nat) (irq : Bool) (hm : m = 19 ∨ m = 20 ∨ m = 21) (hR : Rg r) (hL : Live s r 12 m) (hst : s.st = 1) (b0 b1 c d f g : Int) (hB : Bytes_ s) (hg : 0 ≤ g ∧ g < 256) (hstep : s.step = 5) (had : s.ad = g) (hS : s.s = (r.S - 3) % 256) :
    Good (fun s h => MidI s r m h) s (s.turn irq).1 (s.turn irq).2 r 12 m (opName 12 m) (modeName m) [b0, b1, c, d, f, g] := by
  have S := seq_ok m r hR hm
  subst had
  have hv := S.vr
  have em : (vecI m + 1) % 65536 = vecI m + 1 := by omega
  obtain ⟨f1, f2, f3⟩ := fin_go s r { r with S := (r.S - 3) % 256, P := i64or r.P 4, PC := s.ad + 256 * s.look (vecI m + 1) } 12 m 6 (vecI m + 1) (fun p => setf p 4 true) (fun _ => rfl) hL rfl rfl rfl hS (sei_eq r.P hR.P.1 hR.P.2) hB (by omega) hg rfl
  have e : s.turn irq = goThere (({ s with step := 6 } : PC).read (vecI m + 1)) := by
    rw [turn_mode s irq m 5 hst hL.md hstep, w6, S.tn ({ s with step := 6 } : PC) hL.p (by show (6 : Int) ≠ 1; decide), ← em]; rfl
  rw [e]
  unfold Good
  rw [show nextR (opName 12 m) (modeName m) r [b0, b1, c, d, f, s.ad] = rdR (vecI m + 1) from by rw [S.nx]; exact S.e6, bus_rd s (vecI m + 1) _ (by omega), f1]
  refine ⟨rfl, f2, .inr ⟨?_, ?_⟩⟩
  · rw [S.nx]; show (entersR (opName 12 m) r 7).2 = false; rw [S.e7]; rfl
  · rw [S.dn]; exact f3
end
end

/-
  All modes in one: how the program stands in the midst of an instruction, and that its next cycle is the document's.
-/
section
/-- How the program stands behind the bytes h of an instruction i in mode m. -/
inductive Midst (s : PC) (r : RG) (i m : Nat) (h : List Int) : Prop
  | one (b0 : Int) : h = [b0] → s.st = 1 → s.step = 0 → s.s = r.S → (s.pc = if m = 20 ∨ m = 21 then r.PC else (r.PC + 1) % 65536) → Midst s r i m h
  | plc : 4 ≤ m → m ≤ 11 → Mid s r i m h → Midst s r i m h
  | rel : m = 12 → MidB s r (insName i) h → Midst s r i m h
  | jmp : m = 13 ∨ m = 14 → MidJ s r m h → Midst s r i m h
  | jsr : m = 15 → MidS s r h → Midst s r i m h
  | back : m = 16 ∨ m = 22 → MidO s r m h → Midst s r i m h
  | push : m = 17 → MidU s r h → Midst s r i m h
  | pull : m = 18 → MidP s r h → Midst s r i m h
  | int : m = 19 ∨ m = 20 ∨ m = 21 → MidI s r m h → Midst s r i m h

theorem Good.mono {M M' : PC → List Int → Prop} {s s' : PC} {b : BusI} {r : RG} {i m : Nat} {op md : BA} {h : List Int} (f : ∀ s h, M s h → M' s h) (g : Good M s s' b r i m op md h) : Good M' s s' b r i m op md h := by
  obtain ⟨g1, g2, g3⟩ := g
  refine ⟨g1, g2, ?_⟩
  rcases g3 with ⟨a, b, c, d⟩ | q
  · exact .inl ⟨a, b, c, f _ _ d⟩
  · exact .inr q

theorem opName_ins (i m : Nat) (h0 : m ≠ 20) (h1 : m ≠ 21) : opName i m = insName i := by unfold opName; rw [if_neg h0, if_neg h1]

theorem m_zero (i : Nat) (hi : i < 56) : okPair i 0 = false := by
  have : ∀ i : Fin 56, okPair i.val 0 = false := by decide +kernel
  exact this ⟨i, hi⟩
theorem m_le (i m : Nat) (h : okPair i m = true) : m ≤ 22 := by
  unfold okPair at h
  rw [Bool.or_eq_true] at h
  rcases h with h | h
  · rw [List.any_eq_true] at h
    obtain ⟨e, he, hh⟩ := h
    have all : ∀ e ∈ opTable, e.2.2 ≤ 22 := by decide +kernel
    have := all e he
    simp at hh; omega
  · simp at h; omega
theorem int_ok (i m : Nat) (hi : i < 56) (hm : m = 19 ∨ m = 20 ∨ m = 21) (h : okPair i m = true) : i = 12 := by
  have : ∀ i : Fin 56, (okPair i.val 19 = true → i.val = 12) ∧ (okPair i.val 20 = true → i.val = 12) ∧ (okPair i.val 21 = true → i.val = 12) := by decide +kernel
  rcases hm with rfl | rfl | rfl
  · exact (this ⟨i, hi⟩).1 h
  · exact (this ⟨i, hi⟩).2.1 h
  · exact (this ⟨i, hi⟩).2.2 h
theorem jsr_ok (i : Nat) (hi : i < 56) (h : okPair i 15 = true) : i = 28 := by
  have : ∀ i : Fin 56, okPair i.val 15 = true → i.val = 28 := by decide +kernel
  exact this ⟨i, hi⟩ h

set_option maxHeartbeats 1000000 in
theorem midst_step (s : PC) (r : RG) (i m : Nat) (h : List Int) (irq : Bool) (hL : Live s r i m) (hR : Rg r) (hB : Bytes_ s) (hD : 0 ≤ s.data ∧ s.data < 256) (hi : i < 56) (hok : okPair i m = true) (hH : Byt h) (hM : Midst s r i m h) :
    Good (fun s h => Midst s r i m h) s (s.turn irq).1 (s.turn irq).2 r i m (opName i m) (modeName m) h := by
  cases hM with
  | one b0 e st step sp pc =>
    subst e
    by_cases m2 : m = 20 ∨ m = 21
    · rw [if_pos m2] at pc
      have e12 : i = 12 := int_ok i m hi (by omega) hok
      subst e12
      exact (int_1 s r m irq (by omega) hR hL st b0 step sp (by rw [if_neg (by omega)]; exact pc)).mono (fun s h q => .int (by omega) q)
    · rw [if_neg m2] at pc
      rw [opName_ins i m (by omega) (by omega)]
      have h22 := m_le i m hok
      have hm0 : m ≠ 0 := by rintro rfl; rw [m_zero i hi] at hok; cases hok
      by_cases e1 : m = 1
      · subst e1; exact one_imp _ s r i b0 irq hL hR hD hi hok st step sp pc
      by_cases e2 : m = 2
      · subst e2; exact one_acc _ s r i b0 irq hL hR hi hok st step sp pc
      by_cases e3 : m = 3
      · subst e3; exact one_imm _ s r i b0 irq hL hR hB hi hok st step sp pc
      by_cases e11 : m ≤ 11
      · exact (placed_step s r i m [b0] irq hL hR hB hi hok (by omega) e11 hH (.one (by omega) (by omega) st step sp pc)).mono (fun s h q => .plc (by omega) e11 q)
      by_cases e12 : m = 12
      · subst e12; exact (one_rel s r i b0 irq hL hR hB hD hi hok st step sp pc).mono (fun s h q => .rel rfl q)
      by_cases e13 : m = 13 ∨ m = 14
      · have := jmp_ok i m hi e13 hok; subst this
        exact (one_jmp s r m b0 irq e13 hL hR hB st step sp pc).mono (fun s h q => .jmp e13 q)
      by_cases e15 : m = 15
      · subst e15; have := jsr_ok i hi hok; subst this
        exact (jsr_1 s r b0 irq hL hR hB st step sp pc).mono (fun s h q => .jsr rfl q)
      by_cases e16 : m = 16 ∨ m = 22
      · have hb : i = bi m := by rcases e16 with rfl | rfl; exact (back_ok i hi).1 hok; exact (back_ok i hi).2 hok
        subst hb
        exact (one_back s r m b0 irq e16 hL st step sp pc).mono (fun s h q => .back e16 q)
      by_cases e17 : m = 17
      · subst e17; exact (one_push s r i b0 irq (push_ok i hi hok) hL st step sp pc).mono (fun s h q => .push rfl q)
      by_cases e18 : m = 18
      · subst e18; exact (one_pull s r i b0 irq (pull_ok i hi hok) hL st step sp pc).mono (fun s h q => .pull rfl q)
      have e19 : m = 19 := by omega
      subst e19
      have := int_ok i 19 hi (.inl rfl) hok; subst this
      exact (int_1 s r 19 irq (.inl rfl) hR hL st b0 step sp pc).mono (fun s h q => .int (.inl rfl) q)
  | plc h4 h11 q =>
    rw [opName_ins i m (by omega) (by omega)]
    exact (placed_step s r i m h irq hL hR hB hi hok h4 h11 hH q).mono (fun s h q => .plc h4 h11 q)
  | rel e q =>
    subst e
    rw [opName_ins i 12 (by decide) (by decide)]
    refine Good.mono (fun s h q => .rel rfl q) (?_ : Good (fun s h => MidB s r (insName i) h) _ _ _ _ _ _ _ _ _)
    cases q with
    | two ht st step ad sp pc => exact two_rel s r i _ _ irq hL hi hok ht st step ad sp pc
    | three ht st step ad sp pc hne => exact three_rel s r i _ _ _ irq hL hi hok ht st step ad sp pc hne
  | jmp e q =>
    have := jmp_ok i m hi e hok; subst this
    rw [opName_ins 27 m (by omega) (by omega)]
    refine Good.mono (fun s h q => .jmp e q) (?_ : Good (fun s h => MidJ s r m h) _ _ _ _ _ _ _ _ _)
    cases q with
    | @two _ b0 b1 hm st step ad sp pc =>
      rcases hm with rfl | rfl
      · exact two_jmp s r b0 b1 irq hL hB (hH b1 (by simp)) st step ad sp pc
      · exact two_ind s r b0 b1 irq hL hB (hH b1 (by simp)) st step ad sp pc
    | @three b0 b1 c st step hop sp => exact three_ind s r b0 b1 c irq hL hB (hH b1 (by simp)) (hH c (by simp)) st step hop sp
    | @four b0 b1 c d st step hop ad sp => exact four_ind s r b0 b1 c d irq hL hB (hH b1 (by simp)) (hH c (by simp)) (hH d (by simp)) st step hop ad sp
  | jsr e q =>
    subst e; have := jsr_ok i hi hok; subst this
    refine Good.mono (fun s h q => .jsr rfl q) (?_ : Good (fun s h => MidS s r h) _ _ _ _ _ _ _ _ _)
    cases q with
    | two st step ad sp pc => exact jsr_2 s r _ _ irq hL hR st step ad sp pc
    | three st step ad sp pc => exact jsr_3 s r _ _ _ irq hL hR st step ad sp pc
    | four st step ad sp pc => exact jsr_4 s r _ _ _ _ irq hL st step ad sp pc
    | @five b0 b1 c d f st step ad sp pc => exact jsr_5 s r b0 b1 c d f irq hL hB (hH b1 (by simp)) st step ad sp pc
  | back e q =>
    have hb : i = bi m := by rcases e with rfl | rfl; exact (back_ok i hi).1 hok; exact (back_ok i hi).2 hok
    subst hb
    rw [opName_ins _ m (by omega) (by omega)]
    refine Good.mono (fun s h q => .back e q) (?_ : Good (fun s h => MidO s r m h) _ _ _ _ _ _ _ _ _)
    cases q with
    | two st step sp => exact two_back s r m _ _ irq e hL hR st step sp
    | three st step sp =>
      rcases e with rfl | rfl
      · exact rts_3 s r _ _ _ irq hL hB st step sp
      · exact rti_3 s r _ _ _ irq hL hB st step sp
    | @rts4 b0 b1 c d st step sp ad => exact rts_4 s r b0 b1 c d irq hL hB (hH d (by simp)) st step sp ad
    | @rts5 b0 b1 c d f st step sp ad => exact rts_5 s r b0 b1 c d f irq hL (hH d (by simp)) (hH f (by simp)) st step sp ad
    | rti4 st step sp d => exact rti_4 s r _ _ _ _ irq hL hB st step sp d
    | @rti5 b0 b1 c d f st step sp dt ad => exact rti_5 s r b0 b1 c d f irq hL hB (hH d (by simp)) (hH f (by simp)) st step sp dt ad
  | push e q =>
    subst e
    rw [opName_ins i 17 (by decide) (by decide)]
    refine Good.mono (fun s h q => .push rfl q) (?_ : Good (fun s h => MidU s r h) _ _ _ _ _ _ _ _ _)
    cases q with
    | two st step sp pc => exact two_push s r i _ _ irq (push_ok i hi hok) hL hR st step sp pc
  | pull e q =>
    subst e
    rw [opName_ins i 18 (by decide) (by decide)]
    refine Good.mono (fun s h q => .pull rfl q) (?_ : Good (fun s h => MidP s r h) _ _ _ _ _ _ _ _ _)
    cases q with
    | two st step sp pc => exact two_pull s r i _ _ irq (pull_ok i hi hok) hL hR st step sp pc
    | three st step sp pc => exact three_pull s r i _ _ _ irq (pull_ok i hi hok) hL hR hB st step sp pc
  | int e q =>
    have := int_ok i m hi e hok; subst this
    refine Good.mono (fun s h q => .int e q) (?_ : Good (fun s h => MidI s r m h) _ _ _ _ _ _ _ _ _)
    cases q with
    | two st step sp pc => exact int_2 s r m irq e hR hL st _ _ step sp pc
    | three st step sp pc => exact int_3 s r m irq e hR hL st _ _ _ step sp pc
    | four st step sp => exact int_4 s r m irq e hR hL st _ _ _ _ step sp
    | five st step sp => exact int_5 s r m irq e hR hL st _ _ _ _ _ hB step sp
    | @six b0 b1 c d f g st step ad sp => exact int_6 s r m irq e hR hL st b0 b1 c d f g hB (hH g (by simp)) step ad sp
end

/-
  What the document's rule asks for is no fetch, and writes bytes.
-/
section
def OkAct (a : Act) : Prop := a.ft = false ∧ (a.wr = true → 0 ≤ a.data ∧ a.data < 256) ∧ a.addr < 65536 ∧ 0 ≤ a.addr

theorem ok_rd (a : Int) : OkAct (rdR a).1 := ⟨rfl, fun h => (by cases h), by show a % 65536 < 65536; omega, by show 0 ≤ a % 65536; omega⟩
theorem ok_dn : OkAct dnR.1 := ⟨rfl, fun h => (by cases h), by decide, by decide⟩
theorem ok_at (q : Int) (h : 0 ≤ q ∧ q < 65536) : OkAct ⟨q, false, 0, false⟩ := ⟨rfl, fun h => (by cases h), h.2, h.1⟩
theorem ok_nil : OkAct Act.nil := ⟨rfl, fun h => (by cases h), by decide, by decide⟩
theorem ok_wr (a v : Int) (h : 0 ≤ v ∧ v < 256) : OkAct (wrR a v).1 := ⟨rfl, fun _ => h, by show a % 65536 < 65536; omega, by show 0 ≤ a % 65536; omega⟩

theorem and1_b (p : Int) (h : 0 ≤ p ∧ p < 256) : 0 ≤ i64and p 1 ∧ i64and p 1 ≤ 1 :=
  all_byte (p := fun p => 0 ≤ i64and p 1 ∧ i64and p 1 ≤ 1) (by decide +kernel) p h.1 h.2
theorem or16_r (p : Int) (h : 0 ≤ p ∧ p < 256) : 0 ≤ i64or p 16 ∧ i64or p 16 < 256 :=
  all_byte (p := fun p => 0 ≤ i64or p 16 ∧ i64or p 16 < 256) (by decide +kernel) p h.1 h.2

theorem changed_r (op : BA) (b p : Int) (hb : 0 ≤ b ∧ b < 256) (hp : 0 ≤ p ∧ p < 256) : 0 ≤ (changedR op b p).1 ∧ (changedR op b p).1 < 256 := by
  have := and1_b p hp
  unfold changedR
  repeat' split
  all_goals (simp only []; omega)

theorem ok_uses (op : BA) (r : RG) (h : List Int) (a fr : Int) (hR : Rg r) (hH : Byt h) : OkAct (usesR op r h a fr).1 := by
  unfold usesR
  simp only []
  split
  · split
    · exact ok_rd _
    · exact ok_dn
  · split
    · split
      · refine ok_wr _ _ ?_
        split
        · exact hR.A
        · split
          · exact hR.X
          · exact hR.Y
      · exact ok_dn
    · split
      · exact ok_rd _
      · split
        · exact ok_wr _ _ (hd_byte h hH _)
        · split
          · exact ok_wr _ _ (changed_r op _ _ (hd_byte h hH _) hR.P)
          · exact ok_dn

theorem ok_enters (op : BA) (r : RG) (n : Int) (hR : Rg r) : OkAct (entersR op r n).1 := by
  have h1 := hR.PC
  have h2 := or16_r r.P hR.P
  have h3 := hR.P
  unfold entersR
  simp only []
  split
  · split <;> exact ok_rd _
  · split
    · refine ok_wr _ _ ?_
      split <;> omega
    · split
      · refine ok_wr _ _ ?_
        omega
      · split
        · refine ok_wr _ _ ?_
          split
          · exact h2
          · exact h3
        · split
          · exact ok_rd _
          · split
            · exact ok_rd _
            · exact ok_dn

theorem ok_indexed (op : BA) (lo hi index n at_ : Int) (hh : 0 ≤ hi ∧ hi < 256) : OkAct (indexedR op lo hi index n at_).2.2.1 := by
  unfold indexedR
  simp only []
  split
  · exact ok_nil
  · split
    · exact ok_at _ (by omega)
    · exact ok_nil

theorem ok_place (op md : BA) (r : RG) (h : List Int) (hH : Byt h) : OkAct (placeR op md r h).2.2.1 := by
  have h1 := hd_byte h hH 1
  have h2 := hd_byte h hH 2
  have h3 := hd_byte h hH 3
  unfold placeR
  simp only []
  repeat' split
  all_goals first | exact ok_rd _ | exact ok_nil | exact ok_at _ (by omega) | exact ok_indexed _ _ _ _ _ _ (by omega)

theorem ok_next (op md : BA) (r : RG) (h : List Int) (hR : Rg r) (hH : Byt h) : OkAct (nextR op md r h).1 := by
  have h1 := hR.PC
  unfold nextR
  simp only []
  split
  · exact ok_enters op r _ hR
  split
  · repeat' split
    all_goals first | exact ok_rd _ | exact ok_dn | (refine ok_wr _ _ ?_; omega)
  split
  · unfold pullsR
    simp only []
    repeat' split
    all_goals first | exact ok_rd _ | exact ok_dn
  split
  · exact ok_wr _ _ hR.A
  split
  · exact ok_wr _ _ (or16_r r.P hR.P)
  split
  · unfold jumpsR
    simp only []
    repeat' split
    all_goals first | exact ok_rd _ | exact ok_dn
  split
  · split
    · exact ok_rd _
    · exact ok_dn
  split
  · unfold branchesR
    simp only []
    repeat' split
    all_goals first | exact ok_rd _ | exact ok_dn
  split
  · exact ok_place op md r h hH
  · exact ok_uses op r h _ _ hR hH

/-- Behind the fetch there is always a cycle more. -/
theorem next_fst (op md : BA) (r : RG) (b0 : Int) : (nextR op md r [b0]).2 = true := by
  unfold nextR
  have hl : (([b0] : List Int).length : Int) = 1 := rfl
  simp only [hl]
  split
  · unfold entersR; simp only [if_true]; split <;> rfl
  split
  · rfl
  split
  · unfold pullsR; simp only [hl, if_true]; rfl
  split
  · rename_i h; exact absurd h.2 (by decide)
  split
  · rename_i h; exact absurd h.2 (by decide)
  split
  · unfold jumpsR; simp only [hl]; rw [if_pos (by decide)]; rfl
  split
  · rfl
  split
  · unfold branchesR; simp only [hl, if_true]; rfl
  · rw [place_one]; rfl
end

/-
  A cycle of the program's computer is the document's, and they stay alike.
-/
section
/-- What has nothing to do with where an instruction stands may turn. -/
abbrev PC.off (s : PC) (a b : Bool) (c : Int) (d : Bool) (e : Int) : PC := { s with nmiOn := a, nmiDue := b, cnt := c, calls := d, cyc := e }
abbrev RG.off (r : RG) (f : Int) : RG := { r with cyc := f }

section
variable {s : PC} {r : RG} {i m : Nat} {h : List Int} (a b : Bool) (c : Int) (d : Bool) (e f : Int)
theorem Acc.off {k A : Int} {fr : Nat} (q : Acc s k h A fr) : Acc (s.off a b c d e) k h A fr := by
  cases q with
  | due x y z => exact .due x y z
  | was x y z v w => exact .was x y z v w
  | new x y z v w => exact .new x y z v w
theorem Mid.off (q : Mid s r i m h) : Mid (s.off a b c d e) (r.off f) i m h := by
  cases q with
  | one x y z v w u => exact .one x y z v w u
  | acc A fr x y z v w u t p => exact .acc A fr x y z v (w.off a b c d e) u t p
  | low x y z v w u => exact .low x y z v w u
  | abs3 x y z v w u => exact .abs3 x y z v w u
  | hop2 x y z v w u => exact .hop2 x y z v w u
  | izx3 x y z v w => exact .izx3 x y z v w
  | izx4 x y z v w u => exact .izx4 x y z v w u
  | izy3 x y z v w u => exact .izy3 x y z v w u
  | izy4 x y z v w => exact .izy4 x y z v w
theorem MidB.off {op : BA} (q : MidB s r op h) : MidB (s.off a b c d e) (r.off f) op h := by
  cases q with
  | two x y z v w u => exact .two x y z v w u
  | three x y z v w u t => exact .three x y z v w u t
theorem MidJ.off (q : MidJ s r m h) : MidJ (s.off a b c d e) (r.off f) m h := by
  cases q with
  | two x y z v w u => exact .two x y z v w u
  | three x y z v => exact .three x y z v
  | four x y z v w => exact .four x y z v w
theorem MidS.off (q : MidS s r h) : MidS (s.off a b c d e) (r.off f) h := by
  cases q with
  | two x y z v w => exact .two x y z v w
  | three x y z v w => exact .three x y z v w
  | four x y z v w => exact .four x y z v w
  | five x y z v w => exact .five x y z v w
theorem MidO.off (q : MidO s r m h) : MidO (s.off a b c d e) (r.off f) m h := by
  cases q with
  | two x y z => exact .two x y z
  | three x y z => exact .three x y z
  | rts4 x y z v => exact .rts4 x y z v
  | rts5 x y z v => exact .rts5 x y z v
  | rti4 x y z v => exact .rti4 x y z v
  | rti5 x y z v w => exact .rti5 x y z v w
theorem MidU.off (q : MidU s r h) : MidU (s.off a b c d e) (r.off f) h := by
  cases q with
  | two x y z v => exact .two x y z v
theorem MidP.off (q : MidP s r h) : MidP (s.off a b c d e) (r.off f) h := by
  cases q with
  | two x y z v => exact .two x y z v
  | three x y z v => exact .three x y z v
theorem MidI.off (q : MidI s r m h) : MidI (s.off a b c d e) (r.off f) m h := by
  cases q with
  | two x y z v => exact .two x y z v
  | three x y z v => exact .three x y z v
  | four x y z => exact .four x y z
  | five x y z => exact .five x y z
  | six x y z v => exact .six x y z v
theorem Midst.off (q : Midst s r i m h) : Midst (s.off a b c d e) (r.off f) i m h := by
  cases q with
  | one b0 x y z v w => exact .one b0 x y z v w
  | plc x y z => exact .plc x y (z.off a b c d e f)
  | rel x y => exact .rel x (y.off a b c d e f)
  | jmp x y => exact .jmp x (y.off a b c d e f)
  | jsr x y => exact .jsr x (y.off a b c d e f)
  | back x y => exact .back x (y.off a b c d e f)
  | push x y => exact .push x (y.off a b c d e f)
  | pull x y => exact .pull x (y.off a b c d e f)
  | int x y => exact .int x (y.off a b c d e f)
end

/-- The bounds of what the program holds. -/
structure Rn (s : PC) : Prop where
  bytes : Bytes_ s
  data : 0 ≤ s.data ∧ s.data < 256
  a : 0 ≤ s.ba ∧ s.ba < 256
  x : 0 ≤ s.bx ∧ s.bx < 256
  y : 0 ≤ s.b_y ∧ s.b_y < 256
  sp : 0 ≤ s.bs ∧ s.bs < 256
  p : 0 ≤ s.bp ∧ s.bp < 256
  pc : 0 ≤ s.bpc ∧ s.bpc < 65536

inductive Way (s : PC) (t : RS) : Prop
  | idle : t.h = [] → t.r.jam = false → Fin_ s t.r → Way s t
  | midst (i m : Nat) : t.h ≠ [] → t.r.jam = false → i < 56 → okPair i m = true → t.op = opName i m → t.md = modeName m → Live s t.r i m → Byt t.h → Beh s t.r → Midst s t.r i m t.h → Way s t
  | jam : t.r.jam = true → s.st = 5 → Beh s t.r → Way s t

/-- The two computers are alike. -/
structure Alike (s : PC) (t : RS) : Prop where
  mem : s.mem = t.mem
  rom : s.rom = t.rom
  cnt : s.cnt = t.cnt
  calls : s.calls = t.calls
  on : s.nmiOn = t.nmi
  due : s.nmiDue = t.due
  cyc : s.cyc = t.r.cyc
  way : Way s t

theorem Way.beh {s : PC} {t : RS} (w : Way s t) : Beh s t.r := by
  cases w with
  | idle _ _ f => exact f.b
  | midst _ _ _ _ _ _ _ _ _ _ b _ => exact b
  | jam _ _ b => exact b

theorem Alike.rg {s : PC} {t : RS} (h : Alike s t) (n : Rn s) : Rg t.r := by
  have b := h.way.beh
  exact ⟨b.a ▸ n.a, b.x ▸ n.x, b.y ▸ n.y, b.sp ▸ n.sp, b.p ▸ n.p, b.pc ▸ n.pc⟩

theorem tick_off (s : PC) : ∃ c d, s.tick = { s with cnt := c, calls := d } := by
  unfold PC.tick
  split
  · exact ⟨s.cnt, s.calls, rfl⟩
  · split
    · exact ⟨_, true, rfl⟩
    · exact ⟨_, s.calls, rfl⟩

/-- The timer counts alike. -/
theorem counts_alike (s : PC) (t : RS) (b : BusI) (c0 : 0 ≤ s.cnt ∧ s.cnt < 256) (hc : s.cnt = t.cnt) (hk : s.calls = t.calls) (s3 : PC) (h3 : s3 = if b.wr = false ∨ b.addr ≠ 53248 then s.tick else s) : s3.cnt = (t.counts b).cnt ∧ s3.calls = (t.counts b).calls ∧ ∃ c d, s3 = { s with cnt := c, calls := d } := by
  subst h3
  unfold RS.counts
  by_cases e : b.wr = true ∧ b.addr = 53248
  · rw [if_neg (by rintro (q | q); rw [e.1] at q; cases q; exact q e.2), if_pos (.inl e)]
    exact ⟨hc, hk, s.cnt, s.calls, rfl⟩
  · rw [if_pos (by
      by_cases q : b.wr = true
      · exact .inr (fun x => e ⟨q, x⟩)
      · exact .inl (by simpa using q))]
    obtain ⟨c, d, q⟩ := tick_off s
    by_cases z : s.cnt = 0
    · have tk : s.tick = s := by unfold PC.tick; rw [if_pos z]
      rw [if_pos (.inr (hc ▸ z))]
      exact ⟨by rw [tk]; exact hc, by rw [tk]; exact hk, c, d, q⟩
    · have n : ¬ (b.wr = true ∧ b.addr = 53248 ∨ t.cnt = 0) := fun x => x.elim e (fun x => z (hc.trans x))
      rw [if_neg n]
      by_cases y : (s.cnt - 1) % 256 = 0
      · have tk : s.tick = { s with cnt := (s.cnt - 1) % 256, calls := true } := by unfold PC.tick; rw [if_neg z, if_pos y]
        rw [if_pos (by omega)]
        exact ⟨by rw [tk]; show (s.cnt - 1) % 256 = t.cnt - 1; omega, by rw [tk], c, d, q⟩
      · have tk : s.tick = { s with cnt := (s.cnt - 1) % 256 } := by unfold PC.tick; rw [if_neg z, if_neg y]
        rw [if_neg (by omega)]
        exact ⟨by rw [tk]; show (s.cnt - 1) % 256 = t.cnt - 1; omega, by rw [tk]; exact hk, c, d, q⟩

/-- The bus alike. -/
theorem bus_alike (s : PC) (t : RS) (a : Act) (ok : a.ft = false) (h1 : s.mem = t.mem) (h2 : s.rom = t.rom) (h3 : s.cnt = t.cnt) (h4 : s.calls = t.calls) :
    (s.busOf a).2 = (t.bus a).2 ∧ (s.busOf a).1.mem = (t.bus a).1.mem ∧ (s.busOf a).1.rom = (t.bus a).1.rom ∧ (s.busOf a).1.cnt = (t.bus a).1.cnt ∧ (s.busOf a).1.calls = (t.bus a).1.calls ∧
    (s.busOf a).1.nmiOn = s.nmiOn ∧ (s.busOf a).1.nmiDue = s.nmiDue ∧ (s.busOf a).1.cyc = s.cyc ∧ (t.bus a).1.nmi = t.nmi ∧ (t.bus a).1.due = t.due ∧ (t.bus a).1.r = t.r ∧ (t.bus a).1.op = t.op ∧ (t.bus a).1.md = t.md ∧ (t.bus a).1.h = t.h := by
  unfold PC.busOf RS.bus
  by_cases w : a.wr = true
  · rw [if_pos w, if_neg (by rw [w]; decide)]
    unfold PC.write PC.write1
    by_cases e : a.addr = 53248
    · rw [if_pos e, if_pos e]; exact ⟨by rw [ok], h1, h2, rfl, h4, rfl, rfl, rfl, rfl, rfl, rfl, rfl, rfl, rfl⟩
    · rw [if_neg e, if_neg e]
      by_cases e2 : a.addr ≠ 53249 ∧ a.addr < s.rom
      · rw [if_pos e2, if_pos ⟨h2 ▸ e2.2, e2.1⟩]; exact ⟨by rw [ok], by rw [h1], h2, h3, h4, rfl, rfl, rfl, rfl, rfl, rfl, rfl, rfl, rfl⟩
      · rw [if_neg e2, if_neg (fun x => e2 ⟨x.2, h2 ▸ x.1⟩)]; exact ⟨by rw [ok], h1, h2, h3, h4, rfl, rfl, rfl, rfl, rfl, rfl, rfl, rfl, rfl⟩
  · have w' : a.wr = false := by simpa using w
    rw [if_neg w, if_pos w']
    have pk : s.look a.addr = t.peek a.addr := by unfold PC.look RS.peek; rw [h1, h3, h4]
    unfold PC.read PC.read1
    by_cases e : a.addr = 53249
    · rw [if_pos e, if_pos e]; exact ⟨by rw [ok, pk], h1, h2, h3, rfl, rfl, rfl, rfl, rfl, rfl, rfl, rfl, rfl, rfl⟩
    · rw [if_neg e, if_neg e]; exact ⟨by rw [ok, pk], h1, h2, h3, h4, rfl, rfl, rfl, rfl, rfl, rfl, rfl, rfl, rfl⟩

theorem busOf_byte (s : PC) (a : Act) (hB : Bytes_ s) (ok : OkAct a) : 0 ≤ (s.busOf a).2.data ∧ (s.busOf a).2.data < 256 := by
  unfold PC.busOf
  by_cases w : a.wr = true
  · rw [if_pos w]; exact ok.2.1 w
  · rw [if_neg w]; exact look_b hB _ ok.2.2.1
end

/-
  A cycle in the midst of an instruction: alike.
-/
section
def RS.pinsB (t : RS) (nmi : Bool) : RS := { t with due := t.due || (nmi && !t.nmi), nmi := nmi, r := { t.r with cyc := IntKind.wrap .i64 (t.r.cyc + 1) } }

theorem counts_kept (t : RS) (b : BusI) : (t.counts b).op = t.op ∧ (t.counts b).md = t.md ∧ (t.counts b).r = t.r ∧ (t.counts b).h = t.h ∧ (t.counts b).mem = t.mem ∧ (t.counts b).rom = t.rom ∧ (t.counts b).nmi = t.nmi ∧ (t.counts b).due = t.due := by
  unfold RS.counts
  split
  · exact ⟨rfl, rfl, rfl, rfl, rfl, rfl, rfl, rfl⟩
  · split <;> exact ⟨rfl, rfl, rfl, rfl, rfl, rfl, rfl, rfl⟩

theorem bus_kept (t : RS) (a : Act) : (t.bus a).1.op = t.op ∧ (t.bus a).1.md = t.md ∧ (t.bus a).1.r = t.r ∧ (t.bus a).1.h = t.h ∧ (t.bus a).1.nmi = t.nmi ∧ (t.bus a).1.due = t.due := by
  unfold RS.bus
  split
  · split <;> exact ⟨rfl, rfl, rfl, rfl, rfl, rfl⟩
  · split
    · exact ⟨rfl, rfl, rfl, rfl, rfl, rfl⟩
    · split <;> exact ⟨rfl, rfl, rfl, rfl, rfl, rfl⟩

def RS.act (t : RS) : Act := if t.h.length > 0 then (nextR t.op t.md t.r t.h).1 else ⟨t.r.PC, false, 0, true⟩
def RS.after (t : RS) (b : BusI) : RS × BusI :=
  if t.r.jam = true then (t, b)
  else if (nextR t.op t.md t.r (t.h ++ [b.data])).2 = true then ({ t with h := t.h ++ [b.data] }, b)
  else ({ t with h := [], r := doneR t.op t.md t.r (t.h ++ [b.data]) }, b)
def RS.mids (t : RS) (irq : Bool) : RS := if t.h.length = 0 then (t.bus t.act).1.begins (t.bus t.act).2.data irq else (t.bus t.act).1

theorem rs_cycle (t : RS) (nmi irq : Bool) : t.cycle nmi irq = (((t.pinsB nmi).mids irq).counts ((t.pinsB nmi).bus (t.pinsB nmi).act).2).after ((t.pinsB nmi).bus (t.pinsB nmi).act).2 := rfl

theorem rs_mid (t1 : RS) (irq : Bool) (hh : t1.h ≠ []) (hj : t1.r.jam = false) (q : RS × BusI) (hq : q = t1.bus (nextR t1.op t1.md t1.r t1.h).1) (t3 : RS) (h3 : t3 = q.1.counts q.2) :
    ((t1.mids irq).counts (t1.bus t1.act).2).after (t1.bus t1.act).2 = if (nextR t1.op t1.md t1.r (t1.h ++ [q.2.data])).2 = true then ({ t3 with h := t1.h ++ [q.2.data] }, q.2) else ({ t3 with h := [], r := doneR t1.op t1.md t1.r (t1.h ++ [q.2.data]) }, q.2) := by
  have hl : 0 < t1.h.length := by cases h : t1.h with | nil => exact absurd h hh | cons x l => simp
  obtain ⟨k1, k2, k3, k4, -⟩ := counts_kept q.1 q.2
  obtain ⟨b1, b2, b3', b4, -⟩ := bus_kept t1 (nextR t1.op t1.md t1.r t1.h).1
  rw [← hq] at b1 b2 b3' b4
  rw [← h3] at k1 k2 k3 k4
  have e1 := k1.trans b1
  have e2 := k2.trans b2
  have e3 := k3.trans b3'
  have e4 := k4.trans b4
  have ea : t1.act = (nextR t1.op t1.md t1.r t1.h).1 := by unfold RS.act; rw [if_pos hl]
  have em : t1.mids irq = q.1 := by unfold RS.mids; rw [if_neg (by omega), ea, hq]
  rw [em, ea, ← hq, ← h3]
  unfold RS.after
  rw [if_neg (by rw [e3, hj]; decide), e1, e2, e3, e4]

theorem busOf_cnt (s : PC) (a : Act) (hB : 0 ≤ s.cnt ∧ s.cnt < 256) (ok : OkAct a) : 0 ≤ (s.busOf a).1.cnt ∧ (s.busOf a).1.cnt < 256 := by
  unfold PC.busOf
  by_cases w : a.wr = true
  · rw [if_pos w]
    unfold PC.write PC.write1
    simp only []
    split
    · exact ok.2.1 w
    · split <;> exact hB
  · rw [if_neg w]
    unfold PC.read PC.read1
    simp only []
    split <;> exact hB

def KeepR (r q : RG) : Prop := q.cyc = r.cyc ∧ q.jam = r.jam
theorem keep_ite {r a b : RG} {c : Prop} [Decidable c] (h1 : KeepR r a) (h2 : KeepR r b) : KeepR r (if c then a else b) := by
  split
  · exact h1
  · exact h2
theorem loads_keeps (op : BA) (r : RG) (m : Int) : (loadsR op r m).cyc = r.cyc ∧ (loadsR op r m).jam = r.jam := by
  show KeepR r _
  unfold loadsR
  repeat' (first | exact ⟨rfl, rfl⟩ | with_reducible apply keep_ite)
theorem plain_keeps (op : BA) (r : RG) : (plainR op r).cyc = r.cyc ∧ (plainR op r).jam = r.jam := by
  show KeepR r _
  unfold plainR
  repeat' (first | exact ⟨rfl, rfl⟩ | with_reducible apply keep_ite)
theorem flows_keeps (op : BA) (r : RG) (h : List Int) : (flowsR op r h).cyc = r.cyc ∧ (flowsR op r h).jam = r.jam := by
  show KeepR r _
  unfold flowsR
  repeat' (first | exact ⟨rfl, rfl⟩ | with_reducible apply keep_ite)
theorem done_keeps (op md : BA) (r : RG) (h : List Int) : (doneR op md r h).cyc = r.cyc ∧ (doneR op md r h).jam = r.jam := by
  unfold doneR
  simp only []
  split
  · exact flows_keeps op r h
  split
  · exact ⟨(flows_keeps op _ h).1.trans (plain_keeps op _).1, (flows_keeps op _ h).2.trans (plain_keeps op _).2⟩
  split
  · exact ⟨rfl, rfl⟩
  split
  · exact ⟨rfl, rfl⟩
  split
  · exact ⟨rfl, rfl⟩
  · exact loads_keeps op _ _

set_option maxHeartbeats 1000000 in
theorem cycle_mid (s : PC) (t : RS) (nmi irq : Bool) (H : Alike s t) (N : Rn s) (hj : t.r.jam = false) (i m : Nat) (hne : t.h ≠ []) (hi : i < 56) (hok : okPair i m = true) (hop : t.op = opName i m) (hmd : t.md = modeName m) (hL : Live s t.r i m) (hH : Byt t.h) (hb : Beh s t.r) (hM : Midst s t.r i m t.h) :
    (s.cycle nmi irq).2 = (t.cycle nmi irq).2 ∧ Alike (s.cycle nmi irq).1 (t.cycle nmi irq).1 := by
  have hR := H.rg N
  have hR1 : Rg (t.pinsB nmi).r := ⟨hR.A, hR.X, hR.Y, hR.S, hR.P, hR.PC⟩
  have hL1 : Live (s.pins nmi) (t.pinsB nmi).r i m := ⟨hL.a, hL.x, hL.y, hL.p, hL.ins, hL.md⟩
  have hB1 : Beh (s.pins nmi) (t.pinsB nmi).r := ⟨hb.a, hb.x, hb.y, hb.sp, hb.p, hb.pc⟩
  have hM1 : Midst (s.pins nmi) (t.pinsB nmi).r i m (t.pinsB nmi).h := hM.off nmi (s.nmiDue || (nmi && !s.nmiOn)) s.cnt s.calls s.cyc (IntKind.wrap .i64 (t.r.cyc + 1))
  obtain ⟨g1, g2, g3⟩ := midst_step (s.pins nmi) (t.pinsB nmi).r i m (t.pinsB nmi).h irq hL1 hR1 N.bytes N.data hi hok hH hM1
  have ho1 : (t.pinsB nmi).op = opName i m := hop
  have hm1 : (t.pinsB nmi).md = modeName m := hmd
  rw [← ho1, ← hm1] at g1 g2 g3
  have hA := ok_next (t.pinsB nmi).op (t.pinsB nmi).md (t.pinsB nmi).r (t.pinsB nmi).h hR1 hH
  have hc := H.cyc
  have hn1 : (t.pinsB nmi).h ≠ [] := hne
  have hH1 : Byt (t.pinsB nmi).h := hH
  have hj1 : (t.pinsB nmi).r.jam = false := hj
  have hcy : (t.pinsB nmi).r.cyc = IntKind.wrap .i64 ((s.pins nmi).cyc + 1) := by show IntKind.wrap .i64 (t.r.cyc + 1) = IntKind.wrap .i64 (s.cyc + 1); rw [hc]
  have x1 : (s.pins nmi).mem = (t.pinsB nmi).mem := H.mem
  have x2 : (s.pins nmi).rom = (t.pinsB nmi).rom := H.rom
  have x3 : (s.pins nmi).cnt = (t.pinsB nmi).cnt := H.cnt
  have x4 : (s.pins nmi).calls = (t.pinsB nmi).calls := H.calls
  have x5 : (s.pins nmi).nmiOn = (t.pinsB nmi).nmi := rfl
  have x6 : (s.pins nmi).nmiDue = (t.pinsB nmi).due := by show (s.nmiDue || (nmi && !s.nmiOn)) = (t.due || (nmi && !t.nmi)); rw [H.on, H.due]
  have xB : Bytes_ (s.pins nmi) := N.bytes
  rw [pc_cycle, rs_cycle]
  generalize s.pins nmi = u at *
  generalize t.pinsB nmi = v at *
  obtain ⟨a1, a2, a3, a4, a5, a6, a7, a8, a9, a10, a11, a12, a13, a14⟩ := bus_alike u v _ hA.1 x1 x2 x3 x4
  rw [rs_mid v irq hn1 hj1 _ rfl _ rfl]
  have hbb : (u.turn irq).2 = (v.bus (nextR v.op v.md v.r v.h).1).2 := g1.trans a1
  generalize hS : u.turn irq = S at *
  generalize hQ : v.bus (nextR v.op v.md v.r v.h).1 = Q at *
  rw [← hbb]
  have c0 : 0 ≤ S.1.cnt ∧ S.1.cnt < 256 := by rw [g2.cnt]; exact busOf_cnt u _ xB.2 hA
  obtain ⟨t1, t2, c', d', t3⟩ := counts_alike S.1 Q.1 S.2 c0 (g2.cnt.trans a4) (g2.calls.trans a5) (S.1.ends S.2) rfl
  obtain ⟨k1, k2, k3, k4, k5, k6, k7, k8⟩ := counts_kept Q.1 S.2
  have r3 : (Q.1.counts S.2).r = v.r := k3.trans a11
  have oo : (Q.1.counts S.2).op = opName i m := (k1.trans a12).trans ho1
  have mm : (Q.1.counts S.2).md = modeName m := (k2.trans a13).trans hm1
  have j3 : (Q.1.counts S.2).r.jam = false := by rw [r3]; exact hj1
  have y1 : S.1.mem = (Q.1.counts S.2).mem := (g2.mem.trans a2).trans k5.symm
  have y2 : S.1.rom = (Q.1.counts S.2).rom := (g2.rom.trans a3).trans k6.symm
  have y5 : S.1.nmiOn = (Q.1.counts S.2).nmi := ((g2.on.trans (a6.trans x5)).trans a9.symm).trans k7.symm
  have y6 : S.1.nmiDue = (Q.1.counts S.2).due := ((g2.due.trans (a7.trans x6)).trans a10.symm).trans k8.symm
  have y7 : IntKind.wrap .i64 (S.1.cyc + 1) = (Q.1.counts S.2).r.cyc := by rw [r3, hcy, g2.cyc, a8]
  have hd : 0 ≤ S.2.data ∧ S.2.data < 256 := by rw [g1]; exact busOf_byte u _ xB hA
  rw [t3] at t1 t2 ⊢
  generalize Q.1.counts S.2 = T at *
  rcases g3 with ⟨e, L, B, M⟩ | ⟨e, F⟩
  · rw [if_pos e]
    refine ⟨rfl, ⟨y1, y2, t1, t2, y5, y6, y7, ?_⟩⟩
    have M' : Midst S.1 T.r i m (v.h ++ [S.2.data]) := by rw [r3]; exact M
    refine .midst i m (by show v.h ++ [S.2.data] ≠ []; simp) j3 hi hok oo mm ?_ ?_ ?_ (M'.off S.1.nmiOn S.1.nmiDue c' d' (IntKind.wrap .i64 (S.1.cyc + 1)) T.r.cyc)
    · show Live _ T.r i m
      rw [r3]; exact ⟨L.a, L.x, L.y, L.p, L.ins, L.md⟩
    · intro b hb'
      rcases List.mem_append.1 hb' with q | q
      · exact hH1 b q
      · rw [List.mem_singleton.1 q]; exact hd
    · show Beh _ T.r
      have B' := B v.r hB1
      rw [r3]; exact ⟨B'.a, B'.x, B'.y, B'.sp, B'.p, B'.pc⟩
  · rw [if_neg (by rw [e]; decide)]
    have dk := done_keeps v.op v.md v.r (v.h ++ [S.2.data])
    refine ⟨rfl, ⟨y1, y2, t1, t2, y5, y6, ?_, ?_⟩⟩
    · show IntKind.wrap .i64 (S.1.cyc + 1) = (doneR v.op v.md v.r (v.h ++ [S.2.data])).cyc
      rw [dk.1, ← r3]; exact y7
    · exact .idle rfl (dk.2.trans hj1) ⟨F.st, ⟨F.b.a, F.b.x, F.b.y, F.b.sp, F.b.p, F.b.pc⟩, F.a, F.x, F.y, F.sp, F.p, F.pc⟩
end

/-
  A fetch: alike; and so is every cycle.
-/
section
theorem after_keeps (t : RS) (b : BusI) : (t.after b).2 = b ∧ (t.after b).1.mem = t.mem ∧ (t.after b).1.rom = t.rom ∧ (t.after b).1.cnt = t.cnt ∧ (t.after b).1.calls = t.calls ∧ (t.after b).1.nmi = t.nmi ∧ (t.after b).1.due = t.due ∧ (t.after b).1.r.cyc = t.r.cyc := by
  unfold RS.after
  split
  · exact ⟨rfl, rfl, rfl, rfl, rfl, rfl, rfl, rfl⟩
  split
  · exact ⟨rfl, rfl, rfl, rfl, rfl, rfl, rfl, rfl⟩
  · exact ⟨rfl, rfl, rfl, rfl, rfl, rfl, rfl, (done_keeps t.op t.md t.r _).1⟩

/-- The end of a cycle: the timer. -/
theorem ends_alike (W : PC) (X : RS) (b : BusI) (c0 : 0 ≤ W.cnt ∧ W.cnt < 256) (h1 : W.mem = X.mem) (h2 : W.rom = X.rom) (h3 : W.cnt = X.cnt) (h4 : W.calls = X.calls) (h5 : W.nmiOn = X.nmi) (h6 : W.nmiDue = X.due) (h7 : IntKind.wrap .i64 (W.cyc + 1) = X.r.cyc)
    (hw : ∀ (c : Int) (d : Bool) (e : Int) (T : RS), T.op = X.op → T.md = X.md → T.r = X.r → T.h = X.h → Way ({ W with cnt := c, calls := d, cyc := e } : PC) (T.after b).1) :
    b = ((X.counts b).after b).2 ∧ Alike ({ W.ends b with cyc := IntKind.wrap .i64 ((W.ends b).cyc + 1) } : PC) ((X.counts b).after b).1 := by
  obtain ⟨t1, t2, c', d', t3⟩ := counts_alike W X b c0 h3 h4 (W.ends b) rfl
  obtain ⟨k1, k2, k3, k4, k5, k6, k7, k8⟩ := counts_kept X b
  obtain ⟨a0, a1, a2, a3, a4, a5, a6, a7⟩ := after_keeps (X.counts b) b
  refine ⟨a0.symm, ?_⟩
  rw [t3] at t1 t2 ⊢
  exact ⟨(h1.trans k5.symm).trans a1.symm, (h2.trans k6.symm).trans a2.symm, t1.trans a3.symm, t2.trans a4.symm, (h5.trans k7.symm).trans a5.symm, (h6.trans k8.symm).trans a6.symm, (h7.trans (by rw [k3])).trans a7.symm, hw _ _ _ _ k1 k2 k3 k4⟩

/-- What a fetch leaves, if an instruction begins. -/
theorem way_begun (W : PC) (X : RS) (b : BusI) (i m : Nat) (hj : X.r.jam = false) (hh : X.h = []) (hi : i < 56) (hok : okPair i m = true) (hop : X.op = opName i m) (hmd : X.md = modeName m) (hL : Live W X.r i m) (hB : Beh W X.r) (hd : 0 ≤ b.data ∧ b.data < 256)
    (hst : W.st = 1) (hstep : W.step = 0) (hS : W.s = X.r.S) (hpc : W.pc = if m = 20 ∨ m = 21 then X.r.PC else (X.r.PC + 1) % 65536) (c : Int) (d : Bool) (e : Int) (T : RS) (e1 : T.op = X.op) (e2 : T.md = X.md) (e3 : T.r = X.r) (e4 : T.h = X.h) :
    Way ({ W with cnt := c, calls := d, cyc := e } : PC) (T.after b).1 := by
  have ea : (T.after b).1 = { T with h := [b.data] } := by
    unfold RS.after
    rw [if_neg (by rw [e3, hj]; decide), e4, hh, List.nil_append, if_pos (next_fst _ _ _ _)]
  rw [ea]
  rw [← e3] at hL hB hS hpc hj
  refine .midst i m (by show [b.data] ≠ []; simp) hj hi hok (e1.trans hop) (e2.trans hmd) ⟨hL.a, hL.x, hL.y, hL.p, hL.ins, hL.md⟩ ?_ ⟨hB.a, hB.x, hB.y, hB.sp, hB.p, hB.pc⟩ (.one b.data rfl hst hstep hS hpc)
  intro x hx
  rw [List.mem_singleton.1 hx]; exact hd

set_option maxHeartbeats 1000000 in
theorem cycle_idle (s : PC) (t : RS) (nmi irq : Bool) (H : Alike s t) (N : Rn s) (hj : t.r.jam = false) (hh : t.h = []) (hF : Fin_ s t.r) :
    (s.cycle nmi irq).2 = (t.cycle nmi irq).2 ∧ Alike (s.cycle nmi irq).1 (t.cycle nmi irq).1 := by
  have hR := H.rg N
  have hR1 : Rg (t.pinsB nmi).r := ⟨hR.A, hR.X, hR.Y, hR.S, hR.P, hR.PC⟩
  have hF1 : Fin_ (s.pins nmi) (t.pinsB nmi).r := ⟨hF.st, ⟨hF.b.a, hF.b.x, hF.b.y, hF.b.sp, hF.b.p, hF.b.pc⟩, hF.a, hF.x, hF.y, hF.sp, hF.p, hF.pc⟩
  have hc := H.cyc
  have hh1 : (t.pinsB nmi).h = [] := hh
  have hj1 : (t.pinsB nmi).r.jam = false := hj
  have hcy : IntKind.wrap .i64 ((s.pins nmi).cyc + 1) = (t.pinsB nmi).r.cyc := by show IntKind.wrap .i64 (s.cyc + 1) = IntKind.wrap .i64 (t.r.cyc + 1); rw [hc]
  have x1 : (s.pins nmi).mem = (t.pinsB nmi).mem := H.mem
  have x2 : (s.pins nmi).rom = (t.pinsB nmi).rom := H.rom
  have x3 : (s.pins nmi).cnt = (t.pinsB nmi).cnt := H.cnt
  have x4 : (s.pins nmi).calls = (t.pinsB nmi).calls := H.calls
  have x5 : (s.pins nmi).nmiOn = (t.pinsB nmi).nmi := rfl
  have x6 : (s.pins nmi).nmiDue = (t.pinsB nmi).due := by show (s.nmiDue || (nmi && !s.nmiOn)) = (t.due || (nmi && !t.nmi)); rw [H.on, H.due]
  have xB : Bytes_ (s.pins nmi) := N.bytes
  rw [pc_cycle, rs_cycle]
  generalize s.pins nmi = u at *
  generalize t.pinsB nmi = v at *
  have hpk : u.look u.pc = v.peek v.r.PC := by unfold PC.look RS.peek; rw [x1, x3, x4, hF1.pc]
  have hbyte := look_b xB u.pc (by rw [hF1.pc]; exact hR1.PC.2)
  have ea : v.act = ⟨v.r.PC, false, 0, true⟩ := by unfold RS.act; rw [if_neg (by rw [hh1]; decide)]
  have K := read1_kept u u.pc
  -- the bus of both
  obtain ⟨V, hV, w1, w2, w3, w4, w5, w6, w7, w8⟩ : ∃ V : RS, v.bus v.act = (V, ⟨u.pc, u.look u.pc, false, true⟩) ∧ V.mem = v.mem ∧ V.rom = v.rom ∧ V.cnt = v.cnt ∧ (u.read1 u.pc).calls = V.calls ∧ V.nmi = v.nmi ∧ V.due = v.due ∧ V.r = v.r ∧ V.h = v.h := by
    rw [ea]
    unfold RS.bus PC.read1
    simp only [if_true]
    rw [hpk, hF1.pc]
    by_cases e : v.r.PC = 53249
    · rw [if_pos e, if_pos e]; exact ⟨_, rfl, rfl, rfl, rfl, rfl, rfl, rfl, rfl, rfl⟩
    · rw [if_neg e, if_neg e]; exact ⟨_, rfl, rfl, rfl, rfl, x4, rfl, rfl, rfl, rfl⟩
  have em : v.mids irq = V.begins (u.look u.pc) irq := by unfold RS.mids; rw [if_pos (by rw [hh1]; rfl), hV]
  rw [em, hV]
  have et : u.turn irq = u.fetch irq := by unfold PC.turn; rw [if_pos hF1.st]
  rw [et]
  have O := read1_outer u u u.pc ⟨rfl, rfl, rfl, rfl, rfl, rfl, rfl⟩
  have ofields : (u.read1 u.pc).mem = u.mem ∧ (u.read1 u.pc).rom = u.rom ∧ (u.read1 u.pc).cnt = u.cnt ∧ (u.read1 u.pc).nmiOn = u.nmiOn ∧ (u.read1 u.pc).nmiDue = u.nmiDue ∧ (u.read1 u.pc).cyc = u.cyc := by
    unfold PC.read1; split <;> exact ⟨rfl, rfl, rfl, rfl, rfl, rfl⟩
  obtain ⟨o1, o2, o3, o4, o5, o6⟩ := ofields
  clear O
  have fB : Beh (u.read1 u.pc) V.r := by rw [w7]; exact ⟨K.ba.trans hF1.b.a, K.bx.trans hF1.b.x, K.b_y.trans hF1.b.y, K.bs.trans hF1.b.sp, K.bp.trans hF1.b.p, K.bpc.trans hF1.b.pc⟩
  have fA := K.a.trans hF1.a
  have fX := K.x.trans hF1.x
  have fY := K.y.trans hF1.y
  have fS := K.sp.trans hF1.sp
  have fP := K.p.trans hF1.p
  have fPC := K.pc.trans hF1.pc
  rw [← w7] at fA fX fY fS fP fPC hj1 hcy hR1
  have y1 := (o1.trans x1).trans w1.symm
  have y2 := (o2.trans x2).trans w2.symm
  have y3 := (o3.trans x3).trans w3.symm
  have y5 := (o4.trans x5).trans w5.symm
  have y6 := (o5.trans x6).trans w6.symm
  have y7 : IntKind.wrap .i64 ((u.read1 u.pc).cyc + 1) = V.r.cyc := by rw [o6]; exact hcy
  have hh2 := w8.trans hh1
  have c0 : 0 ≤ (u.read1 u.pc).cnt ∧ (u.read1 u.pc).cnt < 256 := by rw [o3]; exact xB.2
  have efetch : u.fetch irq = (if (u.read1 u.pc).nmiDue = true then (({ u.read1 u.pc with nmiDue := false } : PC).begin_ 12 20, (⟨u.pc, u.look u.pc, false, true⟩ : BusI))
      else if (irq || (u.read1 u.pc).calls) = true ∧ hasf (u.read1 u.pc).p 4 = false then ((u.read1 u.pc).begin_ 12 21, ⟨u.pc, u.look u.pc, false, true⟩)
      else (({ u.read1 u.pc with pc := ((u.read1 u.pc).pc + 1) % 65536 } : PC).begin_ (decodeI (u.look u.pc % 256).toNat).1 (decodeI (u.look u.pc % 256).toNat).2, ⟨u.pc, u.look u.pc, false, true⟩)) := rfl
  rw [efetch]
  clear efetch et em ea hV K o1 o2 o3 o4 o5 o6 w1 w2 w3 w5 w6 w7 w8 x1 x2 x3 x4 x5 x6 hF1 hpk hh1 H N hR hj hh hF hc xB
  generalize u.read1 u.pc = U at *
  generalize u.look u.pc = D at *
  generalize u.pc = A at *
  by_cases q1 : U.nmiDue = true
  · have eb : V.begins D irq = { V with due := false, op := (b3 78 77 73), md := (b3 115 101 113) } := by unfold RS.begins; rw [if_pos (y6 ▸ q1)]
    have ew : ({ U with nmiDue := false } : PC).begin_ 12 20 = { U with nmiDue := false, ins := 12, md := 20, step := 0, st := 1 } := by unfold PC.begin_; rw [if_neg (by decide)]
    rw [if_pos q1, eb, ew]
    exact ends_alike ({ U with nmiDue := false, ins := 12, md := 20, step := 0, st := 1 } : PC) ({ V with due := false, op := (b3 78 77 73), md := (b3 115 101 113) } : RS) _ c0 y1 y2 y3 w4 y5 rfl y7 (fun c d e T => way_begun ({ U with nmiDue := false, ins := 12, md := 20, step := 0, st := 1 } : PC) ({ V with due := false, op := (b3 78 77 73), md := (b3 115 101 113) } : RS) _ 12 20 hj1 hh2 (by decide) (by decide) rfl rfl ⟨fA, fX, fY, fP, rfl, rfl⟩ ⟨fB.a, fB.x, fB.y, fB.sp, fB.p, fB.pc⟩ hbyte rfl rfl fS fPC c d e T)
  · rw [if_neg q1]
    have hp4 : hasf U.p 4 = false ↔ i64and V.r.P 4 = 0 := by
      unfold hasf; rw [fP, and_u8_i64 V.r.P 4 hR1.P.1 hR1.P.2 (by decide) (by decide)]; simp
    by_cases q2 : (irq || U.calls) = true ∧ hasf U.p 4 = false
    · have eb : V.begins D irq = { V with op := (b3 73 82 81), md := (b3 115 101 113) } := by
        unfold RS.begins; rw [if_neg (y6 ▸ q1), if_pos ⟨w4 ▸ q2.1, hp4.1 q2.2⟩]
      have ew : U.begin_ 12 21 = { U with ins := 12, md := 21, step := 0, st := 1 } := by unfold PC.begin_; rw [if_neg (by decide)]
      rw [if_pos q2, eb, ew]
      exact ends_alike ({ U with ins := 12, md := 21, step := 0, st := 1 } : PC) ({ V with op := (b3 73 82 81), md := (b3 115 101 113) } : RS) _ c0 y1 y2 y3 w4 y5 y6 y7 (fun c d e T => way_begun ({ U with ins := 12, md := 21, step := 0, st := 1 } : PC) ({ V with op := (b3 73 82 81), md := (b3 115 101 113) } : RS) _ 12 21 hj1 hh2 (by decide) (by decide) rfl rfl ⟨fA, fX, fY, fP, rfl, rfl⟩ ⟨fB.a, fB.x, fB.y, fB.sp, fB.p, fB.pc⟩ hbyte rfl rfl fS fPC c d e T)
    · rw [if_neg q2]
      obtain ⟨n, rfl⟩ := Int.eq_ofNat_of_zero_le hbyte.1
      have hn : n < 256 := by omega
      have en : ((n : Int) % 256).toNat = n := by omega
      rw [en]
      have eb : V.begins (n : Int) irq = { V with op := (codeR n).1, md := (codeR n).2, r := { V.r with jam := (codeR n).1 == ⟨#[]⟩ } } := by
        unfold RS.begins; rw [if_neg (y6 ▸ q1), if_neg (fun x => q2 ⟨w4.symm ▸ x.1, hp4.2 x.2⟩)]
      rw [eb]
      rcases code_alike n hn with ⟨z, cz⟩ | ⟨nz, okk, cn, -⟩
      · rw [cz, z]
        have ew : ({ U with pc := (U.pc + 1) % 65536 } : PC).begin_ (decodeI n).1 (0 : Nat) = { U with pc := (U.pc + 1) % 65536, ins := (decodeI n).1, md := 0, step := 0, st := 5 } := by unfold PC.begin_; rw [if_pos (by decide)]; rfl
        rw [ew]
        refine ends_alike _ _ _ c0 y1 y2 y3 w4 y5 y6 y7 (fun c d e T e1 e2 e3 e4 => ?_)
        have ej : T.r.jam = true := by rw [e3]; rfl
        have ea : (T.after (⟨A, (n : Int), false, true⟩ : BusI)).1 = T := by unfold RS.after; rw [if_pos ej]
        rw [ea]
        refine .jam ej rfl ?_
        rw [e3]; exact ⟨fB.a, fB.x, fB.y, fB.sp, fB.p, fB.pc⟩
      · obtain ⟨l1, l2⟩ := decode_lt n hn
        have hm2 : ¬ ((decodeI n).2 = 20 ∨ (decodeI n).2 = 21) := by
          have : ∀ n : Fin 256, ¬ ((decodeI n.val).2 = 20 ∨ (decodeI n.val).2 = 21) := by decide +kernel
          exact this ⟨n, hn⟩
        have ew : ({ U with pc := (U.pc + 1) % 65536 } : PC).begin_ (decodeI n).1 (decodeI n).2 = { U with pc := (U.pc + 1) % 65536, ins := (decodeI n).1, md := (decodeI n).2, step := 0, st := 1 } := by unfold PC.begin_; rw [if_neg (by omega)]
        rw [ew]
        have ejam : ((codeR n).1 == ⟨#[]⟩) = false := by
          have : ∀ n : Fin 256, (decodeI n.val).2 ≠ 0 → ((codeR (n.val : Nat)).1 == ⟨#[]⟩) = false := by decide +kernel
          exact this ⟨n, hn⟩ nz
        rw [ejam, cn]
        refine ends_alike ({ U with pc := (U.pc + 1) % 65536, ins := (decodeI n).1, md := (decodeI n).2, step := 0, st := 1 } : PC) ({ V with op := opName (decodeI n).1 (decodeI n).2, md := modeName (decodeI n).2, r := { V.r with jam := false } } : RS) _ c0 y1 y2 y3 w4 y5 y6 y7 (fun c d e T => way_begun ({ U with pc := (U.pc + 1) % 65536, ins := (decodeI n).1, md := (decodeI n).2, step := 0, st := 1 } : PC) ({ V with op := opName (decodeI n).1 (decodeI n).2, md := modeName (decodeI n).2, r := { V.r with jam := false } } : RS) _ (decodeI n).1 (decodeI n).2 rfl hh2 l1 okk rfl rfl ⟨fA, fX, fY, fP, rfl, rfl⟩ ⟨fB.a, fB.x, fB.y, fB.sp, fB.p, fB.pc⟩ hbyte rfl rfl fS ?_ c d e T)
        rw [if_neg hm2]
        show (U.pc + 1) % 65536 = (V.r.PC + 1) % 65536
        rw [fPC]

/-- A cycle, alike. -/
theorem cycle_alike (s : PC) (t : RS) (nmi irq : Bool) (H : Alike s t) (N : Rn s) (hj : t.r.jam = false) :
    (s.cycle nmi irq).2 = (t.cycle nmi irq).2 ∧ Alike (s.cycle nmi irq).1 (t.cycle nmi irq).1 := by
  cases H.way with
  | idle hh _ hF => exact cycle_idle s t nmi irq H N hj hh hF
  | midst i m hne _ hi hok hop hmd hL hH hb hM => exact cycle_mid s t nmi irq H N hj i m hne hi hok hop hmd hL hH hb hM
  | jam e _ _ => rw [hj] at e; cases e

theorem midst_st {s : PC} {r : RG} {i m : Nat} {h : List Int} (hM : Midst s r i m h) : s.st = 1 ∨ s.st = 2 ∨ s.st = 3 ∨ s.st = 4 := by
  cases hM with
  | one _ _ x => exact .inl x
  | plc _ _ q =>
    cases q with
    | acc _ _ _ _ _ _ w =>
      cases w with
      | due _ x => exact .inr (.inl x)
      | was _ _ x => exact .inr (.inr (.inl x))
      | new _ _ x => exact .inr (.inr (.inr x))
    | one _ _ x => exact .inl x
    | low _ x => exact .inl x
    | abs3 _ x => exact .inl x
    | hop2 _ x => exact .inl x
    | izx3 x => exact .inl x
    | izx4 x => exact .inl x
    | izy3 x => exact .inl x
    | izy4 x => exact .inl x
  | rel _ q => cases q with
    | two _ x => exact .inl x
    | three _ x => exact .inl x
  | jmp _ q => cases q with
    | two _ x => exact .inl x
    | three x => exact .inl x
    | four x => exact .inl x
  | jsr _ q => cases q <;> (rename_i x _ _ _ _; exact .inl x)
  | back _ q => cases q with
    | two x => exact .inl x
    | three x => exact .inl x
    | rts4 x => exact .inl x
    | rts5 x => exact .inl x
    | rti4 x => exact .inl x
    | rti5 x => exact .inl x
  | push _ q => cases q with
    | two x => exact .inl x
  | pull _ q => cases q with
    | two x => exact .inl x
    | three x => exact .inl x
  | int _ q => cases q with
    | two x => exact .inl x
    | three x => exact .inl x
    | four x => exact .inl x
    | five x => exact .inl x
    | six x => exact .inl x

theorem alike_jam (s : PC) (t : RS) (H : Alike s t) : (s.st == 5) = t.r.jam := by
  cases H.way with
  | idle _ e f => rw [e, f.st]; rfl
  | midst i m _ e _ _ _ _ _ _ _ hM =>
    rw [e]
    have := midst_st hM
    rcases this with e | e | e | e <;> rw [e] <;> rfl
  | jam e f _ => rw [e, f]; rfl
end

end Go.Proofs.YtcgjliflnnklnaaGreat
