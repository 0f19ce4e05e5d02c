/-
  Joined texts.
-/
import Derived.Test.YtcgjliflnnklnabGreatCpRg
import Derived.Test.YtcgjliflnnklnabGreatQO
namespace Go.Proofs.YtcgjliflnnklnabGreat
open Go.RowKit

/-
  What every cycle of the program's computer keeps: its byte is memory's, its instruction ends in time.
-/
section
/-- How many cycles behind the fetch a mode has, at most. -/
def lenM (m : Nat) : Nat := [0, 1, 1, 1, 1, 2, 2, 2, 3, 3, 4, 4, 3, 2, 4, 5, 5, 2, 3, 6, 6, 6, 5].getD m 0

/-- How the computer stands n cycles behind the last fetch. -/
inductive TrI (s : PC) (n : Nat) : Prop
  | idle : s.st = 0 → s.bpc = s.pc → n ≤ 7 → TrI s n
  | mid (m : Nat) : s.st = 1 → s.md = m → 1 ≤ m → m ≤ 22 → s.step = n → n < lenM m → TrI s n
  | two : s.st = 2 → n ≤ 4 → TrI s n
  | three : s.st = 3 → n ≤ 5 → TrI s n
  | four : s.st = 4 → n ≤ 6 → TrI s n
  | jam : s.st = 5 → TrI s n

structure RgP (s : PC) : Prop where
  pc : 0 ≤ s.pc ∧ s.pc < 65536
  ad : 0 ≤ s.ad ∧ s.ad < 65536
  hop : 0 ≤ s.hop ∧ s.hop < 65536
  sp : 0 ≤ s.s ∧ s.s < 256
  x : 0 ≤ s.x ∧ s.x < 256

structure Okr (s : PC) (n : Nat) (r : PC × BusI) : Prop where
  ft : r.2.ft = false
  lo : 0 ≤ r.2.addr
  hi : r.2.addr < 65536
  rom : (r.1.rom, r.1.cyc) = (s.rom, s.cyc)
  byte : r.2.addr / 256 ≠ 208 → ¬ (r.2.wr = true ∧ s.rom ≤ r.2.addr) → r.1.mem r.2.addr.toNat = r.2.data
  nx : TrI r.1 n

structure Kp (s q : PC) : Prop where
  mem : q.mem = s.mem
  rom : (q.rom, q.cyc) = (s.rom, s.cyc)
  st : q.st = s.st
  md : q.md = s.md
  step : q.step = s.step
theorem rk (s : PC) (a : Int) : Kp s (s.read1 a) := by
  unfold PC.read1; split <;> exact ⟨rfl, rfl, rfl, rfl, rfl⟩

structure Wk (s q : PC) (a d : Int) : Prop where
  mem : a / 256 ≠ 208 → a < s.rom → q.mem a.toNat = d
  rom : (q.rom, q.cyc) = (s.rom, s.cyc)
  st : q.st = s.st
  md : q.md = s.md
  step : q.step = s.step
  pc : q.pc = s.pc
  bpc : q.bpc = s.bpc
theorem wk (s : PC) (a d : Int) : Wk s (s.write1 a d) a d := by
  unfold PC.write1
  split
  · exact ⟨fun h _ => by omega, rfl, rfl, rfl, rfl, rfl, rfl⟩
  split
  · exact ⟨fun _ _ => by show mput s.mem a.toNat d a.toNat = d; unfold mput; rw [if_pos rfl], rfl, rfl, rfl, rfl, rfl, rfl⟩
  · exact ⟨fun h h2 => by omega, rfl, rfl, rfl, rfl, rfl, rfl⟩

structure Ik (s q : PC) : Prop where
  mem : q.mem = s.mem
  rom : (q.rom, q.cyc) = (s.rom, s.cyc)
  st : q.st = s.st
  md : q.md = s.md
  step : q.step = s.step
  ad : q.ad = s.ad
  sp : q.s = s.s ∨ q.s = s.x
theorem ik (s : PC) (i : Nat) : Ik s (s.doIns i) := by
  unfold PC.doIns
  split <;> exact ⟨rfl, rfl, rfl, rfl, rfl, rfl, by first | exact .inl rfl | exact .inr rfl⟩

theorem Okr.r {s q : PC} {n : Nat} {a : Int} (h0 : 0 ≤ a) (h1 : a < 65536) (hm : q.mem = s.mem) (hr : (q.rom, q.cyc) = (s.rom, s.cyc)) (hn : TrI q n) : Okr s n (q, ⟨a, s.look a, false, false⟩) :=
  ⟨rfl, h0, h1, hr, fun h _ => by show q.mem a.toNat = s.look a; rw [hm]; have h' : a / 256 ≠ 208 := h; unfold PC.look; rw [if_neg (by omega), if_neg (by omega)], hn⟩
theorem Okr.w {s q : PC} {n : Nat} {a d : Int} (h0 : 0 ≤ a) (h1 : a < 65536) (hm : a / 256 ≠ 208 → a < s.rom → q.mem a.toNat = d) (hr : (q.rom, q.cyc) = (s.rom, s.cyc)) (hn : TrI q n) : Okr s n (q, ⟨a, d, true, false⟩) :=
  ⟨rfl, h0, h1, hr, fun h h2 => hm h (by have h3 : ¬ (true = true ∧ s.rom ≤ a) := h2; simp at h3; omega), hn⟩

/-- The midst of an instruction of mode m, at its step n + 1. -/
structure MidH (s : PC) (n m : Nat) : Prop where
  st : s.st = 1
  md : s.md = m
  h1 : 1 ≤ m
  h2 : m ≤ 22
  step : s.step = (n : Int) + 1

theorem MidH.stay {s q : PC} {n m : Nat} (M : MidH s n m) (e1 : q.st = s.st) (e2 : q.md = s.md) (e3 : q.step = s.step) (hl : n + 1 < lenM m) : TrI q (n + 1) :=
  .mid m (e1.trans M.st) (e2.trans M.md) M.h1 M.h2 (e3.trans (by rw [M.step]; omega)) hl

theorem range_pc {s : PC} (R : RgP s) : 0 ≤ s.stackTop ∧ s.stackTop < 65536 := by
  have := R.sp; unfold PC.stackTop joinI; omega
theorem range_in {a : Int} (h0 : 0 ≤ a) (h1 : a < 65536) (i : Int) : 0 ≤ withinI a i ∧ withinI a i < 65536 := by
  unfold withinI joinI loI hiI; omega

/-- A byte accessed. -/
theorem ok_access (s : PC) (n : Nat) (h0 : 0 ≤ s.ad) (h1 : s.ad < 65536) (hn : n ≤ 4) : Okr s (n + 1) s.access := by
  unfold PC.access
  split
  · have I := ik s s.ins.toNat
    have K := wk s.performLast s.performLast.ad s.performLast.data
    have ea : s.performLast.ad = s.ad := I.ad
    have er : (s.performLast.rom, s.performLast.cyc) = (s.rom, s.cyc) := I.rom
    have er' : s.performLast.rom = s.rom := (Prod.mk.inj er).1
    refine Okr.w (s := s) (q := s.performLast.write1 s.performLast.ad s.performLast.data) (a := s.performLast.ad) (d := s.performLast.data) (by omega) (by omega) (fun x y => K.mem x (by omega)) (K.rom.trans er) (.idle (K.st.trans rfl) (K.bpc.trans (by rw [K.pc]; rfl)) (by omega))
  split
  · have K := rk ({ s with st := 3 } : PC) s.ad
    exact Okr.r (s := s) (q := (takeData (({ s with st := 3 } : PC).read s.ad)).1) (a := s.ad) h0 h1 K.mem K.rom (.three K.st (by omega))
  · have K := rk s s.ad
    have I := ik (takeData (s.read s.ad)).1 (takeData (s.read s.ad)).1.ins.toNat
    exact Okr.r (s := s) (q := (takeData (s.read s.ad)).1.performLast) (a := s.ad) h0 h1 (I.mem.trans K.mem) (I.rom.trans K.rom) (.idle rfl rfl (by omega))

theorem ok_restore (s : PC) (n : Nat) (h0 : 0 ≤ s.ad) (h1 : s.ad < 65536) (hn : n ≤ 5) : Okr s (n + 1) s.restore := by
  have K := wk ({ s with st := 4 } : PC) s.ad s.data
  exact Okr.w (s := s) (q := ({ s with st := 4 } : PC).write1 s.ad s.data) (a := s.ad) (d := s.data) h0 h1 K.mem K.rom (.four K.st (by omega))
theorem ok_change (s : PC) (n : Nat) (h0 : 0 ≤ s.ad) (h1 : s.ad < 65536) (hn : n ≤ 6) : Okr s (n + 1) s.change := by
  have I := ik s s.ins.toNat
  have K := wk s.performLast s.performLast.ad s.performLast.data
  have ea : s.performLast.ad = s.ad := I.ad
  have er : (s.performLast.rom, s.performLast.cyc) = (s.rom, s.cyc) := I.rom
  have er' : s.performLast.rom = s.rom := (Prod.mk.inj er).1
  exact Okr.w (s := s) (q := s.performLast.write1 s.performLast.ad s.performLast.data) (a := s.performLast.ad) (d := s.performLast.data) (by omega) (by omega) (fun x y => K.mem x (by omega)) (K.rom.trans er) (.idle (K.st.trans rfl) (K.bpc.trans (by rw [K.pc]; rfl)) (by omega))

/-- A read that stays in the mode. -/
theorem ok_stay {s : PC} {n m : Nat} (M : MidH s n m) (q : PC) (a : Int) (K : Kp s q) (h : 0 ≤ a ∧ a < 65536) (hl : n + 1 < lenM m) : Okr s (n + 1) (q, ⟨a, s.look a, false, false⟩) :=
  Okr.r h.1 h.2 K.mem K.rom (M.stay K.st K.md K.step hl)
/-- A read that gathers the last byte of an address. -/
theorem ok_two {s : PC} {n : Nat} (q : PC) (a : Int) (hm : q.mem = s.mem) (hr : (q.rom, q.cyc) = (s.rom, s.cyc)) (hs : q.st = 2) (h : 0 ≤ a ∧ a < 65536) (hl : n ≤ 3) : Okr s (n + 1) (q, ⟨a, s.look a, false, false⟩) :=
  Okr.r h.1 h.2 hm hr (.two hs (by omega))
/-- A read that ends the instruction. -/
theorem ok_fin {s : PC} {n : Nat} (q : PC) (a : Int) (hm : q.mem = s.mem) (hr : (q.rom, q.cyc) = (s.rom, s.cyc)) (hs : q.st = 0) (hb : q.bpc = q.pc) (h : 0 ≤ a ∧ a < 65536) (hl : n ≤ 6) : Okr s (n + 1) (q, ⟨a, s.look a, false, false⟩) :=
  Okr.r h.1 h.2 hm hr (.idle hs hb (by omega))

theorem ok_readNext {s : PC} {n m : Nat} (R : RgP s) (M : MidH s n m) (hl : n + 1 < lenM m) :
    Okr s (n + 1) s.readNext ∧ Okr s (n + 1) (takeLow s.readNext) ∧ Okr s (n + 1) (takeHigh s.readNext) ∧ Okr s (n + 1) (takeHop s.readNext) :=
  ⟨ok_stay M s.readNext.1 s.pc ⟨(rk s s.pc).mem, (rk s s.pc).rom, (rk s s.pc).st, (rk s s.pc).md, (rk s s.pc).step⟩ R.pc hl, ok_stay M (takeLow s.readNext).1 s.pc ⟨(rk s s.pc).mem, (rk s s.pc).rom, (rk s s.pc).st, (rk s s.pc).md, (rk s s.pc).step⟩ R.pc hl, ok_stay M (takeHigh s.readNext).1 s.pc ⟨(rk s s.pc).mem, (rk s s.pc).rom, (rk s s.pc).st, (rk s s.pc).md, (rk s s.pc).step⟩ R.pc hl, ok_stay M (takeHop s.readNext).1 s.pc ⟨(rk s s.pc).mem, (rk s s.pc).rom, (rk s s.pc).st, (rk s s.pc).md, (rk s s.pc).step⟩ R.pc hl⟩
theorem ok_read {s : PC} {n m : Nat} (M : MidH s n m) (a : Int) (h : 0 ≤ a ∧ a < 65536) (hl : n + 1 < lenM m) :
    Okr s (n + 1) (s.read a) ∧ Okr s (n + 1) (takeLow (s.read a)) ∧ Okr s (n + 1) (takeHigh (s.read a)) ∧ Okr s (n + 1) (takeData (s.read a)) :=
  ⟨ok_stay M (s.read a).1 a ⟨(rk s a).mem, (rk s a).rom, (rk s a).st, (rk s a).md, (rk s a).step⟩ h hl, ok_stay M (takeLow (s.read a)).1 a ⟨(rk s a).mem, (rk s a).rom, (rk s a).st, (rk s a).md, (rk s a).step⟩ h hl, ok_stay M (takeHigh (s.read a)).1 a ⟨(rk s a).mem, (rk s a).rom, (rk s a).st, (rk s a).md, (rk s a).step⟩ h hl, ok_stay M (takeData (s.read a)).1 a ⟨(rk s a).mem, (rk s a).rom, (rk s a).st, (rk s a).md, (rk s a).step⟩ h hl⟩
theorem ok_pulled {s : PC} {n m : Nat} (M : MidH s n m) (hl : n + 1 < lenM m) :
    Okr s (n + 1) (takeLow s.pulled) ∧ Okr s (n + 1) (takeHigh s.pulled) ∧ Okr s (n + 1) (takeData s.pulled) := by
  have h : 0 ≤ joinI ((s.s + 1) % 256) 1 ∧ joinI ((s.s + 1) % 256) 1 < 65536 := by unfold joinI; omega
  exact ⟨ok_stay M (takeLow s.pulled).1 (joinI ((s.s + 1) % 256) 1) ⟨(rk ({ s with s := (s.s + 1) % 256 } : PC) (joinI ((s.s + 1) % 256) 1)).mem, (rk ({ s with s := (s.s + 1) % 256 } : PC) (joinI ((s.s + 1) % 256) 1)).rom, (rk ({ s with s := (s.s + 1) % 256 } : PC) (joinI ((s.s + 1) % 256) 1)).st, (rk ({ s with s := (s.s + 1) % 256 } : PC) (joinI ((s.s + 1) % 256) 1)).md, (rk ({ s with s := (s.s + 1) % 256 } : PC) (joinI ((s.s + 1) % 256) 1)).step⟩ h hl, ok_stay M (takeHigh s.pulled).1 (joinI ((s.s + 1) % 256) 1) ⟨(rk ({ s with s := (s.s + 1) % 256 } : PC) (joinI ((s.s + 1) % 256) 1)).mem, (rk ({ s with s := (s.s + 1) % 256 } : PC) (joinI ((s.s + 1) % 256) 1)).rom, (rk ({ s with s := (s.s + 1) % 256 } : PC) (joinI ((s.s + 1) % 256) 1)).st, (rk ({ s with s := (s.s + 1) % 256 } : PC) (joinI ((s.s + 1) % 256) 1)).md, (rk ({ s with s := (s.s + 1) % 256 } : PC) (joinI ((s.s + 1) % 256) 1)).step⟩ h hl, ok_stay M (takeData s.pulled).1 (joinI ((s.s + 1) % 256) 1) ⟨(rk ({ s with s := (s.s + 1) % 256 } : PC) (joinI ((s.s + 1) % 256) 1)).mem, (rk ({ s with s := (s.s + 1) % 256 } : PC) (joinI ((s.s + 1) % 256) 1)).rom, (rk ({ s with s := (s.s + 1) % 256 } : PC) (joinI ((s.s + 1) % 256) 1)).st, (rk ({ s with s := (s.s + 1) % 256 } : PC) (joinI ((s.s + 1) % 256) 1)).md, (rk ({ s with s := (s.s + 1) % 256 } : PC) (joinI ((s.s + 1) % 256) 1)).step⟩ h hl⟩
theorem ok_pushed {s : PC} {n m : Nat} (R : RgP s) (M : MidH s n m) (d : Int) (hl : n + 1 < lenM m) : Okr s (n + 1) (s.pushed d) := by
  have h := range_pc R
  have K := wk s s.stackTop d
  exact Okr.w (s := s) (q := (s.pushed d).1) (a := s.stackTop) (d := d) h.1 h.2 K.mem K.rom (M.stay K.st K.md K.step hl)
/-- A read of the address's high byte, and there. -/
theorem ok_there {s : PC} {n : Nat} (a : Int) (h : 0 ≤ a ∧ a < 65536) (hl : n ≤ 6) : Okr s (n + 1) (goThere (s.read a)) := by
  have K := rk s a
  have I := ik (takeHigh (s.read a)).1 (takeHigh (s.read a)).1.ins.toNat
  exact ok_fin (goThere (s.read a)).1 a (I.mem.trans K.mem) (I.rom.trans K.rom) rfl rfl h hl
/-- A read, and the instruction is done. -/
theorem ok_last {s : PC} {n : Nat} (q : PC) (a : Int) (h : 0 ≤ a ∧ a < 65536) (hm : q.mem = s.mem) (hr : (q.rom, q.cyc) = (s.rom, s.cyc)) (hl : n ≤ 6) : Okr s (n + 1) (q.performLast, ⟨a, s.look a, false, false⟩) := by
  have I := ik q q.ins.toNat
  exact ok_fin q.performLast a (I.mem.trans hm) (I.rom.trans hr) rfl rfl h hl
end

/-
  Every mode, every cycle.
-/
section
theorem ok_indexed (s : PC) (n : Nat) (i : Int) (R : RgP s) (hn : n ≤ 3) : Okr s (n + 1) (s.indexed i) := by
  unfold PC.indexed
  simp only []
  split
  · have A := ok_access ({ s with ad := (s.ad + i) % 65536, st := 2 } : PC) n (by show 0 ≤ (s.ad + i) % 65536; omega) (by show (s.ad + i) % 65536 < 65536; omega) (by omega)
    exact ⟨A.ft, A.lo, A.hi, A.rom, A.byte, A.nx⟩
  · have K := rk ({ s with ad := (s.ad + i) % 65536, st := 2 } : PC) (withinI s.ad i)
    exact ok_two (({ s with ad := (s.ad + i) % 65536, st := 2 } : PC).read (withinI s.ad i)).1 (withinI s.ad i) K.mem K.rom K.st (range_in R.ad.1 R.ad.2 i) hn

theorem ok_enter {s : PC} {n m : Nat} (R : RgP s) (M : MidH s n m) (v f : Int) (hv : 0 ≤ v ∧ v < 65536) (h1 : 1 ≤ n) (h6 : n < 6) (hl : lenM m = 6) : Okr s (n + 1) (s.enter v f) := by
  have hs := M.step
  unfold PC.enter
  split
  · exact ok_pushed R M _ (by omega)
  split
  · exact ok_pushed R M _ (by omega)
  split
  · exact ok_pushed R M _ (by omega)
  split
  · exact (ok_read M v hv (by omega)).2.1
  · exact ok_there _ (by omega) (by omega)

theorem ok_1 {s : PC} {n : Nat} (R : RgP s) (hl : n < 1) : Okr s (n + 1) s.implied :=
  ok_last (s.read s.pc).1 s.pc R.pc (rk s s.pc).mem (rk s s.pc).rom (by omega)
theorem ok_2 {s : PC} {n : Nat} (R : RgP s) (hl : n < 1) : Okr s (n + 1) s.accumulator := by
  have K := rk s s.pc
  have I := ik ({ (s.read s.pc).1 with data := (s.read s.pc).1.a } : PC) (s.read s.pc).1.ins.toNat
  exact ok_fin s.accumulator.1 s.pc (I.mem.trans K.mem) (I.rom.trans K.rom) rfl rfl R.pc (by omega)
theorem ok_3 {s : PC} {n : Nat} (R : RgP s) (hl : n < 1) : Okr s (n + 1) s.immediate :=
  ok_last (takeData s.readNext).1 s.pc R.pc (rk s s.pc).mem (rk s s.pc).rom (by omega)
theorem ok_4 {s : PC} {n : Nat} (R : RgP s) (hl : n < 1) : Okr s (n + 1) s.zeroPage := by
  have K := rk ({ s with st := 2 } : PC) s.pc
  exact ok_two s.zeroPage.1 s.pc K.mem K.rom K.st R.pc (by omega)
theorem ok_5 {s : PC} {n m : Nat} (R : RgP s) (M : MidH s n m) (i : Int) (hl : n < 2) (e : lenM m = 2) : Okr s (n + 1) (s.zeroPageBy i) := by
  have hs := M.step
  unfold PC.zeroPageBy
  split
  · exact (ok_readNext R M (by omega)).2.1
  · have K := rk s s.ad
    exact ok_two ({ (s.read s.ad).1 with ad := withinI (s.read s.ad).1.ad i, st := 2 } : PC) s.ad K.mem K.rom rfl R.ad (by omega)
theorem ok_7 {s : PC} {n m : Nat} (R : RgP s) (M : MidH s n m) (hl : n < 2) (e : lenM m = 2) : Okr s (n + 1) s.absolute := by
  have hs := M.step
  unfold PC.absolute
  split
  · exact (ok_readNext R M (by omega)).2.1
  · have K := rk ({ s with st := 2 } : PC) s.pc
    exact ok_two (takeHigh ({ s with st := 2 } : PC).readNext).1 s.pc K.mem K.rom K.st R.pc (by omega)
theorem ok_8 {s : PC} {n m : Nat} (R : RgP s) (M : MidH s n m) (i : Int) (hl : n < 3) (e : lenM m = 3) : Okr s (n + 1) (s.absoluteBy i) := by
  have hs := M.step
  unfold PC.absoluteBy
  split
  · exact (ok_readNext R M (by omega)).2.1
  split
  · exact (ok_readNext R M (by omega)).2.2.1
  · exact ok_indexed s n i R (by omega)
theorem ok_10 {s : PC} {n m : Nat} (R : RgP s) (M : MidH s n m) (hl : n < 4) (e : lenM m = 4) : Okr s (n + 1) s.indirectX := by
  have hs := M.step
  unfold PC.indirectX
  split
  · exact (ok_readNext R M (by omega)).2.2.2
  split
  · exact ok_stay M ({ (s.read s.hop).1 with hop := withinI (s.read s.hop).1.hop (s.read s.hop).1.x } : PC) s.hop ⟨(rk s s.hop).mem, (rk s s.hop).rom, (rk s s.hop).st, (rk s s.hop).md, (rk s s.hop).step⟩ R.hop (by omega)
  split
  · exact (ok_read M s.hop R.hop (by omega)).2.1
  · have K := rk ({ s with st := 2 } : PC) (withinI s.hop 1)
    exact ok_two (takeHigh (({ s with st := 2 } : PC).read (withinI s.hop 1))).1 (withinI s.hop 1) K.mem K.rom K.st (range_in R.hop.1 R.hop.2 1) (by omega)
theorem ok_11 {s : PC} {n m : Nat} (R : RgP s) (M : MidH s n m) (hl : n < 4) (e : lenM m = 4) : Okr s (n + 1) s.indirectY := by
  have hs := M.step
  unfold PC.indirectY
  split
  · exact (ok_readNext R M (by omega)).2.2.2
  split
  · exact (ok_read M s.hop R.hop (by omega)).2.1
  split
  · exact (ok_read M (withinI s.hop 1) (range_in R.hop.1 R.hop.2 1) (by omega)).2.2.1
  · exact ok_indexed s n s.y R (by omega)
theorem ok_12 {s : PC} {n m : Nat} (R : RgP s) (M : MidH s n m) (hl : n < 3) (e : lenM m = 3) : Okr s (n + 1) s.relative := by
  have hs := M.step
  unfold PC.relative
  split
  · have K := rk s s.pc
    have I := ik ({ s.readNext.1 with ad := (s.readNext.1.pc + sgn s.readNext.2.data) % 65536 } : PC) s.readNext.1.ins.toNat
    refine Okr.r (s := s) (a := s.pc) R.pc.1 R.pc.2 ?_ ?_ ?_
    · split
      · exact I.mem.trans K.mem
      · exact I.mem.trans K.mem
    · split
      · exact I.rom.trans K.rom
      · exact I.rom.trans K.rom
    · split
      · exact M.stay (I.st.trans K.st) (I.md.trans K.md) (I.step.trans K.step) (by omega)
      · exact .idle rfl rfl (by omega)
  split
  · have K := rk s s.pc
    refine Okr.r (s := s) (a := s.pc) R.pc.1 R.pc.2 ?_ ?_ ?_
    · split
      · exact K.mem
      · exact K.mem
    · split
      · exact K.rom
      · exact K.rom
    · split
      · exact .idle rfl rfl (by omega)
      · exact M.stay K.st K.md K.step (by omega)
  · have K := rk s (joinI (loI s.ad) (hiI s.pc))
    have hp := R.pc
    exact ok_fin (s.read (joinI (loI s.ad) (hiI s.pc))).1.branch (joinI (loI s.ad) (hiI s.pc)) K.mem K.rom rfl rfl (by unfold joinI loI hiI; omega) (by omega)
theorem ok_13 {s : PC} {n m : Nat} (R : RgP s) (M : MidH s n m) (hl : n < 2) (e : lenM m = 2) : Okr s (n + 1) s.jumpAbsolute := by
  have hs := M.step
  unfold PC.jumpAbsolute
  split
  · exact (ok_readNext R M (by omega)).2.1
  · exact ok_there _ R.pc (by omega)
theorem ok_14 {s : PC} {n m : Nat} (R : RgP s) (M : MidH s n m) (hl : n < 4) (e : lenM m = 4) : Okr s (n + 1) s.jumpIndirect := by
  have hs := M.step
  unfold PC.jumpIndirect
  split
  · exact (ok_readNext R M (by omega)).2.1
  split
  · exact ok_stay M ({ (takeHigh s.readNext).1 with hop := (takeHigh s.readNext).1.ad } : PC) s.pc ⟨(rk s s.pc).mem, (rk s s.pc).rom, (rk s s.pc).st, (rk s s.pc).md, (rk s s.pc).step⟩ R.pc (by omega)
  split
  · exact (ok_read M s.hop R.hop (by omega)).2.1
  · exact ok_there _ (range_in R.hop.1 R.hop.2 1) (by omega)
theorem ok_15 {s : PC} {n m : Nat} (R : RgP s) (M : MidH s n m) (hl : n < 5) (e : lenM m = 5) : Okr s (n + 1) s.callSubroutine := by
  have hs := M.step
  unfold PC.callSubroutine
  split
  · exact (ok_readNext R M (by omega)).2.1
  split
  · exact (ok_read M _ (range_pc R) (by omega)).1
  split
  · exact ok_pushed R M _ (by omega)
  split
  · exact ok_pushed R M _ (by omega)
  · exact ok_there _ R.pc (by omega)
theorem ok_16 {s : PC} {n m : Nat} (R : RgP s) (M : MidH s n m) (hl : n < 5) (e : lenM m = 5) : Okr s (n + 1) s.leaveSubroutine := by
  have hs := M.step
  unfold PC.leaveSubroutine
  split
  · exact (ok_read M _ R.pc (by omega)).1
  split
  · exact (ok_read M _ (range_pc R) (by omega)).1
  split
  · exact (ok_pulled M (by omega)).1
  split
  · exact (ok_pulled M (by omega)).2.1
  · exact ok_last (s.read s.ad).1 s.ad R.ad (rk s s.ad).mem (rk s s.ad).rom (by omega)
theorem ok_22 {s : PC} {n m : Nat} (R : RgP s) (M : MidH s n m) (hl : n < 5) (e : lenM m = 5) : Okr s (n + 1) s.leaveInterrupt := by
  have hs := M.step
  unfold PC.leaveInterrupt
  split
  · exact (ok_read M _ R.pc (by omega)).1
  split
  · exact (ok_read M _ (range_pc R) (by omega)).1
  split
  · exact (ok_pulled M (by omega)).2.2
  split
  · exact (ok_pulled M (by omega)).1
  · have K := rk ({ s with s := (s.s + 1) % 256 } : PC) (joinI ((s.s + 1) % 256) 1)
    have I := ik (takeHigh s.pulled).1 (takeHigh s.pulled).1.ins.toNat
    exact ok_fin (goThere s.pulled).1 (joinI ((s.s + 1) % 256) 1) (I.mem.trans K.mem) (I.rom.trans K.rom) rfl rfl (by unfold joinI; omega) (by omega)
theorem ok_17 {s : PC} {n m : Nat} (R : RgP s) (M : MidH s n m) (hl : n < 2) (e : lenM m = 2) : Okr s (n + 1) s.pushByte := by
  have hs := M.step
  unfold PC.pushByte
  split
  · exact (ok_read M _ R.pc (by omega)).1
  · have I := ik s s.ins.toNat
    have hsp := R.sp
    have hx := R.x
    have ht : 0 ≤ s.perform.stackTop ∧ s.perform.stackTop < 65536 := by
      have e : s.perform.s = s.s ∨ s.perform.s = s.x := I.sp
      unfold PC.stackTop joinI
      rcases e with e | e <;> rw [e] <;> omega
    have er : (s.perform.rom, s.perform.cyc) = (s.rom, s.cyc) := I.rom
    have er' : s.perform.rom = s.rom := (Prod.mk.inj er).1
    have K := wk s.perform s.perform.stackTop s.perform.data
    exact Okr.w (s := s) (q := (s.perform.pushed s.perform.data).1.finish) (a := s.perform.stackTop) (d := s.perform.data) ht.1 ht.2 (fun x y => K.mem x (by omega)) (K.rom.trans er) (.idle rfl rfl (by omega))
theorem ok_18 {s : PC} {n m : Nat} (R : RgP s) (M : MidH s n m) (hl : n < 3) (e : lenM m = 3) : Okr s (n + 1) s.pullByte := by
  have hs := M.step
  unfold PC.pullByte
  split
  · exact (ok_read M _ R.pc (by omega)).1
  split
  · exact (ok_read M _ (range_pc R) (by omega)).1
  · have K := rk ({ s with s := (s.s + 1) % 256 } : PC) (joinI ((s.s + 1) % 256) 1)
    exact ok_last (takeData s.pulled).1 (joinI ((s.s + 1) % 256) 1) (by unfold joinI; omega) K.mem K.rom (by omega)
theorem ok_19 {s : PC} {n m : Nat} (R : RgP s) (M : MidH s n m) (hl : n < 6) (e : lenM m = 6) : Okr s (n + 1) s.enterByBreak ∧ Okr s (n + 1) s.enterByNMI ∧ Okr s (n + 1) s.enterByIRQ := by
  have hs := M.step
  unfold PC.enterByBreak PC.enterByNMI PC.enterByIRQ
  by_cases h : s.step = 1
  · rw [if_pos h, if_pos h, if_pos h]
    exact ⟨(ok_readNext R M (by omega)).1, (ok_read M _ R.pc (by omega)).1, (ok_read M _ R.pc (by omega)).1⟩
  · rw [if_neg h, if_neg h, if_neg h]
    exact ⟨ok_enter R M _ _ (by decide) (by omega) hl e, ok_enter R M _ _ (by decide) (by omega) hl e, ok_enter R M _ _ (by decide) (by omega) hl e⟩

theorem ok_mode {s : PC} {n m : Nat} (R : RgP s) (M : MidH s n m) (hl : n < lenM m) : Okr s (n + 1) (s.doMode m) := by
  have h1 := M.h1
  have h2 := M.h2
  rcases (show m = 1 ∨ m = 2 ∨ m = 3 ∨ m = 4 ∨ m = 5 ∨ m = 6 ∨ m = 7 ∨ m = 8 ∨ m = 9 ∨ m = 10 ∨ m = 11 ∨ m = 12 ∨ m = 13 ∨ m = 14 ∨ m = 15 ∨ m = 16 ∨ m = 17 ∨ m = 18 ∨ m = 19 ∨ m = 20 ∨ m = 21 ∨ m = 22 from by omega) with rfl | rfl | rfl | rfl | rfl | rfl | rfl | rfl | rfl | rfl | rfl | rfl | rfl | rfl | rfl | rfl | rfl | rfl | rfl | rfl | rfl | rfl
  · exact ok_1 R hl
  · exact ok_2 R hl
  · exact ok_3 R hl
  · exact ok_4 R hl
  · exact ok_5 R M _ hl rfl
  · exact ok_5 R M _ hl rfl
  · exact ok_7 R M hl rfl
  · exact ok_8 R M _ hl rfl
  · exact ok_8 R M _ hl rfl
  · exact ok_10 R M hl rfl
  · exact ok_11 R M hl rfl
  · exact ok_12 R M hl rfl
  · exact ok_13 R M hl rfl
  · exact ok_14 R M hl rfl
  · exact ok_15 R M hl rfl
  · exact ok_16 R M hl rfl
  · exact ok_17 R M hl rfl
  · exact ok_18 R M hl rfl
  · exact (ok_19 R M hl rfl).1
  · exact (ok_19 R M hl rfl).2.1
  · exact (ok_19 R M hl rfl).2.2
  · exact ok_22 R M hl rfl
end

/-
  A whole cycle: what Traced asks of it.
-/
section
/-- What a turn or a cycle does, n cycles behind the last fetch. -/
structure Cyo (s : PC) (n : Nat) (r : PC × BusI) : Prop where
  lo : 0 ≤ r.2.addr
  hi : r.2.addr < 65536
  rom : (r.1.rom, r.1.cyc) = (s.rom, s.cyc)
  byte : r.2.addr / 256 ≠ 208 → ¬ (r.2.wr = true ∧ s.rom ≤ r.2.addr) → r.1.mem r.2.addr.toNat = r.2.data
  ft : r.2.ft = true → r.2.wr = false ∧ r.2.addr = s.bpc
  nx : TrI r.1 (if r.2.ft = true then 0 else n + 1)
  n7 : n + 1 ≤ 7 ∨ r.2.ft = true

theorem Okr.cyo {s : PC} {n : Nat} {r : PC × BusI} (h : Okr s (n + 1) r) (hn : n + 1 ≤ 7) : Cyo s n r :=
  ⟨h.lo, h.hi, h.rom, h.byte, fun e => by rw [h.ft] at e; exact absurd e (by decide), by rw [h.ft, if_neg (by decide)]; exact h.nx, .inl hn⟩

theorem decode_m (c : Nat) : (decodeI c).2 ≤ 22 := by
  unfold decodeI
  split
  · rename_i e h
    have : ∀ e ∈ opTable, e.2.2 ≤ 22 := by decide +kernel
    exact this e (List.mem_of_find?_eq_some h)
  · show 0 ≤ 22; omega

theorem fetch_ok (s : PC) (n : Nat) (irq : Bool) (R : RgP s) (hb : s.bpc = s.pc) : Cyo s n (s.fetch irq) := by
  have K := rk s s.pc
  have hby : s.pc / 256 ≠ 208 → (s.read1 s.pc).mem s.pc.toNat = s.look s.pc := fun h => by
    rw [K.mem]; unfold PC.look; rw [if_neg (by omega), if_neg (by omega)]
  have go : ∀ q : PC, q.mem = (s.read1 s.pc).mem → (q.rom, q.cyc) = ((s.read1 s.pc).rom, (s.read1 s.pc).cyc) → TrI q 0 → Cyo s n (q, ⟨s.pc, s.look s.pc, false, true⟩) := fun q h1 h2 h3 =>
    ⟨R.pc.1, R.pc.2, h2.trans K.rom, fun h _ => by show q.mem s.pc.toNat = s.look s.pc; rw [h1]; exact hby h, fun _ => ⟨rfl, hb.symm⟩, h3, .inr rfl⟩
  have bg : ∀ (q : PC) (i : Int) (m : Nat), m ≤ 22 → TrI (q.begin_ i m) 0 := fun q i m hm => by
    unfold PC.begin_
    split
    · exact .jam rfl
    · refine .mid m rfl rfl (by omega) hm rfl ?_
      rcases (show m = 1 ∨ m = 2 ∨ m = 3 ∨ m = 4 ∨ m = 5 ∨ m = 6 ∨ m = 7 ∨ m = 8 ∨ m = 9 ∨ m = 10 ∨ m = 11 ∨ m = 12 ∨ m = 13 ∨ m = 14 ∨ m = 15 ∨ m = 16 ∨ m = 17 ∨ m = 18 ∨ m = 19 ∨ m = 20 ∨ m = 21 ∨ m = 22 from by omega) with rfl | rfl | rfl | rfl | rfl | rfl | rfl | rfl | rfl | rfl | rfl | rfl | rfl | rfl | rfl | rfl | rfl | rfl | rfl | rfl | rfl | rfl <;> decide
  have bm : ∀ (q : PC) (i m : Int), (q.begin_ i m).mem = q.mem ∧ ((q.begin_ i m).rom, (q.begin_ i m).cyc) = (q.rom, q.cyc) := fun q i m => by
    unfold PC.begin_; split <;> exact ⟨rfl, rfl⟩
  unfold PC.fetch
  simp only []
  split
  · exact go _ (bm _ _ _).1 (bm _ _ _).2 (bg _ 12 20 (by decide))
  split
  · exact go _ (bm _ _ _).1 (bm _ _ _).2 (bg _ 12 21 (by decide))
  · exact go _ (bm _ _ _).1 (bm _ _ _).2 (bg _ _ _ (decode_m _))

theorem turn_ok (s : PC) (n : Nat) (irq : Bool) (R : RgP s) (I : TrI s n) (h5 : s.st ≠ 5) : Cyo s n (s.turn irq) := by
  unfold PC.turn
  cases I with
  | idle h hb hn => rw [if_pos h]; exact fetch_ok s n irq R hb
  | mid m h hm m1 m2 hs hl =>
    rw [if_neg (by omega), if_neg (by omega), if_neg (by omega), if_neg (by omega)]
    have hl7 : lenM m ≤ 6 := by
      rcases (show m = 1 ∨ m = 2 ∨ m = 3 ∨ m = 4 ∨ m = 5 ∨ m = 6 ∨ m = 7 ∨ m = 8 ∨ m = 9 ∨ m = 10 ∨ m = 11 ∨ m = 12 ∨ m = 13 ∨ m = 14 ∨ m = 15 ∨ m = 16 ∨ m = 17 ∨ m = 18 ∨ m = 19 ∨ m = 20 ∨ m = 21 ∨ m = 22 from by omega) with rfl | rfl | rfl | rfl | rfl | rfl | rfl | rfl | rfl | rfl | rfl | rfl | rfl | rfl | rfl | rfl | rfl | rfl | rfl | rfl | rfl | rfl <;> decide
    have es : IntKind.wrap .i64 (s.step + 1) = (n : Int) + 1 := by rw [IntKind.wrap_i64, hs]; omega
    have A := ok_mode (s := { s with step := IntKind.wrap .i64 (s.step + 1) }) (n := n) (m := m) ⟨R.pc, R.ad, R.hop, R.sp, R.x⟩ ⟨h, hm, m1, m2, es⟩ hl
    have em : s.md.toNat = m := by rw [hm]; rfl
    have A' : Okr s (n + 1) (({ s with step := IntKind.wrap .i64 (s.step + 1) } : PC).doMode m) := ⟨A.ft, A.lo, A.hi, A.rom, A.byte, A.nx⟩
    show Cyo s n (({ s with step := IntKind.wrap .i64 (s.step + 1) } : PC).doMode s.md.toNat)
    rw [em]
    exact A'.cyo (by omega)
  | two h hn => rw [if_neg (by omega), if_pos h]; exact (ok_access s n R.ad.1 R.ad.2 hn).cyo (by omega)
  | three h hn => rw [if_neg (by omega), if_neg (by omega), if_pos h]; exact (ok_restore s n R.ad.1 R.ad.2 hn).cyo (by omega)
  | four h hn => rw [if_neg (by omega), if_neg (by omega), if_neg (by omega), if_pos h]; exact (ok_change s n R.ad.1 R.ad.2 hn).cyo (by omega)
  | jam h => exact absurd h h5

theorem TrI.like {s q : PC} {n : Nat} (h : TrI s n) (e1 : q.st = s.st) (e2 : q.md = s.md) (e3 : q.step = s.step) (e4 : q.bpc = s.bpc) (e5 : q.pc = s.pc) : TrI q n := by
  cases h with
  | idle h hb hn => exact .idle (e1.trans h) (by rw [e4, e5]; exact hb) hn
  | mid m h hm m1 m2 hs hl => exact .mid m (e1.trans h) (e2.trans hm) m1 m2 (e3.trans hs) hl
  | two h hn => exact .two (e1.trans h) hn
  | three h hn => exact .three (e1.trans h) hn
  | four h hn => exact .four (e1.trans h) hn
  | jam h => exact .jam (e1.trans h)

theorem tick_keeps (s : PC) (b : BusI) : (s.ends b).mem = s.mem ∧ (s.ends b).rom = s.rom ∧ (s.ends b).cyc = s.cyc ∧ (s.ends b).st = s.st ∧ (s.ends b).md = s.md ∧ (s.ends b).step = s.step ∧ (s.ends b).bpc = s.bpc ∧ (s.ends b).pc = s.pc := by
  unfold PC.ends PC.tick
  split
  · split
    · exact ⟨rfl, rfl, rfl, rfl, rfl, rfl, rfl, rfl⟩
    · split <;> exact ⟨rfl, rfl, rfl, rfl, rfl, rfl, rfl, rfl⟩
  · exact ⟨rfl, rfl, rfl, rfl, rfl, rfl, rfl, rfl⟩

/-- What Traced asks of a cycle. -/
structure Cyz (s : PC) (n : Nat) (r : PC × BusI) : Prop where
  rom : r.1.rom = s.rom
  cyc : r.1.cyc = IntKind.wrap .i64 (s.cyc + 1)
  byte : r.2.addr / 256 ≠ 208 → ¬ (r.2.wr = true ∧ s.rom ≤ r.2.addr) → r.1.peek r.2.addr = r.2.data
  ft : r.2.ft = true → r.2.wr = false ∧ r.2.addr = s.bpc
  nx : TrI r.1 (if r.2.ft = true then 0 else n + 1)
  n7 : n + 1 ≤ 7 ∨ r.2.ft = true
  lo : 0 ≤ r.2.addr
  hi : r.2.addr < 65536

theorem cycle_ok (s : PC) (n : Nat) (nmi irq : Bool) (R : RgP s) (I : TrI s n) (h5 : s.st ≠ 5) : Cyz s n (s.cycle nmi irq) := by
  have T := turn_ok (s.pins nmi) n irq ⟨R.pc, R.ad, R.hop, R.sp, R.x⟩ (I.like rfl rfl rfl rfl rfl) h5
  rw [pc_cycle]
  generalize (s.pins nmi).turn irq = r at *
  obtain ⟨k1, k2, k3, k4, k5, k6, k7, k8⟩ := tick_keeps r.1 r.2
  obtain ⟨e1, e2⟩ := Prod.mk.inj T.rom
  refine ⟨k2.trans e1, ?_, fun h1 h2 => ?_, T.ft, T.nx.like k4 k5 k6 k7 k8, T.n7, T.lo, T.hi⟩
  · show IntKind.wrap .i64 ((r.1.ends r.2).cyc + 1) = _
    rw [k3, e2]; rfl
  · have q := T.byte h1 h2
    have h1' : r.2.addr / 256 ≠ 208 := h1
    have lo := T.lo
    have hi := T.hi
    show PC.look _ (r.2.addr % 65536) = r.2.data
    rw [Int.emod_eq_of_lt lo hi]
    unfold PC.look
    rw [if_neg (by omega), if_neg (by omega)]
    show (r.1.ends r.2).mem r.2.addr.toNat = _
    rw [k1]; exact q
end

end Go.Proofs.YtcgjliflnnklnabGreat
