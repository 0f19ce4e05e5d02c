/-
  Cells behind the computer, put.
-/
import Derived.Test.YtcgjliflnnklnaaGreatSuR
import Derived.Test.YtcgjliflnnklnaaGreatCpG
namespace Go.Proofs.YtcgjliflnnklnaaGreat
open Go.RowKit

theorem hid {p : Prop} (h : p) : Hid p := h

/-- The cell o behind the computer turned. -/
def PC.put (s : PC) (o : Nat) (v : Value) : PC := s.rr (fun k => if k = o then some v else s.rest k)

theorem put_same (s : PC) (o : Nat) (v : Value) : (s.put o v).rest o = some v := if_pos rfl
theorem put_other (s : PC) (o k : Nat) (v : Value) (h : k ≠ o) : (s.put o v).rest k = s.rest k := if_neg h

theorem CAt.put {w : World} {B : Nat} {s : PC} (h : CAt w B s) (o : Nat) (v v0 : Value) (ho : 65562 ≤ o) (h0 : s.rest o = some v0) : CAt (w.setCell ⟨B, o, none⟩ v) B (s.put o v) := by
  have q : ∀ k, k ≠ o → (w.setCell ⟨B, o, none⟩ v).cell? ⟨B, k, none⟩ = w.cell? ⟨B, k, none⟩ := fun k hk => World.cell?_setCell_other _ _ _ _ (cp_addr _ _ _ (fun e => hk e.symm))
  have p : ∀ k, k < 65562 → (w.setCell ⟨B, o, none⟩ v).cell? ⟨B, k, none⟩ = w.cell? ⟨B, k, none⟩ := fun k hk => q k (by omega)
  have f : ∀ k, (w.setCell ⟨B, o, none⟩ v).frozen? ⟨B, k, none⟩ = false := fun k => by rw [World.frozen?_setCell]; exact h.free k
  refine { h with mem := fun i hi => (p i (by omega)).trans (h.mem i hi), crom := (p _ (by decide)).trans h.crom, ccnt := (p _ (by decide)).trans h.ccnt, ccalls := (p _ (by decide)).trans h.ccalls, ca := (p _ (by decide)).trans h.ca, cx := (p _ (by decide)).trans h.cx, cy := (p _ (by decide)).trans h.cy, cs := (p _ (by decide)).trans h.cs, cp := (p _ (by decide)).trans h.cp, cpc := (p _ (by decide)).trans h.cpc, cba := (p _ (by decide)).trans h.cba, cbx := (p _ (by decide)).trans h.cbx, cb_y := (p _ (by decide)).trans h.cb_y, cbs := (p _ (by decide)).trans h.cbs, cbp := (p _ (by decide)).trans h.cbp, cbpc := (p _ (by decide)).trans h.cbpc, cst := (p _ (by decide)).trans h.cst, cins := (p _ (by decide)).trans h.cins, cmd := (p _ (by decide)).trans h.cmd, cstep := (p _ (by decide)).trans h.cstep, cad := (p _ (by decide)).trans h.cad, chop := (p _ (by decide)).trans h.chop, cdata := (p _ (by decide)).trans h.cdata, ctaken := (p _ (by decide)).trans h.ctaken, cnmiOn := (p _ (by decide)).trans h.cnmiOn, cnmiDue := (p _ (by decide)).trans h.cnmiDue, ccyc := (p _ (by decide)).trans h.ccyc, free := f, crest := fun k hk => ?_ }
  by_cases e : k = o
  · subst e
    exact (World.cell?_setCell_same _ _ _ ((h.crest k hk).trans h0)).trans (put_same s k v).symm
  · exact ((q k e).trans (h.crest k hk)).trans (put_other s o k v e).symm
theorem Tn.put {w0 w : World} {B : Nat} {s : PC} (h : Tn B s w0 w) (o : Nat) (v v0 : Value) (ho : 65562 ≤ o) (h0 : s.rest o = some v0) : Tn B (s.put o v) w0 (w.setCell ⟨B, o, none⟩ v) := ⟨h.c.put o v v0 ho h0, G.set h.g⟩
theorem Tn.rest {w0 w : World} {B : Nat} {s : PC} (h : Tn B s w0 w) {o : Nat} {v : Value} (ho : 65562 ≤ o) (h0 : s.rest o = some v) : w.cell? ⟨B, o, none⟩ = some v := (h.c.crest o ho).trans h0
theorem CAt.rr {w : World} {B : Nat} {s : PC} (h : CAt w B s) : ∀ o, 65562 ≤ o → w.cell? ⟨B, o, none⟩ = s.rest o := h.crest

/-- Points, as plain data. -/
structure Pts where
  at_ : Nat → Int
  n : Nat
def findG (f : Nat → Int) (a : Int) : Nat → Nat → Option Nat
  | _, 0 => none
  | k, c + 1 => if a = f k then some k else findG f a (k + 1) c
def Pts.find (p : Pts) (a : Int) : Option Nat := findG p.at_ a 0 p.n
def fInt : Option Nat → Int
  | none => -1
  | some i => i
theorem findG_s (f : Nat → Int) (a : Int) (k c : Nat) : findG f a k (c + 1) = if a = f k then some k else findG f a (k + 1) c := rfl
theorem findG_lt (f : Nat → Int) (a : Int) : ∀ (c k i : Nat), findG f a k c = some i → k ≤ i ∧ i < k + c
  | 0, _, _, h => by cases h
  | c + 1, k, i, h => by
    unfold findG at h
    split at h
    · injection h with h; omega
    · have := findG_lt f a c (k + 1) i h; omega
def Pts.has (p : Pts) (a : Int) : Bool := (p.find a).isSome
def okT : List UInt8 := [79, 75]
def eT (n : UInt8) : List UInt8 := [69, n]
def Pts.add (p : Pts) (a : Int) : Pts × List UInt8 :=
  if p.has a = true then (p, okT) else if p.n = 4 then (p, eT 52) else (⟨fun k => if k = p.n then a else p.at_ k, p.n + 1⟩, okT)
def Pts.remove (p : Pts) (a : Int) : Pts × List UInt8 := match p.find a with
  | none => (p, eT 53)
  | some i => (⟨fun k => if k = i then p.at_ (p.n - 1) else p.at_ k, p.n - 1⟩, okT)
/-- They lie at P. -/
structure PtsR (R : Nat → Option Value) (P : Nat) (p : Pts) : Prop where
  n4 : p.n ≤ 4
  cn : R (P + 4) = some (.int .i64 (p.n : Int))
  ca : ∀ i, i < 4 → R (P + i) = some (.int .u16 (p.at_ i))

set_option maxRecDepth 100000 in
set_option maxHeartbeats 1000000 in
theorem index_any (w : World) (b off n cap : Nat) (f : Nat → Int) (a : Int) (hc : ∀ i, i < n → w.cell? ⟨b, off + i, none⟩ = some (.int .u16 (f i))) (hn : n ≤ 4) :
    Calls Tryz.prog 274 #[.slice (some ⟨b, off, none⟩) n cap, .int .u16 a] w fun e w' => e = .returned (.int .i64 (fInt (findG f a 0 n))) ∧ w' = w := by
  obtain ⟨r, hR⟩ : ∃ r, Hid (findG f a 0 n = r) := ⟨_, rfl⟩
  rw [hR.out]
  go_enter Tryz.func274, Tryz.ntmps274
  go_wp2_with fail
  go_loopw [8] (fun i wr => ∃ (k : Nat), k ≤ n ∧ i = .int .i64 k ∧ wr = w ∧ findG f a k (n - k) = r) (fun i _ => n - (intOf i).toNat)
  case atStart => exact ⟨0, by omega, rfl, rfl, hR.out⟩
  case round =>
    obtain ⟨k, hk, rfl, rfl, hf⟩ := hrel
    by_cases hlt : k < n
    · have hc1 := hc k hlt
      have e1 : n - k = (n - (k + 1)) + 1 := by omega
      rw [e1, findG_s] at hf
      by_cases hq : a = f k
      · rw [if_pos hq] at hf
        subst hf
        go_wp2
        go_ret
        exact ⟨rfl, rfl⟩
      · rw [if_neg hq] at hf
        go_wp2
        go_roundw
        case rel => exact ⟨k + 1, by omega, by go_num, trivial, hf⟩
        case measure => simp [intOf]; omega
    · have e1 : n - k = 0 := by omega
      rw [e1] at hf
      have hr : none = r := hf
      subst hr
      go_wp2
      go_ret
      exact ⟨rfl, rfl⟩

end Go.Proofs.YtcgjliflnnklnaaGreat
