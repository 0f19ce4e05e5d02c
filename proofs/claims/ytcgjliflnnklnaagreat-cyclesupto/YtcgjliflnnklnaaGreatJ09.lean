/-
  Joined texts.
-/
import Derived.Handy
import Derived.Test.YtcgjliflnnklnaaGreatJ07
import Derived.Test.YtcgjliflnnklnaaGreatRwIz
import Derived.Test.YtcgjliflnnklnaaGreatRwFz
import Derived.Test.YtcgjliflnnklnaaGreatRwEz
import Derived.Test.YtcgjliflnnklnaaGreatJ03
import Derived.Test.YtcgjliflnnklnaaGreatCpXz
import Derived.Test.YtcgjliflnnklnaaGreatJ04
import Derived.Test.YtcgjliflnnklnaaGreatCpRz
import Derived.Test.YtcgjliflnnklnaaGreatCpSz
import Derived.Test.YtcgjliflnnklnaaGreatCpWz
import Derived.Test.YtcgjliflnnklnaaGreatJ15
import Derived.Test.YtcgjliflnnklnaaGreatJ08
import Derived.Test.YtcgjliflnnklnaaGreatJ16
import Derived.Test.YtcgjliflnnklnaaGreatJ06
import Derived.Test.YtcgjliflnnklnaaGreatJ14
import Derived.Test.YtcgjliflnnklnaaGreatRwUfz
import Derived.Test.YtcgjliflnnklnaaGreatRwUgz
import Derived.Test.YtcgjliflnnklnaaGreatRwUhz
import Derived.Test.YtcgjliflnnklnaaGreatRwUiz
import Derived.Test.YtcgjliflnnklnaaGreatRwUkz
import Derived.Test.YtcgjliflnnklnaaGreatRwUlz
namespace Go.Proofs.YtcgjliflnnklnaaGreat
open Go.RowKit

/-
  The document's computer: what a cycle does, part by part; which instructions there are; how long they take.
-/
section
/-- An instruction of the table, or a sequence. -/
inductive Cd (op md : BA) : Prop
  | seq : (op = b3 78 77 73 ∨ op = b3 73 82 81 ∨ op = b3 66 82 75) → Cd op md
  | jsr : op = b3 74 83 82 → Cd op md
  | ret : (op = b3 82 84 83 ∨ op = b3 82 84 73) → Cd op md
  | jmp : op = b3 74 77 80 → md ∈ mJ → Cd op md
  | imp : op ∈ lI → md = b3 105 109 112 → Cd op md
  | acc : op ∈ lC → md = b3 97 99 99 → Cd op md
  | imm : op ∈ lR → md = b3 105 109 109 → Cd op md
  | rel : op ∈ lB → md = b3 114 101 108 → Cd op md
  | plc : OpA op → md ∈ mA → Cd op md

def inL (l : List BA) (x : BA) : Bool := l.any fun y => y.data.toList == x.data.toList
theorem inL_mem {l : List BA} {x : BA} (h : inL l x = true) : x ∈ l := by
  obtain ⟨y, hy, e⟩ := List.any_eq_true.1 h
  have e2 : y = x := by
    have := eq_of_beq e
    cases y; cases x; exact congrArg ByteArray.mk (Array.ext' this)
  exact e2 ▸ hy
def cdB (op md : BA) : Bool :=
  inL [b3 66 82 75, b3 74 83 82, b3 82 84 83, b3 82 84 73] op || (inL [b3 74 77 80] op && inL mJ md) || (inL lI op && inL [b3 105 109 112] md) || (inL lC op && inL [b3 97 99 99] md) || (inL lR op && inL [b3 105 109 109] md) || (inL lB op && inL [b3 114 101 108] md) || ((inL lR op || inL lW op || inL lC op) && inL mA md)
theorem cdB_all : (refTable.all fun e => cdB e.2.1 e.2.2) = true := by kernel_rfl
theorem one_mem {x y : BA} (h : inL [y] x = true) : x = y := by
  have := inL_mem h; simpa using this
theorem cdB_ok {op md : BA} (h : cdB op md = true) : Cd op md := by
  unfold cdB at h
  simp only [Bool.or_eq_true, Bool.and_eq_true] at h
  rcases h with (((((h | h) | h) | h) | h) | h) | h
  · have q := inL_mem h
    simp only [List.mem_cons, List.not_mem_nil, or_false] at q
    rcases q with q | q | q | q
    · exact .seq (.inr (.inr q))
    · exact .jsr q
    · exact .ret (.inl q)
    · exact .ret (.inr q)
  · exact .jmp (one_mem h.1) (inL_mem h.2)
  · exact .imp (inL_mem h.1) (one_mem h.2)
  · exact .acc (inL_mem h.1) (one_mem h.2)
  · exact .imm (inL_mem h.1) (one_mem h.2)
  · exact .rel (inL_mem h.1) (one_mem h.2)
  · refine .plc ?_ (inL_mem h.2)
    rcases h.1 with (q | q) | q
    · exact .inl (inL_mem q)
    · exact .inr (.inl (inL_mem q))
    · exact .inr (.inr (inL_mem q))
theorem cd_code (b : Int) (h : ((codeR b).1 == ⟨#[]⟩) = false) : Cd (codeR b).1 (codeR b).2 := by
  unfold codeR at h ⊢
  cases hf : refTable.find? fun e => (e.1 : Int) == b with
  | none => rw [hf] at h; cases h
  | some e =>
    have hm := List.mem_of_find?_eq_some hf
    have := List.all_eq_true.1 cdB_all e hm
    exact cdB_ok this

def RS.pins (t : RS) (nmi : Bool) : RS := { t with due := t.due || (nmi && !t.nmi), nmi := nmi, r := { t.r with cyc := IntKind.wrap .i64 (t.r.cyc + 1) } }
def RS.turnR (t1 : RS) (irq : Bool) : RS × BusI :=
  let a := if t1.h.length > 0 then (nextR t1.op t1.md t1.r t1.h).1 else ⟨t1.r.PC, false, 0, true⟩
  let q := t1.bus a
  let t2 := if t1.h.length = 0 then q.1.begins q.2.data irq else q.1
  let t3 := t2.counts q.2
  if t3.r.jam = true then (t3, q.2)
  else
    let h := t3.h ++ [q.2.data]
    if (nextR t3.op t3.md t3.r h).2 = true then ({ t3 with h := h }, q.2)
    else ({ t3 with h := [], r := doneR t3.op t3.md t3.r h }, q.2)
theorem cycle_turnR (t : RS) (nmi irq : Bool) : t.cycle nmi irq = (t.pins nmi).turnR irq := rfl

theorem bus_keeps (t : RS) (a : Act) : (t.bus a).1.r = t.r ∧ (t.bus a).1.op = t.op ∧ (t.bus a).1.md = t.md ∧ (t.bus a).1.h = t.h ∧ (t.bus a).1.rom = t.rom := by
  unfold RS.bus
  split
  · split <;> exact ⟨rfl, rfl, rfl, rfl, rfl⟩
  · split
    · exact ⟨rfl, rfl, rfl, rfl, rfl⟩
    · split <;> exact ⟨rfl, rfl, rfl, rfl, rfl⟩
theorem counts_keeps (t : RS) (b : BusI) : (t.counts b).r = t.r ∧ (t.counts b).op = t.op ∧ (t.counts b).md = t.md ∧ (t.counts b).h = t.h ∧ (t.counts b).rom = t.rom := by
  unfold RS.counts
  split
  · exact ⟨rfl, rfl, rfl, rfl, rfl⟩
  · split <;> exact ⟨rfl, rfl, rfl, rfl, rfl⟩
theorem begins_keeps (t : RS) (b : Int) (irq : Bool) : (t.begins b irq).h = t.h ∧ (t.begins b irq).cnt = t.cnt ∧ (t.begins b irq).rom = t.rom ∧ ∃ j, (t.begins b irq).r = { t.r with jam := j } := by
  unfold RS.begins
  split
  · exact ⟨rfl, rfl, rfl, t.r.jam, rfl⟩
  · split
    · exact ⟨rfl, rfl, rfl, t.r.jam, rfl⟩
    · exact ⟨rfl, rfl, rfl, _, rfl⟩
theorem begins_cd (t : RS) (b : Int) (irq : Bool) (h : (t.begins b irq).r.jam = false) : Cd (t.begins b irq).op (t.begins b irq).md := by
  unfold RS.begins at h ⊢
  split
  · exact .seq (.inl rfl)
  · rename_i h1
    rw [if_neg h1] at h
    split
    · exact .seq (.inr (.inl rfl))
    · rename_i h2
      rw [if_neg h2] at h
      exact cd_code b h
theorem RgR.jam {r : RG} (h : RgR r) (c : Int) (j : Bool) : RgR { r with cyc := c, jam := j } := ⟨h.a, h.x, h.y, h.s, h.p, h.pc⟩
end

/-
  The document's computer in memory; its bus, its timer, what begins an instruction.
-/
section
set_option maxRecDepth 100000
set_option maxHeartbeats 4000000

theorem cp_addr' (B a b : Nat) (h : a ≠ b) : (⟨B, a, none⟩ : Addr) ≠ ⟨B, b, none⟩ := by
  intro e; injection e with _ e; exact h e
/-- A computer's 17 cells; vh: the list of the bytes heard. -/
def MV (M : Nat) (vh : Value) (t : RS) : List Value :=
  [.slice (some ⟨M, 0, none⟩) 65536 65536, .int .i64 t.rom, .int .i64 t.r.A, .int .i64 t.r.X, .int .i64 t.r.Y, .int .i64 t.r.S, .int .i64 t.r.P, .int .i64 t.r.PC, .int .i64 t.r.cyc, .bool t.r.jam, .int .i64 t.cnt, .bool t.calls, .bool t.nmi, .bool t.due, .string t.op, .string t.md, vh]

structure MAt (w : World) (B M : Nat) (L : List Value) (m : Nat → Int) : Prop where
  len : L.length = 17
  c : ∀ i, i < 17 → w.cell? ⟨B, i, none⟩ = L[i]?
  fr : ∀ o, w.frozen? ⟨B, o, none⟩ = false
  m : ∀ i, i < 65536 → w.cell? ⟨M, i, none⟩ = some (.int .i64 (m i))
  fm : ∀ o, w.frozen? ⟨M, o, none⟩ = false
  ne : B ≠ M

/-- Nothing but blocks B, M and new ones has turned. -/
structure Two (B M : Nat) (w w' : World) : Prop where
  os : w'.os = w.os
  tape : w'.tape = w.tape
  output : w'.output = w.output
  size : w.heap.size ≤ w'.heap.size
  block : ∀ k, k < w.heap.size → k ≠ B → k ≠ M → w'.heap[k]? = w.heap[k]?

theorem Two.refl (B M : Nat) (w : World) : Two B M w w := ⟨rfl, rfl, rfl, Nat.le_refl _, fun _ _ _ _ => rfl⟩
theorem Two.trans {B M : Nat} {a b c : World} (h : Two B M a b) (k : Two B M b c) : Two B M a c :=
  ⟨k.os.trans h.os, k.tape.trans h.tape, k.output.trans h.output, Nat.le_trans h.size k.size, fun i h1 h2 h3 => (k.block i (Nat.lt_of_lt_of_le h1 h.size) h2 h3).trans (h.block i h1 h2 h3)⟩
theorem Two.below {B M : Nat} {a b : World} (h : Below a.heap.size a b) : Two B M a b := ⟨h.os, h.tape, h.output, h.size, fun k hk _ _ => h.block k hk⟩
theorem Two.set (B M : Nat) (w : World) (b o : Nat) (v : Value) (h : b = B ∨ b = M) : Two B M w (w.setCell ⟨b, o, none⟩ v) :=
  ⟨rfl, rfl, rfl, by simp, fun k _ h1 h2 => Below.heap_setCell _ _ _ _ (by rcases h with e | e <;> rw [e] <;> assumption)⟩

structure TM (B M : Nat) (L : List Value) (m : Nat → Int) (w0 w : World) : Prop where
  c : MAt w B M L m
  g : Two B M w0 w

section
variable {B M : Nat} {L : List Value} {m : Nat → Int} {w0 w : World}

theorem MAt.lt (h : MAt w B M L m) : B < w.heap.size := World.block_lt_of_cell? w ⟨B, 0, none⟩ ((h.c 0 (by decide)).trans (List.getElem?_eq_getElem (by rw [h.len]; decide)))
theorem MAt.ltM (h : MAt w B M L m) : M < w.heap.size := World.block_lt_of_cell? w ⟨M, 0, none⟩ (h.m 0 (by decide))
theorem MAt.same {w' : World} (h : MAt w B M L m) (e : w'.heap[B]? = w.heap[B]?) (e2 : w'.heap[M]? = w.heap[M]?) : MAt w' B M L m :=
  ⟨h.len, fun i hi => (World.cell?_of_block (a := ⟨B, i, none⟩) e).trans (h.c i hi), fun o => (World.frozen?_of_block (a := ⟨B, o, none⟩) e).trans (h.fr o),
   fun i hi => (World.cell?_of_block (a := ⟨M, i, none⟩) e2).trans (h.m i hi), fun o => (World.frozen?_of_block (a := ⟨M, o, none⟩) e2).trans (h.fm o), h.ne⟩
theorem MAt.set (h : MAt w B M L m) (i : Nat) (hi : i < 17) (v : Value) : MAt (w.setCell ⟨B, i, none⟩ v) B M (L.set i v) m := by
  refine ⟨by simp [h.len], fun j hj => ?_, fun o => by rw [World.frozen?_setCell]; exact h.fr o, fun j hj => ?_, fun o => by rw [World.frozen?_setCell]; exact h.fm o, h.ne⟩
  · by_cases e : i = j
    · subst e
      rw [World.cell?_setCell_same _ _ _ ((h.c i hi).trans (List.getElem?_eq_getElem (by rw [h.len]; exact hi))), List.getElem?_set_self (by rw [h.len]; exact hi)]
    · rw [World.cell?_setCell_other _ _ _ _ (cp_addr' _ _ _ (fun q => e q)), List.getElem?_set_ne e]; exact h.c j hj
  · rw [World.cell?_of_block (a := ⟨M, j, none⟩) (Below.heap_setCell _ _ _ _ (fun e => h.ne e.symm))]; exact h.m j hj
theorem MAt.setM (h : MAt w B M L m) (i : Nat) (hi : i < 65536) (v : Int) : MAt (w.setCell ⟨M, i, none⟩ (.int .i64 v)) B M L (mput m i v) := by
  refine ⟨h.len, fun j hj => ?_, fun o => by rw [World.frozen?_setCell]; exact h.fr o, fun j hj => ?_, fun o => by rw [World.frozen?_setCell]; exact h.fm o, h.ne⟩
  · rw [World.cell?_of_block (a := ⟨B, j, none⟩) (Below.heap_setCell _ _ _ _ h.ne)]; exact h.c j hj
  · by_cases e : j = i
    · subst e
      rw [World.cell?_setCell_same _ _ _ (h.m j hj)]; unfold mput; rw [if_pos rfl]
    · rw [World.cell?_setCell_other _ _ _ _ (cp_addr' _ _ _ (fun q => e q.symm))]; unfold mput; rw [if_neg e]; exact h.m j hj

theorem TM.refl (h : MAt w B M L m) : TM B M L m w w := ⟨h, Two.refl _ _ _⟩
theorem TM.below {w' : World} (h : TM B M L m w0 w) (hb : Below w.heap.size w w') : TM B M L m w0 w' := ⟨h.c.same (hb.block _ h.c.lt) (hb.block _ h.c.ltM), h.g.trans (Two.below hb)⟩
theorem TM.alloc (h : TM B M L m w0 w) (o : Obj) : TM B M L m w0 (w.alloc o) := h.below ((Below.refl _ _).alloc (Nat.le_refl _) _)
theorem TM.drew (h : TM B M L m w0 w) : TM B M L m w0 w.drew := h.below (Below.refl _ _).drew
theorem TM.drewN (h : TM B M L m w0 w) (n : Nat) : TM B M L m w0 (w.drewN n) := ⟨h.c.same rfl rfl, h.g.trans ⟨rfl, rfl, rfl, Nat.le_refl _, fun _ _ _ _ => rfl⟩⟩
theorem TM.set (h : TM B M L m w0 w) {i : Nat} {v : Value} (hi : i < 17) : TM B M (L.set i v) m w0 (w.setCell ⟨B, i, none⟩ v) := ⟨h.c.set i hi v, h.g.trans (Two.set _ _ _ _ _ _ (.inl rfl))⟩
theorem TM.setM (h : TM B M L m w0 w) {i : Nat} {v : Int} (hi : i < 65536) : TM B M L (mput m i v) w0 (w.setCell ⟨M, i, none⟩ (.int .i64 v)) := ⟨h.c.setM i hi v, h.g.trans (Two.set _ _ _ _ _ _ (.inr rfl))⟩
theorem TM.other (h : TM B M L m w0 w) {b o : Nat} {v : Value} (hb : w0.heap.size ≤ b) (h1 : b ≠ B) (h2 : b ≠ M) : TM B M L m w0 (w.setCell ⟨b, o, none⟩ v) :=
  ⟨h.c.same (Below.heap_setCell _ _ _ _ (fun e => h1 e.symm)) (Below.heap_setCell _ _ _ _ (fun e => h2 e.symm)), ⟨h.g.os, h.g.tape, h.g.output, by simpa using h.g.size, fun k hk h3 h4 => (Below.heap_setCell _ _ _ _ (fun e : k = b => by omega)).trans (h.g.block k hk h3 h4)⟩⟩
theorem TM.eq {L' : List Value} {m' : Nat → Int} (h : TM B M L m w0 w) (e : L = L') (e2 : m = m') : TM B M L' m' w0 w := e ▸ e2 ▸ h
theorem MAt.cs {vh : Value} {t : RS} (h : MAt w B M (MV M vh t) m) : w.cell? ⟨B, 0, none⟩ = some (.slice (some ⟨M, 0, none⟩) 65536 65536) ∧ w.cell? ⟨B, 1, none⟩ = some (.int .i64 t.rom) ∧ w.cell? ⟨B, 2, none⟩ = some (.int .i64 t.r.A) ∧ w.cell? ⟨B, 3, none⟩ = some (.int .i64 t.r.X) ∧ w.cell? ⟨B, 4, none⟩ = some (.int .i64 t.r.Y) ∧ w.cell? ⟨B, 5, none⟩ = some (.int .i64 t.r.S) ∧ w.cell? ⟨B, 6, none⟩ = some (.int .i64 t.r.P) ∧ w.cell? ⟨B, 7, none⟩ = some (.int .i64 t.r.PC) ∧ w.cell? ⟨B, 8, none⟩ = some (.int .i64 t.r.cyc) ∧ w.cell? ⟨B, 9, none⟩ = some (.bool t.r.jam) ∧ w.cell? ⟨B, 10, none⟩ = some (.int .i64 t.cnt) ∧ w.cell? ⟨B, 11, none⟩ = some (.bool t.calls) ∧ w.cell? ⟨B, 12, none⟩ = some (.bool t.nmi) ∧ w.cell? ⟨B, 13, none⟩ = some (.bool t.due) ∧ w.cell? ⟨B, 14, none⟩ = some (.string t.op) ∧ w.cell? ⟨B, 15, none⟩ = some (.string t.md) ∧ w.cell? ⟨B, 16, none⟩ = some (vh) :=
  ⟨h.c 0 (by decide), h.c 1 (by decide), h.c 2 (by decide), h.c 3 (by decide), h.c 4 (by decide), h.c 5 (by decide), h.c 6 (by decide), h.c 7 (by decide), h.c 8 (by decide), h.c 9 (by decide), h.c 10 (by decide), h.c 11 (by decide), h.c 12 (by decide), h.c 13 (by decide), h.c 14 (by decide), h.c 15 (by decide), h.c 16 (by decide)⟩
theorem TM.lt (h : TM B M L m w0 w) : B < w.heap.size := h.c.lt
end

theorem rpeek {B M : Nat} {vh : Value} {t : RS} {w0 w : World} (h : TM B M (MV M vh t) t.mem w0 w) (at_ : Int) :
    Calls Tryz.prog 67 #[.pointer (some ⟨B, 0, none⟩), .int .i64 at_] w fun e w' => e = .returned (.int .i64 (t.peek (at_ % 65536))) ∧ w' = w := by
  have lt1 := h.c.lt
  have lt2 := h.c.ltM
  have ne := h.c.ne
  have ne2 := h.c.ne.symm
  obtain ⟨c0, -, -, -, -, -, -, -, -, -, c10, c11, -, -, -, -, -⟩ := h.c.cs
  have C := fun w => rcut16 at_ w
  obtain ⟨a, ha⟩ : ∃ a, at_ % 65536 = a := ⟨_, rfl⟩
  have h1 : 0 ≤ a := by omega
  have h2 : a < 65536 := by omega
  rw [ha] at C ⊢
  clear ha
  by_cases e1 : a = 53248
  · subst e1
    go_enter Tryz.func67, Tryz.ntmps67
    go_wp2_with (go_at_call 91; refine (C _).mono ?_; rintro e w1 ⟨rfl, rfl⟩)
    go_returns
    exact ⟨rfl, rfl⟩
  · by_cases e2 : a = 53249
    · subst e2
      cases hc : t.calls
      all_goals
        rw [hc] at c11
        rw [show t.peek 53249 = (if t.calls = true then 128 else 0) from rfl, hc]
        go_enter Tryz.func67, Tryz.ntmps67
        go_wp2_with (go_at_call 91; refine (C _).mono ?_; rintro e w1 ⟨rfl, rfl⟩)
        go_returns
        exact ⟨rfl, rfl⟩
    · obtain ⟨n, rfl⟩ := Int.eq_ofNat_of_zero_le h1
      have q1 : ((n : Int) == 53248) = false := by rw [beq_eq_false_iff_ne]; exact e1
      have q2 : ((n : Int) == 53249) = false := by rw [beq_eq_false_iff_ne]; exact e2
      have hm := h.c.m n (by omega)
      rw [show t.peek (n : Int) = t.mem n from by unfold RS.peek; rw [if_neg e1, if_neg e2, Int.toNat_natCast]]
      clear e1 e2
      go_enter Tryz.func67, Tryz.ntmps67
      go_wp2_with (go_at_call 91; refine (C _).mono ?_; rintro e w1 ⟨rfl, rfl⟩)
      go_returns
      exact ⟨rfl, rfl⟩

theorem rregs {B M : Nat} {vh : Value} {t : RS} {w0 w : World} (h : TM B M (MV M vh t) t.mem w0 w) :
    Calls Tryz.prog 66 #[.pointer (some ⟨B, 0, none⟩)] w fun e w' => e = .returned t.r.val ∧ Below w.heap.size w w' := by
  have lt1 := h.c.lt
  have lt2 := h.c.ltM
  have ne := h.c.ne
  have ne2 := h.c.ne.symm
  obtain ⟨-, -, c2, c3, c4, c5, c6, c7, c8, c9, -, -, -, -, -, -, -⟩ := h.c.cs
  go_enter Tryz.func66, Tryz.ntmps66
  go_wp2_with fail
  go_returns
  exact ⟨rfl, by go_grown⟩
end

/-
  The document's computer in memory, with the bytes heard: what a cycle may turn.
-/
section
/-- Nothing but blocks B, M, r and new ones has turned. -/
structure Tri (B M : Nat) (r : Option Nat) (w w' : World) : Prop where
  os : w'.os = w.os
  tape : w'.tape = w.tape
  output : w'.output = w.output
  size : w.heap.size ≤ w'.heap.size
  block : ∀ k, k < w.heap.size → k ≠ B → k ≠ M → some k ≠ r → w'.heap[k]? = w.heap[k]?

/-- The bytes heard lie in a row of the computer's own. -/
structure HV (w : World) (base B M : Nat) (v : Value) (h : List Int) : Prop where
  o : w.ownsRow base 3 1 v h.length (h.map fun x => Value.int .i64 x)
  ne : ∀ g, v.ownBlock = some g → g ≠ B ∧ g ≠ M

structure TR (B M base : Nat) (r : Option Nat) (L : List Value) (m : Nat → Int) (v : Value) (h : List Int) (w0 w : World) : Prop where
  c : MAt w B M L m
  g : Tri B M r w0 w
  o : HV w base B M v h

theorem row_same {w w' : World} {base te size n : Nat} {V : Value} {xs : List Value} (h : w.ownsRow base te size V n xs) (hV : ∀ g, V.ownBlock = some g → w'.heap[g]? = w.heap[g]?) : w'.ownsRow base te size V n xs := by
  refine ⟨h.1, ?_⟩
  rcases h.2 with h | ⟨g, cap, cur, rfl, hbg, hgg, r⟩
  · exact .inl h
  · exact .inr ⟨g, cap, cur, rfl, hbg, (hV g rfl).trans hgg, r⟩

theorem Tri.refl (B M : Nat) (r : Option Nat) (w : World) : Tri B M r w w := ⟨rfl, rfl, rfl, Nat.le_refl _, fun _ _ _ _ _ => rfl⟩
theorem Tri.trans {B M : Nat} {r : Option Nat} {a b c : World} (h : Tri B M r a b) (k : Tri B M r b c) : Tri B M r a c :=
  ⟨k.os.trans h.os, k.tape.trans h.tape, k.output.trans h.output, Nat.le_trans h.size k.size, fun i h1 h2 h3 h4 => (k.block i (Nat.lt_of_lt_of_le h1 h.size) h2 h3 h4).trans (h.block i h1 h2 h3 h4)⟩
theorem Tri.two {B M : Nat} {r : Option Nat} {a b : World} (h : Two B M a b) : Tri B M r a b := ⟨h.os, h.tape, h.output, h.size, fun k hk h1 h2 _ => h.block k hk h1 h2⟩

section
variable {B M base : Nat} {r : Option Nat} {L : List Value} {m : Nat → Int} {v : Value} {h : List Int} {w0 w : World}

theorem HV.kept {w' : World} (o : HV w base B M v h) (k : Two B M w w') : HV w' base B M v h :=
  ⟨row_same o.o (fun g hg => k.block g (o.o.lt g hg).2 (o.ne g hg).1 (o.ne g hg).2), o.ne⟩
theorem TR.lt (x : TR B M base r L m v h w0 w) : B < w.heap.size := x.c.lt
/-- A call that turns the computer alone. -/
theorem TR.via {L' : List Value} {m' : Nat → Int} {w' : World} (x : TR B M base r L m v h w0 w) (k : TM B M L' m' w w') : TR B M base r L' m' v h w0 w' :=
  ⟨k.c, x.g.trans (Tri.two k.g), x.o.kept k.g⟩
theorem TR.below {w' : World} (x : TR B M base r L m v h w0 w) (hb : Below w.heap.size w w') : TR B M base r L m v h w0 w' := x.via ((TM.refl x.c).below hb)
theorem TR.alloc (x : TR B M base r L m v h w0 w) (o : Obj) : TR B M base r L m v h w0 (w.alloc o) := x.via ((TM.refl x.c).alloc o)
theorem TR.drew (x : TR B M base r L m v h w0 w) : TR B M base r L m v h w0 w.drew := x.via ((TM.refl x.c).drew)
theorem TR.drewN (x : TR B M base r L m v h w0 w) (n : Nat) : TR B M base r L m v h w0 (w.drewN n) := x.via ((TM.refl x.c).drewN n)
theorem TR.set {i : Nat} {u : Value} (x : TR B M base r L m v h w0 w) (hi : i < 17) : TR B M base r (L.set i u) m v h w0 (w.setCell ⟨B, i, none⟩ u) := x.via ((TM.refl x.c).set hi)
theorem TR.other {b o : Nat} {u : Value} (x : TR B M base r L m v h w0 w) (hb : w0.heap.size ≤ b) (h1 : b ≠ B) (h2 : b ≠ M) (h3 : ∀ g, v.ownBlock = some g → b ≠ g) : TR B M base r L m v h w0 (w.setCell ⟨b, o, none⟩ u) :=
  ⟨x.c.same (Below.heap_setCell _ _ _ _ (fun e => h1 e.symm)) (Below.heap_setCell _ _ _ _ (fun e => h2 e.symm)),
   ⟨x.g.os, x.g.tape, x.g.output, by simpa using x.g.size, fun k hk q1 q2 q3 => (Below.heap_setCell _ _ _ _ (fun e : k = b => by omega)).trans (x.g.block k hk q1 q2 q3)⟩,
   ⟨row_same x.o.o (fun g hg => Below.heap_setCell _ _ _ _ (fun e => h3 g hg e.symm)), x.o.ne⟩⟩
theorem TR.eq {L' : List Value} {m' : Nat → Int} (x : TR B M base r L m v h w0 w) (e : L = L') (e2 : m = m') : TR B M base r L' m' v h w0 w := e ▸ e2 ▸ x
theorem TR.row {v' : Value} {h' : List Int} (x : TR B M base r L m v h w0 w) (o : HV w base B M v' h') : TR B M base r L m v' h' w0 w := ⟨x.c, x.g, o⟩
theorem HV.nil : HV w base B M (.slice none 0 0) [] := ⟨World.ownsRow_nil _ _ _ _, fun g hg => by simp [Value.ownBlock] at hg⟩
/-- How a list of bytes heard looks. -/
theorem HV.shape (o : HV w base B M v h) : (h = [] ∧ ∃ p c, v = .slice p 0 c) ∨ (h ≠ [] ∧ ∃ g c, v = .slice (some ⟨g, 0, none⟩) h.length c) := by
  rcases o.o.2 with ⟨e, e2⟩ | ⟨g, cap, _, e, _⟩
  · exact .inl ⟨List.length_eq_zero_iff.1 e2, none, 0, e⟩
  · by_cases q : h = []
    · exact .inl ⟨q, some ⟨g, 0, none⟩, cap, by rw [e, q]; rfl⟩
    · exact .inr ⟨q, g, cap, e⟩
end

/-- A block's cells. -/
def Blk (w : World) (n : Nat) (vs : Array Value) (T : TypeId) : Prop := w.heap[n]? = some (.cells vs T (0, 0))
theorem Blk.same {w w' : World} {n : Nat} {vs : Array Value} {T : TypeId} (b : Blk w n vs T) (e : w'.heap[n]? = w.heap[n]?) : Blk w' n vs T := e.trans b
theorem Blk.lt {w : World} {n : Nat} {vs : Array Value} {T : TypeId} (b : Blk w n vs T) : n < w.heap.size := (Array.getElem?_eq_some_iff.1 b).1
theorem Blk.cell {w : World} {n : Nat} {vs : Array Value} {T : TypeId} (b : Blk w n vs T) (i : Nat) : w.cell? ⟨n, i, none⟩ = vs[i]? := cell_of_row w n i vs T (0, 0) b
theorem Blk.free {w : World} {n : Nat} {vs : Array Value} {T : TypeId} (b : Blk w n vs T) (i : Nat) : w.frozen? ⟨n, i, none⟩ = false := by simp [World.frozen?, show w.heap[n]? = _ from b]
theorem Blk.four {w : World} {n : Nat} {a b c d : Value} {T : TypeId} (k : Blk w n #[a, b, c, d] T) : w.cell? ⟨n, 0, none⟩ = some a ∧ w.cell? ⟨n, 1, none⟩ = some b ∧ w.cell? ⟨n, 2, none⟩ = some c ∧ w.cell? ⟨n, 3, none⟩ = some d ∧ (∀ i, w.frozen? ⟨n, i, none⟩ = false) ∧ n < w.heap.size :=
  ⟨k.cell 0, k.cell 1, k.cell 2, k.cell 3, k.free, k.lt⟩
theorem Blk.new (w : World) (vs : Array Value) (T : TypeId) : Blk (w.alloc (.cells vs T)) w.heap.size vs T := by
  unfold Blk World.alloc; exact Array.getElem?_push_size
theorem Blk.alloc {w : World} {n : Nat} {vs : Array Value} {T : TypeId} (b : Blk w n vs T) (o : Obj) : Blk (w.alloc o) n vs T := b.same (Below.heap_alloc _ _ _ b.lt)
theorem Blk.set {w : World} {n : Nat} {vs : Array Value} {T : TypeId} (b : Blk w n vs T) {m o : Nat} {u : Value} (h : n ≠ m) : Blk (w.setCell ⟨m, o, none⟩ u) n vs T := b.same (Below.heap_setCell _ _ _ _ h)
theorem Blk.two {B M : Nat} {w w' : World} {n : Nat} {vs : Array Value} {T : TypeId} (b : Blk w n vs T) (k : Two B M w w') (h1 : n ≠ B) (h2 : n ≠ M) : Blk w' n vs T := b.same (k.block n b.lt h1 h2)
theorem Blk.below {w w' : World} {n : Nat} {vs : Array Value} {T : TypeId} (b : Blk w n vs T) (k : Below w.heap.size w w') : Blk w' n vs T := b.same (k.block n b.lt)
theorem Blk.drew {w : World} {n : Nat} {vs : Array Value} {T : TypeId} (b : Blk w n vs T) : Blk w.drew n vs T := b
theorem Blk.drewN {w : World} {n : Nat} {vs : Array Value} {T : TypeId} (b : Blk w n vs T) (k : Nat) : Blk (w.drewN k) n vs T := b
end

/-
  The document's computer: a cycle's parts joined.
-/
section
theorem HV.hd {B M base : Nat} {h : List Int} {w : World} {g c : Nat} (o : HV w base B M (.slice (some ⟨g, 0, none⟩) h.length c) h) (hb : ∀ i, i < h.length → 0 ≤ hd h i ∧ hd h i < 256) : HdAt w g h := by
  refine ⟨(o.o.lt g rfl).2, fun i hi => ?_, hb⟩
  rw [o.o.cellAt i (by omega)]
  have : (h.map fun x => Value.int .i64 x)[i]? = some (.int .i64 h[i]) := by rw [List.getElem?_map, List.getElem?_eq_getElem hi]; rfl
  rw [this]
  unfold Go.Proofs.YtcgjliflnnklnaaGreat.hd
  simp [List.getD, hi]
theorem turn_all {t1 tb t2 t3 : RS} {irq : Bool} {a : Act} {b : BusI} (ea : (if t1.h.length > 0 then (nextR t1.op t1.md t1.r t1.h).1 else ⟨t1.r.PC, false, 0, true⟩) = a) (eb : t1.bus a = (tb, b)) (e2 : (if t1.h.length = 0 then tb.begins b.data irq else tb) = t2) (e3 : t2.counts b = t3) :
    t1.turnR irq = if t3.r.jam = true then (t3, b) else if (nextR t3.op t3.md t3.r (t3.h ++ [b.data])).2 = true then ({ t3 with h := t3.h ++ [b.data] }, b) else ({ t3 with h := [], r := doneR t3.op t3.md t3.r (t3.h ++ [b.data]) }, b) := by
  unfold RS.turnR
  rw [ea]
  dsimp only
  rw [eb]
  dsimp only
  rw [e2, e3]
theorem bus_cnt (t : RS) (a : Act) : (t.bus a).1.cnt = t.cnt ∨ (t.bus a).1.cnt = (t.bus a).2.data := by
  unfold RS.bus
  split
  · split <;> exact .inl rfl
  · split
    · exact .inr rfl
    · split <;> exact .inl rfl
theorem bus_addr (t : RS) (a : Act) : (t.bus a).2.addr = a.addr := by
  unfold RS.bus
  split
  · rfl
  · split
    · rfl
    · split <;> rfl
theorem turn_bus {t1 tb : RS} {irq : Bool} {a : Act} {b : BusI} (ea : (if t1.h.length > 0 then (nextR t1.op t1.md t1.r t1.h).1 else ⟨t1.r.PC, false, 0, true⟩) = a) (eb : t1.bus a = (tb, b)) : (t1.turnR irq).2 = b := by
  obtain ⟨t2, e2⟩ : ∃ t2, (if t1.h.length = 0 then tb.begins b.data irq else tb) = t2 := ⟨_, rfl⟩
  obtain ⟨t3, e3⟩ : ∃ t3, t2.counts b = t3 := ⟨_, rfl⟩
  rw [turn_all ea eb e2 e3]
  split
  · rfl
  · split <;> rfl

/-- What is known behind the timer's count. -/
theorem turn_known {t tb t2 t3 : RS} {nmi irq : Bool} {a : Act} {b : BusI} (rg : RgR t.r) (hm : t.h ≠ [] → Cd t.op t.md) (eb : (t.pins nmi).bus a = (tb, b)) (e2 : (if t.h.length = 0 then tb.begins b.data irq else tb) = t2) (e3 : t2.counts b = t3) :
    t3.h = t.h ∧ RgR t3.r ∧ (t3.r.jam = false → Cd t3.op t3.md) ∧ (t.h ≠ [] → t3.op = t.op) := by
  obtain ⟨k1, k2, k3, k4, -⟩ := bus_keeps (t.pins nmi) a
  rw [eb] at k1 k2 k3 k4
  dsimp only at k1 k2 k3 k4
  obtain ⟨c1, c2, c3, c4, -⟩ := counts_keeps t2 b
  rw [e3] at c1 c2 c3 c4
  rw [c1, c2, c3, c4]
  by_cases q : t.h = []
  · rw [if_pos (by rw [q]; rfl)] at e2
    obtain ⟨b1, -, -, j, b4⟩ := begins_keeps tb b.data irq
    subst e2
    refine ⟨b1.trans k4, ?_, fun hj => begins_cd _ _ _ hj, fun z => absurd q z⟩
    rw [b4, k1]
    exact ⟨rg.a, rg.x, rg.y, rg.s, rg.p, rg.pc⟩
  · rw [if_neg (by intro e; exact q (List.length_eq_zero_iff.1 e))] at e2
    subst e2
    refine ⟨k4, ?_, fun _ => ?_, fun _ => k2⟩
    · rw [k1]; exact ⟨rg.a, rg.x, rg.y, rg.s, rg.p, rg.pc⟩
    · rw [k2, k3]; exact hm q
theorem cnt_known {t tb t2 : RS} {nmi irq : Bool} {a : Act} {b : BusI} (k0 : 0 ≤ t.cnt ∧ t.cnt < 256) (eb : (t.pins nmi).bus a = (tb, b)) (e2 : (if t.h.length = 0 then tb.begins b.data irq else tb) = t2) (hd : 0 ≤ b.data ∧ b.data < 256) : 0 ≤ t2.cnt ∧ t2.cnt < 256 := by
  have h1 : 0 ≤ tb.cnt ∧ tb.cnt < 256 := by
    have := bus_cnt (t.pins nmi) a
    rw [eb] at this
    dsimp only at this
    rcases this with e | e
    · rw [e]; exact k0
    · rw [e]; exact hd
  subst e2
  split
  · rw [(begins_keeps tb b.data irq).2.1]; exact h1
  · exact h1
end

/-
  Ways into an interrupt: walked.
-/
section
set_option maxRecDepth 100000
set_option maxHeartbeats 1000000
variable {B : Nat} {s : PC} {w0 w : World}

theorem enterByBreak_1 (h : Tn B s w0 w) (hk : s.step = 1) :
    Calls Tryz.prog 129 #[.pointer (some ⟨B, 0, none⟩)] w fun e w' => e = .returned (s.enterByBreak).2.val ∧ Tn B (s.enterByBreak).1 w0 w' := by
  have c_step := h.c.cstep; obtain ⟨l_step, u_step⟩ := h.c.rstep; have c_pc := h.c.cpc; obtain ⟨l_pc, u_pc⟩ := h.c.rpc; have c_p := h.c.cp; obtain ⟨l_p, u_p⟩ := h.c.rp
  have hu : Hid (s.enterByBreak = s.readNext) := by show _ = _; unfold PC.enterByBreak; rw [if_pos hk]
  rw [hu.out]
  rw [hk] at c_step
  obtain ⟨hlt, hsz, n0, m0, fz0, -⟩ := h.pre
  go_enter Tryz.func129, Tryz.ntmps129
  go_wp2_with (first | (go_at_call 169; refine Ck.go w0 w.heap.size kq6 (fun h => readNext_any h) ?_; intro w1 k; intros; have c_pc := k.c.cpc; obtain ⟨l_pc, u_pc⟩ := k.c.rpc; (try simp only [BusI.val])))
  all_goals (have hr := Tryz.results129; exact bodyPost_ret brq rfl ⟨rfl, tq1⟩)

theorem enterByBreak_d (h : Tn B s w0 w) (hk1 : (s.step == 1) = false) :
    Calls Tryz.prog 129 #[.pointer (some ⟨B, 0, none⟩)] w fun e w' => e = .returned (s.enterByBreak).2.val ∧ Tn B (s.enterByBreak).1 w0 w' := by
  have c_step := h.c.cstep; obtain ⟨l_step, u_step⟩ := h.c.rstep; have c_pc := h.c.cpc; obtain ⟨l_pc, u_pc⟩ := h.c.rpc; have c_p := h.c.cp; obtain ⟨l_p, u_p⟩ := h.c.rp
  have hu : Hid (s.enterByBreak = s.enter 65534 (bits .or .u8 s.p 16)) := by show _ = _; unfold PC.enterByBreak; rw [if_neg (by simpa using hk1)]
  rw [hu.out]
  obtain ⟨hlt, hsz, n0, m0, fz0, -⟩ := h.pre
  go_enter Tryz.func129, Tryz.ntmps129
  go_wp2_with (first | (go_at_call 184; refine Ck.go w0 w.heap.size kq6 (fun h => enter_any h _ _ nq5 nq5 (by first | assumption | omega | exact (bit_r _ _ _).1) (by first | assumption | omega | exact (bit_r _ _ _).2)) ?_; intro w1 k; intros; have c_pc := k.c.cpc; obtain ⟨l_pc, u_pc⟩ := k.c.rpc; (try simp only [BusI.val])))
  all_goals (have hr := Tryz.results129; exact bodyPost_ret brq rfl ⟨rfl, tq1⟩)

theorem enterByBreak_any (h : Tn B s w0 w) :
    Calls Tryz.prog 129 #[.pointer (some ⟨B, 0, none⟩)] w fun e w' => e = .returned (s.enterByBreak).2.val ∧ Tn B (s.enterByBreak).1 w0 w' := by
  by_cases e1 : s.step = 1
  · exact enterByBreak_1 h  e1
  exact enterByBreak_d h  (by simpa using e1)

theorem enterByIRQ_1 (h : Tn B s w0 w) (hk : s.step = 1) :
    Calls Tryz.prog 131 #[.pointer (some ⟨B, 0, none⟩)] w fun e w' => e = .returned (s.enterByIRQ).2.val ∧ Tn B (s.enterByIRQ).1 w0 w' := by
  have c_step := h.c.cstep; obtain ⟨l_step, u_step⟩ := h.c.rstep; have c_pc := h.c.cpc; obtain ⟨l_pc, u_pc⟩ := h.c.rpc; have c_p := h.c.cp; obtain ⟨l_p, u_p⟩ := h.c.rp
  have hu : Hid (s.enterByIRQ = s.read s.pc) := by show _ = _; unfold PC.enterByIRQ; rw [if_pos hk]
  rw [hu.out]
  rw [hk] at c_step
  obtain ⟨hlt, hsz, n0, m0, fz0, -⟩ := h.pre
  go_enter Tryz.func131, Tryz.ntmps131
  go_wp2_with (first | (go_at_call 103; refine Ck.go w0 w.heap.size kq6 (fun h => read_any h _ nq5 nq5) ?_; intro w1 k; intros; have c_pc := k.c.cpc; obtain ⟨l_pc, u_pc⟩ := k.c.rpc; (try simp only [BusI.val])))
  all_goals (try go_region_with (first | (go_at_call 103; refine Ck.go w0 w.heap.size kq6 (fun h => read_any h _ nq5 nq5) ?_; intro w1 k; intros; have c_pc := k.c.cpc; obtain ⟨l_pc, u_pc⟩ := k.c.rpc; (try simp only [BusI.val]))))
  all_goals (try go_wp2_with (first | (go_at_call 103; refine Ck.go w0 w.heap.size kq6 (fun h => read_any h _ nq5 nq5) ?_; intro w1 k; intros; have c_pc := k.c.cpc; obtain ⟨l_pc, u_pc⟩ := k.c.rpc; (try simp only [BusI.val]))))
  all_goals (have hr := Tryz.results131; exact bodyPost_ret brq rfl ⟨rfl, tq1⟩)

theorem enterByIRQ_d (h : Tn B s w0 w) (hk1 : (s.step == 1) = false) :
    Calls Tryz.prog 131 #[.pointer (some ⟨B, 0, none⟩)] w fun e w' => e = .returned (s.enterByIRQ).2.val ∧ Tn B (s.enterByIRQ).1 w0 w' := by
  have c_step := h.c.cstep; obtain ⟨l_step, u_step⟩ := h.c.rstep; have c_pc := h.c.cpc; obtain ⟨l_pc, u_pc⟩ := h.c.rpc; have c_p := h.c.cp; obtain ⟨l_p, u_p⟩ := h.c.rp
  have hu : Hid (s.enterByIRQ = s.enter 65534 (s.p)) := by show _ = _; unfold PC.enterByIRQ; rw [if_neg (by simpa using hk1)]
  rw [hu.out]
  obtain ⟨hlt, hsz, n0, m0, fz0, -⟩ := h.pre
  go_enter Tryz.func131, Tryz.ntmps131
  go_wp2_with (first | (go_at_call 184; refine Ck.go w0 w.heap.size kq6 (fun h => enter_any h _ _ nq5 nq5 (by first | assumption | omega | exact (bit_r _ _ _).1) (by first | assumption | omega | exact (bit_r _ _ _).2)) ?_; intro w1 k; intros; have c_pc := k.c.cpc; obtain ⟨l_pc, u_pc⟩ := k.c.rpc; (try simp only [BusI.val])))
  all_goals (have hr := Tryz.results131; exact bodyPost_ret brq rfl ⟨rfl, tq1⟩)

theorem enterByIRQ_any (h : Tn B s w0 w) :
    Calls Tryz.prog 131 #[.pointer (some ⟨B, 0, none⟩)] w fun e w' => e = .returned (s.enterByIRQ).2.val ∧ Tn B (s.enterByIRQ).1 w0 w' := by
  by_cases e1 : s.step = 1
  · exact enterByIRQ_1 h  e1
  exact enterByIRQ_d h  (by simpa using e1)

theorem enterByNMI_1 (h : Tn B s w0 w) (hk : s.step = 1) :
    Calls Tryz.prog 130 #[.pointer (some ⟨B, 0, none⟩)] w fun e w' => e = .returned (s.enterByNMI).2.val ∧ Tn B (s.enterByNMI).1 w0 w' := by
  have c_step := h.c.cstep; obtain ⟨l_step, u_step⟩ := h.c.rstep; have c_pc := h.c.cpc; obtain ⟨l_pc, u_pc⟩ := h.c.rpc; have c_p := h.c.cp; obtain ⟨l_p, u_p⟩ := h.c.rp
  have hu : Hid (s.enterByNMI = s.read s.pc) := by show _ = _; unfold PC.enterByNMI; rw [if_pos hk]
  rw [hu.out]
  rw [hk] at c_step
  obtain ⟨hlt, hsz, n0, m0, fz0, -⟩ := h.pre
  go_enter Tryz.func130, Tryz.ntmps130
  go_wp2_with (first | (go_at_call 103; refine Ck.go w0 w.heap.size kq6 (fun h => read_any h _ nq5 nq5) ?_; intro w1 k; intros; have c_pc := k.c.cpc; obtain ⟨l_pc, u_pc⟩ := k.c.rpc; (try simp only [BusI.val])))
  all_goals (try go_region_with (first | (go_at_call 103; refine Ck.go w0 w.heap.size kq6 (fun h => read_any h _ nq5 nq5) ?_; intro w1 k; intros; have c_pc := k.c.cpc; obtain ⟨l_pc, u_pc⟩ := k.c.rpc; (try simp only [BusI.val]))))
  all_goals (try go_wp2_with (first | (go_at_call 103; refine Ck.go w0 w.heap.size kq6 (fun h => read_any h _ nq5 nq5) ?_; intro w1 k; intros; have c_pc := k.c.cpc; obtain ⟨l_pc, u_pc⟩ := k.c.rpc; (try simp only [BusI.val]))))
  all_goals (have hr := Tryz.results130; exact bodyPost_ret brq rfl ⟨rfl, tq1⟩)

theorem enterByNMI_d (h : Tn B s w0 w) (hk1 : (s.step == 1) = false) :
    Calls Tryz.prog 130 #[.pointer (some ⟨B, 0, none⟩)] w fun e w' => e = .returned (s.enterByNMI).2.val ∧ Tn B (s.enterByNMI).1 w0 w' := by
  have c_step := h.c.cstep; obtain ⟨l_step, u_step⟩ := h.c.rstep; have c_pc := h.c.cpc; obtain ⟨l_pc, u_pc⟩ := h.c.rpc; have c_p := h.c.cp; obtain ⟨l_p, u_p⟩ := h.c.rp
  have hu : Hid (s.enterByNMI = s.enter 65530 (s.p)) := by show _ = _; unfold PC.enterByNMI; rw [if_neg (by simpa using hk1)]
  rw [hu.out]
  obtain ⟨hlt, hsz, n0, m0, fz0, -⟩ := h.pre
  go_enter Tryz.func130, Tryz.ntmps130
  go_wp2_with (first | (go_at_call 184; refine Ck.go w0 w.heap.size kq6 (fun h => enter_any h _ _ nq5 nq5 (by first | assumption | omega | exact (bit_r _ _ _).1) (by first | assumption | omega | exact (bit_r _ _ _).2)) ?_; intro w1 k; intros; have c_pc := k.c.cpc; obtain ⟨l_pc, u_pc⟩ := k.c.rpc; (try simp only [BusI.val])))
  all_goals (have hr := Tryz.results130; exact bodyPost_ret brq rfl ⟨rfl, tq1⟩)

theorem enterByNMI_any (h : Tn B s w0 w) :
    Calls Tryz.prog 130 #[.pointer (some ⟨B, 0, none⟩)] w fun e w' => e = .returned (s.enterByNMI).2.val ∧ Tn B (s.enterByNMI).1 w0 w' := by
  by_cases e1 : s.step = 1
  · exact enterByNMI_1 h  e1
  exact enterByNMI_d h  (by simpa using e1)
end

/-
  A turn: the state says what is done.
-/
section
set_option maxRecDepth 100000
set_option maxHeartbeats 1000000
variable {B : Nat} {s : PC} {w0 w : World}

theorem Ck.below {w0 W w1 : World} {B R : Nat} {s : PC} (k : Ck w0 B R s W) (hb : Below W.heap.size W w1) : Ck w0 B R s w1 :=
  ⟨(below_thru k.t hb).c, (below_thru k.t hb).g, by rw [hb.block _ k.lt]; exact k.r, k.ne, k.le⟩
theorem wr64_r (x : Int) : -9223372036854775808 ≤ wrap64 x ∧ wrap64 x < 9223372036854775808 := by
  simp only [wrap64]; omega
theorem wrap64_eq (x : Int) : IntKind.wrap .i64 x = wrap64 x := by simp only [wrap64, IntKind.wrap_i64]

theorem turn_s2 (h : Tn B s w0 w) (irq : Bool) (hs : s.st = 2) :
    Calls Tryz.prog 54 #[.pointer (some ⟨B, 0, none⟩), .bool irq] w fun e w' => e = .returned (s.turn irq).2.val ∧ Tn B (s.turn irq).1 w0 w' := by
  have c_st := h.c.cst; obtain ⟨l_st, u_st⟩ := h.c.rst
  have hu : Hid (s.turn irq = s.access) := by show _ = _; unfold PC.turn; rw [if_neg (by rw [hs]; decide), if_pos hs]
  rw [hu.out]
  rw [hs] at c_st
  obtain ⟨hlt, hsz, n0, m0, fz0, -⟩ := h.pre
  go_enter Tryz.func54, Tryz.ntmps54
  go_wp2_with (first | (go_at_call 80; refine Ck.go w0 w.heap.size kq6 (fun h => access_any h) ?_; intro w1 k; intros; (try simp only [BusI.val])))
  all_goals (try go_region_with (first | (go_at_call 80; refine Ck.go w0 w.heap.size kq6 (fun h => access_any h) ?_; intro w1 k; intros; (try simp only [BusI.val]))))
  all_goals (try go_wp2_with (first | (go_at_call 80; refine Ck.go w0 w.heap.size kq6 (fun h => access_any h) ?_; intro w1 k; intros; (try simp only [BusI.val]))))
  all_goals (have hr := Tryz.results54; exact bodyPost_ret brq rfl ⟨rfl, tq1⟩)

theorem turn_s3 (h : Tn B s w0 w) (irq : Bool) (hs : s.st = 3) :
    Calls Tryz.prog 54 #[.pointer (some ⟨B, 0, none⟩), .bool irq] w fun e w' => e = .returned (s.turn irq).2.val ∧ Tn B (s.turn irq).1 w0 w' := by
  have c_st := h.c.cst; obtain ⟨l_st, u_st⟩ := h.c.rst
  have hu : Hid (s.turn irq = s.restore) := by show _ = _; unfold PC.turn; rw [if_neg (by rw [hs]; decide), if_neg (by rw [hs]; decide), if_pos hs]
  rw [hu.out]
  rw [hs] at c_st
  obtain ⟨hlt, hsz, n0, m0, fz0, -⟩ := h.pre
  go_enter Tryz.func54, Tryz.ntmps54
  go_wp2_with (first | (go_at_call 81; refine Ck.go w0 w.heap.size kq6 (fun h => restore_any h) ?_; intro w1 k; intros; (try simp only [BusI.val])))
  all_goals (try go_region_with (first | (go_at_call 81; refine Ck.go w0 w.heap.size kq6 (fun h => restore_any h) ?_; intro w1 k; intros; (try simp only [BusI.val]))))
  all_goals (try go_wp2_with (first | (go_at_call 81; refine Ck.go w0 w.heap.size kq6 (fun h => restore_any h) ?_; intro w1 k; intros; (try simp only [BusI.val]))))
  all_goals (have hr := Tryz.results54; exact bodyPost_ret brq rfl ⟨rfl, tq1⟩)

theorem turn_s4 (h : Tn B s w0 w) (irq : Bool) (hs : s.st = 4) :
    Calls Tryz.prog 54 #[.pointer (some ⟨B, 0, none⟩), .bool irq] w fun e w' => e = .returned (s.turn irq).2.val ∧ Tn B (s.turn irq).1 w0 w' := by
  have c_st := h.c.cst; obtain ⟨l_st, u_st⟩ := h.c.rst
  have hu : Hid (s.turn irq = s.change) := by show _ = _; unfold PC.turn; rw [if_neg (by rw [hs]; decide), if_neg (by rw [hs]; decide), if_neg (by rw [hs]; decide), if_pos hs]
  rw [hu.out]
  rw [hs] at c_st
  obtain ⟨hlt, hsz, n0, m0, fz0, -⟩ := h.pre
  go_enter Tryz.func54, Tryz.ntmps54
  go_wp2_with (first | (go_at_call 82; refine Ck.go w0 w.heap.size kq6 (fun h => change_any h) ?_; intro w1 k; intros; (try simp only [BusI.val])))
  all_goals (try go_region_with (first | (go_at_call 82; refine Ck.go w0 w.heap.size kq6 (fun h => change_any h) ?_; intro w1 k; intros; (try simp only [BusI.val]))))
  all_goals (try go_wp2_with (first | (go_at_call 82; refine Ck.go w0 w.heap.size kq6 (fun h => change_any h) ?_; intro w1 k; intros; (try simp only [BusI.val]))))
  all_goals (have hr := Tryz.results54; exact bodyPost_ret brq rfl ⟨rfl, tq1⟩)
end

/-
  A turn, mode by mode.
-/
section
variable {B : Nat} {s : PC} {w0 w : World}

set_option maxRecDepth 100000 in
set_option maxHeartbeats 1000000 in
theorem turn_f (h : Tn B s w0 w) (irq : Bool) (hs : s.st = 1) (n : Nat) (hn : n < 23) (hm : s.md = n) (F : Nat) (hv : mtab.getD n .nilFunc = .func (.func F) #[] #[]) (he : ∀ a w, Sem.run Tryz.prog (callFunc F a) w = .ok (.enter F a) w)
    (hc : ∀ {s : PC} {w0 w : World}, Tn B s w0 w → Calls Tryz.prog F #[.pointer (some ⟨B, 0, none⟩)] w fun e w' => e = .returned (s.doMode n).2.val ∧ Tn B (s.doMode n).1 w0 w') :
    Calls Tryz.prog 54 #[.pointer (some ⟨B, 0, none⟩), .bool irq] w fun e w' => e = .returned (s.turn irq).2.val ∧ Tn B (s.turn irq).1 w0 w' := by
  have hu : Hid (s.turn irq = ({ s with step := wrap64 (s.step + 1) } : PC).doMode n) := by show _ = _; unfold PC.turn; rw [if_neg (by rw [hs]; decide), if_neg (by rw [hs]; decide), if_neg (by rw [hs]; decide), if_neg (by rw [hs]; decide), wrap64_eq]; simp only [hm]; rfl
  rw [hu.out]
  have c_st := h.c.cst; obtain ⟨l_st, u_st⟩ := h.c.rst; have c_md := h.c.cmd; have c_step := h.c.cstep; obtain ⟨l_step, u_step⟩ := h.c.rstep
  rw [hs] at c_st
  rw [hm] at c_md
  clear hs hm
  obtain ⟨hlt, hsz, n0, m0, fz0, -⟩ := h.pre
  go_enter Tryz.func54, Tryz.ntmps54
  go_wp2_with (go_at_call 83; refine (mmeth_at n hn _ hv _).mono ?_; rintro e w1 ⟨rfl, hb⟩; have k := Ck.below (w0 := w0) (B := B) (R := w.heap.size) kq16 hb; obtain ⟨⟨r0, r1, r2, r3⟩, r4, z0, n1, n2, m1, m2, fz, b1, nr, mr⟩ := k.facts)
  refine Ck.go w0 w.heap.size kq16 (fun h => hc h) ?_
  intro w1 k
  intros
  simp only [BusI.val]
  go_wp2
  all_goals (have hr := Tryz.results54; exact bodyPost_ret brq rfl ⟨rfl, tq8⟩)
end

/-
  The document's computer, walked: next of every instruction.
-/
section
theorem no_B1 {op : BA} (h : op ∈ lB) : NoN op := by
  unfold lB at h
  simp only [List.mem_cons, List.not_mem_nil, or_false] at h
  rcases h with rfl | rfl | rfl | rfl | rfl | rfl | rfl | rfl
  all_goals (unfold NoN; decide)
theorem imp_kinds {op : BA} (h : op ∈ lI) : op ∈ lP ∨ op = b3 80 72 65 ∨ op = b3 80 72 80 ∨ NoN op := by
  unfold lI at h
  simp only [List.mem_cons, List.not_mem_nil, or_false] at h
  rcases h with rfl | rfl | rfl | rfl | rfl | rfl | rfl | rfl | rfl | rfl | rfl | rfl | rfl | rfl | rfl | rfl | rfl | rfl | rfl | rfl | rfl | rfl
  all_goals first | (right; right; right; unfold NoN; decide) | (right; left; rfl) | (right; right; left; rfl) | (left; unfold lP; simp; done)

theorem rnext (op md : BA) (hc : Cd op md) (r : RG) (hr : RgR r) (b cap : Nat) (h : List Int) (h1 : 1 ≤ h.length) (hl : h.length ≤ 100) (w : World) (H : HdAt w b h) :
    Calls Tryz.prog 92 #[cdV op md, r.val, hdV b h cap] w fun e w' => e = .returned (ruleV (nextR op md r h)) ∧ Below w.heap.size w w' := by
  cases hc with
  | seq q => exact next_seq op md q r hr b cap h h1 hl w H
  | jsr q => subst q; exact next_jsr md r hr b cap h h1 hl w H
  | ret q => exact next_pull op md (by unfold lP; rcases q with rfl | rfl <;> simp) r hr b cap h h1 hl w H
  | jmp q m => subst q; exact next_jump md m r hr b cap h h1 hl w H
  | imp q m =>
    subst m
    rcases imp_kinds q with k | rfl | rfl | k
    · exact next_pull op _ k r hr b cap h h1 hl w H
    · exact next_pha r hr b cap h h1 hl w H
    · exact next_php r hr b cap h h1 hl w H
    · exact next_imp op _ k (.inl rfl) r hr b cap h h1 hl w H
  | acc q m => subst m; exact next_imp op _ (no_R (.inr (.inr q))) (.inr (.inl rfl)) r hr b cap h h1 hl w H
  | imm q m => subst m; exact next_imp op _ (no_R (.inl q)) (.inr (.inr rfl)) r hr b cap h h1 hl w H
  | rel q m => subst m; exact next_rel op (no_B1 q) q r hr b cap h h1 hl w H
  | plc q m => exact next_placed op md q m r hr b cap h h1 hl w H
end

/-
  The document's computer, walked: the registers behind an instruction: in the accumulator.
-/
section
set_option maxRecDepth 100000
set_option maxHeartbeats 20000000

theorem done_acc (op : BA) (hop : op ∈ lC) (r : RG) (hr : RgR r) (b cap : Nat) (h : List Int) (hl : h.length ≤ 100) (w : World) (H : HdAt w b h) :
    Calls Tryz.prog 96 #[cdV op (b3 97 99 99), r.val, hdV b h cap] w fun e w' => e = .returned (doneR op (b3 97 99 99) r h).val ∧ Below w.heap.size w w' := by
  have _v := H
  have _u := hl
  clear _u _v
  have no := nof_C hop
  rw [show doneR op (b3 97 99 99) r h = { r with PC := (r.PC + 1) % 65536, A := (changedR op r.A r.P).1, P := (changedR op r.A r.P).2 } from by unfold doneR; rw [if_neg (by rw [nof_far no]; decide)]; rfl]
  obtain ⟨A, X, Y, S, P, PC, cyc, jam⟩ := r
  have c0 : 0 ≤ PC ∧ PC < 65536 := hr.pc
  have a0 : 0 ≤ A ∧ A < 256 := hr.a
  have p0 : 0 ≤ P ∧ P < 256 := hr.p
  have CHG := fun w => rchanged op hop A P a0.1 a0.2 p0.1 p0.2 w
  dsimp only
  generalize changedR op A P = cq at *
  obtain ⟨c1, c2⟩ := cq
  unfold chV at CHG
  dsimp only at CHG ⊢
  have z0 := tl_no3 no.1
  have z1 := tl_no3 no.2.1
  have z2 := tl_no3 no.2.2.1
  have AM := ramong4 op false (nof_any no)
  clear no hop H hr
  unfold cdV hdV RG.val b3
  generalize h.length = n at *
  go_enter Tryz.func96, Tryz.ntmps96
  go_wp2_with (first | (go_at_call 151; refine (AM _ _ _ (by simp)).mono ?_; rintro e w1 ⟨rfl, rfl⟩) | (go_at_call 91; with_reducible refine (rcut16 _ _).mono ?_; rintro e w1 ⟨rfl, hw⟩; subst hw) | (go_at_call 156; refine (CHG _).mono ?_; rintro e w1 ⟨rfl, hw⟩; subst hw))
  all_goals (try (go_quiet (fail)))
  all_goals (try (go_wp2_with (first | (go_at_call 151; refine (AM _ _ _ (by simp)).mono ?_; rintro e w1 ⟨rfl, rfl⟩) | (go_at_call 91; with_reducible refine (rcut16 _ _).mono ?_; rintro e w1 ⟨rfl, hw⟩; subst hw) | (go_at_call 156; refine (CHG _).mono ?_; rintro e w1 ⟨rfl, hw⟩; subst hw))))
  all_goals (try (go_region_with (first | (go_at_call 151; refine (AM _ _ _ (by simp)).mono ?_; rintro e w1 ⟨rfl, rfl⟩) | (go_at_call 91; with_reducible refine (rcut16 _ _).mono ?_; rintro e w1 ⟨rfl, hw⟩; subst hw) | (go_at_call 156; refine (CHG _).mono ?_; rintro e w1 ⟨rfl, hw⟩; subst hw))))
  all_goals (try (go_wp2_with (first | (go_at_call 151; refine (AM _ _ _ (by simp)).mono ?_; rintro e w1 ⟨rfl, rfl⟩) | (go_at_call 91; with_reducible refine (rcut16 _ _).mono ?_; rintro e w1 ⟨rfl, hw⟩; subst hw) | (go_at_call 156; refine (CHG _).mono ?_; rintro e w1 ⟨rfl, hw⟩; subst hw))))
  all_goals go_returns
  all_goals exact ⟨rfl, by go_grown⟩
end

/-
  The document's computer, walked: done of every instruction.
-/
section
theorem len_seq {op md : BA} {r : RG} {h : List Int} (hop : op = b3 78 77 73 ∨ op = b3 73 82 81 ∨ op = b3 66 82 75) (h1 : 1 ≤ h.length) (hn : (nextR op md r h).2 = false) : 7 ≤ h.length := by
  rw [show nextR op md r h = entersR op r h.length from by unfold nextR; rw [if_pos hop]] at hn
  rcases (show h.length = 1 ∨ h.length = 2 ∨ h.length = 3 ∨ h.length = 4 ∨ h.length = 5 ∨ h.length = 6 ∨ 7 ≤ h.length from by omega) with e | e | e | e | e | e | e
  · rw [e] at hn; rcases hop with rfl | rfl | rfl <;> cases hn
  · rw [e] at hn; rcases hop with rfl | rfl | rfl <;> cases hn
  · rw [e] at hn; rcases hop with rfl | rfl | rfl <;> cases hn
  · rw [e] at hn; rcases hop with rfl | rfl | rfl <;> cases hn
  · rw [e] at hn; rcases hop with rfl | rfl | rfl <;> cases hn
  · rw [e] at hn; rcases hop with rfl | rfl | rfl <;> cases hn
  · exact e
theorem len_jsr {md : BA} {r : RG} {h : List Int} (h1 : 1 ≤ h.length) (hn : (nextR (b3 74 83 82) md r h).2 = false) : 6 ≤ h.length := by
  rcases (show h.length = 1 ∨ h.length = 2 ∨ h.length = 3 ∨ h.length = 4 ∨ h.length = 5 ∨ 6 ≤ h.length from by omega) with e | e | e | e | e | e
  all_goals first | exact e | (unfold nextR at hn; rw [e] at hn; cases hn)
theorem len_ret {op md : BA} {r : RG} {h : List Int} (hop : op = b3 82 84 83 ∨ op = b3 82 84 73) (h1 : 1 ≤ h.length) (hn : (nextR op md r h).2 = false) : 6 ≤ h.length := by
  rcases hop with rfl | rfl
  all_goals
    rw [show ∀ o, (o = b3 82 84 83 ∨ o = b3 82 84 73) → nextR o md r h = pullsR o r h from fun o q => by rcases q with rfl | rfl <;> rfl] at hn
    rcases (show h.length = 1 ∨ h.length = 2 ∨ h.length = 3 ∨ h.length = 4 ∨ h.length = 5 ∨ 6 ≤ h.length from by omega) with e | e | e | e | e | e
    all_goals first | exact e | (unfold pullsR at hn; rw [e] at hn; cases hn) | simp
theorem len_pull {op : BA} {r : RG} {h : List Int} (hop : op = b3 80 76 65 ∨ op = b3 80 76 80) (md : BA) (h1 : 1 ≤ h.length) (hn : (nextR op md r h).2 = false) : 4 ≤ h.length := by
  rcases hop with rfl | rfl
  all_goals
    rw [show ∀ o, (o = b3 80 76 65 ∨ o = b3 80 76 80) → nextR o md r h = pullsR o r h from fun o q => by rcases q with rfl | rfl <;> rfl] at hn
    rcases (show h.length = 1 ∨ h.length = 2 ∨ h.length = 3 ∨ 4 ≤ h.length from by omega) with e | e | e | e
    all_goals first | exact e | (unfold pullsR at hn; rw [e] at hn; cases hn) | simp
theorem len_jmp {md : BA} {r : RG} {h : List Int} (hm : md ∈ mJ) (h1 : 1 ≤ h.length) (h5 : h.length ≤ 5) (hn : (nextR (b3 74 77 80) md r h).2 = false) : h.length = 3 ∨ h.length = 5 := by
  rw [show nextR (b3 74 77 80) md r h = jumpsR md r h from rfl] at hn
  unfold mJ at hm
  simp only [List.mem_cons, List.not_mem_nil, or_false] at hm
  rcases (show h.length = 1 ∨ h.length = 2 ∨ h.length = 3 ∨ h.length = 4 ∨ h.length = 5 from by omega) with e | e | e | e | e
  all_goals first | exact .inl e | exact .inr e | (unfold jumpsR at hn; rw [e] at hn; rcases hm with rfl | rfl <;> cases hn)
theorem len_rel {op : BA} {r : RG} {h : List Int} (hop : op ∈ lB) (h1 : 1 ≤ h.length) (hn : (nextR op (b3 114 101 108) r h).2 = false) : 2 ≤ h.length := by
  rcases (show h.length = 1 ∨ 2 ≤ h.length from by omega) with e | e
  · unfold lB at hop
    simp only [List.mem_cons, List.not_mem_nil, or_false] at hop
    unfold nextR branchesR at hn
    rw [e] at hn
    rcases hop with rfl | rfl | rfl | rfl | rfl | rfl | rfl | rfl <;> cases hn
  · exact e
theorem len_plc {op md : BA} {r : RG} {h : List Int} (hop : op ∈ lC) (hm : md ∈ mA) (h1 : 1 ≤ h.length) (hn : (nextR op md r h).2 = false) : 3 ≤ h.length := by
  rcases (show h.length = 1 ∨ h.length = 2 ∨ 3 ≤ h.length from by omega) with e | e | e
  · unfold lC at hop
    unfold mA at hm
    simp only [List.mem_cons, List.not_mem_nil, or_false] at hop hm
    unfold nextR placeR usesR at hn
    rw [e] at hn
    rcases hop with rfl | rfl | rfl | rfl | rfl | rfl <;> rcases hm with rfl | rfl | rfl | rfl | rfl | rfl | rfl | rfl <;> cases hn
  · unfold lC at hop
    unfold mA at hm
    simp only [List.mem_cons, List.not_mem_nil, or_false] at hop hm
    unfold nextR placeR usesR at hn
    rw [e] at hn
    rcases hop with rfl | rfl | rfl | rfl | rfl | rfl <;> rcases hm with rfl | rfl | rfl | rfl | rfl | rfl | rfl | rfl <;> cases hn
  · exact e
theorem mA_mB {md : BA} (h : md ∈ mA) : md ∈ mB := by
  unfold mA at h
  unfold mB
  simp only [List.mem_cons, List.not_mem_nil, or_false] at h ⊢
  rcases h with q | q | q | q | q | q | q | q <;> simp [q]
theorem fl_I {op : BA} (h : op ∈ lI) (n : Nat) (hp : (op = b3 80 76 65 ∨ op = b3 80 76 80) → 4 ≤ n) : FlOk op n := by
  unfold lI at h
  simp only [List.mem_cons, List.not_mem_nil, or_false] at h
  rcases h with rfl | rfl | rfl | rfl | rfl | rfl | rfl | rfl | rfl | rfl | rfl | rfl | rfl | rfl | rfl | rfl | rfl | rfl | rfl | rfl | rfl | rfl
  all_goals first | exact .inr (.inr (.inl ⟨.inl rfl, hp (.inl rfl)⟩)) | exact .inr (.inr (.inl ⟨.inr rfl, hp (.inr rfl)⟩)) | exact .inr (.inr (.inr (.inr (by unfold lI0; simp))))

theorem rdoneA (op md : BA) (hc : Cd op md) (r : RG) (hr : RgR r) (b cap : Nat) (h : List Int) (h1 : 1 ≤ h.length) (hl : h.length ≤ 100) (hn : (nextR op md r h).2 = false) (hj : op = b3 74 77 80 → h.length ≤ 5) (w : World) (H : HdAt w b h) :
    Calls Tryz.prog 96 #[cdV op md, r.val, hdV b h cap] w fun e w' => e = .returned (doneR op md r h).val ∧ Below w.heap.size w w' := by
  cases hc with
  | seq q => exact done_seq op md q r hr b cap h hl (.inl ⟨q, len_seq q h1 hn⟩) w H
  | jsr q => subst q; exact done_far4 _ md (.inl rfl) r hr b cap h hl (.inr (.inl ⟨.inl rfl, len_jsr h1 hn⟩)) w H
  | ret q => exact done_far4 op md (by rcases q with q | q; exact .inr (.inl q); exact .inr (.inr (.inl q))) r hr b cap h hl (.inr (.inl ⟨.inr q, len_ret q h1 hn⟩)) w H
  | jmp q m => subst q; exact done_far4 _ md (.inr (.inr (.inr rfl))) r hr b cap h hl (.inr (.inr (.inr (.inl ⟨rfl, len_jmp m h1 (hj rfl) hn⟩)))) w H
  | imp q m => subst m; exact done_imp op q r hr b cap h hl (fl_I q _ (fun k => len_pull k _ h1 hn)) w H
  | acc q m => subst m; exact done_acc op q r hr b cap h hl w H
  | imm q m => subst m; exact done_r2b op _ q (.inr (.inr rfl)) r hr b cap h hl h1 w H
  | rel q m => subst m; exact done_rel op q r hr b cap h hl (len_rel q h1 hn) w H
  | plc q m =>
    rcases q with q | q | q
    · unfold mA at m
      simp only [List.mem_cons, List.not_mem_nil, or_false] at m
      rcases m with m | m | m | m | m | m | m | m
      · exact done_r2a op md q (.inl m) r hr b cap h hl h1 w H
      · exact done_r2a op md q (.inr (.inl m)) r hr b cap h hl h1 w H
      · exact done_r2a op md q (.inr (.inr m)) r hr b cap h hl h1 w H
      · exact done_r3 op md q (.inl m) r hr b cap h hl h1 w H
      · exact done_r3 op md q (.inr (.inl m)) r hr b cap h hl h1 w H
      · exact done_r3 op md q (.inr (.inr m)) r hr b cap h hl h1 w H
      · exact done_r2b op md q (.inl m) r hr b cap h hl h1 w H
      · exact done_r2b op md q (.inr (.inl m)) r hr b cap h hl h1 w H
    · exact done_w op md q (mA_mB m) r hr b cap h hl w H
    · exact done_c op md q (mA_mB m) r hr b cap h hl (len_plc q m h1 hn) w H
end

end Go.Proofs.YtcgjliflnnklnaaGreat
