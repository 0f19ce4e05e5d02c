/-
  Registers and a look: the program's calls of a computer, and of a machine.
-/
import Derived.Test.YtcgjliflnnklnabGreatCpCy
import Derived.Deep.RegionHeld3
namespace Go.Proofs.YtcgjliflnnklnabGreat
open Go.RowKit

structure RegI where
  A : Int
  X : Int
  Y : Int
  S : Int
  P : Int
  PC : Int
  cyc : Int
  jam : Bool
def RegI.val (r : RegI) : Value := .agg #[.int .i64 r.A, .int .i64 r.X, .int .i64 r.Y, .int .i64 r.S, .int .i64 r.P, .int .i64 r.PC, .int .i64 r.cyc, .bool r.jam]
def PC.regs (s : PC) : RegI := ⟨s.ba, s.bx, s.b_y, s.bs, s.bp, s.bpc, s.cyc, s.st == 5⟩
def PC.peek (s : PC) (a : Int) : Int := s.look (a % 65536)

theorem wrap_id (x : Int) (h0 : 0 ≤ x) (h1 : x < 65536) : IntKind.i64.wrap x = x := by rw [IntKind.wrap_i64]; omega
theorem wrap_id8 (x : Int) (h0 : 0 ≤ x) (h1 : x < 256) : IntKind.i64.wrap x = x := wrap_id x h0 (by omega)
theorem bcellR {W w1 : World} (hb : Below W.heap.size W w1) : (∀ b o, b < W.heap.size → w1.cell? ⟨b, o, none⟩ = W.cell? ⟨b, o, none⟩) ∧ (∀ b o, b < W.heap.size → w1.frozen? ⟨b, o, none⟩ = W.frozen? ⟨b, o, none⟩) :=
  ⟨fun b o h => hb.cell (p := ⟨b, o, none⟩) h, fun b o h => hb.frozen (p := ⟨b, o, none⟩) h⟩
theorem bl_drew {w w' : World} (h : Below w.heap.size w w') : Below w.heap.size w w'.drew := ⟨h.os, h.tape, h.output, h.size, h.block⟩
theorem bl_alloc {w w' : World} {o : Obj} (h : Below w.heap.size w w') : Below w.heap.size w (w'.alloc o) := h.alloc h.size o
theorem bl_thru {w w1 : World} {o : Obj} (hb : Below (w.alloc o).heap.size (w.alloc o) w1) : Below w.heap.size w w1 := ((Below.refl _ _).alloc (Nat.le_refl _) _).trans (hb.mono (by simp))
theorem bl_set {w w' : World} {b o : Nat} {v : Value} (h : Below w.heap.size w w') (hb : w.heap.size ≤ b) : Below w.heap.size w (w'.setCell ⟨b, o, none⟩ v) := h.setCell hb v

set_option maxRecDepth 100000 in
set_option maxHeartbeats 1000000 in
theorem peek_any {B : Nat} {s : PC} {w0 w : World} (h : Tn B s w0 w) (a : Int) :
    Calls Tryz.prog 23 #[.pointer (some ⟨B, 0, none⟩), .int .i64 a] w fun e w' => e = .returned (.int .i64 (s.peek a)) ∧ w' = w := by
  have r0 : 0 ≤ a % 65536 := by omega
  have r1 : a % 65536 < 65536 := by omega
  obtain ⟨l0, l1⟩ := look_r h.c (a % 65536) r1
  have hl := look_a h (a % 65536) r0 r1
  unfold PC.peek
  generalize s.look (a % 65536) = L at *
  go_enter Tryz.func23, Tryz.ntmps23
  go_wp2_with (first | (go_at_call 27; refine hl.mono ?_; rintro e w' ⟨rfl, rfl⟩))
  go_ret
  exact ⟨rfl, rfl⟩

set_option maxRecDepth 100000 in
set_option maxHeartbeats 2000000 in
theorem regs_any {B : Nat} {s : PC} {w0 w : World} (h : Tn B s w0 w) :
    Calls Tryz.prog 22 #[.pointer (some ⟨B, 0, none⟩)] w fun e w' => e = .returned s.regs.val ∧ Below w.heap.size w w' := by
  have c0 := h.c.cba
  have c1 := h.c.cbx
  have c2 := h.c.cb_y
  have c3 := h.c.cbs
  have c4 := h.c.cbp
  have c5 := h.c.cbpc
  have c6 := h.c.ccyc
  obtain ⟨a0, a1⟩ := h.c.rba
  obtain ⟨x0, x1⟩ := h.c.rbx
  obtain ⟨y0, y1⟩ := h.c.rb_y
  obtain ⟨s0, s1⟩ := h.c.rbs
  obtain ⟨p0, p1⟩ := h.c.rbp
  obtain ⟨q0, q1⟩ := h.c.rbpc
  have hlt := h.c.lt
  have n0 : w.heap.size ≠ B := by omega
  have m0 : B ≠ w.heap.size := by omega
  have n1 : w.heap.size + 1 ≠ B := by omega
  have m1 : B ≠ w.heap.size + 1 := by omega
  have J := fun o o' => jammed_any ((h.alloc o).alloc o').drew
  go_enter Tryz.func22, Tryz.ntmps22
  go_wp2_with fail
  go_region_held3 (fun w' => w'.cell? ⟨w.heap.size + 1, 0, none⟩ = some (.int .u8 s.ba) ∧ w'.cell? ⟨w.heap.size + 1, 1, none⟩ = some (.int .u8 s.bx) ∧ w'.cell? ⟨w.heap.size + 1, 2, none⟩ = some (.int .u8 s.b_y) ∧ w'.cell? ⟨w.heap.size + 1, 3, none⟩ = some (.int .u8 s.bs) ∧ w'.cell? ⟨w.heap.size + 1, 4, none⟩ = some (.int .u8 s.bp) ∧ w'.cell? ⟨w.heap.size + 1, 5, none⟩ = some (.int .u16 s.bpc) ∧ w'.cell? ⟨B, 65561, none⟩ = some (.int .i64 s.cyc)) (go_keep) (first | (go_at_call 31; refine (J _ _).mono ?_; rintro e w1 ⟨rfl, rfl⟩))
  all_goals go_wp2
  all_goals (refine bodyPost_ret (v := s.regs.val) (by simp [results, Tryz.results22, go_sem, RegI.val, PC.regs, *]; exact ⟨wrap_id8 _ a0 a1, wrap_id8 _ x0 x1, wrap_id8 _ y0 y1, wrap_id8 _ s0 s1, wrap_id8 _ p0 p1, wrap_id _ q0 q1⟩) rfl (And.intro rfl ?_))
  all_goals (repeat (first | exact Below.refl _ _ | with_reducible apply bl_drew | with_reducible apply bl_alloc | ((with_reducible apply bl_set); (case hb => omega))))

/-- A machine's calls. -/
def cycV (s : PC) (nmi irq : Bool) : PC × BusI × Bool := if s.st = 5 then (s, ⟨0, 0, false, false⟩, false) else ((s.cycle nmi irq).1, (s.cycle nmi irq).2, true)

theorem cycle_any {B : Nat} {s : PC} {w0 w : World} (h : Tn B s w0 w) (nmi irq : Bool) (hm : s.st = 1 → s.md ≠ 0) :
    Calls Tryz.prog 21 #[.pointer (some ⟨B, 0, none⟩), .bool nmi, .bool irq] w fun e w' => e = .returned (.tuple #[(cycV s nmi irq).2.1.val, .bool (cycV s nmi irq).2.2]) ∧ Tn B (cycV s nmi irq).1 w0 w' := by
  unfold cycV
  by_cases h5 : s.st = 5
  · simp only [if_pos h5]; exact cycle_jam h nmi irq h5
  · simp only [if_neg h5]; exact cycle_go h nmi irq h5 hm

set_option maxRecDepth 100000 in
set_option maxHeartbeats 1000000 in
theorem mCycle_any {B : Nat} {s : PC} {w0 w : World} (h : Tn B s w0 w) (nmi irq : Bool) (hm : s.st = 1 → s.md ≠ 0) :
    Calls Tryz.prog 11 #[.pointer (some ⟨B, 0, none⟩), .bool nmi, .bool irq] w fun e w' => e = .returned (.tuple #[(cycV s nmi irq).2.1.val, .bool (cycV s nmi irq).2.2]) ∧ Tn B (cycV s nmi irq).1 w0 w' := by
  have hlt := h.c.lt
  have hsz := h.g.size
  have k0 := Ck.mk' h (R := w.heap.size) rfl
  have H := Ck.call k0 (fun h => cycle_any h nmi irq hm)
  generalize (cycV s nmi irq).1 = S at *
  generalize (cycV s nmi irq).2.1 = b at *
  generalize (cycV s nmi irq).2.2 = o at *
  obtain ⟨ba, bd, bw, bf⟩ := b
  go_enter Tryz.func11, Tryz.ntmps11
  go_wp2_with fail
  refine H.mono ?_
  rintro e w1 ⟨rfl, k2, -, -, -⟩
  obtain ⟨⟨rr0, rr1, rr2, rr3⟩, g1, g2, g3, g4, g5, g6, g7, g8, g9, g10⟩ := k2.facts
  simp only [BusI.val]
  go_wp2
  refine bodyPost_ret (v := .tuple #[BusI.val ⟨ba, bd, bw, bf⟩, .bool o]) (by simp [results, Tryz.results11, go_sem, BusI.val, *]) rfl (And.intro rfl ?_)
  apply Tn.eq; (case h => repeat (first | with_reducible exact k2.t | with_reducible apply Tn.drew | with_reducible apply Tn.alloc | ((with_reducible apply Tn.other); (case hne => omega); (case hb => omega)))); (case e => rfl)

set_option maxRecDepth 100000 in
set_option maxHeartbeats 1000000 in
theorem mPeek_any {B : Nat} {s : PC} {w0 w : World} (h : Tn B s w0 w) (a : Int) :
    Calls Tryz.prog 16 #[.pointer (some ⟨B, 0, none⟩), .int .i64 a] w fun e w' => e = .returned (.int .i64 (s.peek a)) ∧ w' = w := by
  have hl := peek_any h a
  go_enter Tryz.func16, Tryz.ntmps16
  go_wp2_with (first | (go_at_call 23; refine hl.mono ?_; rintro e w' ⟨rfl, rfl⟩))
  go_ret
  exact ⟨rfl, rfl⟩

set_option maxRecDepth 100000 in
set_option maxHeartbeats 1000000 in
theorem mRegs_any {B : Nat} {s : PC} {w0 w : World} (h : Tn B s w0 w) :
    Calls Tryz.prog 12 #[.pointer (some ⟨B, 0, none⟩)] w fun e w' => e = .returned s.regs.val ∧ Below w.heap.size w w' := by
  have hl := fun o => regs_any (h.alloc o)
  generalize s.regs = r at *
  go_enter Tryz.func12, Tryz.ntmps12
  go_wp2_with (first | (go_at_call 22; refine (hl _).mono ?_; rintro e w1 ⟨rfl, hb⟩; obtain ⟨hc, hf⟩ := bcellR hb; have hz : w.heap.size < w1.heap.size := (by have := hb.size; simp at this; omega); have HB : Hid (Below w.heap.size w w1) := bl_thru hb; clear hb; simp only [RegI.val]))
  refine bodyPost_ret (v := r.val) (by simp [results, Tryz.results12, go_sem, RegI.val, *]) rfl (And.intro rfl ?_)
  have H9 := HB.out
  clear hc hf hl
  clear HB h
  exact bl_set (bl_set (bl_set (bl_set (bl_set (bl_set (bl_set (bl_set H9 (Nat.le_refl _)) (Nat.le_refl _)) (Nat.le_refl _)) (Nat.le_refl _)) (Nat.le_refl _)) (Nat.le_refl _)) (Nat.le_refl _)) (Nat.le_refl _)

end Go.Proofs.YtcgjliflnnklnabGreat
