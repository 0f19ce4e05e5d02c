/-
  Joined texts.
-/
import Derived.Test.YtcgjliflnnklnaaGreatGK
import Derived.Test.YtcgjliflnnklnaaGreatGF
namespace Go.Proofs.YtcgjliflnnklnaaGreat
open Go.RowKit

/-
  Added: what three small programs reckon.
-/
section
/-- ADC and CMP of plain numbers: A and P behind them. -/
def adcS (A M p : Int) : Int × Int := let t := ({ zeroPC (fun _ => none) with a := A, p := p } : PC).add M; (t.a, t.p)
def cmpS (A M p : Int) : Int := (({ zeroPC (fun _ => none) with a := A, p := p, data := M } : PC).compare A).p

def flagB (c : Bool) : UInt8 := if c then 56 else 24
def addPC (c : Bool) (op a m : UInt8) (v1 v2 v3 v4 : Value) (R : Nat → Option Value) : PC := .fresh 256 (keepCs [flagB c, 169, a, op, m, 2] [] [] v1 v2 v3 v4) R
def ldaP (c : Bool) (A : Int) : Int := nzI (setf 36 1 c) A

theorem addG (op : UInt8) (ho : op = 105 ∨ op = 233 ∨ op = 201) (c : Bool) (a m : UInt8) (v1 v2 v3 v4 : Value) (R : Nat → Option Value) : goesB (addPC c op a m v1 v2 v3 v4 R) 7 = true ∧ ((addPC c op a m v1 v2 v3 v4 R).runN 7).st = 5 := by
  rcases ho with rfl | rfl | rfl <;> cases c <;> exact ⟨by kernel_rfl, by kernel_rfl⟩
theorem addX (c : Bool) (a m : UInt8) (v1 v2 v3 v4 : Value) (R : Nat → Option Value) : ((addPC c 105 a m v1 v2 v3 v4 R).runN 7).regs =
    ⟨(adcS ((a.toNat : Int) % 256) ((m.toNat : Int) % 256) (ldaP c ((a.toNat : Int) % 256))).1, 0, 0, 253, (adcS ((a.toNat : Int) % 256) ((m.toNat : Int) % 256) (ldaP c ((a.toNat : Int) % 256))).2, 1029, 7, true⟩ := by
  cases c <;> kernel_rfl
theorem addY (c : Bool) (a m : UInt8) (v1 v2 v3 v4 : Value) (R : Nat → Option Value) : ((addPC c 233 a m v1 v2 v3 v4 R).runN 7).regs =
    ⟨(adcS ((a.toNat : Int) % 256) (255 - (m.toNat : Int) % 256) (ldaP c ((a.toNat : Int) % 256))).1, 0, 0, 253, (adcS ((a.toNat : Int) % 256) (255 - (m.toNat : Int) % 256) (ldaP c ((a.toNat : Int) % 256))).2, 1029, 7, true⟩ := by
  cases c <;> kernel_rfl
theorem addZ (c : Bool) (a m : UInt8) (v1 v2 v3 v4 : Value) (R : Nat → Option Value) : ((addPC c 201 a m v1 v2 v3 v4 R).runN 7).regs =
    ⟨(a.toNat : Int) % 256, 0, 0, 253, cmpS ((a.toNat : Int) % 256) ((m.toNat : Int) % 256) (ldaP c ((a.toNat : Int) % 256)), 1029, 7, true⟩ := by
  cases c <;> kernel_rfl

def hasI (p f : Int) : Bool := bits .and .i64 p f != 0

theorem flags4 (p : Int) (h0 : 0 ≤ p) (h1 : p < 256) : ∀ (c v n z : Bool), hasI (nzB (setf (setf p 1 c) 64 v) n z) 1 = c ∧ hasI (nzB (setf (setf p 1 c) 64 v) n z) 2 = z ∧ hasI (nzB (setf (setf p 1 c) 64 v) n z) 128 = n ∧ hasI (nzB (setf (setf p 1 c) 64 v) n z) 64 = v :=
  all_byte (p := fun p => ∀ (c v n z : Bool), hasI (nzB (setf (setf p 1 c) 64 v) n z) 1 = c ∧ hasI (nzB (setf (setf p 1 c) 64 v) n z) 2 = z ∧ hasI (nzB (setf (setf p 1 c) 64 v) n z) 128 = n ∧ hasI (nzB (setf (setf p 1 c) 64 v) n z) 64 = v) (by decide +kernel) p h0 h1
theorem flags3 (p : Int) (h0 : 0 ≤ p) (h1 : p < 256) : ∀ (c n z : Bool), hasI (nzB (setf p 1 c) n z) 1 = c ∧ hasI (nzB (setf p 1 c) n z) 2 = z ∧ hasI (nzB (setf p 1 c) n z) 128 = n :=
  all_byte (p := fun p => ∀ (c n z : Bool), hasI (nzB (setf p 1 c) n z) 1 = c ∧ hasI (nzB (setf p 1 c) n z) 2 = z ∧ hasI (nzB (setf p 1 c) n z) 128 = n) (by decide +kernel) p h0 h1
theorem lda_c : ∀ (c n z : Bool), bits .and .u8 (nzB (setf 36 1 c) n z) 1 = (if c then 1 else 0) := by decide
theorem ldaP_c (c : Bool) (A : Int) : bits .and .u8 (ldaP c A) 1 = (if c then 1 else 0) := lda_c c _ _
theorem ldaP_r (c : Bool) (A : Int) : 0 ≤ ldaP c A ∧ ldaP c A < 256 := nz_r _ _

/-- What ADC leaves. -/
theorem adc_says (A M : Int) (c : Bool) (a0 : 0 ≤ A) (a1 : A < 256) (m0 : 0 ≤ M) (m1 : M < 256) (C b : Int) (hC : C = if c then 1 else 0) (hb : b = (A + M + C) % 256) :
    (adcS A M (ldaP c A)).1 = b ∧ hasI (adcS A M (ldaP c A)).2 1 = decide (255 < A + M + C) ∧ hasI (adcS A M (ldaP c A)).2 2 = (b == 0) ∧ hasI (adcS A M (ldaP c A)).2 128 = decide (127 < b) ∧
    hasI (adcS A M (ldaP c A)).2 64 = ((decide (127 < A) == decide (127 < M)) && (decide (127 < b) != decide (127 < M))) := by
  have e1 : (adcS A M (ldaP c A)).1 = (A + M + bits .and .u8 (ldaP c A) 1) % 256 := rfl
  have e2 : (adcS A M (ldaP c A)).2 = nzB (setf (setf (ldaP c A) 1 (decide (255 < A + M + bits .and .u8 (ldaP c A) 1))) 64 (bits .and .u8 (bits .and .u8 (bits .xor .u8 ((A + M + bits .and .u8 (ldaP c A) 1) % 256) A) (bits .xor .u8 ((A + M + bits .and .u8 (ldaP c A) 1) % 256) M)) 128 != 0)) (bits .and .u8 ((A + M + bits .and .u8 (ldaP c A) 1) % 256) 128 != 0) ((A + M + bits .and .u8 (ldaP c A) 1) % 256 == 0) := rfl
  rw [ldaP_c, ← hC, ← hb] at e1 e2
  have b0 : 0 ≤ b := by omega
  have b1 : b < 256 := by omega
  rw [overflow_eq A M b a0 a1 m0 m1 b0 b1, top_bit b b0 b1] at e2
  obtain ⟨f1, f2, f3, f4⟩ := flags4 (ldaP c A) (ldaP_r c A).1 (ldaP_r c A).2 (decide (255 < A + M + C)) ((decide (127 < A) == decide (127 < M)) && (decide (127 < b) != decide (127 < M))) (decide (127 < b)) (b == 0)
  rw [e1, e2]
  exact ⟨rfl, f1, f2, f3, f4⟩

theorem cmp_says (A M : Int) (c : Bool) (b : Int) (hb : b = (A - M) % 256) :
    hasI (cmpS A M (ldaP c A)) 1 = decide (M ≤ A) ∧ hasI (cmpS A M (ldaP c A)) 2 = (b == 0) ∧ hasI (cmpS A M (ldaP c A)) 128 = (bits .and .u8 b 128 != 0) := by
  have e2 : cmpS A M (ldaP c A) = nzB (setf (ldaP c A) 1 (decide (M ≤ A))) (bits .and .u8 ((A - M) % 256) 128 != 0) ((A - M) % 256 == 0) := rfl
  rw [e2, ← hb]
  exact flags3 (ldaP c A) (ldaP_r c A).1 (ldaP_r c A).2 _ _ _

theorem and255 (n : Int) (h0 : -1000 ≤ n) (h1 : n ≤ 1000) : bits .and .i64 n 255 = n % 256 := by
  have h : ∀ k : Fin 2001, bits .and .i64 ((k.1 : Int) - 1000) 255 = ((k.1 : Int) - 1000) % 256 := by decide +kernel
  have := h ⟨(n + 1000).toNat, by omega⟩
  rwa [show (((n + 1000).toNat : Nat) : Int) - 1000 = n from by omega] at this

set_option maxRecDepth 100000 in
set_option maxHeartbeats 2000000 in
theorem said_any (r : RegI) (n sg : Int) (c : Bool) (w : World) (h0 : r.A = bits .and .i64 n 255) (h1 : hasI r.P 1 = c) (h2 : hasI r.P 2 = (bits .and .i64 n 255 == 0)) (h3 : hasI r.P 128 = decide (127 < bits .and .i64 n 255))
    (h4 : hasI r.P 64 = (decide (sg < -128) || decide (127 < sg))) :
    Calls Tryz.prog 19 #[r.val, .int .i64 n, .int .i64 sg, .bool c] w fun e w' => e = .returned (.bool true) ∧ Below w.heap.size w w' := by
  unfold hasI at h1 h2 h3 h4
  unfold RegI.val
  generalize hb : bits .and .i64 n 255 = b at *
  by_cases s0 : sg < -128
  · have e4 : (bits .and .i64 r.P 64 != 0) = true := by rw [h4]; simp [s0]
    clear h4
    go_enter Tryz.func19, Tryz.ntmps19
    go_wp2
    go_ret
    exact ⟨rfl, (Below.refl _ _).alloc (Nat.le_refl _) _⟩
  · have s0' : -128 ≤ sg := by omega
    have e4 : (bits .and .i64 r.P 64 != 0) = decide (127 < sg) := by rw [h4]; simp; omega
    clear h4
    go_enter Tryz.func19, Tryz.ntmps19
    go_wp2
    go_ret
    exact ⟨rfl, (Below.refl _ _).alloc (Nat.le_refl _) _⟩
end

/-
  ADC and SBC say what real arithmetic says.
-/
section
theorem says_x (A M SA SM n sg : Int) (c fl : Bool) (a0 : 0 ≤ A) (a1 : A < 256) (m0 : 0 ≤ M) (m1 : M < 256) (sa : SA = if 127 < A then A - 256 else A) (sm : SM = if 127 < M then M - 256 else M)
    (hn : n = A + M + (if c then 1 else 0)) (hs : sg = SA + SM + (if c then 1 else 0)) (hf : fl = decide (255 < n)) (q x y z t u : Int) (j : Bool) (r : RegI) (hr : r = ⟨(adcS A M (ldaP c A)).1, x, y, z, (adcS A M (ldaP c A)).2, t, u, j⟩) (hq : q = bits .and .i64 n 255) :
    r.A = q ∧ hasI r.P 1 = fl ∧ hasI r.P 2 = (q == 0) ∧ hasI r.P 128 = decide (127 < q) ∧ hasI r.P 64 = (decide (sg < -128) || decide (127 < sg)) := by
  subst hr hf
  have e := and255 n (by split at hn <;> omega) (by split at hn <;> omega)
  rw [e] at hq
  obtain ⟨f1, f2, f3, f4, f5⟩ := adc_says A M c a0 a1 m0 m1 _ q rfl (by rw [hq, hn])
  refine ⟨f1, by rw [hn]; exact f2, f3, f4, f5.trans ?_⟩
  rw [Bool.eq_iff_iff]
  simp only [Bool.and_eq_true, Bool.or_eq_true, beq_iff_eq, bne_iff_ne, decide_eq_true_eq, decide_eq_decide, ne_eq]
  rw [hs, sa, sm, hq, hn]
  split <;> split <;> split <;> omega
theorem says_y (A M SA SM n sg : Int) (c fl : Bool) (a0 : 0 ≤ A) (a1 : A < 256) (m0 : 0 ≤ M) (m1 : M < 256) (sa : SA = if 127 < A then A - 256 else A) (sm : SM = if 127 < M then M - 256 else M)
    (hn : n = A - M - (1 - (if c then 1 else 0))) (hs : sg = SA - SM - (1 - (if c then 1 else 0))) (hf : fl = decide (0 ≤ n)) (q x y z t u : Int) (j : Bool) (r : RegI) (hr : r = ⟨(adcS A (255 - M) (ldaP c A)).1, x, y, z, (adcS A (255 - M) (ldaP c A)).2, t, u, j⟩) (hq : q = bits .and .i64 n 255) :
    r.A = q ∧ hasI r.P 1 = fl ∧ hasI r.P 2 = (q == 0) ∧ hasI r.P 128 = decide (127 < q) ∧ hasI r.P 64 = (decide (sg < -128) || decide (127 < sg)) := by
  subst hr hf
  have e := and255 n (by split at hn <;> omega) (by split at hn <;> omega)
  rw [e] at hq
  obtain ⟨f1, f2, f3, f4, f5⟩ := adc_says A (255 - M) c a0 a1 (by omega) (by omega) _ q rfl (by rw [hq, hn]; split <;> omega)
  refine ⟨f1, f2.trans ?_, f3, f4, f5.trans ?_⟩
  · rw [decide_eq_decide, hn]; split <;> omega
  rw [Bool.eq_iff_iff]
  simp only [Bool.and_eq_true, Bool.or_eq_true, beq_iff_eq, bne_iff_ne, decide_eq_true_eq, decide_eq_decide, ne_eq]
  rw [hs, sa, sm, hq, hn]
  split <;> split <;> split <;> omega
end

/-
  Added holds.
-/
section
theorem comp_six (W : World) (f op a m : UInt8) (fI oI : Int) (hf : (f.toNat : Int) = fI) (ho : (op.toNat : Int) = oI) :
    Calls Tryz.prog 17 #[.slice (some ⟨W.heap.size, 0, none⟩) 6 6, .slice none 0 0, .slice none 0 0] (W.alloc (.cells #[.int .u8 fI, .int .u8 169, .int .u8 (a.toNat : Int), .int .u8 oI, .int .u8 (m.toNat : Int), .int .u8 2] 5))
      fun e w' => ∃ B R v4, W.heap.size < B ∧ e = .returned (.pointer (some ⟨B, 0, none⟩)) ∧ CAt w' B (.fresh 256 (keepCs [f, 169, a, op, m, 2] [] [] (.slice (some ⟨W.heap.size, 0, none⟩) 6 6) (.slice none 0 0) (.slice none 0 0) v4) R) ∧ Below W.heap.size W w' := by
  subst hf ho
  have C := computer_ok (W.alloc (.cells (vals [f, 169, a, op, m, 2]).toArray 5)) (.slice (some ⟨W.heap.size, 0, none⟩) 6 6) (.slice none 0 0) (.slice none 0 0) [f, 169, a, op, m, 2] [] [] ⟨_, _, rfl, fun _ => ⟨W.heap.size, 0, rfl, by simp, bytes_lit W _ 5⟩⟩ (ChV.none _ _) (ChV.none _ _) (by simp)
  refine C.mono ?_
  rintro e w' ⟨B, R, v4, hB, rfl, hC, hb⟩
  exact ⟨B, R, v4, by simp at hB; omega, rfl, hC, ((Below.refl _ _).alloc (Nat.le_refl _) _).trans (hb.mono (by simp))⟩

def regArr (r : RegI) : Array Value := #[.int .i64 r.A, .int .i64 r.X, .int .i64 r.Y, .int .i64 r.S, .int .i64 r.P, .int .i64 r.PC, .int .i64 r.cyc, .bool r.jam]
/-- Registers lie at b. -/
structure RegAt (w : World) (b : Nat) (r : RegI) : Prop where
  c : ∀ j, w.cell? ⟨b, j, none⟩ = (regArr r)[j]?
  lt : b < w.heap.size
theorem RegAt.new (w : World) (r : RegI) (t : TypeId) : RegAt (w.alloc (.cells (regArr r) t)) w.heap.size r := ⟨fun _ => World.cell?_alloc_at _ _ _ _ rfl, by simp⟩
theorem RegAt.block {w w' : World} {b : Nat} {r : RegI} (h : RegAt w b r) (e : w'.heap[b]? = w.heap[b]?) (hs : w.heap.size ≤ w'.heap.size) : RegAt w' b r := ⟨fun j => (World.cell?_of_block (a := ⟨b, j, none⟩) e).trans (h.c j), Nat.lt_of_lt_of_le h.lt hs⟩
theorem RegAt.below {w w' : World} {b : Nat} {r : RegI} (h : RegAt w b r) (g : Below w.heap.size w w') : RegAt w' b r := h.block (g.block b h.lt) g.size
theorem RegAt.alloc {w : World} {b : Nat} {r : RegI} (h : RegAt w b r) (o : Obj) : RegAt (w.alloc o) b r := h.block (Below.heap_alloc _ _ _ h.lt) (by simp)
theorem RegAt.beside {w w' : World} {b C : Nat} {r : RegI} (h : RegAt w b r) (g : w.grownBy w' (some C)) (hne : b ≠ C) : RegAt w' b r := h.block (g.block b h.lt (by intro e; injection e with e; exact hne e)) g.size
theorem RegAt.cells {w : World} {b : Nat} {r : RegI} (h : RegAt w b r) : w.cell? ⟨b, 0, none⟩ = some (.int .i64 r.A) ∧ w.cell? ⟨b, 1, none⟩ = some (.int .i64 r.X) ∧ w.cell? ⟨b, 2, none⟩ = some (.int .i64 r.Y) ∧ w.cell? ⟨b, 3, none⟩ = some (.int .i64 r.S) ∧ w.cell? ⟨b, 4, none⟩ = some (.int .i64 r.P) ∧ w.cell? ⟨b, 5, none⟩ = some (.int .i64 r.PC) ∧ w.cell? ⟨b, 6, none⟩ = some (.int .i64 r.cyc) ∧ w.cell? ⟨b, 7, none⟩ = some (.bool r.jam) :=
  ⟨h.c 0, h.c 1, h.c 2, h.c 3, h.c 4, h.c 5, h.c 6, h.c 7⟩

theorem sg_r (a : Int) (h0 : 0 ≤ a) (h1 : a < 256) : IntKind.i8.wrap a = (if 127 < a then a - 256 else a) := by
  have e8 : IntKind.i8.wrap a = (a + 128) % 256 - 128 := by simp only [IntKind.wrap, IntKind.bits, IntKind.signed]; simp; omega
  rw [e8]; split <;> omega

set_option maxRecDepth 100000 in
set_option maxHeartbeats 4000000 in
theorem added_any (a m : UInt8) (c : Bool) (w : World) : Calls Tryz.prog 7 #[.int .u8 (a.toNat : Int), .int .u8 (m.toNat : Int), .bool c] w fun e w' => e = .returned (.bool true) ∧ Below w.heap.size w w' := by
  have K := known_any w
  obtain ⟨fI, hfI, hfc⟩ : ∃ fI : Int, ((flagB c).toNat : Int) = fI ∧ Hid (fI = if c then 56 else 24) := ⟨_, rfl, by cases c <;> rfl⟩
  have CX := fun W => comp_six W (flagB c) 105 a m fI 105 hfI rfl
  have CY := fun W => comp_six W (flagB c) 233 a m fI 233 hfI rfl
  have CZ := fun W => comp_six W (flagB c) 201 a m fI 201 hfI rfl
  clear hfI
  cases c
  · have e24 : fI = 24 := hfc.out
    subst e24
    clear hfc
    go_enter Tryz.func7, Tryz.ntmps7
    go_wp2_with (first | (go_at_call 16; refine K.mono ?_; rintro e w1 ⟨rfl, hb1⟩; have HB1 := Hid.mk' hb1; have l1 := hb1.size; clear hb1 K))
    refine (CX _).mono ?_
    rintro e w2 ⟨Bx, Rx, vx, hBx, rfl, hCx, hb2⟩
    have HCx := Hid.mk' hCx
    have HB2 := Hid.mk' (HB1.out.trans (hb2.mono HB1.out.size))
    have l2 := hb2.size
    have lx := hCx.lt
    clear CX hCx hb2 HB1
    go_wp2_with fail
    refine (CY _).mono ?_
    rintro e w3 ⟨By, Ry, vy, hBy, rfl, hCy, hb3⟩
    have HCx := Hid.mk' (HCx.out.bel hb3)
    have HCy := Hid.mk' hCy
    have HB3 := Hid.mk' (HB2.out.trans (hb3.mono HB2.out.size))
    have l3 := hb3.size
    have ly := hCy.lt
    clear CY hCy hb3 HB2
    go_wp2_with fail
    refine (CZ _).mono ?_
    rintro e w4 ⟨Bz, Rz, vz, hBz, rfl, hCz, hb4⟩
    have HCx := Hid.mk' (HCx.out.bel hb4)
    have HCy := Hid.mk' (HCy.out.bel hb4)
    have HCz := Hid.mk' hCz
    have HB4 := Hid.mk' (HB3.out.trans (hb4.mono HB3.out.size))
    have l4 := hb4.size
    have lz := hCz.lt
    clear CZ hCz hb4 HB3
    go_wp2_with fail
    obtain ⟨gx, jx⟩ := addG 105 (by decide) false a m (.slice (some ⟨w1.heap.size, 0, none⟩) 6 6) (.slice none 0 0) (.slice none 0 0) vx Rx
    obtain ⟨gy, jy⟩ := addG 233 (by decide) false a m (.slice (some ⟨w2.heap.size, 0, none⟩) 6 6) (.slice none 0 0) (.slice none 0 0) vy Ry
    obtain ⟨gz, jz⟩ := addG 201 (by decide) false a m (.slice (some ⟨w3.heap.size, 0, none⟩) 6 6) (.slice none 0 0) (.slice none 0 0) vz Rz
    have RX := runs_by (Tn.refl HCx.out) 20 7 (by decide) (by decide) gx jx
    rw [show PC.fresh 256 (keepCs [flagB false, 169, a, 105, m, 2] [] [] (.slice (some ⟨w1.heap.size, 0, none⟩) 6 6) (.slice none 0 0) (.slice none 0 0) vx) Rx = addPC false 105 a m (.slice (some ⟨w1.heap.size, 0, none⟩) 6 6) (.slice none 0 0) (.slice none 0 0) vx Rx from rfl, addX] at RX
    obtain ⟨rx, Hx⟩ : ∃ rx : RegI, Hid (rx = ⟨(adcS ((a.toNat : Int) % 256) ((m.toNat : Int) % 256) (ldaP false ((a.toNat : Int) % 256))).1, 0, 0, 253, (adcS ((a.toNat : Int) % 256) ((m.toNat : Int) % 256) (ldaP false ((a.toNat : Int) % 256))).2, 1029, 7, true⟩) := ⟨_, rfl⟩
    rw [← Hx.out] at RX
    refine RX.mono ?_
    rintro e w5 ⟨rfl, T5⟩
    have l5 := T5.g.size
    have HCy := Hid.mk' ((HCy.out.beside T5.g (by omega)).alloc (o := .cells (regArr rx) 37))
    have HCz := Hid.mk' ((HCz.out.beside T5.g (by omega)).alloc (o := .cells (regArr rx) 37))
    have HB5 := Hid.mk' (below_grown HB4.out T5.g (by omega) (by omega))
    have HX := Hid.mk' (RegAt.new w5 rx 37)
    clear T5 RX HB4 gx jx
    simp only [RegI.val]
    go_wp2_with fail
    have RY := runs_by (Tn.refl HCy.out) 20 7 (by decide) (by decide) gy jy
    rw [show PC.fresh 256 (keepCs [flagB false, 169, a, 233, m, 2] [] [] (.slice (some ⟨w2.heap.size, 0, none⟩) 6 6) (.slice none 0 0) (.slice none 0 0) vy) Ry = addPC false 233 a m (.slice (some ⟨w2.heap.size, 0, none⟩) 6 6) (.slice none 0 0) (.slice none 0 0) vy Ry from rfl, addY] at RY
    obtain ⟨ry, Hy⟩ : ∃ ry : RegI, Hid (ry = ⟨(adcS ((a.toNat : Int) % 256) (255 - ((m.toNat : Int) % 256)) (ldaP false ((a.toNat : Int) % 256))).1, 0, 0, 253, (adcS ((a.toNat : Int) % 256) (255 - ((m.toNat : Int) % 256)) (ldaP false ((a.toNat : Int) % 256))).2, 1029, 7, true⟩) := ⟨_, rfl⟩
    rw [← Hy.out] at RY
    refine RY.mono ?_
    rintro e w6 ⟨rfl, T5⟩
    have l6 := T5.g.size
    simp only [World.size_alloc] at l6
    have HCz := Hid.mk' ((HCz.out.beside T5.g (by omega)).alloc (o := .cells (regArr ry) 37))
    have HB6 := Hid.mk' (below_grown (HB5.out.alloc (by omega) _) T5.g (by omega) (by simp; omega))
    have HX := Hid.mk' ((HX.out.beside T5.g (by omega)).alloc (.cells (regArr ry) 37))
    have HY := Hid.mk' (RegAt.new w6 ry 37)
    clear T5 RY HB5 gy jy
    simp only [RegI.val]
    go_wp2_with fail
    have RZ := runs_by (Tn.refl HCz.out) 20 7 (by decide) (by decide) gz jz
    rw [show PC.fresh 256 (keepCs [flagB false, 169, a, 201, m, 2] [] [] (.slice (some ⟨w3.heap.size, 0, none⟩) 6 6) (.slice none 0 0) (.slice none 0 0) vz) Rz = addPC false 201 a m (.slice (some ⟨w3.heap.size, 0, none⟩) 6 6) (.slice none 0 0) (.slice none 0 0) vz Rz from rfl, addZ] at RZ
    obtain ⟨rz, Hz⟩ : ∃ rz : RegI, Hid (rz = ⟨((a.toNat : Int) % 256), 0, 0, 253, cmpS ((a.toNat : Int) % 256) ((m.toNat : Int) % 256) (ldaP false ((a.toNat : Int) % 256)), 1029, 7, true⟩) := ⟨_, rfl⟩
    rw [← Hz.out] at RZ
    refine RZ.mono ?_
    rintro e w7 ⟨rfl, T5⟩
    have l7 := T5.g.size
    simp only [World.size_alloc] at l7
    have HB7 := Hid.mk' (below_grown (HB6.out.alloc (by omega) _) T5.g (by omega) (by simp; omega))
    have HX := Hid.mk' (HX.out.beside T5.g (by omega))
    have HY := Hid.mk' (HY.out.beside T5.g (by omega))
    have HZ := Hid.mk' (RegAt.new w7 rz 37)
    clear T5 RZ HB6 gz jz
    simp only [RegI.val]
    obtain ⟨x0, x1, x2, x3, x4, x5, x6, x7⟩ := HX.out.cells
    obtain ⟨y0, y1, y2, y3, y4, y5, y6, y7⟩ := HY.out.cells
    have n57 : w5.heap.size < w7.heap.size := by omega
    have n67 : w6.heap.size < w7.heap.size := by omega
    have n75 : w7.heap.size ≠ w5.heap.size := by omega
    have n76 : w7.heap.size ≠ w6.heap.size := by omega
    have k57 : w5.heap.size ≠ w7.heap.size := by omega
    have k67 : w6.heap.size ≠ w7.heap.size := by omega
    obtain ⟨a0, a1⟩ := u8_r a
    obtain ⟨m0, m1⟩ := u8_r m
    have sa := sg_r _ a0 a1
    have sm := sg_r _ m0 m1
    rw [Int.emod_eq_of_lt a0 a1, Int.emod_eq_of_lt m0 m1] at Hx Hy Hz
    generalize (a.toNat : Int) = A at *
    generalize (m.toNat : Int) = M at *
    generalize hSA : IntKind.i8.wrap A = SA at *
    generalize hSM : IntKind.i8.wrap M = SM at *
    have HSA := Hid.mk' sa
    have HSM := Hid.mk' sm
    have b0 : -128 ≤ SA := by rw [sa]; split <;> omega
    have b1 : SA ≤ 127 := by rw [sa]; split <;> omega
    have b2 : -128 ≤ SM := by rw [sm]; split <;> omega
    have b3 : SM ≤ 127 := by rw [sm]; split <;> omega
    clear sa sm
    go_wp2_with fail
    obtain ⟨p1, p2, p3, p4, p5⟩ := says_x A M SA SM (A + M) (SA + SM) false (decide (255 < A + M)) a0 a1 m0 m1 HSA.out HSM.out (by simp) (by simp) rfl _ _ _ _ _ _ _ rx Hx.out rfl
    refine (said_any rx (A + M) (SA + SM) (decide (255 < A + M)) _ p1 p2 p3 p4 p5).mono ?_
    rintro e w8 ⟨rfl, hb8⟩
    obtain ⟨hc8, -⟩ := bcellR hb8
    have y0 := (hc8 w6.heap.size 0 (by simp; omega)).trans (cell_al y0)
    have y1 := (hc8 w6.heap.size 1 (by simp; omega)).trans (cell_al y1)
    have y2 := (hc8 w6.heap.size 2 (by simp; omega)).trans (cell_al y2)
    have y3 := (hc8 w6.heap.size 3 (by simp; omega)).trans (cell_al y3)
    have y4 := (hc8 w6.heap.size 4 (by simp; omega)).trans (cell_al y4)
    have y5 := (hc8 w6.heap.size 5 (by simp; omega)).trans (cell_al y5)
    have y6 := (hc8 w6.heap.size 6 (by simp; omega)).trans (cell_al y6)
    have y7 := (hc8 w6.heap.size 7 (by simp; omega)).trans (cell_al y7)
    have HZ8 := Hid.mk' (HZ.out.below hb8)
    have HB8 := Hid.mk' ((HB7.out.alloc (by omega) (.cells (regArr rz) 37)).trans (hb8.mono (by simp; omega)))
    clear hc8 hb8 x0 x1 x2 x3 x4 x5 x6 x7 p1 p2 p3 p4 p5
    go_wp2_with fail
    obtain ⟨p1, p2, p3, p4, p5⟩ := says_y A M SA SM (A - M - 1) (SA - SM - 1) false (decide (1 ≤ A - M)) a0 a1 m0 m1 HSA.out HSM.out (by simp) (by simp) (by rw [decide_eq_decide]; omega) _ _ _ _ _ _ _ ry Hy.out rfl
    refine (said_any ry (A - M - 1) (SA - SM - 1) (decide (1 ≤ A - M)) _ p1 p2 p3 p4 p5).mono ?_
    rintro e w9 ⟨rfl, hb9⟩
    have HB9 := Hid.mk' (HB8.out.trans (hb9.mono HB8.out.size))
    obtain ⟨z0, -, -, -, z4, -⟩ := (HZ8.out.below hb9).cells
    have eA : rz.A = A := by rw [Hz.out]
    obtain ⟨f1, f2, f3⟩ := cmp_says A M false _ rfl
    have eP : cmpS A M (ldaP false A) = rz.P := by rw [Hz.out]
    rw [eP] at f1 f2 f3
    unfold hasI at f1 f2 f3
    have f2' : (bits .and .i64 rz.P 2 != 0) = (A == M) := by rw [f2, Bool.eq_iff_iff]; simp; omega
    rw [eA] at z0
    clear hb9 y0 y1 y2 y3 y4 y5 y6 y7 p1 p2 p3 p4 p5 eP eA f2
    go_wp2
    go_ret
    exact ⟨rfl, HB9.out⟩
  · have e24 : fI = 56 := hfc.out
    subst e24
    clear hfc
    go_enter Tryz.func7, Tryz.ntmps7
    go_wp2_with (first | (go_at_call 16; refine K.mono ?_; rintro e w1 ⟨rfl, hb1⟩; have HB1 := Hid.mk' hb1; have l1 := hb1.size; clear hb1 K))
    refine (CX _).mono ?_
    rintro e w2 ⟨Bx, Rx, vx, hBx, rfl, hCx, hb2⟩
    have HCx := Hid.mk' hCx
    have HB2 := Hid.mk' (HB1.out.trans (hb2.mono HB1.out.size))
    have l2 := hb2.size
    have lx := hCx.lt
    clear CX hCx hb2 HB1
    go_wp2_with fail
    refine (CY _).mono ?_
    rintro e w3 ⟨By, Ry, vy, hBy, rfl, hCy, hb3⟩
    have HCx := Hid.mk' (HCx.out.bel hb3)
    have HCy := Hid.mk' hCy
    have HB3 := Hid.mk' (HB2.out.trans (hb3.mono HB2.out.size))
    have l3 := hb3.size
    have ly := hCy.lt
    clear CY hCy hb3 HB2
    go_wp2_with fail
    refine (CZ _).mono ?_
    rintro e w4 ⟨Bz, Rz, vz, hBz, rfl, hCz, hb4⟩
    have HCx := Hid.mk' (HCx.out.bel hb4)
    have HCy := Hid.mk' (HCy.out.bel hb4)
    have HCz := Hid.mk' hCz
    have HB4 := Hid.mk' (HB3.out.trans (hb4.mono HB3.out.size))
    have l4 := hb4.size
    have lz := hCz.lt
    clear CZ hCz hb4 HB3
    go_wp2_with fail
    obtain ⟨gx, jx⟩ := addG 105 (by decide) true a m (.slice (some ⟨w1.heap.size, 0, none⟩) 6 6) (.slice none 0 0) (.slice none 0 0) vx Rx
    obtain ⟨gy, jy⟩ := addG 233 (by decide) true a m (.slice (some ⟨w2.heap.size, 0, none⟩) 6 6) (.slice none 0 0) (.slice none 0 0) vy Ry
    obtain ⟨gz, jz⟩ := addG 201 (by decide) true a m (.slice (some ⟨w3.heap.size, 0, none⟩) 6 6) (.slice none 0 0) (.slice none 0 0) vz Rz
    have RX := runs_by (Tn.refl HCx.out) 20 7 (by decide) (by decide) gx jx
    rw [show PC.fresh 256 (keepCs [flagB true, 169, a, 105, m, 2] [] [] (.slice (some ⟨w1.heap.size, 0, none⟩) 6 6) (.slice none 0 0) (.slice none 0 0) vx) Rx = addPC true 105 a m (.slice (some ⟨w1.heap.size, 0, none⟩) 6 6) (.slice none 0 0) (.slice none 0 0) vx Rx from rfl, addX] at RX
    obtain ⟨rx, Hx⟩ : ∃ rx : RegI, Hid (rx = ⟨(adcS ((a.toNat : Int) % 256) ((m.toNat : Int) % 256) (ldaP true ((a.toNat : Int) % 256))).1, 0, 0, 253, (adcS ((a.toNat : Int) % 256) ((m.toNat : Int) % 256) (ldaP true ((a.toNat : Int) % 256))).2, 1029, 7, true⟩) := ⟨_, rfl⟩
    rw [← Hx.out] at RX
    refine RX.mono ?_
    rintro e w5 ⟨rfl, T5⟩
    have l5 := T5.g.size
    have HCy := Hid.mk' ((HCy.out.beside T5.g (by omega)).alloc (o := .cells (regArr rx) 37))
    have HCz := Hid.mk' ((HCz.out.beside T5.g (by omega)).alloc (o := .cells (regArr rx) 37))
    have HB5 := Hid.mk' (below_grown HB4.out T5.g (by omega) (by omega))
    have HX := Hid.mk' (RegAt.new w5 rx 37)
    clear T5 RX HB4 gx jx
    simp only [RegI.val]
    go_wp2_with fail
    have RY := runs_by (Tn.refl HCy.out) 20 7 (by decide) (by decide) gy jy
    rw [show PC.fresh 256 (keepCs [flagB true, 169, a, 233, m, 2] [] [] (.slice (some ⟨w2.heap.size, 0, none⟩) 6 6) (.slice none 0 0) (.slice none 0 0) vy) Ry = addPC true 233 a m (.slice (some ⟨w2.heap.size, 0, none⟩) 6 6) (.slice none 0 0) (.slice none 0 0) vy Ry from rfl, addY] at RY
    obtain ⟨ry, Hy⟩ : ∃ ry : RegI, Hid (ry = ⟨(adcS ((a.toNat : Int) % 256) (255 - ((m.toNat : Int) % 256)) (ldaP true ((a.toNat : Int) % 256))).1, 0, 0, 253, (adcS ((a.toNat : Int) % 256) (255 - ((m.toNat : Int) % 256)) (ldaP true ((a.toNat : Int) % 256))).2, 1029, 7, true⟩) := ⟨_, rfl⟩
    rw [← Hy.out] at RY
    refine RY.mono ?_
    rintro e w6 ⟨rfl, T5⟩
    have l6 := T5.g.size
    simp only [World.size_alloc] at l6
    have HCz := Hid.mk' ((HCz.out.beside T5.g (by omega)).alloc (o := .cells (regArr ry) 37))
    have HB6 := Hid.mk' (below_grown (HB5.out.alloc (by omega) _) T5.g (by omega) (by simp; omega))
    have HX := Hid.mk' ((HX.out.beside T5.g (by omega)).alloc (.cells (regArr ry) 37))
    have HY := Hid.mk' (RegAt.new w6 ry 37)
    clear T5 RY HB5 gy jy
    simp only [RegI.val]
    go_wp2_with fail
    have RZ := runs_by (Tn.refl HCz.out) 20 7 (by decide) (by decide) gz jz
    rw [show PC.fresh 256 (keepCs [flagB true, 169, a, 201, m, 2] [] [] (.slice (some ⟨w3.heap.size, 0, none⟩) 6 6) (.slice none 0 0) (.slice none 0 0) vz) Rz = addPC true 201 a m (.slice (some ⟨w3.heap.size, 0, none⟩) 6 6) (.slice none 0 0) (.slice none 0 0) vz Rz from rfl, addZ] at RZ
    obtain ⟨rz, Hz⟩ : ∃ rz : RegI, Hid (rz = ⟨((a.toNat : Int) % 256), 0, 0, 253, cmpS ((a.toNat : Int) % 256) ((m.toNat : Int) % 256) (ldaP true ((a.toNat : Int) % 256)), 1029, 7, true⟩) := ⟨_, rfl⟩
    rw [← Hz.out] at RZ
    refine RZ.mono ?_
    rintro e w7 ⟨rfl, T5⟩
    have l7 := T5.g.size
    simp only [World.size_alloc] at l7
    have HB7 := Hid.mk' (below_grown (HB6.out.alloc (by omega) _) T5.g (by omega) (by simp; omega))
    have HX := Hid.mk' (HX.out.beside T5.g (by omega))
    have HY := Hid.mk' (HY.out.beside T5.g (by omega))
    have HZ := Hid.mk' (RegAt.new w7 rz 37)
    clear T5 RZ HB6 gz jz
    simp only [RegI.val]
    obtain ⟨x0, x1, x2, x3, x4, x5, x6, x7⟩ := HX.out.cells
    obtain ⟨y0, y1, y2, y3, y4, y5, y6, y7⟩ := HY.out.cells
    have n57 : w5.heap.size < w7.heap.size := by omega
    have n67 : w6.heap.size < w7.heap.size := by omega
    have n75 : w7.heap.size ≠ w5.heap.size := by omega
    have n76 : w7.heap.size ≠ w6.heap.size := by omega
    have k57 : w5.heap.size ≠ w7.heap.size := by omega
    have k67 : w6.heap.size ≠ w7.heap.size := by omega
    obtain ⟨a0, a1⟩ := u8_r a
    obtain ⟨m0, m1⟩ := u8_r m
    have sa := sg_r _ a0 a1
    have sm := sg_r _ m0 m1
    rw [Int.emod_eq_of_lt a0 a1, Int.emod_eq_of_lt m0 m1] at Hx Hy Hz
    generalize (a.toNat : Int) = A at *
    generalize (m.toNat : Int) = M at *
    generalize hSA : IntKind.i8.wrap A = SA at *
    generalize hSM : IntKind.i8.wrap M = SM at *
    have HSA := Hid.mk' sa
    have HSM := Hid.mk' sm
    have b0 : -128 ≤ SA := by rw [sa]; split <;> omega
    have b1 : SA ≤ 127 := by rw [sa]; split <;> omega
    have b2 : -128 ≤ SM := by rw [sm]; split <;> omega
    have b3 : SM ≤ 127 := by rw [sm]; split <;> omega
    clear sa sm
    go_wp2_with fail
    obtain ⟨p1, p2, p3, p4, p5⟩ := says_x A M SA SM (A + M + 1) (SA + SM + 1) true (decide (255 < A + M + 1)) a0 a1 m0 m1 HSA.out HSM.out (by simp) (by simp) rfl _ _ _ _ _ _ _ rx Hx.out rfl
    refine (said_any rx (A + M + 1) (SA + SM + 1) (decide (255 < A + M + 1)) _ p1 p2 p3 p4 p5).mono ?_
    rintro e w8 ⟨rfl, hb8⟩
    obtain ⟨hc8, -⟩ := bcellR hb8
    have y0 := (hc8 w6.heap.size 0 (by simp; omega)).trans (cell_al y0)
    have y1 := (hc8 w6.heap.size 1 (by simp; omega)).trans (cell_al y1)
    have y2 := (hc8 w6.heap.size 2 (by simp; omega)).trans (cell_al y2)
    have y3 := (hc8 w6.heap.size 3 (by simp; omega)).trans (cell_al y3)
    have y4 := (hc8 w6.heap.size 4 (by simp; omega)).trans (cell_al y4)
    have y5 := (hc8 w6.heap.size 5 (by simp; omega)).trans (cell_al y5)
    have y6 := (hc8 w6.heap.size 6 (by simp; omega)).trans (cell_al y6)
    have y7 := (hc8 w6.heap.size 7 (by simp; omega)).trans (cell_al y7)
    have HZ8 := Hid.mk' (HZ.out.below hb8)
    have HB8 := Hid.mk' ((HB7.out.alloc (by omega) (.cells (regArr rz) 37)).trans (hb8.mono (by simp; omega)))
    clear hc8 hb8 x0 x1 x2 x3 x4 x5 x6 x7 p1 p2 p3 p4 p5
    go_wp2_with fail
    obtain ⟨p1, p2, p3, p4, p5⟩ := says_y A M SA SM (A - M) (SA - SM) true (decide (M ≤ A)) a0 a1 m0 m1 HSA.out HSM.out (by simp) (by simp) (by rw [decide_eq_decide]; omega) _ _ _ _ _ _ _ ry Hy.out rfl
    refine (said_any ry (A - M) (SA - SM) (decide (M ≤ A)) _ p1 p2 p3 p4 p5).mono ?_
    rintro e w9 ⟨rfl, hb9⟩
    have HB9 := Hid.mk' (HB8.out.trans (hb9.mono HB8.out.size))
    obtain ⟨z0, -, -, -, z4, -⟩ := (HZ8.out.below hb9).cells
    have eA : rz.A = A := by rw [Hz.out]
    obtain ⟨f1, f2, f3⟩ := cmp_says A M true _ rfl
    have eP : cmpS A M (ldaP true A) = rz.P := by rw [Hz.out]
    rw [eP] at f1 f2 f3
    unfold hasI at f1 f2 f3
    have f2' : (bits .and .i64 rz.P 2 != 0) = (A == M) := by rw [f2, Bool.eq_iff_iff]; simp; omega
    rw [eA] at z0
    clear hb9 y0 y1 y2 y3 y4 y5 y6 y7 p1 p2 p3 p4 p5 eP eA f2
    go_wp2
    go_ret
    exact ⟨rfl, HB9.out⟩
end

end Go.Proofs.YtcgjliflnnklnaaGreat
