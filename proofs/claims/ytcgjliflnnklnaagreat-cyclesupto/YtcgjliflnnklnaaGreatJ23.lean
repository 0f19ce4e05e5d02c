/-
  Joined texts.
-/
import Derived.Test.YtcgjliflnnklnaaGreatJ22
import Derived.Test.YtcgjliflnnklnaaGreatJ01
namespace Go.Proofs.YtcgjliflnnklnaaGreat
open Go.RowKit

/-
  The law Cycles, walked: a step.
-/
section
set_option maxRecDepth 100000
set_option maxHeartbeats 8000000

def pkL (c n : Int) : Int := if c < 0 then -(c + 1).tmod n else c % n
theorem pickD (c n : Int) (w : World) (h : 1 ≤ n) (h2 : n ≤ 9223372036854775807) (hc1 : -9223372036854775808 ≤ c) (hc2 : c ≤ 9223372036854775807) :
    Calls Tryz.prog 43 #[.int .i64 c, .int .i64 n] w fun e w' => e = .returned (.int .i64 (pkL c n)) ∧ w' = w := by
  unfold pkL
  go_enter Tryz.func43, Tryz.ntmps43
  go_wp2
  all_goals go_ret
  all_goals exact ⟨rfl, rfl⟩
theorem pkL_lt (c n : Int) (h : 1 ≤ n) : 0 ≤ pkL c n ∧ pkL c n < n := by
  unfold pkL
  split
  · rename_i hc; exact pick_lt c n h hc
  · exact ⟨Int.emod_nonneg c (by omega), Int.emod_lt_of_pos c (by omega)⟩

/-- What a step leaves. -/
def SteppedC (w0 : World) (W : Nat) (x1 x2 : Value) (ms : List Mc) (w : World) : Prop := ∃ tag' ms' vm', ms'.length ≤ ms.length + 1 ∧ IvC w0 W x1 x2 tag' ms' vm' w

/-- runs, of whatever kind. -/
theorem runs_all (w : World) (base B R M : Nat) (s : PC) (t : RS) (vh : Value) (h : Pair w base B R M s t vh) (hbs : base ≤ w.heap.size) (k a b : Int) (S : BA) (n q : Bool) (ca : Option Addr) (cl cc : Nat) (rom : Int) (hb1 : -9223372036854775808 ≤ b) (hb2 : b ≤ 9223372036854775807) (hk : k = 2 ∨ k = 3 ∨ k = 4) :
    Calls Tryz.prog 42 #[.agg (opW k a b S n q ca cl cc rom), .agg #[.pointer (some ⟨B, 0, none⟩), .pointer (some ⟨R, 0, none⟩)]] w fun e w' => e = .returned (.bool true) ∧ Ran w base B R M vh w' := by
  rcases hk with rfl | rfl | rfl
  · exact runs_cycle w base B R M s t vh h hbs a b S n q ca cl cc rom hb1 hb2
  · exact runs_regs w base B R M s t vh h a b S n q ca cl cc rom
  · exact runs_peek w base B R M s t vh h a b S n q ca cl cc rom

theorem step_new (w0 : World) (W : Nat) (x1 x2 : Value) (tag : Nat → Nat) (ms : List Mc) (vm : Value) (w : World) (h : IvC w0 W x1 x2 tag ms vm w) (hms : ms.length ≤ 9000000) (a b : Int) (S : BA) (n q : Bool) (v : Value) (rom : Int) (cs : List Chn) (hc : CfAt w0.heap.size w v cs) (hl : cs.length ≤ 2000000) (hbs : ∀ c ∈ cs, c.bs.length ≤ 2000000) (htot : total cs ≤ 100000000) :
    Calls Tryz.prog 31 #[.pointer (some ⟨W, 0, none⟩), .agg #[.int .i64 1, .int .i64 a, .int .i64 b, .string S, .bool n, .bool q, v, .int .i64 rom]] w fun e w' => e = .returned (.bool true) ∧ SteppedC w0 W x1 x2 ms w' := by
  have MD : ∀ o, Calls Tryz.prog 41 #[.pointer (some ⟨W, 0, none⟩), .agg #[.int .i64 1, .int .i64 a, .int .i64 b, .string S, .bool n, .bool q, v, .int .i64 rom]] (w.alloc o) fun e w' => e = .returned (.bool true) ∧ SteppedC w0 W x1 x2 ms w' := fun o => by
    have hb : Below w.heap.size w (w.alloc o) := (Below.refl _ _).alloc (Nat.le_refl _) _
    cases hv : validI rom cs
    · exact made_no w0 W x1 x2 tag ms vm _ (h.below hb) a b S n q v rom cs (hc.below hb) hl hbs htot hv
    · exact made_ok w0 W x1 x2 tag ms vm _ (h.below hb) hms a b S n q v rom cs (hc.below hb) hl hbs htot hv
  obtain ⟨p, cap, rfl, -⟩ := hc
  clear h hms hbs htot
  go_enter Tryz.func31, Tryz.ntmps31
  go_wp2_with fail
  refine (MD _).mono ?_
  rintro e w' ⟨rfl, hI⟩
  have H2 : Hid (SteppedC w0 W x1 x2 ms w') := hI
  clear hI MD
  go_wp2
  go_ret
  exact ⟨by simp, H2.out⟩

theorem step_run (w0 : World) (W : Nat) (x1 x2 : Value) (tag : Nat → Nat) (ms : List Mc) (vm : Value) (w : World) (h : IvC w0 W x1 x2 tag ms vm w) (hms : ms.length ≤ 9000000) (k a b : Int) (S : BA) (n q : Bool) (ca : Option Addr) (cl cc : Nat) (rom : Int) (ha1 : -9223372036854775808 ≤ a) (ha2 : a ≤ 9223372036854775807) (hb1 : -9223372036854775808 ≤ b) (hb2 : b ≤ 9223372036854775807) (hk : k = 2 ∨ k = 3 ∨ k = 4) (hpos : 0 < ms.length) :
    Calls Tryz.prog 31 #[.pointer (some ⟨W, 0, none⟩), .agg #[.int .i64 k, .int .i64 a, .int .i64 b, .string S, .bool n, .bool q, .slice ca cl cc, .int .i64 rom]] w fun e w' => e = .returned (.bool true) ∧ SteppedC w0 W x1 x2 ms w' := by
  have PD := fun w => pickD a ms.length w (by omega) (by omega) ha1 ha2
  obtain ⟨k0, hk0⟩ : ∃ k0 : Nat, pkL a ms.length = (k0 : Int) := ⟨(pkL a ms.length).toNat, by have := pkL_lt a ms.length (by omega); omega⟩
  have hkl : k0 < ms.length := by have := pkL_lt a ms.length (by omega); omega
  rw [hk0] at PD
  clear hk0
  have h1 := h.below ((Below.refl _ _).alloc (Nat.le_refl _) (.cells #[.int .i64 k, .int .i64 a, .int .i64 b, .string S, .bool n, .bool q, .slice ca cl cc, .int .i64 rom] 29))
  have hP := h1.pr k0 hkl
  obtain ⟨gM, cM, rfl⟩ : ∃ gM cM, vm = (.slice (some ⟨gM, 0, none⟩) ms.length cM) := by
    rcases h.own.2 with ⟨_, e2⟩ | ⟨g, cap, _, e, _⟩
    · omega
    · exact ⟨g, cap, e⟩
  have RU := runs_all (w.alloc (.cells #[.int .i64 k, .int .i64 a, .int .i64 b, .string S, .bool n, .bool q, .slice ca cl cc, .int .i64 rom] 29)).drew w0.heap.size ms[k0].B ms[k0].R ms[k0].M ms[k0].s ms[k0].t ms[k0].vh (hP.kept (Below.refl _ _).drew) (by have := h1.bel.size; exact this) k a b S n q ca cl cc rom hb1 hb2 hk
  unfold opW at RU
  have hO := Blk.new w #[.int .i64 k, .int .i64 a, .int .i64 b, .string S, .bool n, .bool q, .slice ca cl cc, .int .i64 rom] 29
  obtain ⟨mB, mR⟩ := mcs_get ms k0 hkl
  have m0 : (w.alloc (.cells #[.int .i64 k, .int .i64 a, .int .i64 b, .string S, .bool n, .bool q, .slice ca cl cc, .int .i64 rom] 29)).cell? ⟨gM, k0 * 2, none⟩ = some (.pointer (some ⟨ms[k0].B, 0, none⟩)) := (h1.own.cellAt (k0 * 2) (by omega)).trans mB
  have m1 : (w.alloc (.cells #[.int .i64 k, .int .i64 a, .int .i64 b, .string S, .bool n, .bool q, .slice ca cl cc, .int .i64 rom] 29)).cell? ⟨gM, k0 * 2 + 1, none⟩ = some (.pointer (some ⟨ms[k0].R, 0, none⟩)) := (h1.own.cellAt (k0 * 2 + 1) (by omega)).trans mR
  have y0 : (w.alloc (.cells #[.int .i64 k, .int .i64 a, .int .i64 b, .string S, .bool n, .bool q, .slice ca cl cc, .int .i64 rom] 29)).cell? ⟨W, 0, none⟩ = some (.slice (some ⟨gM, 0, none⟩) ms.length cM) := h1.blk.cell 0
  have HI : Hid (IvC w0 W x1 x2 tag ms (.slice (some ⟨gM, 0, none⟩) ms.length cM) (w.alloc (.cells #[.int .i64 k, .int .i64 a, .int .i64 b, .string S, .bool n, .bool q, .slice ca cl cc, .int .i64 rom] 29))) := h1
  have ltk := h.pr k0 hkl
  have bB := ltk.x.lt
  have bR := ltk.y.lt
  have bM := ltk.y.ltM
  have bH : ∀ g, ms[k0].vh.ownBlock = some g → g < w.heap.size := fun g hg => (ltk.o.o.lt g hg).2
  obtain ⟨t1, t2, t3, t4⟩ := h.tm k0 hkl
  have HT : Hid (tag W = 1 ∧ tag gM = 2 ∧ tag ms[k0].B = 3 + 4 * k0 ∧ tag ms[k0].R = 4 + 4 * k0 ∧ tag ms[k0].M = 5 + 4 * k0 ∧ ∀ g, ms[k0].vh.ownBlock = some g → tag g = 6 + 4 * k0) := ⟨h.tW, h.tV gM rfl, t1, t2, t3, t4⟩
  have nrow : ∀ g, ms[k0].vh.ownBlock = some g → w.heap.size ≠ g ∧ W ≠ g ∧ gM ≠ g := fun g hg => ⟨by have := bH g hg; omega, fun e => by have z := HT.out.2.2.2.2.2 g hg; rw [← e, HT.out.1] at z; omega, fun e => by have z := HT.out.2.2.2.2.2 g hg; rw [← e, HT.out.2.1] at z; omega⟩
  have nb : ∀ x, (x = W ∨ x = gM) → x ≠ ms[k0].B ∧ x ≠ ms[k0].R ∧ x ≠ ms[k0].M := fun x hx => by
    have z : tag x = 1 ∨ tag x = 2 := by rcases hx with e | e <;> rw [e] <;> simp [HT.out.1, HT.out.2.1]
    refine ⟨fun e => ?_, fun e => ?_, fun e => ?_⟩
    · rw [e, HT.out.2.2.1] at z; omega
    · rw [e, HT.out.2.2.2.1] at z; omega
    · rw [e, HT.out.2.2.2.2.1] at z; omega
  have Wl := h1.blk.lt
  have gl := (h1.own.lt gM rfl).2
  have ol := hO.lt
  have hposI : (0 : Int) < (ms.length : Int) := by omega
  have hkI : (k0 : Int) < (ms.length : Int) := by omega
  have o0 : (w.alloc (.cells #[.int .i64 k, .int .i64 a, .int .i64 b, .string S, .bool n, .bool q, .slice ca cl cc, .int .i64 rom] 29)).cell? ⟨w.heap.size, 0, none⟩ = some (.int .i64 k) := hO.cell 0
  have o1 : (w.alloc (.cells #[.int .i64 k, .int .i64 a, .int .i64 b, .string S, .bool n, .bool q, .slice ca cl cc, .int .i64 rom] 29)).cell? ⟨w.heap.size, 1, none⟩ = some (.int .i64 a) := hO.cell 1
  have o2 : (w.alloc (.cells #[.int .i64 k, .int .i64 a, .int .i64 b, .string S, .bool n, .bool q, .slice ca cl cc, .int .i64 rom] 29)).cell? ⟨w.heap.size, 2, none⟩ = some (.int .i64 b) := hO.cell 2
  have o3 : (w.alloc (.cells #[.int .i64 k, .int .i64 a, .int .i64 b, .string S, .bool n, .bool q, .slice ca cl cc, .int .i64 rom] 29)).cell? ⟨w.heap.size, 3, none⟩ = some (.string S) := hO.cell 3
  have o4 : (w.alloc (.cells #[.int .i64 k, .int .i64 a, .int .i64 b, .string S, .bool n, .bool q, .slice ca cl cc, .int .i64 rom] 29)).cell? ⟨w.heap.size, 4, none⟩ = some (.bool n) := hO.cell 4
  have o5 : (w.alloc (.cells #[.int .i64 k, .int .i64 a, .int .i64 b, .string S, .bool n, .bool q, .slice ca cl cc, .int .i64 rom] 29)).cell? ⟨w.heap.size, 5, none⟩ = some (.bool q) := hO.cell 5
  have o6 : (w.alloc (.cells #[.int .i64 k, .int .i64 a, .int .i64 b, .string S, .bool n, .bool q, .slice ca cl cc, .int .i64 rom] 29)).cell? ⟨w.heap.size, 6, none⟩ = some (.slice ca cl cc) := hO.cell 6
  have o7 : (w.alloc (.cells #[.int .i64 k, .int .i64 a, .int .i64 b, .string S, .bool n, .bool q, .slice ca cl cc, .int .i64 rom] 29)).cell? ⟨w.heap.size, 7, none⟩ = some (.int .i64 rom) := hO.cell 7
  have kq : ¬ k = 1 ∧ ¬ k = 7 := by omega
  clear h h1 hP hO mB mR ltk t1 t2 t3 t4
  go_enter Tryz.func31, Tryz.ntmps31
  rcases hk with rfl | rfl | rfl
  · go_upto_region 9 with fail
    generalize w.alloc (.cells #[.int .i64 2, .int .i64 a, .int .i64 b, .string S, .bool n, .bool q, .slice ca cl cc, .int .i64 rom] 29) = W1 at *
    go_region_held3 (fun w' => w'.cell? ⟨w.heap.size, 0, none⟩ = some (.int .i64 2) ∧ w'.cell? ⟨w.heap.size, 1, none⟩ = some (.int .i64 a) ∧ w'.cell? ⟨w.heap.size, 2, none⟩ = some (.int .i64 b) ∧ w'.cell? ⟨w.heap.size, 3, none⟩ = some (.string S) ∧ w'.cell? ⟨w.heap.size, 4, none⟩ = some (.bool n) ∧ w'.cell? ⟨w.heap.size, 5, none⟩ = some (.bool q) ∧ w'.cell? ⟨w.heap.size, 6, none⟩ = some (.slice ca cl cc) ∧ w'.cell? ⟨w.heap.size, 7, none⟩ = some (.int .i64 rom) ∧ w'.cell? ⟨W, 0, none⟩ = some (.slice (some ⟨gM, 0, none⟩) ms.length cM) ∧ w'.cell? ⟨gM, k0 * 2, none⟩ = some (.pointer (some ⟨ms[k0].B, 0, none⟩)) ∧ w'.cell? ⟨gM, k0 * 2 + 1, none⟩ = some (.pointer (some ⟨ms[k0].R, 0, none⟩))) (go_keep) (first | (go_at_call 43; refine (PD _).mono ?_; rintro e w5 ⟨rfl, hw⟩; subst hw) | (go_at_call 42; refine RU.mono ?_; rintro e w5 ⟨rfl, s', t', vh', p, f, o⟩; have cA : ∀ g i, g < W1.heap.size → g ≠ ms[k0].B → g ≠ ms[k0].R → g ≠ ms[k0].M → some g ≠ ms[k0].vh.ownBlock → w5.cell? ⟨g, i, none⟩ = W1.cell? ⟨g, i, none⟩ := (fun g i z1 z2 z3 z4 z5 => World.cell?_of_block (a := ⟨g, i, none⟩) (f.block g z1 z2 z3 z4 z5)); have j0 := (cA w.heap.size 0 ol (by omega) (by omega) (by omega) (fun e => (nrow _ e.symm).1 rfl)).trans o0; have j1 := (cA w.heap.size 1 ol (by omega) (by omega) (by omega) (fun e => (nrow _ e.symm).1 rfl)).trans o1; have j2 := (cA w.heap.size 2 ol (by omega) (by omega) (by omega) (fun e => (nrow _ e.symm).1 rfl)).trans o2; have j3 := (cA w.heap.size 3 ol (by omega) (by omega) (by omega) (fun e => (nrow _ e.symm).1 rfl)).trans o3; have j4 := (cA w.heap.size 4 ol (by omega) (by omega) (by omega) (fun e => (nrow _ e.symm).1 rfl)).trans o4; have j5 := (cA w.heap.size 5 ol (by omega) (by omega) (by omega) (fun e => (nrow _ e.symm).1 rfl)).trans o5; have j6 := (cA w.heap.size 6 ol (by omega) (by omega) (by omega) (fun e => (nrow _ e.symm).1 rfl)).trans o6; have j7 := (cA w.heap.size 7 ol (by omega) (by omega) (by omega) (fun e => (nrow _ e.symm).1 rfl)).trans o7; have jW := (cA W 0 Wl (nb W (.inl rfl)).1 (nb W (.inl rfl)).2.1 (nb W (.inl rfl)).2.2 (fun e => (nrow _ e.symm).2.1 rfl)).trans y0; have jm0 := (cA gM (k0 * 2) gl (nb gM (.inr rfl)).1 (nb gM (.inr rfl)).2.1 (nb gM (.inr rfl)).2.2 (fun e => (nrow _ e.symm).2.2 rfl)).trans m0; have jm1 := (cA gM (k0 * 2 + 1) gl (nb gM (.inr rfl)).1 (nb gM (.inr rfl)).2.1 (nb gM (.inr rfl)).2.2 (fun e => (nrow _ e.symm).2.2 rfl)).trans m1; have HE : Hid (SteppedC w0 W x1 x2 ms w5) := ⟨_, _, _, by simp, HI.out.ran hkl p ⟨f.os, f.tape, f.output, f.size, f.block⟩ o⟩; clear cA p f o))
    all_goals
      clear PD RU HI
      go_wp2
      go_ret
      exact ⟨rfl, HE.out⟩
  · go_upto_region 9 with fail
    generalize w.alloc (.cells #[.int .i64 3, .int .i64 a, .int .i64 b, .string S, .bool n, .bool q, .slice ca cl cc, .int .i64 rom] 29) = W1 at *
    go_region_held3 (fun w' => w'.cell? ⟨w.heap.size, 0, none⟩ = some (.int .i64 3) ∧ w'.cell? ⟨w.heap.size, 1, none⟩ = some (.int .i64 a) ∧ w'.cell? ⟨w.heap.size, 2, none⟩ = some (.int .i64 b) ∧ w'.cell? ⟨w.heap.size, 3, none⟩ = some (.string S) ∧ w'.cell? ⟨w.heap.size, 4, none⟩ = some (.bool n) ∧ w'.cell? ⟨w.heap.size, 5, none⟩ = some (.bool q) ∧ w'.cell? ⟨w.heap.size, 6, none⟩ = some (.slice ca cl cc) ∧ w'.cell? ⟨w.heap.size, 7, none⟩ = some (.int .i64 rom) ∧ w'.cell? ⟨W, 0, none⟩ = some (.slice (some ⟨gM, 0, none⟩) ms.length cM) ∧ w'.cell? ⟨gM, k0 * 2, none⟩ = some (.pointer (some ⟨ms[k0].B, 0, none⟩)) ∧ w'.cell? ⟨gM, k0 * 2 + 1, none⟩ = some (.pointer (some ⟨ms[k0].R, 0, none⟩))) (go_keep) (first | (go_at_call 43; refine (PD _).mono ?_; rintro e w5 ⟨rfl, hw⟩; subst hw) | (go_at_call 42; refine RU.mono ?_; rintro e w5 ⟨rfl, s', t', vh', p, f, o⟩; have cA : ∀ g i, g < W1.heap.size → g ≠ ms[k0].B → g ≠ ms[k0].R → g ≠ ms[k0].M → some g ≠ ms[k0].vh.ownBlock → w5.cell? ⟨g, i, none⟩ = W1.cell? ⟨g, i, none⟩ := (fun g i z1 z2 z3 z4 z5 => World.cell?_of_block (a := ⟨g, i, none⟩) (f.block g z1 z2 z3 z4 z5)); have j0 := (cA w.heap.size 0 ol (by omega) (by omega) (by omega) (fun e => (nrow _ e.symm).1 rfl)).trans o0; have j1 := (cA w.heap.size 1 ol (by omega) (by omega) (by omega) (fun e => (nrow _ e.symm).1 rfl)).trans o1; have j2 := (cA w.heap.size 2 ol (by omega) (by omega) (by omega) (fun e => (nrow _ e.symm).1 rfl)).trans o2; have j3 := (cA w.heap.size 3 ol (by omega) (by omega) (by omega) (fun e => (nrow _ e.symm).1 rfl)).trans o3; have j4 := (cA w.heap.size 4 ol (by omega) (by omega) (by omega) (fun e => (nrow _ e.symm).1 rfl)).trans o4; have j5 := (cA w.heap.size 5 ol (by omega) (by omega) (by omega) (fun e => (nrow _ e.symm).1 rfl)).trans o5; have j6 := (cA w.heap.size 6 ol (by omega) (by omega) (by omega) (fun e => (nrow _ e.symm).1 rfl)).trans o6; have j7 := (cA w.heap.size 7 ol (by omega) (by omega) (by omega) (fun e => (nrow _ e.symm).1 rfl)).trans o7; have jW := (cA W 0 Wl (nb W (.inl rfl)).1 (nb W (.inl rfl)).2.1 (nb W (.inl rfl)).2.2 (fun e => (nrow _ e.symm).2.1 rfl)).trans y0; have jm0 := (cA gM (k0 * 2) gl (nb gM (.inr rfl)).1 (nb gM (.inr rfl)).2.1 (nb gM (.inr rfl)).2.2 (fun e => (nrow _ e.symm).2.2 rfl)).trans m0; have jm1 := (cA gM (k0 * 2 + 1) gl (nb gM (.inr rfl)).1 (nb gM (.inr rfl)).2.1 (nb gM (.inr rfl)).2.2 (fun e => (nrow _ e.symm).2.2 rfl)).trans m1; have HE : Hid (SteppedC w0 W x1 x2 ms w5) := ⟨_, _, _, by simp, HI.out.ran hkl p ⟨f.os, f.tape, f.output, f.size, f.block⟩ o⟩; clear cA p f o))
    all_goals
      clear PD RU HI
      go_wp2
      go_ret
      exact ⟨rfl, HE.out⟩
  · go_upto_region 9 with fail
    generalize w.alloc (.cells #[.int .i64 4, .int .i64 a, .int .i64 b, .string S, .bool n, .bool q, .slice ca cl cc, .int .i64 rom] 29) = W1 at *
    go_region_held3 (fun w' => w'.cell? ⟨w.heap.size, 0, none⟩ = some (.int .i64 4) ∧ w'.cell? ⟨w.heap.size, 1, none⟩ = some (.int .i64 a) ∧ w'.cell? ⟨w.heap.size, 2, none⟩ = some (.int .i64 b) ∧ w'.cell? ⟨w.heap.size, 3, none⟩ = some (.string S) ∧ w'.cell? ⟨w.heap.size, 4, none⟩ = some (.bool n) ∧ w'.cell? ⟨w.heap.size, 5, none⟩ = some (.bool q) ∧ w'.cell? ⟨w.heap.size, 6, none⟩ = some (.slice ca cl cc) ∧ w'.cell? ⟨w.heap.size, 7, none⟩ = some (.int .i64 rom) ∧ w'.cell? ⟨W, 0, none⟩ = some (.slice (some ⟨gM, 0, none⟩) ms.length cM) ∧ w'.cell? ⟨gM, k0 * 2, none⟩ = some (.pointer (some ⟨ms[k0].B, 0, none⟩)) ∧ w'.cell? ⟨gM, k0 * 2 + 1, none⟩ = some (.pointer (some ⟨ms[k0].R, 0, none⟩))) (go_keep) (first | (go_at_call 43; refine (PD _).mono ?_; rintro e w5 ⟨rfl, hw⟩; subst hw) | (go_at_call 42; refine RU.mono ?_; rintro e w5 ⟨rfl, s', t', vh', p, f, o⟩; have cA : ∀ g i, g < W1.heap.size → g ≠ ms[k0].B → g ≠ ms[k0].R → g ≠ ms[k0].M → some g ≠ ms[k0].vh.ownBlock → w5.cell? ⟨g, i, none⟩ = W1.cell? ⟨g, i, none⟩ := (fun g i z1 z2 z3 z4 z5 => World.cell?_of_block (a := ⟨g, i, none⟩) (f.block g z1 z2 z3 z4 z5)); have j0 := (cA w.heap.size 0 ol (by omega) (by omega) (by omega) (fun e => (nrow _ e.symm).1 rfl)).trans o0; have j1 := (cA w.heap.size 1 ol (by omega) (by omega) (by omega) (fun e => (nrow _ e.symm).1 rfl)).trans o1; have j2 := (cA w.heap.size 2 ol (by omega) (by omega) (by omega) (fun e => (nrow _ e.symm).1 rfl)).trans o2; have j3 := (cA w.heap.size 3 ol (by omega) (by omega) (by omega) (fun e => (nrow _ e.symm).1 rfl)).trans o3; have j4 := (cA w.heap.size 4 ol (by omega) (by omega) (by omega) (fun e => (nrow _ e.symm).1 rfl)).trans o4; have j5 := (cA w.heap.size 5 ol (by omega) (by omega) (by omega) (fun e => (nrow _ e.symm).1 rfl)).trans o5; have j6 := (cA w.heap.size 6 ol (by omega) (by omega) (by omega) (fun e => (nrow _ e.symm).1 rfl)).trans o6; have j7 := (cA w.heap.size 7 ol (by omega) (by omega) (by omega) (fun e => (nrow _ e.symm).1 rfl)).trans o7; have jW := (cA W 0 Wl (nb W (.inl rfl)).1 (nb W (.inl rfl)).2.1 (nb W (.inl rfl)).2.2 (fun e => (nrow _ e.symm).2.1 rfl)).trans y0; have jm0 := (cA gM (k0 * 2) gl (nb gM (.inr rfl)).1 (nb gM (.inr rfl)).2.1 (nb gM (.inr rfl)).2.2 (fun e => (nrow _ e.symm).2.2 rfl)).trans m0; have jm1 := (cA gM (k0 * 2 + 1) gl (nb gM (.inr rfl)).1 (nb gM (.inr rfl)).2.1 (nb gM (.inr rfl)).2.2 (fun e => (nrow _ e.symm).2.2 rfl)).trans m1; have HE : Hid (SteppedC w0 W x1 x2 ms w5) := ⟨_, _, _, by simp, HI.out.ran hkl p ⟨f.os, f.tape, f.output, f.size, f.block⟩ o⟩; clear cA p f o))
    all_goals
      clear PD RU HI
      go_wp2
      go_ret
      exact ⟨rfl, HE.out⟩
end

/-
  The law Cycles, walked: a step of every kind.
-/
section
set_option maxRecDepth 100000
set_option maxHeartbeats 8000000

theorem step_none (w0 : World) (W : Nat) (x1 x2 : Value) (tag : Nat → Nat) (ms : List Mc) (vm : Value) (w : World) (h : IvC w0 W x1 x2 tag ms vm w) (k a b : Int) (S : BA) (n q : Bool) (ca : Option Addr) (cl cc : Nat) (rom : Int) (hk : k = 2 ∨ k = 3 ∨ k = 4) (h0 : ms.length = 0) :
    Calls Tryz.prog 31 #[.pointer (some ⟨W, 0, none⟩), .agg #[.int .i64 k, .int .i64 a, .int .i64 b, .string S, .bool n, .bool q, .slice ca cl cc, .int .i64 rom]] w fun e w' => e = .returned (.bool true) ∧ SteppedC w0 W x1 x2 ms w' := by
  obtain ⟨p, c, rfl⟩ := own_slice h.own
  have y1 : w.cell? ⟨W, 0, none⟩ = some (.slice p ms.length c) := h.blk.cell 0
  have y0 : w.cell? ⟨W, 0, none⟩ = some (.slice p 0 c) := y1.trans (by rw [h0])
  have yl := h.blk.lt
  have HI : Hid (∀ o, SteppedC w0 W x1 x2 ms (w.alloc o)) := fun o => ⟨tag, ms, _, by omega, h.below ((Below.refl _ _).alloc (Nat.le_refl _) _)⟩
  clear h h0 y1
  rcases hk with rfl | rfl | rfl
  all_goals
    go_enter Tryz.func31, Tryz.ntmps31
    go_wp2
    go_ret
    exact ⟨rfl, HI.out _⟩

/-- An operation of a script, of a kind that the law plays. -/
structure OpC (N : Nat) (w : World) (k a b : Int) (v : Value) : Prop where
  k : k = 1 ∨ k = 2 ∨ k = 3 ∨ k = 4
  a1 : -9223372036854775808 ≤ a
  a2 : a ≤ 9223372036854775807
  b1 : -9223372036854775808 ≤ b
  b2 : b ≤ 9223372036854775807
  c : ∃ cs, CfAt N w v cs ∧ cs.length ≤ 2000000 ∧ (∀ c ∈ cs, c.bs.length ≤ 2000000) ∧ total cs ≤ 100000000

theorem step_anyC (w0 : World) (W : Nat) (x1 x2 : Value) (tag : Nat → Nat) (ms : List Mc) (vm : Value) (w : World) (h : IvC w0 W x1 x2 tag ms vm w) (hms : ms.length ≤ 9000000) (k a b : Int) (S : BA) (n q : Bool) (v : Value) (rom : Int) (o : OpC w0.heap.size w k a b v) :
    Calls Tryz.prog 31 #[.pointer (some ⟨W, 0, none⟩), .agg #[.int .i64 k, .int .i64 a, .int .i64 b, .string S, .bool n, .bool q, v, .int .i64 rom]] w fun e w' => e = .returned (.bool true) ∧ SteppedC w0 W x1 x2 ms w' := by
  obtain ⟨cs, hc, c1, c2, c3⟩ := o.c
  rcases o.k with rfl | hk
  · exact step_new w0 W x1 x2 tag ms vm w h hms a b S n q v rom cs hc c1 c2 c3
  · obtain ⟨p, cap, rfl, -⟩ := hc
    by_cases h0 : ms.length = 0
    · exact step_none w0 W x1 x2 tag ms vm w h k a b S n q p _ cap rom hk h0
    · exact step_run w0 W x1 x2 tag ms vm w h hms k a b S n q p _ cap rom o.a1 o.a2 o.b1 o.b2 hk (by omega)
end

/-
  The law Cycles, walked: the play of a script.
-/
section
set_option maxRecDepth 100000
set_option maxHeartbeats 4000000

/-- A step of a script, as it lies in memory, its configuration below N. -/
def OpL (N : Nat) (w : World) (g o : Nat) : Prop := ∃ (k a b : Int) (S : ByteArray) (n q : Bool) (v : Value) (rom : Int),
  (w.cell? ⟨g, o, none⟩ = some (.int .i64 k) ∧ w.cell? ⟨g, o + 1, none⟩ = some (.int .i64 a) ∧ w.cell? ⟨g, o + 2, none⟩ = some (.int .i64 b) ∧ w.cell? ⟨g, o + 3, none⟩ = some (.string S) ∧ w.cell? ⟨g, o + 4, none⟩ = some (.bool n) ∧ w.cell? ⟨g, o + 5, none⟩ = some (.bool q) ∧ w.cell? ⟨g, o + 6, none⟩ = some v ∧ w.cell? ⟨g, o + 7, none⟩ = some (.int .i64 rom)) ∧
  ((k = 1 ∨ k = 2 ∨ k = 3 ∨ k = 4) → OpC N w k a b v) ∧ ∃ p l c, v = .slice p l c
theorem OpC.later {N : Nat} {w w' : World} {k a b : Int} {v : Value} (h : OpC N w k a b v) (hb : Below w.heap.size w w') : OpC N w' k a b v := by
  obtain ⟨cs, c1, c2⟩ := h.c
  exact ⟨h.k, h.a1, h.a2, h.b1, h.b2, cs, c1.below hb, c2⟩
theorem OpL.later {N : Nat} {w w' : World} {g o : Nat} (h : OpL N w g o) (hb : Below w.heap.size w w') : OpL N w' g o := by
  obtain ⟨k, a, b, S, n, q, v, rom, ⟨h0, h1, h2, h3, h4, h5, h6, h7⟩, r, sl⟩ := h
  exact ⟨k, a, b, S, n, q, v, rom, ⟨cell_later hb h0, cell_later hb h1, cell_later hb h2, cell_later hb h3, cell_later hb h4, cell_later hb h5, cell_later hb h6, cell_later hb h7⟩, fun z => (r z).later hb, sl⟩
theorem Boot.ivc {w : World} {tag : Nat → Nat} {B R : Nat → Nat} {k : Nat} {vs vr : Value} {wr : World} (h : Boot w w.heap.size tag B R k k vs vr wr) : IvC w w.heap.size vs vr (fun _ => 1) [] (.slice none 0 0) wr :=
  ⟨h.bel, Nat.le_refl _, h.blk, World.ownsRow_nil _ _ _ _, fun i q => absurd q (by simp), fun i q => absurd q (by simp), rfl, fun g e => by simp [Value.ownBlock] at e, fun i q => absurd q (by simp)⟩
def inq (k : Int) (m : Nat) : Bool := decide (1 ≤ k ∧ k < 1 + (m : Int))
theorem inq_zero (k : Int) : inq k 0 = false := by simp [inq]
theorem inq_more {k : Int} {m : Nat} (h : inq k m = true) : inq k (m + 1) = true := by simp [inq] at *; omega
theorem inq_next {k : Int} {m : Nat} (h : inq k m = false) : inq k (m + 1) = (k == 1 + (m : Int)) := by
  simp only [inq, decide_eq_false_iff_not] at h
  by_cases e : k = 1 + (m : Int)
  · simp [inq, e]; omega
  · have h1 : (k == 1 + (m : Int)) = false := by simpa using e
    rw [h1]; simp [inq]; omega
/-- What m steps leave. -/
def PlayedC (w : World) (x1 x2 : Value) (m : Nat) (wr : World) : Prop := ∃ tag ms vm, ms.length ≤ m ∧ IvC w w.heap.size x1 x2 tag ms vm wr

theorem playsC (w : World) (ga gk : Nat) (sa : Option Addr) (sb so len cap : Nat) (hA : ∀ i, i < 3 → OpL w.heap.size w ga (i * 8) ∧ ∀ k, w.cell? ⟨ga, i * 8, none⟩ = some (.int .i64 k) → k = 1 ∨ k = 2 ∨ k = 3 ∨ k = 4) (hK : ∀ i : Nat, i < 4 → w.cell? ⟨gk, i, none⟩ = some (.int .i64 (1 + (i : Int))))
    (hS : len = 0 ∨ (sa = some ⟨sb, so, none⟩ ∧ ∀ i, i < len → OpL w.heap.size w sb (so + i * 8))) (hlen : len ≤ 1048576) :
    Calls Tryz.prog 14 #[.slice (some ⟨ga, 0, none⟩) 3 3, .slice sa len cap, .slice (some ⟨gk, 0, none⟩) 4 4] w fun e w' => e = .returned (.bool true) ∧ Below w.heap.size w w' := by
  have HG : Hid ((∀ i, i < 3 → OpL w.heap.size w ga (i * 8) ∧ ∀ k, w.cell? ⟨ga, i * 8, none⟩ = some (.int .i64 k) → k = 1 ∨ k = 2 ∨ k = 3 ∨ k = 4) ∧ (∀ i : Nat, i < 4 → w.cell? ⟨gk, i, none⟩ = some (.int .i64 (1 + (i : Int)))) ∧ (len = 0 ∨ (sa = some ⟨sb, so, none⟩ ∧ ∀ i, i < len → OpL w.heap.size w sb (so + i * 8)))) := ⟨hA, hK, hS⟩
  clear hA hK hS
  go_enter Tryz.func14, Tryz.ntmps14
  go_wp2
  go_loopw [8] (fun i wr => ∃ (k : Nat) (tag B R : Nat → Nat) (vs vr : Value), k ≤ 2 ∧ i = .int .i64 k ∧ Boot w w.heap.size tag B R k k vs vr wr) (fun i _ => 2 - (intOf i).toNat)
  case atStart => exact ⟨0, _, _, _, _, _, by omega, rfl, boot_new w⟩
  case round =>
    obtain ⟨k, tag, B, R, vs, vr, hk, rfl, hB⟩ := hrel
    obtain ⟨aS, cs, ar, cr, rfl, rfl⟩ := hB.shape
    by_cases hlt : k < 2
    · have HB : Hid (Boot w w.heap.size tag B R k k (.slice aS k cs) (.slice ar k cr) wr) := hB
      clear hB
      obtain ⟨iS, hiS, hzS0, hzS1, hzS2⟩ := info_parts inf_pS
      obtain ⟨iR, hiR, hzR0, hzR1, hzR2⟩ := info_parts inf_pR
      go_wp2_with fail
      refine (newScan_any _).mono ?_
      rintro e w1 ⟨rfl, hsc, hg1, hsz1⟩
      have hb1 : Below wr.heap.size wr w1 := ⟨hg1.os, hg1.tape, hg1.output, hg1.size, fun j hj => hg1.block j hj (by simp)⟩
      have HB1 : Hid (Boot w w.heap.size (fun g => if g = wr.heap.size then 3 + 2 * k else tag g) B R k k (.slice aS k cs) (.slice ar k cr) w1 ∧ ScAt w1 wr.heap.size sc00 ∧ w.heap.size ≤ wr.heap.size ∧ wr.heap.size < w1.heap.size) :=
        ⟨(HB.out.tagged (fun g hl => if_neg (by omega))).below hb1, hsc, HB.out.bel.size, by omega⟩
      clear hb1 hsc hg1 hsz1 HB
      have c2 := HB1.out.1.cell.1
      have f2 := HB1.out.1.cell.2.2 2
      have hWl := HB1.out.1.wlt
      go_wp2_with (first
        | (at_builtin; (refine wpList_append_lies _ rfl (.tmp 29) (.tmp 31) 75 rfl w.heap.size 83 iS _ 1 8 und_pS hiS hzS0 hzS1 hzS2 rfl (by decide) (.slice aS k cs) k (ptrs B k) rfl ?_ ⟨w1.heap.size, 0, none⟩ 1 1 [ptr wr.heap.size] rfl rfl (one_new' _ _ _) (ptr_one _) (by decide) ?_ ?_ ?_ _ rfl ?_; exact (HB1.out.1.below ((Below.refl _ _).alloc (Nat.le_refl _) _)).oS; (unfold maxLen; omega); omega; (have := HB1.out.2.2; simp; omega); intro g' cap' w3 hown' hgrow hat hlt'; have hBA := HB1.out.1.below ((Below.refl w1.heap.size w1).alloc (Nat.le_refl _) (.cells #[ptr wr.heap.size] 83)); obtain ⟨j2, jf, j3, jl⟩ := hBA.keptS hgrow; have HB2 : Hid (∃ tag B, Boot w w.heap.size tag B R (k + 1) k (.slice (some ⟨g', 0, none⟩) (k + 1) cap') (.slice ar k cr) (w3.setCell ⟨w.heap.size, 2, none⟩ (.slice (some ⟨g', 0, none⟩) (k + 1) cap'))) := ⟨_, _, hBA.pushS (HB1.out.2.1.sameBlock (Below.heap_alloc _ _ _ HB1.out.2.2.2)) HB1.out.2.2.1 (if_pos rfl) hown' hgrow hat⟩; clear hBA hown' hgrow hat hlt' HB1 c2 f2 hWl))
        | (at_builtin; go_must (refine wpList_append_lies _ rfl (.tmp 39) (.tmp 42) 76 rfl w.heap.size 85 iR _ 1 8 und_pR hiR hzR0 hzR1 hzR2 rfl (by decide) (.slice ar k cr) k (ptrs R k) rfl ?_ ⟨w3.heap.size + 1, 0, none⟩ 1 1 [ptr w3.heap.size] rfl rfl (one_new3 _ _ _ _ _ (by simp)) (ptr_one _) (by decide) ?_ ?_ ?_ _ rfl ?_; (obtain ⟨tag2, B2, h2⟩ := HB2.out; exact (h2.below (below2 _ _ _)).oR); (unfold maxLen; omega); omega; (obtain ⟨tag2, B2, h2⟩ := HB2.out; have := h2.bel.size; simp at this; simp; omega); intro g2 cap2 w5 hown' hgrow hat hlt'; obtain ⟨tag2, B2, h2⟩ := HB2.out; obtain ⟨j5, j5f⟩ := (h2.below (below2 _ _ _)).keptR hgrow; have HB3 : Hid (∃ tag R, Boot w w.heap.size tag B2 R (k + 1) (k + 1) (.slice (some ⟨g', 0, none⟩) (k + 1) cap') (.slice (some ⟨g2, 0, none⟩) (k + 1) cap2) (w5.setCell ⟨w.heap.size, 3, none⟩ (.slice (some ⟨g2, 0, none⟩) (k + 1) cap2))) := h2.endR _ _ _ (by simp) hown' hgrow hat; clear h2 hown' hgrow hat hlt' HB2 j2 jf j3 jl)))
      go_roundw
      case rel =>
        obtain ⟨tag3, R3, h3⟩ := HB3.out
        exact ⟨k + 1, tag3, B2, R3, _, _, by omega, by go_num, h3⟩
      case measure => simp [intOf]; omega
    · have HP : Hid (PlayedC w (.slice aS k cs) (.slice ar k cr) 0 wr) := ⟨_, _, _, Nat.le_refl _, hB.ivc⟩
      obtain ⟨X1, hX1⟩ : ∃ X1, (Value.slice aS k cs) = X1 := ⟨_, rfl⟩
      obtain ⟨X2, hX2⟩ : ∃ X2, (Value.slice ar k cr) = X2 := ⟨_, rfl⟩
      rw [hX1, hX2] at HP
      clear hB hX1 hX2
      go_wp2_with fail
      go_loopw [10, 11] (fun i _ wq => ∃ k : Nat, k ≤ 3 ∧ i = .int .i64 k ∧ PlayedC w X1 X2 k wq) (fun i _ _ => 3 - (intOf i).toNat)
      case atStart => exact ⟨0, by omega, rfl, HP.out⟩
      case round =>
        clear HP hk hlt
        obtain ⟨k1, hk1, rfl, tag, ms, vm, hm, hI⟩ := hrel
        by_cases hlt1 : k1 < 3
        · obtain ⟨kk, a, b, S, n, q, v, rom, hcell, hop, p, l, c, rfl⟩ := (HG.out.1 k1 hlt1).1.later hI.bel
          have hkk : kk = 1 ∨ kk = 2 ∨ kk = 3 ∨ kk = 4 := by
            obtain ⟨kk', _, _, _, _, _, _, _, hc', _⟩ := (HG.out.1 k1 hlt1).1
            have z := cell_later hI.bel hc'.1
            rw [hcell.1] at z
            injection z with z
            injection z with _ z
            rw [z]
            exact (HG.out.1 k1 hlt1).2 kk' hc'.1
          have HQ := step_anyC w w.heap.size X1 X2 tag ms vm wr hI (by omega) kk a b S n q (.slice p l c) rom (hop hkk)
          obtain ⟨c0, c1, c2, c3, c4, c5, c6, c7⟩ := hcell
          clear hI hop hkk
          go_wp2_with fail
          refine HQ.mono ?_
          rintro e w2 ⟨rfl, tag2, ms2, vm2, hm2, hI2⟩
          have HI2 : Hid (PlayedC w X1 X2 (k1 + 1) w2) := ⟨tag2, ms2, vm2, by omega, hI2⟩
          clear hI2 HQ c0 c1 c2 c3 c4 c5 c6 c7 hm hm2
          go_wp2_with fail
          go_roundw
          case rel => exact ⟨k1 + 1, by omega, by go_num, HI2.out⟩
          case measure => simp [intOf]; omega
        · have HP : Hid (PlayedC w X1 X2 3 wr) := ⟨tag, ms, vm, by omega, hI⟩
          clear hI hm
          go_wp2_with fail
          go_loopw [12, 13, 14, 15] (fun i _ _ _ wq => ∃ k : Nat, k ≤ len ∧ i = .int .i64 k ∧ PlayedC w X1 X2 (3 + k) wq) (fun i _ _ _ _ => len - (intOf i).toNat)
          case atStart => exact ⟨0, by omega, rfl, HP.out⟩
          case round =>
            clear HP hk1 hlt1
            obtain ⟨k1, hk1, rfl, tag, ms, vm, hm, hI⟩ := hrel
            by_cases hlt1 : k1 < len
            · obtain ⟨rfl, hops⟩ : sa = some ⟨sb, so, none⟩ ∧ ∀ i, i < len → OpL w.heap.size w sb (so + i * 8) := by
                rcases HG.out.2.2 with h | h
                · omega
                · exact h
              obtain ⟨kk, a, b, S, n, q, v, rom, hcell, hop, p, l, c, rfl⟩ := hops k1 hlt1
              have HD : Hid ((w.cell? ⟨sb, so + k1 * 8, none⟩ = some (.int .i64 kk) ∧ w.cell? ⟨sb, so + k1 * 8 + 1, none⟩ = some (.int .i64 a) ∧ w.cell? ⟨sb, so + k1 * 8 + 2, none⟩ = some (.int .i64 b) ∧ w.cell? ⟨sb, so + k1 * 8 + 3, none⟩ = some (.string S) ∧ w.cell? ⟨sb, so + k1 * 8 + 4, none⟩ = some (.bool n) ∧ w.cell? ⟨sb, so + k1 * 8 + 5, none⟩ = some (.bool q) ∧ w.cell? ⟨sb, so + k1 * 8 + 6, none⟩ = some (.slice p l c) ∧ w.cell? ⟨sb, so + k1 * 8 + 7, none⟩ = some (.int .i64 rom)) ∧ ((kk = 1 ∨ kk = 2 ∨ kk = 3 ∨ kk = 4) → OpC w.heap.size w kk a b (.slice p l c))) := ⟨hcell, hop⟩
              have HI : Hid (IvC w w.heap.size X1 X2 tag ms vm wr) := hI
              clear hI hcell hop hops
              go_wp2_with fail
              go_loopw [13, 14] (fun b j wq => ∃ m : Nat, m ≤ 4 ∧ j = .int .i64 m ∧ b = .bool (inq kk m) ∧ IvC w w.heap.size X1 X2 tag ms vm wq) (fun _ j _ => 4 - (intOf j).toNat)
              case atStart => exact ⟨0, by omega, rfl, by rw [inq_zero], HI.out⟩
              case round =>
                clear HI
                obtain ⟨m, hm3, rfl, rfl, hI⟩ := hrel
                have HI : Hid (IvC w w.heap.size X1 X2 tag ms vm wr) := hI
                by_cases hlt2 : m < 4
                · have d0 := cell_later hI.bel HD.out.1.1
                  have e0 := cell_later hI.bel (HG.out.2.1 m hlt2)
                  clear hI
                  obtain ⟨bb, hbb⟩ : ∃ bb, inq kk m = bb := ⟨_, rfl⟩
                  rw [hbb]
                  cases bb
                  · go_wp2_with fail
                    go_quiet (fail)
                    have HI2 : Hid (IvC w w.heap.size X1 X2 tag ms vm (wr.drewN nq)) := HI.out.below (below_drewN (Below.refl _ _) nq)
                    clear HI d0 e0
                    go_wp2_with fail
                    go_roundw
                    case rel => exact ⟨m + 1, by omega, by go_num, by rw [inq_next hbb], HI2.out⟩
                    case measure => simp [intOf]; omega
                  · go_wp2_with fail
                    go_quiet (fail)
                    have HI2 : Hid (IvC w w.heap.size X1 X2 tag ms vm (wr.drewN nq)) := HI.out.below (below_drewN (Below.refl _ _) nq)
                    clear HI d0 e0
                    go_wp2_with fail
                    go_roundw
                    case rel => exact ⟨m + 1, by omega, by go_num, by rw [inq_more hbb], HI2.out⟩
                    case measure => simp [intOf]; omega
                · obtain rfl : m = 4 := by omega
                  clear hI
                  obtain ⟨bb, hbb⟩ : ∃ bb, inq kk 4 = bb := ⟨_, rfl⟩
                  rw [hbb]
                  cases bb
                  · go_wp2_with fail
                    go_roundw
                    case rel => exact ⟨k1 + 1, by omega, by go_num, tag, ms, vm, by omega, HI.out⟩
                    case measure => simp [intOf]; omega
                  · have hkk : kk = 1 ∨ kk = 2 ∨ kk = 3 ∨ kk = 4 := by simp [inq] at hbb; omega
                    have HQ := step_anyC w w.heap.size X1 X2 tag ms vm wr HI.out (by omega) kk a b S n q (.slice p l c) rom ((HD.out.2 hkk).later HI.out.bel)
                    have d0 := cell_later HI.out.bel HD.out.1.1
                    have d1 := cell_later HI.out.bel HD.out.1.2.1
                    have d2 := cell_later HI.out.bel HD.out.1.2.2.1
                    have d3 := cell_later HI.out.bel HD.out.1.2.2.2.1
                    have d4 := cell_later HI.out.bel HD.out.1.2.2.2.2.1
                    have d5 := cell_later HI.out.bel HD.out.1.2.2.2.2.2.1
                    have d6 := cell_later HI.out.bel HD.out.1.2.2.2.2.2.2.1
                    have d7 := cell_later HI.out.bel HD.out.1.2.2.2.2.2.2.2
                    clear hkk hbb HI
                    go_wp2_with fail
                    refine HQ.mono ?_
                    rintro e w2 ⟨rfl, tag2, ms2, vm2, hm2, hI2⟩
                    have HL := looks_empty w2 w.heap.size (hI2.blk.cell 4) (hI2.blk.cell 5)
                    have HI2 : Hid (PlayedC w X1 X2 (3 + (k1 + 1)) w2) := ⟨tag2, ms2, vm2, by omega, hI2⟩
                    clear hI2 HQ d0 d1 d2 d3 d4 d5 d6 d7
                    go_wp2_with fail
                    refine HL.mono ?_
                    rintro e w3 ⟨rfl, hw3⟩
                    subst hw3
                    clear HL
                    go_wp2_with fail
                    go_roundw
                    case rel => exact ⟨k1 + 1, by omega, by go_num, HI2.out⟩
                    case measure => simp [intOf]; omega
            · have HI : Hid (Below w.heap.size w wr) := hI.bel
              clear hI
              go_wp2
              go_ret
              exact ⟨rfl, HI.out⟩
end

end Go.Proofs.YtcgjliflnnklnaaGreat
