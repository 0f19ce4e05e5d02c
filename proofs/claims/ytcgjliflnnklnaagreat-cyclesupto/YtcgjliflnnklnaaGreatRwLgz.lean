/-
  The law Cycles, walked: a step.
-/
import Derived.Test.YtcgjliflnnklnaaGreatRwLfz
namespace Go.Proofs.YtcgjliflnnklnaaGreat
open Go.RowKit
set_option maxRecDepth 100000
set_option maxHeartbeats 8000000

def pkL (c n : Int) : Int := if c < 0 then -(c + 1).tmod n else c % n
theorem pickD (c n : Int) (w : World) (h : 1 ≤ n) (h2 : n ≤ 9223372036854775807) (hc1 : -9223372036854775808 ≤ c) (hc2 : c ≤ 9223372036854775807) :
    Calls Tryz.prog 43 #[.int .i64 c, .int .i64 n] w fun e w' => e = .returned (.int .i64 (pkL c n)) ∧ w' = w := by
  unfold pkL
  go_enter Tryz.func43, Tryz.ntmps43
  go_wp2
  all_goals go_ret
  all_goals exact ⟨rfl, rfl⟩
theorem pkL_lt (c n : Int) (h : 1 ≤ n) : 0 ≤ pkL c n ∧ pkL c n < n := by
  unfold pkL
  split
  · rename_i hc; exact pick_lt c n h hc
  · exact ⟨Int.emod_nonneg c (by omega), Int.emod_lt_of_pos c (by omega)⟩

/-- What a step leaves. -/
def SteppedC (w0 : World) (W : Nat) (x1 x2 : Value) (ms : List Mc) (w : World) : Prop := ∃ tag' ms' vm', ms'.length ≤ ms.length + 1 ∧ IvC w0 W x1 x2 tag' ms' vm' w

/-- runs, of whatever kind. -/
theorem runs_all (w : World) (base B R M : Nat) (s : PC) (t : RS) (vh : Value) (h : Pair w base B R M s t vh) (hbs : base ≤ w.heap.size) (k a b : Int) (S : BA) (n q : Bool) (ca : Option Addr) (cl cc : Nat) (rom : Int) (hb1 : -9223372036854775808 ≤ b) (hb2 : b ≤ 9223372036854775807) (hk : k = 2 ∨ k = 3 ∨ k = 4) :
    Calls Tryz.prog 42 #[.agg (opW k a b S n q ca cl cc rom), .agg #[.pointer (some ⟨B, 0, none⟩), .pointer (some ⟨R, 0, none⟩)]] w fun e w' => e = .returned (.bool true) ∧ Ran w base B R M vh w' := by
  rcases hk with rfl | rfl | rfl
  · exact runs_cycle w base B R M s t vh h hbs a b S n q ca cl cc rom hb1 hb2
  · exact runs_regs w base B R M s t vh h a b S n q ca cl cc rom
  · exact runs_peek w base B R M s t vh h a b S n q ca cl cc rom

theorem step_new (w0 : World) (W : Nat) (x1 x2 : Value) (tag : Nat → Nat) (ms : List Mc) (vm : Value) (w : World) (h : IvC w0 W x1 x2 tag ms vm w) (hms : ms.length ≤ 9000000) (a b : Int) (S : BA) (n q : Bool) (v : Value) (rom : Int) (cs : List Chn) (hc : CfAt w0.heap.size w v cs) (hl : cs.length ≤ 2000000) (hbs : ∀ c ∈ cs, c.bs.length ≤ 2000000) (htot : total cs ≤ 100000000) :
    Calls Tryz.prog 31 #[.pointer (some ⟨W, 0, none⟩), .agg #[.int .i64 1, .int .i64 a, .int .i64 b, .string S, .bool n, .bool q, v, .int .i64 rom]] w fun e w' => e = .returned (.bool true) ∧ SteppedC w0 W x1 x2 ms w' := by
  have MD : ∀ o, Calls Tryz.prog 41 #[.pointer (some ⟨W, 0, none⟩), .agg #[.int .i64 1, .int .i64 a, .int .i64 b, .string S, .bool n, .bool q, v, .int .i64 rom]] (w.alloc o) fun e w' => e = .returned (.bool true) ∧ SteppedC w0 W x1 x2 ms w' := fun o => by
    have hb : Below w.heap.size w (w.alloc o) := (Below.refl _ _).alloc (Nat.le_refl _) _
    cases hv : validI rom cs
    · exact made_no w0 W x1 x2 tag ms vm _ (h.below hb) a b S n q v rom cs (hc.below hb) hl hbs htot hv
    · exact made_ok w0 W x1 x2 tag ms vm _ (h.below hb) hms a b S n q v rom cs (hc.below hb) hl hbs htot hv
  obtain ⟨p, cap, rfl, -⟩ := hc
  clear h hms hbs htot
  go_enter Tryz.func31, Tryz.ntmps31
  go_wp2_with fail
  refine (MD _).mono ?_
  rintro e w' ⟨rfl, hI⟩
  have H2 : Hid (SteppedC w0 W x1 x2 ms w') := hI
  clear hI MD
  go_wp2
  go_ret
  exact ⟨by simp, H2.out⟩

theorem step_run (w0 : World) (W : Nat) (x1 x2 : Value) (tag : Nat → Nat) (ms : List Mc) (vm : Value) (w : World) (h : IvC w0 W x1 x2 tag ms vm w) (hms : ms.length ≤ 9000000) (k a b : Int) (S : BA) (n q : Bool) (ca : Option Addr) (cl cc : Nat) (rom : Int) (ha1 : -9223372036854775808 ≤ a) (ha2 : a ≤ 9223372036854775807) (hb1 : -9223372036854775808 ≤ b) (hb2 : b ≤ 9223372036854775807) (hk : k = 2 ∨ k = 3 ∨ k = 4) (hpos : 0 < ms.length) :
    Calls Tryz.prog 31 #[.pointer (some ⟨W, 0, none⟩), .agg #[.int .i64 k, .int .i64 a, .int .i64 b, .string S, .bool n, .bool q, .slice ca cl cc, .int .i64 rom]] w fun e w' => e = .returned (.bool true) ∧ SteppedC w0 W x1 x2 ms w' := by
  have PD := fun w => pickD a ms.length w (by omega) (by omega) ha1 ha2
  obtain ⟨k0, hk0⟩ : ∃ k0 : Nat, pkL a ms.length = (k0 : Int) := ⟨(pkL a ms.length).toNat, by have := pkL_lt a ms.length (by omega); omega⟩
  have hkl : k0 < ms.length := by have := pkL_lt a ms.length (by omega); omega
  rw [hk0] at PD
  clear hk0
  have h1 := h.below ((Below.refl _ _).alloc (Nat.le_refl _) (.cells #[.int .i64 k, .int .i64 a, .int .i64 b, .string S, .bool n, .bool q, .slice ca cl cc, .int .i64 rom] 29))
  have hP := h1.pr k0 hkl
  obtain ⟨gM, cM, rfl⟩ : ∃ gM cM, vm = (.slice (some ⟨gM, 0, none⟩) ms.length cM) := by
    rcases h.own.2 with ⟨_, e2⟩ | ⟨g, cap, _, e, _⟩
    · omega
    · exact ⟨g, cap, e⟩
  have RU := runs_all (w.alloc (.cells #[.int .i64 k, .int .i64 a, .int .i64 b, .string S, .bool n, .bool q, .slice ca cl cc, .int .i64 rom] 29)).drew w0.heap.size ms[k0].B ms[k0].R ms[k0].M ms[k0].s ms[k0].t ms[k0].vh (hP.kept (Below.refl _ _).drew) (by have := h1.bel.size; exact this) k a b S n q ca cl cc rom hb1 hb2 hk
  unfold opW at RU
  have hO := Blk.new w #[.int .i64 k, .int .i64 a, .int .i64 b, .string S, .bool n, .bool q, .slice ca cl cc, .int .i64 rom] 29
  obtain ⟨mB, mR⟩ := mcs_get ms k0 hkl
  have m0 : (w.alloc (.cells #[.int .i64 k, .int .i64 a, .int .i64 b, .string S, .bool n, .bool q, .slice ca cl cc, .int .i64 rom] 29)).cell? ⟨gM, k0 * 2, none⟩ = some (.pointer (some ⟨ms[k0].B, 0, none⟩)) := (h1.own.cellAt (k0 * 2) (by omega)).trans mB
  have m1 : (w.alloc (.cells #[.int .i64 k, .int .i64 a, .int .i64 b, .string S, .bool n, .bool q, .slice ca cl cc, .int .i64 rom] 29)).cell? ⟨gM, k0 * 2 + 1, none⟩ = some (.pointer (some ⟨ms[k0].R, 0, none⟩)) := (h1.own.cellAt (k0 * 2 + 1) (by omega)).trans mR
  have y0 : (w.alloc (.cells #[.int .i64 k, .int .i64 a, .int .i64 b, .string S, .bool n, .bool q, .slice ca cl cc, .int .i64 rom] 29)).cell? ⟨W, 0, none⟩ = some (.slice (some ⟨gM, 0, none⟩) ms.length cM) := h1.blk.cell 0
  have HI : Hid (IvC w0 W x1 x2 tag ms (.slice (some ⟨gM, 0, none⟩) ms.length cM) (w.alloc (.cells #[.int .i64 k, .int .i64 a, .int .i64 b, .string S, .bool n, .bool q, .slice ca cl cc, .int .i64 rom] 29))) := h1
  have ltk := h.pr k0 hkl
  have bB := ltk.x.lt
  have bR := ltk.y.lt
  have bM := ltk.y.ltM
  have bH : ∀ g, ms[k0].vh.ownBlock = some g → g < w.heap.size := fun g hg => (ltk.o.o.lt g hg).2
  obtain ⟨t1, t2, t3, t4⟩ := h.tm k0 hkl
  have HT : Hid (tag W = 1 ∧ tag gM = 2 ∧ tag ms[k0].B = 3 + 4 * k0 ∧ tag ms[k0].R = 4 + 4 * k0 ∧ tag ms[k0].M = 5 + 4 * k0 ∧ ∀ g, ms[k0].vh.ownBlock = some g → tag g = 6 + 4 * k0) := ⟨h.tW, h.tV gM rfl, t1, t2, t3, t4⟩
  have nrow : ∀ g, ms[k0].vh.ownBlock = some g → w.heap.size ≠ g ∧ W ≠ g ∧ gM ≠ g := fun g hg => ⟨by have := bH g hg; omega, fun e => by have z := HT.out.2.2.2.2.2 g hg; rw [← e, HT.out.1] at z; omega, fun e => by have z := HT.out.2.2.2.2.2 g hg; rw [← e, HT.out.2.1] at z; omega⟩
  have nb : ∀ x, (x = W ∨ x = gM) → x ≠ ms[k0].B ∧ x ≠ ms[k0].R ∧ x ≠ ms[k0].M := fun x hx => by
    have z : tag x = 1 ∨ tag x = 2 := by rcases hx with e | e <;> rw [e] <;> simp [HT.out.1, HT.out.2.1]
    refine ⟨fun e => ?_, fun e => ?_, fun e => ?_⟩
    · rw [e, HT.out.2.2.1] at z; omega
    · rw [e, HT.out.2.2.2.1] at z; omega
    · rw [e, HT.out.2.2.2.2.1] at z; omega
  have Wl := h1.blk.lt
  have gl := (h1.own.lt gM rfl).2
  have ol := hO.lt
  have hposI : (0 : Int) < (ms.length : Int) := by omega
  have hkI : (k0 : Int) < (ms.length : Int) := by omega
  have o0 : (w.alloc (.cells #[.int .i64 k, .int .i64 a, .int .i64 b, .string S, .bool n, .bool q, .slice ca cl cc, .int .i64 rom] 29)).cell? ⟨w.heap.size, 0, none⟩ = some (.int .i64 k) := hO.cell 0
  have o1 : (w.alloc (.cells #[.int .i64 k, .int .i64 a, .int .i64 b, .string S, .bool n, .bool q, .slice ca cl cc, .int .i64 rom] 29)).cell? ⟨w.heap.size, 1, none⟩ = some (.int .i64 a) := hO.cell 1
  have o2 : (w.alloc (.cells #[.int .i64 k, .int .i64 a, .int .i64 b, .string S, .bool n, .bool q, .slice ca cl cc, .int .i64 rom] 29)).cell? ⟨w.heap.size, 2, none⟩ = some (.int .i64 b) := hO.cell 2
  have o3 : (w.alloc (.cells #[.int .i64 k, .int .i64 a, .int .i64 b, .string S, .bool n, .bool q, .slice ca cl cc, .int .i64 rom] 29)).cell? ⟨w.heap.size, 3, none⟩ = some (.string S) := hO.cell 3
  have o4 : (w.alloc (.cells #[.int .i64 k, .int .i64 a, .int .i64 b, .string S, .bool n, .bool q, .slice ca cl cc, .int .i64 rom] 29)).cell? ⟨w.heap.size, 4, none⟩ = some (.bool n) := hO.cell 4
  have o5 : (w.alloc (.cells #[.int .i64 k, .int .i64 a, .int .i64 b, .string S, .bool n, .bool q, .slice ca cl cc, .int .i64 rom] 29)).cell? ⟨w.heap.size, 5, none⟩ = some (.bool q) := hO.cell 5
  have o6 : (w.alloc (.cells #[.int .i64 k, .int .i64 a, .int .i64 b, .string S, .bool n, .bool q, .slice ca cl cc, .int .i64 rom] 29)).cell? ⟨w.heap.size, 6, none⟩ = some (.slice ca cl cc) := hO.cell 6
  have o7 : (w.alloc (.cells #[.int .i64 k, .int .i64 a, .int .i64 b, .string S, .bool n, .bool q, .slice ca cl cc, .int .i64 rom] 29)).cell? ⟨w.heap.size, 7, none⟩ = some (.int .i64 rom) := hO.cell 7
  have kq : ¬ k = 1 ∧ ¬ k = 7 := by omega
  clear h h1 hP hO mB mR ltk t1 t2 t3 t4
  go_enter Tryz.func31, Tryz.ntmps31
  rcases hk with rfl | rfl | rfl
  · go_upto_region 9 with fail
    generalize w.alloc (.cells #[.int .i64 2, .int .i64 a, .int .i64 b, .string S, .bool n, .bool q, .slice ca cl cc, .int .i64 rom] 29) = W1 at *
    go_region_held3 (fun w' => w'.cell? ⟨w.heap.size, 0, none⟩ = some (.int .i64 2) ∧ w'.cell? ⟨w.heap.size, 1, none⟩ = some (.int .i64 a) ∧ w'.cell? ⟨w.heap.size, 2, none⟩ = some (.int .i64 b) ∧ w'.cell? ⟨w.heap.size, 3, none⟩ = some (.string S) ∧ w'.cell? ⟨w.heap.size, 4, none⟩ = some (.bool n) ∧ w'.cell? ⟨w.heap.size, 5, none⟩ = some (.bool q) ∧ w'.cell? ⟨w.heap.size, 6, none⟩ = some (.slice ca cl cc) ∧ w'.cell? ⟨w.heap.size, 7, none⟩ = some (.int .i64 rom) ∧ w'.cell? ⟨W, 0, none⟩ = some (.slice (some ⟨gM, 0, none⟩) ms.length cM) ∧ w'.cell? ⟨gM, k0 * 2, none⟩ = some (.pointer (some ⟨ms[k0].B, 0, none⟩)) ∧ w'.cell? ⟨gM, k0 * 2 + 1, none⟩ = some (.pointer (some ⟨ms[k0].R, 0, none⟩))) (go_keep) (first | (go_at_call 43; refine (PD _).mono ?_; rintro e w5 ⟨rfl, hw⟩; subst hw) | (go_at_call 42; refine RU.mono ?_; rintro e w5 ⟨rfl, s', t', vh', p, f, o⟩; have cA : ∀ g i, g < W1.heap.size → g ≠ ms[k0].B → g ≠ ms[k0].R → g ≠ ms[k0].M → some g ≠ ms[k0].vh.ownBlock → w5.cell? ⟨g, i, none⟩ = W1.cell? ⟨g, i, none⟩ := (fun g i z1 z2 z3 z4 z5 => World.cell?_of_block (a := ⟨g, i, none⟩) (f.block g z1 z2 z3 z4 z5)); have j0 := (cA w.heap.size 0 ol (by omega) (by omega) (by omega) (fun e => (nrow _ e.symm).1 rfl)).trans o0; have j1 := (cA w.heap.size 1 ol (by omega) (by omega) (by omega) (fun e => (nrow _ e.symm).1 rfl)).trans o1; have j2 := (cA w.heap.size 2 ol (by omega) (by omega) (by omega) (fun e => (nrow _ e.symm).1 rfl)).trans o2; have j3 := (cA w.heap.size 3 ol (by omega) (by omega) (by omega) (fun e => (nrow _ e.symm).1 rfl)).trans o3; have j4 := (cA w.heap.size 4 ol (by omega) (by omega) (by omega) (fun e => (nrow _ e.symm).1 rfl)).trans o4; have j5 := (cA w.heap.size 5 ol (by omega) (by omega) (by omega) (fun e => (nrow _ e.symm).1 rfl)).trans o5; have j6 := (cA w.heap.size 6 ol (by omega) (by omega) (by omega) (fun e => (nrow _ e.symm).1 rfl)).trans o6; have j7 := (cA w.heap.size 7 ol (by omega) (by omega) (by omega) (fun e => (nrow _ e.symm).1 rfl)).trans o7; have jW := (cA W 0 Wl (nb W (.inl rfl)).1 (nb W (.inl rfl)).2.1 (nb W (.inl rfl)).2.2 (fun e => (nrow _ e.symm).2.1 rfl)).trans y0; have jm0 := (cA gM (k0 * 2) gl (nb gM (.inr rfl)).1 (nb gM (.inr rfl)).2.1 (nb gM (.inr rfl)).2.2 (fun e => (nrow _ e.symm).2.2 rfl)).trans m0; have jm1 := (cA gM (k0 * 2 + 1) gl (nb gM (.inr rfl)).1 (nb gM (.inr rfl)).2.1 (nb gM (.inr rfl)).2.2 (fun e => (nrow _ e.symm).2.2 rfl)).trans m1; have HE : Hid (SteppedC w0 W x1 x2 ms w5) := ⟨_, _, _, by simp, HI.out.ran hkl p ⟨f.os, f.tape, f.output, f.size, f.block⟩ o⟩; clear cA p f o))
    all_goals
      clear PD RU HI
      go_wp2
      go_ret
      exact ⟨rfl, HE.out⟩
  · go_upto_region 9 with fail
    generalize w.alloc (.cells #[.int .i64 3, .int .i64 a, .int .i64 b, .string S, .bool n, .bool q, .slice ca cl cc, .int .i64 rom] 29) = W1 at *
    go_region_held3 (fun w' => w'.cell? ⟨w.heap.size, 0, none⟩ = some (.int .i64 3) ∧ w'.cell? ⟨w.heap.size, 1, none⟩ = some (.int .i64 a) ∧ w'.cell? ⟨w.heap.size, 2, none⟩ = some (.int .i64 b) ∧ w'.cell? ⟨w.heap.size, 3, none⟩ = some (.string S) ∧ w'.cell? ⟨w.heap.size, 4, none⟩ = some (.bool n) ∧ w'.cell? ⟨w.heap.size, 5, none⟩ = some (.bool q) ∧ w'.cell? ⟨w.heap.size, 6, none⟩ = some (.slice ca cl cc) ∧ w'.cell? ⟨w.heap.size, 7, none⟩ = some (.int .i64 rom) ∧ w'.cell? ⟨W, 0, none⟩ = some (.slice (some ⟨gM, 0, none⟩) ms.length cM) ∧ w'.cell? ⟨gM, k0 * 2, none⟩ = some (.pointer (some ⟨ms[k0].B, 0, none⟩)) ∧ w'.cell? ⟨gM, k0 * 2 + 1, none⟩ = some (.pointer (some ⟨ms[k0].R, 0, none⟩))) (go_keep) (first | (go_at_call 43; refine (PD _).mono ?_; rintro e w5 ⟨rfl, hw⟩; subst hw) | (go_at_call 42; refine RU.mono ?_; rintro e w5 ⟨rfl, s', t', vh', p, f, o⟩; have cA : ∀ g i, g < W1.heap.size → g ≠ ms[k0].B → g ≠ ms[k0].R → g ≠ ms[k0].M → some g ≠ ms[k0].vh.ownBlock → w5.cell? ⟨g, i, none⟩ = W1.cell? ⟨g, i, none⟩ := (fun g i z1 z2 z3 z4 z5 => World.cell?_of_block (a := ⟨g, i, none⟩) (f.block g z1 z2 z3 z4 z5)); have j0 := (cA w.heap.size 0 ol (by omega) (by omega) (by omega) (fun e => (nrow _ e.symm).1 rfl)).trans o0; have j1 := (cA w.heap.size 1 ol (by omega) (by omega) (by omega) (fun e => (nrow _ e.symm).1 rfl)).trans o1; have j2 := (cA w.heap.size 2 ol (by omega) (by omega) (by omega) (fun e => (nrow _ e.symm).1 rfl)).trans o2; have j3 := (cA w.heap.size 3 ol (by omega) (by omega) (by omega) (fun e => (nrow _ e.symm).1 rfl)).trans o3; have j4 := (cA w.heap.size 4 ol (by omega) (by omega) (by omega) (fun e => (nrow _ e.symm).1 rfl)).trans o4; have j5 := (cA w.heap.size 5 ol (by omega) (by omega) (by omega) (fun e => (nrow _ e.symm).1 rfl)).trans o5; have j6 := (cA w.heap.size 6 ol (by omega) (by omega) (by omega) (fun e => (nrow _ e.symm).1 rfl)).trans o6; have j7 := (cA w.heap.size 7 ol (by omega) (by omega) (by omega) (fun e => (nrow _ e.symm).1 rfl)).trans o7; have jW := (cA W 0 Wl (nb W (.inl rfl)).1 (nb W (.inl rfl)).2.1 (nb W (.inl rfl)).2.2 (fun e => (nrow _ e.symm).2.1 rfl)).trans y0; have jm0 := (cA gM (k0 * 2) gl (nb gM (.inr rfl)).1 (nb gM (.inr rfl)).2.1 (nb gM (.inr rfl)).2.2 (fun e => (nrow _ e.symm).2.2 rfl)).trans m0; have jm1 := (cA gM (k0 * 2 + 1) gl (nb gM (.inr rfl)).1 (nb gM (.inr rfl)).2.1 (nb gM (.inr rfl)).2.2 (fun e => (nrow _ e.symm).2.2 rfl)).trans m1; have HE : Hid (SteppedC w0 W x1 x2 ms w5) := ⟨_, _, _, by simp, HI.out.ran hkl p ⟨f.os, f.tape, f.output, f.size, f.block⟩ o⟩; clear cA p f o))
    all_goals
      clear PD RU HI
      go_wp2
      go_ret
      exact ⟨rfl, HE.out⟩
  · go_upto_region 9 with fail
    generalize w.alloc (.cells #[.int .i64 4, .int .i64 a, .int .i64 b, .string S, .bool n, .bool q, .slice ca cl cc, .int .i64 rom] 29) = W1 at *
    go_region_held3 (fun w' => w'.cell? ⟨w.heap.size, 0, none⟩ = some (.int .i64 4) ∧ w'.cell? ⟨w.heap.size, 1, none⟩ = some (.int .i64 a) ∧ w'.cell? ⟨w.heap.size, 2, none⟩ = some (.int .i64 b) ∧ w'.cell? ⟨w.heap.size, 3, none⟩ = some (.string S) ∧ w'.cell? ⟨w.heap.size, 4, none⟩ = some (.bool n) ∧ w'.cell? ⟨w.heap.size, 5, none⟩ = some (.bool q) ∧ w'.cell? ⟨w.heap.size, 6, none⟩ = some (.slice ca cl cc) ∧ w'.cell? ⟨w.heap.size, 7, none⟩ = some (.int .i64 rom) ∧ w'.cell? ⟨W, 0, none⟩ = some (.slice (some ⟨gM, 0, none⟩) ms.length cM) ∧ w'.cell? ⟨gM, k0 * 2, none⟩ = some (.pointer (some ⟨ms[k0].B, 0, none⟩)) ∧ w'.cell? ⟨gM, k0 * 2 + 1, none⟩ = some (.pointer (some ⟨ms[k0].R, 0, none⟩))) (go_keep) (first | (go_at_call 43; refine (PD _).mono ?_; rintro e w5 ⟨rfl, hw⟩; subst hw) | (go_at_call 42; refine RU.mono ?_; rintro e w5 ⟨rfl, s', t', vh', p, f, o⟩; have cA : ∀ g i, g < W1.heap.size → g ≠ ms[k0].B → g ≠ ms[k0].R → g ≠ ms[k0].M → some g ≠ ms[k0].vh.ownBlock → w5.cell? ⟨g, i, none⟩ = W1.cell? ⟨g, i, none⟩ := (fun g i z1 z2 z3 z4 z5 => World.cell?_of_block (a := ⟨g, i, none⟩) (f.block g z1 z2 z3 z4 z5)); have j0 := (cA w.heap.size 0 ol (by omega) (by omega) (by omega) (fun e => (nrow _ e.symm).1 rfl)).trans o0; have j1 := (cA w.heap.size 1 ol (by omega) (by omega) (by omega) (fun e => (nrow _ e.symm).1 rfl)).trans o1; have j2 := (cA w.heap.size 2 ol (by omega) (by omega) (by omega) (fun e => (nrow _ e.symm).1 rfl)).trans o2; have j3 := (cA w.heap.size 3 ol (by omega) (by omega) (by omega) (fun e => (nrow _ e.symm).1 rfl)).trans o3; have j4 := (cA w.heap.size 4 ol (by omega) (by omega) (by omega) (fun e => (nrow _ e.symm).1 rfl)).trans o4; have j5 := (cA w.heap.size 5 ol (by omega) (by omega) (by omega) (fun e => (nrow _ e.symm).1 rfl)).trans o5; have j6 := (cA w.heap.size 6 ol (by omega) (by omega) (by omega) (fun e => (nrow _ e.symm).1 rfl)).trans o6; have j7 := (cA w.heap.size 7 ol (by omega) (by omega) (by omega) (fun e => (nrow _ e.symm).1 rfl)).trans o7; have jW := (cA W 0 Wl (nb W (.inl rfl)).1 (nb W (.inl rfl)).2.1 (nb W (.inl rfl)).2.2 (fun e => (nrow _ e.symm).2.1 rfl)).trans y0; have jm0 := (cA gM (k0 * 2) gl (nb gM (.inr rfl)).1 (nb gM (.inr rfl)).2.1 (nb gM (.inr rfl)).2.2 (fun e => (nrow _ e.symm).2.2 rfl)).trans m0; have jm1 := (cA gM (k0 * 2 + 1) gl (nb gM (.inr rfl)).1 (nb gM (.inr rfl)).2.1 (nb gM (.inr rfl)).2.2 (fun e => (nrow _ e.symm).2.2 rfl)).trans m1; have HE : Hid (SteppedC w0 W x1 x2 ms w5) := ⟨_, _, _, by simp, HI.out.ran hkl p ⟨f.os, f.tape, f.output, f.size, f.block⟩ o⟩; clear cA p f o))
    all_goals
      clear PD RU HI
      go_wp2
      go_ret
      exact ⟨rfl, HE.out⟩

end Go.Proofs.YtcgjliflnnklnaaGreat
