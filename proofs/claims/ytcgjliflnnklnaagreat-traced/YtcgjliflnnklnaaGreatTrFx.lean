/-
  Traced holds.
-/
import Derived.Test.YtcgjliflnnklnaaGreatGY
namespace Go.Proofs.YtcgjliflnnklnaaGreat
open Go.RowKit

/-- How the two computers stand, k rounds on. -/
structure TrW (N : Nat) (w wr : World) (B C : Nat) (s : PC) (n : Nat) : Prop where
  c : CAt wr B s
  d : CAt wr C s
  i : TrI s n
  rom : s.rom = 64000
  b : Below N w wr
theorem TrW.wf {N : Nat} {w wr : World} {B C : Nat} {s : PC} {n : Nat} (h : TrW N w wr B C s n) : s.st = 1 → s.md ≠ 0 := by
  intro h1
  cases h.i with
  | mid m _ hm m1 => rw [hm]; omega
  | idle h _ _ => omega
  | two h _ => omega
  | three h _ => omega
  | four h _ => omega
  | jam h => omega
theorem CAt.rg {w : World} {B : Nat} {s : PC} (h : CAt w B s) : RgP s := ⟨h.rpc, h.rad, h.rhop, h.rs, h.rx⟩

theorem regz {wr w1 : World} {t : TypeId} (hb : Below (wr.alloc (.cells #[.int .i64 0, .int .i64 0, .int .i64 0, .int .i64 0, .int .i64 0, .int .i64 0, .int .i64 0, .bool false] t)).heap.size (wr.alloc (.cells #[.int .i64 0, .int .i64 0, .int .i64 0, .int .i64 0, .int .i64 0, .int .i64 0, .int .i64 0, .bool false] t)) w1) :
    w1.cell? ⟨wr.heap.size, 0, none⟩ = some (.int .i64 0) ∧ w1.cell? ⟨wr.heap.size, 1, none⟩ = some (.int .i64 0) ∧ w1.cell? ⟨wr.heap.size, 2, none⟩ = some (.int .i64 0) ∧ w1.cell? ⟨wr.heap.size, 3, none⟩ = some (.int .i64 0) ∧ w1.cell? ⟨wr.heap.size, 4, none⟩ = some (.int .i64 0) ∧ w1.cell? ⟨wr.heap.size, 5, none⟩ = some (.int .i64 0) ∧ w1.cell? ⟨wr.heap.size, 6, none⟩ = some (.int .i64 0) ∧ w1.cell? ⟨wr.heap.size, 7, none⟩ = some (.bool false) ∧ ∀ j, w1.frozen? ⟨wr.heap.size, j, none⟩ = false := by
  have rr : ∀ j, w1.cell? ⟨wr.heap.size, j, none⟩ = (#[.int .i64 0, .int .i64 0, .int .i64 0, .int .i64 0, .int .i64 0, .int .i64 0, .int .i64 0, .bool false] : Array Value)[j]? := fun j => by
    rw [hb.cell (p := ⟨wr.heap.size, j, none⟩) (by simp)]; exact World.cell?_alloc_at _ _ _ _ rfl
  exact ⟨rr 0, rr 1, rr 2, rr 3, rr 4, rr 5, rr 6, rr 7, fun j => by rw [hb.frozen (p := ⟨wr.heap.size, j, none⟩) (by simp)]; exact World.frozen?_alloc_at _ _ _ _ rfl⟩

/-- A row of registers stored. -/
def put8 (w : World) (b : Nat) (a x y s p pc c : Int) (j : Bool) : World :=
  ((((((((w.setCell ⟨b, 0, none⟩ (.int .i64 a)).setCell ⟨b, 1, none⟩ (.int .i64 x)).setCell ⟨b, 2, none⟩ (.int .i64 y)).setCell ⟨b, 3, none⟩ (.int .i64 s)).setCell ⟨b, 4, none⟩ (.int .i64 p)).setCell ⟨b, 5, none⟩ (.int .i64 pc)).setCell ⟨b, 6, none⟩ (.int .i64 c)).setCell ⟨b, 7, none⟩ (.bool j))
theorem put8_size (w : World) (b : Nat) (a x y s p pc c : Int) (j : Bool) : (put8 w b a x y s p pc c j).heap.size = w.heap.size := by unfold put8; simp
theorem put8_cat {w : World} {b B : Nat} {t : PC} (h : CAt w B t) (hne : b ≠ B) (a x y s p pc c : Int) (j : Bool) : CAt (put8 w b a x y s p pc c j) B t :=
  (((((((h.other hne).other hne).other hne).other hne).other hne).other hne).other hne).other hne
theorem put8_below {N : Nat} {w0 w : World} {b : Nat} (h : Below N w0 w) (hb : N ≤ b) (a x y s p pc c : Int) (j : Bool) : Below N w0 (put8 w b a x y s p pc c j) :=
  (((((((h.setCell (p := ⟨b, 0, none⟩) hb _).setCell (p := ⟨b, 1, none⟩) hb _).setCell (p := ⟨b, 2, none⟩) hb _).setCell (p := ⟨b, 3, none⟩) hb _).setCell (p := ⟨b, 4, none⟩) hb _).setCell (p := ⟨b, 5, none⟩) hb _).setCell (p := ⟨b, 6, none⟩) hb _).setCell (p := ⟨b, 7, none⟩) hb _
theorem put8_cells {w : World} {b : Nat} {v5 v6 v7 : Value} (h5 : w.cell? ⟨b, 5, none⟩ = some v5) (h6 : w.cell? ⟨b, 6, none⟩ = some v6) (h7 : w.cell? ⟨b, 7, none⟩ = some v7) (a x y s p pc c : Int) (j : Bool) :
    (put8 w b a x y s p pc c j).cell? ⟨b, 5, none⟩ = some (.int .i64 pc) ∧ (put8 w b a x y s p pc c j).cell? ⟨b, 6, none⟩ = some (.int .i64 c) ∧ (put8 w b a x y s p pc c j).cell? ⟨b, 7, none⟩ = some (.bool j) := by
  have o : ∀ (w : World) (i k : Nat) (v : Value), i ≠ k → (w.setCell ⟨b, i, none⟩ v).cell? ⟨b, k, none⟩ = w.cell? ⟨b, k, none⟩ := fun w i k v h => World.cell?_setCell_other _ _ _ _ (cp_addr _ _ _ h)
  have g : ∀ (w : World) (i : Nat) (v u : Value), w.cell? ⟨b, i, none⟩ = some u → (w.setCell ⟨b, i, none⟩ v).cell? ⟨b, i, none⟩ = some v := fun w i v u h => World.cell?_setCell_same _ _ _ h
  unfold put8
  refine ⟨?_, ?_, ?_⟩
  · rw [o _ 7 5 _ (by decide), o _ 6 5 _ (by decide)]
    exact g _ 5 _ v5 (by rw [o _ 4 5 _ (by decide), o _ 3 5 _ (by decide), o _ 2 5 _ (by decide), o _ 1 5 _ (by decide), o _ 0 5 _ (by decide)]; exact h5)
  · rw [o _ 7 6 _ (by decide)]
    exact g _ 6 _ v6 (by rw [o _ 5 6 _ (by decide), o _ 4 6 _ (by decide), o _ 3 6 _ (by decide), o _ 2 6 _ (by decide), o _ 1 6 _ (by decide), o _ 0 6 _ (by decide)]; exact h6)
  · exact g _ 7 _ v7 (by rw [o _ 6 7 _ (by decide), o _ 5 7 _ (by decide), o _ 4 7 _ (by decide), o _ 3 7 _ (by decide), o _ 2 7 _ (by decide), o _ 1 7 _ (by decide), o _ 0 7 _ (by decide)]; exact h7)

set_option maxRecDepth 100000 in
set_option maxHeartbeats 8000000 in
theorem traced_any (w : World) (p q : Option Addr) (cap pcap : Nat) (bs : List UInt8) (pins : List Bool) (hV : ChV w.heap.size w (.slice p bs.length cap) bs) (hcap : bs.length ≤ cap) (hc2 : cap ≤ 140737488355328)
    (hP : ∀ i, (h : i < pins.length) → ∃ b off, q = some ⟨b, off, none⟩ ∧ b < w.heap.size ∧ w.cell? ⟨b, off + i, none⟩ = some (.bool pins[i])) (_hpl : pins.length ≤ 140737488355328) :
    Calls Tryz.prog 11 #[.slice p bs.length cap, .slice q pins.length pcap] w fun e w' => e = .returned (.bool true) ∧ Below w.heap.size w w' := by
  have KN := known_any w
  have hl2 : (bs.take 200).length ≤ 200 := by rw [List.length_take]; omega
  have HV := Hid.mk' hV
  have HP := Hid.mk' hP
  have HL := Hid.mk' hl2
  have Hcap := Hid.mk' hcap
  have Hc2 := Hid.mk' hc2
  clear hV hP hl2 hcap hc2
  go_enter Tryz.func11, Tryz.ntmps11
  go_wp2_with (first | (go_at_call 16; refine KN.mono ?_; rintro e w1 ⟨rfl, hb1⟩; have HB1 := Hid.mk' hb1; have l1 := hb1.size; have CF := config_any w1 p cap bs ((HV.out.below hb1).mono l1) Hcap.out Hc2.out; clear hb1 KN))
  refine CF.mono ?_
  rintro e w2 ⟨b2, v1, v2, rfl, hC2, hb2⟩
  have l2 := hb2.size
  have HB2 := Hid.mk' (HB1.out.trans (hb2.mono l1))
  have NW := new_bare w2.heap.size (.slice (some ⟨b2, 0, none⟩) 2 2) _ 250 w2 (Nat.le_refl _) hC2 (tr_valid _ HL.out _ _) (by show 2 ≤ 140737488355328; decide) (by
    intro c hc
    unfold trCs at hc
    simp only [List.mem_cons, List.not_mem_nil, or_false] at hc
    rcases hc with rfl | rfl
    · show (bs.take 200).length ≤ _; have := HL.out; omega
    · show 6 ≤ 140737488355328; decide)
  rw [trPC_eq] at NW
  clear CF hC2 hb2 HB1
  go_wp2_with fail
  refine NW.mono ?_
  rintro e w3 ⟨B, hB, rfl, hC3, hb3⟩
  have l3 := hb3.size
  have HB3 := Hid.mk' (HB2.out.trans (hb3.mono (by omega)))
  have lB := hC3.lt
  have HC3 := Hid.mk' hC3
  have CF := config_any w3 p cap bs ((HV.out.below HB3.out).mono (by omega)) Hcap.out Hc2.out
  clear NW hC3 hb3 HB2
  go_wp2_with fail
  refine CF.mono ?_
  rintro e w4 ⟨b4, v3, v4, rfl, hC4, hb4⟩
  have l4 := hb4.size
  have HB4 := Hid.mk' (HB3.out.trans (hb4.mono (by omega)))
  have HC4 := Hid.mk' (HC3.out.bel hb4)
  have NW := new_bare w4.heap.size (.slice (some ⟨b4, 0, none⟩) 2 2) _ 250 w4 (Nat.le_refl _) hC4 (tr_valid _ HL.out _ _) (by show 2 ≤ 140737488355328; decide) (by
    intro c hc
    unfold trCs at hc
    simp only [List.mem_cons, List.not_mem_nil, or_false] at hc
    rcases hc with rfl | rfl
    · show (bs.take 200).length ≤ _; have := HL.out; omega
    · show 6 ≤ 140737488355328; decide)
  rw [trPC_eq] at NW
  clear CF hC4 hb4 HB3 HC3
  go_wp2_with fail
  refine NW.mono ?_
  rintro e w5 ⟨C, hC, rfl, hC5, hb5⟩
  have HT5 : Hid (TrW w.heap.size w w5 B C (trPC (bs.take 200)) 0) := ⟨HC4.out.bel hb5, hC5, (trPC_tr _).1, (trPC_tr _).2, HB4.out.trans (hb5.mono (by omega))⟩
  have nBC : B ≠ C := by omega
  have nB : w.heap.size ≤ B := by omega
  have nC : w.heap.size ≤ C := by omega
  clear NW hC5 hb5 HB4 HC4 l1 l2 l3 l4 lB hB hC
  go_wp2_with fail
  go_loopw [10, 11] (fun sn i wr => ∃ (k n : Nat) (s : PC), k ≤ 120 ∧ n ≤ 7 ∧ i = .int .i64 k ∧ sn = .int .i64 n ∧ TrW w.heap.size w wr B C s n) (fun _ i _ => 120 - (intOf i).toNat)
  case atStart => exact ⟨0, 0, _, by omega, by omega, rfl, rfl, HT5.out⟩
  case round =>
    obtain ⟨k, n, s, hk, hn, rfl, rfl, hT⟩ := hrel
    by_cases hc : k < pins.length ∧ k < 120
    · obtain ⟨c1, c2⟩ := hc
      obtain ⟨pb, po, rfl, hpb, hpc⟩ := HP.out k c1
      have k1 : (k : Int) < (pins.length : Int) := by omega
      have k2 : (k : Int) < 120 := by omega
      have lB := hT.c.lt
      have lC := hT.d.lt
      have lN := hT.b.size
      have HPC := Hid.mk' hpc
      have HT := Hid.mk' hT
      have RG := mRegs_any (Tn.refl (hT.c.alloc (o := .cells #[.int .i64 0, .int .i64 0, .int .i64 0, .int .i64 0, .int .i64 0, .int .i64 0, .int .i64 0, .bool false] 37)))
      generalize pins[k] = pv at *
      have n1 : pb ≠ wr.heap.size := by omega
      have n2 : wr.heap.size ≠ pb := by omega
      clear hT hpc
      obtain ⟨rA, rX, rY, rS, rP, rPC, rcyc, rj, hr⟩ : ∃ rA rX rY rS rP rPC rcyc rj, s.regs = ⟨rA, rX, rY, rS, rP, rPC, rcyc, rj⟩ := ⟨_, _, _, _, _, _, _, _, rfl⟩
      rw [hr] at RG
      have HR := Hid.mk' hr
      clear hr
      go_wp2_with fail
      refine RG.mono ?_
      rintro e w1 ⟨rfl, hb⟩
      obtain ⟨r0, r1, r2, r3, r4, r5, r6, r7, rf⟩ := regz hb
      have l6 : wr.heap.size < w1.heap.size := by have := hb.size; simp at this; omega
      have hbr : Below wr.heap.size wr w1 := ((Below.refl _ _).alloc (Nat.le_refl _) _).trans (hb.mono (by simp))
      have HBw := Hid.mk' (HT.out.b.trans (hbr.mono lN))
      have hp1 : w1.cell? ⟨pb, po + k, none⟩ = some (.bool pv) := by rw [HBw.out.cell (p := ⟨pb, po + k, none⟩) hpb]; exact HPC.out
      have HCB := Hid.mk' (HT.out.c.bel hbr)
      have HCC := Hid.mk' (HT.out.d.bel hbr)
      clear RG hb hbr
      simp only [RegI.val]
      go_wp2_with fail
      change Calls _ _ _ (put8 w1 wr.heap.size rA rX rY rS rP rPC rcyc rj) _
      obtain ⟨p5, p6, p7⟩ := put8_cells r5 r6 r7 rA rX rY rS rP rPC rcyc rj
      have psz := put8_size w1 wr.heap.size rA rX rY rS rP rPC rcyc rj
      have PB := put8_cat HCB.out (show wr.heap.size ≠ B by omega) rA rX rY rS rP rPC rcyc rj
      have PCc := put8_cat HCC.out (show wr.heap.size ≠ C by omega) rA rX rY rS rP rPC rcyc rj
      have PW := put8_below HBw.out lN rA rX rY rS rP rPC rcyc rj
      clear r0 r1 r2 r3 r4 r5 r6 r7 rf hp1 HCB HCC HBw
      generalize put8 w1 wr.heap.size rA rX rY rS rP rPC rcyc rj = W1 at *
      have CY := mCycle_any (Tn.refl PB) pv ((k : Int) % 7 == 3) HT.out.wf
      refine CY.mono ?_
      rintro e W2 ⟨rfl, T2⟩
      have HC2 := Hid.mk' (PCc.beside T2.g (fun x => nBC x.symm))
      have HW2 := Hid.mk' (below_grown PW T2.g nB (by omega))
      have z2 := T2.g.size
      have K2 := kept T2
      have q5 := (K2.1 wr.heap.size 5 (by omega) (by omega)).trans p5
      have q6 := (K2.1 wr.heap.size 6 (by omega) (by omega)).trans p6
      have q7 := (K2.1 wr.heap.size 7 (by omega) (by omega)).trans p7
      have hp2 : W2.cell? ⟨pb, po + k, none⟩ = some (.bool pv) := by rw [HW2.out.cell (p := ⟨pb, po + k, none⟩) hpb]; exact HPC.out
      have HD2 := Hid.mk' T2.c
      have l7 : wr.heap.size < W2.heap.size := by omega
      clear CY T2 K2 p5 p6 p7 PB PCc PW
      have n3 : pb ≠ W2.heap.size := by omega
      have n4 : W2.heap.size ≠ pb := by omega
      have n5 : pb < W2.heap.size := by omega
      have n6 : wr.heap.size ≠ W2.heap.size := by omega
      have n7 : W2.heap.size ≠ wr.heap.size := by omega
      have HWF := Hid.mk' HT.out.wf
      have HRG := Hid.mk' HT.out.c.rg
      obtain ⟨s1, ba, bd, bw, bf, mo, hcv⟩ : ∃ s1 ba bd bw bf mo, cycV s pv ((k : Int) % 7 == 3) = (s1, (⟨ba, bd, bw, bf⟩ : BusI), mo) := ⟨_, _, _, _, _, _, rfl⟩
      have CY2 : Hid (∀ W : World, CAt W C s → Calls Tryz.prog 23 #[.pointer (some ⟨C, 0, none⟩), .bool pv, .bool ((k : Int) % 7 == 3)] W fun e w' => e = .returned (.tuple #[.agg #[.int .i64 ba, .int .i64 bd, .bool bw, .bool bf], .bool mo]) ∧ Tn C s1 W w') := fun W h => by
        have q := mCycle_any (Tn.refl h) pv ((k : Int) % 7 == 3) HWF.out
        rw [hcv] at q
        exact q
      have HCV := Hid.mk' hcv
      rw [hcv] at HD2 ⊢
      clear hcv
      simp only [BusI.val]
      go_wp2_with fail
      refine (CY2.out _ HC2.out.alloc).mono ?_
      rintro e W4 ⟨rfl, T4⟩
      have z4 := T4.g.size
      simp only [World.size_alloc] at z4
      have HD4 := Hid.mk' (HD2.out.alloc.beside T4.g nBC)
      have HE4 := Hid.mk' T4.c
      have HW4 := Hid.mk' (below_grown (HW2.out.alloc (by omega) _) T4.g nC (by simp; omega))
      have K4 := kept T4
      have C2lt := HC2.out.lt
      have nz : W2.heap.size ≠ C := by omega
      have al : ∀ j, (W2.alloc (.cells #[.int .i64 ba, .int .i64 bd, .bool bw, .bool bf] 53)).cell? ⟨W2.heap.size, j, none⟩ = (#[.int .i64 ba, .int .i64 bd, .bool bw, .bool bf] : Array Value)[j]? := fun j => World.cell?_alloc_at _ _ _ _ rfl
      have bz : Below W2.heap.size W2 (W2.alloc (.cells #[.int .i64 ba, .int .i64 bd, .bool bw, .bool bf] 53)) := (Below.refl _ _).alloc (Nat.le_refl _) _
      have t0 : W4.cell? ⟨W2.heap.size, 0, none⟩ = some (.int .i64 ba) := (K4.1 W2.heap.size 0 nz (by simp)).trans (al 0)
      have t1 : W4.cell? ⟨W2.heap.size, 1, none⟩ = some (.int .i64 bd) := (K4.1 W2.heap.size 1 nz (by simp)).trans (al 1)
      have t2 : W4.cell? ⟨W2.heap.size, 2, none⟩ = some (.bool bw) := (K4.1 W2.heap.size 2 nz (by simp)).trans (al 2)
      have t3 : W4.cell? ⟨W2.heap.size, 3, none⟩ = some (.bool bf) := (K4.1 W2.heap.size 3 nz (by simp)).trans (al 3)
      have s5 := ((K4.1 wr.heap.size 5 (by omega) (by simp; omega)).trans (bz.cell (p := ⟨wr.heap.size, 5, none⟩) l7)).trans q5
      have s6 := ((K4.1 wr.heap.size 6 (by omega) (by simp; omega)).trans (bz.cell (p := ⟨wr.heap.size, 6, none⟩) l7)).trans q6
      have s7 := ((K4.1 wr.heap.size 7 (by omega) (by simp; omega)).trans (bz.cell (p := ⟨wr.heap.size, 7, none⟩) l7)).trans q7
      have l8 : W2.heap.size < W4.heap.size := by omega
      have l9 : wr.heap.size < W4.heap.size := by omega
      have m1 : W2.heap.size ≠ W4.heap.size := by omega
      have m2 : W4.heap.size ≠ W2.heap.size := by omega
      have m3 : wr.heap.size ≠ W4.heap.size := by omega
      have m4 : W4.heap.size ≠ wr.heap.size := by omega
      clear T4 K4 al bz CY2 HC2 HD2 HW2 q5 q6 q7 hp2
      go_wp2_with fail
      have RG := mRegs_any (Tn.refl (HD4.out.alloc (o := .cells #[.int .i64 ba, .int .i64 bd, .bool bw, .bool bf] 53)))
      obtain ⟨xA, xX, xY, xS, xP, xPC, xcyc, xj, hx⟩ : ∃ xA xX xY xS xP xPC xcyc xj, s1.regs = ⟨xA, xX, xY, xS, xP, xPC, xcyc, xj⟩ := ⟨_, _, _, _, _, _, _, _, rfl⟩
      rw [hx] at RG
      have HX := Hid.mk' hx
      clear hx
      refine RG.mono ?_
      rintro e W6 ⟨rfl, hb6⟩
      have hb46 : Below W4.heap.size W4 W6 := ((Below.refl _ _).alloc (Nat.le_refl _) _).trans (hb6.mono (by simp))
      have z6 := hb46.size
      have y0 := (hb46.cell (p := ⟨W2.heap.size, 0, none⟩) l8).trans t0
      have y1 := (hb46.cell (p := ⟨W2.heap.size, 1, none⟩) l8).trans t1
      have y2 := (hb46.cell (p := ⟨W2.heap.size, 2, none⟩) l8).trans t2
      have y3 := (hb46.cell (p := ⟨W2.heap.size, 3, none⟩) l8).trans t3
      have y5 := (hb46.cell (p := ⟨wr.heap.size, 5, none⟩) l9).trans s5
      have y6 := (hb46.cell (p := ⟨wr.heap.size, 6, none⟩) l9).trans s6
      have y7 := (hb46.cell (p := ⟨wr.heap.size, 7, none⟩) l9).trans s7
      have o1 : W2.heap.size < W6.heap.size := by omega
      have o2 : wr.heap.size < W6.heap.size := by omega
      have o3 : W2.heap.size ≠ W6.heap.size := by omega
      have o4 : W6.heap.size ≠ W2.heap.size := by omega
      have o5 : wr.heap.size ≠ W6.heap.size := by omega
      have o6 : W6.heap.size ≠ wr.heap.size := by omega
      have HW6 := Hid.mk' (HW4.out.trans (hb46.mono (by omega)))
      have HD6 := Hid.mk' (HD4.out.bel hb46)
      have HE6 := Hid.mk' (HE4.out.bel hb46)
      clear RG hb6 hb46 t0 t1 t2 t3 s5 s6 s7 HW4 HD4 HE4 l8 l9 m1 m2 m3 m4
      simp only [RegI.val]
      by_cases h5 : s.st = 5
      · have ej := jam_stays s h5 pv ((k : Int) % 7 == 3)
        rw [HCV.out] at ej
        injection ej with e1 e2
        injection e2 with e2 e3
        have x1 := HX.out
        rw [e1, HR.out] at x1
        injection x1 with _ _ _ _ _ _ x6 x7
        have jj : rj = true := by have q : (s.st == 5) = rj := congrArg RegI.jam HR.out; rw [← q, h5]; rfl
        subst e3
        subst x6 x7
        subst jj
        clear e1 e2
        go_wp2
        go_ret
        exact ⟨rfl, HW6.out.alloc (by omega) _⟩
      · have eg := go_on s h5 pv ((k : Int) % 7 == 3)
        rw [HCV.out] at eg
        have Z := cycle_ok s n pv ((k : Int) % 7 == 3) HRG.out HT.out.i h5
        have e1 : s.cycle pv ((k : Int) % 7 == 3) = (s1, ⟨ba, bd, bw, bf⟩) := by
          injection eg with e1 e2; injection e2 with e2 e3; exact Prod.ext e1.symm e2.symm
        have e3 : mo = true := by injection eg with _ e2; injection e2
        rw [e1] at Z
        subst e3
        clear eg e1
        have zr : s1.rom = 64000 := Z.rom.trans HT.out.rom
        have xc : xcyc = wrap64 (rcyc + 1) := by
          have q1 : s1.cyc = xcyc := congrArg RegI.cyc HX.out
          have q2 : s.cyc = rcyc := congrArg RegI.cyc HR.out
          rw [← q1, ← q2, ← IntWalk.i64_left]; exact Z.cyc
        have xp : s.bpc = rPC := congrArg RegI.PC HR.out
        have zl : 0 ≤ ba := Z.lo
        have zh : ba < 65536 := Z.hi
        have td : ba.tdiv 256 = ba / 256 := by rw [Int.tdiv_eq_ediv_of_nonneg zl]
        have zb : ba / 256 ≠ 208 → ¬ (bw = true ∧ 64000 ≤ ba) → s1.peek ba = bd := fun h1 h2 => Z.byte h1 (by rw [HT.out.rom]; exact h2)
        have zf : bf = true → bw = false ∧ ba = rPC := fun h => by have q := Z.ft h; rw [xp] at q; exact q
        have HZ := Hid.mk' Z
        have PK := mPeek_any (Tn.refl (HD6.out.alloc (o := .cells #[.int .i64 xA, .int .i64 xX, .int .i64 xY, .int .i64 xS, .int .i64 xP, .int .i64 xPC, .int .i64 xcyc, .bool xj] 37))) ba
        subst xc
        clear Z HX HR HCV HRG HWF h5
        generalize s1.peek ba = at_ at *
        cases bf
        · have s7 : ¬ ((7 : Int) < (n : Int) + 1) := by have := HZ.out.n7; simp at this; omega
          have s8 : n + 1 ≤ 7 := by omega
          have END : Hid ((∃ (k' n' : Nat) (s' : PC), k' ≤ 120 ∧ n' ≤ 7 ∧ Value.int .i64 ((k : Int) + 1) = Value.int .i64 (k' : Int) ∧ Value.int .i64 ((n : Int) + 1) = Value.int .i64 (n' : Int) ∧ TrW w.heap.size w (W6.alloc (.cells #[.int .i64 xA, .int .i64 xX, .int .i64 xY, .int .i64 xS, .int .i64 xP, .int .i64 xPC, .int .i64 (wrap64 (rcyc + 1)), .bool xj] 37)) B C s' n') ∧
              120 - (intOf (Value.int .i64 ((k : Int) + 1))).toNat < 120 - (intOf (Value.int .i64 (k : Int))).toNat) :=
            ⟨⟨k + 1, n + 1, s1, by omega, by omega, by go_num, by go_num, ⟨HD6.out.alloc, HE6.out.alloc, by simpa using HZ.out.nx, zr, HW6.out.alloc (by omega) _⟩⟩, by simp [intOf]; omega⟩
          clear HZ HD6 HE6 HW6 zr
          go_wp2_with fail
          refine PK.mono ?_
          rintro e w7 ⟨rfl, rfl⟩
          clear PK
          cases bw
          · by_cases ht : ba / 256 = 208
            · have hb1 : (ba / 256 == 208) = true := by simpa using ht
              go_wp2
              all_goals exact END.out
            · have hb1 : (ba / 256 == 208) = false := by simpa using ht
              have hz := zb ht (fun q => by cases q.1)
              subst hz
              go_wp2
              all_goals exact END.out
          · by_cases ht : ba / 256 = 208
            · have hb1 : (ba / 256 == 208) = true := by simpa using ht
              go_wp2
              all_goals exact END.out
            · have hb1 : (ba / 256 == 208) = false := by simpa using ht
              by_cases hr : 64000 ≤ ba
              · go_wp2
                all_goals exact END.out
              · have hz := zb ht (fun q => hr q.2)
                subst hz
                go_wp2
                all_goals exact END.out
        · obtain ⟨rfl, rfl⟩ := zf rfl
          have END : Hid ((∃ (k' n' : Nat) (s' : PC), k' ≤ 120 ∧ n' ≤ 7 ∧ Value.int .i64 ((k : Int) + 1) = Value.int .i64 (k' : Int) ∧ Value.int .i64 0 = Value.int .i64 (n' : Int) ∧ TrW w.heap.size w (W6.alloc (.cells #[.int .i64 xA, .int .i64 xX, .int .i64 xY, .int .i64 xS, .int .i64 xP, .int .i64 xPC, .int .i64 (wrap64 (rcyc + 1)), .bool xj] 37)) B C s' n') ∧
              120 - (intOf (Value.int .i64 ((k : Int) + 1))).toNat < 120 - (intOf (Value.int .i64 (k : Int))).toNat) :=
            ⟨⟨k + 1, 0, s1, by omega, by omega, by go_num, by go_num, ⟨HD6.out.alloc, HE6.out.alloc, by simpa using HZ.out.nx, zr, HW6.out.alloc (by omega) _⟩⟩, by simp [intOf]; omega⟩
          clear HZ HD6 HE6 HW6 zr
          go_wp2_with fail
          refine PK.mono ?_
          rintro e w7 ⟨rfl, rfl⟩
          clear PK
          by_cases ht : ba / 256 = 208
          · have hb1 : (ba / 256 == 208) = true := by simpa using ht
            go_wp2
            all_goals exact END.out
          · have hb1 : (ba / 256 == 208) = false := by simpa using ht
            have hz := zb ht (fun q => by cases q.1)
            subst hz
            go_wp2
            all_goals exact END.out
    · have HTk := Hid.mk' hT
      clear hT
      have hcc : pins.length ≤ k ∨ 120 ≤ k := by omega
      clear hc
      rcases hcc with hcc | hcc
      · have h1 : ¬ ((k : Int) < (pins.length : Int)) := by omega
        go_wp2
        go_ret
        exact ⟨rfl, HTk.out.b⟩
      · have h1 : ¬ ((k : Int) < 120) := by omega
        go_wp2
        all_goals (go_ret; exact ⟨rfl, HTk.out.b⟩)

end Go.Proofs.YtcgjliflnnklnaaGreat
