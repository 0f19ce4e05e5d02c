/-
  Two stubs in one world.
-/
import Derived.Test.YtcgjliflnnklnaaGreatQK
import Derived.Test.YtcgjliflnnklnaaGreatQL
namespace Go.Proofs.YtcgjliflnnklnaaGreat
open Go.RowKit

set_option maxRecDepth 100000 in
set_option maxHeartbeats 8000000 in
theorem pieces_any (w : World) (p q r : Option Addr) (cap qcap rcap : Nat) (bs : List UInt8) (m nc : Nat) (cuts : Nat → Int) (hV : ChV w.heap.size w (.slice p bs.length cap) bs) (hcap : bs.length ≤ cap) (hc2 : cap ≤ 140737488355328)
    (hW : ∀ i, i < m → WdAt w q i) (_hm : m ≤ 140737488355328)
    (hC : ∀ i, i < nc → -9223372036854775808 ≤ cuts i ∧ cuts i ≤ 9223372036854775807 ∧ ∃ b off, r = some ⟨b, off, none⟩ ∧ b < w.heap.size ∧ w.cell? ⟨b, off + i, none⟩ = some (.int .i64 (cuts i))) (hnc : nc ≤ 140737488355328) :
    Calls Tryz.prog 13 #[.slice p bs.length cap, .slice q m qcap, .slice r nc rcap] w fun e w' => e = .returned (.bool true) ∧ Below w.heap.size w w' := by
  have KN := known_any w
  have hl2 : (bs.take 200).length ≤ 200 := by rw [List.length_take]; omega
  have HV := hid hV
  have HWd := hid hW
  have HC := hid hC
  have HL := hid hl2
  have Hcap := hid hcap
  have Hc2 := hid hc2
  clear hV hW hC hl2 hcap hc2
  go_enter Tryz.func13, Tryz.ntmps13
  go_wp2_with (first | (go_at_call 16; refine KN.mono ?_; rintro e w1 ⟨rfl, hb1⟩; have HB1 := hid hb1; have l1 := hb1.size; have CF := config_any w1 p cap bs ((HV.out.below hb1).mono l1) Hcap.out Hc2.out; clear hb1 KN))
  refine CF.mono ?_
  rintro e w2 ⟨b2, v1, v2, rfl, hC2, hb2⟩
  have l2 := hb2.size
  have HB2 := hid (HB1.out.trans (hb2.mono l1))
  have NW := newStub_all w2.heap.size (.slice (some ⟨b2, 0, none⟩) 2 2) _ 250 w2 (Nat.le_refl _) hC2 (tr_valid _ HL.out _ _) (by show 2 ≤ 140737488355328; decide) (by
    intro c hc
    unfold trCs at hc
    simp only [List.mem_cons, List.not_mem_nil, or_false] at hc
    rcases hc with rfl | rfl
    · show (bs.take 200).length ≤ _; have := HL.out; omega
    · show 6 ≤ 140737488355328; decide)
  clear CF hC2 hb2 HB1
  go_wp2_with fail
  refine NW.mono ?_
  rintro e w3 ⟨A, RA, hA, rfl, hC3, hZ3, hb3⟩
  have l3 := hb3.size
  have HB3 := hid (HB2.out.trans (hb3.mono (by omega)))
  have HSA : Hid (Stb w3 A (trSB (bs.take 200)) 0) := Stb.fresh hC3 hZ3
  have CF := config_any w3 p cap bs ((HV.out.below HB3.out).mono (by omega)) Hcap.out Hc2.out
  clear NW hC3 hb3 HB2 hZ3
  go_wp2_with fail
  refine CF.mono ?_
  rintro e w4 ⟨b4, v3, v4, rfl, hC4, hb4⟩
  have l4 := hb4.size
  have HB4 := hid (HB3.out.trans (hb4.mono (by omega)))
  have HSA4 := hid (HSA.out.bel hb4)
  have lA := HSA.out.lt
  have NW := newStub_all w4.heap.size (.slice (some ⟨b4, 0, none⟩) 2 2) _ 250 w4 (Nat.le_refl _) hC4 (tr_valid _ HL.out _ _) (by show 2 ≤ 140737488355328; decide) (by
    intro c hc
    unfold trCs at hc
    simp only [List.mem_cons, List.not_mem_nil, or_false] at hc
    rcases hc with rfl | rfl
    · show (bs.take 200).length ≤ _; have := HL.out; omega
    · show 6 ≤ 140737488355328; decide)
  clear CF hC4 hb4 HB3 HSA
  go_wp2_with fail
  refine NW.mono ?_
  rintro e w5 ⟨B, RB, hB, rfl, hC5, hZ5, hb5⟩
  have HSA5 := hid (HSA4.out.bel hb5)
  have HSB5 : Hid (Stb w5 B (trSB (bs.take 200)) 0) := Stb.fresh hC5 hZ5
  have HB5 := hid (HB4.out.trans (hb5.mono (by omega)))
  have nAB : A ≠ B := by omega
  have nA : w.heap.size ≤ A := by omega
  have nB : w.heap.size ≤ B := by omega
  have z5 := HB5.out.size
  clear NW hC5 hb5 hZ5 HB4 HSA4 l1 l2 l3 l4 lA hA hB
  have hS0 : (trSB (bs.take 200)).rp.length ≤ 80 := by show 0 ≤ 80; decide
  generalize trSB (bs.take 200) = S0 at *
  go_wp2_with fail
  go_loopw [12, 13] (fun a i wr => ∃ (k : Nat) (X : ByteArray), k ≤ 30 ∧ i = .int .i64 k ∧ a = .string X ∧ X.size ≤ 200 * k ∧ Below w5.heap.size w5 wr) (fun _ i _ => 30 - (intOf i).toNat)
  case atStart => exact ⟨0, ⟨#[]⟩, by omega, rfl, rfl, by show 0 ≤ 0; omega, Below.refl _ _⟩
  case round =>
    obtain ⟨k, X, hk, rfl, rfl, hX, hb⟩ := hrel
    by_cases hc : k < m ∧ k < 30
    · obtain ⟨c1, c2⟩ := hc
      obtain ⟨b, off, kd, n, wy, rfl, hbl, q0, q1, q2, b1, b2, b3, b4, -⟩ := (HWd.out k c1).h
      have bel := HB5.out.trans (hb.mono z5)
      have q0 := (bel.cell (p := ⟨b, off + k * 3, none⟩) hbl).trans q0
      have q1 := (bel.cell (p := ⟨b, off + k * 3 + 1, none⟩) hbl).trans q1
      have q2 := (bel.cell (p := ⟨b, off + k * 3 + 2, none⟩) hbl).trans q2
      have BD := body_any kd n wy b1 b2 b3 b4
      have HBL := hid hb
      have k1 : (k : Int) < (m : Int) := by omega
      have k2 : (k : Int) < 30 := by omega
      obtain ⟨kb, hk6, hk7⟩ : ∃ kb : UInt8, (k : Int).tmod 256 = (kb.toNat : Int) ∧ (k : Int) % 256 = (kb.toNat : Int) := ⟨UInt8.ofNat k, by rw [Int.tmod_eq_emod_of_nonneg (by omega), UInt8.toNat_ofNat_of_lt' (by show k < 256; omega)]; omega, by rw [UInt8.toNat_ofNat_of_lt' (by show k < 256; omega)]; omega⟩
      clear hb bel
      go_wp2_with fail
      refine (BD _).mono ?_
      rintro e w6 ⟨bd, rfl, hbd, hb6⟩
      have HB6 := hid (HBL.out.trans (hb6.mono HBL.out.size))
      have PK := fun w => packet_any kb bd w (by omega)
      have HFL : Hid ((frameOf kb bd.data.toList).length ≤ 200) := frame_len _ _ (by show bd.data.toList.length ≤ 80; rw [Array.length_toList]; show bd.size ≤ 80; omega)
      clear hb6 BD q0 q1 q2
      go_wp2_with fail
      refine (PK _).mono ?_
      rintro e w7 ⟨rfl, hb7⟩
      have HB7 := hid (HB6.out.trans (hb7.mono HB6.out.size))
      have hFs : (⟨(frameOf kb bd.data.toList).toArray⟩ : ByteArray).size ≤ 200 := by show (frameOf kb bd.data.toList).toArray.size ≤ 200; simpa using HFL.out
      generalize (⟨(frameOf kb bd.data.toList).toArray⟩ : ByteArray) = F at *
      have hX6 : X.size ≤ 6000 := by omega
      have hs8 : X.size + F.size ≤ 9223372036854775807 := by omega
      have hs9 : (X.size : Int) + (F.size : Int) ≤ 9223372036854775807 := by omega
      clear hb7 PK HFL
      go_wp2
      go_roundw
      case rel => exact ⟨k + 1, _, by omega, by go_num, rfl, by rw [ByteArray.size_append]; omega, HB7.out⟩
      case measure => simp [intOf]; omega
    · have hcc : m ≤ k ∨ (k < m ∧ 30 ≤ k) := by omega
      have bel := HB5.out.trans (hb.mono z5)
      have HBr := hid bel
      have HSAr := hid (HSA5.out.bel hb)
      have HSBr := hid (HSB5.out.bel hb)
      have hX6 : X.size ≤ 6000 := by omega
      clear hb bel hc HB5 HSA5 HSB5
      rcases hcc with hcc | ⟨hcc0, hcc⟩
      · have h1 : ¬ ((k : Int) < (m : Int)) := by omega
        have hby := to_bytesS wr X
        go_wp2_with fail
        have HBa : Hid (Below wr.heap.size wr ((wr.alloc (.cells (bytesRow X (grownCap wr X.size 0 5)) 5 ((bytesRow X (grownCap wr X.size 0 5)).size, (bytesRow X (grownCap wr X.size 0 5)).size + 1))).drew)) := bl_drew (bl_alloc (Below.refl _ _))
        have by8 := bytes_newS wr X (grownCap wr X.size 0 5) ((bytesRow X (grownCap wr X.size 0 5)).size, (bytesRow X (grownCap wr X.size 0 5)).size + 1)
        have SB8 := HSBr.out.bel HBa.out
        have SA8 := hid (HSAr.out.bel HBa.out)
        have lBr := HSBr.out.lt
        have z8 := HBa.out.size
        have HB8 := hid (HBr.out.trans (HBa.out.mono HBr.out.size))
        clear hby
        generalize (wr.alloc (.cells (bytesRow X (grownCap wr X.size 0 5)) 5 ((bytesRow X (grownCap wr X.size 0 5)).size, (bytesRow X (grownCap wr X.size 0 5)).size + 1))).drew = W8 at *
        have hXl : X.data.toList.length = X.size := by simp
        refine (SB8.feed (by decide) (by decide) wr.heap.size 0 (grownCap wr X.size 0 5) X.size X.data.toList hXl (by omega) by8 (by omega)).mono ?_
        rintro e w9 ⟨v9, rfl, o9, sB9, g9⟩
        have hcv := to_string_s o9
        have HSA9 := hid (SA8.out.other g9 nAB)
        have HB9 := hid (below_grown HB8.out g9 nB (by have := HB8.out.size; omega))
        obtain ⟨WT, hWT⟩ : ∃ WT, Hid ((S0.feed X.data.toList).2 = WT) := ⟨_, rfl⟩
        rw [hWT.out] at hcv
        rw [hWT.out] at o9
        clear o9 sB9 g9 by8 SB8 SA8 HSAr HSBr HBr HBa HB8 z8
        go_wp2_with fail
        go_loopw [12, 15, 16] (fun a g i wr => ∃ (j : Nat) (Y Gt : ByteArray) (dn : List UInt8), j ≤ nc ∧ i = .int .i64 j ∧ a = .string Y ∧ g = .string Gt ∧ Y.size ≤ 6000 ∧ Hid (X.data.toList = dn ++ Y.data.toList ∧ Gt.data.toList = (S0.feed dn).2 ∧ Stb wr A (S0.feed dn).1 (1000000 * dn.length) ∧ Below w.heap.size w wr)) (fun _ _ i _ => nc - (intOf i).toNat)
        case atStart => exact ⟨0, X, ⟨#[]⟩, [], by omega, rfl, rfl, rfl, hX6, ⟨rfl, rfl, HSA9.out, HB9.out⟩⟩
        case round =>
          obtain ⟨j, Y, Gt, dn, hj, rfl, rfl, rfl, hY6, H⟩ := hrel
          clear HSA9 HB9
          have hYl : Y.data.toList.length = Y.size := by simp
          have hdl : dn.length ≤ 6000 := by have q := congrArg List.length H.out.1; rw [List.length_append] at q; omega
          have hGs : Gt.size ≤ 1206000 := by
            have q : Gt.data.toList.length ≤ 201 * dn.length := by rw [H.out.2.1]; exact feed_len S0 dn hS0
            have e : Gt.data.toList.length = Gt.size := by simp
            omega
          have lA := H.out.2.2.1.lt
          have zr := H.out.2.2.2.size
          by_cases hc : j < nc ∧ 0 < Y.size
          · obtain ⟨c1, c2⟩ := hc
            obtain ⟨lo, hi9, b, off, rfl, hbl, hcell⟩ := HC.out j c1
            have q0 := (H.out.2.2.2.cell (p := ⟨b, off + j, none⟩) hbl).trans hcell
            have PKE := pickE_any (cuts j) ((Y.size : Int) + 1) (by omega) (by omega) lo hi9
            have pr := pickV_r (cuts j) ((Y.size : Int) + 1) (by omega)
            obtain ⟨kk, hkk⟩ : ∃ kk : Nat, pickV (cuts j) ((Y.size : Int) + 1) = kk := ⟨(pickV (cuts j) ((Y.size : Int) + 1)).toNat, by omega⟩
            simp only [hkk] at PKE pr
            have k1 : (j : Int) < (nc : Int) := by omega
            have k2 : (0 : Int) < (Y.size : Int) := by omega
            have k3 : kk ≤ Y.size := by omega
            have k4 : (kk : Int) ≤ (Y.size : Int) := by omega
            clear hkk pr hcell lo hi9
            go_wp2_with fail
            refine (PKE _).mono ?_
            rintro e wp ⟨rfl, hwp⟩
            have hwp2 := hwp.symm
            subst hwp2
            clear hwp PKE
            have hby := to_bytesS wr (Y.extract 0 kk)
            go_wp2_with fail
            have HBa : Below wr.heap.size wr ((wr.alloc (.cells (bytesRow (Y.extract 0 kk) (grownCap wr kk 0 5)) 5 ((bytesRow (Y.extract 0 kk) (grownCap wr kk 0 5)).size, (bytesRow (Y.extract 0 kk) (grownCap wr kk 0 5)).size + 1))).drew) := bl_drew (bl_alloc (Below.refl _ _))
            have by10 := bytes_newS wr (Y.extract 0 kk) (grownCap wr kk 0 5) ((bytesRow (Y.extract 0 kk) (grownCap wr kk 0 5)).size, (bytesRow (Y.extract 0 kk) (grownCap wr kk 0 5)).size + 1)
            have SA10 := H.out.2.2.1.bel HBa
            have HB10 := hid (H.out.2.2.2.trans (HBa.mono zr))
            clear hby HBa
            generalize (wr.alloc (.cells (bytesRow (Y.extract 0 kk) (grownCap wr kk 0 5)) 5 ((bytesRow (Y.extract 0 kk) (grownCap wr kk 0 5)).size, (bytesRow (Y.extract 0 kk) (grownCap wr kk 0 5)).size + 1))).drew = W10 at *
            have hel : (Y.extract 0 kk).data.toList.length = kk := by rw [ext_takeS, List.length_take, hYl]; omega
            have hr10 : (S0.feed dn).1.rp.length ≤ 80 := by obtain ⟨_, _, _, _, q⟩ := SA10; exact q
            have hRl := feed_len (S0.feed dn).1 (Y.extract 0 kk).data.toList hr10
            rw [hel] at hRl
            refine (SA10.feed (by omega) (by omega) wr.heap.size 0 (grownCap wr kk 0 5) kk (Y.extract 0 kk).data.toList hel (by omega) by10 (by omega)).mono ?_
            rintro e w11 ⟨v11, rfl, o11, sA11, g11⟩
            have hcv2 := to_string_s o11
            have HB11 := hid (below_grown HB10.out g11 nA (by have := HB10.out.size; omega))
            have HFA := hid (feed_append S0 dn (Y.extract 0 kk).data.toList)
            have HSA11 := hid sA11
            generalize hRR : (S0.feed dn).1.feed (Y.extract 0 kk).data.toList = RR at *
            obtain ⟨S11, R11⟩ := RR
            have hRs : (⟨R11.toArray⟩ : ByteArray).size ≤ 1206000 := by show R11.toArray.size ≤ 1206000; have q : R11.length ≤ 201 * kk := hRl; simp; omega
            have HRd : Hid ((⟨R11.toArray⟩ : ByteArray).data.toList = R11) := by show _ = _; simp
            have hcv2 : (convert 35 9 v11).run Tryz.prog w11 = .ok (.string ⟨R11.toArray⟩) w11 := hcv2
            generalize (⟨R11.toArray⟩ : ByteArray) = Rb at *
            have hs9 : (Gt.size : Int) + (Rb.size : Int) ≤ 9223372036854775807 := by omega
            have hs8 : Gt.size + Rb.size ≤ 9223372036854775807 := by omega
            clear o11 sA11 g11 SA10 by10 HB10 hRR hr10
            go_wp2
            go_roundw
            case rel =>
              refine ⟨j + 1, Y.extract kk Y.size, Gt ++ Rb, dn ++ (Y.extract 0 kk).data.toList, by omega, by go_num, rfl, rfl, by rw [ByteArray.size_extract]; omega, ⟨?_, ?_, ?_, HB11.out⟩⟩
              · rw [ext_takeS, ext_dropS, List.append_assoc, List.take_append_drop]; exact H.out.1
              · rw [HFA.out, ba_app, H.out.2.1, HRd.out]
              · rw [HFA.out, List.length_append, hel]; exact HSA11.out.mono (by omega)
            case measure => simp [intOf]; omega
          · have hcc2 : nc ≤ j ∨ (j < nc ∧ Y.size = 0) := by omega
            clear hc
            rcases hcc2 with hcc2 | ⟨hcc2, hcc3⟩
            · have h2 : ¬ ((j : Int) < (nc : Int)) := by omega
              have hby := to_bytesS wr Y
              go_wp2_with fail
              have HBa : Below wr.heap.size wr ((wr.alloc (.cells (bytesRow Y (grownCap wr Y.size 0 5)) 5 ((bytesRow Y (grownCap wr Y.size 0 5)).size, (bytesRow Y (grownCap wr Y.size 0 5)).size + 1))).drew) := bl_drew (bl_alloc (Below.refl _ _))
              have by10 := bytes_newS wr Y (grownCap wr Y.size 0 5) ((bytesRow Y (grownCap wr Y.size 0 5)).size, (bytesRow Y (grownCap wr Y.size 0 5)).size + 1)
              have SA10 := H.out.2.2.1.bel HBa
              have HB10 := hid (H.out.2.2.2.trans (HBa.mono zr))
              clear hby HBa
              generalize (wr.alloc (.cells (bytesRow Y (grownCap wr Y.size 0 5)) 5 ((bytesRow Y (grownCap wr Y.size 0 5)).size, (bytesRow Y (grownCap wr Y.size 0 5)).size + 1))).drew = W10 at *
              have hr10 : (S0.feed dn).1.rp.length ≤ 80 := by obtain ⟨_, _, _, _, q⟩ := SA10; exact q
              have hRl := feed_len (S0.feed dn).1 Y.data.toList hr10
              rw [hYl] at hRl
              refine (SA10.feed (by omega) (by omega) wr.heap.size 0 (grownCap wr Y.size 0 5) Y.size Y.data.toList hYl (by omega) by10 (by omega)).mono ?_
              rintro e w11 ⟨v11, rfl, o11, sA11, g11⟩
              have hcv2 := to_string_s o11
              have HB11 := hid (below_grown HB10.out g11 nA (by have := HB10.out.size; omega))
              have HFA := hid (feed_append S0 dn Y.data.toList)
              rw [← H.out.1] at HFA
              generalize hRR : (S0.feed dn).1.feed Y.data.toList = RR at *
              obtain ⟨S11, R11⟩ := RR
              have hRs : (⟨R11.toArray⟩ : ByteArray).size ≤ 1206000 := by show R11.toArray.size ≤ 1206000; have q : R11.length ≤ 201 * Y.size := hRl; simp; omega
              have hcv2 : (convert 35 9 v11).run Tryz.prog w11 = .ok (.string ⟨R11.toArray⟩) w11 := hcv2
              have HE : Gt ++ (⟨R11.toArray⟩ : ByteArray) = ⟨WT.toArray⟩ := ba_ext (by
                rw [ba_app, H.out.2.1]
                show (S0.feed dn).2 ++ R11.toArray.toList = WT.toArray.toList
                rw [← hWT.out, HFA.out])
              have HE2 := hid HE
              generalize (⟨R11.toArray⟩ : ByteArray) = Rb at *
              have hs9 : (Gt.size : Int) + (Rb.size : Int) ≤ 9223372036854775807 := by omega
              have hs8 : Gt.size + Rb.size ≤ 9223372036854775807 := by omega
              clear o11 sA11 g11 SA10 by10 HB10 hRR hr10
              go_wp2
              go_ret
              exact ⟨rfl, HB11.out⟩
            · have h2 : (j : Int) < (nc : Int) := by omega
              have h3 : ¬ ((0 : Int) < (Y.size : Int)) := by omega
              clear hcc3
              have hby := to_bytesS wr Y
              go_wp2_with fail
              have HBa : Below wr.heap.size wr ((wr.alloc (.cells (bytesRow Y (grownCap wr Y.size 0 5)) 5 ((bytesRow Y (grownCap wr Y.size 0 5)).size, (bytesRow Y (grownCap wr Y.size 0 5)).size + 1))).drew) := bl_drew (bl_alloc (Below.refl _ _))
              have by10 := bytes_newS wr Y (grownCap wr Y.size 0 5) ((bytesRow Y (grownCap wr Y.size 0 5)).size, (bytesRow Y (grownCap wr Y.size 0 5)).size + 1)
              have SA10 := H.out.2.2.1.bel HBa
              have HB10 := hid (H.out.2.2.2.trans (HBa.mono zr))
              clear hby HBa
              generalize (wr.alloc (.cells (bytesRow Y (grownCap wr Y.size 0 5)) 5 ((bytesRow Y (grownCap wr Y.size 0 5)).size, (bytesRow Y (grownCap wr Y.size 0 5)).size + 1))).drew = W10 at *
              have hr10 : (S0.feed dn).1.rp.length ≤ 80 := by obtain ⟨_, _, _, _, q⟩ := SA10; exact q
              have hRl := feed_len (S0.feed dn).1 Y.data.toList hr10
              rw [hYl] at hRl
              refine (SA10.feed (by omega) (by omega) wr.heap.size 0 (grownCap wr Y.size 0 5) Y.size Y.data.toList hYl (by omega) by10 (by omega)).mono ?_
              rintro e w11 ⟨v11, rfl, o11, sA11, g11⟩
              have hcv2 := to_string_s o11
              have HB11 := hid (below_grown HB10.out g11 nA (by have := HB10.out.size; omega))
              have HFA := hid (feed_append S0 dn Y.data.toList)
              rw [← H.out.1] at HFA
              generalize hRR : (S0.feed dn).1.feed Y.data.toList = RR at *
              obtain ⟨S11, R11⟩ := RR
              have hRs : (⟨R11.toArray⟩ : ByteArray).size ≤ 1206000 := by show R11.toArray.size ≤ 1206000; have q : R11.length ≤ 201 * Y.size := hRl; simp; omega
              have hcv2 : (convert 35 9 v11).run Tryz.prog w11 = .ok (.string ⟨R11.toArray⟩) w11 := hcv2
              have HE : Gt ++ (⟨R11.toArray⟩ : ByteArray) = ⟨WT.toArray⟩ := ba_ext (by
                rw [ba_app, H.out.2.1]
                show (S0.feed dn).2 ++ R11.toArray.toList = WT.toArray.toList
                rw [← hWT.out, HFA.out])
              have HE2 := hid HE
              generalize (⟨R11.toArray⟩ : ByteArray) = Rb at *
              have hs9 : (Gt.size : Int) + (Rb.size : Int) ≤ 9223372036854775807 := by omega
              have hs8 : Gt.size + Rb.size ≤ 9223372036854775807 := by omega
              clear o11 sA11 g11 SA10 by10 HB10 hRR hr10
              go_wp2
              go_ret
              exact ⟨rfl, HB11.out⟩
      · have h0 : (k : Int) < (m : Int) := by omega
        have h1 : ¬ ((k : Int) < 30) := by omega
        have hby := to_bytesS wr X
        go_wp2_with fail
        have HBa : Hid (Below wr.heap.size wr ((wr.alloc (.cells (bytesRow X (grownCap wr X.size 0 5)) 5 ((bytesRow X (grownCap wr X.size 0 5)).size, (bytesRow X (grownCap wr X.size 0 5)).size + 1))).drew)) := bl_drew (bl_alloc (Below.refl _ _))
        have by8 := bytes_newS wr X (grownCap wr X.size 0 5) ((bytesRow X (grownCap wr X.size 0 5)).size, (bytesRow X (grownCap wr X.size 0 5)).size + 1)
        have SB8 := HSBr.out.bel HBa.out
        have SA8 := hid (HSAr.out.bel HBa.out)
        have lBr := HSBr.out.lt
        have z8 := HBa.out.size
        have HB8 := hid (HBr.out.trans (HBa.out.mono HBr.out.size))
        clear hby
        generalize (wr.alloc (.cells (bytesRow X (grownCap wr X.size 0 5)) 5 ((bytesRow X (grownCap wr X.size 0 5)).size, (bytesRow X (grownCap wr X.size 0 5)).size + 1))).drew = W8 at *
        have hXl : X.data.toList.length = X.size := by simp
        refine (SB8.feed (by decide) (by decide) wr.heap.size 0 (grownCap wr X.size 0 5) X.size X.data.toList hXl (by omega) by8 (by omega)).mono ?_
        rintro e w9 ⟨v9, rfl, o9, sB9, g9⟩
        have hcv := to_string_s o9
        have HSA9 := hid (SA8.out.other g9 nAB)
        have HB9 := hid (below_grown HB8.out g9 nB (by have := HB8.out.size; omega))
        obtain ⟨WT, hWT⟩ : ∃ WT, Hid ((S0.feed X.data.toList).2 = WT) := ⟨_, rfl⟩
        rw [hWT.out] at hcv
        rw [hWT.out] at o9
        clear o9 sB9 g9 by8 SB8 SA8 HSAr HSBr HBr HBa HB8 z8
        go_wp2_with fail
        go_loopw [12, 15, 16] (fun a g i wr => ∃ (j : Nat) (Y Gt : ByteArray) (dn : List UInt8), j ≤ nc ∧ i = .int .i64 j ∧ a = .string Y ∧ g = .string Gt ∧ Y.size ≤ 6000 ∧ Hid (X.data.toList = dn ++ Y.data.toList ∧ Gt.data.toList = (S0.feed dn).2 ∧ Stb wr A (S0.feed dn).1 (1000000 * dn.length) ∧ Below w.heap.size w wr)) (fun _ _ i _ => nc - (intOf i).toNat)
        case atStart => exact ⟨0, X, ⟨#[]⟩, [], by omega, rfl, rfl, rfl, hX6, ⟨rfl, rfl, HSA9.out, HB9.out⟩⟩
        case round =>
          obtain ⟨j, Y, Gt, dn, hj, rfl, rfl, rfl, hY6, H⟩ := hrel
          clear HSA9 HB9
          have hYl : Y.data.toList.length = Y.size := by simp
          have hdl : dn.length ≤ 6000 := by have q := congrArg List.length H.out.1; rw [List.length_append] at q; omega
          have hGs : Gt.size ≤ 1206000 := by
            have q : Gt.data.toList.length ≤ 201 * dn.length := by rw [H.out.2.1]; exact feed_len S0 dn hS0
            have e : Gt.data.toList.length = Gt.size := by simp
            omega
          have lA := H.out.2.2.1.lt
          have zr := H.out.2.2.2.size
          by_cases hc : j < nc ∧ 0 < Y.size
          · obtain ⟨c1, c2⟩ := hc
            obtain ⟨lo, hi9, b, off, rfl, hbl, hcell⟩ := HC.out j c1
            have q0 := (H.out.2.2.2.cell (p := ⟨b, off + j, none⟩) hbl).trans hcell
            have PKE := pickE_any (cuts j) ((Y.size : Int) + 1) (by omega) (by omega) lo hi9
            have pr := pickV_r (cuts j) ((Y.size : Int) + 1) (by omega)
            obtain ⟨kk, hkk⟩ : ∃ kk : Nat, pickV (cuts j) ((Y.size : Int) + 1) = kk := ⟨(pickV (cuts j) ((Y.size : Int) + 1)).toNat, by omega⟩
            simp only [hkk] at PKE pr
            have k1 : (j : Int) < (nc : Int) := by omega
            have k2 : (0 : Int) < (Y.size : Int) := by omega
            have k3 : kk ≤ Y.size := by omega
            have k4 : (kk : Int) ≤ (Y.size : Int) := by omega
            clear hkk pr hcell lo hi9
            go_wp2_with fail
            refine (PKE _).mono ?_
            rintro e wp ⟨rfl, hwp⟩
            have hwp2 := hwp.symm
            subst hwp2
            clear hwp PKE
            have hby := to_bytesS wr (Y.extract 0 kk)
            go_wp2_with fail
            have HBa : Below wr.heap.size wr ((wr.alloc (.cells (bytesRow (Y.extract 0 kk) (grownCap wr kk 0 5)) 5 ((bytesRow (Y.extract 0 kk) (grownCap wr kk 0 5)).size, (bytesRow (Y.extract 0 kk) (grownCap wr kk 0 5)).size + 1))).drew) := bl_drew (bl_alloc (Below.refl _ _))
            have by10 := bytes_newS wr (Y.extract 0 kk) (grownCap wr kk 0 5) ((bytesRow (Y.extract 0 kk) (grownCap wr kk 0 5)).size, (bytesRow (Y.extract 0 kk) (grownCap wr kk 0 5)).size + 1)
            have SA10 := H.out.2.2.1.bel HBa
            have HB10 := hid (H.out.2.2.2.trans (HBa.mono zr))
            clear hby HBa
            generalize (wr.alloc (.cells (bytesRow (Y.extract 0 kk) (grownCap wr kk 0 5)) 5 ((bytesRow (Y.extract 0 kk) (grownCap wr kk 0 5)).size, (bytesRow (Y.extract 0 kk) (grownCap wr kk 0 5)).size + 1))).drew = W10 at *
            have hel : (Y.extract 0 kk).data.toList.length = kk := by rw [ext_takeS, List.length_take, hYl]; omega
            have hr10 : (S0.feed dn).1.rp.length ≤ 80 := by obtain ⟨_, _, _, _, q⟩ := SA10; exact q
            have hRl := feed_len (S0.feed dn).1 (Y.extract 0 kk).data.toList hr10
            rw [hel] at hRl
            refine (SA10.feed (by omega) (by omega) wr.heap.size 0 (grownCap wr kk 0 5) kk (Y.extract 0 kk).data.toList hel (by omega) by10 (by omega)).mono ?_
            rintro e w11 ⟨v11, rfl, o11, sA11, g11⟩
            have hcv2 := to_string_s o11
            have HB11 := hid (below_grown HB10.out g11 nA (by have := HB10.out.size; omega))
            have HFA := hid (feed_append S0 dn (Y.extract 0 kk).data.toList)
            have HSA11 := hid sA11
            generalize hRR : (S0.feed dn).1.feed (Y.extract 0 kk).data.toList = RR at *
            obtain ⟨S11, R11⟩ := RR
            have hRs : (⟨R11.toArray⟩ : ByteArray).size ≤ 1206000 := by show R11.toArray.size ≤ 1206000; have q : R11.length ≤ 201 * kk := hRl; simp; omega
            have HRd : Hid ((⟨R11.toArray⟩ : ByteArray).data.toList = R11) := by show _ = _; simp
            have hcv2 : (convert 35 9 v11).run Tryz.prog w11 = .ok (.string ⟨R11.toArray⟩) w11 := hcv2
            generalize (⟨R11.toArray⟩ : ByteArray) = Rb at *
            have hs9 : (Gt.size : Int) + (Rb.size : Int) ≤ 9223372036854775807 := by omega
            have hs8 : Gt.size + Rb.size ≤ 9223372036854775807 := by omega
            clear o11 sA11 g11 SA10 by10 HB10 hRR hr10
            go_wp2
            go_roundw
            case rel =>
              refine ⟨j + 1, Y.extract kk Y.size, Gt ++ Rb, dn ++ (Y.extract 0 kk).data.toList, by omega, by go_num, rfl, rfl, by rw [ByteArray.size_extract]; omega, ⟨?_, ?_, ?_, HB11.out⟩⟩
              · rw [ext_takeS, ext_dropS, List.append_assoc, List.take_append_drop]; exact H.out.1
              · rw [HFA.out, ba_app, H.out.2.1, HRd.out]
              · rw [HFA.out, List.length_append, hel]; exact HSA11.out.mono (by omega)
            case measure => simp [intOf]; omega
          · have hcc2 : nc ≤ j ∨ (j < nc ∧ Y.size = 0) := by omega
            clear hc
            rcases hcc2 with hcc2 | ⟨hcc2, hcc3⟩
            · have h2 : ¬ ((j : Int) < (nc : Int)) := by omega
              have hby := to_bytesS wr Y
              go_wp2_with fail
              have HBa : Below wr.heap.size wr ((wr.alloc (.cells (bytesRow Y (grownCap wr Y.size 0 5)) 5 ((bytesRow Y (grownCap wr Y.size 0 5)).size, (bytesRow Y (grownCap wr Y.size 0 5)).size + 1))).drew) := bl_drew (bl_alloc (Below.refl _ _))
              have by10 := bytes_newS wr Y (grownCap wr Y.size 0 5) ((bytesRow Y (grownCap wr Y.size 0 5)).size, (bytesRow Y (grownCap wr Y.size 0 5)).size + 1)
              have SA10 := H.out.2.2.1.bel HBa
              have HB10 := hid (H.out.2.2.2.trans (HBa.mono zr))
              clear hby HBa
              generalize (wr.alloc (.cells (bytesRow Y (grownCap wr Y.size 0 5)) 5 ((bytesRow Y (grownCap wr Y.size 0 5)).size, (bytesRow Y (grownCap wr Y.size 0 5)).size + 1))).drew = W10 at *
              have hr10 : (S0.feed dn).1.rp.length ≤ 80 := by obtain ⟨_, _, _, _, q⟩ := SA10; exact q
              have hRl := feed_len (S0.feed dn).1 Y.data.toList hr10
              rw [hYl] at hRl
              refine (SA10.feed (by omega) (by omega) wr.heap.size 0 (grownCap wr Y.size 0 5) Y.size Y.data.toList hYl (by omega) by10 (by omega)).mono ?_
              rintro e w11 ⟨v11, rfl, o11, sA11, g11⟩
              have hcv2 := to_string_s o11
              have HB11 := hid (below_grown HB10.out g11 nA (by have := HB10.out.size; omega))
              have HFA := hid (feed_append S0 dn Y.data.toList)
              rw [← H.out.1] at HFA
              generalize hRR : (S0.feed dn).1.feed Y.data.toList = RR at *
              obtain ⟨S11, R11⟩ := RR
              have hRs : (⟨R11.toArray⟩ : ByteArray).size ≤ 1206000 := by show R11.toArray.size ≤ 1206000; have q : R11.length ≤ 201 * Y.size := hRl; simp; omega
              have hcv2 : (convert 35 9 v11).run Tryz.prog w11 = .ok (.string ⟨R11.toArray⟩) w11 := hcv2
              have HE : Gt ++ (⟨R11.toArray⟩ : ByteArray) = ⟨WT.toArray⟩ := ba_ext (by
                rw [ba_app, H.out.2.1]
                show (S0.feed dn).2 ++ R11.toArray.toList = WT.toArray.toList
                rw [← hWT.out, HFA.out])
              have HE2 := hid HE
              generalize (⟨R11.toArray⟩ : ByteArray) = Rb at *
              have hs9 : (Gt.size : Int) + (Rb.size : Int) ≤ 9223372036854775807 := by omega
              have hs8 : Gt.size + Rb.size ≤ 9223372036854775807 := by omega
              clear o11 sA11 g11 SA10 by10 HB10 hRR hr10
              go_wp2
              go_ret
              exact ⟨rfl, HB11.out⟩
            · have h2 : (j : Int) < (nc : Int) := by omega
              have h3 : ¬ ((0 : Int) < (Y.size : Int)) := by omega
              clear hcc3
              have hby := to_bytesS wr Y
              go_wp2_with fail
              have HBa : Below wr.heap.size wr ((wr.alloc (.cells (bytesRow Y (grownCap wr Y.size 0 5)) 5 ((bytesRow Y (grownCap wr Y.size 0 5)).size, (bytesRow Y (grownCap wr Y.size 0 5)).size + 1))).drew) := bl_drew (bl_alloc (Below.refl _ _))
              have by10 := bytes_newS wr Y (grownCap wr Y.size 0 5) ((bytesRow Y (grownCap wr Y.size 0 5)).size, (bytesRow Y (grownCap wr Y.size 0 5)).size + 1)
              have SA10 := H.out.2.2.1.bel HBa
              have HB10 := hid (H.out.2.2.2.trans (HBa.mono zr))
              clear hby HBa
              generalize (wr.alloc (.cells (bytesRow Y (grownCap wr Y.size 0 5)) 5 ((bytesRow Y (grownCap wr Y.size 0 5)).size, (bytesRow Y (grownCap wr Y.size 0 5)).size + 1))).drew = W10 at *
              have hr10 : (S0.feed dn).1.rp.length ≤ 80 := by obtain ⟨_, _, _, _, q⟩ := SA10; exact q
              have hRl := feed_len (S0.feed dn).1 Y.data.toList hr10
              rw [hYl] at hRl
              refine (SA10.feed (by omega) (by omega) wr.heap.size 0 (grownCap wr Y.size 0 5) Y.size Y.data.toList hYl (by omega) by10 (by omega)).mono ?_
              rintro e w11 ⟨v11, rfl, o11, sA11, g11⟩
              have hcv2 := to_string_s o11
              have HB11 := hid (below_grown HB10.out g11 nA (by have := HB10.out.size; omega))
              have HFA := hid (feed_append S0 dn Y.data.toList)
              rw [← H.out.1] at HFA
              generalize hRR : (S0.feed dn).1.feed Y.data.toList = RR at *
              obtain ⟨S11, R11⟩ := RR
              have hRs : (⟨R11.toArray⟩ : ByteArray).size ≤ 1206000 := by show R11.toArray.size ≤ 1206000; have q : R11.length ≤ 201 * Y.size := hRl; simp; omega
              have hcv2 : (convert 35 9 v11).run Tryz.prog w11 = .ok (.string ⟨R11.toArray⟩) w11 := hcv2
              have HE : Gt ++ (⟨R11.toArray⟩ : ByteArray) = ⟨WT.toArray⟩ := ba_ext (by
                rw [ba_app, H.out.2.1]
                show (S0.feed dn).2 ++ R11.toArray.toList = WT.toArray.toList
                rw [← hWT.out, HFA.out])
              have HE2 := hid HE
              generalize (⟨R11.toArray⟩ : ByteArray) = Rb at *
              have hs9 : (Gt.size : Int) + (Rb.size : Int) ≤ 9223372036854775807 := by omega
              have hs8 : Gt.size + Rb.size ≤ 9223372036854775807 := by omega
              clear o11 sA11 g11 SA10 by10 HB10 hRR hr10
              go_wp2
              go_ret
              exact ⟨rfl, HB11.out⟩

end Go.Proofs.YtcgjliflnnklnaaGreat
