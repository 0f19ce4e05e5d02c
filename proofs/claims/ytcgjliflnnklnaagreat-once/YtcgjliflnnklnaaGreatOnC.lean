/-
  Once, walked.
-/
import Derived.Test.YtcgjliflnnklnaaGreatOnB
import Derived.Test.YtcgjliflnnklnaaGreatQK
namespace Go.Proofs.YtcgjliflnnklnaaGreat
open Go.RowKit

theorem al_fresh (bs : List UInt8) : Al (trSB bs) (trSB bs) := ⟨(trSB bs).sc, rfl, rfl⟩
theorem trSB_due (bs : List UInt8) : (trSB bs).due = 0 := rfl
theorem tl_ne {a : ByteArray} (h : a ≠ ⟨#[]⟩) : ¬ ByteArray.toList a = [] := fun e => h (by
  rw [Go.ByteArray.toList_eq] at e
  exact ba_ext e)
theorem frame_nil (b : UInt8) (l : List UInt8) : (⟨(frameOf b l).toArray⟩ : ByteArray) ≠ ⟨#[]⟩ := by
  intro e
  have q := congrArg (fun x => x.data.toList.length) e
  simp [frameOf] at q

set_option maxRecDepth 100000 in
set_option maxHeartbeats 8000000 in
theorem once_any (w : World) (p q : Option Addr) (cap qcap : Nat) (bs : List UInt8) (m : Nat) (hV : ChV w.heap.size w (.slice p bs.length cap) bs) (hcap : bs.length ≤ cap) (hc2 : cap ≤ 140737488355328)
    (hW : ∀ i, i < m → WdAt w q i) (_hm : m ≤ 140737488355328) :
    Calls Tryz.prog 12 #[.slice p bs.length cap, .slice q m qcap] w fun e w' => e = .returned (.bool true) ∧ Below w.heap.size w w' := by
  have KN := known_any w
  have hl2 : (bs.take 200).length ≤ 200 := by rw [List.length_take]; omega
  have HV := hid hV
  have HWd := hid hW
  have HL := hid hl2
  have Hcap := hid hcap
  have Hc2 := hid hc2
  clear hV hW hl2 hcap hc2
  go_enter Tryz.func12, Tryz.ntmps12
  go_wp2_with (first | (go_at_call 16; refine KN.mono ?_; rintro e w1 ⟨rfl, hb1⟩; have HB1 := hid hb1; have l1 := hb1.size; have CF := config_any w1 p cap bs ((HV.out.below hb1).mono l1) Hcap.out Hc2.out; clear hb1 KN))
  refine CF.mono ?_
  rintro e w2 ⟨b2, v1, v2, rfl, hC2, hb2⟩
  have l2 := hb2.size
  have HB2 := hid (HB1.out.trans (hb2.mono l1))
  have NW := newStub_all w2.heap.size (.slice (some ⟨b2, 0, none⟩) 2 2) _ 250 w2 (Nat.le_refl _) hC2 (tr_valid _ HL.out _ _) (by show 2 ≤ 140737488355328; decide) (by
    intro c hc
    unfold trCs at hc
    simp only [List.mem_cons, List.not_mem_nil, or_false] at hc
    rcases hc with rfl | rfl
    · show (bs.take 200).length ≤ _; have := HL.out; omega
    · show 6 ≤ 140737488355328; decide)
  clear CF hC2 hb2 HB1
  go_wp2_with fail
  refine NW.mono ?_
  rintro e w3 ⟨A, RA, hA, rfl, hC3, hZ3, hb3⟩
  have l3 := hb3.size
  have HB3 := hid (HB2.out.trans (hb3.mono (by omega)))
  have HSA : Hid (Stb w3 A (trSB (bs.take 200)) 0) := Stb.fresh hC3 hZ3
  have CF := config_any w3 p cap bs ((HV.out.below HB3.out).mono (by omega)) Hcap.out Hc2.out
  clear NW hC3 hb3 HB2 hZ3
  go_wp2_with fail
  refine CF.mono ?_
  rintro e w4 ⟨b4, v3, v4, rfl, hC4, hb4⟩
  have l4 := hb4.size
  have HB4 := hid (HB3.out.trans (hb4.mono (by omega)))
  have HSA4 := hid (HSA.out.bel hb4)
  have lA := HSA.out.lt
  have NW := newStub_all w4.heap.size (.slice (some ⟨b4, 0, none⟩) 2 2) _ 250 w4 (Nat.le_refl _) hC4 (tr_valid _ HL.out _ _) (by show 2 ≤ 140737488355328; decide) (by
    intro c hc
    unfold trCs at hc
    simp only [List.mem_cons, List.not_mem_nil, or_false] at hc
    rcases hc with rfl | rfl
    · show (bs.take 200).length ≤ _; have := HL.out; omega
    · show 6 ≤ 140737488355328; decide)
  clear CF hC4 hb4 HB3 HSA
  go_wp2_with fail
  refine NW.mono ?_
  rintro e w5 ⟨B, RB, hB, rfl, hC5, hZ5, hb5⟩
  have HSA5 := hid (HSA4.out.bel hb5)
  have HSB5 : Hid (Stb w5 B (trSB (bs.take 200)) 0) := Stb.fresh hC5 hZ5
  have HB5 := hid (HB4.out.trans (hb5.mono (by omega)))
  have nAB : A ≠ B := by omega
  have nA : w.heap.size ≤ A := by omega
  have nB : w.heap.size ≤ B := by omega
  have z5 := HB5.out.size
  clear NW hC5 hb5 hZ5 HB4 HSA4 l1 l2 l3 l4 lA hA hB
  have HD0 : Hid (Duo w w5 A B (trSB (bs.take 200)) (trSB (bs.take 200)) 0) := ⟨_, _, al_fresh _, al_fresh _, HSA5.out, HSB5.out, HB5.out, nAB, nA, nB⟩
  clear HSA5 HSB5 HB5 z5 nAB nA nB
  go_wp2_with fail
  go_loopw [10] (fun i wr => ∃ (k : Nat) (U : SB), k ≤ 40 ∧ i = .int .i64 k ∧ Hid (U.due.toNat = k ∧ Duo w wr A B U U (600000000 * k))) (fun i _ => 40 - (intOf i).toNat)
  case atStart => exact ⟨0, trSB (bs.take 200), by omega, rfl, ⟨rfl, HD0.out⟩⟩
  case round =>
    obtain ⟨k, U, hk, rfl, HU⟩ := hrel
    clear HD0
    by_cases hc : k < m ∧ k < 40
    · obtain ⟨c1, c2⟩ := hc
      obtain ⟨b, off, kd, n, wy, rfl, hbl, q0, q1, q2, b1, b2, b3, b4, b5, b6⟩ := (HWd.out k c1).h
      have bel := HU.out.2.old
      have q0 := (bel.cell (p := ⟨b, off + k * 3, none⟩) hbl).trans q0
      have q1 := (bel.cell (p := ⟨b, off + k * 3 + 1, none⟩) hbl).trans q1
      have q2' := (bel.cell (p := ⟨b, off + k * 3 + 2, none⟩) hbl).trans q2
      have BD := body_any kd n wy b1 b2 b3 b4
      have PE := pickE_any wy 5 (by decide) (by decide) b5 b6
      have pr := pickV_r wy 5 (by decide)
      have k1 : (k : Int) < (m : Int) := by omega
      have k2 : (k : Int) < 40 := by omega
      have hku : (k : Int).tmod 256 = (U.due.toNat : Int) := by rw [HU.out.1, Int.tmod_eq_emod_of_nonneg (by omega)]; omega
      have hku2 : (k : Int) % 256 = (U.due.toNat : Int) := by rw [HU.out.1]; omega
      clear bel
      go_wp2_with fail
      refine (BD _).mono ?_
      rintro e w6 ⟨bd, rfl, hbd, hb6⟩
      have HU6 := hid (HU.out.2.bel hb6)
      have PK := fun w => packet_any U.due bd w (by omega)
      have hbl8 : bd.data.toList.length ≤ 80 := by rw [Array.length_toList]; show bd.size ≤ 80; omega
      have HFL : Hid ((frameOf U.due bd.data.toList).length ≤ 200) := frame_len _ _ hbl8
      clear hb6 BD q0 q1 q2'
      go_wp2_with fail
      refine (PK _).mono ?_
      rintro e w7 ⟨rfl, hb7⟩
      have HU7 := hid (HU6.out.bel hb7)
      have hFs : (⟨(frameOf U.due bd.data.toList).toArray⟩ : ByteArray).size ≤ 200 := by show (frameOf U.due bd.data.toList).toArray.size ≤ 200; simpa using HFL.out
      have hFd : Hid ((⟨(frameOf U.due bd.data.toList).toArray⟩ : ByteArray).data.toList = frameOf U.due bd.data.toList) := by show _ = _; simp
      have hF0 := frame_nil U.due bd.data.toList
      generalize (⟨(frameOf U.due bd.data.toList).toArray⟩ : ByteArray) = F at *
      clear hb7 PK HFL HU6
      have hby := to_bytesS w7 F
      have FA : ∀ S, Al S U → Al (S.feed F.data.toList).1 (U.ans ⟨U.due.toNat, bd.data.toList, false⟩).1 ∧ (S.feed F.data.toList).2 = (U.ans ⟨U.due.toNat, bd.data.toList, false⟩).2 := fun S h => by rw [hFd.out]; exact al_frame h _ _ hbl8
      have hWl := due_len U bd.data.toList
      have hW0 := due_head U bd.data.toList
      have hUd := ans_due_due U bd.data.toList
      have hAg := ans_again U bd.data.toList
      have FA2 : ∀ S, Al S (U.ans ⟨U.due.toNat, bd.data.toList, false⟩).1 → Al (S.feed F.data.toList).1 (U.ans ⟨U.due.toNat, bd.data.toList, false⟩).1 ∧ (S.feed F.data.toList).2 = (U.ans ⟨U.due.toNat, bd.data.toList, false⟩).2 := fun S h => by
        rw [hFd.out]
        have q := al_frame h U.due bd.data.toList hbl8
        rw [hAg] at q
        exact q
      generalize (U.ans ⟨U.due.toNat, bd.data.toList, false⟩).1 = U1 at *
      generalize (U.ans ⟨U.due.toNat, bd.data.toList, false⟩).2 = WT at *
      go_wp2_with fail
      refine (HU7.out.sb (by omega) (by omega) F WT hFs FA _ _ _).mono ?_
      rintro e w9 ⟨v9, rfl, hcv, hD9⟩
      have HD9 := hid hD9
      obtain ⟨T, HT⟩ : ∃ T, WT = 43 :: T := by
        cases WT with
        | nil => simp at hWl
        | cons a T => exact ⟨T, by have q : a = 43 := hW0; rw [q]⟩
      have hs7 : 7 ≤ (⟨WT.toArray⟩ : ByteArray).size := by show 7 ≤ WT.toArray.size; simpa using hWl
      have hs0 : ∀ h, (⟨WT.toArray⟩ : ByteArray)[0]'h = 43 := by intro h; subst HT; rfl
      generalize hWB : (⟨WT.toArray⟩ : ByteArray) = WB at *
      have hp0 : ¬ ByteArray.toList F = [] := tl_ne hF0
      have hp1 : (ByteArray.toList F).isEmpty = false := by rw [← Bool.not_eq_true, List.isEmpty_iff]; exact hp0
      have hs8 : (7 : Int) ≤ (WB.size : Int) := by omega
      have hs9 : ¬ ((WB.size : Int) < 7) := by omega
      have q9 := (HD9.out.old.cell (p := ⟨b, off + k * 3 + 2, none⟩) hbl).trans q2
      obtain ⟨pw, hpw⟩ : ∃ pw : Nat, pickV wy 5 = pw := ⟨(pickV wy 5).toNat, by omega⟩
      simp only [hpw] at PE pr
      have hpw5 : pw < 5 := by omega
      clear hD9 HU7 hby
      go_wp2_with fail
      refine (PE _).mono ?_
      rintro e w10 ⟨rfl, hw10⟩
      subst hw10
      have HUd : Hid (U1.due.toNat = k + 1) := by
        show U1.due.toNat = k + 1
        rw [hUd, UInt8.toNat_add, HU.out.1]
        show (k + 1) % 256 = k + 1
        omega
      have HUk := hid HU.out.1
      have HFA := hid FA
      have HFA2 := hid FA2
      clear HU hUd hAg FA FA2 PE pr hpw hF0 hW0 HT
      rcases (show pw = 0 ∨ pw = 1 ∨ pw = 2 ∨ pw = 3 ∨ pw = 4 from by omega) with rfl | rfl | rfl | rfl | rfl
      · have hbyX := to_bytesS w10 F
        go_wp2_with fail
        refine (HD9.out.sa (by omega) (by omega) F WT hFs HFA.out _ _ _).mono ?_
        rintro e wY ⟨vY, rfl, hcvY, hDY⟩
        rw [hWB] at hcvY
        have HDY := hid hDY
        clear hDY HD9 hbyX
        go_wp2
        go_roundw
        case rel => exact ⟨k + 1, U1, by omega, by go_num, ⟨HUd.out, HDY.out.mono (by omega)⟩⟩
        case measure => simp [intOf]; omega
      · have hbyX := to_bytesS w10 F
        go_wp2_with fail
        refine (HD9.out.sa (by omega) (by omega) F WT hFs HFA.out _ _ _).mono ?_
        rintro e wY ⟨vY, rfl, hcvY, hDY⟩
        rw [hWB] at hcvY
        have HDY := hid hDY
        clear hDY HD9 hbyX
        go_wp2
        go_roundw
        case rel => exact ⟨k + 1, U1, by omega, by go_num, ⟨HUd.out, HDY.out.mono (by omega)⟩⟩
        case measure => simp [intOf]; omega
      · have hF6 : 6 ≤ F.size := by
          have q := congrArg List.length hFd.out
          simp [frameOf, hex2] at q
          have q2 : F.data.size = F.size := rfl
          omega
        have hF6i : (6 : Int) ≤ (F.size : Int) := by omega
        have hFl : F.data.toList.length = F.size := by simp
        obtain ⟨x1, hx1⟩ : ∃ x1, F.data.toList[1]'(by omega) = x1 := ⟨_, rfl⟩
        obtain ⟨WX, cX, hbyX, hWX, hc1, hf1, hb1⟩ : ∃ WX cX, (convert 9 35 (.string F)).run Tryz.prog w10 = .ok (.slice (some ⟨w10.heap.size, 0, none⟩) F.size cX) WX ∧ Hid (Below w10.heap.size w10 WX) ∧ WX.cell? ⟨w10.heap.size, 1, none⟩ = some (.int .u8 (x1.toNat : Int)) ∧ WX.frozen? ⟨w10.heap.size, 1, none⟩ = false ∧ Hid (BytesAt WX w10.heap.size 0 F.data.toList) :=
          ⟨_, _, to_bytesS w10 F, bl_drew (bl_alloc (Below.refl _ _)), by
            have q := bytes_newS w10 F (grownCap w10 F.size 0 5) ((bytesRow F (grownCap w10 F.size 0 5)).size, (bytesRow F (grownCap w10 F.size 0 5)).size + 1) 1 (by omega)
            rw [hx1] at q
            exact q, free_newS w10 F _ 1 (by omega), bytes_newS w10 F _ _⟩
        have hxr := xor1 x1
        have hxu := u8_r x1
        go_wp2_with fail
        have HBY : Hid (Below w10.heap.size w10 (WX.setCell ⟨w10.heap.size, 1, none⟩ (.int .u8 ((x1 ^^^ 1).toNat : Int)))) := bl_set hWX.out (Nat.le_refl _)
        have hBy2 : BytesAt (WX.setCell ⟨w10.heap.size, 1, none⟩ (.int .u8 ((x1 ^^^ 1).toNat : Int))) w10.heap.size 0 (spoilt (frameOf U.due bd.data.toList)) := by
          have q := bytes_set (v := x1 ^^^ 1) hb1.out (j := 1) (by omega)
          have e : F.data.toList.set 1 (x1 ^^^ 1) = spoilt (frameOf U.due bd.data.toList) := by
            unfold spoilt
            rw [← hFd.out, ← hx1, List.getD_eq_getElem?_getD, List.getElem?_eq_getElem (show 1 < F.data.toList.length by omega)]
            rfl
          rw [e] at q
          exact q
        refine ((HD9.out.bel HBY.out).fa (by omega) (by omega) w10.heap.size cX F.size (spoilt (frameOf U.due bd.data.toList)) [45] (by unfold spoilt; rw [List.length_set, ← hFd.out, hFl]) hFs hBy2 (by have := HD9.out.lt; omega) (fun S h => al_spoilt h _ _ hbl8)).mono ?_
        rintro e w11 ⟨v11, rfl, hcv11, hD11⟩
        have HD11 := hid hD11
        clear hD11 hBy2 HBY HD9 hbyX hWX hc1 hf1 hb1
        have hbyX := to_bytesS w11 F
        go_wp2_with fail
        refine (HD11.out.sa (by omega) (by omega) F WT hFs HFA.out _ _ _).mono ?_
        rintro e wY ⟨vY, rfl, hcvY, hDY⟩
        rw [hWB] at hcvY
        have HDY := hid hDY
        clear hDY HD11 hbyX
        go_wp2
        go_roundw
        case rel => exact ⟨k + 1, U1, by omega, by go_num, ⟨HUd.out, HDY.out.mono (by omega)⟩⟩
        case measure => simp [intOf]; omega
      · have hbyZ := to_bytesS w10 F
        go_wp2_with fail
        refine (HD9.out.sa (by omega) (by omega) F WT hFs HFA.out _ _ _).mono ?_
        rintro e w11 ⟨v11, rfl, hcv11, hD11⟩
        rw [hWB] at hcv11
        have HD11 := hid hD11
        clear hD11 HD9 hbyZ
        have hbyX := to_bytesS w11 F
        go_wp2_with fail
        refine (HD11.out.sa (by omega) (by omega) F WT hFs HFA2.out _ _ _).mono ?_
        rintro e wY ⟨vY, rfl, hcvY, hDY⟩
        rw [hWB] at hcvY
        have HDY := hid hDY
        clear hDY HD11 hbyX
        go_wp2
        go_roundw
        case rel => exact ⟨k + 1, U1, by omega, by go_num, ⟨HUd.out, HDY.out.mono (by omega)⟩⟩
        case measure => simp [intOf]; omega
      · obtain ⟨kb, hkb⟩ : ∃ kb, Hid (U.due + 100 = kb) := ⟨_, rfl⟩
        have ekb : kb.toNat = k + 100 := by
          rw [← hkb.out, UInt8.toNat_add, HUk.out]
          show (k + 100) % 256 = k + 100
          omega
        have e4 : ((k : Int) + 100).tmod 256 = (kb.toNat : Int) := by rw [Int.tmod_eq_emod_of_nonneg (by omega)]; omega
        have e5 : ((k : Int) + 100) % 256 = (kb.toNat : Int) := by omega
        have HO : Hid (∀ l, U.ans ⟨kb.toNat, l, false⟩ = (U, [63])) := fun l => ans_old U _ l (by rw [HUk.out]; omega) (by rw [UInt8.toNat_sub, HUk.out]; show kb.toNat ≠ (256 - 1 + k) % 256; omega)
        have PK4 := fun w => packet_any kb ⟨#[115, 48, 48, 49, 48]⟩ w (by decide)
        clear hkb ekb
        go_wp2_with fail
        refine (PK4 _).mono ?_
        rintro e w11 ⟨rfl, hb11⟩
        have HD11 := hid (HD9.out.bel hb11)
        have hGs : (⟨(frameOf kb [115, 48, 48, 49, 48]).toArray⟩ : ByteArray).size ≤ 200 := by show (frameOf kb [115, 48, 48, 49, 48]).toArray.size ≤ 200; simpa using frame_len kb [115, 48, 48, 49, 48] (by decide)
        have FA4 : Hid (∀ S, Al S U → Al (S.feed (⟨(frameOf kb [115, 48, 48, 49, 48]).toArray⟩ : ByteArray).data.toList).1 U ∧ (S.feed (⟨(frameOf kb [115, 48, 48, 49, 48]).toArray⟩ : ByteArray).data.toList).2 = [63]) := fun S h => by
          have q := al_frame h kb [115, 48, 48, 49, 48] (by decide)
          rw [HO.out] at q
          exact q
        change Hid (∀ S, Al S U → Al (S.feed (⟨(frameOf kb (⟨#[115, 48, 48, 49, 48]⟩ : ByteArray).data.toList).toArray⟩ : ByteArray).data.toList).1 U ∧ (S.feed (⟨(frameOf kb (⟨#[115, 48, 48, 49, 48]⟩ : ByteArray).data.toList).toArray⟩ : ByteArray).data.toList).2 = [63]) at FA4
        change (⟨(frameOf kb (⟨#[115, 48, 48, 49, 48]⟩ : ByteArray).data.toList).toArray⟩ : ByteArray).size ≤ 200 at hGs
        generalize (⟨(frameOf kb (⟨#[115, 48, 48, 49, 48]⟩ : ByteArray).data.toList).toArray⟩ : ByteArray) = G at *
        have hbyZ := to_bytesS w11 G
        clear hb11 PK4 HD9
        go_wp2_with fail
        refine (HD11.out.sa (by omega) (by omega) G [63] hGs FA4.out _ _ _).mono ?_
        rintro e w12 ⟨v12, rfl, hcv12, hD12⟩
        have HD12 := hid hD12
        clear hD12 HD11 hbyZ
        have hbyX := to_bytesS w12 F
        go_wp2_with fail
        refine (HD12.out.sa (by omega) (by omega) F WT hFs HFA.out _ _ _).mono ?_
        rintro e wY ⟨vY, rfl, hcvY, hDY⟩
        rw [hWB] at hcvY
        have HDY := hid hDY
        clear hDY HD12 hbyX
        go_wp2
        go_roundw
        case rel => exact ⟨k + 1, U1, by omega, by go_num, ⟨HUd.out, HDY.out.mono (by omega)⟩⟩
        case measure => simp [intOf]; omega
    · have hcc : m ≤ k ∨ (k < m ∧ 40 ≤ k) := by omega
      have HBr := hid HU.out.2.old
      clear HU hc
      rcases hcc with hcc | ⟨hcc0, hcc⟩
      · have h1 : ¬ ((k : Int) < (m : Int)) := by omega
        go_wp2
        go_ret
        exact ⟨rfl, HBr.out⟩
      · have h1 : (k : Int) < (m : Int) := by omega
        have h2 : ¬ ((k : Int) < 40) := by omega
        go_wp2
        go_ret
        exact ⟨rfl, HBr.out⟩

end Go.Proofs.YtcgjliflnnklnaaGreat
