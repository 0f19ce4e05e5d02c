/-
  Looked, walked.
-/
import Derived.Test.YtcgjliflnnklnabGreatLkC
namespace Go.Proofs.YtcgjliflnnklnabGreat
open Go.RowKit

theorem al_freshL (bs : List UInt8) : Al (trSB bs) (trSB bs) := ⟨(trSB bs).sc, rfl, rfl⟩

set_option maxRecDepth 100000 in
set_option maxHeartbeats 8000000 in
theorem looked_any (w : World) (p q : Option Addr) (cap qcap : Nat) (bs : List UInt8) (m : Nat) (hV : ChV w.heap.size w (.slice p bs.length cap) bs) (hcap : bs.length ≤ cap) (hc2 : cap ≤ 140737488355328)
    (hW : ∀ i, i < m → WdAt w q i) (_hm : m ≤ 140737488355328) :
    Calls Tryz.prog 3 #[.slice p bs.length cap, .slice q m qcap] w fun e w' => e = .returned (.bool true) ∧ Below w.heap.size w w' := by
  have KN := known_any w
  have hl2 : (bs.take 200).length ≤ 200 := by rw [List.length_take]; omega
  have HV := hid hV
  have HWd := hid hW
  have HL := hid hl2
  have Hcap := hid hcap
  have Hc2 := hid hc2
  clear hV hW hl2 hcap hc2
  go_enter Tryz.func3, Tryz.ntmps3
  go_wp2_with (first | (go_at_call 4; refine KN.mono ?_; rintro e w1 ⟨rfl, hb1⟩; have HB1 := hid hb1; have l1 := hb1.size; have CF := config_any w1 p cap bs ((HV.out.below hb1).mono l1) Hcap.out Hc2.out; clear hb1 KN))
  refine CF.mono ?_
  rintro e w2 ⟨b2, v1, v2, rfl, hC2, hb2⟩
  have l2 := hb2.size
  have HB2 := hid (HB1.out.trans (hb2.mono l1))
  have NW := newStub_all w2.heap.size (.slice (some ⟨b2, 0, none⟩) 2 2) _ 250 w2 (Nat.le_refl _) hC2 (tr_valid _ HL.out _ _) (by show 2 ≤ 140737488355328; decide) (by
    intro c hc
    unfold trCs at hc
    simp only [List.mem_cons, List.not_mem_nil, or_false] at hc
    rcases hc with rfl | rfl
    · show (bs.take 200).length ≤ _; have := HL.out; omega
    · show 6 ≤ 140737488355328; decide)
  clear CF hC2 hb2 HB1
  go_wp2_with fail
  refine NW.mono ?_
  rintro e w3 ⟨A, RA, hA, rfl, hC3, hZ3, hb3⟩
  have l3 := hb3.size
  have HB3 := hid (HB2.out.trans (hb3.mono (by omega)))
  have HSA : Hid (Stb w3 A (trSB (bs.take 200)) 0) := Stb.fresh hC3 hZ3
  have CF := config_any w3 p cap bs ((HV.out.below HB3.out).mono (by omega)) Hcap.out Hc2.out
  clear NW hC3 hb3 HB2 hZ3
  go_wp2_with fail
  refine CF.mono ?_
  rintro e w4 ⟨b4, v3, v4, rfl, hC4, hb4⟩
  have l4 := hb4.size
  have HB4 := hid (HB3.out.trans (hb4.mono (by omega)))
  have HSA4 := hid (HSA.out.bel hb4)
  have lA := HSA.out.lt
  have NW := new_ok w4.heap.size (.slice (some ⟨b4, 0, none⟩) 2 2) _ 250 w4 (Nat.le_refl _) hC4 (tr_valid _ HL.out _ _) (by show 2 ≤ 140737488355328; decide) (by
    intro c hc
    unfold trCs at hc
    simp only [List.mem_cons, List.not_mem_nil, or_false] at hc
    rcases hc with rfl | rfl
    · show (bs.take 200).length ≤ _; have := HL.out; omega
    · show 6 ≤ 140737488355328; decide)
  clear CF hC4 hb4 HB3 HSA
  go_wp2_with fail
  refine NW.mono ?_
  rintro e w5 ⟨B, RB, hB, rfl, hC5, hb5⟩
  have HSA5 := hid (HSA4.out.bel hb5)
  have HB5 := hid (HB4.out.trans (hb5.mono (by omega)))
  have nAB : A ≠ B := by omega
  have nA : w.heap.size ≤ A := by omega
  have nB : w.heap.size ≤ B := by omega
  rw [fresh_tr] at hC5
  have HL0 : Hid (Lkd w w5 A B (trSB (bs.take 200)) ((trPC (bs.take 200)).rr RB) 0) := ⟨_, al_freshL _, HSA5.out, hC5, HB5.out, nAB, nA, nB⟩
  have HK0 : Hid (Lk (trPC (bs.take 200)) (trSB (bs.take 200)) 0 ∧ (trSB (bs.take 200)).due.toNat = 0 ∧ TrI (trPC (bs.take 200)) 0) := ⟨lk_fresh _, rfl, (trPC_tr _).1⟩
  clear NW hC5 hb5 HB4 HSA4 HSA5 HB5 nAB nA nB l1 l2 l3 l4 lA hA hB HL HV Hcap Hc2
  generalize trSB (bs.take 200) = S0 at *
  generalize trPC (bs.take 200) = P0 at *
  go_wp2_with fail
  go_loopw [10] (fun i wr => ∃ (k : Nat) (U : SB), k ≤ 30 ∧ k ≤ m ∧ i = .int .i64 k ∧ Hid (U.due.toNat = k ∧ (∃ n, n ≤ 100 * k ∧ Lk P0 U n) ∧ Lkd w wr A B U (P0.rr RB) (200000000 * k))) (fun i _ => 30 - (intOf i).toNat)
  case atStart => exact ⟨0, S0, by omega, by omega, rfl, ⟨HK0.out.2.1, ⟨0, by omega, HK0.out.1⟩, HL0.out⟩⟩
  case round =>
    obtain ⟨k, U, hk, hkm, rfl, HU⟩ := hrel
    clear HL0
    by_cases hc : k < m ∧ k < 30
    · obtain ⟨c1, c2⟩ := hc
      obtain ⟨b, off, kd, n, wy, rfl, hbl, q0, q1, q2, b1, b2, b3, b4, b5, b6⟩ := (HWd.out k c1).h
      have bel := HU.out.2.2.old
      have q0' := (bel.cell (p := ⟨b, off + k * 3, none⟩) hbl).trans q0
      have PE := pickE_any kd 10 (by decide) (by decide) b1 b2
      have pr := pickV_r kd 10 (by decide)
      obtain ⟨d, hd⟩ : ∃ d : Nat, pickV kd 10 = d := ⟨(pickV kd 10).toNat, by omega⟩
      simp only [hd] at PE pr
      have hd10 : d < 10 := by omega
      obtain ⟨T, hT, HTm, hTs⟩ := lookV_get d hd10
      have HTM := hid HTm
      unfold lookV at hT
      have k1 : (k : Int) < (m : Int) := by omega
      have k2 : (k : Int) < 30 := by omega
      have hku : (k : Int).tmod 256 = (U.due.toNat : Int) := by rw [HU.out.1, Int.tmod_eq_emod_of_nonneg (by omega)]; omega
      have hku2 : (k : Int) % 256 = (U.due.toNat : Int) := by rw [HU.out.1]; omega
      have hz := bel.size
      have hbl2 : b < wr.heap.size := by omega
      have hbn : b ≠ wr.heap.size := by omega
      have hbn2 : wr.heap.size ≠ b := by omega
      have hdi : (d : Int) < 10 := by omega
      have PK := fun w => packet_any U.due T w (by omega)
      clear bel HTm q0 q1 q2 hd
      go_wp2_with fail
      refine (PE _).mono ?_
      rintro e w6 ⟨rfl, hw6⟩
      subst hw6
      go_wp2_with fail
      have HU6 := hid (HU.out.2.2.bel (bl_alloc (o := .cells #[.string ⟨#[103]⟩, .string ⟨#[109, 48, 52, 48, 48, 50, 48]⟩, .string ⟨#[115, 48, 48, 48, 49]⟩, .string ⟨#[115, 48, 48, 48, 55]⟩, .string ⟨#[105, 48, 48, 48, 49]⟩, .string ⟨#[105, 48, 48, 48, 51]⟩, .string ⟨#[109, 100, 48, 48, 48, 48, 52]⟩, .string ⟨#[116, 49]⟩, .string ⟨#[113]⟩, .string ⟨#[116, 48]⟩] 9) (Below.refl _ _)))
      refine (PK _).mono ?_
      rintro e w7 ⟨rfl, hb7⟩
      have HU7 := hid (HU6.out.bel hb7)
      have hbl8 : T.data.toList.length ≤ 80 := by rw [Array.length_toList]; show T.size ≤ 80; omega
      have hFs : (⟨(frameOf U.due T.data.toList).toArray⟩ : ByteArray).size ≤ 200 := by show (frameOf U.due T.data.toList).toArray.size ≤ 200; simpa using frame_len U.due _ hbl8
      have hFd : Hid ((⟨(frameOf U.due T.data.toList).toArray⟩ : ByteArray).data.toList = frameOf U.due T.data.toList) := by show _ = _; simp
      generalize (⟨(frameOf U.due T.data.toList).toArray⟩ : ByteArray) = F at *
      clear hb7 PK HU6 PE hT q0'
      have hby := to_bytesS w7 F
      have FA : Hid (∀ S, Al S U → Al (S.feed F.data.toList).1 (U.ans ⟨U.due.toNat, T.data.toList, false⟩).1 ∧ (S.feed F.data.toList).2 = (U.ans ⟨U.due.toNat, T.data.toList, false⟩).2) := fun S h => by rw [hFd.out]; exact al_frame h _ _ hbl8
      have hWl := due_len U T.data.toList
      have hUd := ans_due_due U T.data.toList
      obtain ⟨n0, hn0, HK⟩ := HU.out.2.1
      obtain ⟨n1, hn1, HK1⟩ := HK.ans (by omega) T.data.toList HTM.out
      have HK2 := hid HK1
      generalize (U.ans ⟨U.due.toNat, T.data.toList, false⟩).1 = U1 at *
      generalize (U.ans ⟨U.due.toNat, T.data.toList, false⟩).2 = WT at *
      have HUd : Hid (U1.due.toNat = k + 1) := by
        show U1.due.toNat = k + 1
        rw [hUd, UInt8.toNat_add, HU.out.1]
        show (k + 1) % 256 = k + 1
        omega
      clear HU HK1 HK hUd
      go_wp2_with fail
      refine (HU7.out.sa (by omega) (by omega) F WT hFs (by omega) FA.out _ _ _).mono ?_
      rintro e w9 ⟨g, c, rfl, -, hL9⟩
      have HL9 := hid hL9
      have hW7 : ¬ ((WT.length : Int) < 7) := by omega
      clear hL9 HU7 hby FA
      go_wp2
      go_roundw
      case rel => exact ⟨k + 1, U1, by omega, by omega, by go_num, ⟨HUd.out, ⟨n1, by omega, HK2.out⟩, HL9.out.mono (by omega)⟩⟩
      case measure => simp [intOf]; omega
    · have hkk : (k = m ∧ m ≤ 30) ∨ (k = 30 ∧ 30 < m) := by omega
      have hku : (k : Int).tmod 256 = (U.due.toNat : Int) := by rw [HU.out.1, Int.tmod_eq_emod_of_nonneg (by omega)]; omega
      have hku2 : (k : Int) % 256 = (U.due.toNat : Int) := by rw [HU.out.1]; omega
      have hmin : min (m : Int) 30 = (k : Int) := by omega
      have hmin2 : min 30 (m : Int) = (k : Int) := by omega
      have PKa : ∀ (w : World) (x : Int), x = (U.due.toNat : Int) → Calls Tryz.prog 10 #[.int .i64 x, .string ⟨#[103]⟩] w fun e w' => e = .returned (.string ⟨(frameOf U.due (⟨#[103]⟩ : ByteArray).data.toList).toArray⟩) ∧ Below w.heap.size w w' := fun w x hx => by rw [hx]; exact packet_any U.due ⟨#[103]⟩ w (by decide)
      have hst : (¬ ((k : Int) < (m : Int))) ∨ ((k : Int) < (m : Int) ∧ ¬ ((k : Int) < 30)) := by omega
      clear hc HWd
      rcases hst with h1 | ⟨h1, h2⟩
      · go_wp2_with fail
        refine (PKa _ _ (by omega)).mono ?_
        rintro e w7 ⟨rfl, hb7⟩
        have HU7 := hid (HU.out.2.2.bel hb7)
        have hFs : (⟨(frameOf U.due (⟨#[103]⟩ : ByteArray).data.toList).toArray⟩ : ByteArray).size ≤ 200 := by show (frameOf U.due [103]).toArray.size ≤ 200; simpa using frame_len U.due [103] (by decide)
        have hFd : Hid ((⟨(frameOf U.due (⟨#[103]⟩ : ByteArray).data.toList).toArray⟩ : ByteArray).data.toList = frameOf U.due [103]) := by show _ = _; simp
        generalize (⟨(frameOf U.due (⟨#[103]⟩ : ByteArray).data.toList).toArray⟩ : ByteArray) = F at *
        have hby := to_bytesS w7 F
        obtain ⟨r1, r2, r3, r4, hRL⟩ := ans_g U
        have FA : Hid (∀ S, Al S U → Al (S.feed F.data.toList).1 (U.ans ⟨U.due.toNat, [103], false⟩).1 ∧ (S.feed F.data.toList).2 = RL r1 r2 r3 r4 U.pc) := fun S h => by rw [hFd.out, ← hRL]; exact al_frame h _ _ (by decide)
        obtain ⟨n0, hn0, HK⟩ := HU.out.2.1
        have hL29 := RL_len r1 r2 r3 r4 U.pc
        have HP := hid HK.run
        have HC := hid HK.cyc
        have HOK := hid HK.ok
        have hDG : Hid (∀ x, 18 ≤ x → x < 26 → ∀ h, (RL r1 r2 r3 r4 U.pc)[x]'h = hexd (n0 / 2 ^ (4 * (25 - x)) % 16)) := fun x h1 h2 h => by
          obtain ⟨j, rfl⟩ : ∃ j, x = 18 + j := ⟨x - 18, by omega⟩
          rw [RL_dig r1 r2 r3 r4 U.pc j (by omega) h, HK.cyc, Int.toNat_natCast, show 25 - (18 + j) = 7 - j from by omega]
        have hA4 : Hid (((RL r1 r2 r3 r4 U.pc).drop 4).take 2 = hexN U.pc.ba.toNat 2 ∧ ((RL r1 r2 r3 r4 U.pc).drop 12).take 2 = hexN U.pc.bp.toNat 2 ∧ ((RL r1 r2 r3 r4 U.pc).drop 14).take 4 = hexN U.pc.bpc.toNat 4) := ⟨rfl, rfl, rfl⟩
        generalize (U.ans ⟨U.due.toNat, [103], false⟩).1 = U1 at *
        generalize RL r1 r2 r3 r4 U.pc = L at *
        clear hb7 HU hRL HK
        go_wp2_with fail
        refine (HU7.out.sa (by omega) (by omega) F L hFs (by omega) FA.out _ _ _).mono ?_
        rintro e w9 ⟨g, c, rfl, hcv, hL9⟩
        rw [hL29] at hcv
        have HR0 : Hid (Ran w w9 B P0 RB 0) := ⟨hL9.mach.1, ⟨0, HK0.out.2.2⟩, hL9.old, hL9.mach.2⟩
        have hsz : (⟨L.toArray⟩ : ByteArray).size = 29 := by show L.toArray.size = 29; simpa using hL29
        have hch : Hid (∀ x, 18 ≤ x → x < 26 → ∀ h, (⟨L.toArray⟩ : ByteArray)[x]'h = hexd (n0 / 2 ^ (4 * (25 - x)) % 16)) := fun x h1 h2 h => hDG.out x h1 h2 (by have : x < L.toArray.size := h; simpa using this)
        have hSL : Hid (∀ a b, (⟨L.toArray⟩ : ByteArray).extract a b = ⟨((L.drop a).take (b - a)).toArray⟩) := fun a b => ba_ext (by rw [ByteArray.data_extract, Array.toList_extract, List.extract_eq_take_drop])
        generalize (⟨L.toArray⟩ : ByteArray) = RS at *
        clear hL9 HU7 hby FA hFd hDG
        go_wp2_with fail
        go_loopw [14, 15] (fun nv i wr => ∃ x : Nat, 18 ≤ x ∧ x ≤ 26 ∧ i = .int .i64 (x : Int) ∧ nv = .int .i64 ((n0 / 2 ^ (4 * (26 - x)) : Nat) : Int) ∧ wr = w9) (fun _ i _ => 26 - (intOf i).toNat)
        case atStart => exact ⟨18, by omega, by omega, rfl, by rw [show n0 / 2 ^ (4 * (26 - 18)) = 0 from Nat.div_eq_of_lt (by show n0 < 4294967296; omega)]; rfl, rfl⟩
        case round =>
          obtain ⟨x, hx1, hx2, rfl, rfl, hwr⟩ := hrel
          subst hwr
          by_cases hlt : x < 26
          · have hch1 := hch.out x hx1 hlt
            have hun := unhex_hexd (n0 / 2 ^ (4 * (25 - x)))
            have hds : Hid (16 * (n0 / 2 ^ (4 * (26 - x))) + n0 / 2 ^ (4 * (25 - x)) % 16 = n0 / 2 ^ (4 * (26 - (x + 1)))) := by
              have q := dig_step n0 (x - 18) (by omega)
              rw [show 8 - (x - 18) = 26 - x from by omega, show 7 - (x - 18) = 25 - x from by omega, show 8 - (x - 18 + 1) = 26 - (x + 1) from by omega] at q
              exact q
            have hq1 : n0 / 2 ^ (4 * (26 - x)) ≤ n0 := Nat.div_le_self _ _
            have hu8 := u8_r (hexd (n0 / 2 ^ (4 * (25 - x)) % 16))
            generalize hexd (n0 / 2 ^ (4 * (25 - x)) % 16) = ch at *
            have hdg : n0 / 2 ^ (4 * (25 - x)) % 16 < 16 := Nat.mod_lt _ (by decide)
            generalize n0 / 2 ^ (4 * (25 - x)) % 16 = dg at *
            generalize hgn : n0 / 2 ^ (4 * (26 - x)) = nn at *
            have hx3 : (x : Int) < 26 := by omega
            have hx4 : x < RS.size := by omega
            have hx5 : (x : Int) < (RS.size : Int) := by omega
            unfold unhex at hun
            by_cases h57 : 57 < (ch.toNat : Int)
            · rw [if_pos h57] at hun
              go_wp2
              go_roundw
              case rel => exact ⟨x + 1, by omega, by omega, by go_num, by rw [← hds.out]; congr 1, trivial⟩
              case measure => simp [intOf]; omega
            · rw [if_neg h57] at hun
              go_wp2
              go_roundw
              case rel => exact ⟨x + 1, by omega, by omega, by go_num, by rw [← hds.out]; congr 1, trivial⟩
              case measure => simp [intOf]; omega
          · obtain rfl : x = 26 := by omega
            have e26 : n0 / 2 ^ (4 * (26 - 26)) = n0 := by simp
            rw [e26]
            have c26 : ((26 : Nat) : Int) = 26 := rfl
            rw [c26]
            go_wp2_with fail
            go_loopw [18] (fun i wr => ∃ j : Nat, j ≤ n0 ∧ i = .int .i64 (j : Int) ∧ Hid (Ran w wr B P0 RB j)) (fun i _ => n0 - (intOf i).toNat)
            case atStart => exact ⟨0, by omega, rfl, HR0.out⟩
            case round =>
              obtain ⟨j, hj, rfl, HR⟩ := hrel
              clear HR0
              by_cases hlt2 : j < n0
              · have hj2 : (j : Int) < (n0 : Int) := by omega
                obtain ⟨tn, htr⟩ := HR.out.2.1
                have MC := mCycle_any (Tn.refl HR.out.1) false false (tri_wf (s := (P0.runN j).rr RB) (n := tn) (by cases htr with | idle a b c => exact .idle a b c | mid m a b c d e f => exact .mid m a b c d e f | two a b => exact .two a b | three a b => exact .three a b | four a b => exact .four a b | jam a => exact .jam a))
                have HN : Hid (∀ W', Tn B (cycV ((P0.runN j).rr RB) false false).1 wr W' → Ran w W' B P0 RB (j + 1)) := fun W' T => HR.out.next (HOK.out j hlt2) T
                generalize (cycV ((P0.runN j).rr RB) false false) = cv at *
                clear htr HR
                go_wp2_with fail
                refine MC.mono ?_
                rintro e w10 ⟨rfl, T10⟩
                have HR1 := hid (HN.out _ T10)
                clear T10 MC HN
                go_wp2
                go_roundw
                case rel => exact ⟨j + 1, by omega, by go_num, HR1.out⟩
                case measure => simp [intOf]; omega
              · obtain rfl : j = n0 := by omega
                have MR := mRegs_any (Tn.refl HR.out.1)
                have rA := HR.out.1.rba
                have rP := HR.out.1.rbp
                have rPC := HR.out.1.rbpc
                have hcy : ((P0.runN j).rr RB).cyc = (j : Int) := by show (P0.runN j).cyc = _; rw [← HP.out]; exact HC.out
                have eA : U.pc.ba = ((P0.runN j).rr RB).ba := by rw [HP.out]; rfl
                have eP : U.pc.bp = ((P0.runN j).rr RB).bp := by rw [HP.out]; rfl
                have ePC : U.pc.bpc = ((P0.runN j).rr RB).bpc := by rw [HP.out]; rfl
                have HBW := hid HR.out.2.2.1
                unfold PC.regs RegI.val at MR
                rw [hcy] at MR
                dsimp only at MR
                rw [eA, eP, ePC] at hA4
                generalize ((P0.runN j).rr RB).ba = xA at *
                generalize ((P0.runN j).rr RB).bp = xP at *
                generalize ((P0.runN j).rr RB).bpc = xPC at *
                obtain ⟨yA, rfl⟩ : ∃ y : Nat, xA = y := ⟨xA.toNat, by omega⟩
                obtain ⟨yP, rfl⟩ : ∃ y : Nat, xP = y := ⟨xP.toNat, by omega⟩
                obtain ⟨yC, rfl⟩ : ∃ y : Nat, xPC = y := ⟨xPC.toNat, by omega⟩
                rw [Int.toNat_natCast, Int.toNat_natCast, Int.toNat_natCast] at hA4
                have F1 := func4x_any yC (by omega)
                have F2 := func4x_any yA (by omega)
                have F3 := func4x_any yP (by omega)
                have x1 : RS.extract 14 18 = ⟨(hexN yC 4).toArray⟩ := by rw [hSL.out, hA4.out.2.2]
                have x2 : RS.extract 4 6 = (⟨(hexN yA 4).toArray⟩ : ByteArray).extract 2 4 := by rw [hSL.out, hA4.out.1]; rfl
                have x3 : RS.extract 12 14 = (⟨(hexN yP 4).toArray⟩ : ByteArray).extract 2 4 := by rw [hSL.out, hA4.out.2.1]; rfl
                have z1 : (⟨(hexN yC 4).toArray⟩ : ByteArray).size = 4 := rfl
                have z2 : (⟨(hexN yA 4).toArray⟩ : ByteArray).size = 4 := rfl
                have z3 : (⟨(hexN yP 4).toArray⟩ : ByteArray).size = 4 := rfl
                generalize (⟨(hexN yC 4).toArray⟩ : ByteArray) = SC at *
                generalize (⟨(hexN yA 4).toArray⟩ : ByteArray) = SA at *
                generalize (⟨(hexN yP 4).toArray⟩ : ByteArray) = SP at *
                clear HR HC HP hch hSL hA4 eA eP ePC hcy
                go_wp2_with fail
                refine MR.mono ?_
                rintro e w10 ⟨rfl, hb10⟩
                have HB10 := hid (HBW.out.trans (hb10.mono HBW.out.size))
                clear hb10 HBW MR
                go_wp2_with fail
                refine (F1 _).mono ?_
                rintro e w11 ⟨rfl, hw11⟩
                subst hw11
                go_wp2_with fail
                refine (F2 _).mono ?_
                rintro e w11 ⟨rfl, hw11⟩
                subst hw11
                go_wp2_with fail
                refine (F3 _).mono ?_
                rintro e w11 ⟨rfl, hw11⟩
                subst hw11
                clear F1 F2 F3
                go_wp2_with fail
                go_quiet (fail)
                go_wp2
                go_ret
                exact ⟨rfl, bl_drewN (bl_alloc HB10.out) _⟩
      · go_wp2_with fail
        refine (PKa _ _ (by omega)).mono ?_
        rintro e w7 ⟨rfl, hb7⟩
        have HU7 := hid (HU.out.2.2.bel hb7)
        have hFs : (⟨(frameOf U.due (⟨#[103]⟩ : ByteArray).data.toList).toArray⟩ : ByteArray).size ≤ 200 := by show (frameOf U.due [103]).toArray.size ≤ 200; simpa using frame_len U.due [103] (by decide)
        have hFd : Hid ((⟨(frameOf U.due (⟨#[103]⟩ : ByteArray).data.toList).toArray⟩ : ByteArray).data.toList = frameOf U.due [103]) := by show _ = _; simp
        generalize (⟨(frameOf U.due (⟨#[103]⟩ : ByteArray).data.toList).toArray⟩ : ByteArray) = F at *
        have hby := to_bytesS w7 F
        obtain ⟨r1, r2, r3, r4, hRL⟩ := ans_g U
        have FA : Hid (∀ S, Al S U → Al (S.feed F.data.toList).1 (U.ans ⟨U.due.toNat, [103], false⟩).1 ∧ (S.feed F.data.toList).2 = RL r1 r2 r3 r4 U.pc) := fun S h => by rw [hFd.out, ← hRL]; exact al_frame h _ _ (by decide)
        obtain ⟨n0, hn0, HK⟩ := HU.out.2.1
        have hL29 := RL_len r1 r2 r3 r4 U.pc
        have HP := hid HK.run
        have HC := hid HK.cyc
        have HOK := hid HK.ok
        have hDG : Hid (∀ x, 18 ≤ x → x < 26 → ∀ h, (RL r1 r2 r3 r4 U.pc)[x]'h = hexd (n0 / 2 ^ (4 * (25 - x)) % 16)) := fun x h1 h2 h => by
          obtain ⟨j, rfl⟩ : ∃ j, x = 18 + j := ⟨x - 18, by omega⟩
          rw [RL_dig r1 r2 r3 r4 U.pc j (by omega) h, HK.cyc, Int.toNat_natCast, show 25 - (18 + j) = 7 - j from by omega]
        have hA4 : Hid (((RL r1 r2 r3 r4 U.pc).drop 4).take 2 = hexN U.pc.ba.toNat 2 ∧ ((RL r1 r2 r3 r4 U.pc).drop 12).take 2 = hexN U.pc.bp.toNat 2 ∧ ((RL r1 r2 r3 r4 U.pc).drop 14).take 4 = hexN U.pc.bpc.toNat 4) := ⟨rfl, rfl, rfl⟩
        generalize (U.ans ⟨U.due.toNat, [103], false⟩).1 = U1 at *
        generalize RL r1 r2 r3 r4 U.pc = L at *
        clear hb7 HU hRL HK
        go_wp2_with fail
        refine (HU7.out.sa (by omega) (by omega) F L hFs (by omega) FA.out _ _ _).mono ?_
        rintro e w9 ⟨g, c, rfl, hcv, hL9⟩
        rw [hL29] at hcv
        have HR0 : Hid (Ran w w9 B P0 RB 0) := ⟨hL9.mach.1, ⟨0, HK0.out.2.2⟩, hL9.old, hL9.mach.2⟩
        have hsz : (⟨L.toArray⟩ : ByteArray).size = 29 := by show L.toArray.size = 29; simpa using hL29
        have hch : Hid (∀ x, 18 ≤ x → x < 26 → ∀ h, (⟨L.toArray⟩ : ByteArray)[x]'h = hexd (n0 / 2 ^ (4 * (25 - x)) % 16)) := fun x h1 h2 h => hDG.out x h1 h2 (by have : x < L.toArray.size := h; simpa using this)
        have hSL : Hid (∀ a b, (⟨L.toArray⟩ : ByteArray).extract a b = ⟨((L.drop a).take (b - a)).toArray⟩) := fun a b => ba_ext (by rw [ByteArray.data_extract, Array.toList_extract, List.extract_eq_take_drop])
        generalize (⟨L.toArray⟩ : ByteArray) = RS at *
        clear hL9 HU7 hby FA hFd hDG
        go_wp2_with fail
        go_loopw [14, 15] (fun nv i wr => ∃ x : Nat, 18 ≤ x ∧ x ≤ 26 ∧ i = .int .i64 (x : Int) ∧ nv = .int .i64 ((n0 / 2 ^ (4 * (26 - x)) : Nat) : Int) ∧ wr = w9) (fun _ i _ => 26 - (intOf i).toNat)
        case atStart => exact ⟨18, by omega, by omega, rfl, by rw [show n0 / 2 ^ (4 * (26 - 18)) = 0 from Nat.div_eq_of_lt (by show n0 < 4294967296; omega)]; rfl, rfl⟩
        case round =>
          obtain ⟨x, hx1, hx2, rfl, rfl, hwr⟩ := hrel
          subst hwr
          by_cases hlt : x < 26
          · have hch1 := hch.out x hx1 hlt
            have hun := unhex_hexd (n0 / 2 ^ (4 * (25 - x)))
            have hds : Hid (16 * (n0 / 2 ^ (4 * (26 - x))) + n0 / 2 ^ (4 * (25 - x)) % 16 = n0 / 2 ^ (4 * (26 - (x + 1)))) := by
              have q := dig_step n0 (x - 18) (by omega)
              rw [show 8 - (x - 18) = 26 - x from by omega, show 7 - (x - 18) = 25 - x from by omega, show 8 - (x - 18 + 1) = 26 - (x + 1) from by omega] at q
              exact q
            have hq1 : n0 / 2 ^ (4 * (26 - x)) ≤ n0 := Nat.div_le_self _ _
            have hu8 := u8_r (hexd (n0 / 2 ^ (4 * (25 - x)) % 16))
            generalize hexd (n0 / 2 ^ (4 * (25 - x)) % 16) = ch at *
            have hdg : n0 / 2 ^ (4 * (25 - x)) % 16 < 16 := Nat.mod_lt _ (by decide)
            generalize n0 / 2 ^ (4 * (25 - x)) % 16 = dg at *
            generalize hgn : n0 / 2 ^ (4 * (26 - x)) = nn at *
            have hx3 : (x : Int) < 26 := by omega
            have hx4 : x < RS.size := by omega
            have hx5 : (x : Int) < (RS.size : Int) := by omega
            unfold unhex at hun
            by_cases h57 : 57 < (ch.toNat : Int)
            · rw [if_pos h57] at hun
              go_wp2
              go_roundw
              case rel => exact ⟨x + 1, by omega, by omega, by go_num, by rw [← hds.out]; congr 1, trivial⟩
              case measure => simp [intOf]; omega
            · rw [if_neg h57] at hun
              go_wp2
              go_roundw
              case rel => exact ⟨x + 1, by omega, by omega, by go_num, by rw [← hds.out]; congr 1, trivial⟩
              case measure => simp [intOf]; omega
          · obtain rfl : x = 26 := by omega
            have e26 : n0 / 2 ^ (4 * (26 - 26)) = n0 := by simp
            rw [e26]
            have c26 : ((26 : Nat) : Int) = 26 := rfl
            rw [c26]
            go_wp2_with fail
            go_loopw [18] (fun i wr => ∃ j : Nat, j ≤ n0 ∧ i = .int .i64 (j : Int) ∧ Hid (Ran w wr B P0 RB j)) (fun i _ => n0 - (intOf i).toNat)
            case atStart => exact ⟨0, by omega, rfl, HR0.out⟩
            case round =>
              obtain ⟨j, hj, rfl, HR⟩ := hrel
              clear HR0
              by_cases hlt2 : j < n0
              · have hj2 : (j : Int) < (n0 : Int) := by omega
                obtain ⟨tn, htr⟩ := HR.out.2.1
                have MC := mCycle_any (Tn.refl HR.out.1) false false (tri_wf (s := (P0.runN j).rr RB) (n := tn) (by cases htr with | idle a b c => exact .idle a b c | mid m a b c d e f => exact .mid m a b c d e f | two a b => exact .two a b | three a b => exact .three a b | four a b => exact .four a b | jam a => exact .jam a))
                have HN : Hid (∀ W', Tn B (cycV ((P0.runN j).rr RB) false false).1 wr W' → Ran w W' B P0 RB (j + 1)) := fun W' T => HR.out.next (HOK.out j hlt2) T
                generalize (cycV ((P0.runN j).rr RB) false false) = cv at *
                clear htr HR
                go_wp2_with fail
                refine MC.mono ?_
                rintro e w10 ⟨rfl, T10⟩
                have HR1 := hid (HN.out _ T10)
                clear T10 MC HN
                go_wp2
                go_roundw
                case rel => exact ⟨j + 1, by omega, by go_num, HR1.out⟩
                case measure => simp [intOf]; omega
              · obtain rfl : j = n0 := by omega
                have MR := mRegs_any (Tn.refl HR.out.1)
                have rA := HR.out.1.rba
                have rP := HR.out.1.rbp
                have rPC := HR.out.1.rbpc
                have hcy : ((P0.runN j).rr RB).cyc = (j : Int) := by show (P0.runN j).cyc = _; rw [← HP.out]; exact HC.out
                have eA : U.pc.ba = ((P0.runN j).rr RB).ba := by rw [HP.out]; rfl
                have eP : U.pc.bp = ((P0.runN j).rr RB).bp := by rw [HP.out]; rfl
                have ePC : U.pc.bpc = ((P0.runN j).rr RB).bpc := by rw [HP.out]; rfl
                have HBW := hid HR.out.2.2.1
                unfold PC.regs RegI.val at MR
                rw [hcy] at MR
                dsimp only at MR
                rw [eA, eP, ePC] at hA4
                generalize ((P0.runN j).rr RB).ba = xA at *
                generalize ((P0.runN j).rr RB).bp = xP at *
                generalize ((P0.runN j).rr RB).bpc = xPC at *
                obtain ⟨yA, rfl⟩ : ∃ y : Nat, xA = y := ⟨xA.toNat, by omega⟩
                obtain ⟨yP, rfl⟩ : ∃ y : Nat, xP = y := ⟨xP.toNat, by omega⟩
                obtain ⟨yC, rfl⟩ : ∃ y : Nat, xPC = y := ⟨xPC.toNat, by omega⟩
                rw [Int.toNat_natCast, Int.toNat_natCast, Int.toNat_natCast] at hA4
                have F1 := func4x_any yC (by omega)
                have F2 := func4x_any yA (by omega)
                have F3 := func4x_any yP (by omega)
                have x1 : RS.extract 14 18 = ⟨(hexN yC 4).toArray⟩ := by rw [hSL.out, hA4.out.2.2]
                have x2 : RS.extract 4 6 = (⟨(hexN yA 4).toArray⟩ : ByteArray).extract 2 4 := by rw [hSL.out, hA4.out.1]; rfl
                have x3 : RS.extract 12 14 = (⟨(hexN yP 4).toArray⟩ : ByteArray).extract 2 4 := by rw [hSL.out, hA4.out.2.1]; rfl
                have z1 : (⟨(hexN yC 4).toArray⟩ : ByteArray).size = 4 := rfl
                have z2 : (⟨(hexN yA 4).toArray⟩ : ByteArray).size = 4 := rfl
                have z3 : (⟨(hexN yP 4).toArray⟩ : ByteArray).size = 4 := rfl
                generalize (⟨(hexN yC 4).toArray⟩ : ByteArray) = SC at *
                generalize (⟨(hexN yA 4).toArray⟩ : ByteArray) = SA at *
                generalize (⟨(hexN yP 4).toArray⟩ : ByteArray) = SP at *
                clear HR HC HP hch hSL hA4 eA eP ePC hcy
                go_wp2_with fail
                refine MR.mono ?_
                rintro e w10 ⟨rfl, hb10⟩
                have HB10 := hid (HBW.out.trans (hb10.mono HBW.out.size))
                clear hb10 HBW MR
                go_wp2_with fail
                refine (F1 _).mono ?_
                rintro e w11 ⟨rfl, hw11⟩
                subst hw11
                go_wp2_with fail
                refine (F2 _).mono ?_
                rintro e w11 ⟨rfl, hw11⟩
                subst hw11
                go_wp2_with fail
                refine (F3 _).mono ?_
                rintro e w11 ⟨rfl, hw11⟩
                subst hw11
                clear F1 F2 F3
                go_wp2_with fail
                go_quiet (fail)
                go_wp2
                go_ret
                exact ⟨rfl, bl_drewN (bl_alloc HB10.out) _⟩

end Go.Proofs.YtcgjliflnnklnabGreat
