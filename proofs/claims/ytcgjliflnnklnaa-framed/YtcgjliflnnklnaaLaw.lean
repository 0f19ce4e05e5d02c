/-
  The walk of Framed.
-/
import Derived.Test.YtcgjliflnnklnaaLawA
import Derived.Deep.LoopGhost
import Derived.Deep.QuietTactic
import Derived.BigQuiet
import Derived.Laws.AppendOwnNone
namespace Go.Proofs.Ytcgjliflnnklnaa
open Go.RowKit

set_option maxRecDepth 100000 in
set_option maxHeartbeats 4000000 in
theorem framed_walk (a0 : Int) (s ah : ByteArray) (a3 a4 : Int) (y : UInt8) (w : World) (h01 : -9223372036854775808 ≤ a0) (h02 : a0 ≤ 9223372036854775807) (h31 : -9223372036854775808 ≤ a3) (h32 : a3 ≤ 9223372036854775807) (h41 : -9223372036854775808 ≤ a4) (h42 : a4 ≤ 9223372036854775807)
    (hs : s.size ≤ 80) (hah : ah.size ≤ 140737488351232) :
    Calls Try.prog 3 #[.int .i64 a0, .string s, .string ah, .int .i64 a3, .int .i64 a4, .int .u8 y.toNat] w fun e w' => e = .returned (.bool true) ∧ Below w.heap.size w w' := by
  obtain ⟨i0, hi, hz0, hz1, hz2⟩ := info_parts inf_pk
  go_enter Try.func3, Try.ntmps3
  go_wp2_with fail
  refine (pick_any a0 256 _ (by omega) (by omega) h01 h02).mono ?_
  rintro e w' ⟨⟨n, hn, rfl⟩, hw⟩
  subst w'
  obtain ⟨b, hb⟩ := u8_of hn
  rw [hb]
  clear hb hn
  go_wp2_with fail
  refine (frame_any b s _ hs).mono ?_
  rintro e w1 ⟨v, rfl, hO⟩
  obtain ⟨g, cap, rfl, hown, hbel, hsz⟩ := hO
  have hfl : (frameOf b s.data.toList).length ≤ 166 := by rw [frameOf_eq]; have := raw_len b s.data.toList (by simpa using hs); simp; omega
  have hf6 : 6 ≤ (frameOf b s.data.toList).length := by simp [frameOf, hex2]
  have HF : Hid (frameOf b s.data.toList = 36 :: rawOf b s.data.toList ++ [35, hexd ((sum8 (rawOf b s.data.toList)).toNat / 16), hexd ((sum8 (rawOf b s.data.toList)).toNat % 16)]) := frameOf_eq _ _
  generalize frameOf b s.data.toList = f at *
  have HO : Hid (w1.ownsRow w.heap.size 5 1 (.slice (some ⟨g, 0, none⟩) f.length cap) f.length (vals f)) := hown
  clear hown
  go_wp2_with fail
  refine (newScan_any _).mono ?_
  rintro e w2 ⟨rfl, hS, hg2, hz2⟩
  have HS : Hid (ScAt w2 w1.heap.size sc0 ∧ w1.grownBy w2 none ∧ w2.heap.size = w1.heap.size + 1) := ⟨hS, hg2, hz2⟩
  clear hS hg2 hz2
  have t6 : (6 : Int) ≤ (f.length : Int) := by omega
  go_wp2_with fail
  go_loop [17, 18] (fun t i => ∃ (k : Nat) (h : ByteArray), k ≤ ah.size ∧ i = .int .i64 k ∧ t = .string h ∧ Hid (h.data.toList = headOf (ah.data.toList.take k)) ∧ h.size ≤ k) (fun _ i => ah.size - (intOf i).toNat)
  case atStart => exact ⟨0, ⟨#[]⟩, Nat.zero_le _, rfl, rfl, rfl, by simp [ByteArray.size]⟩
  case round =>
    obtain ⟨k, h, hk, rfl, rfl, hh, hhs⟩ := hrel
    by_cases hlt : k < ah.size
    · have hd : Hid (headOf (ah.data.toList.take (k + 1)) = headOf (ah.data.toList.take k) ++ (if ah[k] = 36 then [] else [ah[k]])) := by
        show _ = _
        rw [take_snoc ah k hlt]; simp only [headOf, List.filter_append, List.filter_cons, List.filter_nil]; split <;> simp_all
      by_cases h36 : ah[k] = 36
      · have t1 : ((ah[k].toNat : Int) != 36) = false := by rw [h36]; rfl
        have hd' : Hid (headOf (ah.data.toList.take (k + 1)) = headOf (ah.data.toList.take k)) := by show _ = _; rw [hd.out, if_pos h36]; simp
        clear h36 hd
        go_wp2
        go_round
        case rel => exact ⟨k + 1, h, by omega, by go_num, rfl, by show _ = _; rw [hd'.out]; exact hh, by omega⟩
        case measure => simp [intOf]; omega
      · have t1 : ((ah[k].toNat : Int) != 36) = true := c_bne (c_ne (n := 36) h36)
        have hd' : Hid (headOf (ah.data.toList.take (k + 1)) = headOf (ah.data.toList.take k) ++ [ah[k]]) := by show _ = _; rw [hd.out, if_neg h36]
        clear h36 hd
        go_wp2
        go_round
        case rel => exact ⟨k + 1, _, by omega, by go_num, rfl, by show _ = _; rw [ext1 h ah k hlt, hd'.out, hh.out], by have := ext1_size h ah k hlt; omega⟩
        case measure => simp [intOf]; omega
    · have hk' : Hid (h.data.toList = headOf ah.data.toList) := by show _ = _; rw [hh.out, List.take_of_length_le (by simp; omega)]
      clear hh
      have hconv := to_string (HO.out.kept HS.out.2.1 (by cases (Value.slice (some ⟨g, 0, none⟩) f.length cap).ownBlock <;> simp))
      have HT : Hid ((h ++ (⟨f.toArray⟩ : ByteArray)).data.toList = headOf ah.data.toList ++ f) := by show _ = _; rw [ByteArray.data_append, Array.toList_append, hk'.out]
      have hTs : (h ++ (⟨f.toArray⟩ : ByteArray)).size = h.size + f.length := by rw [size_toList, HT.out, List.length_append, ← hk'.out]; simp
      have hTs2 : h.size + f.length ≤ 140737488351398 := by omega
      go_wp2_with fail
      refine (pick_any a3 _ _ (by omega) (by omega) h31 h32).mono ?_
      rintro e w' ⟨⟨r, hr, rfl⟩, hw⟩
      subst w'
      generalize h ++ (⟨f.toArray⟩ : ByteArray) = t at *
      have hr1 : r ≤ t.size := by omega
      have ht47 : t.size ≤ 140737488351398 := by omega
      have hr2 : (r : Int) ≤ (t.size : Int) := by omega
      have hby := to_bytes
      have HS0 : Hid (St w w1.heap.size g cap f w2) := ⟨hbel.grown HS.out.2.1 hsz (by simp), HO.out.kept HS.out.2.1 (.inr (by simp [Value.ownBlock])), hsz, (HO.out.lt g rfl).2⟩
      clear hTs hTs2 hr hk' hhs hk hlt hconv
      by_cases hrT : r < t.size
      · have HC : Hid (feedP sc0 (t.data.toList.take r) = [] ∧ feedP (feedS sc0 (t.data.toList.take r)) (t.data.toList.drop r) = [⟨b.toNat, s.data.toList, false⟩]) := by
          have := cut_less' ah.data.toList b s.data.toList f r (by simpa using hs) HF.out (by rw [← HT.out]; simpa using hrT)
          rw [← HT.out] at this; exact this
        go_wp2_with fail
        refine (scanFeed_len w1.heap.size w2.heap.size 0 _ r sc0 (t.data.toList.take r) _ (by simp; omega) (by exact HS.out.1.allocDrew _) (by simp; omega) (by exact bytes_take _ _ _ _ _) (by have := HS.out.2.2; omega) (by rw [HC.out.1]; simp)).mono ?_
        rintro e w4 ⟨v1, rfl, hF1⟩
        have HS4 : Hid (St w w1.heap.size g cap f w4 ∧ ScAt w4 w1.heap.size (feedS sc0 (t.data.toList.take r))) := ⟨(HS0.out.alloc _).fed hF1, hF1.sc⟩
        obtain rfl := hF1.nil HC.out.1
        clear hF1
        go_wp2_with fail
        refine (scanFeed_len w1.heap.size w4.heap.size 0 _ (t.size - r) (feedS sc0 (t.data.toList.take r)) (t.data.toList.drop r) _ (by simp) (by exact HS4.out.2.allocDrew _) (by simp; omega) (by exact bytes_drop' _ _ _ _ _) (by have := HS4.out.2.lt; omega) (by rw [HC.out.2]; simp)).mono ?_
        rintro e w6 ⟨v2, rfl, hF2⟩
        rw [HC.out.2] at hF2
        have HS6 : Hid (St w w1.heap.size g cap f w6) := (HS4.out.1.alloc _).fed hF2
        obtain ⟨g2, c2, rfl⟩ := own_form1 hF2.own
        have HO2 : Hid (w6.ownsRow _ 32 3 (.slice (some ⟨g2, 0, none⟩) 1 c2) 1 (Pk.cells ⟨b.toNat, s.data.toList, false⟩)) := hF2.own
        clear hF2 HS4 HC HS HS0
        have hrT' : (r : Int) < (t.size : Int) := by omega
        go_wp2_with (first | (at_builtin; go_must (refine wpList_append_lies _ rfl (.tmp 107) (.tmp 108) 29 rfl w.heap.size 32 i0 _ 3 32 und_pks hi hz0 hz1 hz2 rfl (by decide) (.slice none 0 0) 0 [] rfl (World.ownsRow_nil _ _ _ _) ⟨g2, 0, none⟩ 1 c2 (Pk.cells ⟨b.toNat, s.data.toList, false⟩) rfl rfl ?_ ?_ (by decide) ?_ ?_ ?_ _ rfl ?_; exact HO2.out.cells rfl; exact three_one _; (unfold maxLen; omega); omega; exact HS6.out.bel.size; intro g' cap' w7 hown' hgrow hat hlt'; obtain ⟨d0, d1, d2⟩ := pk_cells hown'; rw [str_back] at d1; have HS7 : Hid (St w w1.heap.size g cap f w7) := HS6.out.grown hgrow; have hconv := to_string HS7.out.own; clear hown' hgrow hat hlt' HS6 HO2)))
        refine (pick_any a4 _ _ (by omega) (by omega) h41 h42).mono ?_
        rintro e w8 ⟨⟨q, hq, rfl⟩, hw8⟩
        have HX : Hid (Xs w g w7.heap.size f f w8) := by rw [hw8]; exact xs_new HS7.out _
        clear hw8 HS7 hconv d0 d1 d2 HT hr1 ht47 hr2 hrT' hby HO hbel hsz
        generalize grownCap w7 f.length 0 5 = cx at *
        generalize w7.heap.size = X at *
        have hq1 : 1 + q < f.length := by omega
        have c0 := HX.out.xb (1 + q) hq1
        rw [Nat.zero_add] at c0
        have fr0 := HX.out.free (1 + q) hq1
        have hq2 : (1 : Int) + (q : Int) < (f.length : Int) := by omega
        have bc : (f[1 + q].toNat : Int) < 256 := by have := f[1 + q].toNat_lt; omega
        have byy : (y.toNat : Int) < 256 := by have := y.toNat_lt; omega
        go_wp2_with fail
        have HX' : Hid (Xs w g X f (f.set (1 + q) (f[1 + q] + y)) (w8.setCell ⟨X, 1 + q, none⟩ (.int .u8 (((f[1 + q].toNat : Int) + (y.toNat : Int)) % 256)))) := by
          have := HX.out.set (1 + q) hq1 (f[1 + q] + y); rw [← add_u8] at this; exact this
        clear HX c0 fr0 byy
        go_loopg [] (meas f[1 + q] (f[1 + q] + y)) (fun k wr => ∃ u : UInt8, Hid (k = meas f[1 + q] u) ∧ Xs w g X f (f.set (1 + q) u) wr)
        case atStart => exact ⟨_, rfl, HX'.out⟩
        case round =>
          clear HX'
          obtain ⟨u, hk, hX⟩ := hrel
          have HX : Hid (Xs w g X f (f.set (1 + q) u) wr) := hX
          have c1 : wr.cell? ⟨X, 1 + q, none⟩ = some (.int .u8 (u.toNat : Int)) := by
            have := hX.xb (1 + q) (by simpa using hq1); rw [Nat.zero_add] at this; rw [this]; simp
          have c2 : wr.cell? ⟨g, 1 + q, none⟩ = some (.int .u8 (f[1 + q].toNat : Int)) := by
            have := hX.fb (1 + q) hq1; rw [Nat.zero_add] at this; exact this
          have fr := hX.free (1 + q) (by simpa using hq1)
          have bu : (u.toNat : Int) < 256 := by have := u.toNat_lt; omega
          clear hX
          by_cases e1 : u = f[1 + q]
          · have hdown : meas f[1 + q] (u + 1) < gk := by rw [hk.out]; exact meas_down _ _ (.inl e1)
            subst e1
            go_wp2_with fail
            go_quiet (fail)
            go_wp2
            go_roundg (meas f[1 + q] (f[1 + q] + 1))
            case measure => exact hdown
            case rel => exact ⟨f[1 + q] + 1, rfl, xs_step HX.out hq1⟩
          · have t1 : ((u.toNat : Int) == (f[1 + q].toNat : Int)) = false := by rw [beq_eq_false_iff_ne]; intro e; exact e1 (UInt8.toNat_inj.1 (by omega))
            by_cases e2 : u = 36
            · have hdown : meas f[1 + q] (u + 1) < gk := by rw [hk.out]; exact meas_down _ _ (.inr (.inl e2))
              have t2 : ((u.toNat : Int) == 36) = true := by rw [e2]; rfl
              have hu : Hid (u = 36) := e2
              clear e1 e2
              go_wp2_with fail
              go_quiet (fail)
              go_wp2
              go_roundg (meas f[1 + q] (u + 1))
              case measure => exact hdown
              case rel => exact ⟨u + 1, rfl, xs_step HX.out hq1⟩
            · have t2 : ((u.toNat : Int) == 36) = false := c_ne (n := 36) e2
              by_cases e3 : u = 35
              · have hdown : meas f[1 + q] (u + 1) < gk := by rw [hk.out]; exact meas_down _ _ (.inr (.inr e3))
                have t3 : ((u.toNat : Int) == 35) = true := by rw [e3]; rfl
                clear e1 e2 e3
                go_wp2_with fail
                go_quiet (fail)
                go_wp2
                go_roundg (meas f[1 + q] (u + 1))
                case measure => exact hdown
                case rel => exact ⟨u + 1, rfl, xs_step HX.out hq1⟩
              · have t3 : ((u.toNat : Int) == 35) = false := c_ne (n := 35) e3
                have hbad : Hid (feedP sc0 (f.set (1 + q) u) = [badPk]) := turned_bad' HF.out (by simpa using hs) hq1 (by omega) e1 e2 e3
                clear e1 e2 e3 hk HF
                go_wp2_with fail
                go_quiet (fail)
                go_wp2_with fail
                refine (newScan_any _).mono ?_
                rintro e w9 ⟨rfl, hS, hg9, hz9⟩
                have H9 : Hid (Xs w g X f (f.set (1 + q) u) w9 ∧ ScAt w9 wr.heap.size sc0 ∧ X < wr.heap.size ∧ w.heap.size ≤ wr.heap.size) := ⟨(HX.out.drewN nq).grown hg9 (World.block_lt_of_cell? _ _ (HX.out.fb 0 (by omega))), hS, HX.out.xlt, HX.out.bel.size⟩
                clear hS hg9 hz9 HX c1 fr
                go_wp2_with fail
                refine (scanFeed_len wr.heap.size X 0 _ f.length sc0 (f.set (1 + q) u) _ (by simp) H9.out.2.1 (by simp; omega) H9.out.1.xb (by have := H9.out.2.2.1; omega) (by rw [hbad.out]; simp)).mono ?_
                rintro e w10 ⟨v3, rfl, hF3⟩
                rw [hbad.out] at hF3
                obtain ⟨g3, c3, rfl⟩ := own_form1 hF3.own
                have d3 : w10.cell? ⟨g3, 2, none⟩ = some (.bool true) := (pk_cells (p := badPk) hF3.own).2.2
                have HB : Hid (Below w.heap.size w w10) := H9.out.1.bel.grown hF3.grown (H9.out.1.bel.size) (fun k e => by injection e with e; have := H9.out.2.2.2; omega)
                clear hF3 H9 hbad t1 t2 t3 c2
                go_wp2_with fail
                go_loop [26] (fun j => ∃ m : Nat, m ≤ 1 ∧ j = .int .i64 m) (fun j => 1 - (intOf j).toNat)
                case atStart => exact ⟨0, by omega, rfl⟩
                case round =>
                  obtain ⟨m, hm, rfl⟩ := hrel
                  rcases (show m = 0 ∨ m = 1 by omega) with rfl | rfl
                  · go_wp2
                    go_round
                    case rel => exact ⟨1, by omega, by go_num⟩
                    case measure => simp [intOf]
                  · go_wp2
                    go_ret
                    exact ⟨rfl, HB.out⟩
      · have hre : r = t.size := by omega
        have HC : Hid (feedP sc0 (t.data.toList.take r) = [⟨b.toNat, s.data.toList, false⟩] ∧ feedP (feedS sc0 (t.data.toList.take r)) (t.data.toList.drop r) = []) := by
          have := cut_whole' ah.data.toList b s.data.toList f r (by simpa using hs) HF.out (by rw [← HT.out]; simpa using hre)
          rw [← HT.out] at this; exact this
        clear hre
        go_wp2_with fail
        refine (scanFeed_len w1.heap.size w2.heap.size 0 _ r sc0 (t.data.toList.take r) _ (by simp; omega) (by exact HS.out.1.allocDrew _) (by simp; omega) (by exact bytes_take _ _ _ _ _) (by have := HS.out.2.2; omega) (by rw [HC.out.1]; simp)).mono ?_
        rintro e w4 ⟨v1, rfl, hF1⟩
        have HS4 : Hid (St w w1.heap.size g cap f w4 ∧ ScAt w4 w1.heap.size (feedS sc0 (t.data.toList.take r))) := ⟨(HS0.out.alloc _).fed hF1, hF1.sc⟩
        rw [HC.out.1] at hF1
        obtain ⟨g', cap', rfl⟩ := own_form1 hF1.own
        have HO1 : Hid (w4.ownsRow _ 32 3 (.slice (some ⟨g', 0, none⟩) 1 cap') 1 (Pk.cells ⟨b.toNat, s.data.toList, false⟩)) := hF1.own
        have hgB : w1.heap.size ≠ g' := by have h1 := (hF1.own.lt g' rfl).1; have h2 := HS.out.2.2; simp at h1; omega
        clear hF1
        go_wp2_with fail
        refine (scanFeed_len w1.heap.size w4.heap.size 0 _ (t.size - r) (feedS sc0 (t.data.toList.take r)) (t.data.toList.drop r) _ (by simp) (by exact HS4.out.2.allocDrew _) (by simp; omega) (by exact bytes_drop' _ _ _ _ _) (by have := HS4.out.2.lt; omega) (by rw [HC.out.2]; simp)).mono ?_
        rintro e w7 ⟨v2, rfl, hF2⟩
        rw [HC.out.2] at hF2
        have HS7 : Hid (St w w1.heap.size g cap f w7) := (HS4.out.1.alloc _).fed hF2
        have HO7 : Hid (w7.ownsRow _ 32 3 (.slice (some ⟨g', 0, none⟩) 1 cap') 1 (Pk.cells ⟨b.toNat, s.data.toList, false⟩)) := own_fed HO1.out hF2 hgB
        obtain rfl := hF2.nil rfl
        obtain ⟨d0, d1, d2⟩ := pk_cells HO7.out
        rw [str_back] at d1
        have hconv := to_string HS7.out.own
        clear hF2 HS4 HC HS HS0 HO1 hgB
        have hrT' : (t.size : Int) ≤ (r : Int) := by omega
        go_wp2_with (first | (at_builtin; go_must (refine wpList_append_own_none rfl (.tmp 107) (.tmp 108) 29 rfl _ 32 i0 3 und_pks hi (.slice (some ⟨g', 0, none⟩) 1 cap') 1 (Pk.cells ⟨b.toNat, s.data.toList, false⟩) rfl HO7.out rfl ?_; clear HO7)))
        refine (pick_any a4 _ _ (by omega) (by omega) h41 h42).mono ?_
        rintro e w8 ⟨⟨q, hq, rfl⟩, hw8⟩
        have HX : Hid (Xs w g w7.heap.size f f w8) := by rw [hw8]; exact xs_new HS7.out _
        clear hw8 HS7 hconv d0 d1 d2 HT hr1 ht47 hr2 hrT' hby HO hbel hsz
        generalize grownCap w7 f.length 0 5 = cx at *
        generalize w7.heap.size = X at *
        have hq1 : 1 + q < f.length := by omega
        have c0 := HX.out.xb (1 + q) hq1
        rw [Nat.zero_add] at c0
        have fr0 := HX.out.free (1 + q) hq1
        have hq2 : (1 : Int) + (q : Int) < (f.length : Int) := by omega
        have bc : (f[1 + q].toNat : Int) < 256 := by have := f[1 + q].toNat_lt; omega
        have byy : (y.toNat : Int) < 256 := by have := y.toNat_lt; omega
        go_wp2_with fail
        have HX' : Hid (Xs w g X f (f.set (1 + q) (f[1 + q] + y)) (w8.setCell ⟨X, 1 + q, none⟩ (.int .u8 (((f[1 + q].toNat : Int) + (y.toNat : Int)) % 256)))) := by
          have := HX.out.set (1 + q) hq1 (f[1 + q] + y); rw [← add_u8] at this; exact this
        clear HX c0 fr0 byy
        go_loopg [] (meas f[1 + q] (f[1 + q] + y)) (fun k wr => ∃ u : UInt8, Hid (k = meas f[1 + q] u) ∧ Xs w g X f (f.set (1 + q) u) wr)
        case atStart => exact ⟨_, rfl, HX'.out⟩
        case round =>
          clear HX'
          obtain ⟨u, hk, hX⟩ := hrel
          have HX : Hid (Xs w g X f (f.set (1 + q) u) wr) := hX
          have c1 : wr.cell? ⟨X, 1 + q, none⟩ = some (.int .u8 (u.toNat : Int)) := by
            have := hX.xb (1 + q) (by simpa using hq1); rw [Nat.zero_add] at this; rw [this]; simp
          have c2 : wr.cell? ⟨g, 1 + q, none⟩ = some (.int .u8 (f[1 + q].toNat : Int)) := by
            have := hX.fb (1 + q) hq1; rw [Nat.zero_add] at this; exact this
          have fr := hX.free (1 + q) (by simpa using hq1)
          have bu : (u.toNat : Int) < 256 := by have := u.toNat_lt; omega
          clear hX
          by_cases e1 : u = f[1 + q]
          · have hdown : meas f[1 + q] (u + 1) < gk := by rw [hk.out]; exact meas_down _ _ (.inl e1)
            subst e1
            go_wp2_with fail
            go_quiet (fail)
            go_wp2
            go_roundg (meas f[1 + q] (f[1 + q] + 1))
            case measure => exact hdown
            case rel => exact ⟨f[1 + q] + 1, rfl, xs_step HX.out hq1⟩
          · have t1 : ((u.toNat : Int) == (f[1 + q].toNat : Int)) = false := by rw [beq_eq_false_iff_ne]; intro e; exact e1 (UInt8.toNat_inj.1 (by omega))
            by_cases e2 : u = 36
            · have hdown : meas f[1 + q] (u + 1) < gk := by rw [hk.out]; exact meas_down _ _ (.inr (.inl e2))
              have t2 : ((u.toNat : Int) == 36) = true := by rw [e2]; rfl
              have hu : Hid (u = 36) := e2
              clear e1 e2
              go_wp2_with fail
              go_quiet (fail)
              go_wp2
              go_roundg (meas f[1 + q] (u + 1))
              case measure => exact hdown
              case rel => exact ⟨u + 1, rfl, xs_step HX.out hq1⟩
            · have t2 : ((u.toNat : Int) == 36) = false := c_ne (n := 36) e2
              by_cases e3 : u = 35
              · have hdown : meas f[1 + q] (u + 1) < gk := by rw [hk.out]; exact meas_down _ _ (.inr (.inr e3))
                have t3 : ((u.toNat : Int) == 35) = true := by rw [e3]; rfl
                clear e1 e2 e3
                go_wp2_with fail
                go_quiet (fail)
                go_wp2
                go_roundg (meas f[1 + q] (u + 1))
                case measure => exact hdown
                case rel => exact ⟨u + 1, rfl, xs_step HX.out hq1⟩
              · have t3 : ((u.toNat : Int) == 35) = false := c_ne (n := 35) e3
                have hbad : Hid (feedP sc0 (f.set (1 + q) u) = [badPk]) := turned_bad' HF.out (by simpa using hs) hq1 (by omega) e1 e2 e3
                clear e1 e2 e3 hk HF
                go_wp2_with fail
                go_quiet (fail)
                go_wp2_with fail
                refine (newScan_any _).mono ?_
                rintro e w9 ⟨rfl, hS, hg9, hz9⟩
                have H9 : Hid (Xs w g X f (f.set (1 + q) u) w9 ∧ ScAt w9 wr.heap.size sc0 ∧ X < wr.heap.size ∧ w.heap.size ≤ wr.heap.size) := ⟨(HX.out.drewN nq).grown hg9 (World.block_lt_of_cell? _ _ (HX.out.fb 0 (by omega))), hS, HX.out.xlt, HX.out.bel.size⟩
                clear hS hg9 hz9 HX c1 fr
                go_wp2_with fail
                refine (scanFeed_len wr.heap.size X 0 _ f.length sc0 (f.set (1 + q) u) _ (by simp) H9.out.2.1 (by simp; omega) H9.out.1.xb (by have := H9.out.2.2.1; omega) (by rw [hbad.out]; simp)).mono ?_
                rintro e w10 ⟨v3, rfl, hF3⟩
                rw [hbad.out] at hF3
                obtain ⟨g3, c3, rfl⟩ := own_form1 hF3.own
                have d3 : w10.cell? ⟨g3, 2, none⟩ = some (.bool true) := (pk_cells (p := badPk) hF3.own).2.2
                have HB : Hid (Below w.heap.size w w10) := H9.out.1.bel.grown hF3.grown (H9.out.1.bel.size) (fun k e => by injection e with e; have := H9.out.2.2.2; omega)
                clear hF3 H9 hbad t1 t2 t3 c2
                go_wp2_with fail
                go_loop [26] (fun j => ∃ m : Nat, m ≤ 1 ∧ j = .int .i64 m) (fun j => 1 - (intOf j).toNat)
                case atStart => exact ⟨0, by omega, rfl⟩
                case round =>
                  obtain ⟨m, hm, rfl⟩ := hrel
                  rcases (show m = 0 ∨ m = 1 by omega) with rfl | rfl
                  · go_wp2
                    go_round
                    case rel => exact ⟨1, by omega, by go_num⟩
                    case measure => simp [intOf]
                  · go_wp2
                    go_ret
                    exact ⟨rfl, HB.out⟩

end Go.Proofs.Ytcgjliflnnklnaa
