/-
  Stacked holds.
-/
import Derived.Test.YtcgjliflnnklnaaGreatKpE0x
import Derived.Test.YtcgjliflnnklnaaGreatKpE1x
import Derived.Test.YtcgjliflnnklnaaGreatGA
namespace Go.Proofs.YtcgjliflnnklnaaGreat
open Go.RowKit

theorem st_runs (s a : UInt8) (c : Bool) (v1 v2 v3 v4 : Value) (R : Nat → Option Value) : runR 41 (stPC s a (flagB c) v1 v2 v3 v4 R) = stEnd a c s.toNat := by
  have hs := s.toNat_lt
  have e : UInt8.ofNat s.toNat = s := by simp
  cases c
  · have := by_range (st_all0 a v1 v2 v3 v4 R) s.toNat (by omega)
    simp only [e] at this
    exact this
  · have := by_range (st_all1 a v1 v2 v3 v4 R) s.toNat (by omega)
    simp only [e] at this
    exact this

theorem seven_new (w : World) (f : Int) (t : TypeId) : ∀ j u, [Value.int .u8 f, .int .u8 8, .int .u8 24, .int .u8 40, .int .u8 162, .int .u8 7, .int .u8 96][j]? = some u → (w.alloc (.cells #[.int .u8 f, .int .u8 8, .int .u8 24, .int .u8 40, .int .u8 162, .int .u8 7, .int .u8 96] t)).cell? ((⟨w.heap.size, 0, none⟩ : Addr).add j) = some u :=
  World.news_of_block (w := w.alloc (.cells #[.int .u8 f, .int .u8 8, .int .u8 24, .int .u8 40, .int .u8 162, .int .u8 7, .int .u8 96] t)) (cs := #[.int .u8 f, .int .u8 8, .int .u8 24, .int .u8 40, .int .u8 162, .int .u8 7, .int .u8 96]) (t := t) (fr := (0, 0)) (heap_alloc_new w _)
theorem seven_one (f : Int) : ∀ u ∈ [Value.int .u8 f, .int .u8 8, .int .u8 24, .int .u8 40, .int .u8 162, .int .u8 7, .int .u8 96], u.oneCell' = true := by
  intro u hu; simp at hu; rcases hu with rfl | rfl | rfl | rfl | rfl | rfl | rfl <;> rfl

def lenV : Value → Nat
  | .slice _ n _ => n
  | _ => 0
def stPre (s a : UInt8) : List UInt8 := [162, s, 154, 169, a, 72, 169, 0, 32, 32, 4, 104, 2]

set_option maxRecDepth 100000 in
set_option maxHeartbeats 4000000 in
theorem stacked_any (s a : UInt8) (p : Int) (hp1 : -9223372036854775808 ≤ p) (hp2 : p ≤ 9223372036854775807) (w : World) :
    Calls Tryz.prog 9 #[.int .u8 (s.toNat : Int), .int .u8 (a.toNat : Int), .int .i64 p] w fun e w' => e = .returned (.bool true) ∧ Below w.heap.size w w' := by
  have K := known_any w
  obtain ⟨i0, hi, hz0, hz1, hz2⟩ := info_parts inf_u8
  go_enter Tryz.func9, Tryz.ntmps9
  go_wp2_with (first | (go_at_call 16; refine K.mono ?_; rintro e w1 ⟨rfl, hb1⟩; have HB1 := Hid.mk' hb1; have l1 := hb1.size; clear hb1 K))
  have O0 : Hid (OwnV w1.heap.size w1 (w1.alloc (.cells (vals (stPre s a)).toArray 5)) (.slice (some ⟨w1.heap.size, 0, none⟩) 13 13) (stPre s a ++ List.replicate 0 2)) :=
    ⟨by simp only [List.replicate_zero, List.append_nil]; exact World.ownsRow_lit w1 (vals (stPre s a)).toArray 13 (Nat.le_refl _) (by decide) rfl, (Below.refl _ _).alloc (Nat.le_refl _) _, by simp⟩
  go_loopw [8] (fun v wr => ∃ k : Nat, k ≤ 19 ∧ OwnV w1.heap.size w1 wr v (stPre s a ++ List.replicate k 2)) (fun v _ => 32 - lenV v)
  case atStart => exact ⟨0, by omega, O0.out⟩
  case round =>
    obtain ⟨k, hk, hO⟩ := hrel
    clear O0
    have hln : (stPre s a ++ List.replicate k 2).length = 13 + k := by rw [List.length_append, List.length_replicate]; rfl
    obtain ⟨g, cap, rfl, o1, o2, o3⟩ := hO.form (by omega)
    rw [hln] at o1
    have HO := Hid.mk' (And.intro o1 (And.intro o2 o3))
    clear o1 o2 o3 hO
    by_cases hlt : k < 19
    · rw [hln]
      go_wp2_with (first | (at_builtin; go_must (refine wpList_append_lies _ rfl (.tmp 20) (.tmp 21) 35 rfl w1.heap.size 5 i0 (.int .u8 0) 1 1 und_bytes hi hz0 hz1 hz2 rfl (by decide) (.slice (some ⟨g, 0, none⟩) (13 + k) cap) (13 + k) (vals (stPre s a ++ List.replicate k 2)) rfl (HO.out.1.alloc _) ⟨wr.heap.size, 0, none⟩ 1 1 [.int .u8 2] rfl rfl (one_new' _ _ _) (one_one _) (by decide) (by unfold maxLen; omega) (by omega) (by have := HO.out.2.2; simp; omega) _ rfl ?_; intro g' cap' w4 hown' hgrow hat hlt')))
      refine ⟨⟨k + 1, by omega, ?_⟩, by simp [lenV]; omega⟩
      rw [List.replicate_succ', ← List.append_assoc]
      have q := ownV_more (l := stPre s a ++ List.replicate k 2) (m := [2]) (w0 := w1) (by rw [hln]; exact HO.out.1) HO.out.2.1 HO.out.2.2 (by rw [hln]; exact hown') hgrow
      rw [hln] at q
      exact q
    · have ek : k = 19 := by omega
      subst ek
      rw [hln]
      have PK := fun w => pick_any p 2 w (by decide) (by decide) hp1 hp2
      go_wp2_with fail
      refine (PK _).mono ?_
      rintro e w' ⟨⟨r, hr, rfl⟩, rfl⟩
      obtain ⟨c, hrc⟩ : ∃ c : Bool, ((r : Int) == 0) = !c := ⟨!((r : Int) == 0), by simp⟩
      have CM := fun (W : World) (g cap : Nat) (hB : BytesAt W g 0 (stCode s a (flagB c))) (hg : g < W.heap.size) => computer_ok W (.slice (some ⟨g, 0, none⟩) 39 cap) (.slice none 0 0) (.slice none 0 0) (stCode s a (flagB c)) [] [] ⟨_, _, rfl, fun _ => ⟨g, 0, rfl, hg, hB⟩⟩ (ChV.none _ _) (ChV.none _ _) (by show 39 ≤ 4000; decide)
      have ST := st_runs s a c
      obtain ⟨fI, hfI, hfc⟩ : ∃ fI : Int, ((flagB c).toNat : Int) = fI ∧ Hid (fI = if c then 56 else 24) := ⟨_, rfl, by cases c <;> rfl⟩
      have HA := Hid.mk' (stQ_says ⟨a.toNat, a.toNat_lt⟩)
      have HCM := Hid.mk' CM
      have HST := Hid.mk' ST
      have HfI := Hid.mk' hfI
      clear PK CM ST hfI
      have ap : ∀ (wr' : World) (g' cap' : Nat) (w4 : World), w4.ownsRow w1.heap.size 5 1 (.slice (some ⟨g', 0, none⟩) (32 + 7) cap') (32 + 7) (vals (stPre s a ++ List.replicate 19 2) ++ [.int .u8 fI, .int .u8 8, .int .u8 24, .int .u8 40, .int .u8 162, .int .u8 7, .int .u8 96]) → BytesAt w4 g' 0 (stCode s a (flagB c)) ∧ g' < w4.heap.size := by
        intro wr' g' cap' w4 h
        refine ⟨owns_bytes (base := w1.heap.size) (cap := cap') (l := stCode s a (flagB c)) ?_, (h.lt g' rfl).2⟩
        rw [← HfI.out] at h
        exact h
      cases c
      · have e0 : fI = 24 := hfc.out
        subst e0
        rw [Bool.not_false] at hrc
        clear hfc
        go_wp2_with (first | (at_builtin; go_must (refine wpList_append_lies _ rfl (.tmp 26) (.tmp 28) 35 rfl w1.heap.size 5 i0 (.int .u8 0) 1 1 und_bytes hi hz0 hz1 hz2 rfl (by decide) (.slice (some ⟨g, 0, none⟩) 32 cap) 32 (vals (stPre s a ++ List.replicate 19 2)) rfl (HO.out.1.alloc _) ⟨w'.heap.size, 0, none⟩ 7 7 [.int .u8 24, .int .u8 8, .int .u8 24, .int .u8 40, .int .u8 162, .int .u8 7, .int .u8 96] rfl rfl (seven_new _ _ _) (seven_one _) (by decide) (by decide) (by decide) (by have := HO.out.2.2; simp; omega) _ rfl ?_; intro g' cap' w4 hown' hgrow hat hlt')))
        obtain ⟨hB4, hg4⟩ := ap w' g' cap' w4 hown'
        have l0 := HO.out.2.2
        have hbb : Below w1.heap.size w1 w4 := (HO.out.2.1.alloc l0 _).grown hgrow (by simp; omega) (fun k e => (HO.out.1.lt k e).1)
        have HB4 := Hid.mk' (HB1.out.trans (hbb.mono l1))
        have l4 := hbb.size
        clear hown' hgrow hat hlt' hbb ap
        refine (HCM.out w4 g' cap' hB4 hg4).mono ?_
        rintro e w5 ⟨B, R, v4, hBB, rfl, hC, hb5⟩
        have HB5 := Hid.mk' (HB4.out.trans (hb5.mono HB4.out.size))
        have RN := runs_R (Tn.refl hC) 80 41 (by decide) (by decide) _ (HST.out _ _ _ _ _)
        have l5 := hb5.size
        clear HCM HST hC hb5 HB4
        obtain ⟨q, hq⟩ : ∃ q, Hid (q = stQ (bits .and .u8 (s.toNat : Int) 128 != 0) ((s.toNat : Int) == 0) a.toNat false) := ⟨_, rfl⟩
        rw [← hq.out] at RN
        obtain ⟨f1, f2⟩ := HA.out (bits .and .u8 (s.toNat : Int) 128 != 0) ((s.toNat : Int) == 0) false
        change (bits .and .i64 (stQ (bits .and .u8 (s.toNat : Int) 128 != 0) ((s.toNat : Int) == 0) (a.toNat : Int) false) 1 != 0) = false at f1
        change (bits .and .i64 (stQ (bits .and .u8 (s.toNat : Int) 128 != 0) ((s.toNat : Int) == 0) (a.toNat : Int) false) 128 != 0) = decide (127 < (a.toNat : Int)) at f2
        rw [← hq.out] at f1 f2
        obtain ⟨a0, a1⟩ := u8_r a
        obtain ⟨s0, s1⟩ := u8_r s
        rw [Int.emod_eq_of_lt a0 a1, Int.emod_eq_of_lt a0 a1] at RN
        generalize (a.toNat : Int) = A at *
        generalize (s.toNat : Int) = S at *
        go_wp2_with fail
        refine RN.mono ?_
        rintro e w6 ⟨rfl, T6⟩
        have HB6 := Hid.mk' (below_grown HB5.out T6.g (by omega) (by omega))
        have l6 := T6.g.size
        clear T6 RN
        simp only [RegI.val]
        go_wp2
        go_ret
        exact ⟨rfl, HB6.out.alloc (by omega) _⟩
      · have e0 : fI = 56 := hfc.out
        subst e0
        rw [Bool.not_true] at hrc
        clear hfc
        go_wp2_with (first | (at_builtin; go_must (refine wpList_append_lies _ rfl (.tmp 26) (.tmp 28) 35 rfl w1.heap.size 5 i0 (.int .u8 0) 1 1 und_bytes hi hz0 hz1 hz2 rfl (by decide) (.slice (some ⟨g, 0, none⟩) 32 cap) 32 (vals (stPre s a ++ List.replicate 19 2)) rfl (HO.out.1.alloc _) ⟨w'.heap.size, 0, none⟩ 7 7 [.int .u8 56, .int .u8 8, .int .u8 24, .int .u8 40, .int .u8 162, .int .u8 7, .int .u8 96] rfl rfl (seven_new _ _ _) (seven_one _) (by decide) (by decide) (by decide) (by have := HO.out.2.2; simp; omega) _ rfl ?_; intro g' cap' w4 hown' hgrow hat hlt')))
        obtain ⟨hB4, hg4⟩ := ap w' g' cap' w4 hown'
        have l0 := HO.out.2.2
        have hbb : Below w1.heap.size w1 w4 := (HO.out.2.1.alloc l0 _).grown hgrow (by simp; omega) (fun k e => (HO.out.1.lt k e).1)
        have HB4 := Hid.mk' (HB1.out.trans (hbb.mono l1))
        have l4 := hbb.size
        clear hown' hgrow hat hlt' hbb ap
        refine (HCM.out w4 g' cap' hB4 hg4).mono ?_
        rintro e w5 ⟨B, R, v4, hBB, rfl, hC, hb5⟩
        have HB5 := Hid.mk' (HB4.out.trans (hb5.mono HB4.out.size))
        have RN := runs_R (Tn.refl hC) 80 41 (by decide) (by decide) _ (HST.out _ _ _ _ _)
        have l5 := hb5.size
        clear HCM HST hC hb5 HB4
        obtain ⟨q, hq⟩ : ∃ q, Hid (q = stQ (bits .and .u8 (s.toNat : Int) 128 != 0) ((s.toNat : Int) == 0) a.toNat true) := ⟨_, rfl⟩
        rw [← hq.out] at RN
        obtain ⟨f1, f2⟩ := HA.out (bits .and .u8 (s.toNat : Int) 128 != 0) ((s.toNat : Int) == 0) true
        change (bits .and .i64 (stQ (bits .and .u8 (s.toNat : Int) 128 != 0) ((s.toNat : Int) == 0) (a.toNat : Int) true) 1 != 0) = true at f1
        change (bits .and .i64 (stQ (bits .and .u8 (s.toNat : Int) 128 != 0) ((s.toNat : Int) == 0) (a.toNat : Int) true) 128 != 0) = decide (127 < (a.toNat : Int)) at f2
        rw [← hq.out] at f1 f2
        obtain ⟨a0, a1⟩ := u8_r a
        obtain ⟨s0, s1⟩ := u8_r s
        rw [Int.emod_eq_of_lt a0 a1, Int.emod_eq_of_lt a0 a1] at RN
        generalize (a.toNat : Int) = A at *
        generalize (s.toNat : Int) = S at *
        go_wp2_with fail
        refine RN.mono ?_
        rintro e w6 ⟨rfl, T6⟩
        have HB6 := Hid.mk' (below_grown HB5.out T6.g (by omega) (by omega))
        have l6 := T6.g.size
        clear T6 RN
        simp only [RegI.val]
        go_wp2
        go_ret
        exact ⟨rfl, HB6.out.alloc (by omega) _⟩

end Go.Proofs.YtcgjliflnnklnaaGreat
