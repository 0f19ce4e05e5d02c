/-
  wire.Frame and stylet.Frame.
-/
import Derived.Test.YtcgjliflnnklnaaGreatEsc
namespace Go.Proofs.YtcgjliflnnklnaaGreat
open Go.RowKit

def rawOf (b : UInt8) (body : List UInt8) : List UInt8 := hex2 b ++ esc body
def frameOf (b : UInt8) (body : List UInt8) : List UInt8 := [36] ++ hex2 b ++ esc body ++ [35] ++ hex2 (sum8 (rawOf b body))

theorem owns_bytes {base : Nat} {w : World} {g cap : Nat} {l : List UInt8} (h : w.ownsRow base 5 1 (.slice (some ⟨g, 0, none⟩) l.length cap) l.length (vals l)) : BytesAt w g 0 l := by
  intro i hi
  have := h.cellAt i (by omega)
  rw [Nat.zero_add, this]; simp [vals, List.getElem?_eq_getElem hi]

theorem bytes_tail {w : World} {g : Nat} {c : UInt8} {l : List UInt8} (h : BytesAt w g 0 (c :: l)) : BytesAt w g 1 l := by
  intro i hi
  have := h (i + 1) (by simpa using hi)
  simpa [Nat.add_comm] using this

theorem own_cap {base : Nat} {w : World} {g n cap : Nat} {xs : List Value} (h : w.ownsRow base 5 1 (.slice (some ⟨g, 0, none⟩) n cap) n xs) : n ≤ cap := by
  rcases h.2 with ⟨e, _⟩ | ⟨g', cap', cur, e, _, _, h1, _⟩
  · simp at e
  · injection e with e1 e2 e3; omega

set_option maxRecDepth 100000 in
set_option maxHeartbeats 1000000 in
theorem wireFrame_any (b : UInt8) (s : ByteArray) (w : World) (hs : s.size ≤ 80) :
    Calls Tryz.prog 56 #[.int .i64 b.toNat, .string s] w fun e w' => ∃ v, e = .returned (.tuple #[v, .int .i64 0]) ∧ Owns w.heap.size w w' v (frameOf b s.data.toList) := by
  have hc : (b.toNat : Int) < 256 := by have := b.toNat_lt; omega
  obtain ⟨i0, hi, hz0, hz1, hz2⟩ := info_parts inf_u8
  have hel : (esc s.data.toList).length ≤ 160 := by have := esc_len s.data.toList; simp at this; omega
  have O0 : Hid (Owns w.heap.size w (w.alloc (.cells #[.int .u8 36] 5)) (.slice (some ⟨w.heap.size, 0, none⟩) 1 1) [36]) := by
    refine ⟨w.heap.size, 1, rfl, ?_, (Below.refl _ _).alloc (Nat.le_refl _) _, by simp⟩
    exact World.ownsRow_lit w #[.int .u8 36] 1 (Nat.le_refl _) (by decide) rfl
  go_enter Tryz.func56, Tryz.ntmps56
  go_wp2_with fail
  refine (appendHex_owns w.heap.size _ [36] b.toNat 2 w _ O0.out (by simp) (by omega) (by omega)).mono ?_
  rintro e w1 ⟨v1, rfl, O1⟩
  rw [hexN_two] at O1
  have H1 : Hid (Owns w.heap.size w w1 v1 ([36] ++ hex2 b)) := O1
  clear O1 O0
  go_wp2_with fail
  refine (appendEscaped_any w.heap.size v1 ([36] ++ hex2 b) s w _ H1.out (by simp [hex2]) (by omega)).mono ?_
  rintro e w2 ⟨v2, rfl, O2⟩
  have hF : Hid (frameOf b s.data.toList = 36 :: rawOf b s.data.toList ++ [35] ++ hex2 (sum8 (rawOf b s.data.toList))) := by show _ = _; simp [frameOf, rawOf]
  have hrl : (rawOf b s.data.toList).length ≤ 162 := by simp [rawOf, hex2]; omega
  have hr2 : 2 ≤ (rawOf b s.data.toList).length := by simp [rawOf, hex2]
  rw [show [36] ++ hex2 b ++ esc s.data.toList = 36 :: rawOf b s.data.toList from by simp [rawOf]] at O2
  clear H1 hel
  generalize rawOf b s.data.toList = raw at *
  obtain ⟨g2, cap2, rfl, hown2, hbel2, hsz2⟩ := O2
  have hcap := own_cap hown2
  rw [List.length_cons] at hcap
  have HB : Hid (BytesAt w2 g2 1 raw) := bytes_tail (owns_bytes hown2)
  have HO2 : Hid (w2.ownsRow w.heap.size 5 1 (.slice (some ⟨g2, 0, none⟩) (raw.length + 1) cap2) (raw.length + 1) (vals (36 :: raw))) := hown2
  clear hown2
  go_wp2_with fail
  refine (sum_any g2 1 (cap2 - 1) raw _ (by omega) HB.out).mono ?_
  rintro e w' ⟨rfl, hw⟩
  subst hw
  clear HB
  have h256 : ((sum8 raw).toNat : Int) < 256 := by have := (sum8 raw).toNat_lt; omega
  go_wp2_with (first | (at_builtin; go_must (refine wpList_append_lies _ rfl (.tmp 27) (.tmp 28) 35 rfl w.heap.size 5 i0 (.int .u8 0) 1 1 und_bytes hi hz0 hz1 hz2 rfl (by decide) (.slice (some ⟨g2, 0, none⟩) (raw.length + 1) cap2) (raw.length + 1) (vals (36 :: raw)) rfl (by exact (HO2.out.alloc _)) ⟨w'.heap.size, 0, none⟩ 1 1 [.int .u8 35] rfl rfl (one_new' _ _ _) (one_one _) (by decide) (by unfold maxLen; omega) (by omega) (by simp; omega) _ rfl ?_; intro g' cap' w4 hown' hgrow hat hlt')) | fail)
  have HO : Hid (Owns w.heap.size w w4 (.slice (some ⟨g', 0, none⟩) (raw.length + 1 + 1) cap') (36 :: raw ++ [35])) := owns_more (l := 36 :: raw) (m := [35]) HO2.out hbel2 hsz2 hown' hgrow
  clear hown' hgrow hat hlt' HO2 hbel2 hsz2
  refine (appendHex_owns w.heap.size _ (36 :: raw ++ [35]) (sum8 raw).toNat 2 w _ HO.out (by simp; omega) (by have := (sum8 raw).toNat_lt; omega) (by omega)).mono ?_
  rintro e w5 ⟨v5, rfl, O5⟩
  rw [hexN_two] at O5
  have H5 : Hid (Owns w.heap.size w w5 v5 (36 :: raw ++ [35] ++ hex2 (sum8 raw))) := O5
  clear O5 HO
  go_wp2
  go_ret2
  exact ⟨v5, rfl, by rw [hF.out]; exact H5.out⟩

set_option maxRecDepth 100000 in
set_option maxHeartbeats 400000 in
theorem frame_any (b : UInt8) (s : ByteArray) (w : World) (hs : s.size ≤ 80) :
    Calls Tryz.prog 38 #[.int .i64 b.toNat, .string s] w fun e w' => ∃ v, e = .returned (.tuple #[v, .int .i64 0]) ∧ Owns w.heap.size w w' v (frameOf b s.data.toList) := by
  go_enter Tryz.func38, Tryz.ntmps38
  go_wp2_with fail
  refine (wireFrame_any b s _ hs).mono ?_
  rintro e w1 ⟨v, rfl, O⟩
  have H : Hid (Owns w.heap.size w w1 v (frameOf b s.data.toList)) := O
  clear O
  go_wp2
  go_ret2
  exact ⟨v, rfl, H.out⟩

def zsc : Array Value := #[.int .u8 0] ++ Array.replicate 200 (.int .u8 0) ++ #[.int .i64 0, .int .u8 0]

theorem zero_scan (w : World) : Sem.run Tryz.prog (zeroValue 130) w = .ok (.agg zsc) w := by kernel_rfl

theorem zsc_raw (i : Nat) (h : i < 200) : zsc[1 + i]? = some (.int .u8 0) := by
  have : ∀ i : Fin 200, zsc[1 + i.1]? = some (.int .u8 0) := by
    intro i
    unfold zsc
    rw [Array.getElem?_append_left (by simp; omega), Array.getElem?_append_right (by simp)]
    simp
  exact this ⟨i, h⟩

theorem zsc_0 : zsc[0]? = some (.int .u8 ((0 : Nat) : Int)) := by kernel_rfl
theorem zsc_201 : zsc[201]? = some (.int .i64 ((([] : List UInt8).length : Nat) : Int)) := by kernel_rfl
theorem zsc_202 : zsc[202]? = some (.int .u8 (((0 : UInt8).toNat : Nat) : Int)) := by kernel_rfl

theorem scAt_new (w : World) (t : TypeId) : ScAt (w.alloc (.cells zsc t)) w.heap.size ⟨0, [], 0⟩ := by
  have hc : ∀ i, (w.alloc (.cells zsc t)).cell? ⟨w.heap.size, i, none⟩ = zsc[i]? := fun i => World.cell?_alloc_at _ _ _ _ rfl
  refine ⟨by simp, by simp, ?_, ?_, ?_, ?_, ?_, ?_⟩
  · rw [hc]; exact zsc_0
  · rw [hc]; exact zsc_201
  · rw [hc]; exact zsc_202
  · intro i hi; simp at hi
  · intro i hi; rw [hc, zsc_raw i hi]; exact ⟨_, rfl⟩
  · intro o; exact World.frozen?_alloc_at _ _ _ _ rfl

set_option maxRecDepth 100000 in
set_option maxHeartbeats 400000 in
theorem newScan_any (w : World) :
    Calls Tryz.prog 30 #[] w fun e w' => e = .returned (.pointer (some ⟨w.heap.size, 0, none⟩)) ∧ ScAt w' w.heap.size ⟨0, [], 0⟩ ∧ w.grownBy w' none ∧ w'.heap.size = w.heap.size + 1 := by
  have hz := zero_scan
  have HN := scAt_new w
  have H : Hid (∀ t, ScAt (w.alloc (.cells zsc t)) w.heap.size ⟨0, [], 0⟩) := HN
  clear HN
  go_enter Tryz.func30, Tryz.ntmps30
  go_wp2
  go_ret
  exact ⟨rfl, H.out _, World.grownBy_alloc _ _ _, by simp⟩

end Go.Proofs.YtcgjliflnnklnaaGreat
