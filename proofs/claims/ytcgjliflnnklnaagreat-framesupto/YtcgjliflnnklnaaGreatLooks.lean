/-
  The book's looks: each list that came out bears its own mark.
-/
import Derived.Test.YtcgjliflnnklnaaGreatPack
namespace Go.Proofs.YtcgjliflnnklnaaGreat
open Go.RowKit

theorem book_at {e size : Nat} {xf : Nat → Nat → Value} {te base nb : Nat} {w : World} {B : Nat → Prop} {a : Option Addr} {cb : Nat} (h : BookX e size xf te w base B (.slice a nb cb) nb) (i : Nat) (hi : i < nb) :
    ∃ g v v1 v2 v3, a = some ⟨g, 0, none⟩ ∧ w.cell? ⟨g, i * 5, none⟩ = some v ∧ w.cell? ⟨g, i * 5 + 1, none⟩ = some v1 ∧ w.cell? ⟨g, i * 5 + 2, none⟩ = some v2 ∧ w.cell? ⟨g, i * 5 + 3, none⟩ = some v3 ∧ w.cell? ⟨g, i * 5 + 4, none⟩ = some (.int .i64 (i : Int)) ∧ Ent e size xf w B i v v1 v2 v3 := by
  obtain ⟨xs, ho, he⟩ := h
  obtain ⟨v, v1, v2, v3, q0, q1, q2, q3, q4, hE⟩ := he i hi
  rcases own5_cases ho with ⟨h0, _⟩ | ⟨g, c, e⟩
  · omega
  · injection e with e1 e2 e3
    subst e1
    exact ⟨g, v, v1, v2, v3, rfl, (ho.cellAt _ (by omega)).trans q0, (ho.cellAt _ (by omega)).trans q1, (ho.cellAt _ (by omega)).trans q2, (ho.cellAt _ (by omega)).trans q3, (ho.cellAt _ (by omega)).trans q4, hE⟩

theorem Ent.one {e size : Nat} {xf : Nat → Nat → Value} {w : World} {B : Nat → Prop} {i : Nat} {v v1 v2 v3 : Value} (h : Ent e size xf w B i v v1 v2 v3) : ∃ a0 k0 c0 a1 k1 c1 a2 k2 c2 a3 k3 c3, v = .slice a0 k0 c0 ∧ v1 = .slice a1 k1 c1 ∧ v2 = .slice a2 k2 c2 ∧ v3 = .slice a3 k3 c3 := by
  have sh : ∀ {u : Value} {n : Nat}, AllX e size (xf i) none 0 w u n → ∃ a k c, u = .slice a k c := by
    rintro u n (⟨rfl, _⟩ | ⟨g, cap, rfl, _⟩)
    · exact ⟨_, _, _, rfl⟩
    · exact ⟨_, _, _, rfl⟩
  obtain ⟨n, _, h0, h1, h2, h3, _⟩ := h
  obtain ⟨a0, k0, c0, e0⟩ := sh h0
  obtain ⟨a1, k1, c1, e1⟩ := sh h1
  obtain ⟨a2, k2, c2, e2⟩ := sh h2
  obtain ⟨a3, k3, c3, e3⟩ := sh h3
  exact ⟨a0, k0, c0, a1, k1, c1, a2, k2, c2, a3, k3, c3, e0, e1, e2, e3⟩

theorem stillB_ent (i : Nat) (v v1 v2 v3 : Value) (w : World) (B : Nat → Prop) (hi : i ≤ 1000000000) (h : Ent 5 1 xfB w B i v v1 v2 v3) :
    Calls Tryz.prog 47 #[.agg #[v, v1, v2, v3, .int .i64 i]] w fun e w' => e = .returned (.bool true) ∧ Below w.heap.size w w' := by
  obtain ⟨n, hn, h0, h1, h2, h3, _⟩ := h
  exact stillB_any none 0 i n v v1 v2 v3 w hi hn h0 h1 h2 h3 (Nat.zero_le _)
theorem stillP_ent (i : Nat) (v v1 v2 v3 : Value) (w : World) (B : Nat → Prop) (hi : i ≤ 1000000000) (h : Ent 152 3 xfP w B i v v1 v2 v3) :
    Calls Tryz.prog 48 #[.agg #[v, v1, v2, v3, .int .i64 i]] w fun e w' => e = .returned (.bool true) ∧ Below w.heap.size w w' := by
  obtain ⟨n, hn, h0, h1, h2, h3, _⟩ := h
  exact stillP_any none 0 i n v v1 v2 v3 w hi hn h0 h1 h2 h3 (Nat.zero_le _)

set_option maxRecDepth 100000 in
set_option maxHeartbeats 2000000 in
theorem looks_any (w0 : World) (f : Fix) (X : Nat → Prop) (s t : Nat → Sc) (vb vp : Value) (nb np : Nat) (w : World) (h : Inv w0 f X s t vb vp nb np w) (hnb : nb ≤ 10000000) (hnp : np ≤ 10000000) :
    Calls Tryz.prog 32 #[.pointer (some ⟨f.W, 4, none⟩)] w fun e w' => e = .returned (.bool true) ∧ Below w.heap.size w w' := by
  obtain ⟨xs0, ho0, _⟩ := h.bk
  obtain ⟨ao, cb, rfl⟩ := own5_shape ho0
  obtain ⟨ys0, hp0, _⟩ := h.pk
  obtain ⟨ap, cp, rfl⟩ := own5_shape hp0
  have HI : Hid (Inv w0 f X s t (.slice ao nb cb) (.slice ap np cp) nb np w) := h
  clear h ho0 hp0
  go_enter Tryz.func32, Tryz.ntmps32
  go_wp2
  go_loopw [3, 4] (fun b i wr => ∃ k : Nat, k ≤ nb ∧ b = .bool true ∧ i = .int .i64 k ∧ Below w.heap.size w wr) (fun _ i _ => nb - (intOf i).toNat)
  case atStart => exact ⟨0, Nat.zero_le _, rfl, rfl, Below.refl _ _⟩
  case round =>
    obtain ⟨k, hk, rfl, rfl, hb⟩ := hrel
    have HJ : Hid (Inv w0 f X s t (.slice ao nb cb) (.slice ap np cp) nb np wr ∧ Below w.heap.size w wr) := ⟨HI.out.below hb, hb⟩
    clear hb
    have c4 := HJ.out.1.cell.2.2.1
    have c5 := HJ.out.1.cell.2.2.2.1
    by_cases hlt : k < nb
    · obtain ⟨g, v, v1, v2, v3, rfl, q0, q1, q2, q3, q4, hE⟩ := book_at HJ.out.1.bk k hlt
      have HE : Hid (Ent 5 1 xfB wr (Bad f X (.slice (some ⟨g, 0, none⟩) nb cb) (.slice ap np cp)) k v v1 v2 v3) := hE
      obtain ⟨a0, k0, c0, a1, k1, c1, a2, k2, c2, a3, k3, c3, rfl, rfl, rfl, rfl⟩ := hE.one
      clear hE
      go_wp2_with fail
      refine (stillB_ent k _ _ _ _ _ _ (by omega) HE.out).mono ?_
      rintro e w2 ⟨rfl, hb2⟩
      have HB : Hid (Below w.heap.size w w2) := HJ.out.2.trans (hb2.mono HJ.out.2.size)
      clear hb2 HJ HE q0 q1 q2 q3 q4 c4 c5
      go_wp2
      go_roundw
      case rel => exact ⟨k + 1, by omega, rfl, by go_num, HB.out⟩
      case measure => simp [intOf]; omega
    · go_wp2_with fail
      go_loopw [3, 6] (fun b i wq => ∃ k : Nat, k ≤ np ∧ b = .bool true ∧ i = .int .i64 k ∧ Below w.heap.size w wq) (fun _ i _ => np - (intOf i).toNat)
      case atStart => exact ⟨0, Nat.zero_le _, rfl, rfl, HJ.out.2⟩
      case round =>
        clear HJ c4 c5
        obtain ⟨k2, hk2, rfl, rfl, hb⟩ := hrel
        have HJ : Hid (Inv w0 f X s t (.slice ao nb cb) (.slice ap np cp) nb np wr ∧ Below w.heap.size w wr) := ⟨HI.out.below hb, hb⟩
        clear hb
        have c5 := HJ.out.1.cell.2.2.2.1
        by_cases hlt2 : k2 < np
        · obtain ⟨g, v, v1, v2, v3, rfl, q0, q1, q2, q3, q4, hE⟩ := book_at HJ.out.1.pk k2 hlt2
          have HE : Hid (Ent 152 3 xfP wr (Bad f X (.slice ao nb cb) (.slice (some ⟨g, 0, none⟩) np cp)) k2 v v1 v2 v3) := hE
          obtain ⟨a0, k0, c0, a1, k1, c1, a2, k3, c2, a3, k4, c3, rfl, rfl, rfl, rfl⟩ := hE.one
          clear hE
          go_wp2_with fail
          refine (stillP_ent k2 _ _ _ _ _ _ (by omega) HE.out).mono ?_
          rintro e w2 ⟨rfl, hb2⟩
          have HB : Hid (Below w.heap.size w w2) := HJ.out.2.trans (hb2.mono HJ.out.2.size)
          clear hb2 HJ HE q0 q1 q2 q3 q4 c5
          go_wp2
          go_roundw
          case rel => exact ⟨k2 + 1, by omega, rfl, by go_num, HB.out⟩
          case measure => simp [intOf]; omega
        · go_wp2
          go_ret
          exact ⟨rfl, HJ.out.2⟩

end Go.Proofs.YtcgjliflnnklnaaGreat
