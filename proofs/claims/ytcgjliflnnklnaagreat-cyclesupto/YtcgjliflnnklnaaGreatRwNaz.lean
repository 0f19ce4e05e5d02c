/-
  The document's computer, walked: is it a configuration?
-/
import Derived.Test.YtcgjliflnnklnaaGreatJ14
import Derived.Test.YtcgjliflnnklnaaGreatJ03
import Derived.Deep.DeepCutAuto
namespace Go.Proofs.YtcgjliflnnklnaaGreat
open Go.RowKit
set_option maxRecDepth 100000
set_option maxHeartbeats 1000000

theorem valid_all {rom : Int} {cs : List Chn} (h : cs.all okChn = true) : validI rom cs = (decide (cs.length ≤ 8) && (decide (total cs ≤ 4096) && (decide (0 ≤ rom) && decide (rom ≤ 256)))) := by
  unfold validI
  rw [h]
  by_cases a : cs.length ≤ 8 <;> by_cases b : total cs ≤ 4096 <;> by_cases c : 0 ≤ rom <;> by_cases d : rom ≤ 256 <;> simp [a, b, c, d]
theorem valid_bad {rom : Int} {cs : List Chn} {k : Nat} (hk : k < cs.length) (h : okChn cs[k] = false) : validI rom cs = false :=
  valid_pre hk (fun e => by rw [h] at e; cases e.1)

theorem rfits (N : Nat) (v : Value) (cs : List Chn) (rom : Int) (w : World) (h : CfAt N w v cs) (hl : cs.length ≤ 100000000) (hb : total cs ≤ 100000000) :
    Calls Tryz.prog 90 #[.agg #[v, .int .i64 rom]] w fun e w' => e = .returned (.bool (validI rom cs)) ∧ Below w.heap.size w w' := by
  obtain ⟨p, cap, rfl, H⟩ := h
  have HH : Hid (cs ≠ [] → ∃ b off, p = some ⟨b, off, none⟩ ∧ b < N ∧
    ∀ i, (h : i < cs.length) → w.cell? ⟨b, off + i * 2, none⟩ = some (.int .i64 cs[i].at_) ∧ w.cell? ⟨b, off + i * 2 + 1, none⟩ = some cs[i].v ∧ ChV N w cs[i].v cs[i].bs) := H
  have HL : Hid (total cs ≤ 100000000) := hb
  clear H hb
  go_enter Tryz.func90, Tryz.ntmps90
  go_wp2
  go_loopw [3, 4] (fun n i wr => ∃ k : Nat, k ≤ cs.length ∧ i = .int .i64 k ∧ n = .int .i64 (total (cs.take k) : Int) ∧ (cs.take k).all okChn = true ∧ wr = w.alloc (.cells #[.slice p cs.length cap, .int .i64 rom] 26)) (fun _ i _ => cs.length - (intOf i).toNat)
  case atStart => exact ⟨0, Nat.zero_le _, rfl, rfl, rfl, rfl⟩
  case round =>
    obtain ⟨k, hk, rfl, rfl, ha, hwr⟩ := hrel
    have e0 : wr.cell? ⟨w.heap.size, 0, none⟩ = some (.slice p cs.length cap) := by rw [hwr]; exact World.cell?_alloc_at _ _ _ _ rfl
    have e1 : wr.cell? ⟨w.heap.size, 1, none⟩ = some (.int .i64 rom) := by rw [hwr]; exact World.cell?_alloc_at _ _ _ _ rfl
    have HW : Hid (wr = w.alloc (.cells #[.slice p cs.length cap, .int .i64 rom] 26)) := hwr
    have HBl : Hid (Below w.heap.size w wr) := by rw [hwr]; exact (Below.refl _ _).alloc (Nat.le_refl _) _
    clear hwr
    by_cases hlt : k < cs.length
    · obtain ⟨b, off, rfl, hbN, HC⟩ := HH.out (by intro e; rw [e] at hlt; simp at hlt)
      obtain ⟨c1, c2, p2, cap2, hv, -⟩ := HC k hlt
      have d1 := (HBl.out.cell (p := ⟨b, off + k * 2, none⟩) (lt_of_cell (by rw [c1]; simp))).trans c1
      have d2 := (HBl.out.cell (p := ⟨b, off + k * 2 + 1, none⟩) (lt_of_cell (by rw [c2]; simp))).trans c2
      rw [hv] at d2
      have HT : Hid (total (cs.take (k + 1)) = total (cs.take k) + cs[k].bs.length) := by show _ = _; rw [chn_snoc cs k hlt, total_snoc]
      have HV : Hid (okChn cs[k] = false → validI rom cs = false) := valid_bad hlt
      have HA : Hid (okChn cs[k] = true → (cs.take (k + 1)).all okChn = true) := by intro e; rw [chn_snoc cs k hlt, List.all_append, ha]; simp [e]
      have HO : Hid (okChn cs[k] = decide (0 ≤ cs[k].at_ ∧ cs[k].at_ < 65536)) := rfl
      have hq : total (cs.take k) + cs[k].bs.length ≤ 100000000 := by rw [← HT.out]; exact Nat.le_trans (total_take cs _) HL.out
      clear c1 c2 hv HC ha
      generalize cs[k].at_ = A at *
      generalize okChn cs[k] = O at *
      generalize cs[k].bs.length = L at *
      generalize hTT : total (cs.take k) = T at *
      clear hTT
      by_cases a0 : A < 0
      · go_wp2
        go_ret
        exact ⟨cp_bool (HV.out (by rw [HO.out]; simp; omega)).symm, HBl.out⟩
      · have a0' : 0 ≤ A := by omega
        by_cases a1 : 65535 < A
        · go_wp2
          go_ret
          exact ⟨cp_bool (HV.out (by rw [HO.out]; simp; omega)).symm, HBl.out⟩
        · have a1' : A ≤ 65535 := by omega
          go_wp2
          go_roundw
          case rel => exact ⟨k + 1, by omega, by go_num, by rw [HT.out]; go_num, HA.out (by rw [HO.out]; simp; omega), HW.out⟩
          case measure => simp [intOf]; omega
    · have hke : cs.take k = cs := List.take_of_length_le (by omega)
      rw [hke] at ha ⊢
      have HV : Hid (validI rom cs = (decide (cs.length ≤ 8) && (decide (total cs ≤ 4096) && (decide (0 ≤ rom) && decide (rom ≤ 256))))) := valid_all ha
      clear ha hke
      generalize total cs = T at *
      have hke : (k : Int) = (cs.length : Int) := by omega
      by_cases q0 : (cs.length : Int) ≤ 8
      · by_cases q1 : (T : Int) ≤ 4096
        · by_cases q2 : 0 ≤ rom
          · by_cases q3 : rom ≤ 256
            all_goals
              go_wp2
              go_ret
              exact ⟨cp_bool (by rw [HV.out]; simp; omega), HBl.out⟩
          · go_wp2
            go_ret
            exact ⟨cp_bool (by rw [HV.out]; simp; omega), HBl.out⟩
        · go_wp2
          go_ret
          exact ⟨cp_bool (by rw [HV.out]; simp; omega), HBl.out⟩
      · go_wp2
        go_ret
        exact ⟨cp_bool (by rw [HV.out]; simp; omega), HBl.out⟩

end Go.Proofs.YtcgjliflnnklnaaGreat
