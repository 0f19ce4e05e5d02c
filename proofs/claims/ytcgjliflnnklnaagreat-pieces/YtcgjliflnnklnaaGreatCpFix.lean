/-
  Memory filled.
-/
import Derived.Test.YtcgjliflnnklnaaGreatCpCfx
import Derived.Test.YtcgjliflnnklnaaGreatCpC
namespace Go.Proofs.YtcgjliflnnklnaaGreat
open Go.RowKit

theorem total_le {cs : List Chn} {c : Chn} (h : c ∈ cs) : c.bs.length ≤ total cs := by
  unfold total
  induction cs with
  | nil => cases h
  | cons x l ih =>
    simp only [List.map_cons, List.sum_cons]
    cases h with
    | head => omega
    | tail _ h => have := ih h; omega
theorem u8_r (c : UInt8) : (0 : Int) ≤ (c.toNat : Int) ∧ (c.toNat : Int) < 256 := by have := c.toNat_lt; omega

set_option maxRecDepth 100000 in
set_option maxHeartbeats 2000000 in
theorem fill_any {B : Nat} {s : PC} {w0 w : World} (h : Tn B s w0 w) (N : Nat) (hN : N ≤ B) (v : Value) (cs : List Chn) (rom : Int) (hc : CfAt N w v cs) (hv : validI rom cs = true) :
    Calls Tryz.prog 51 #[.pointer (some ⟨B, 0, none⟩), .agg #[v, .int .i64 rom]] w fun e w' => e = .returned (.tuple #[]) ∧ Tn B { s with rom := rom * 256, mem := fillI s.mem cs } w0 w' := by
  have hv' := hv
  unfold validI at hv
  simp only [Bool.and_eq_true, decide_eq_true_eq] at hv
  obtain ⟨⟨r0, r1, r2⟩, hall, htot⟩ := hv
  clear hv'
  obtain ⟨p, cap, rfl, H⟩ := hc
  have HH : Hid (cs ≠ [] → ∃ b off, p = some ⟨b, off, none⟩ ∧ b < N ∧
      ∀ i, (h : i < cs.length) → w.cell? ⟨b, off + i * 2, none⟩ = some (.int .i64 cs[i].at_) ∧ w.cell? ⟨b, off + i * 2 + 1, none⟩ = some cs[i].v ∧ ChV N w cs[i].v cs[i].bs) := H
  have HA : Hid (cs.all okChn = true) := hall
  have HT : Hid (total cs ≤ 4096) := htot
  clear H hall htot
  have hlt := h.c.lt
  have hsz := h.g.size
  have n0 : w.heap.size ≠ B := by omega
  have m0 : B ≠ w.heap.size := by omega
  have fz0 := h.c.free
  have c_rom := h.c.crom
  have Hh : Hid (Tn B s w0 w) := h
  clear h
  go_enter Tryz.func51, Tryz.ntmps51
  go_wp2
  go_loopw [17] (fun i wr => ∃ k : Nat, k ≤ cs.length ∧ i = .int .i64 k ∧ Tn B { s with rom := rom * 256, mem := fillI s.mem (cs.take k) } w0 wr ∧ w.grownBy wr (some B)) (fun i _ => cs.length - (intOf i).toNat)
  case atStart => exact ⟨0, Nat.zero_le _, rfl, (Hh.out.setRom (rom * 256) (by omega)).alloc _, cp_trans (cp_set _ _ _ _) (cp_alloc _ _ _)⟩
  case round =>
    obtain ⟨k, hk, rfl, hT, hG⟩ := hrel
    by_cases hl2 : k < cs.length
    · obtain ⟨b, off, rfl, hbN, HC⟩ := HH.out (by intro e; rw [e] at hl2; simp at hl2)
      obtain ⟨c1, c2, p2, cap2, hv, hB2⟩ := HC k hl2
      have d1 := (grown_cell hG (by omega) (by rw [c1]; simp)).trans c1
      have d2 := (grown_cell hG (by omega) (by rw [c2]; simp)).trans c2
      rw [hv] at d2
      have HF : Hid (fillI s.mem (cs.take (k + 1)) = fillB (fillI s.mem (cs.take k)) cs[k].at_ cs[k].bs) := fillI_snoc s.mem cs k hl2
      have oc := List.all_eq_true.1 HA.out _ (List.getElem_mem hl2)
      unfold okChn at oc
      have oc2 := of_decide_eq_true oc
      obtain ⟨a0, a1⟩ := oc2
      have hL : cs[k].bs.length ≤ 4096 := Nat.le_trans (total_le (List.getElem_mem hl2)) HT.out
      clear oc c1 c2 hv HC
      have HT1 : Hid (Tn B { s with rom := rom * 256, mem := fillI s.mem (cs.take k) } w0 wr ∧ w.grownBy wr (some B)) := ⟨hT, hG⟩
      have bl := hT.c.lt
      have fz := hT.c.free
      have hsr := hG.size
      have hs0 := hT.g.size
      have n1 : wr.heap.size ≠ B := by omega
      have m1 : B ≠ wr.heap.size := by omega
      clear hT hG
      generalize fillI s.mem (cs.take k) = M at *
      generalize cs[k].at_ = A at *
      generalize cs[k].bs = l at *
      have HB2 : Hid (l ≠ [] → ∃ b off, p2 = some ⟨b, off, none⟩ ∧ b < N ∧ BytesAt w b off l) := hB2
      clear hB2
      go_wp2
      go_loopw [24] (fun i wq => ∃ j : Nat, j ≤ l.length ∧ i = .int .i64 j ∧ Tn B { s with rom := rom * 256, mem := fillB M A (l.take j) } w0 wq ∧ w.grownBy wq (some B) ∧ wq.cell? ⟨wr.heap.size, 0, none⟩ = some (.int .i64 A)) (fun i _ => l.length - (intOf i).toNat)
      case atStart => exact ⟨0, Nat.zero_le _, rfl, HT1.out.1.alloc _, cp_trans HT1.out.2 (cp_alloc _ _ _), World.cell?_alloc_at _ _ _ _ rfl⟩
      case round =>
        obtain ⟨j, hj, rfl, hT, hG, hq⟩ := hrel
        by_cases hlj : j < l.length
        · obtain ⟨b2, off2, rfl, hb2, hBy⟩ := HB2.out (by intro e; rw [e] at hlj; simp at hlj)
          have hcell := (grown_cell (o := off2 + j) hG (by omega) (by rw [hBy j hlj]; simp)).trans (hBy j hlj)
          have HS : Hid (fillB M A (l.take (j + 1)) = mput (fillB M A (l.take j)) ((A + (j : Int)) % 65536).toNat (l[j].toNat : Int)) := fillB_snoc M A l j hlj
          have hm := hT.c.mem ((A + (j : Int)) % 65536).toNat (by omega)
          have fq := hT.c.free ((A + (j : Int)) % 65536).toNat
          have qlt := hT.c.lt
          have i0 : 0 ≤ A + (j : Int) := by omega
          have i1 : 0 ≤ (A + (j : Int)) % 65536 := by omega
          have i2 : (A + (j : Int)) % 65536 < 65536 := by omega
          have HT2 : Hid (Tn B { s with rom := rom * 256, mem := fillB M A (l.take j) } w0 wr ∧ w.grownBy wr (some B)) := ⟨hT, hG⟩
          have hu := u8_r l[j]
          clear hT hG hBy
          generalize fillB M A (l.take j) = M2 at *
          generalize l[j] = x at *
          go_wp2
          go_region
          all_goals
            go_wp2
            go_roundw
            case rel => exact ⟨j + 1, by omega, by go_num, by rw [HS.out]; exact (HT2.out.1.setMem _ _ (by omega) hu).drew, cp_trans (cp_trans HT2.out.2 (cp_set _ _ _ _)) (cp_drew _ _), (World.cell?_setCell_other _ _ _ _ (fun e => by injection e with e1 e2; omega)).trans hq⟩
            case measure => simp [intOf]; omega
        · have hke : l.take j = l := List.take_of_length_le (by omega)
          rw [hke] at hT
          rw [← HF.out] at hT
          have HT2 : Hid (Tn B { s with rom := rom * 256, mem := fillI s.mem (cs.take (k + 1)) } w0 wr ∧ w.grownBy wr (some B)) := ⟨hT, hG⟩
          clear hT hG hke
          go_wp2
          go_roundw
          case rel => exact ⟨k + 1, by omega, by go_num, HT2.out.1, HT2.out.2⟩
          case measure => simp [intOf]; omega
    · have hke : cs.take k = cs := List.take_of_length_le (by omega)
      rw [hke] at hT
      have HT1 : Hid (Tn B { s with rom := rom * 256, mem := fillI s.mem cs } w0 wr) := hT
      clear hT hG hke
      go_wp2
      go_end0
      exact ⟨rfl, HT1.out⟩

end Go.Proofs.YtcgjliflnnklnaaGreat
