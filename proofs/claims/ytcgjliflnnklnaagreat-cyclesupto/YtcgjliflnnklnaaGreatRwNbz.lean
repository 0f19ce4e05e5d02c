/-
  The document's computer, walked: New.
-/
import Derived.Test.YtcgjliflnnklnaaGreatJ03
import Derived.Test.YtcgjliflnnklnaaGreatJ09
import Derived.Deep.RegionHeld3
namespace Go.Proofs.YtcgjliflnnklnaaGreat
open Go.RowKit
set_option maxRecDepth 100000
set_option maxHeartbeats 40000000

theorem inf_int' : (Tryz.prog.info? 3).map (fun i => (i.zero, i.size, i.bytes)) = some (some (.int .i64 0), 1, 8) := by kernel_rfl
theorem und_ints' : Tryz.prog.underlying 30 = some (.slice 3) := by kernel_rfl

theorem zero_mem : ∃ Z : Array Value, (∀ i, i < 65536 → Z[i]? = some (.int .i64 0)) ∧ ∀ w : World, Sem.run Tryz.prog (Instr.makeSlice 30 (.int .i64 65536) (.int .i64 65536)) w = .ok (.slice (some ⟨w.heap.size, 0, none⟩) 65536 65536) (w.alloc (.cells Z 3)) := by
  obtain ⟨i0, hi, hz0, hz1, hz2⟩ := info_parts inf_int'
  refine ⟨madeCells (Value.int .i64 0).cells (65536 * i0.size), fun i hi => ?_, fun w => ?_⟩
  · rw [hz1]
    have : (madeCells (Value.int .i64 0).cells (65536 * 1)).toList = List.replicate (65536 * 1) (.int .i64 0) := toList_madeCells_one _ _
    rw [← Array.getElem?_toList, this, List.getElem?_replicate]
    simp [hi]
  · exact run_make (P := Tryz.prog) w 30 3 i0 _ und_ints' hi hz0 .i64 .i64 65536 65536 (by decide) (by decide) (by rw [hz2]; decide) (by decide)

/-- A computer fresh from its configuration. -/
def RS.bare (rom : Int) (m : Nat → Int) : RS := ⟨m, rom * 256, ⟨0, 0, 0, 0, 0, 0, 0, false⟩, 0, false, false, false, ⟨#[]⟩, ⟨#[]⟩, []⟩
def RS.fresh (rom : Int) (cs : List Chn) : RS :=
  let m := fillI (fun _ => 0) cs
  { RS.bare rom m with r := ⟨0, 0, 0, 253, 36, m 65532 + 256 * m 65533, 0, false⟩ }

theorem bare_at {w W : World} {Z : Array Value} {rom : Int} (hZ : ∀ i, i < 65536 → Z[i]? = some (.int .i64 0)) (hM : W.heap[w.heap.size]? = some (.cells Z 3 (0, 0))) (k : Nat)
    (hB : Blk W k #[.slice (some ⟨w.heap.size, 0, none⟩) 65536 65536, .int .i64 (rom * 256), .int .i64 0, .int .i64 0, .int .i64 0, .int .i64 0, .int .i64 0, .int .i64 0, .int .i64 0, .bool false, .int .i64 0, .bool false, .bool false, .bool false, .string ⟨#[]⟩, .string ⟨#[]⟩, .slice none 0 0] 194) (hk : k ≠ w.heap.size) :
    MAt W k w.heap.size (MV w.heap.size (.slice none 0 0) (RS.bare rom fun _ => 0)) fun _ => 0 := by
  refine ⟨rfl, fun i hi => ?_, hB.free, fun i hi => ?_, fun o => by simp [World.frozen?, hM], hk⟩
  · rw [hB.cell i]
    match i, hi with
    | 0, _ => rfl
    | 1, _ => rfl
    | 2, _ => rfl
    | 3, _ => rfl
    | 4, _ => rfl
    | 5, _ => rfl
    | 6, _ => rfl
    | 7, _ => rfl
    | 8, _ => rfl
    | 9, _ => rfl
    | 10, _ => rfl
    | 11, _ => rfl
    | 12, _ => rfl
    | 13, _ => rfl
    | 14, _ => rfl
    | 15, _ => rfl
    | 16, _ => rfl
    | i + 17, hi => exact absurd hi (by omega)
  · rw [cell_of_row W w.heap.size i Z 3 (0, 0) hM]; exact hZ i hi

theorem blk_new' (w : World) (n : Nat) (vs : Array Value) (T : TypeId) (h : w.heap.size = n) : Blk (w.alloc (.cells vs T)) n vs T := h ▸ Blk.new w vs T

theorem fill_byte (m : Nat → Int) (hm : ∀ i, 0 ≤ m i ∧ m i < 256) (at_ : Int) (bs : List UInt8) : ∀ i, 0 ≤ fillB m at_ bs i ∧ fillB m at_ bs i < 256 := by
  unfold fillB
  generalize bs.zipIdx = l
  induction l generalizing m with
  | nil => exact hm
  | cons p r ih =>
    rw [List.foldl_cons]
    exact ih _ (fun i => by unfold mput; split; exact u8_r p.1; exact hm i)
theorem fillI_byte (m : Nat → Int) (hm : ∀ i, 0 ≤ m i ∧ m i < 256) (cs : List Chn) : ∀ i, 0 ≤ fillI m cs i ∧ fillI m cs i < 256 := by
  unfold fillI
  induction cs generalizing m with
  | nil => exact hm
  | cons p r ih => rw [List.foldl_cons]; exact ih _ (fill_byte m hm _ _)

theorem rnew_no (N : Nat) (v : Value) (cs : List Chn) (rom : Int) (w : World) (hc : CfAt N w v cs) (hl : cs.length ≤ 100000000) (hb : total cs ≤ 100000000) (hv : validI rom cs = false) :
    Calls Tryz.prog 61 #[.agg #[v, .int .i64 rom]] w fun e w' => e = .returned (.tuple #[.pointer none, .int .i64 1]) ∧ Below w.heap.size w w' := by
  have V := fun o => rfits N v cs rom (w.alloc o) (hc.below (Below.refl _ _ |>.alloc (Nat.le_refl _) _)) hl hb
  rw [hv] at V
  obtain ⟨p, cap, rfl, -⟩ := hc
  go_enter Tryz.func61, Tryz.ntmps61
  go_wp2_with (first | (go_at_call 90; refine (V _).mono ?_; rintro e w1 ⟨rfl, hbl⟩; have HB : Hid (Below w.heap.size w w1) := ((Below.refl _ _).alloc (Nat.le_refl _) _).trans (hbl.mono (by simp)); clear hbl V))
  go_ret2
  exact ⟨rfl, HB.out⟩

theorem rnew_ok (N : Nat) (v : Value) (cs : List Chn) (rom : Int) (w : World) (hN : N ≤ w.heap.size) (hc : CfAt N w v cs) (hl : cs.length ≤ 100000000) (hb : total cs ≤ 100000000) (hv : validI rom cs = true) :
    Calls Tryz.prog 61 #[.agg #[v, .int .i64 rom]] w fun e w' => ∃ B M, w.heap.size ≤ B ∧ w.heap.size ≤ M ∧ e = .returned (.tuple #[.pointer (some ⟨B, 0, none⟩), .int .i64 0]) ∧ MAt w' B M (MV M (.slice none 0 0) (RS.fresh rom cs)) (RS.fresh rom cs).mem ∧ Below w.heap.size w w' := by
  have V := fun o => rfits N v cs rom (w.alloc o) (hc.below (Below.refl _ _ |>.alloc (Nat.le_refl _) _)) hl hb
  rw [hv] at V
  have HN : Hid (N ≤ w.heap.size ∧ CfAt N w v cs) := ⟨hN, hc⟩
  obtain ⟨Z, hZ, hmk⟩ := zero_mem
  have HZ : Hid (∀ i, i < 65536 → Z[i]? = some (.int .i64 0)) := hZ
  unfold validI at hv
  simp only [Bool.and_eq_true, decide_eq_true_eq] at hv
  obtain ⟨⟨r0, r1, r2⟩, hall, htot⟩ := hv
  have HA : Hid (cs.all okChn = true ∧ total cs ≤ 4096) := ⟨hall, htot⟩
  obtain ⟨p, cap, rfl, H⟩ := hc
  clear hall htot hZ hb H hN
  go_enter Tryz.func61, Tryz.ntmps61
  go_upto_region 4 with (first | (go_at_call 90; refine (V _).mono ?_; rintro e w1 ⟨rfl, hbl⟩; have HB : Hid (Below (w.alloc (.cells #[.slice p cs.length cap, .int .i64 rom] 26)).heap.size (w.alloc (.cells #[.slice p cs.length cap, .int .i64 rom] 26)) w1) := hbl; clear hbl V))
  have hK : Blk w1 w.heap.size #[.slice p cs.length cap, .int .i64 rom] 26 := (Blk.new w _ _).below HB.out
  have HB2 : Hid (Below w.heap.size w w1) := ((Below.refl _ _).alloc (Nat.le_refl _) _).trans (HB.out.mono (by simp))
  clear HB
  have e0 : w1.cell? ⟨w.heap.size, 0, none⟩ = some (.slice p cs.length cap) := hK.cell 0
  have e1 : w1.cell? ⟨w.heap.size, 1, none⟩ = some (.int .i64 rom) := hK.cell 1
  have e2 := hK.lt
  have HK : Hid (Blk w1 w.heap.size #[.slice p cs.length cap, .int .i64 rom] 26) := hK
  clear hK
  go_cut [5] from 8 (fun s wx => ∃ B M, s = .pointer (some ⟨B, 0, none⟩) ∧ w1.heap.size ≤ B ∧ w1.heap.size ≤ M ∧ MAt wx B M (MV M (.slice none 0 0) (RS.bare rom fun _ => 0)) (fun _ => 0) ∧ Below w1.heap.size w1 wx)
  case first =>
    go_region
    go_wp2
    go_meet
    case rel => exact ⟨w1.heap.size + 1, w1.heap.size, rfl, by omega, Nat.le_refl _, bare_at (w := w1) (rom := rom) HZ.out (Blk.alloc (Blk.new w1 Z 3) _).drew (w1.heap.size + 1) (blk_new' _ _ _ _ (World.size_alloc _ _)).drew (by omega), (((Below.refl _ _).alloc (Nat.le_refl _) _).alloc (by simp) _).drew⟩
  case rest =>
    obtain ⟨B, M, rfl, hB, hM, hA0, hb0⟩ := hcut
    have HI : Hid (MAt wc B M (MV M (.slice none 0 0) (RS.bare rom fun _ => 0)) (fun _ => 0) ∧ Below w1.heap.size w1 wc) := ⟨hA0, hb0⟩
    clear hA0 hb0 hmk e0 e1
    go_wp2
    go_loopw [6] (fun i wr => ∃ k : Nat, k ≤ cs.length ∧ i = .int .i64 k ∧ MAt wr B M (MV M (.slice none 0 0) (RS.bare rom fun _ => 0)) (fillI (fun _ => 0) (cs.take k)) ∧ Below w1.heap.size w1 wr) (fun i _ => cs.length - (intOf i).toNat)
    case atStart => exact ⟨0, Nat.zero_le _, rfl, HI.out⟩
    case round =>
      clear HI
      obtain ⟨k, hk, rfl, hA, hBl⟩ := hrel
      have HI : Hid (MAt wr B M (MV M (.slice none 0 0) (RS.bare rom fun _ => 0)) (fillI (fun _ => 0) (cs.take k)) ∧ Below w1.heap.size w1 wr) := ⟨hA, hBl⟩
      have e0 : wr.cell? ⟨w.heap.size, 0, none⟩ = some (.slice p cs.length cap) := (hBl.cell (p := ⟨w.heap.size, 0, none⟩) e2).trans (HK.out.cell 0)
      have lt1 : w.heap.size < wr.heap.size := Nat.lt_of_lt_of_le e2 hBl.size
      by_cases hl2 : k < cs.length
      · obtain ⟨p', cap', ev, H⟩ := HN.out.2
        injection ev with ev1 ev2 ev3
        subst ev1
        obtain ⟨b, off, rfl, hbN, HC⟩ := H (by intro e; rw [e] at hl2; simp at hl2)
        obtain ⟨c1, c2, p2, cap2, hv, hB2⟩ := HC k hl2
        have hBw : Below w.heap.size w wr := HB2.out.trans (hBl.mono (by omega))
        have d1 := (hBw.cell (p := ⟨b, off + k * 2, none⟩) (lt_of_cell (by rw [c1]; simp))).trans c1
        have d2 := (hBw.cell (p := ⟨b, off + k * 2 + 1, none⟩) (lt_of_cell (by rw [c2]; simp))).trans c2
        rw [hv] at d2
        have HF : Hid (fillI (fun _ => 0) (cs.take (k + 1)) = fillB (fillI (fun _ => 0) (cs.take k)) cs[k].at_ cs[k].bs) := fillI_snoc (fun _ => 0) cs k hl2
        have oc := List.all_eq_true.1 HA.out.1 _ (List.getElem_mem hl2)
        unfold okChn at oc
        obtain ⟨a0, a1⟩ := of_decide_eq_true oc
        have hL : cs[k].bs.length ≤ 4096 := Nat.le_trans (total_le (List.getElem_mem hl2)) HA.out.2
        have HD : Hid (w.cell? ⟨b, off + k * 2, none⟩ = some (.int .i64 cs[k].at_) ∧ w.cell? ⟨b, off + k * 2 + 1, none⟩ = some (.slice p2 cs[k].bs.length cap2)) := ⟨c1, hv ▸ c2⟩
        have HB3 : Hid (cs[k].bs ≠ [] → ∃ b off, p2 = some ⟨b, off, none⟩ ∧ b < N ∧ BytesAt w b off cs[k].bs) := hB2
        clear oc c1 c2 hv HC hA hBl H hBw hB2
        generalize fillI (fun _ => 0) (cs.take k) = Mk at *
        generalize cs[k].at_ = A at *
        generalize cs[k].bs = l at *
        go_wp2
        go_loopw [7] (fun i wq => ∃ j : Nat, j ≤ l.length ∧ i = .int .i64 j ∧ MAt wq B M (MV M (.slice none 0 0) (RS.bare rom fun _ => 0)) (fillB Mk A (l.take j)) ∧ Below w1.heap.size w1 wq) (fun i _ => l.length - (intOf i).toNat)
        case atStart => exact ⟨0, Nat.zero_le _, rfl, HI.out⟩
        case round =>
          clear HI e0 lt1 d1 d2
          obtain ⟨j, hj, rfl, hA, hBl⟩ := hrel
          have HI : Hid (MAt wr B M (MV M (.slice none 0 0) (RS.bare rom fun _ => 0)) (fillB Mk A (l.take j)) ∧ Below w1.heap.size w1 wr) := ⟨hA, hBl⟩
          have e0 : wr.cell? ⟨w.heap.size, 0, none⟩ = some (.slice (some ⟨b, off, none⟩) cs.length cap) := (hBl.cell (p := ⟨w.heap.size, 0, none⟩) e2).trans (HK.out.cell 0)
          have lt1 : w.heap.size < wr.heap.size := Nat.lt_of_lt_of_le e2 hBl.size
          have hBw : Below w.heap.size w wr := HB2.out.trans (hBl.mono (by omega))
          have d1 := (hBw.cell (p := ⟨b, off + k * 2, none⟩) (lt_of_cell (by rw [HD.out.1]; simp))).trans HD.out.1
          have d2 := (hBw.cell (p := ⟨b, off + k * 2 + 1, none⟩) (lt_of_cell (by rw [HD.out.2]; simp))).trans HD.out.2
          by_cases hlj : j < l.length
          · obtain ⟨b2, off2, rfl, hb2, hBy⟩ := HB3.out (by intro e; rw [e] at hlj; simp at hlj)
            have hcell := (hBw.cell (p := ⟨b2, off2 + j, none⟩) (lt_of_cell (by rw [hBy j hlj]; simp))).trans (hBy j hlj)
            have HS : Hid (fillB Mk A (l.take (j + 1)) = mput (fillB Mk A (l.take j)) ((A + (j : Int)) % 65536).toNat (l[j].toNat : Int)) := fillB_snoc Mk A l j hlj
            have hm := hA.m ((A + (j : Int)) % 65536).toNat (by omega)
            have fq := hA.fm ((A + (j : Int)) % 65536).toNat
            have m0 : wr.cell? ⟨B, 0, none⟩ = some (.slice (some ⟨M, 0, none⟩) 65536 65536) := hA.c 0 (by decide)
            have qlt := hA.ltM
            have i0 : 0 ≤ A + (j : Int) := by omega
            have i1 : 0 ≤ (A + (j : Int)) % 65536 := by omega
            have i2 : (A + (j : Int)) % 65536 < 65536 := by omega
            have hu := u8_r l[j]
            have hwx : IntKind.i64.wrap (l[j].toNat : Int) = (l[j].toNat : Int) := by rw [IntKind.wrap_i64]; omega
            have n1 : M ≠ w.heap.size := by omega
            have n2 : M ≠ b := by have := HN.out.1; omega
            have n3 : M ≠ b2 := by have := HN.out.1; omega
            have n4 : M ≠ B := Ne.symm hA.ne
            have n5 : w.heap.size ≠ M := by omega
            have n6 : b ≠ M := by have := HN.out.1; omega
            have n7 : b2 ≠ M := by have := HN.out.1; omega
            have n8 : B ≠ M := hA.ne
            have hwr : IntKind.i64.wrap (A + (j : Int)) = A + (j : Int) := by rw [IntKind.wrap_i64]; omega
            clear hA hBl hBy hBw
            generalize fillB Mk A (l.take j) = M2 at *
            generalize l[j] = x at *
            go_wp2_with fail
            go_region_held3 (fun w' => w'.cell? ⟨w.heap.size, 0, none⟩ = some (.slice (some ⟨b, off, none⟩) cs.length cap) ∧ w'.cell? ⟨b, off + k * 2, none⟩ = some (.int .i64 A) ∧ w'.cell? ⟨b, off + k * 2 + 1, none⟩ = some (.slice (some ⟨b2, off2, none⟩) l.length cap2) ∧ w'.cell? ⟨b2, off2 + j, none⟩ = some (.int .u8 (x.toNat : Int)) ∧ w'.cell? ⟨B, 0, none⟩ = some (.slice (some ⟨M, 0, none⟩) 65536 65536)) (go_keep) (first | (go_at_call 91; with_reducible refine (rcut16 _ _).mono ?_; rintro e w2 ⟨rfl, hw⟩; subst hw))
            all_goals
              go_wp2
              go_roundw
              case rel => exact ⟨j + 1, by omega, by go_num, by rw [HS.out]; exact (((TM.refl HI.out.1).setM (by omega)).drew).c, (HI.out.2.setCell hM _).drew⟩
              case measure => simp [intOf]; omega
          · have hke : l.take j = l := List.take_of_length_le (by omega)
            rw [hke, ← HF.out] at HI
            clear hA hBl hBw hke
            go_wp2
            go_roundw
            case rel => exact ⟨k + 1, by omega, by go_num, HI.out⟩
            case measure => simp [intOf]; omega
      · have hke : cs.take k = cs := List.take_of_length_le (by omega)
        rw [hke] at hA HI
        have m0 : wr.cell? ⟨B, 0, none⟩ = some (.slice (some ⟨M, 0, none⟩) 65536 65536) := hA.c 0 (by decide)
        have x1 := hA.m 65532 (by decide)
        have x2 := hA.m 65533 (by decide)
        have y1 := fillI_byte (fun _ => 0) (fun _ => by decide) cs 65532
        have y2 := fillI_byte (fun _ => 0) (fun _ => by decide) cs 65533
        have qlt := hA.ltM
        have blt := hA.lt
        have fz := hA.fr
        have hne := hA.ne
        have s2 : wr.cell? ⟨B, 2, none⟩ = some (.int .i64 0) := hA.c 2 (by decide)
        have s3 : wr.cell? ⟨B, 3, none⟩ = some (.int .i64 0) := hA.c 3 (by decide)
        have s4 : wr.cell? ⟨B, 4, none⟩ = some (.int .i64 0) := hA.c 4 (by decide)
        have s5 : wr.cell? ⟨B, 5, none⟩ = some (.int .i64 0) := hA.c 5 (by decide)
        have s6 : wr.cell? ⟨B, 6, none⟩ = some (.int .i64 0) := hA.c 6 (by decide)
        have s7 : wr.cell? ⟨B, 7, none⟩ = some (.int .i64 0) := hA.c 7 (by decide)
        have s8 : wr.cell? ⟨B, 8, none⟩ = some (.int .i64 0) := hA.c 8 (by decide)
        have s9 : wr.cell? ⟨B, 9, none⟩ = some (.bool false) := hA.c 9 (by decide)
        have HE : Hid ((RS.fresh rom cs).mem = fillI (fun _ => 0) cs ∧ MV M (.slice none 0 0) (RS.fresh rom cs) = MV M (.slice none 0 0) { RS.bare rom (fun _ => 0) with r := ⟨0, 0, 0, 253, 36, fillI (fun _ => 0) cs 65532 + 256 * fillI (fun _ => 0) cs 65533, 0, false⟩ }) := ⟨rfl, rfl⟩
        clear hA hBl hke
        generalize fillI (fun _ => 0) cs = Mk at *
        generalize Mk 65532 = q1 at *
        generalize Mk 65533 = q2 at *
        go_wp2_with fail
        go_region
        all_goals
          go_wp2
          go_ret2
          refine ⟨B, M, by omega, by omega, rfl, ?_, HB2.out.trans (((((((((HI.out.2.setCell hB _).setCell hB _).setCell hB _).setCell hB _).setCell hB _).setCell hB _).setCell hB _).setCell hB _).drew.mono (by omega))⟩
          rw [HE.out.1, HE.out.2]
          refine TM.c (w0 := wr) ?_
          apply TM.eq
          case h => (repeat (first | with_reducible exact TM.refl HI.out.1 | with_reducible apply TM.drew | ((with_reducible apply TM.set); (case hi => decide))))
          case e => rfl
          case e2 => rfl

end Go.Proofs.YtcgjliflnnklnaaGreat
