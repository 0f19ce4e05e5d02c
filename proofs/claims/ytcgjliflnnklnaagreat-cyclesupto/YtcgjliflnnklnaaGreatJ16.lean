/-
  Joined texts.
-/
import Derived.Deep.RegionHeld3
import Derived.Deep.Cut
import Derived.Test.YtcgjliflnnklnaaGreatRwNaz
import Derived.Test.YtcgjliflnnklnaaGreatJ07
import Derived.Test.YtcgjliflnnklnaaGreatRwPaz
import Derived.Test.YtcgjliflnnklnaaGreatJ15
import Derived.Test.YtcgjliflnnklnaaGreatRwZez
namespace Go.Proofs.YtcgjliflnnklnaaGreat
open Go.RowKit

/-
  The document's computer, walked: New.
-/
section
set_option maxRecDepth 100000
set_option maxHeartbeats 40000000

theorem inf_int' : (Tryz.prog.info? 3).map (fun i => (i.zero, i.size, i.bytes)) = some (some (.int .i64 0), 1, 8) := by kernel_rfl
theorem und_ints' : Tryz.prog.underlying 30 = some (.slice 3) := by kernel_rfl

theorem zero_mem : ∃ Z : Array Value, (∀ i, i < 65536 → Z[i]? = some (.int .i64 0)) ∧ ∀ w : World, Sem.run Tryz.prog (Instr.makeSlice 30 (.int .i64 65536) (.int .i64 65536)) w = .ok (.slice (some ⟨w.heap.size, 0, none⟩) 65536 65536) (w.alloc (.cells Z 3)) := by
  obtain ⟨i0, hi, hz0, hz1, hz2⟩ := info_parts inf_int'
  refine ⟨madeCells (Value.int .i64 0).cells (65536 * i0.size), fun i hi => ?_, fun w => ?_⟩
  · rw [hz1]
    have : (madeCells (Value.int .i64 0).cells (65536 * 1)).toList = List.replicate (65536 * 1) (.int .i64 0) := toList_madeCells_one _ _
    rw [← Array.getElem?_toList, this, List.getElem?_replicate]
    simp [hi]
  · exact run_make (P := Tryz.prog) w 30 3 i0 _ und_ints' hi hz0 .i64 .i64 65536 65536 (by decide) (by decide) (by rw [hz2]; decide) (by decide)

/-- A computer fresh from its configuration. -/
def RS.bare (rom : Int) (m : Nat → Int) : RS := ⟨m, rom * 256, ⟨0, 0, 0, 0, 0, 0, 0, false⟩, 0, false, false, false, ⟨#[]⟩, ⟨#[]⟩, []⟩
def RS.fresh (rom : Int) (cs : List Chn) : RS :=
  let m := fillI (fun _ => 0) cs
  { RS.bare rom m with r := ⟨0, 0, 0, 253, 36, m 65532 + 256 * m 65533, 0, false⟩ }

theorem bare_at {w W : World} {Z : Array Value} {rom : Int} (hZ : ∀ i, i < 65536 → Z[i]? = some (.int .i64 0)) (hM : W.heap[w.heap.size]? = some (.cells Z 3 (0, 0))) (k : Nat)
    (hB : Blk W k #[.slice (some ⟨w.heap.size, 0, none⟩) 65536 65536, .int .i64 (rom * 256), .int .i64 0, .int .i64 0, .int .i64 0, .int .i64 0, .int .i64 0, .int .i64 0, .int .i64 0, .bool false, .int .i64 0, .bool false, .bool false, .bool false, .string ⟨#[]⟩, .string ⟨#[]⟩, .slice none 0 0] 194) (hk : k ≠ w.heap.size) :
    MAt W k w.heap.size (MV w.heap.size (.slice none 0 0) (RS.bare rom fun _ => 0)) fun _ => 0 := by
  refine ⟨rfl, fun i hi => ?_, hB.free, fun i hi => ?_, fun o => by simp [World.frozen?, hM], hk⟩
  · rw [hB.cell i]
    match i, hi with
    | 0, _ => rfl
    | 1, _ => rfl
    | 2, _ => rfl
    | 3, _ => rfl
    | 4, _ => rfl
    | 5, _ => rfl
    | 6, _ => rfl
    | 7, _ => rfl
    | 8, _ => rfl
    | 9, _ => rfl
    | 10, _ => rfl
    | 11, _ => rfl
    | 12, _ => rfl
    | 13, _ => rfl
    | 14, _ => rfl
    | 15, _ => rfl
    | 16, _ => rfl
    | i + 17, hi => exact absurd hi (by omega)
  · rw [cell_of_row W w.heap.size i Z 3 (0, 0) hM]; exact hZ i hi

theorem blk_new' (w : World) (n : Nat) (vs : Array Value) (T : TypeId) (h : w.heap.size = n) : Blk (w.alloc (.cells vs T)) n vs T := h ▸ Blk.new w vs T

theorem fill_byte (m : Nat → Int) (hm : ∀ i, 0 ≤ m i ∧ m i < 256) (at_ : Int) (bs : List UInt8) : ∀ i, 0 ≤ fillB m at_ bs i ∧ fillB m at_ bs i < 256 := by
  unfold fillB
  generalize bs.zipIdx = l
  induction l generalizing m with
  | nil => exact hm
  | cons p r ih =>
    rw [List.foldl_cons]
    exact ih _ (fun i => by unfold mput; split; exact u8_r p.1; exact hm i)
theorem fillI_byte (m : Nat → Int) (hm : ∀ i, 0 ≤ m i ∧ m i < 256) (cs : List Chn) : ∀ i, 0 ≤ fillI m cs i ∧ fillI m cs i < 256 := by
  unfold fillI
  induction cs generalizing m with
  | nil => exact hm
  | cons p r ih => rw [List.foldl_cons]; exact ih _ (fill_byte m hm _ _)

theorem rnew_no (N : Nat) (v : Value) (cs : List Chn) (rom : Int) (w : World) (hc : CfAt N w v cs) (hl : cs.length ≤ 100000000) (hb : total cs ≤ 100000000) (hv : validI rom cs = false) :
    Calls Tryz.prog 61 #[.agg #[v, .int .i64 rom]] w fun e w' => e = .returned (.tuple #[.pointer none, .int .i64 1]) ∧ Below w.heap.size w w' := by
  have V := fun o => rfits N v cs rom (w.alloc o) (hc.below (Below.refl _ _ |>.alloc (Nat.le_refl _) _)) hl hb
  rw [hv] at V
  obtain ⟨p, cap, rfl, -⟩ := hc
  go_enter Tryz.func61, Tryz.ntmps61
  go_wp2_with (first | (go_at_call 90; refine (V _).mono ?_; rintro e w1 ⟨rfl, hbl⟩; have HB : Hid (Below w.heap.size w w1) := ((Below.refl _ _).alloc (Nat.le_refl _) _).trans (hbl.mono (by simp)); clear hbl V))
  go_ret2
  exact ⟨rfl, HB.out⟩

theorem rnew_ok (N : Nat) (v : Value) (cs : List Chn) (rom : Int) (w : World) (hN : N ≤ w.heap.size) (hc : CfAt N w v cs) (hl : cs.length ≤ 100000000) (hb : total cs ≤ 100000000) (hv : validI rom cs = true) :
    Calls Tryz.prog 61 #[.agg #[v, .int .i64 rom]] w fun e w' => ∃ B M, w.heap.size ≤ B ∧ w.heap.size ≤ M ∧ e = .returned (.tuple #[.pointer (some ⟨B, 0, none⟩), .int .i64 0]) ∧ MAt w' B M (MV M (.slice none 0 0) (RS.fresh rom cs)) (RS.fresh rom cs).mem ∧ Below w.heap.size w w' := by
  have V := fun o => rfits N v cs rom (w.alloc o) (hc.below (Below.refl _ _ |>.alloc (Nat.le_refl _) _)) hl hb
  rw [hv] at V
  have HN : Hid (N ≤ w.heap.size ∧ CfAt N w v cs) := ⟨hN, hc⟩
  obtain ⟨Z, hZ, hmk⟩ := zero_mem
  have HZ : Hid (∀ i, i < 65536 → Z[i]? = some (.int .i64 0)) := hZ
  unfold validI at hv
  simp only [Bool.and_eq_true, decide_eq_true_eq] at hv
  obtain ⟨⟨r0, r1, r2⟩, hall, htot⟩ := hv
  have HA : Hid (cs.all okChn = true ∧ total cs ≤ 4096) := ⟨hall, htot⟩
  obtain ⟨p, cap, rfl, H⟩ := hc
  clear hall htot hZ hb H hN
  go_enter Tryz.func61, Tryz.ntmps61
  go_upto_region 4 with (first | (go_at_call 90; refine (V _).mono ?_; rintro e w1 ⟨rfl, hbl⟩; have HB : Hid (Below (w.alloc (.cells #[.slice p cs.length cap, .int .i64 rom] 26)).heap.size (w.alloc (.cells #[.slice p cs.length cap, .int .i64 rom] 26)) w1) := hbl; clear hbl V))
  have hK : Blk w1 w.heap.size #[.slice p cs.length cap, .int .i64 rom] 26 := (Blk.new w _ _).below HB.out
  have HB2 : Hid (Below w.heap.size w w1) := ((Below.refl _ _).alloc (Nat.le_refl _) _).trans (HB.out.mono (by simp))
  clear HB
  have e0 : w1.cell? ⟨w.heap.size, 0, none⟩ = some (.slice p cs.length cap) := hK.cell 0
  have e1 : w1.cell? ⟨w.heap.size, 1, none⟩ = some (.int .i64 rom) := hK.cell 1
  have e2 := hK.lt
  have HK : Hid (Blk w1 w.heap.size #[.slice p cs.length cap, .int .i64 rom] 26) := hK
  clear hK
  go_cut [5] from 8 (fun s wx => ∃ B M, s = .pointer (some ⟨B, 0, none⟩) ∧ w1.heap.size ≤ B ∧ w1.heap.size ≤ M ∧ MAt wx B M (MV M (.slice none 0 0) (RS.bare rom fun _ => 0)) (fun _ => 0) ∧ Below w1.heap.size w1 wx)
  case first =>
    go_region
    go_wp2
    go_meet
    case rel => exact ⟨w1.heap.size + 1, w1.heap.size, rfl, by omega, Nat.le_refl _, bare_at (w := w1) (rom := rom) HZ.out (Blk.alloc (Blk.new w1 Z 3) _).drew (w1.heap.size + 1) (blk_new' _ _ _ _ (World.size_alloc _ _)).drew (by omega), (((Below.refl _ _).alloc (Nat.le_refl _) _).alloc (by simp) _).drew⟩
  case rest =>
    obtain ⟨B, M, rfl, hB, hM, hA0, hb0⟩ := hcut
    have HI : Hid (MAt wc B M (MV M (.slice none 0 0) (RS.bare rom fun _ => 0)) (fun _ => 0) ∧ Below w1.heap.size w1 wc) := ⟨hA0, hb0⟩
    clear hA0 hb0 hmk e0 e1
    go_wp2
    go_loopw [6] (fun i wr => ∃ k : Nat, k ≤ cs.length ∧ i = .int .i64 k ∧ MAt wr B M (MV M (.slice none 0 0) (RS.bare rom fun _ => 0)) (fillI (fun _ => 0) (cs.take k)) ∧ Below w1.heap.size w1 wr) (fun i _ => cs.length - (intOf i).toNat)
    case atStart => exact ⟨0, Nat.zero_le _, rfl, HI.out⟩
    case round =>
      clear HI
      obtain ⟨k, hk, rfl, hA, hBl⟩ := hrel
      have HI : Hid (MAt wr B M (MV M (.slice none 0 0) (RS.bare rom fun _ => 0)) (fillI (fun _ => 0) (cs.take k)) ∧ Below w1.heap.size w1 wr) := ⟨hA, hBl⟩
      have e0 : wr.cell? ⟨w.heap.size, 0, none⟩ = some (.slice p cs.length cap) := (hBl.cell (p := ⟨w.heap.size, 0, none⟩) e2).trans (HK.out.cell 0)
      have lt1 : w.heap.size < wr.heap.size := Nat.lt_of_lt_of_le e2 hBl.size
      by_cases hl2 : k < cs.length
      · obtain ⟨p', cap', ev, H⟩ := HN.out.2
        injection ev with ev1 ev2 ev3
        subst ev1
        obtain ⟨b, off, rfl, hbN, HC⟩ := H (by intro e; rw [e] at hl2; simp at hl2)
        obtain ⟨c1, c2, p2, cap2, hv, hB2⟩ := HC k hl2
        have hBw : Below w.heap.size w wr := HB2.out.trans (hBl.mono (by omega))
        have d1 := (hBw.cell (p := ⟨b, off + k * 2, none⟩) (lt_of_cell (by rw [c1]; simp))).trans c1
        have d2 := (hBw.cell (p := ⟨b, off + k * 2 + 1, none⟩) (lt_of_cell (by rw [c2]; simp))).trans c2
        rw [hv] at d2
        have HF : Hid (fillI (fun _ => 0) (cs.take (k + 1)) = fillB (fillI (fun _ => 0) (cs.take k)) cs[k].at_ cs[k].bs) := fillI_snoc (fun _ => 0) cs k hl2
        have oc := List.all_eq_true.1 HA.out.1 _ (List.getElem_mem hl2)
        unfold okChn at oc
        obtain ⟨a0, a1⟩ := of_decide_eq_true oc
        have hL : cs[k].bs.length ≤ 4096 := Nat.le_trans (total_le (List.getElem_mem hl2)) HA.out.2
        have HD : Hid (w.cell? ⟨b, off + k * 2, none⟩ = some (.int .i64 cs[k].at_) ∧ w.cell? ⟨b, off + k * 2 + 1, none⟩ = some (.slice p2 cs[k].bs.length cap2)) := ⟨c1, hv ▸ c2⟩
        have HB3 : Hid (cs[k].bs ≠ [] → ∃ b off, p2 = some ⟨b, off, none⟩ ∧ b < N ∧ BytesAt w b off cs[k].bs) := hB2
        clear oc c1 c2 hv HC hA hBl H hBw hB2
        generalize fillI (fun _ => 0) (cs.take k) = Mk at *
        generalize cs[k].at_ = A at *
        generalize cs[k].bs = l at *
        go_wp2
        go_loopw [7] (fun i wq => ∃ j : Nat, j ≤ l.length ∧ i = .int .i64 j ∧ MAt wq B M (MV M (.slice none 0 0) (RS.bare rom fun _ => 0)) (fillB Mk A (l.take j)) ∧ Below w1.heap.size w1 wq) (fun i _ => l.length - (intOf i).toNat)
        case atStart => exact ⟨0, Nat.zero_le _, rfl, HI.out⟩
        case round =>
          clear HI e0 lt1 d1 d2
          obtain ⟨j, hj, rfl, hA, hBl⟩ := hrel
          have HI : Hid (MAt wr B M (MV M (.slice none 0 0) (RS.bare rom fun _ => 0)) (fillB Mk A (l.take j)) ∧ Below w1.heap.size w1 wr) := ⟨hA, hBl⟩
          have e0 : wr.cell? ⟨w.heap.size, 0, none⟩ = some (.slice (some ⟨b, off, none⟩) cs.length cap) := (hBl.cell (p := ⟨w.heap.size, 0, none⟩) e2).trans (HK.out.cell 0)
          have lt1 : w.heap.size < wr.heap.size := Nat.lt_of_lt_of_le e2 hBl.size
          have hBw : Below w.heap.size w wr := HB2.out.trans (hBl.mono (by omega))
          have d1 := (hBw.cell (p := ⟨b, off + k * 2, none⟩) (lt_of_cell (by rw [HD.out.1]; simp))).trans HD.out.1
          have d2 := (hBw.cell (p := ⟨b, off + k * 2 + 1, none⟩) (lt_of_cell (by rw [HD.out.2]; simp))).trans HD.out.2
          by_cases hlj : j < l.length
          · obtain ⟨b2, off2, rfl, hb2, hBy⟩ := HB3.out (by intro e; rw [e] at hlj; simp at hlj)
            have hcell := (hBw.cell (p := ⟨b2, off2 + j, none⟩) (lt_of_cell (by rw [hBy j hlj]; simp))).trans (hBy j hlj)
            have HS : Hid (fillB Mk A (l.take (j + 1)) = mput (fillB Mk A (l.take j)) ((A + (j : Int)) % 65536).toNat (l[j].toNat : Int)) := fillB_snoc Mk A l j hlj
            have hm := hA.m ((A + (j : Int)) % 65536).toNat (by omega)
            have fq := hA.fm ((A + (j : Int)) % 65536).toNat
            have m0 : wr.cell? ⟨B, 0, none⟩ = some (.slice (some ⟨M, 0, none⟩) 65536 65536) := hA.c 0 (by decide)
            have qlt := hA.ltM
            have i0 : 0 ≤ A + (j : Int) := by omega
            have i1 : 0 ≤ (A + (j : Int)) % 65536 := by omega
            have i2 : (A + (j : Int)) % 65536 < 65536 := by omega
            have hu := u8_r l[j]
            have hwx : IntKind.i64.wrap (l[j].toNat : Int) = (l[j].toNat : Int) := by rw [IntKind.wrap_i64]; omega
            have n1 : M ≠ w.heap.size := by omega
            have n2 : M ≠ b := by have := HN.out.1; omega
            have n3 : M ≠ b2 := by have := HN.out.1; omega
            have n4 : M ≠ B := Ne.symm hA.ne
            have n5 : w.heap.size ≠ M := by omega
            have n6 : b ≠ M := by have := HN.out.1; omega
            have n7 : b2 ≠ M := by have := HN.out.1; omega
            have n8 : B ≠ M := hA.ne
            have hwr : IntKind.i64.wrap (A + (j : Int)) = A + (j : Int) := by rw [IntKind.wrap_i64]; omega
            clear hA hBl hBy hBw
            generalize fillB Mk A (l.take j) = M2 at *
            generalize l[j] = x at *
            go_wp2_with fail
            go_region_held3 (fun w' => w'.cell? ⟨w.heap.size, 0, none⟩ = some (.slice (some ⟨b, off, none⟩) cs.length cap) ∧ w'.cell? ⟨b, off + k * 2, none⟩ = some (.int .i64 A) ∧ w'.cell? ⟨b, off + k * 2 + 1, none⟩ = some (.slice (some ⟨b2, off2, none⟩) l.length cap2) ∧ w'.cell? ⟨b2, off2 + j, none⟩ = some (.int .u8 (x.toNat : Int)) ∧ w'.cell? ⟨B, 0, none⟩ = some (.slice (some ⟨M, 0, none⟩) 65536 65536)) (go_keep) (first | (go_at_call 91; with_reducible refine (rcut16 _ _).mono ?_; rintro e w2 ⟨rfl, hw⟩; subst hw))
            all_goals
              go_wp2
              go_roundw
              case rel => exact ⟨j + 1, by omega, by go_num, by rw [HS.out]; exact (((TM.refl HI.out.1).setM (by omega)).drew).c, (HI.out.2.setCell hM _).drew⟩
              case measure => simp [intOf]; omega
          · have hke : l.take j = l := List.take_of_length_le (by omega)
            rw [hke, ← HF.out] at HI
            clear hA hBl hBw hke
            go_wp2
            go_roundw
            case rel => exact ⟨k + 1, by omega, by go_num, HI.out⟩
            case measure => simp [intOf]; omega
      · have hke : cs.take k = cs := List.take_of_length_le (by omega)
        rw [hke] at hA HI
        have m0 : wr.cell? ⟨B, 0, none⟩ = some (.slice (some ⟨M, 0, none⟩) 65536 65536) := hA.c 0 (by decide)
        have x1 := hA.m 65532 (by decide)
        have x2 := hA.m 65533 (by decide)
        have y1 := fillI_byte (fun _ => 0) (fun _ => by decide) cs 65532
        have y2 := fillI_byte (fun _ => 0) (fun _ => by decide) cs 65533
        have qlt := hA.ltM
        have blt := hA.lt
        have fz := hA.fr
        have hne := hA.ne
        have s2 : wr.cell? ⟨B, 2, none⟩ = some (.int .i64 0) := hA.c 2 (by decide)
        have s3 : wr.cell? ⟨B, 3, none⟩ = some (.int .i64 0) := hA.c 3 (by decide)
        have s4 : wr.cell? ⟨B, 4, none⟩ = some (.int .i64 0) := hA.c 4 (by decide)
        have s5 : wr.cell? ⟨B, 5, none⟩ = some (.int .i64 0) := hA.c 5 (by decide)
        have s6 : wr.cell? ⟨B, 6, none⟩ = some (.int .i64 0) := hA.c 6 (by decide)
        have s7 : wr.cell? ⟨B, 7, none⟩ = some (.int .i64 0) := hA.c 7 (by decide)
        have s8 : wr.cell? ⟨B, 8, none⟩ = some (.int .i64 0) := hA.c 8 (by decide)
        have s9 : wr.cell? ⟨B, 9, none⟩ = some (.bool false) := hA.c 9 (by decide)
        have HE : Hid ((RS.fresh rom cs).mem = fillI (fun _ => 0) cs ∧ MV M (.slice none 0 0) (RS.fresh rom cs) = MV M (.slice none 0 0) { RS.bare rom (fun _ => 0) with r := ⟨0, 0, 0, 253, 36, fillI (fun _ => 0) cs 65532 + 256 * fillI (fun _ => 0) cs 65533, 0, false⟩ }) := ⟨rfl, rfl⟩
        clear hA hBl hke
        generalize fillI (fun _ => 0) cs = Mk at *
        generalize Mk 65532 = q1 at *
        generalize Mk 65533 = q2 at *
        go_wp2_with fail
        go_region
        all_goals
          go_wp2
          go_ret2
          refine ⟨B, M, by omega, by omega, rfl, ?_, HB2.out.trans (((((((((HI.out.2.setCell hB _).setCell hB _).setCell hB _).setCell hB _).setCell hB _).setCell hB _).setCell hB _).setCell hB _).drew.mono (by omega))⟩
          rw [HE.out.1, HE.out.2]
          refine TM.c (w0 := wr) ?_
          apply TM.eq
          case h => (repeat (first | with_reducible exact TM.refl HI.out.1 | with_reducible apply TM.drew | ((with_reducible apply TM.set); (case hi => decide))))
          case e => rfl
          case e2 => rfl
end

/-
  The two computers side by side in memory, and the law's small functions.
-/
section
set_option maxRecDepth 100000
set_option maxHeartbeats 4000000

theorem fresh_alike {rom : Int} {cs : List Chn} {R : Nat → Option Value} : Alike (PC.fresh rom cs R) (RS.fresh rom cs) := by
  have e : (PC.fresh rom cs R).bpc = (RS.fresh rom cs).r.PC := by
    show joinI (fillI (fun _ => 0) cs 65532) (fillI (fun _ => 0) cs 65533) = fillI (fun _ => 0) cs 65532 + 256 * fillI (fun _ => 0) cs 65533
    unfold joinI
    omega
  exact ⟨rfl, rfl, rfl, rfl, rfl, rfl, rfl, .idle rfl rfl ⟨rfl, ⟨rfl, rfl, rfl, rfl, rfl, e⟩, rfl, rfl, rfl, rfl, rfl, e⟩⟩

theorem sameBus_same (b : BusI) (w : World) :
    Calls Tryz.prog 64 #[b.val, b.val] w fun e w' => e = .returned (.bool true) ∧ Below w.heap.size w w' := by
  obtain ⟨a, d, r, f⟩ := b
  unfold BusI.val
  go_enter Tryz.func64, Tryz.ntmps64
  go_wp2
  go_ret
  exact ⟨by simp, ((Below.refl _ _).alloc (Nat.le_refl _) _).alloc (by simp) _⟩

theorem sameRegs_same (r : RG) (w : World) :
    Calls Tryz.prog 65 #[r.val, r.val] w fun e w' => e = .returned (.bool true) ∧ Below w.heap.size w w' := by
  obtain ⟨a, x, y, s, p, pc, c, j⟩ := r
  unfold RG.val
  go_enter Tryz.func65, Tryz.ntmps65
  go_wp2
  go_ret
  exact ⟨by simp, ((Below.refl _ _).alloc (Nat.le_refl _) _).alloc (by simp) _⟩

theorem pickL (c n : Int) (w : World) (h : 1 ≤ n) (h2 : n ≤ 9223372036854775807) (hc1 : -9223372036854775808 ≤ c) (hc2 : c ≤ 9223372036854775807) :
    Calls Tryz.prog 43 #[.int .i64 c, .int .i64 n] w fun e w' => (∃ r : Nat, (r : Int) < n ∧ e = .returned (.int .i64 r)) ∧ w' = w := by
  go_enter Tryz.func43, Tryz.ntmps43
  go_wp2
  all_goals go_ret
  · have hc : c < 0 := by assumption
    have := pick_lt c n h hc
    exact ⟨⟨(-(c + 1).tmod n).toNat, by omega, ret_int (by omega)⟩, rfl⟩
  · have h0 := Int.emod_nonneg c (show n ≠ 0 by omega)
    have h1 := Int.emod_lt_of_pos c (show 0 < n by omega)
    exact ⟨⟨(c % n).toNat, by omega, ret_int (by omega)⟩, rfl⟩

theorem rcycle_jam {B M : Nat} {t : RS} {vh : Value} {w : World} (h0 : MAt w B M (MV M vh t) t.mem) (hj : t.r.jam = true) (nmi irq : Bool) :
    Calls Tryz.prog 63 #[.pointer (some ⟨B, 0, none⟩), .bool nmi, .bool irq] w fun e w' => e = .returned (.tuple #[BusI.val ⟨0, 0, false, false⟩, .bool false]) ∧ Below w.heap.size w w' := by
  have lt1 := h0.lt
  have m1 : w.heap.size ≠ B := by omega
  have m3 : B ≠ w.heap.size := by omega
  have c9 := h0.cs.2.2.2.2.2.2.2.2.2.1
  rw [hj] at c9
  clear h0
  unfold BusI.val
  go_enter Tryz.func63, Tryz.ntmps63
  go_wp2_with fail
  go_returns
  exact ⟨rfl, by go_grown⟩
end

/-
  The two computers side by side in memory: a cycle of both.
-/
section
theorem pair_md : (opTable.all fun e => decide (e.2.2 ≠ 0)) = true := by kernel_rfl
theorem pair_ne {i m : Nat} (h : okPair i m = true) : m ≠ 0 := by
  unfold okPair at h
  simp only [Bool.or_eq_true, Bool.and_eq_true, beq_iff_eq] at h
  rcases h with h | ⟨_, h⟩
  · obtain ⟨e, he, q⟩ := List.any_eq_true.1 h
    have h1 := of_decide_eq_true (List.all_eq_true.1 pair_md e he)
    simp only [Bool.and_eq_true, beq_iff_eq] at q
    omega
  · omega
theorem md_alike {s : PC} {t : RS} (H : Alike s t) : s.st = 1 → s.md ≠ 0 := by
  intro h
  cases H.way with
  | idle _ _ f => rw [f.st] at h; cases h
  | midst i m _ _ _ hok _ _ hL _ _ _ => rw [hL.md]; have := pair_ne hok; omega
  | jam _ e _ => rw [e] at h; cases h

theorem RgR.of {r : RG} (h : Rg r) : RgR r := ⟨h.A, h.X, h.Y, h.S, h.P, h.PC⟩

/-- A cycle of the document's computer that is like the program's. -/
theorem rcycle_all {R M base : Nat} {s : PC} {t : RS} {vh : Value} {w : World} (h0 : MAt w R M (MV M vh t) t.mem) (hv : HV w base R M vh t.h) (hbs : base ≤ w.heap.size) (al : Alike s t) (rn : Rn s) (nmi irq : Bool) :
    Calls Tryz.prog 63 #[.pointer (some ⟨R, 0, none⟩), .bool nmi, .bool irq] w fun e w' => e = .returned (.tuple #[(cycV s nmi irq).2.1.val, .bool (cycV s nmi irq).2.2]) ∧
      ∃ t' vh', Alike (cycV s nmi irq).1 t' ∧ MAt w' R M (MV M vh' t') t'.mem ∧ HV w' base R M vh' t'.h ∧ Tri R M vh.ownBlock w w' ∧ ∀ g, vh'.ownBlock = some g → vh.ownBlock = some g ∨ w.heap.size < g := by
  have hjm := alike_jam s t al
  unfold cycV
  cases hj : t.r.jam
  · rw [hj] at hjm
    have h5 : ¬ s.st = 5 := by simpa using hjm
    simp only [if_neg h5]
    obtain ⟨q1, q2, q3, q4⟩ := mid_want al hj
    have rg := al.rg rn
    have hmem : ∀ i, i < 65536 → 0 ≤ t.mem i ∧ t.mem i < 256 := al.mem ▸ rn.bytes.1
    have hcnt : 0 ≤ t.cnt ∧ t.cnt < 256 := al.cnt ▸ rn.bytes.2
    obtain ⟨e1, e2⟩ := cycle_alike s t nmi irq al rn hj
    obtain ⟨d, ad⟩ := cycle_range nmi irq rg q4 hmem hcnt
    refine (rcycle h0 hv hbs hj (RgR.of rg) hcnt q1 q2 q3 (fun i _ => hd_byte t.h q4 i) nmi irq d ad).mono ?_
    rintro e w' ⟨rfl, vh', p1, p2, p3, p4⟩
    exact ⟨by rw [e1], (t.cycle nmi irq).1, vh', e2, p1, p2, p3, p4⟩
  · rw [hj] at hjm
    have h5 : s.st = 5 := by simpa using hjm
    simp only [if_pos h5]
    refine (rcycle_jam h0 hj nmi irq).mono ?_
    rintro e w' ⟨rfl, hb⟩
    have hT := (TM.refl h0).below hb
    exact ⟨rfl, t, vh, al, hT.c, hv.kept hT.g, Tri.two hT.g, fun g hg => .inl hg⟩

structure Pair (w : World) (base B R M : Nat) (s : PC) (t : RS) (vh : Value) : Prop where
  x : CAt w B s
  y : MAt w R M (MV M vh t) t.mem
  o : HV w base R M vh t.h
  al : Alike s t
  nr : B ≠ R
  nm : B ≠ M
  nv : ∀ g, vh.ownBlock = some g → g ≠ B

/-- Nothing but blocks B, R, M, r and new ones has turned. -/
structure Four (B R M : Nat) (r : Option Nat) (w w' : World) : Prop where
  os : w'.os = w.os
  tape : w'.tape = w.tape
  output : w'.output = w.output
  size : w.heap.size ≤ w'.heap.size
  block : ∀ k, k < w.heap.size → k ≠ B → k ≠ R → k ≠ M → some k ≠ r → w'.heap[k]? = w.heap[k]?

section
variable {B R M : Nat} {r : Option Nat} {w w' : World}
theorem Four.refl (B R M : Nat) (r : Option Nat) (w : World) : Four B R M r w w := ⟨rfl, rfl, rfl, Nat.le_refl _, fun _ _ _ _ _ _ => rfl⟩
theorem Four.trans {a b c : World} (h : Four B R M r a b) (k : Four B R M r b c) : Four B R M r a c :=
  ⟨k.os.trans h.os, k.tape.trans h.tape, k.output.trans h.output, Nat.le_trans h.size k.size, fun i h1 h2 h3 h4 h5 => (k.block i (Nat.lt_of_lt_of_le h1 h.size) h2 h3 h4 h5).trans (h.block i h1 h2 h3 h4 h5)⟩
theorem Four.below (h : Below w.heap.size w w') : Four B R M r w w' := ⟨h.os, h.tape, h.output, h.size, fun k hk _ _ _ _ => h.block k hk⟩
theorem Four.tri (h : Tri R M r w w') : Four B R M r w w' := ⟨h.os, h.tape, h.output, h.size, fun k hk _ h2 h3 h4 => h.block k hk h2 h3 h4⟩
theorem Four.tn (h : w.grownBy w' (some B)) : Four B R M r w w' := ⟨h.os, h.tape, h.output, h.size, fun k hk h1 _ _ _ => h.block k hk (by intro e; injection e with e; exact h1 e)⟩
/-- Another row since. -/
theorem Four.row {r2 : Option Nat} {a b c : World} (h : Four B R M r a b) (k : Four B R M r2 b c) (hr : ∀ g, r2 = some g → r = some g ∨ a.heap.size ≤ g) : Four B R M r a c :=
  ⟨k.os.trans h.os, k.tape.trans h.tape, k.output.trans h.output, Nat.le_trans h.size k.size, fun i h1 h2 h3 h4 h5 => (k.block i (Nat.lt_of_lt_of_le h1 h.size) h2 h3 h4 (fun e => by
    rcases hr i e.symm with q | q
    · exact h5 q.symm
    · omega)).trans (h.block i h1 h2 h3 h4 h5)⟩
theorem Blk.by4 {n : Nat} {vs : Array Value} {T : TypeId} (b : Blk w n vs T) (h : Four B R M r w w') (h1 : n ≠ B) (h2 : n ≠ R) (h3 : n ≠ M) (h4 : some n ≠ r) : Blk w' n vs T := b.same (h.block n b.lt h1 h2 h3 h4)

variable {base : Nat} {s : PC} {t : RS} {vh : Value}
theorem Pair.kept (p : Pair w base B R M s t vh) (hb : Below w.heap.size w w') : Pair w' base B R M s t vh :=
  ⟨p.x.same (hb.block _ p.x.lt), p.y.same (hb.block _ p.y.lt) (hb.block _ p.y.ltM), p.o.kept (Two.below hb), p.al, p.nr, p.nm, p.nv⟩
/-- The program's computer has turned. -/
theorem Pair.half {s' : PC} (p : Pair w base B R M s t vh) (h : Tn B s' w w') : MAt w' R M (MV M vh t) t.mem ∧ HV w' base R M vh t.h :=
  have k : ∀ n, n ≠ B → n < w.heap.size → w'.heap[n]? = w.heap[n]? := fun n h1 h2 => h.g.block n h2 (by intro e; injection e with e; exact h1 e)
  ⟨p.y.same (k _ p.nr.symm p.y.lt) (k _ p.nm.symm p.y.ltM), ⟨row_same p.o.o (fun g hg => k g (p.nv g hg) (p.o.o.lt g hg).2), p.o.ne⟩⟩
end
end

/-
  The law Cycles, walked: a step of a computer.
-/
section
set_option maxRecDepth 100000
set_option maxHeartbeats 8000000

def opW (k a b : Int) (S : BA) (n q : Bool) (ca : Option Addr) (cl cc : Nat) (rom : Int) : Array Value := #[.int .i64 k, .int .i64 a, .int .i64 b, .string S, .bool n, .bool q, .slice ca cl cc, .int .i64 rom]

/-- What a step of a computer leaves. -/
def Ran (w : World) (base B R M : Nat) (vh : Value) (w' : World) : Prop := ∃ s' t' vh', Pair w' base B R M s' t' vh' ∧ Four B R M vh.ownBlock w w' ∧ ∀ g, vh'.ownBlock = some g → vh.ownBlock = some g ∨ w.heap.size ≤ g

theorem Ran.below {w w1 w2 : World} {base B R M : Nat} {vh : Value} (h : Ran w base B R M vh w1) (hb : Below w1.heap.size w1 w2) : Ran w base B R M vh w2 := by
  obtain ⟨s', t', vh', p, f, o⟩ := h
  exact ⟨s', t', vh', p.kept hb, f.trans (Four.below hb), o⟩

theorem runs_cycle (w : World) (base B R M : Nat) (s : PC) (t : RS) (vh : Value) (h : Pair w base B R M s t vh) (hbs : base ≤ w.heap.size) (a b : Int) (S : BA) (n q : Bool) (ca : Option Addr) (cl cc : Nat) (rom : Int) (hb1 : -9223372036854775808 ≤ b) (hb2 : b ≤ 9223372036854775807) :
    Calls Tryz.prog 42 #[.agg (opW 2 a b S n q ca cl cc rom), .agg #[.pointer (some ⟨B, 0, none⟩), .pointer (some ⟨R, 0, none⟩)]] w fun e w' => e = .returned (.bool true) ∧ Ran w base B R M vh w' := by
  have lB := h.x.lt
  have lR := h.y.lt
  have lM := h.y.ltM
  have HG : Hid (∀ g, vh.ownBlock = some g → g < w.heap.size) := fun g hg => (h.o.o.lt g hg).2
  have PK := fun w => pickL b 300 w (by decide) (by decide) hb1 hb2
  unfold opW
  go_enter Tryz.func42, Tryz.ntmps42
  go_wp2_with (first | (go_at_call 43; refine (PK _).mono ?_; rintro e w1 ⟨⟨r0, hr0, rfl⟩, rfl⟩))
  have hO : Blk ((w.alloc (.cells #[.int .i64 2, .int .i64 a, .int .i64 b, .string S, .bool n, .bool q, .slice ca cl cc, .int .i64 rom] 29)).alloc (.cells #[.pointer (some ⟨B, 0, none⟩), .pointer (some ⟨R, 0, none⟩)] 134)) w.heap.size #[.int .i64 2, .int .i64 a, .int .i64 b, .string S, .bool n, .bool q, .slice ca cl cc, .int .i64 rom] 29 := (Blk.new w _ _).alloc _
  have hQ : Blk ((w.alloc (.cells #[.int .i64 2, .int .i64 a, .int .i64 b, .string S, .bool n, .bool q, .slice ca cl cc, .int .i64 rom] 29)).alloc (.cells #[.pointer (some ⟨B, 0, none⟩), .pointer (some ⟨R, 0, none⟩)] 134)) (w.heap.size + 1) #[.pointer (some ⟨B, 0, none⟩), .pointer (some ⟨R, 0, none⟩)] 134 := blk_new' _ _ _ _ (by simp)
  have hL : Below w.heap.size w ((w.alloc (.cells #[.int .i64 2, .int .i64 a, .int .i64 b, .string S, .bool n, .bool q, .slice ca cl cc, .int .i64 rom] 29)).alloc (.cells #[.pointer (some ⟨B, 0, none⟩), .pointer (some ⟨R, 0, none⟩)] 134)) := ((Below.refl _ _).alloc (Nat.le_refl _) _).alloc (by simp) _
  generalize (w.alloc (.cells #[.int .i64 2, .int .i64 a, .int .i64 b, .string S, .bool n, .bool q, .slice ca cl cc, .int .i64 rom] 29)).alloc (.cells #[.pointer (some ⟨B, 0, none⟩), .pointer (some ⟨R, 0, none⟩)] 134) = W at *
  have HW : Hid (Blk W w.heap.size #[.int .i64 2, .int .i64 a, .int .i64 b, .string S, .bool n, .bool q, .slice ca cl cc, .int .i64 rom] 29 ∧ Blk W (w.heap.size + 1) #[.pointer (some ⟨B, 0, none⟩), .pointer (some ⟨R, 0, none⟩)] 134 ∧ Below w.heap.size w W ∧ w.heap.size + 1 < W.heap.size) := ⟨hO, hQ, hL, hQ.lt⟩
  have HP : Hid (Pair W base B R M s t vh) := h.kept hL
  clear h hO hQ hL
  go_loopw [5] (fun i wr => ∃ m : Int, -1 ≤ m ∧ m ≤ 300 ∧ i = .int .i64 m ∧ Ran W base B R M vh wr) (fun i _ => ((intOf i) + 1).toNat)
  case atStart => exact ⟨(r0 : Int), by omega, by omega, rfl, s, t, vh, HP.out, Four.refl _ _ _ _ _, fun g hg => .inl hg⟩
  case round =>
    clear HP
    obtain ⟨m, hm1, hm2, rfl, hR⟩ := hrel
    have HR : Hid (Ran W base B R M vh wr) := hR
    clear hR
    by_cases hlt : 0 ≤ m
    · obtain ⟨s', t', vh', hP, hF, hown⟩ := HR.out
      have hW := HW.out
      have k1 : w.heap.size ≠ B := by omega
      have k2 : w.heap.size ≠ R := by omega
      have k3 : w.heap.size ≠ M := by omega
      have k4 : w.heap.size + 1 ≠ B := by omega
      have k5 : w.heap.size + 1 ≠ R := by omega
      have k6 : w.heap.size + 1 ≠ M := by omega
      have k7 : ∀ g, vh'.ownBlock = some g → w.heap.size ≠ g ∧ w.heap.size + 1 ≠ g := fun g hg => by
        rcases hown g hg with z | z
        · have := HG.out g z; omega
        · have := hW.2.2.2; omega
      have hO1 := hW.1.by4 hF k1 k2 k3 (fun e => by have := HG.out _ e.symm; omega)
      have hQ1 := hW.2.1.by4 hF k4 k5 k6 (fun e => by have := HG.out _ e.symm; omega)
      have HX := mCycle_any (Tn.refl hP.x) n q (md_alike hP.al)
      have HY := fun (w1 : World) (o : Obj) (hT : Tn B (cycV s' n q).1 wr w1) => rcycle_all (s := s') (nmi := n) (irq := q) (base := base) ((TM.refl (hP.half hT).1).alloc o).c ((hP.half hT).2.kept ((TM.refl (hP.half hT).1).alloc o).g) (by have h1 := hT.g.size; have h2 := hF.size; have h3 := hW.2.2.1.size; simp; omega) hP.al (rn_cat hP.x)
      have HC : Hid (Pair wr base B R M s' t' vh' ∧ Four B R M vh.ownBlock W wr ∧ ∀ g, vh'.ownBlock = some g → vh.ownBlock = some g ∨ W.heap.size ≤ g) := ⟨hP, hF, hown⟩
      have lw : W.heap.size ≤ wr.heap.size := hF.size
      clear HR hP hF hown
      generalize (cycV s' n q).1 = sX at *
      generalize (cycV s' n q).2.1 = bx at *
      generalize (cycV s' n q).2.2 = ox at *
      have SB := fun w => sameBus_same bx w
      unfold BusI.val at HX HY SB
      have o4 : wr.cell? ⟨w.heap.size, 4, none⟩ = some (.bool n) := hO1.cell 4
      have o5 : wr.cell? ⟨w.heap.size, 5, none⟩ = some (.bool q) := hO1.cell 5
      have q0 : wr.cell? ⟨w.heap.size + 1, 0, none⟩ = some (.pointer (some ⟨B, 0, none⟩)) := hQ1.cell 0
      go_wp2_with fail
      refine HX.mono ?_
      rintro e w1 ⟨rfl, hT1⟩
      clear o4 o5 q0 HX
      have f1 : Four B R M vh'.ownBlock wr w1 := Four.tn hT1.g
      have hO2 := hO1.by4 f1 k1 k2 k3 (fun e => (k7 _ e.symm).1 rfl)
      have hQ2 := hQ1.by4 f1 k4 k5 k6 (fun e => (k7 _ e.symm).2 rfl)
      have HY2 := HY w1 (.cells #[.int .i64 bx.addr, .int .i64 bx.data, .bool bx.wr, .bool bx.ft] 53) hT1
      have o4 : w1.cell? ⟨w.heap.size, 4, none⟩ = some (.bool n) := hO2.cell 4
      have o5 : w1.cell? ⟨w.heap.size, 5, none⟩ = some (.bool q) := hO2.cell 5
      have q1 : w1.cell? ⟨w.heap.size + 1, 1, none⟩ = some (.pointer (some ⟨R, 0, none⟩)) := hQ2.cell 1
      have l1 := hO2.lt
      have l2 := hQ2.lt
      go_wp2_with fail
      refine HY2.mono ?_
      rintro e w2 ⟨rfl, t2, vh2, al2, y2, ov2, tri2, own2⟩
      clear o4 o5 q1 HY HY2
      have hA2 := (Blk.new w1 #[.int .i64 bx.addr, .int .i64 bx.data, .bool bx.wr, .bool bx.ft] 53).same (tri2.block w1.heap.size (by simp) (by omega) (by omega) (fun e => by have := HC.out.1.o.o.lt _ e.symm; have := f1.size; omega))
      obtain ⟨y0, y1, y3, y4, -, yl⟩ := hA2.four
      go_wp2_with fail
      refine (SB _).mono ?_
      rintro e w3 ⟨rfl, hb3⟩
      have hsz : (w1.alloc (.cells #[.int .i64 bx.addr, .int .i64 bx.data, .bool bx.wr, .bool bx.ft] 53)).heap.size = w1.heap.size + 1 := World.size_alloc _ _
      have HN : Hid (Ran W base B R M vh w3) := by
        obtain ⟨hP, hF, hown⟩ := HC.out
        have f2 : Four B R M vh'.ownBlock wr w2 := (f1.trans (Four.below ((Below.refl _ _).alloc (Nat.le_refl _) _))).trans (Four.tri tri2)
        have f3 : Four B R M vh'.ownBlock w2 w3 := (Four.below ((Below.refl _ _).alloc (Nat.le_refl _) _)).trans (Four.below hb3)
        have lx := hT1.c.lt
        have x2 : CAt w2 B sX := (hT1.c.same (Below.heap_alloc _ _ _ lx)).same (tri2.block B (by rw [hsz]; omega) hP.nr hP.nm (fun e => hP.nv _ e.symm rfl))
        have p2 : Pair w2 base B R M sX t2 vh2 := ⟨x2, y2, ov2, al2, hP.nr, hP.nm, fun g hg => by
          rcases own2 g hg with z | z
          · exact hP.nv g z
          · rw [hsz] at z; omega⟩
        have p3 := (p2.kept ((Below.refl _ _).alloc (Nat.le_refl _) _)).kept hb3
        refine ⟨sX, t2, vh2, p3, hF.row (f2.trans f3) hown, fun g hg => ?_⟩
        rcases own2 g hg with z | z
        · exact hown g z
        · rw [hsz] at z; exact .inr (by have := f1.size; omega)
      clear hb3 y2 ov2 al2 tri2 own2 hA2 y0 y1 y3 y4 yl SB HC hT1 f1 hO1 hO2 hQ1 hQ2
      go_wp2_with fail
      go_roundw
      case rel => exact ⟨m - 1, by omega, by omega, by go_num, HN.out⟩
      case measure => simp [intOf]; omega
    · have HE : Hid (Ran w base B R M vh wr) := by
        obtain ⟨s', t', vh', p, f, o⟩ := HR.out
        have hs := HW.out.2.2.1.size
        exact ⟨s', t', vh', p, (Four.below (HW.out.2.2.1)).trans f, fun g hg => (o g hg).imp id (fun z => by omega)⟩
      clear HR
      go_wp2
      go_ret
      exact ⟨rfl, HE.out⟩

theorem regs_alike {s : PC} {t : RS} (H : Alike s t) : s.regs.val = t.r.val := by
  have b := H.way.beh
  have j := alike_jam s t H
  unfold PC.regs RegI.val RG.val
  dsimp only
  rw [b.a, b.x, b.y, b.sp, b.p, b.pc, H.cyc, j]
theorem peek_alike {s : PC} {t : RS} (H : Alike s t) (b : Int) : s.peek b = t.peek (b % 65536) := by
  unfold PC.peek PC.look RS.peek
  rw [H.cnt, H.calls, H.mem]

theorem runs_peek (w : World) (base B R M : Nat) (s : PC) (t : RS) (vh : Value) (h : Pair w base B R M s t vh) (a b : Int) (S : BA) (n q : Bool) (ca : Option Addr) (cl cc : Nat) (rom : Int) :
    Calls Tryz.prog 42 #[.agg (opW 4 a b S n q ca cl cc rom), .agg #[.pointer (some ⟨B, 0, none⟩), .pointer (some ⟨R, 0, none⟩)]] w fun e w' => e = .returned (.bool true) ∧ Ran w base B R M vh w' := by
  have hL : Below w.heap.size w ((w.alloc (.cells #[.int .i64 4, .int .i64 a, .int .i64 b, .string S, .bool n, .bool q, .slice ca cl cc, .int .i64 rom] 29)).alloc (.cells #[.pointer (some ⟨B, 0, none⟩), .pointer (some ⟨R, 0, none⟩)] 134)) := ((Below.refl _ _).alloc (Nat.le_refl _) _).alloc (by simp) _
  have hP := h.kept hL
  have HX := mPeek_any (Tn.refl hP.x) b
  have HY := rpeek (TM.refl hP.y) b
  rw [peek_alike hP.al b] at HX
  have HE : Hid (Ran w base B R M vh ((w.alloc (.cells #[.int .i64 4, .int .i64 a, .int .i64 b, .string S, .bool n, .bool q, .slice ca cl cc, .int .i64 rom] 29)).alloc (.cells #[.pointer (some ⟨B, 0, none⟩), .pointer (some ⟨R, 0, none⟩)] 134))) := ⟨s, t, vh, hP, Four.below hL, fun g hg => .inl hg⟩
  generalize t.peek (b % 65536) = v at *
  clear h hP hL
  unfold opW
  go_enter Tryz.func42, Tryz.ntmps42
  go_wp2_with (first | (go_at_call 21; refine HX.mono ?_; rintro e w1 ⟨rfl, rfl⟩) | (go_at_call 67; refine HY.mono ?_; rintro e w1 ⟨rfl, rfl⟩))
  go_ret
  exact ⟨by simp, HE.out⟩

theorem runs_regs (w : World) (base B R M : Nat) (s : PC) (t : RS) (vh : Value) (h : Pair w base B R M s t vh) (a b : Int) (S : BA) (n q : Bool) (ca : Option Addr) (cl cc : Nat) (rom : Int) :
    Calls Tryz.prog 42 #[.agg (opW 3 a b S n q ca cl cc rom), .agg #[.pointer (some ⟨B, 0, none⟩), .pointer (some ⟨R, 0, none⟩)]] w fun e w' => e = .returned (.bool true) ∧ Ran w base B R M vh w' := by
  have hL : Below w.heap.size w ((w.alloc (.cells #[.int .i64 3, .int .i64 a, .int .i64 b, .string S, .bool n, .bool q, .slice ca cl cc, .int .i64 rom] 29)).alloc (.cells #[.pointer (some ⟨B, 0, none⟩), .pointer (some ⟨R, 0, none⟩)] 134)) := ((Below.refl _ _).alloc (Nat.le_refl _) _).alloc (by simp) _
  have hQ : Blk ((w.alloc (.cells #[.int .i64 3, .int .i64 a, .int .i64 b, .string S, .bool n, .bool q, .slice ca cl cc, .int .i64 rom] 29)).alloc (.cells #[.pointer (some ⟨B, 0, none⟩), .pointer (some ⟨R, 0, none⟩)] 134)) (w.heap.size + 1) #[.pointer (some ⟨B, 0, none⟩), .pointer (some ⟨R, 0, none⟩)] 134 := blk_new' _ _ _ _ (by simp)
  have hP := h.kept hL
  have HX := mRegs_any (Tn.refl hP.x)
  rw [regs_alike hP.al] at HX
  unfold RG.val at HX
  have HY := fun w' (hb : Below ((w.alloc (.cells #[.int .i64 3, .int .i64 a, .int .i64 b, .string S, .bool n, .bool q, .slice ca cl cc, .int .i64 rom] 29)).alloc (.cells #[.pointer (some ⟨B, 0, none⟩), .pointer (some ⟨R, 0, none⟩)] 134)).heap.size ((w.alloc (.cells #[.int .i64 3, .int .i64 a, .int .i64 b, .string S, .bool n, .bool q, .slice ca cl cc, .int .i64 rom] 29)).alloc (.cells #[.pointer (some ⟨B, 0, none⟩), .pointer (some ⟨R, 0, none⟩)] 134)) w') => rregs (TM.refl (hP.kept hb).y)
  have SR := fun w => sameRegs_same t.r w
  unfold RG.val at HY SR
  have HP : Hid (Pair ((w.alloc (.cells #[.int .i64 3, .int .i64 a, .int .i64 b, .string S, .bool n, .bool q, .slice ca cl cc, .int .i64 rom] 29)).alloc (.cells #[.pointer (some ⟨B, 0, none⟩), .pointer (some ⟨R, 0, none⟩)] 134)) base B R M s t vh ∧ Below w.heap.size w ((w.alloc (.cells #[.int .i64 3, .int .i64 a, .int .i64 b, .string S, .bool n, .bool q, .slice ca cl cc, .int .i64 rom] 29)).alloc (.cells #[.pointer (some ⟨B, 0, none⟩), .pointer (some ⟨R, 0, none⟩)] 134))) := ⟨hP, hL⟩
  clear h hP hL
  unfold opW
  go_enter Tryz.func42, Tryz.ntmps42
  go_wp2_with fail
  refine HX.mono ?_
  rintro e w1 ⟨rfl, hb1⟩
  have hQ1 := hQ.below hb1
  have q1 : w1.cell? ⟨w.heap.size + 1, 1, none⟩ = some (.pointer (some ⟨R, 0, none⟩)) := hQ1.cell 1
  have l1 := hQ1.lt
  go_upto_region 14 with fail
  have hA := Blk.new w1 #[.int .i64 t.r.A, .int .i64 t.r.X, .int .i64 t.r.Y, .int .i64 t.r.S, .int .i64 t.r.P, .int .i64 t.r.PC, .int .i64 t.r.cyc, .bool t.r.jam] 37
  have hQ2 := hQ1.alloc (.cells #[.int .i64 t.r.A, .int .i64 t.r.X, .int .i64 t.r.Y, .int .i64 t.r.S, .int .i64 t.r.P, .int .i64 t.r.PC, .int .i64 t.r.cyc, .bool t.r.jam] 37)
  have hW2 : Below ((w.alloc (.cells #[.int .i64 3, .int .i64 a, .int .i64 b, .string S, .bool n, .bool q, .slice ca cl cc, .int .i64 rom] 29)).alloc (.cells #[.pointer (some ⟨B, 0, none⟩), .pointer (some ⟨R, 0, none⟩)] 134)).heap.size ((w.alloc (.cells #[.int .i64 3, .int .i64 a, .int .i64 b, .string S, .bool n, .bool q, .slice ca cl cc, .int .i64 rom] 29)).alloc (.cells #[.pointer (some ⟨B, 0, none⟩), .pointer (some ⟨R, 0, none⟩)] 134)) (w1.alloc (.cells #[.int .i64 t.r.A, .int .i64 t.r.X, .int .i64 t.r.Y, .int .i64 t.r.S, .int .i64 t.r.P, .int .i64 t.r.PC, .int .i64 t.r.cyc, .bool t.r.jam] 37)) := hb1.trans (((Below.refl _ _).alloc (Nat.le_refl _) _).mono hb1.size)
  generalize w1.alloc (.cells #[.int .i64 t.r.A, .int .i64 t.r.X, .int .i64 t.r.Y, .int .i64 t.r.S, .int .i64 t.r.P, .int .i64 t.r.PC, .int .i64 t.r.cyc, .bool t.r.jam] 37) = W2 at *
  generalize w1.heap.size = A0 at *
  have HW2 : Hid (Below ((w.alloc (.cells #[.int .i64 3, .int .i64 a, .int .i64 b, .string S, .bool n, .bool q, .slice ca cl cc, .int .i64 rom] 29)).alloc (.cells #[.pointer (some ⟨B, 0, none⟩), .pointer (some ⟨R, 0, none⟩)] 134)).heap.size ((w.alloc (.cells #[.int .i64 3, .int .i64 a, .int .i64 b, .string S, .bool n, .bool q, .slice ca cl cc, .int .i64 rom] 29)).alloc (.cells #[.pointer (some ⟨B, 0, none⟩), .pointer (some ⟨R, 0, none⟩)] 134)) W2) := hW2
  have x0 : W2.cell? ⟨A0, 0, none⟩ = some (.int .i64 t.r.A) := hA.cell 0
  have x1 : W2.cell? ⟨A0, 1, none⟩ = some (.int .i64 t.r.X) := hA.cell 1
  have x2 : W2.cell? ⟨A0, 2, none⟩ = some (.int .i64 t.r.Y) := hA.cell 2
  have x3 : W2.cell? ⟨A0, 3, none⟩ = some (.int .i64 t.r.S) := hA.cell 3
  have x4 : W2.cell? ⟨A0, 4, none⟩ = some (.int .i64 t.r.P) := hA.cell 4
  have x5 : W2.cell? ⟨A0, 5, none⟩ = some (.int .i64 t.r.PC) := hA.cell 5
  have x6 : W2.cell? ⟨A0, 6, none⟩ = some (.int .i64 t.r.cyc) := hA.cell 6
  have x7 : W2.cell? ⟨A0, 7, none⟩ = some (.bool t.r.jam) := hA.cell 7
  have lA := hA.lt
  have q2 : W2.cell? ⟨w.heap.size + 1, 1, none⟩ = some (.pointer (some ⟨R, 0, none⟩)) := hQ2.cell 1
  have lQ := hQ2.lt
  clear HX hb1 q1 l1 hA hQ hQ1 hQ2 hW2
  go_region_held3 (fun w' => w'.cell? ⟨A0, 0, none⟩ = some (.int .i64 t.r.A) ∧ w'.cell? ⟨A0, 1, none⟩ = some (.int .i64 t.r.X) ∧ w'.cell? ⟨A0, 2, none⟩ = some (.int .i64 t.r.Y) ∧ w'.cell? ⟨A0, 3, none⟩ = some (.int .i64 t.r.S) ∧ w'.cell? ⟨A0, 4, none⟩ = some (.int .i64 t.r.P) ∧ w'.cell? ⟨A0, 5, none⟩ = some (.int .i64 t.r.PC) ∧ w'.cell? ⟨A0, 6, none⟩ = some (.int .i64 t.r.cyc) ∧ w'.cell? ⟨A0, 7, none⟩ = some (.bool t.r.jam) ∧ w'.cell? ⟨w.heap.size + 1, 1, none⟩ = some (.pointer (some ⟨R, 0, none⟩))) (go_keep) (first | (go_at_call 66; refine (HY _ HW2.out.drew).mono ?_; rintro e w5 ⟨rfl, hb5⟩; obtain ⟨cA, fA, sz5, bl5⟩ := held_r hb5; have k0 := (cA _ 0 lA).trans x0; have k1 := (cA _ 1 lA).trans x1; have k2 := (cA _ 2 lA).trans x2; have k3 := (cA _ 3 lA).trans x3; have k4 := (cA _ 4 lA).trans x4; have k5 := (cA _ 5 lA).trans x5; have k6 := (cA _ 6 lA).trans x6; have k7 := (cA _ 7 lA).trans x7; have kq := (cA _ 1 lQ).trans q2; have lA3 := Nat.lt_of_lt_of_le lA sz5; have lQ3 := Nat.lt_of_lt_of_le lQ sz5; have HB5 : Hid (Below W2.heap.size W2 w5) := bl5; clear hb5 cA fA bl5 sz5) | (go_at_call 65; refine (SR _).mono ?_; rintro e w6 ⟨rfl, hb4⟩; have j0 := (hb4.cell (p := ⟨A0, 0, none⟩) lA3).trans k0; have j1 := (hb4.cell (p := ⟨A0, 1, none⟩) lA3).trans k1; have j2 := (hb4.cell (p := ⟨A0, 2, none⟩) lA3).trans k2; have j3 := (hb4.cell (p := ⟨A0, 3, none⟩) lA3).trans k3; have j4 := (hb4.cell (p := ⟨A0, 4, none⟩) lA3).trans k4; have j5 := (hb4.cell (p := ⟨A0, 5, none⟩) lA3).trans k5; have j6 := (hb4.cell (p := ⟨A0, 6, none⟩) lA3).trans k6; have j7 := (hb4.cell (p := ⟨A0, 7, none⟩) lA3).trans k7; have jq := (hb4.cell (p := ⟨w.heap.size + 1, 1, none⟩) lQ3).trans kq; have HB6 : Hid (Below W2.heap.size W2 w6) := HB5.out.trans (hb4.mono HB5.out.size); clear hb4))
  all_goals
    have HE : Hid (Ran w base B R M vh w6) := by
      obtain ⟨hP, hL⟩ := HP.out
      have h2 := hP.kept (HW2.out.trans (HB6.out.mono HW2.out.size))
      exact ⟨s, t, vh, h2, (Four.below hL).trans (Four.below (HW2.out.trans (HB6.out.mono HW2.out.size))), fun g hg => .inl hg⟩
    clear HB6 HB5 HP HY SR HW2
    go_wp2
    go_ret
    exact ⟨rfl, HE.out⟩
end

end Go.Proofs.YtcgjliflnnklnaaGreat
