/-
  Joined texts.
-/
import Derived.Test.YtcgjliflnnklnabGreatQJ
import Derived.Test.YtcgjliflnnklnabGreatQE
import Derived.Test.YtcgjliflnnklnabGreatQF
namespace Go.Proofs.YtcgjliflnnklnabGreat
open Go.RowKit

/-
  A stub fed: walked.
-/
section
/-- How the answers stand, behind k packets. -/
structure FdW (w0 w1 : World) (B pg : Nat) (N : Int) (S : SB) (ps : List Pk) (W : World) (u : Value) (k : Nat) (q : PC) : Prop where
  t : Tn B q w0 W
  v : SV (S.answers (ps.take k)).1 q
  i : SI (S.answers (ps.take k)).1 (N + 1000000 * k)
  r : (S.answers (ps.take k)).1.rp.length ≤ 80
  z : w1.heap.size ≤ W.heap.size
  p : ∀ j, W.cell? ⟨pg, j, none⟩ = w1.cell? ⟨pg, j, none⟩
  o : W.ownsRow w1.heap.size 5 1 u (S.answers (ps.take k)).2.length (vals (S.answers (ps.take k)).2)
  l : (S.answers (ps.take k)).2.length ≤ 201 * k

/-- What a feed leaves. -/
def FeedR (B : Nat) (N : Int) (w0 w w' : World) (R : SB × List UInt8) (n : Nat) (e : Ending) : Prop :=
  ∃ v s', e = .returned v ∧ w'.ownsRow w.heap.size 5 1 v R.2.length (vals R.2) ∧ Tn B s' w0 w' ∧ SV R.1 s' ∧ SI R.1 (N + 1000000 * n) ∧ R.1.rp.length ≤ 80

theorem own_base {w : World} {a b n : Nat} {v : Value} {xs : List Value} (h : w.ownsRow a 5 1 v n xs) (hb : b ≤ a) : w.ownsRow b 5 1 v n xs := by
  obtain ⟨h1, h2⟩ := h
  refine ⟨h1, ?_⟩
  rcases h2 with h2 | ⟨g, cap, cur, e, h3, h4⟩
  · exact .inl h2
  · exact .inr ⟨g, cap, cur, e, Nat.le_trans hb h3, h4⟩

set_option maxRecDepth 100000 in
set_option maxHeartbeats 4000000 in
theorem feed_any {B : Nat} {s : PC} {w0 w : World} {S : SB} {N : Int} (h : Tn B s w0 w) (hS : SV S s) (hI : SI S N) (hN0 : 0 ≤ N) (hN : N ≤ 100000000000000) (hrp : S.rp.length ≤ 80) (bb off cap : Nat) (l : List UInt8) (hl : l.length ≤ 1000000) (hB : BytesAt w bb off l) (hne : bb ≠ B) :
    Calls Tryz.prog 19 #[.pointer (some ⟨B, 0, none⟩), .slice (some ⟨bb, off, none⟩) l.length cap] w fun e w' => FeedR B N w0 w w' (S.feed l) (feedP S.sc l).length e := by
  obtain ⟨i0, hi, hz0, hz1, hz2⟩ := info_parts inf_u8
  have hlt := h.c.lt
  have hsz := h.g.size
  have hpl := feedP_len l S.sc
  have hpb := feedP_body l S.sc
  have SF := scannerFeedS_any B bb off cap S.sc l w (hS.scs h) (by omega) hB hne (by omega)
  unfold SB.feed
  have HT := hid h
  have HS := hid hS
  have HI0 := hid hI
  have HRP := hid hrp
  clear hB
  generalize feedP S.sc l = ps at *
  generalize feedS S.sc l = c1 at *
  have HPB := hid hpb
  have HI1 : Hid (SI { S with sc := c1 } N) := HI0.out.like rfl rfl
  have hr1 : ({ S with sc := c1 } : SB).rp.length ≤ 80 := HRP.out
  have SCN := fun {w1 : World} {v : Value} (F : FedS (fun o => w.cell? ⟨B, o, none⟩) B w w1 v c1 ps) => scanned HT.out HS.out F
  generalize ({ S with sc := c1 } : SB) = S1 at *
  go_enter Tryz.func19, Tryz.ntmps19
  go_wp2_with fail
  refine SF.mono ?_
  rintro e w1 ⟨v, rfl, F1⟩
  obtain ⟨s1, T1, V1⟩ := SCN F1
  clear SCN
  have hs1 := F1.grown.size
  have HV1 := hid V1
  have HT1 := hid T1
  by_cases hps : ps = []
  · subst hps
    obtain rfl := F1.nil rfl
    clear F1 SF h hS hI V1 T1
    go_wp2_with fail
    go_loopw [5, 14] (fun v i wr => v = .slice none 0 0 ∧ i = .int .i64 0 ∧ wr = w1) (fun _ i _ => 1)
    case atStart => exact ⟨rfl, rfl, rfl⟩
    case round =>
      obtain ⟨rfl, rfl, rfl⟩ := hrel
      go_wp2
      go_ret
      exact ⟨_, s1, rfl, World.ownsRow_nil _ _ _ _, HT1.out, HV1.out, HI1.out.mono (by omega), hr1⟩
  · have hps1 : ps.length ≠ 0 := fun e => hps (List.eq_nil_of_length_eq_zero e)
    obtain ⟨pg, pcap, rfl⟩ : ∃ g cap, v = .slice (some ⟨g, 0, none⟩) ps.length cap := by
      rcases F1.own.2 with ⟨-, e⟩ | ⟨g, cap, cur, e, -⟩
      · exact absurd e hps1
      · exact ⟨g, cap, e⟩
    have HPC : Hid (∀ k j, (hk : k < ps.length) → j < 3 → w1.cell? ⟨pg, k * 3 + j, none⟩ = (ps[k].cells)[j]?) := fun k j hk hj => (F1.own.cellAt (k * 3 + j) (by omega)).trans (pvals_get _ k j hk hj)
    have hpg := F1.own.lt pg rfl
    have npg : pg ≠ B := by omega
    have hpg2 : pg < w1.heap.size := hpg.2
    clear F1 SF h hS hI V1 T1
    have HW0 : Hid (FdW w0 w1 B pg N S1 ps w1 (.slice none 0 0) 0 s1) := ⟨HT1.out, HV1.out, HI1.out.mono (by omega), hr1, Nat.le_refl _, fun j => rfl, World.ownsRow_nil _ _ _ _, by simp [SB.answers]⟩
    have hpn : ps.length ≤ 1000000 := by omega
    go_wp2_with fail
    go_loopw [5, 14] (fun v i wr => ∃ (k : Nat) (t : PC), k ≤ ps.length ∧ i = .int .i64 k ∧ FdW w0 w1 B pg N S1 ps wr v k t) (fun _ i _ => ps.length - (intOf i).toNat)
    case atStart => exact ⟨0, s1, by omega, rfl, HW0.out⟩
    case round =>
      obtain ⟨k, t, hk, rfl, hW⟩ := hrel
      by_cases hlt1 : k < ps.length
      · have q0 := (hW.p (k * 3 + 0)).trans (HPC.out k 0 hlt1 (by decide))
        have q1 := (hW.p (k * 3 + 1)).trans (HPC.out k 1 hlt1 (by decide))
        have q2 := (hW.p (k * 3 + 2)).trans (HPC.out k 2 hlt1 (by decide))
        have hbd := HPB.out ps[k] (List.getElem_mem _)
        have HST := hid (answers_snoc S1 (ps.take k) ps[k])
        rw [← List.take_succ_eq_append_getElem hlt1] at HST
        have AN := fun {x w : World} (h : Tn B t x w) => answer_any h hW.v hW.i (by omega) (by omega) ps[k] hbd hW.r
        have hal := ans_len (S1.answers (ps.take k)).1 ps[k] hW.r
        have har := ans_rp (S1.answers (ps.take k)).1 ps[k] hW.r
        have HW := hid hW
        have htl := hW.l
        rw [pk_val] at AN
        generalize hPK : ps[k] = pk at *
        obtain ⟨sq, bd, ba⟩ := pk
        change wr.cell? ⟨pg, k * 3, none⟩ = some (.int .i64 (sq : Int)) at q0
        change wr.cell? ⟨pg, k * 3 + 1, none⟩ = some (.string ⟨bd.toArray⟩) at q1
        change wr.cell? ⟨pg, k * 3 + 2, none⟩ = some (.bool ba) at q2
        generalize hA : (S1.answers (ps.take k)).1.ans ⟨sq, bd, ba⟩ = A at *
        obtain ⟨S2, L⟩ := A
        generalize hT0 : (S1.answers (ps.take k)).2 = T0 at *
        have ho : wr.ownsRow w1.heap.size 5 1 u5 T0.length (vals T0) := by have := hW.o; rwa [hT0] at this
        have HO := hid ho
        have hz := hW.z
        have HTk := hid hW.t
        have hkl : (k : Int) < (ps.length : Int) := by omega
        clear hW ho HW0 hA hT0 hPK
        have hal : 0 < L.length ∧ L.length ≤ 201 := hal
        have HST : Hid (S1.answers (ps.take (k + 1)) = (S2, T0 ++ L)) := HST
        go_wp2_with fail
        refine (AN (Tn.refl (HTk.out.alloc _).c)).mono ?_
        rintro e w2 ⟨g2, cap2, s2, rfl, b2, l2, m2, T2, V2, I2⟩
        have HT2 := hid ((HTk.out.alloc _).trans T2)
        have HV2 := hid V2
        have HI2 := hid I2
        have HB2 := hid b2
        have HO2 := hid (own_kept (HO.out.alloc _) T2.g (by omega))
        have hzz := T2.g.size
        simp only [World.size_alloc] at hzz
        have hpw : pg < wr.heap.size := by omega
        have HP2 : Hid (∀ j, w2.cell? ⟨pg, j, none⟩ = w1.cell? ⟨pg, j, none⟩) := fun j => ((kept T2).1 pg j npg (by simp; omega)).trans ((World.cell?_of_block (a := ⟨pg, j, none⟩) (Below.heap_alloc _ _ _ hpw)).trans (HW.out.p j))
        have hl2 : T0.length ≤ 201 * k := htl
        have hB1 : B < w1.heap.size := by omega
        have h01 : w0.heap.size ≤ w1.heap.size := by omega
        clear T2 V2 I2 b2 AN
        go_wp2_with (first | (at_builtin; go_must (refine wpList_append_lies _ rfl (.tmp 18) (.tmp 21) 22 rfl w1.heap.size 5 i0 (.int .u8 0) 1 1 und_bytes hi hz0 hz1 hz2 rfl (by decide) u5 T0.length (vals T0) rfl HO2.out ⟨g2, 0, none⟩ L.length cap2 (vals L) rfl (by rw [vals_length]; simp) (bytes_news HB2.out) (vals_one L) hal.1 (by unfold maxLen; omega) (by omega) (by omega) _ rfl ?_; intro g' cap' w4 hown' hgrow hat hlt'; have H4 : Hid (w4.ownsRow w1.heap.size 5 1 (.slice (some ⟨g', 0, none⟩) (T0.length + L.length) cap') (T0 ++ L).length (vals (T0 ++ L)) ∧ Tn B s2 w0 w4 ∧ w1.heap.size ≤ w4.heap.size ∧ ∀ j, w4.cell? ⟨pg, j, none⟩ = w1.cell? ⟨pg, j, none⟩) := ⟨by rw [List.length_append, vals_append]; exact hown', tn_row HT2.out hgrow (fun q e => by have := (HO2.out.lt q e).1; omega), by have := hgrow.size; omega, fun j => (World.cell?_of_block (a := ⟨pg, j, none⟩) (hgrow.block pg (by omega) (fun e => by have := (HO2.out.lt pg e.symm).1; omega))).trans (HP2.out j)⟩; clear hown' hgrow hat hlt')))
        go_roundw
        case rel =>
          obtain ⟨b1, b2, b3, b4⟩ := H4.out
          refine ⟨k + 1, s2, by omega, by go_num, ⟨b2, ?_, ?_, ?_, b3, b4, ?_, ?_⟩⟩
          · rw [HST.out]; exact HV2.out
          · rw [HST.out]; exact HI2.out.mono (by omega)
          · rw [HST.out]; exact har
          · rw [HST.out]; exact b1
          · rw [HST.out]; show (T0 ++ L).length ≤ _; rw [List.length_append]; omega
        case measure => simp [intOf]; omega
      · have e1 : k = ps.length := by omega
        subst e1
        have HW := hid hW
        clear hW HW0
        go_wp2
        go_ret
        have q := HW.out
        have et : ps.take ps.length = ps := List.take_length
        obtain ⟨a1, a2, a3, a4, a5, a6, a7, a8⟩ := q
        rw [et] at a2 a3 a4 a7
        exact ⟨_, t, rfl, own_base a7 hs1, a1, a2, a3, a4⟩
end

/-
  A fresh stub, whole.
-/
section
/-- What stands behind the computer of a zero stub. -/
def zAll : List Value := [.int .u8 0] ++ (List.replicate 200 (.int .u8 0) ++ ([.int .i64 0, .int .u8 0, .int .u8 0, .bool false, .string ⟨#[]⟩] ++
  ([.int .u16 0, .int .u16 0, .int .u16 0, .int .u16 0, .int .i64 0, .int .u16 0, .int .u16 0, .int .u16 0, .int .u16 0, .int .i64 0] ++
  ((List.replicate 4 [.int .i64 0, .int .u16 0, .int .u8 0, .int .u8 0, .int .u8 0, .int .u8 0, .int .u8 0, .int .u8 0, .int .u8 0, .int .u8 0, .int .i64 0]).flatten ++ ([.int .i64 0] ++
  ((List.replicate 64 [.int .i64 0, .int .i64 0, .bool false, .bool false]).flatten ++ [.int .i64 0, .int .i64 0, .bool false, .bool false, .bool false]))))))
theorem zall_rest : (Tryz.zeroCells88.toList.drop 65562).take 522 = zAll := by kernel_rfl
def ZAll (R : Nat → Option Value) : Prop := ∀ k, k < 522 → R (65562 + k) = zAll[k]?
theorem zero_stubA : ∃ (R : Nat → Option Value) (z : Array Value), (∀ w : World, Sem.run Tryz.prog (zeroValue 88) w = .ok (.agg z) w) ∧ z.size = 66084 ∧ ZAll R ∧ ∀ (w : World) (t : TypeId), CAt (w.alloc (.cells z t)) w.heap.size (zeroPC R) :=
  ⟨_, _, Tryz.zeroValue88, Tryz.zeroCells88_size, fun k hk => by rw [← Array.getElem?_toList, ← zall_rest, List.getElem?_take, if_pos hk, List.getElem?_drop], fun w t => cat_zero w t _ zstub_ok zstub_tail⟩
theorem zring : ((List.range 64).map fun i => (zAll[261 + i * 4]?, zAll[261 + i * 4 + 1]?, zAll[261 + i * 4 + 2]?, zAll[261 + i * 4 + 3]?)) = List.replicate 64 (some (.int .i64 0), some (.int .i64 0), some (.bool false), some (.bool false)) := by kernel_rfl
theorem zraw : ((List.range 200).map fun i => zAll[1 + i]?) = List.replicate 200 (some (.int .u8 0)) := by kernel_rfl
theorem zpats : ((List.range 4).map fun i => ((zAll[216 + i * 11]?, zAll[216 + i * 11 + 1]?, zAll[216 + i * 11 + 10]?), (List.range 8).map fun j => zAll[216 + i * 11 + 2 + j]?)) = List.replicate 4 ((some (.int .i64 0), some (.int .u16 0), some (.int .i64 0)), List.replicate 8 (some (.int .u8 0))) := by kernel_rfl
theorem of_map {α : Type} {n : Nat} {f : Nat → α} {a : α} (h : (List.range n).map f = List.replicate n a) (i : Nat) (hi : i < n) : f i = a := by
  have q := congrArg (fun l => l[i]?) h
  simpa [hi] using q

def bus0 : BusI := ⟨0, 0, false, false⟩
/-- A stub as it comes out of NewStub. -/
def SB.fresh (rom : Int) (cs : List Chn) : SB := ⟨.fresh rom cs (fun _ => none), ⟨0, [], 0⟩, 0, false, [], ⟨fun _ => 0, 0⟩, ⟨fun _ => 0, 0⟩, [], ⟨fun _ => bus0, 0, 0⟩, false, false, false⟩
theorem fresh_core (rom : Int) (cs : List Chn) (R : Nat → Option Value) : PC.fresh rom cs R = (PC.fresh rom cs (fun _ => none)).rr (PC.fresh rom cs R).rest := rfl
theorem fresh_rest (rom : Int) (cs : List Chn) (R : Nat → Option Value) : (PC.fresh rom cs R).rest = R := rfl
set_option maxRecDepth 100000 in
theorem fresh_sv (rom : Int) (cs : List Chn) (R : Nat → Option Value) (h : ZAll R) : SV (SB.fresh rom cs) (.fresh rom cs R) where
  core := fresh_core rom cs R
  sc := ⟨Nat.zero_le _, Nat.zero_le _, h 0 (by decide), h 201 (by decide), h 202 (by decide), fun i hi => by simp [SB.fresh] at hi, fun i hi => ⟨_, (show R (65563 + i) = _ by rw [show 65563 + i = 65562 + (1 + i) from by omega]; exact (h (1 + i) (by omega)).trans (of_map zraw i hi))⟩⟩
  cd := h 203 (by decide)
  cb := h 204 (by decide)
  cr := h 205 (by decide)
  bp := ⟨Nat.zero_le _, h 210 (by decide), fun i hi => by
    rcases (show i = 0 ∨ i = 1 ∨ i = 2 ∨ i = 3 from by omega) with rfl | rfl | rfl | rfl
    · exact h 206 (by decide)
    · exact h 207 (by decide)
    · exact h 208 (by decide)
    · exact h 209 (by decide)⟩
  wp := ⟨Nat.zero_le _, h 215 (by decide), fun i hi => by
    rcases (show i = 0 ∨ i = 1 ∨ i = 2 ∨ i = 3 from by omega) with rfl | rfl | rfl | rfl
    · exact h 211 (by decide)
    · exact h 212 (by decide)
    · exact h 213 (by decide)
    · exact h 214 (by decide)⟩
  pa := ⟨⟨fun _ => pat0, ⟨Nat.zero_le _, h 260 (by decide), fun i hi => by
      have q := of_map zpats i hi
      have q1 := congrArg (fun x => x.1.1) q
      have q2 := congrArg (fun x => x.1.2.1) q
      have q3 := congrArg (fun x => x.1.2.2) q
      have q4 := congrArg (fun x => x.2) q
      refine ⟨?_, ?_, fun j hj => ?_, ?_⟩
      · show R (65778 + i * 11) = _
        rw [show 65778 + i * 11 = 65562 + (216 + i * 11) from by omega]; exact (h _ (by omega)).trans q1
      · show R (65778 + i * 11 + 1) = _
        rw [show 65778 + i * 11 + 1 = 65562 + (216 + i * 11 + 1) from by omega]; exact (h _ (by omega)).trans q2
      · show R (65778 + i * 11 + 2 + j) = _
        rw [show 65778 + i * 11 + 2 + j = 65562 + (216 + i * 11 + 2 + j) from by omega]; exact (h _ (by omega)).trans (of_map q4 j hj)
      · show R (65778 + i * 11 + 10) = _
        rw [show 65778 + i * 11 + 10 = 65562 + (216 + i * 11 + 10) from by omega]; exact (h _ (by omega)).trans q3⟩, fun i hi => by simp [SB.fresh] at hi⟩, fun i hi => by simp [SB.fresh] at hi, fun p hp => by simp [SB.fresh] at hp⟩
  rc := ⟨(show 0 < 64 from by decide), Nat.zero_le _, h 517 (by decide), h 518 (by decide), fun i hi => by
    have q := of_map zring i hi
    have q1 := congrArg (fun x => x.1) q
    have q2 := congrArg (fun x => x.2.1) q
    have q3 := congrArg (fun x => x.2.2.1) q
    have q4 := congrArg (fun x => x.2.2.2) q
    refine ⟨?_, ?_, ?_, ?_⟩
    · show R (65823 + i * 4) = _
      rw [show 65823 + i * 4 = 65562 + (261 + i * 4) from by omega]; exact (h _ (by omega)).trans q1
    · show R (65823 + i * 4 + 1) = _
      rw [show 65823 + i * 4 + 1 = 65562 + (261 + i * 4 + 1) from by omega]; exact (h _ (by omega)).trans q2
    · show R (65823 + i * 4 + 2) = _
      rw [show 65823 + i * 4 + 2 = 65562 + (261 + i * 4 + 2) from by omega]; exact (h _ (by omega)).trans q3
    · show R (65823 + i * 4 + 3) = _
      rw [show 65823 + i * 4 + 3 = 65562 + (261 + i * 4 + 3) from by omega]; exact (h _ (by omega)).trans q4⟩
  re := h 519 (by decide)
  nm := h 520 (by decide)
  iq := h 521 (by decide)

set_option maxRecDepth 100000 in
set_option maxHeartbeats 1000000 in
theorem newStub_all (N : Nat) (v : Value) (cs : List Chn) (rom : Int) (w : World) (hN : N ≤ w.heap.size) (hc : CfAt N w v cs) (hv : validI rom cs = true)
    (hl : cs.length ≤ 140737488355328) (hb : ∀ c ∈ cs, c.bs.length ≤ 140737488355328) :
    Calls Tryz.prog 5 #[.agg #[v, .int .i64 rom]] w fun e w' => ∃ B R, w.heap.size ≤ B ∧ e = .returned (.tuple #[.pointer (some ⟨B, 0, none⟩), .int .i64 0]) ∧
      CAt w' B (.fresh rom cs R) ∧ ZAll R ∧ Below w.heap.size w w' := by
  obtain ⟨R, zz, hz, hzs, hR, HZ⟩ := zero_stubA
  have hne : zz ≠ #[] := by intro e; rw [e] at hzs; cases hzs
  have S : ∀ (o : Obj) (t : TypeId), Calls Tryz.prog 17 #[.pointer (some ⟨w.heap.size + 1, 0, none⟩), .agg #[v, .int .i64 rom]] ((w.alloc o).alloc (.cells zz t)).drew fun e w' => e = .returned (.int .i64 0) ∧ Tn (w.heap.size + 1) (.fresh rom cs R) ((w.alloc o).alloc (.cells zz t)) w' := by
    intro o t
    have q := stubStart_ok (Tn.refl (HZ (w.alloc o) t)).drew N (by simp; omega) v cs rom ((hc.below (((Below.refl _ _).alloc (Nat.le_refl _) o).alloc (by simp) _)).below (bl_drew (Below.refl _ _))) hv hl hb
    rwa [show (w.alloc o).heap.size = w.heap.size + 1 from by simp] at q
  have HH : Hid (ZAll R) := hR
  obtain ⟨p, cap, rfl, -⟩ := hc
  clear HZ hR
  go_enter Tryz.func5, Tryz.ntmps5
  go_wp2_with fail
  go_region_with (first | (go_at_call 17; refine (S _ _).mono ?_; rintro e w2 ⟨rfl, T2⟩; have HT : Hid (CAt w2 (w.heap.size + 1) (.fresh rom cs R) ∧ Below w.heap.size w w2) := ⟨T2.c, below_grown (((Below.refl _ _).alloc (Nat.le_refl _) _).alloc (by simp) _) T2.g (by omega) (by simp; omega)⟩; clear T2 S))
  all_goals go_wp2
  all_goals go_ret2
  all_goals exact ⟨w.heap.size + 1, R, by omega, rfl, HT.out.1, HH.out, HT.out.2⟩


/-- The stub of a program. -/
def trSB (bs : List UInt8) : SB := SB.fresh 250 (trCs bs (.slice none 0 0) (.slice none 0 0))
theorem trSB_eq (bs : List UInt8) (v1 v2 : Value) : SB.fresh 250 (trCs bs v1 v2) = trSB bs := rfl
theorem trSB_si (bs : List UInt8) : SI (trSB bs) 0 := ⟨⟨0, (trPC_tr bs).1⟩, by show (0 : Int) ≤ 0; omega, by show (0 : Int) ≤ 0; omega, fun i => by show (0 : Int) ≤ 0 ∧ (0 : Int) < 65536 ∧ (0 : Int) ≤ 0 ∧ (0 : Int) < 256; omega⟩

set_option maxRecDepth 100000 in
set_option maxHeartbeats 1000000 in
theorem mFeed_any {B : Nat} {s : PC} {w0 w : World} {S : SB} {N : Int} (h : Tn B s w0 w) (hS : SV S s) (hI : SI S N) (hN0 : 0 ≤ N) (hN : N ≤ 100000000000000) (hrp : S.rp.length ≤ 80) (bb off cap : Nat) (l : List UInt8) (hl : l.length ≤ 1000000) (hB : BytesAt w bb off l) (hne : bb ≠ B) :
    Calls Tryz.prog 9 #[.pointer (some ⟨B, 0, none⟩), .slice (some ⟨bb, off, none⟩) l.length cap] w fun e w' => FeedR B N w0 w w' (S.feed l) (feedP S.sc l).length e := by
  have F := feed_any h hS hI hN0 hN hrp bb off cap l hl hB hne
  generalize S.feed l = R at *
  clear h hS hI hB
  go_enter Tryz.func9, Tryz.ntmps9
  go_wp2_with (first | (go_at_call 19; refine F.mono ?_; rintro e w2 ⟨v, s2, rfl, H⟩; have HH := hid H; clear H F))
  go_ret
  exact ⟨v, s2, rfl, HH.out⟩

set_option maxRecDepth 100000 in
set_option maxHeartbeats 1000000 in
theorem packet_any (b : UInt8) (s : ByteArray) (w : World) (hs : s.size ≤ 80) :
    Calls Tryz.prog 10 #[.int .i64 b.toNat, .string s] w fun e w' => e = .returned (.string ⟨(frameOf b s.data.toList).toArray⟩) ∧ Below w.heap.size w w' := by
  have F := frame_any b s w hs
  go_enter Tryz.func10, Tryz.ntmps10
  go_wp2_with fail
  refine F.mono ?_
  rintro e w1 ⟨v, rfl, O⟩
  obtain ⟨g, cap, rfl, o1, o2, o3⟩ := O
  have hcv := to_string o1
  have HB := hid o2
  clear o1 o2 o3 F
  go_wp2
  go_ret
  exact ⟨rfl, HB.out⟩
end

/-
  Two stubs in one world: each as it lies.
-/
section
/-- The stub S lies in B. -/
def Stb (w : World) (B : Nat) (S : SB) (N : Int) : Prop := ∃ s, CAt w B s ∧ SV S s ∧ SI S N ∧ S.rp.length ≤ 80
theorem Stb.bel {w w' : World} {B : Nat} {S : SB} {N : Int} (h : Stb w B S N) (b : Below w.heap.size w w') : Stb w' B S N := by
  obtain ⟨s, h1, h2⟩ := h; exact ⟨s, h1.bl b, h2⟩
theorem Stb.other {w w' : World} {B C : Nat} {S : SB} {N : Int} (h : Stb w B S N) (g : w.grownBy w' (some C)) (hne : B ≠ C) : Stb w' B S N := by
  obtain ⟨s, h1, h2⟩ := h; exact ⟨s, h1.beside g hne, h2⟩
theorem Stb.lt {w : World} {B : Nat} {S : SB} {N : Int} (h : Stb w B S N) : B < w.heap.size := by obtain ⟨s, h1, -⟩ := h; exact h1.lt
theorem Stb.mono {w : World} {B : Nat} {S : SB} {N M : Int} (h : Stb w B S N) (e : N ≤ M) : Stb w B S M := by obtain ⟨s, h1, h2, h3, h4⟩ := h; exact ⟨s, h1, h2, h3.mono e, h4⟩
theorem Stb.feed {w : World} {B : Nat} {S : SB} {N : Int} (h : Stb w B S N) (hN0 : 0 ≤ N) (hN : N ≤ 100000000000000) (bb off cap n : Nat) (l : List UInt8) (hn : l.length = n) (hl : l.length ≤ 1000000) (hB : BytesAt w bb off l) (hne : bb ≠ B) :
    Calls Tryz.prog 9 #[.pointer (some ⟨B, 0, none⟩), .slice (some ⟨bb, off, none⟩) n cap] w fun e w' => ∃ v, e = .returned v ∧ w'.ownsRow w.heap.size 5 1 v (S.feed l).2.length (vals (S.feed l).2) ∧ Stb w' B (S.feed l).1 (N + 1000000 * l.length) ∧ w.grownBy w' (some B) := by
  subst hn
  obtain ⟨s, h1, h2, h3, h4⟩ := h
  refine (mFeed_any (Tn.refl h1) h2 h3 hN0 hN h4 bb off cap l hl hB hne).mono ?_
  rintro e w' ⟨v, s', rfl, o, T, V, I, R⟩
  have := feedP_len l S.sc
  exact ⟨v, rfl, o, ⟨s', T.c, V, I.mono (by omega), R⟩, T.g⟩
theorem Stb.fresh {w : World} {B : Nat} {R : Nat → Option Value} {bs : List UInt8} {v1 v2 : Value} (h : CAt w B (.fresh 250 (trCs bs v1 v2) R)) (hR : ZAll R) : Stb w B (trSB bs) 0 :=
  ⟨_, h, fresh_sv 250 (trCs bs v1 v2) R hR, trSB_si bs, by show 0 ≤ 80; decide⟩

theorem bytes_newS (w : World) (x : ByteArray) (c : Nat) (fr : Nat × Nat) : BytesAt ((w.alloc (.cells (bytesRow x c) 5 fr)).drew) w.heap.size 0 x.data.toList := by
  intro i hi
  rw [Nat.zero_add]
  have q := cell_of_heap (w := (w.alloc (.cells (bytesRow x c) 5 fr)).drew) (g := w.heap.size) (cs := bytesRow x c) (t := 5) (fr := fr) (heap_alloc_new w _) i
  rw [q]
  have hi' : i < x.data.size := by simpa using hi
  unfold bytesRow
  rw [Array.getElem?_append_left (by simpa using hi')]
  rw [Array.getElem?_map, Array.getElem?_eq_getElem hi']; simp
theorem to_bytesS (w : World) (x : ByteArray) : (convert 9 22 (.string x)).run Tryz.prog w = .ok (.slice (some ⟨w.heap.size, 0, none⟩) x.size (grownCap w x.size 0 5))
      ((w.alloc (.cells (bytesRow x (grownCap w x.size 0 5)) 5 ((bytesRow x (grownCap w x.size 0 5)).size, (bytesRow x (grownCap w x.size 0 5)).size + 1))).drew) :=
  run_bytes_of_string (P := Tryz.prog) w 9 22 5 x und_str und_bytes und_u8

theorem answers_len (ps : List Pk) : ∀ S : SB, S.rp.length ≤ 80 → (S.answers ps).2.length ≤ 201 * ps.length := by
  induction ps with
  | nil => intro S _; simp [SB.answers]
  | cons p r ih =>
    intro S h
    have h1 := (ans_len S p h).2
    have h2 := ih (S.ans p).1 (ans_rp S p h)
    rw [SB.answers, List.length_append, List.length_cons]
    omega
theorem feed_len (S : SB) (l : List UInt8) (h : S.rp.length ≤ 80) : (S.feed l).2.length ≤ 201 * l.length := by
  have h1 := answers_len (feedP S.sc l) ({ S with sc := feedS S.sc l } : SB) h
  have h2 := feedP_len l S.sc
  unfold SB.feed
  omega

theorem ext_takeS (t : ByteArray) (r : Nat) : (t.extract 0 r).data.toList = t.data.toList.take r := by
  rw [ByteArray.data_extract, Array.toList_extract, List.extract_eq_take_drop]; simp
theorem ext_dropS (t : ByteArray) (r : Nat) : (t.extract r t.size).data.toList = t.data.toList.drop r := by
  rw [ByteArray.data_extract, Array.toList_extract, List.extract_eq_take_drop, List.take_of_length_le (by simp)]
theorem ba_ext {a b : ByteArray} (h : a.data.toList = b.data.toList) : a = b := by
  cases a; cases b; exact congrArg ByteArray.mk (Array.ext' h)
theorem ba_app (a b : ByteArray) : (a ++ b).data.toList = a.data.toList ++ b.data.toList := by
  rw [ByteArray.data_append, Array.toList_append]

/-- Words, as they lie. -/
structure WdAt (w : World) (q : Option Addr) (i : Nat) : Prop where
  h : ∃ b off kd n wy, q = some ⟨b, off, none⟩ ∧ b < w.heap.size ∧ w.cell? ⟨b, off + i * 3, none⟩ = some (.int .i64 kd) ∧ w.cell? ⟨b, off + i * 3 + 1, none⟩ = some (.int .i64 n) ∧ w.cell? ⟨b, off + i * 3 + 2, none⟩ = some (.int .i64 wy) ∧
    -9223372036854775808 ≤ kd ∧ kd ≤ 9223372036854775807 ∧ -9223372036854775808 ≤ n ∧ n ≤ 9223372036854775807 ∧ -9223372036854775808 ≤ wy ∧ wy ≤ 9223372036854775807
end

end Go.Proofs.YtcgjliflnnklnabGreat
