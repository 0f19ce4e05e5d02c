/-
  Joined texts.
-/
import Derived.Test.YtcgjliflnnklnabGreatQI
import Derived.Test.YtcgjliflnnklnabGreatQE
namespace Go.Proofs.YtcgjliflnnklnabGreat
open Go.RowKit

/-
  A packet answered.
-/
section
/-- A packet answered. -/
def SB.ans (S : SB) (p : Pk) : SB × List UInt8 :=
  if p.bad = true then (S, [45])
  else if p.seq = S.due.toNat then
    ({ (S.doI p.body).1 with rp := (S.doI p.body).2, bg := true, due := (S.doI p.body).1.due + 1 }, 43 :: frameOf S.due (S.doI p.body).2)
  else if S.bg = true ∧ p.seq = (S.due - 1).toNat then (S, 43 :: frameOf (S.due - 1) S.rp)
  else (S, [63])

/-- What an answer leaves. -/
def AnsR (B : Nat) (N : Int) (w0 w w' : World) (S : SB) (L : List UInt8) (e : Ending) : Prop :=
  ∃ g cap s', e = .returned (.slice (some ⟨g, 0, none⟩) L.length cap) ∧ BytesAt w' g 0 L ∧ w.heap.size ≤ g ∧ g < w'.heap.size ∧ Tn B s' w0 w' ∧ SV S s' ∧ SI S (N + 1000000)
theorem tn_row {w0 w w' : World} {B : Nat} {s : PC} {r : Option Nat} (h : Tn B s w0 w) (g : w.grownBy w' r) (hr : ∀ k, r = some k → k ≠ B ∧ w0.heap.size ≤ k) : Tn B s w0 w' :=
  ⟨h.c.same (g.block B h.c.lt (fun e => (hr B e.symm).1 rfl)), ⟨g.os.trans h.g.os, g.tape.trans h.g.tape, g.output.trans h.g.output, Nat.le_trans h.g.size g.size, fun k hk hne => (g.block k (Nat.lt_of_lt_of_le hk h.g.size) (fun e => by have := (hr k e.symm).2; omega)).trans (h.g.block k hk hne)⟩⟩
theorem one_at (w : World) (x : UInt8) (t : TypeId) : BytesAt (w.alloc (.cells #[.int .u8 (x.toNat : Int)] t)) w.heap.size 0 [x] := by
  intro i hi
  have e : i = 0 := by simp at hi; exact hi
  subst e
  exact World.cell?_alloc_at _ _ _ _ rfl

theorem one_atN (w : World) (o : Obj) (k : Nat) (x : UInt8) (t : TypeId) : BytesAt (((w.alloc o).drewN k).alloc (.cells #[.int .u8 (x.toNat : Int)] t)) (w.heap.size + 1) 0 [x] := by
  have q := one_at ((w.alloc o).drewN k) x t
  rw [drewN_size, World.size_alloc] at q
  exact q

set_option maxRecDepth 100000 in
set_option maxHeartbeats 4000000 in
theorem answer_any {B : Nat} {s : PC} {w0 w : World} {S : SB} {N : Int} (h : Tn B s w0 w) (hS : SV S s) (hI : SI S N) (hN0 : 0 ≤ N) (hN : N < 1000000000000000) (p : Pk) (hl : p.body.length ≤ 200) (hrp : S.rp.length ≤ 80) :
    Calls Tryz.prog 29 #[.pointer (some ⟨B, 0, none⟩), p.val] w fun e w' => AnsR B N w0 w w' (S.ans p).1 (S.ans p).2 e := by
  obtain ⟨i0, hi, hz0, hz1, hz2⟩ := info_parts inf_u8
  obtain ⟨sq, body, bad⟩ := p
  have hlt := h.c.lt
  have hsz := h.g.size
  have n0 : w.heap.size ≠ B := by omega
  have m0 : B ≠ w.heap.size := by omega
  have cd : w.cell? ⟨B, 65765, none⟩ = some (.int .u8 (S.due.toNat : Int)) := h.rest (by decide) hS.cd
  have cb : w.cell? ⟨B, 65766, none⟩ = some (.bool S.bg) := h.rest (by decide) hS.cb
  have cr : w.cell? ⟨B, 65767, none⟩ = some (.string ⟨S.rp.toArray⟩) := h.rest (by decide) hS.cr
  have fz := h.c.free
  have hd := u8_r S.due
  have hw : IntKind.i64.wrap (S.due.toNat : Int) = (S.due.toNat : Int) := wrap_id8 _ hd.1 hd.2
  have hl : body.length ≤ 200 := hl
  have HT := hid h
  have HS := hid hS
  have HI := hid (hI.mono (show N ≤ N + 1000000 by omega))
  unfold SB.ans
  rw [pk_val]
  cases bad
  · rw [if_neg (by simp)]
    by_cases hq : sq = S.due.toNat
    · rw [if_pos hq]
      show Calls _ _ _ _ fun e w' => AnsR B N w0 w w' { (S.doI body).1 with rp := (S.doI body).2, bg := true, due := (S.doI body).1.due + 1 } (43 :: frameOf S.due (S.doI body).2) e
      have D := fun {x w : World} (h : Tn B s x w) => do_any h hS hI hN0 hN body hl
      have htl := doI_len S body
      subst hq
      generalize hG : S.doI body = G0 at *
      obtain ⟨S2, t⟩ := G0
      have htl : t.length ≤ 80 := htl
      obtain ⟨d, hdd⟩ : ∃ d, S.due = d := ⟨_, rfl⟩
      rw [hdd] at cd hw hd ⊢
      clear h hG cb cr
      go_enter Tryz.func29, Tryz.ntmps29
      go_wp2_with fail
      go_region_held3 (fun w' => w'.cell? ⟨w.heap.size, 0, none⟩ = some (.int .i64 (d.toNat : Int)) ∧ w'.cell? ⟨B, 65765, none⟩ = some (.int .u8 (d.toNat : Int))) (go_keep) (fail)
      go_wp2_with fail
      refine (D (Tn.refl (HT.out.alloc _).drew.c)).mono ?_
      rintro e w1 ⟨rfl, s2, T2, V2, I2⟩
      have K := kept T2
      have e4 := (K.1 w.heap.size 0 n0 (by simp)).trans (World.cell?_alloc_at _ _ _ _ rfl)
      have e1 : w1.cell? ⟨B, 65765, none⟩ = some (.int .u8 (S2.due.toNat : Int)) := T2.rest (by decide) V2.cd
      have e2 : w1.cell? ⟨B, 65766, none⟩ = some (.bool S2.bg) := T2.rest (by decide) V2.cb
      have e3 : w1.cell? ⟨B, 65767, none⟩ = some (.string ⟨S2.rp.toArray⟩) := T2.rest (by decide) V2.cr
      have fz1 := T2.c.free
      have hs1 : w.heap.size < w1.heap.size := by have := T2.g.size; simp at this; omega
      have HT2 := hid ((HT.out.alloc _).drew.trans T2)
      have HV2 := hid V2
      have HI3 : Hid (SI { S2 with rp := t, bg := true, due := S2.due + 1 } (N + 1000000)) := I2.like rfl rfl
      clear K T2 V2 I2 D cd fz
      have ed : ((S2.due.toNat : Int) + 1) % 256 = ((S2.due + 1).toNat : Int) := by rw [UInt8.toNat_add]; show _ = (((S2.due.toNat + 1) % 256 : Nat) : Int); omega
      have HTX : Hid (Tn B (((s2.put 65767 (.string ⟨t.toArray⟩)).put 65766 (.bool true)).put 65765 (.int .u8 ((S2.due + 1).toNat : Int))) w0 (((w1.setCell ⟨B, 65767, none⟩ (.string ⟨t.toArray⟩)).setCell ⟨B, 65766, none⟩ (.bool true)).setCell ⟨B, 65765, none⟩ (.int .u8 (((S2.due.toNat : Int) + 1) % 256)))) := by
        rw [ed]
        exact ((HT2.out.put _ _ _ (by decide) HV2.out.cr).put _ _ _ (by decide) ((put_other _ _ _ _ (by decide)).trans HV2.out.cb)).put _ _ _ (by decide) ((put_other _ _ _ _ (by decide)).trans ((put_other _ _ _ _ (by decide)).trans HV2.out.cd))
      have HV3 : Hid (SV { S2 with rp := t, bg := true, due := S2.due + 1 } (((s2.put 65767 (.string ⟨t.toArray⟩)).put 65766 (.bool true)).put 65765 (.int .u8 ((S2.due + 1).toNat : Int)))) :=
        HV2.out.hd (((RsO.put s2 65767 _ _ _ (by decide) (by decide)).trans (RsO.put _ 65766 _ _ _ (by decide) (by decide))).trans (RsO.put _ 65765 _ _ _ (by decide) (by decide))) (HV2.out.sc.keep fun k _ _ => by rw [put_other _ _ _ _ (by omega), put_other _ _ _ _ (by omega), put_other _ _ _ _ (by omega)]) (put_same _ _ _) ((put_other _ _ _ _ (by decide)).trans (put_same _ _ _)) ((put_other _ _ _ _ (by decide)).trans ((put_other _ _ _ _ (by decide)).trans (put_same _ _ _)))
      clear ed
      go_wp2_with fail
      have x0 : (((w1.setCell ⟨B, 65767, none⟩ (.string ⟨t.toArray⟩)).setCell ⟨B, 65766, none⟩ (.bool true)).setCell ⟨B, 65765, none⟩ (.int .u8 (((S2.due.toNat : Int) + 1) % 256))).cell? ⟨w.heap.size, 0, none⟩ = some (.int .i64 (d.toNat : Int)) := by
        have ne : ∀ i, (⟨B, i, none⟩ : Addr) ≠ ⟨w.heap.size, 0, none⟩ := fun i e => by injection e with e1 e2; exact m0 e1
        rw [World.cell?_setCell_other _ _ _ _ (ne _), World.cell?_setCell_other _ _ _ _ (ne _), World.cell?_setCell_other _ _ _ _ (ne _)]
        exact e4
      have x3 := HTX.out.rest (o := 65767) (by decide) ((put_other _ _ _ _ (by decide)).trans ((put_other _ _ _ _ (by decide)).trans (put_same _ _ _)))
      have zW : w.heap.size < (((w1.setCell ⟨B, 65767, none⟩ (.string ⟨t.toArray⟩)).setCell ⟨B, 65766, none⟩ (.bool true)).setCell ⟨B, 65765, none⟩ (.int .u8 (((S2.due.toNat : Int) + 1) % 256))).heap.size := by simpa using hs1
      generalize ((s2.put 65767 (.string ⟨t.toArray⟩)).put 65766 (.bool true)).put 65765 (.int .u8 ((S2.due + 1).toNat : Int)) = s3 at *
      generalize (((w1.setCell ⟨B, 65767, none⟩ (.string ⟨t.toArray⟩)).setCell ⟨B, 65766, none⟩ (.bool true)).setCell ⟨B, 65765, none⟩ (.int .u8 (((S2.due.toNat : Int) + 1) % 256))) = W at *
      have HTW := HTX
      have bW : B < W.heap.size := HTX.out.c.lt
      clear e1 e2 e3 e4 fz1 HT2 HV2 HTX
      go_region_held3 (fun w' => w'.cell? ⟨w.heap.size, 0, none⟩ = some (.int .i64 (d.toNat : Int)) ∧ w'.cell? ⟨B, 65767, none⟩ = some (.string ⟨t.toArray⟩)) (go_keep) (first | (go_at_call 30; refine (wireFrame_any d ⟨t.toArray⟩ _ (by show t.toArray.size ≤ 80; simpa using htl)).mono ?_; rintro e w3 ⟨v, rfl, O⟩; obtain ⟨g, cap, rfl, o1, o2, o3⟩ := O; have y0 := (o2.cell (p := ⟨w.heap.size, 0, none⟩) zW).trans x0; have y3 := (o2.cell (p := ⟨B, 65767, none⟩) bW).trans x3))
      have HN : Hid (BytesAt w3 g 0 (frameOf d t)) := owns_bytes o1
      have hfl : (frameOf d t).length ≤ 200 := by have := esc_len t; simp [frameOf, hex2]; omega
      have hfp : 0 < (frameOf d t).length := by simp [frameOf]
      have hgl := (o1.lt g rfl)
      have HT3 : Hid (Tn B s3 w0 w3) := below_thru HTW.out.drew o2
      have hs3 : W.heap.size ≤ w3.heap.size := o2.size
      clear o1 o2 o3 x0 x3 y0 y3 HTW
      obtain ⟨F, HF⟩ : ∃ F, Hid (frameOf d t = F) := ⟨_, rfl⟩
      rw [HF.out] at HN hfl hfp
      rw [HF.out]
      have hg3 : g < w3.heap.size := hgl.2
      clear hgl
      have hB3 : B < w3.heap.size := HT3.out.c.lt
      go_wp2_with (first | (at_builtin; go_must (refine wpList_append_lies _ rfl (.tmp 65) (.tmp 66) 22 rfl w3.heap.size 5 i0 (.int .u8 0) 1 1 und_bytes hi hz0 hz1 hz2 rfl (by decide) (.slice (some ⟨w3.heap.size, 0, none⟩) 1 1) 1 [.int .u8 43] rfl (World.ownsRow_lit w3 #[.int .u8 43] 1 (Nat.le_refl _) (by decide) rfl) ⟨g, 0, none⟩ F.length cap (vals F) rfl (by rw [vals_length]; simp) (bytes_news (bytes_alloc HN.out hg3 _)) (vals_one F) hfp (by unfold maxLen; omega) (by omega) (by simp) _ rfl ?_; intro g' cap' w4 hown' hgrow hat hlt'; have H4 : Hid (BytesAt w4 g' 0 (43 :: F) ∧ w.heap.size ≤ g' ∧ g' < w4.heap.size ∧ Tn B s3 w0 w4) := ⟨owns_bytes (l := 43 :: F) (by rw [List.length_cons, Nat.add_comm]; exact hown'), (by have := (hown'.lt g' rfl).1; omega), hlt', tn_row (HT3.out.alloc _) hgrow (fun k e => by simp [Value.ownBlock] at e; omega)⟩; clear hown' hgrow hat hlt')))
      go_ret
      obtain ⟨b1, b2, b3, b4⟩ := H4.out
      exact ⟨g', cap', s3, by rw [HF.out, List.length_cons, Nat.add_comm]; rfl, by rw [HF.out]; exact b1, b2, b3, b4, HV3.out, HI3.out⟩
    · rw [if_neg hq]
      have hq' : ((sq : Int) == (S.due.toNat : Int)) = false := by rw [beq_eq_false_iff_ne]; omega
      cases hbg : S.bg
      · rw [if_neg (by simp)]
        rw [hbg] at cb
        clear h hS
        go_enter Tryz.func29, Tryz.ntmps29
        go_wp2_with fail
        go_quiet (fail)
        rename_i nq1
        go_wp2_with fail
        go_quiet (fail)
        go_wp2
        go_ret
        refine ⟨w.heap.size + 1, 1, s, rfl, ?_, by omega, by simp, ((HT.out.alloc _).drewN _).alloc _, HS.out, HI.out⟩
        exact one_atN w _ _ 63 5
      · rw [hbg] at cb
        obtain ⟨d, hd1⟩ : ∃ d, Hid (S.due - 1 = d) := ⟨_, rfl⟩
        rw [hd1.out]
        have ed : ((S.due.toNat : Int) - 1) % 256 = (d.toNat : Int) := by
          rw [← hd1.out, UInt8.toNat_sub]
          have := S.due.toNat_lt
          show _ = (((256 - 1 + S.due.toNat) % 256 : Nat) : Int)
          omega
        have hd2 := u8_r d
        have hwd : IntKind.i64.wrap (d.toNat : Int) = (d.toNat : Int) := wrap_id8 _ hd2.1 hd2.2
        have ed2 : IntKind.u8.wrap ((S.due.toNat : Int) - 1) = (d.toNat : Int) := by rw [IntKind.wrap_u8]; exact ed
        by_cases hq2 : sq = d.toNat
        · rw [if_pos ⟨rfl, hq2⟩]
          subst hq2
          clear h hS
          have htl := hrp
          have HV3 := HS
          go_enter Tryz.func29, Tryz.ntmps29
          go_wp2_with fail
          go_quiet (fail)
          have HT1 := hid ((HT.out.alloc (.cells #[.int .i64 (d.toNat : Int), .string ⟨body.toArray⟩, .bool false] 105)).drewN nq)
          have z0 : ((w.alloc (.cells #[.int .i64 (d.toNat : Int), .string ⟨body.toArray⟩, .bool false] 105)).drewN nq).cell? ⟨w.heap.size, 0, none⟩ = some (.int .i64 (d.toNat : Int)) := (drewN_cell _ _ _).trans (World.cell?_alloc_at _ _ _ _ rfl)
          have zs : w.heap.size < ((w.alloc (.cells #[.int .i64 (d.toNat : Int), .string ⟨body.toArray⟩, .bool false] 105)).drewN nq).heap.size := by rw [drewN_size]; simp
          generalize (w.alloc (.cells #[.int .i64 (d.toNat : Int), .string ⟨body.toArray⟩, .bool false] 105)).drewN nq = W1 at *
          have cd := HT1.out.rest (by decide) HS.out.cd
          have cb : W1.cell? ⟨B, 65766, none⟩ = some (.bool true) := by rw [← hbg]; exact HT1.out.rest (by decide) HS.out.cb
          go_wp2_with fail
          go_quiet (fail)
          have HTW := hid (HT1.out.drewN nq)
          have x0 := (drewN_cell W1 nq _).trans z0
          have x3 : (W1.drewN nq).cell? ⟨B, 65767, none⟩ = some (.string ⟨S.rp.toArray⟩) := HTW.out.rest (by decide) HS.out.cr
          have zW : w.heap.size < (W1.drewN nq).heap.size := by rw [drewN_size]; exact zs
          have bW : B < (W1.drewN nq).heap.size := HTW.out.c.lt
          generalize W1.drewN nq = W at *
          clear z0 zs HT1 cd cb cr fz
          go_wp2_with fail
          go_region_held3 (fun w' => w'.cell? ⟨w.heap.size, 0, none⟩ = some (.int .i64 (d.toNat : Int)) ∧ w'.cell? ⟨B, 65767, none⟩ = some (.string ⟨S.rp.toArray⟩)) (go_keep) (first | (go_at_call 30; refine (wireFrame_any d ⟨S.rp.toArray⟩ _ (by show S.rp.toArray.size ≤ 80; simpa using htl)).mono ?_; rintro e w3 ⟨v, rfl, O⟩; obtain ⟨g, cap, rfl, o1, o2, o3⟩ := O; have y0 := (o2.cell (p := ⟨w.heap.size, 0, none⟩) zW).trans x0; have y3 := (o2.cell (p := ⟨B, 65767, none⟩) bW).trans x3))
          have HN : Hid (BytesAt w3 g 0 (frameOf d S.rp)) := owns_bytes o1
          have hfl : (frameOf d S.rp).length ≤ 200 := by have := esc_len S.rp; simp [frameOf, hex2]; omega
          have hfp : 0 < (frameOf d S.rp).length := by simp [frameOf]
          have hgl := (o1.lt g rfl)
          have HT3 : Hid (Tn B s w0 w3) := below_thru HTW.out.drew o2
          have hs3 : W.heap.size ≤ w3.heap.size := o2.size
          clear o1 o2 o3 x0 x3 y0 y3 HTW
          obtain ⟨F, HF⟩ : ∃ F, Hid (frameOf d S.rp = F) := ⟨_, rfl⟩
          rw [HF.out] at HN hfl hfp
          rw [HF.out]
          have hg3 : g < w3.heap.size := hgl.2
          clear hgl
          have hB3 : B < w3.heap.size := HT3.out.c.lt
          go_wp2_with (first | (at_builtin; go_must (refine wpList_append_lies _ rfl (.tmp 65) (.tmp 66) 22 rfl w3.heap.size 5 i0 (.int .u8 0) 1 1 und_bytes hi hz0 hz1 hz2 rfl (by decide) (.slice (some ⟨w3.heap.size, 0, none⟩) 1 1) 1 [.int .u8 43] rfl (World.ownsRow_lit w3 #[.int .u8 43] 1 (Nat.le_refl _) (by decide) rfl) ⟨g, 0, none⟩ F.length cap (vals F) rfl (by rw [vals_length]; simp) (bytes_news (bytes_alloc HN.out hg3 _)) (vals_one F) hfp (by unfold maxLen; omega) (by omega) (by simp) _ rfl ?_; intro g' cap' w4 hown' hgrow hat hlt'; have H4 : Hid (BytesAt w4 g' 0 (43 :: F) ∧ w.heap.size ≤ g' ∧ g' < w4.heap.size ∧ Tn B s w0 w4) := ⟨owns_bytes (l := 43 :: F) (by rw [List.length_cons, Nat.add_comm]; exact hown'), (by have := (hown'.lt g' rfl).1; omega), hlt', tn_row (HT3.out.alloc _) hgrow (fun k e => by simp [Value.ownBlock] at e; omega)⟩; clear hown' hgrow hat hlt')))
          go_ret
          obtain ⟨b1, b2, b3, b4⟩ := H4.out
          exact ⟨g', cap', s, by rw [HF.out, List.length_cons, Nat.add_comm]; rfl, by rw [HF.out]; exact b1, b2, b3, b4, HV3.out, HI.out⟩
        · rw [if_neg (fun q => hq2 q.2)]
          have hq3 : ((sq : Int) == (d.toNat : Int)) = false := by rw [beq_eq_false_iff_ne]; omega
          have hq4 : ((sq : Int) != (d.toNat : Int)) = true := by rw [bne, hq3]; rfl
          clear h hS
          go_enter Tryz.func29, Tryz.ntmps29
          go_wp2_with fail
          go_quiet (fail)
          go_wp2_with fail
          go_quiet (fail)
          go_wp2
          go_ret
          refine ⟨w.heap.size + 1, 1, s, rfl, ?_, by omega, by simp, ((HT.out.alloc _).drewN _).alloc _, HS.out, HI.out⟩
          exact one_atN w _ _ 63 5
  · rw [if_pos rfl]
    clear h hS
    go_enter Tryz.func29, Tryz.ntmps29
    go_wp2
    go_ret
    refine ⟨w.heap.size + 1, 1, s, rfl, ?_, by omega, by simp, (HT.out.alloc _).alloc _, HS.out, HI.out⟩
    have q := one_at (w.alloc (.cells #[.int .i64 (sq : Int), .string ⟨body.toArray⟩, .bool true] 105)) 45 5
    simpa using q
end

/-
  A stub fed.
-/
section
def SB.answers : SB → List Pk → SB × List UInt8
  | S, [] => (S, [])
  | S, p :: r => (((S.ans p).1.answers r).1, (S.ans p).2 ++ ((S.ans p).1.answers r).2)
theorem answers_snoc (S : SB) (l : List Pk) (p : Pk) : S.answers (l ++ [p]) = (((S.answers l).1.ans p).1, (S.answers l).2 ++ ((S.answers l).1.ans p).2) := by
  induction l generalizing S with
  | nil => simp [SB.answers]
  | cons q r ih => simp only [List.cons_append, SB.answers, ih, List.append_assoc]
/-- A stub fed with bytes: as it is then, and its answers. -/
def SB.feed (S : SB) (l : List UInt8) : SB × List UInt8 := ({ S with sc := feedS S.sc l } : SB).answers (feedP S.sc l)

theorem frame_len (d : UInt8) (t : List UInt8) (h : t.length ≤ 80) : (frameOf d t).length ≤ 200 := by have := esc_len t; simp [frameOf, hex2]; omega
theorem ans_len (S : SB) (p : Pk) (h : S.rp.length ≤ 80) : 0 < (S.ans p).2.length ∧ (S.ans p).2.length ≤ 201 := by
  unfold SB.ans
  split
  · simp
  · split
    · have := frame_len S.due (S.doI p.body).2 (doI_len S p.body)
      simp only [List.length_cons]; omega
    · split
      · have := frame_len (S.due - 1) S.rp h
        simp only [List.length_cons]; omega
      · simp
theorem ans_rp (S : SB) (p : Pk) (h : S.rp.length ≤ 80) : (S.ans p).1.rp.length ≤ 80 := by
  unfold SB.ans
  split
  · exact h
  · split
    · exact doI_len S p.body
    · split <;> exact h
theorem readPk_body (l : List UInt8) (a b : UInt8) : (readPk l a b).body.length ≤ 200 := by
  unfold readPk tailPk
  repeat' split
  all_goals first
    | (simp [badPk]; done)
    | (dsimp only; omega)
theorem feedP_body : ∀ (l : List UInt8) (s : Sc), ∀ p ∈ feedP s l, p.body.length ≤ 200
  | [], _, p, h => by simp [feedP] at h
  | c :: r, s, p, h => by
    rw [feedP] at h
    rcases List.mem_append.1 h with h | h
    · split at h
      · simp at h; subst h; exact readPk_body _ _ _
      · simp at h
    · exact feedP_body r _ p h
theorem feedP_len : ∀ (l : List UInt8) (s : Sc), (feedP s l).length ≤ l.length
  | [], _ => by simp [feedP]
  | c :: r, s => by
    rw [feedP, List.length_append]
    have := feedP_len r (s.step c)
    split
    · simp only [List.length_cons, List.length_nil]; omega
    · simp only [List.length_cons, List.length_nil]; omega

theorem CAt.re {w : World} {B : Nat} {s : PC} (h : CAt w B s) (R : Nat → Option Value) (e : ∀ o, 65562 ≤ o → R o = s.rest o) : CAt w B (s.rr R) :=
  { h with crest := fun o ho => (h.crest o ho).trans (e o ho).symm }
theorem SV.scs {S : SB} {s : PC} {w0 w : World} {B : Nat} (h : Tn B s w0 w) (hS : SV S s) : ScS (fun o => w.cell? ⟨B, o, none⟩) w B S.sc :=
  ⟨hS.sc.st3, hS.sc.len, h.rest (by decide) hS.sc.cst, h.rest (by decide) hS.sc.cnt, h.rest (by decide) hS.sc.csum, fun i hi => h.rest (by omega) (hS.sc.bytes i hi), fun i hi => by obtain ⟨v, hv⟩ := hS.sc.there i hi; exact ⟨v, h.rest (by omega) hv⟩, h.c.free, fun o _ => rfl⟩

/-- The stub behind the scan. -/
theorem scanned {S : SB} {s : PC} {w0 w w1 : World} {B : Nat} {v : Value} {c : Sc} {ps : List Pk} (h : Tn B s w0 w) (hS : SV S s) (F : FedS (fun o => w.cell? ⟨B, o, none⟩) B w w1 v c ps) : ∃ s1, Tn B s1 w0 w1 ∧ SV { S with sc := c } s1 := by
  have C1 := h.c.scanned (w' := w1) (fun o ho => F.sc.keep o (.inl ho)) F.sc.free
  have C2 := C1.re (fun o => if o < 65562 then s.rest o else w1.cell? ⟨B, o, none⟩) (fun o ho => if_neg (by omega))
  have k : ∀ o, 65562 ≤ o → (if o < 65562 then s.rest o else w1.cell? ⟨B, o, none⟩) = w1.cell? ⟨B, o, none⟩ := fun o ho => if_neg (by omega)
  have kk : ∀ o, 65765 ≤ o → (if o < 65562 then s.rest o else w1.cell? ⟨B, o, none⟩) = s.rest o := fun o ho => (k o (by omega)).trans ((F.sc.keep o (.inr ho)).trans (h.c.crest o (by omega)))
  refine ⟨s.rr (fun o => if o < 65562 then s.rest o else w1.cell? ⟨B, o, none⟩), ⟨C2, cp_trans h.g F.grown⟩, ?_⟩
  refine hS.hd (c := c) (d := S.due) (b := S.bg) (r := S.rp) ⟨rfl, fun o ho => ?_⟩ ?_ ((kk _ (by decide)).trans hS.cd) ((kk _ (by decide)).trans hS.cb) ((kk _ (by decide)).trans hS.cr)
  · rcases ho with ho | ho
    · exact if_pos ho
    · exact kk o (by omega)
  · exact ⟨F.sc.st3, F.sc.len, (k _ (by decide)).trans F.sc.cst, (k _ (by decide)).trans F.sc.cnt, (k _ (by decide)).trans F.sc.csum, fun i hi => (k _ (by omega)).trans (F.sc.bytes i hi), fun i hi => by obtain ⟨v, hv⟩ := F.sc.there i hi; exact ⟨v, (k _ (by omega)).trans hv⟩⟩

theorem pvals_get (ps : List Pk) (k j : Nat) (hk : k < ps.length) (hj : j < 3) : (pvals ps)[k * 3 + j]? = (ps[k].cells)[j]? := by
  induction ps generalizing k with
  | nil => simp at hk
  | cons p r ih =>
    have e : pvals (p :: r) = p.cells ++ pvals r := by simp [pvals]
    have hc : p.cells.length = 3 := rfl
    rw [e]
    cases k with
    | zero => rw [List.getElem?_append_left (by omega)]; simp
    | succ k => rw [List.getElem?_append_right (by omega), hc, show (k + 1) * 3 + j - 3 = k * 3 + j from by omega, ih k (by simpa using hk)]; simp
end

/-
  A stub does not look at its scanner; so it may be fed in pieces.
-/
section
/-- The same stub with another scanner. -/
def SB.ws (S : SB) (c : Sc) : SB := { S with sc := c }
def ws2 {α : Type} (r : SB × α) (c : Sc) : SB × α := (r.1.ws c, r.2)
variable {c : Sc}
theorem ws_ite {α : Type} {p : Prop} [Decidable p] {a b a' b' : SB × α} (h1 : ws2 a c = a') (h2 : ws2 b c = b') : ws2 (if p then a else b) c = if p then a' else b' := by split <;> assumption
theorem settle_ws (S : SB) : S.settle.ws c = (S.ws c).settle := by
  unfold SB.settle
  show SB.ws (if S.pc.betw = true then _ else _) c = if S.pc.betw = true then _ else _
  split <;> rfl
theorem cyc1_ws (S : SB) : ws2 S.cyc1 c = (S.ws c).cyc1 := Prod.ext (settle_ws S.ran.1) rfl
theorem look_ws (S : SB) (l k : Int) : (S.ws c).look l k = S.look l k := rfl
theorem go_ws (f : Nat) : ∀ (S : SB) (l : Int) (wh : Bool) (k : Int), ws2 (S.go f l wh k) c = (S.ws c).go f l wh k := by
  induction f with
  | zero => intro S l wh k; rfl
  | succ f ih =>
    intro S l wh k
    have e1 : (S.ws c).cyc1 = ws2 S.cyc1 c := (cyc1_ws S).symm
    rw [SB.go, SB.go, look_ws]
    cases S.look l k with
    | some why => rfl
    | none =>
      simp only [e1]
      refine ws_ite rfl ?_
      exact ih S.cyc1.1 _ wh (k + 1)
theorem addPat_ws (S : SB) (a : Int) (bs : List UInt8) : ws2 (S.addPat a bs) c = (S.ws c).addPat a bs :=
  ws_ite rfl (ws_ite rfl (Prod.ext (settle_ws { S with pa := S.pa ++ [mkPat S.pa.length a bs] }) rfl))
theorem doW_ws (S : SB) (b : UInt8) (n : Int) (m : List UInt8) : ws2 (S.doW b n m) c = (S.ws c).doW b n m :=
  ws_ite (addPat_ws S n m) (ws_ite rfl (ws_ite rfl (ws_ite rfl (ws_ite rfl (ws_ite rfl (ws_ite rfl (ws_ite (go_ws _ S n false 0) (ws_ite (ws_ite rfl (go_ws _ S n true 0)) rfl))))))))
theorem doI_ws (S : SB) (b : List UInt8) : ws2 (S.doI b) c = (S.ws c).doI b := by
  refine ws_ite rfl (ws_ite rfl (ws_ite rfl (ws_ite rfl (ws_ite rfl (ws_ite rfl (ws_ite rfl (ws_ite rfl (ws_ite rfl ?_))))))))
  cases hexB b.tail with
  | none => rfl
  | some l => exact ws_ite rfl (doW_ws S _ _ _)
theorem ans_ws (S : SB) (p : Pk) : ws2 (S.ans p) c = (S.ws c).ans p := by
  have d := doI_ws (c := c) S p.body
  have e1 : ((S.ws c).doI p.body).1 = (S.doI p.body).1.ws c := by rw [← d]; rfl
  have e2 : ((S.ws c).doI p.body).2 = (S.doI p.body).2 := by rw [← d]; rfl
  refine ws_ite rfl (ws_ite ?_ (ws_ite rfl rfl))
  rw [e1, e2]
  rfl
theorem answers_ws (ps : List Pk) : ∀ S : SB, ws2 (S.answers ps) c = (S.ws c).answers ps := by
  induction ps with
  | nil => intro S; rfl
  | cons p r ih =>
    intro S
    have a := ans_ws (c := c) S p
    have e1 : ((S.ws c).ans p).1 = (S.ans p).1.ws c := by rw [← a]; rfl
    have e2 : ((S.ws c).ans p).2 = (S.ans p).2 := by rw [← a]; rfl
    have i := ih (S.ans p).1
    rw [SB.answers, SB.answers, e1, e2, ← i]
    rfl
theorem ans_sc (S : SB) (p : Pk) : (S.ans p).1.sc = S.sc := by
  have a := ans_ws (c := S.sc) S p
  have e : S.ws S.sc = S := rfl
  rw [e] at a
  have q := congrArg (fun r => r.1.sc) a
  exact q.symm
theorem answers_sc (ps : List Pk) (S : SB) : (S.answers ps).1.sc = S.sc := by
  have a := answers_ws (c := S.sc) ps S
  have e : S.ws S.sc = S := rfl
  rw [e] at a
  have q := congrArg (fun r => r.1.sc) a
  exact q.symm
theorem answers_append (S : SB) (a b : List Pk) : S.answers (a ++ b) = (((S.answers a).1.answers b).1, (S.answers a).2 ++ ((S.answers a).1.answers b).2) := by
  induction a generalizing S with
  | nil => simp [SB.answers]
  | cons p r ih => simp only [List.cons_append, SB.answers, ih, List.append_assoc]
/-- What comes in pieces is answered as if it came at once. -/
theorem feed_append (S : SB) (x y : List UInt8) : S.feed (x ++ y) = (((S.feed x).1.feed y).1, (S.feed x).2 ++ ((S.feed x).1.feed y).2) := by
  unfold SB.feed
  rw [feedS_append, feedP_append, answers_append]
  have e0 : (({ S with sc := feedS S.sc x } : SB).answers (feedP S.sc x)).1.sc = feedS S.sc x := answers_sc _ _
  have e1 : ∀ C : Sc, ({ S with sc := C } : SB) = S.ws C := fun _ => rfl
  have e2 : ({ (({ S with sc := feedS S.sc x } : SB).answers (feedP S.sc x)).1 with sc := feedS (feedS S.sc x) y } : SB) = ((S.ws (feedS (feedS S.sc x) y)).answers (feedP S.sc x)).1 := by
    have a := answers_ws (c := feedS (feedS S.sc x) y) (feedP S.sc x) (S.ws (feedS S.sc x))
    have b := congrArg Prod.fst a
    exact b
  have e3 : (({ S with sc := feedS (feedS S.sc x) y } : SB).answers (feedP S.sc x)).2 = (({ S with sc := feedS S.sc x } : SB).answers (feedP S.sc x)).2 := by
    have a := answers_ws (c := feedS (feedS S.sc x) y) (feedP S.sc x) (S.ws (feedS S.sc x))
    have b := congrArg Prod.snd a
    exact b.symm
  simp only [e0]
  rw [e2, e3]
  rfl
end

end Go.Proofs.YtcgjliflnnklnabGreat
