/-
  A fetch, walked.
-/
import Derived.Test.YtcgjliflnnklnaaGreatJ11
import Derived.Test.YtcgjliflnnklnaaGreatCpRbz
import Derived.Test.YtcgjliflnnklnaaGreatJ13
import Derived.Test.YtcgjliflnnklnaaGreatJ02
namespace Go.Proofs.YtcgjliflnnklnaaGreat
open Go.RowKit
set_option maxRecDepth 100000
set_option maxHeartbeats 4000000
variable {B : Nat} {s : PC} {w0 w : World}

theorem decode_int (v : Int) (h0 : 0 ≤ v) (h1 : v < 256) (w : World) :
    Calls Tryz.prog 106 #[.int .u8 v] w fun e w' => e = .returned (.agg #[.int .u8 (decodeI v.toNat).1, .int .u8 (decodeI v.toNat).2]) ∧ Below w.heap.size w w' := by
  obtain ⟨n, rfl⟩ := Int.eq_ofNat_of_zero_le h0
  exact decode_any n (by omega) w
theorem dec_lt (n : Nat) : (decodeI n).1 < 56 ∧ (decodeI n).2 < 23 := by
  by_cases h : n < 256
  · exact decode_lt n h
  · have e : decodeI n = (0, 0) := by
      have q : opTable.find? (fun e => e.1 == n) = none := by
        rw [List.find?_eq_none]
        intro e he
        have : e.1 < 256 := by
          have all : ∀ e ∈ opTable, e.1 < 256 := by decide +kernel
          exact all e he
        simp; omega
      unfold decodeI; rw [q]
    rw [e]; decide
theorem dec_i (n : Nat) : (0 : Int) ≤ ((decodeI n).1 : Int) ∧ ((decodeI n).1 : Int) < 56 := by have := (dec_lt n).1; omega
theorem dec_m (n : Nat) : (0 : Int) ≤ ((decodeI n).2 : Int) ∧ ((decodeI n).2 : Int) < 23 := by have := (dec_lt n).2; omega

theorem Bk.thru {w0 W w1 : World} {B R Q : Nat} {s s' : PC} {b : BusI} (k : Bk w0 B R Q s b W) (h : Tn B s' W w1) : Bk w0 B R Q s' b w1 :=
  ⟨k.k.thru h, ((kept h).1 _ _ k.nb k.lt).trans k.c0, ((kept h).1 _ _ k.nb k.lt).trans k.c1, ((kept h).1 _ _ k.nb k.lt).trans k.c2, ((kept h).1 _ _ k.nb k.lt).trans k.c3, fun o => ((kept h).2 _ _ k.nb k.lt).trans (k.f o), k.nb, k.nr, k.le, Nat.lt_of_lt_of_le k.lt h.g.size⟩
theorem Bk.below {w0 W w1 : World} {B R Q : Nat} {s : PC} {b : BusI} (k : Bk w0 B R Q s b W) (hb : Below W.heap.size W w1) : Bk w0 B R Q s b w1 := k.thru (below_thru (Tn.refl k.k.c) hb)
theorem Bk.fetched {w0 W : World} {B R Q : Nat} {s : PC} {b : BusI} (k : Bk w0 B R Q s b W) : Bk w0 B R Q s { b with ft := true } (W.setCell ⟨Q, 3, none⟩ (.bool true)) :=
  ⟨k.k.other k.nb k.nr k.le, by rw [World.cell?_setCell_other _ _ _ _ (cp_addr _ _ _ (by decide))]; exact k.c0, by rw [World.cell?_setCell_other _ _ _ _ (cp_addr _ _ _ (by decide))]; exact k.c1, by rw [World.cell?_setCell_other _ _ _ _ (cp_addr _ _ _ (by decide))]; exact k.c2, World.cell?_setCell_same _ _ _ k.c3, fun o => by rw [World.frozen?_setCell]; exact k.f o, k.nb, k.nr, k.le, by simpa using k.lt⟩

theorem fetch_any (h : Tn B s w0 w) (irq : Bool) :
    Calls Tryz.prog 79 #[.pointer (some ⟨B, 0, none⟩), .bool irq] w fun e w' => e = .returned (s.fetch irq).2.val ∧ Tn B (s.fetch irq).1 w0 w' := by
  obtain ⟨hlt, hsz, n0, m0, fz0, n01, m01⟩ := h.pre
  have c_pc := h.c.cpc
  obtain ⟨p0, p1⟩ := h.c.rpc
  have hd := look_r h.c s.pc p1
  have k0 := Ck.mk' h (R := w.heap.size) rfl
  obtain ⟨F, HF⟩ : ∃ F : PC, Hid (F = (s.fetch irq).1) := ⟨_, rfl⟩
  have hrel : Hid ((s.fetch irq).2 = { (s.read s.pc).2 with ft := true }) := by
    show _ = _
    unfold PC.fetch; simp only []
    split
    · rfl
    · split <;> rfl
  rw [hrel.out, ← HF.out]
  clear hrel
  go_enter Tryz.func79, Tryz.ntmps79
  go_upto_region 1 with fail
  go_cut [5] from 6 to 14 (fun q wc => ∃ Q, q = .pointer (some ⟨Q, 0, none⟩) ∧ Bk w0 B w.heap.size Q (s.read s.pc).1 (s.read s.pc).2 wc)
  case first =>
    go_region_with (first | (go_at_call 103; refine Ck.gq w0 w.heap.size kq8 (fun h => read_any h _ nq5 nq5) ?_; intro w1 k q1 q2 zz; intros; (try simp at zz); (try replace zz := Nat.lt_of_succ_le zz); (try have zl : w.heap.size + 1 < w1.heap.size := (by omega)); (try have zm : w.heap.size < w1.heap.size := (by omega)); (try simp only [BusI.val])))
    all_goals (go_wp2_with fail; go_meet)
    all_goals first
      | exact ⟨_, rfl, Bk.late k _⟩
      | exact ⟨_, rfl, Bk.early k _ zl n01 (by omega) (by omega) ⟨_, (q1 _ 0 n01 (by simp)).trans (second4 _ _ _ _ 0)⟩ ⟨_, (q1 _ 1 n01 (by simp)).trans (second4 _ _ _ _ 1)⟩ ⟨_, (q1 _ 2 n01 (by simp)).trans (second4 _ _ _ _ 2)⟩ ⟨_, (q1 _ 3 n01 (by simp)).trans (second4 _ _ _ _ 3)⟩ (fun o => (q2 _ o n01 (by simp)).trans (second4f _ _ _ _ o)) rfl⟩
  case rest =>
  obtain ⟨Q, rfl, K⟩ := hcut
  have eF : Hid (F = if (s.read s.pc).1.nmiDue = true then (({ (s.read s.pc).1 with nmiDue := false } : PC).begin_ 12 20)
      else if (irq || (s.read s.pc).1.calls) = true ∧ hasf (s.read s.pc).1.p 4 = false then ((s.read s.pc).1.begin_ 12 21)
      else (({ (s.read s.pc).1 with pc := ((s.read s.pc).1.pc + 1) % 65536 } : PC).begin_ (decodeI ((s.read s.pc).2.data % 256).toNat).1 (decodeI ((s.read s.pc).2.data % 256).toNat).2)) := by
    show _ = _
    rw [HF.out]; unfold PC.fetch; simp only []
    split
    · rfl
    · split <;> rfl
  have hd' : 0 ≤ (s.read s.pc).2.data ∧ (s.read s.pc).2.data < 256 := hd
  clear k0 c_pc fz0 HF hd
  generalize hS : (s.read s.pc).1 = S at *
  generalize hb : (s.read s.pc).2 = b at *
  obtain ⟨d0, d1⟩ := hd'
  have c_pc := K.k.c.cpc
  obtain ⟨l_pc, u_pc⟩ := K.k.c.rpc
  have c_due := K.k.c.cnmiDue
  have c_calls := K.k.c.ccalls
  obtain ⟨⟨rr0, rr1, rr2, rr3⟩, g1, g2, g3, g4, g5, g6, g7, g8, g9, g10⟩ := K.k.facts
  have t0 := K.c0
  have t1 := K.c1
  have t2 := K.c2
  have t3 := K.c3
  have tf := K.f
  have tr := K.nr
  have tl := K.lt
  have tb := K.nb
  have tb' : B ≠ Q := fun e => tb e.symm
  have K1 := K.fetched
  cases hdue : S.nmiDue
  · rw [hdue] at c_due
    cases irq
    · cases hcl : S.calls
      · rw [hcl] at c_calls
        have hca : S.calls = false := hcl
        have eF' : F = (({ S with pc := (S.pc + 1) % 65536 } : PC).begin_ (decodeI (b.data % 256).toNat).1 (decodeI (b.data % 256).toNat).2) := by rw [eF.out, if_neg (by rw [hdue]; decide), if_neg (by simp [hca])]
        rw [Int.emod_eq_of_lt d0 d1] at eF'
        have KA := K1.thru ((Tn.refl K1.k.c).setPc ((S.pc + 1) % 65536) (by omega))
        clear hdue eF
        go_wp2_with (first | (go_at_call 105; refine (has_any K1.k.t 4).mono ?_; rintro e w' ⟨rfl, rfl⟩))
        refine (decode_int _ (by omega) (by omega) _).mono ?_
        rintro e w8 ⟨rfl, hbl⟩
        have K2 := KA.below hbl
        go_wp2_with fail
        refine (Bk.call K2 (fun h => begin_any' h _ _ (dec_i _) (dec_m _))).mono ?_
        rintro e w9 ⟨rfl, K9⟩
        clear rr0 rr1 rr2 rr3 g1 g2 g3 g4 g5 g6 g7 g8 g9 g10 t0 t1 t2 t3 tf tl
        obtain ⟨⟨rr0, rr1, rr2, rr3⟩, g1, g2, g3, g4, g5, g6, g7, g8, g9, g10⟩ := K9.k.facts
        have t0 := K9.c0
        have t1 := K9.c1
        have t2 := K9.c2
        have t3 := K9.c3
        have tf := K9.f
        have tl := K9.lt
        go_wp2
        refine bodyPost_ret (v := BusI.val ⟨b.addr, b.data, b.wr, true⟩) (by simp [results, Tryz.results79, go_sem, BusI.val, *]) rfl (And.intro (by rw [hb]) ?_)
        rw [eF']
        exact tq3
      · rw [hcl] at c_calls
        have hca : S.calls = true := hcl
        cases hha : hasf S.p 4
        · have hh := has_any K1.k.t 4
          rw [hha] at hh
          clear hcl
          have eF' : F = (S.begin_ 12 21) := by rw [eF.out, if_neg (by rw [hdue]; decide), if_pos (by simp [hca, hha])]
          clear hdue eF
          go_wp2_with (first | (go_at_call 105; refine hh.mono ?_; rintro e w' ⟨rfl, rfl⟩))
          refine (Bk.call K1 (fun h => begin_any' h 12 21 (by decide) (by decide))).mono ?_
          rintro e w9 ⟨rfl, K9⟩
          clear rr0 rr1 rr2 rr3 g1 g2 g3 g4 g5 g6 g7 g8 g9 g10 t0 t1 t2 t3 tf tl
          obtain ⟨⟨rr0, rr1, rr2, rr3⟩, g1, g2, g3, g4, g5, g6, g7, g8, g9, g10⟩ := K9.k.facts
          have t0 := K9.c0
          have t1 := K9.c1
          have t2 := K9.c2
          have t3 := K9.c3
          have tf := K9.f
          have tl := K9.lt
          go_wp2
          refine bodyPost_ret (v := BusI.val ⟨b.addr, b.data, b.wr, true⟩) (by simp [results, Tryz.results79, go_sem, BusI.val, *]) rfl (And.intro (by rw [hb]) ?_)
          rw [eF']
          exact tq3
        · have hh := has_any K1.k.t 4
          rw [hha] at hh
          clear hcl
          have eF' : F = (({ S with pc := (S.pc + 1) % 65536 } : PC).begin_ (decodeI (b.data % 256).toNat).1 (decodeI (b.data % 256).toNat).2) := by rw [eF.out, if_neg (by rw [hdue]; decide), if_neg (by simp [hca, hha])]
          rw [Int.emod_eq_of_lt d0 d1] at eF'
          have KA := K1.thru ((Tn.refl K1.k.c).setPc ((S.pc + 1) % 65536) (by omega))
          clear hdue eF
          go_wp2_with (first | (go_at_call 105; refine hh.mono ?_; rintro e w' ⟨rfl, rfl⟩))
          refine (decode_int _ (by omega) (by omega) _).mono ?_
          rintro e w8 ⟨rfl, hbl⟩
          have K2 := KA.below hbl
          go_wp2_with fail
          refine (Bk.call K2 (fun h => begin_any' h _ _ (dec_i _) (dec_m _))).mono ?_
          rintro e w9 ⟨rfl, K9⟩
          clear rr0 rr1 rr2 rr3 g1 g2 g3 g4 g5 g6 g7 g8 g9 g10 t0 t1 t2 t3 tf tl
          obtain ⟨⟨rr0, rr1, rr2, rr3⟩, g1, g2, g3, g4, g5, g6, g7, g8, g9, g10⟩ := K9.k.facts
          have t0 := K9.c0
          have t1 := K9.c1
          have t2 := K9.c2
          have t3 := K9.c3
          have tf := K9.f
          have tl := K9.lt
          go_wp2
          refine bodyPost_ret (v := BusI.val ⟨b.addr, b.data, b.wr, true⟩) (by simp [results, Tryz.results79, go_sem, BusI.val, *]) rfl (And.intro (by rw [hb]) ?_)
          rw [eF']
          exact tq3
    · cases hha : hasf S.p 4
      · have hh := has_any K1.k.t 4
        rw [hha] at hh
        have eF' : F = (S.begin_ 12 21) := by rw [eF.out, if_neg (by rw [hdue]; decide), if_pos (by simp [hha])]
        clear hdue eF
        go_wp2_with (first | (go_at_call 105; refine hh.mono ?_; rintro e w' ⟨rfl, rfl⟩))
        refine (Bk.call K1 (fun h => begin_any' h 12 21 (by decide) (by decide))).mono ?_
        rintro e w9 ⟨rfl, K9⟩
        clear rr0 rr1 rr2 rr3 g1 g2 g3 g4 g5 g6 g7 g8 g9 g10 t0 t1 t2 t3 tf tl
        obtain ⟨⟨rr0, rr1, rr2, rr3⟩, g1, g2, g3, g4, g5, g6, g7, g8, g9, g10⟩ := K9.k.facts
        have t0 := K9.c0
        have t1 := K9.c1
        have t2 := K9.c2
        have t3 := K9.c3
        have tf := K9.f
        have tl := K9.lt
        go_wp2
        refine bodyPost_ret (v := BusI.val ⟨b.addr, b.data, b.wr, true⟩) (by simp [results, Tryz.results79, go_sem, BusI.val, *]) rfl (And.intro (by rw [hb]) ?_)
        rw [eF']
        exact tq3
      · have hh := has_any K1.k.t 4
        rw [hha] at hh
        have eF' : F = (({ S with pc := (S.pc + 1) % 65536 } : PC).begin_ (decodeI (b.data % 256).toNat).1 (decodeI (b.data % 256).toNat).2) := by rw [eF.out, if_neg (by rw [hdue]; decide), if_neg (by simp [hha])]
        rw [Int.emod_eq_of_lt d0 d1] at eF'
        have KA := K1.thru ((Tn.refl K1.k.c).setPc ((S.pc + 1) % 65536) (by omega))
        clear hdue eF
        go_wp2_with (first | (go_at_call 105; refine hh.mono ?_; rintro e w' ⟨rfl, rfl⟩))
        refine (decode_int _ (by omega) (by omega) _).mono ?_
        rintro e w8 ⟨rfl, hbl⟩
        have K2 := KA.below hbl
        go_wp2_with fail
        refine (Bk.call K2 (fun h => begin_any' h _ _ (dec_i _) (dec_m _))).mono ?_
        rintro e w9 ⟨rfl, K9⟩
        clear rr0 rr1 rr2 rr3 g1 g2 g3 g4 g5 g6 g7 g8 g9 g10 t0 t1 t2 t3 tf tl
        obtain ⟨⟨rr0, rr1, rr2, rr3⟩, g1, g2, g3, g4, g5, g6, g7, g8, g9, g10⟩ := K9.k.facts
        have t0 := K9.c0
        have t1 := K9.c1
        have t2 := K9.c2
        have t3 := K9.c3
        have tf := K9.f
        have tl := K9.lt
        go_wp2
        refine bodyPost_ret (v := BusI.val ⟨b.addr, b.data, b.wr, true⟩) (by simp [results, Tryz.results79, go_sem, BusI.val, *]) rfl (And.intro (by rw [hb]) ?_)
        rw [eF']
        exact tq3
  · rw [hdue] at c_due
    have eF' : F = (({ S with nmiDue := false } : PC).begin_ 12 20) := by rw [eF.out, if_pos hdue]
    have KA := K1.thru ((Tn.refl K1.k.c).setNmiDue false)
    clear hdue eF
    go_wp2_with fail
    refine (Bk.call KA (fun h => begin_any' h 12 20 (by decide) (by decide))).mono ?_
    rintro e w9 ⟨rfl, K9⟩
    clear rr0 rr1 rr2 rr3 g1 g2 g3 g4 g5 g6 g7 g8 g9 g10 t0 t1 t2 t3 tf tl
    obtain ⟨⟨rr0, rr1, rr2, rr3⟩, g1, g2, g3, g4, g5, g6, g7, g8, g9, g10⟩ := K9.k.facts
    have t0 := K9.c0
    have t1 := K9.c1
    have t2 := K9.c2
    have t3 := K9.c3
    have tf := K9.f
    have tl := K9.lt
    go_wp2
    refine bodyPost_ret (v := BusI.val ⟨b.addr, b.data, b.wr, true⟩) (by simp [results, Tryz.results79, go_sem, BusI.val, *]) rfl (And.intro (by rw [hb]) ?_)
    rw [eF']
    exact tq3

end Go.Proofs.YtcgjliflnnklnaaGreat
