/-
  Branches, walked: the later cycles.
-/
import Derived.Test.YtcgjliflnnklnaaGreatJ11
import Derived.Test.YtcgjliflnnklnaaGreatJ12
import Derived.Deep.DeepCutAuto
import Derived.Deep.QuietTactic
import Derived.BigQuiet
namespace Go.Proofs.YtcgjliflnnklnaaGreat
open Go.RowKit
set_option maxRecDepth 100000
set_option maxHeartbeats 2000000
variable {B : Nat} {s : PC} {w0 w : World}

/-- The computer, the result's cell, and a bus's cycle kept in a cell of its own. -/
structure Bk (w0 : World) (B R Q : Nat) (s : PC) (b : BusI) (W : World) : Prop where
  k : Ck w0 B R s W
  c0 : W.cell? ⟨Q, 0, none⟩ = some (.int .i64 b.addr)
  c1 : W.cell? ⟨Q, 1, none⟩ = some (.int .i64 b.data)
  c2 : W.cell? ⟨Q, 2, none⟩ = some (.bool b.wr)
  c3 : W.cell? ⟨Q, 3, none⟩ = some (.bool b.ft)
  f : ∀ o, W.frozen? ⟨Q, o, none⟩ = false
  nb : Q ≠ B
  nr : Q ≠ R
  le : w0.heap.size ≤ Q
  lt : Q < W.heap.size

theorem Bk.call {P : Program} {f : FuncId} {args : Array Value} {w0 W : World} {B R Q : Nat} {s s' : PC} {b : BusI} {V : Value} (k : Bk w0 B R Q s b W)
    (hc : ∀ {a b : World}, Tn B s a b → Calls P f args b (fun e w' => e = .returned V ∧ Tn B s' a w')) :
    Calls P f args W (fun e w' => e = .returned V ∧ Bk w0 B R Q s' b w') :=
  (Ck.call k.k hc).mono fun _ _ h => ⟨h.1, ⟨h.2.1, (h.2.2.1 _ _ k.nb k.lt).trans k.c0, (h.2.2.1 _ _ k.nb k.lt).trans k.c1, (h.2.2.1 _ _ k.nb k.lt).trans k.c2, (h.2.2.1 _ _ k.nb k.lt).trans k.c3, fun o => (h.2.2.2.1 _ _ k.nb k.lt).trans (k.f o), k.nb, k.nr, k.le, Nat.lt_of_lt_of_le k.lt h.2.2.2.2⟩⟩

theorem Bk.drew {w0 W : World} {B R Q : Nat} {s : PC} {b : BusI} (k : Bk w0 B R Q s b W) : Bk w0 B R Q s b W.drew := ⟨k.k.drew, k.c0, k.c1, k.c2, k.c3, k.f, k.nb, k.nr, k.le, k.lt⟩

theorem Tn.drewN {w0 W : World} {B : Nat} {s : PC} (k : Tn B s w0 W) (n : Nat) : Tn B s w0 (W.drewN n) := by
  induction n with
  | zero => exact k
  | succ n ih => exact ih.drew
theorem Bk.drewN {w0 W : World} {B R Q : Nat} {s : PC} {b : BusI} (k : Bk w0 B R Q s b W) (n : Nat) : Bk w0 B R Q s b (W.drewN n) := by
  induction n with
  | zero => exact k
  | succ n ih => exact ih.drew

theorem Bk.late {w0 W : World} {B R : Nat} {s : PC} (k : Ck w0 B R s W) (b : BusI) : Bk w0 B R W.heap.size s b (W.alloc (.cells #[.int .i64 b.addr, .int .i64 b.data, .bool b.wr, .bool b.ft] 53)) := by
  have hc : ∀ i, (W.alloc (.cells #[.int .i64 b.addr, .int .i64 b.data, .bool b.wr, .bool b.ft] 53)).cell? ⟨W.heap.size, i, none⟩ = (#[.int .i64 b.addr, .int .i64 b.data, .bool b.wr, .bool b.ft] : Array Value)[i]? := fun i => World.cell?_alloc_at _ _ _ _ rfl
  have h1 := k.c.lt
  have h2 := k.lt
  have h3 := k.g.size
  exact ⟨k.alloc, hc 0, hc 1, hc 2, hc 3, fun o => World.frozen?_alloc_at _ _ _ _ rfl, by omega, by omega, h3, by simp⟩

theorem Bk.early {w0 W w1 : World} {B R Q : Nat} {s : PC} (k : Ck w0 B R s w1) (b : BusI) (hQ : Q < w1.heap.size) (nb : Q ≠ B) (nr : Q ≠ R) (le : w0.heap.size ≤ Q) (c0 : ∃ v, w1.cell? ⟨Q, 0, none⟩ = some v) (c1 : ∃ v, w1.cell? ⟨Q, 1, none⟩ = some v) (c2 : ∃ v, w1.cell? ⟨Q, 2, none⟩ = some v) (c3 : ∃ v, w1.cell? ⟨Q, 3, none⟩ = some v) (f : ∀ o, w1.frozen? ⟨Q, o, none⟩ = false)
    (hW : W = (((w1.setCell ⟨Q, 0, none⟩ (.int .i64 b.addr)).setCell ⟨Q, 1, none⟩ (.int .i64 b.data)).setCell ⟨Q, 2, none⟩ (.bool b.wr)).setCell ⟨Q, 3, none⟩ (.bool b.ft)) : Bk w0 B R Q s b W := by
  subst hW
  obtain ⟨v0, c0⟩ := c0
  obtain ⟨v1, c1⟩ := c1
  obtain ⟨v2, c2⟩ := c2
  obtain ⟨v3, c3⟩ := c3
  have kk := (((k.other (v := .int .i64 b.addr) (o := 0) nb nr le).other (v := .int .i64 b.data) (o := 1) nb nr le).other (v := .bool b.wr) (o := 2) nb nr le).other (v := .bool b.ft) (o := 3) nb nr le
  have ne : ∀ (i j : Nat), i ≠ j → (⟨Q, i, none⟩ : Addr) ≠ ⟨Q, j, none⟩ := fun i j h e => h (by injection e)
  refine ⟨kk, ?_, ?_, ?_, ?_, ?_, nb, nr, le, by simpa using hQ⟩
  · rw [World.cell?_setCell_other _ _ _ _ (ne 3 0 (by decide)), World.cell?_setCell_other _ _ _ _ (ne 2 0 (by decide)), World.cell?_setCell_other _ _ _ _ (ne 1 0 (by decide))]
    exact World.cell?_setCell_same _ _ _ c0
  · rw [World.cell?_setCell_other _ _ _ _ (ne 3 1 (by decide)), World.cell?_setCell_other _ _ _ _ (ne 2 1 (by decide))]
    exact World.cell?_setCell_same _ _ _ ((World.cell?_setCell_other _ _ _ _ (ne 0 1 (by decide))).trans c1)
  · rw [World.cell?_setCell_other _ _ _ _ (ne 3 2 (by decide))]
    exact World.cell?_setCell_same _ _ _ ((World.cell?_setCell_other _ _ _ _ (ne 1 2 (by decide))).trans ((World.cell?_setCell_other _ _ _ _ (ne 0 2 (by decide))).trans c2))
  · exact World.cell?_setCell_same _ _ _ ((World.cell?_setCell_other _ _ _ _ (ne 2 3 (by decide))).trans ((World.cell?_setCell_other _ _ _ _ (ne 1 3 (by decide))).trans ((World.cell?_setCell_other _ _ _ _ (ne 0 3 (by decide))).trans c3)))
  · intro o; simpa using f o

theorem second4 (w : World) (o1 : Obj) (cs : Array Value) (t : TypeId) (i : Nat) : ((w.alloc o1).alloc (.cells cs t)).cell? ⟨w.heap.size + 1, i, none⟩ = cs[i]? := by
  have hs : (w.alloc o1).heap.size = w.heap.size + 1 := by simp
  rw [← hs]; exact World.cell?_alloc_at _ _ _ _ rfl
theorem second4f (w : World) (o1 : Obj) (cs : Array Value) (t : TypeId) (i : Nat) : ((w.alloc o1).alloc (.cells cs t)).frozen? ⟨w.heap.size + 1, i, none⟩ = false := by
  have hs : (w.alloc o1).heap.size = w.heap.size + 1 := by simp
  rw [← hs]; exact World.frozen?_alloc_at _ _ _ _ rfl

theorem relative_2 (h : Tn B s w0 w) (hk : s.step = 2) :
    Calls Tryz.prog 122 #[.pointer (some ⟨B, 0, none⟩)] w fun e w' => e = .returned (s.relative).2.val ∧ Tn B (s.relative).1 w0 w' := by
  have c_step := h.c.cstep
  obtain ⟨hlt, hsz, n0, m0, fz0, n01, m01⟩ := h.pre
  have c_pc := h.c.cpc
  obtain ⟨p0, p1⟩ := h.c.rpc
  have k0 := Ck.mk' h (R := w.heap.size) rfl
  rw [hk] at c_step
  obtain ⟨F, HF⟩ : ∃ F : PC, Hid (F = if hiI (s.read s.pc).1.ad = hiI (s.read s.pc).1.pc then (s.read s.pc).1.branch else (s.read s.pc).1) := ⟨_, rfl⟩
  have hrel : Hid (s.relative = (F, (s.read s.pc).2)) := by
    show _ = _
    rw [HF.out]
    unfold PC.relative; rw [if_neg (by rw [hk]; decide), if_pos hk]
  rw [hrel.out]
  clear hrel
  go_enter Tryz.func122, Tryz.ntmps122
  go_upto_region 10 with fail
  go_cut [4] from 39 to 47 (fun q wc => ∃ Q, q = .pointer (some ⟨Q, 0, none⟩) ∧ Bk w0 B w.heap.size Q (s.read s.pc).1 (s.read s.pc).2 wc)
  case first =>
    go_region_with (first | (go_at_call 103; refine Ck.gq w0 w.heap.size kq8 (fun h => read_any h _ nq5 nq5) ?_; intro w1 k q1 q2 zz; intros; (try simp at zz); (try replace zz := Nat.lt_of_succ_le zz); (try have zl : w.heap.size + 1 < w1.heap.size := (by omega)); (try have zm : w.heap.size < w1.heap.size := (by omega)); (try simp only [BusI.val])))
    all_goals (go_wp2_with fail; go_meet)
    all_goals first
      | exact ⟨_, rfl, Bk.late k _⟩
      | exact ⟨_, rfl, Bk.early k _ zl n01 (by omega) (by omega) ⟨_, (q1 _ 0 n01 (by simp)).trans (second4 _ _ _ _ 0)⟩ ⟨_, (q1 _ 1 n01 (by simp)).trans (second4 _ _ _ _ 1)⟩ ⟨_, (q1 _ 2 n01 (by simp)).trans (second4 _ _ _ _ 2)⟩ ⟨_, (q1 _ 3 n01 (by simp)).trans (second4 _ _ _ _ 3)⟩ (fun o => (q2 _ o n01 (by simp)).trans (second4f _ _ _ _ o)) rfl⟩
  case rest =>
  obtain ⟨Q, rfl, K⟩ := hcut
  clear k0 c_step c_pc fz0
  generalize hS : (s.read s.pc).1 = S at *
  generalize hb : (s.read s.pc).2 = b at *
  have c_pc := K.k.c.cpc
  obtain ⟨l_pc, u_pc⟩ := K.k.c.rpc
  have c_ad := K.k.c.cad
  obtain ⟨l_ad, u_ad⟩ := K.k.c.rad
  by_cases hj : hiI S.ad = hiI S.pc
  · have eF : F = S.branch := by rw [HF.out, if_pos hj]
    go_wp2_with fail
    go_quiet (first | (go_at_call 177; exact Calls.quiet_of_same (highOf_any _ _ (by assumption) (by assumption))))
    go_wp2_with fail
    refine (Bk.call (K.drewN _) (fun h => branch_any h)).mono ?_
    rintro e w2 ⟨rfl, K2⟩
    obtain ⟨⟨rr0, rr1, rr2, rr3⟩, g1, g2, g3, g4, g5, g6, g7, g8, g9, g10⟩ := K2.k.facts
    have t0 := K2.c0
    have t1 := K2.c1
    have t2 := K2.c2
    have t3 := K2.c3
    have tf := K2.f
    have tr := K2.nr
    have tl := K2.lt
    go_wp2
    refine bodyPost_ret (v := BusI.val b) (by simp [results, Tryz.results122, go_sem, BusI.val, *]) rfl (And.intro (by rw [hb]) ?_)
    rw [eF]
    apply Tn.eq; (case h => repeat (first | with_reducible exact K2.k.t | with_reducible apply Tn.drew | with_reducible apply Tn.drewN | with_reducible apply Tn.alloc | ((with_reducible apply Tn.other); (case hne => omega); (case hb => omega)))); (case e => rfl)
  · have eF : F = S := by rw [HF.out, if_neg hj]
    obtain ⟨⟨rr0, rr1, rr2, rr3⟩, g1, g2, g3, g4, g5, g6, g7, g8, g9, g10⟩ := K.k.facts
    have t0 := K.c0
    have t1 := K.c1
    have t2 := K.c2
    have t3 := K.c3
    have tf := K.f
    have tr := K.nr
    have tl := K.lt
    go_wp2_with fail
    go_quiet (first | (go_at_call 177; exact Calls.quiet_of_same (highOf_any _ _ (by assumption) (by assumption))))
    go_wp2
    refine bodyPost_ret (v := BusI.val b) (by simp [results, Tryz.results122, go_sem, BusI.val, *]) rfl (And.intro (by rw [hb]) ?_)
    rw [eF]
    apply Tn.eq; (case h => repeat (first | with_reducible exact K.k.t | with_reducible apply Tn.drew | with_reducible apply Tn.drewN | with_reducible apply Tn.alloc | ((with_reducible apply Tn.other); (case hne => omega); (case hb => omega)))); (case e => rfl)

end Go.Proofs.YtcgjliflnnklnaaGreat
