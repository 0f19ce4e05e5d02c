/-
  Joined texts.
-/
import Derived.Test.YtcgjliflnnklnabGreatQG
namespace Go.Proofs.YtcgjliflnnklnabGreat
open Go.RowKit

/-
  A journey, as plain data.
-/
section
theorem ft_ite {c : Prop} [Decidable c] {a b : PC × BusI} (h1 : a.2.ft = false) (h2 : b.2.ft = false) : (if c then a else b).2.ft = false := by split <;> assumption
theorem ft_access (s : PC) : s.access.2.ft = false := ft_ite rfl (ft_ite rfl rfl)
theorem ft_indexed (s : PC) (i : Int) : (s.indexed i).2.ft = false := ft_ite (ft_access _) rfl
theorem ft_enter (s : PC) (v f : Int) : (s.enter v f).2.ft = false := ft_ite rfl (ft_ite rfl (ft_ite rfl (ft_ite rfl rfl)))
theorem ft_mode (s : PC) (m : Nat) : (s.doMode m).2.ft = false := by
  unfold PC.doMode
  split
  · rfl
  · rfl
  · rfl
  · rfl
  · exact ft_ite rfl rfl
  · exact ft_ite rfl rfl
  · exact ft_ite rfl rfl
  · exact ft_ite rfl (ft_ite rfl (ft_indexed _ _))
  · exact ft_ite rfl (ft_ite rfl (ft_indexed _ _))
  · exact ft_ite rfl (ft_ite rfl (ft_ite rfl rfl))
  · exact ft_ite rfl (ft_ite rfl (ft_ite rfl (ft_indexed _ _)))
  · exact ft_ite rfl (ft_ite rfl rfl)
  · exact ft_ite rfl rfl
  · exact ft_ite rfl (ft_ite rfl (ft_ite rfl rfl))
  · exact ft_ite rfl (ft_ite rfl (ft_ite rfl (ft_ite rfl rfl)))
  · exact ft_ite rfl (ft_ite rfl (ft_ite rfl (ft_ite rfl rfl)))
  · exact ft_ite rfl rfl
  · exact ft_ite rfl (ft_ite rfl rfl)
  · exact ft_ite rfl (ft_enter _ _ _)
  · exact ft_ite rfl (ft_enter _ _ _)
  · exact ft_ite rfl (ft_enter _ _ _)
  · exact ft_ite rfl (ft_ite rfl (ft_ite rfl (ft_ite rfl rfl)))
theorem ft_cycle (s : PC) (n i : Bool) (h : s.st ≠ 0) : (s.cycle n i).2.ft = false := by
  rw [pc_cycle]
  show ((s.pins n).turn i).2.ft = false
  unfold PC.turn
  rw [if_neg (show (s.pins n).st ≠ 0 from h)]
  exact ft_ite (ft_access _) (ft_ite rfl (ft_ite rfl (ft_mode _ _)))

/-- What holds of a stub all the time; its computer has done at most N cycles. -/
structure SI (S : SB) (N : Int) : Prop where
  tr : ∃ n, TrI S.pc n
  c0 : 0 ≤ S.pc.cyc
  c1 : S.pc.cyc ≤ N
  rr : ∀ i, 0 ≤ (S.rc.ring i).addr ∧ (S.rc.ring i).addr < 65536 ∧ 0 ≤ (S.rc.ring i).data ∧ (S.rc.ring i).data < 256
theorem SI.mono {S : SB} {N M : Int} (h : SI S N) (e : N ≤ M) : SI S M := ⟨h.tr, h.c0, by have := h.c1; omega, h.rr⟩
theorem SI.wf {S : SB} {N : Int} (h : SI S N) : S.pc.st = 1 → S.pc.md ≠ 0 := by
  intro h1
  obtain ⟨n, h⟩ := h.tr
  cases h with
  | mid m _ hm m1 => rw [hm]; omega
  | idle h _ _ => omega
  | two h _ => omega
  | three h _ => omega
  | four h _ => omega
  | jam h => omega

/-- How much there is left to an instruction's end. -/
inductive Left (s : PC) : Nat → Prop
  | idle : s.st = 0 → Left s 9
  | mid (n : Nat) : s.st ≠ 0 → n ≤ 7 → TrI s n → Left s (8 - n)
theorem SI.left {S : SB} {N : Int} (h : SI S N) : ∃ k, Left S.pc k ∧ k ≤ 9 := by
  obtain ⟨n, h⟩ := h.tr
  by_cases e : S.pc.st = 0
  · exact ⟨9, .idle e, by omega⟩
  · cases h with
    | idle h _ _ => exact absurd h e
    | mid m a b c d f g =>
      have hl : lenM m ≤ 6 := by
        have q : ∀ m : Fin 23, lenM m.1 ≤ 6 := by decide
        exact q ⟨m, by omega⟩
      exact ⟨8 - n, .mid n e (by omega) (.mid m a b c d f g), by omega⟩
    | two a b => exact ⟨8 - n, .mid n e (by omega) (.two a b), by omega⟩
    | three a b => exact ⟨8 - n, .mid n e (by omega) (.three a b), by omega⟩
    | four a b => exact ⟨8 - n, .mid n e (by omega) (.four a b), by omega⟩
    | jam a => exact ⟨8, .mid 0 e (by omega) (.jam a), by omega⟩

theorem settle_pc (S : SB) : ∃ M, S.settle.pc = { S.pc with mem := M } := by
  unfold SB.settle
  split
  · exact ⟨_, rfl⟩
  · exact ⟨S.pc.mem, rfl⟩
theorem settle_rc (S : SB) : S.settle.rc = S.rc := by
  unfold SB.settle
  split <;> rfl
theorem rgp {w : World} {B : Nat} {s : PC} {S : SB} (h : CAt w B s) (hS : SV S s) : RgP S.pc := by
  have q : RgP s := ⟨h.rpc, h.rad, h.rhop, h.rs, h.rx⟩
  rw [hS.core] at q
  exact ⟨q.pc, q.ad, q.hop, q.sp, q.x⟩

/-- A cycle of a stub that goes on. -/
theorem cyc1_ok {w w' : World} {B : Nat} {s s' : PC} {S : SB} {N : Int} (h : CAt w B s) (hS : SV S s) (hI : SI S N) (h5 : S.pc.st ≠ 5) (hN : N < 4611686018427387904) (h' : CAt w' B s') (hS' : SV S.cyc1.1 s') :
    SI S.cyc1.1 (N + 1) ∧ 0 ≤ S.cyc1.2.addr ∧ S.cyc1.2.addr < 65536 ∧ (∀ k, Left S.pc k → ∃ k', Left S.cyc1.1.pc k' ∧ k' ≤ 9 ∧ (S.cyc1.1.pc.betw = true ∨ k' + 1 ≤ k)) := by
  obtain ⟨M, hM⟩ := settle_pc S.ran.1
  have hpc : S.cyc1.1.pc = ({ (S.pc.cycle S.nmi S.irq).1 with mem := M } : PC) := hM
  obtain ⟨n, I⟩ := hI.tr
  have Z := cycle_ok S.pc n S.nmi S.irq (rgp h hS) I h5
  have hc0 := hI.c0
  have hc1 := hI.c1
  have ec : S.cyc1.1.pc.cyc = S.pc.cyc + 1 := by
    rw [hpc]
    show (S.pc.cycle S.nmi S.irq).1.cyc = _
    rw [Z.cyc, IntKind.wrap_i64]; omega
  have tr1 : ∀ m, TrI (S.pc.cycle S.nmi S.irq).1 m → TrI S.cyc1.1.pc m := fun m t => by rw [hpc]; exact t.like rfl rfl rfl rfl rfl
  have hpc0 := h.rpc
  have hp0 := h.rp
  have hcn := h.rcnt
  have hme := h.rmem
  have hda : 0 ≤ (S.pc.cycle S.nmi S.irq).1.data ∧ (S.pc.cycle S.nmi S.irq).1.data < 256 := by
    have q := h'.rdata
    rw [hS'.core] at q
    have q2 : 0 ≤ S.cyc1.1.pc.data ∧ S.cyc1.1.pc.data < 256 := q
    rw [hpc] at q2
    exact q2
  rw [hS.core] at hpc0 hp0 hcn hme
  have bb := bus_byte S.pc S.nmi S.irq hpc0.1 hpc0.2 hp0 hcn hme hda Z.lo Z.hi
  refine ⟨⟨⟨_, tr1 _ Z.nx⟩, by omega, by omega, fun i => ?_⟩, Z.lo, Z.hi, fun k hk => ?_⟩
  · have erc : S.cyc1.1.rc = if S.re = true then S.rc.put (S.pc.cycle S.nmi S.irq).2 else S.rc := settle_rc S.ran.1
    rw [erc]
    split
    · unfold Rcs.put
      simp only []
      split
      · exact ⟨Z.lo, Z.hi, bb.1, bb.2⟩
      · exact hI.rr i
    · exact hI.rr i
  · have st1 : S.cyc1.1.pc.st = (S.pc.cycle S.nmi S.irq).1.st := by rw [hpc]
    by_cases e0 : S.cyc1.1.pc.st = 0
    · exact ⟨9, .idle e0, by omega, .inl (by unfold PC.betw; rw [e0]; rfl)⟩
    · cases hk with
      | idle h0 =>
        have nx := Z.nx
        by_cases hf : (S.pc.cycle S.nmi S.irq).2.ft = true
        · rw [if_pos hf] at nx
          exact ⟨8, .mid 0 e0 (by omega) (tr1 _ nx), by omega, .inr (by omega)⟩
        · rw [if_neg hf] at nx
          have n7 : n + 1 ≤ 7 := by rcases Z.n7 with q | q; exact q; exact absurd q hf
          exact ⟨8 - (n + 1), .mid (n + 1) e0 n7 (tr1 _ nx), by omega, .inr (by omega)⟩
      | mid m h0 h7 I2 =>
        have Z2 := cycle_ok S.pc m S.nmi S.irq (rgp h hS) I2 h5
        have hf := ft_cycle S.pc S.nmi S.irq h0
        have nx := Z2.nx
        rw [hf, if_neg (by decide)] at nx
        have n7 : m + 1 ≤ 7 := by rcases Z2.n7 with q | q; exact q; rw [hf] at q; cases q
        exact ⟨8 - (m + 1), .mid (m + 1) e0 n7 (tr1 _ nx), by omega, .inr (by omega)⟩

/-- A stub that goes on, at most f cycles. -/
def SB.go : Nat → SB → Int → Bool → Int → SB × List UInt8
  | 0, S, _, _, c => (S, tellI 0 c)
  | f + 1, S, l, wh, c => match S.look l c with
    | some why => (S, tellI why c)
    | none => if S.cyc1.1.wp.has S.cyc1.2.addr = true then (S.cyc1.1, tellI 2 (c + 1)) else
        SB.go f S.cyc1.1 (if wh = false ∨ S.cyc1.1.pc.betw = true then l - 1 else l) wh (c + 1)
theorem go_len (f : Nat) (S : SB) (l : Int) (wh : Bool) (c : Int) : (S.go f l wh c).2.length = 8 := by
  induction f generalizing S l c with
  | zero => exact tellI_len _ _
  | succ f ih =>
    unfold SB.go
    split
    · exact tellI_len _ _
    · split
      · exact tellI_len _ _
      · exact ih _ _ _
end

/-
  A stub goes on: walked.
-/
section
theorem go_end {S : SB} {l c : Int} {wh : Bool} {f : Nat} {why : Nat} (hf : 0 < f) (h : S.look l c = some why) : S.go f l wh c = (S, tellI why c) := by
  obtain ⟨k, rfl⟩ : ∃ k, f = k + 1 := ⟨f - 1, by omega⟩
  unfold SB.go
  rw [h]
theorem go_watch {S : SB} {l c : Int} {wh : Bool} {f : Nat} (hf : 0 < f) (h : S.look l c = none) (hw : S.cyc1.1.wp.has S.cyc1.2.addr = true) : S.go f l wh c = (S.cyc1.1, tellI 2 (c + 1)) := by
  obtain ⟨k, rfl⟩ : ∃ k, f = k + 1 := ⟨f - 1, by omega⟩
  unfold SB.go
  rw [h]
  simp only [hw, if_true]
theorem go_more {S : SB} {l c : Int} {wh : Bool} {f : Nat} (h : S.look l c = none) (hw : S.cyc1.1.wp.has S.cyc1.2.addr = false) : S.go (f + 1) l wh c = S.cyc1.1.go f (if wh = false ∨ S.cyc1.1.pc.betw = true then l - 1 else l) wh (c + 1) := by
  rw [SB.go, h]
  simp only [hw, Bool.false_eq_true, if_false]
theorem look_why {S : SB} {l c : Int} {why : Nat} (h : S.look l c = some why) : why < 5 := by
  unfold SB.look at h
  split at h
  · injection h with h; omega
  · split at h
    · injection h with h; omega
    · split at h
      · injection h with h; omega
      · split at h
        · injection h with h; omega
        · cases h
theorem look_none {S : SB} {l c : Int} (h : S.look l c = none) : l ≠ 0 ∧ S.pc.st ≠ 5 ∧ ¬ (S.re = true ∧ S.rc.n = 64) := by
  unfold SB.look at h
  split at h
  · cases h
  · rename_i h0
    split at h
    · cases h
    · split at h
      · cases h
      · rename_i h5
        split at h
        · cases h
        · rename_i h6
          exact ⟨h0, h5, h6⟩

theorem drewN_cell (w : World) (n : Nat) (p : Addr) : (w.drewN n).cell? p = w.cell? p := by
  induction n with
  | zero => rfl
  | succ n ih => exact ih
theorem drewN_frozen (w : World) (n : Nat) (p : Addr) : (w.drewN n).frozen? p = w.frozen? p := by
  induction n with
  | zero => rfl
  | succ n ih => exact ih
theorem drewN_size (w : World) (n : Nat) : (w.drewN n).heap.size = w.heap.size := by
  induction n with
  | zero => rfl
  | succ n ih => exact ih
/-- A journey's cells with others stored, and a bus's cycle beside. -/
theorem jset {w : World} {J : Nat} {l c l2 c2 : Int} {wh : Bool} (o : Obj) (h0 : w.cell? ⟨J, 0, none⟩ = some (.int .i64 l)) (h1 : w.cell? ⟨J, 1, none⟩ = some (.bool wh)) (h2 : w.cell? ⟨J, 2, none⟩ = some (.int .i64 c)) (hf : ∀ o, w.frozen? ⟨J, o, none⟩ = false) (hJ : J < w.heap.size) :
    (((w.setCell ⟨J, 2, none⟩ (.int .i64 c2)).alloc o).cell? ⟨J, 0, none⟩ = some (.int .i64 l) ∧ ((w.setCell ⟨J, 2, none⟩ (.int .i64 c2)).alloc o).cell? ⟨J, 1, none⟩ = some (.bool wh) ∧ ((w.setCell ⟨J, 2, none⟩ (.int .i64 c2)).alloc o).cell? ⟨J, 2, none⟩ = some (.int .i64 c2) ∧ ∀ k, ((w.setCell ⟨J, 2, none⟩ (.int .i64 c2)).alloc o).frozen? ⟨J, k, none⟩ = false) ∧
    ((((w.setCell ⟨J, 2, none⟩ (.int .i64 c2)).setCell ⟨J, 0, none⟩ (.int .i64 l2)).alloc o).cell? ⟨J, 0, none⟩ = some (.int .i64 l2) ∧ (((w.setCell ⟨J, 2, none⟩ (.int .i64 c2)).setCell ⟨J, 0, none⟩ (.int .i64 l2)).alloc o).cell? ⟨J, 1, none⟩ = some (.bool wh) ∧ (((w.setCell ⟨J, 2, none⟩ (.int .i64 c2)).setCell ⟨J, 0, none⟩ (.int .i64 l2)).alloc o).cell? ⟨J, 2, none⟩ = some (.int .i64 c2) ∧ ∀ k, (((w.setCell ⟨J, 2, none⟩ (.int .i64 c2)).setCell ⟨J, 0, none⟩ (.int .i64 l2)).alloc o).frozen? ⟨J, k, none⟩ = false) := by
  have al : ∀ (w : World) (k : Nat), J < w.heap.size → (w.alloc o).cell? ⟨J, k, none⟩ = w.cell? ⟨J, k, none⟩ := fun w k hw => World.cell?_of_block (a := ⟨J, k, none⟩) (Below.heap_alloc _ _ _ hw)
  have af : ∀ (w : World) (k : Nat), J < w.heap.size → (w.alloc o).frozen? ⟨J, k, none⟩ = w.frozen? ⟨J, k, none⟩ := fun w k hw => World.frozen?_of_block (a := ⟨J, k, none⟩) (Below.heap_alloc _ _ _ hw)
  have o1 : ∀ (w : World) (i k : Nat) (v : Value), i ≠ k → (w.setCell ⟨J, i, none⟩ v).cell? ⟨J, k, none⟩ = w.cell? ⟨J, k, none⟩ := fun w i k v h => World.cell?_setCell_other _ _ _ _ (cp_addr _ _ _ h)
  refine ⟨⟨?_, ?_, ?_, fun k => ?_⟩, ?_, ?_, ?_, fun k => ?_⟩
  · rw [al _ _ (by simpa using hJ), o1 _ _ _ _ (by decide)]; exact h0
  · rw [al _ _ (by simpa using hJ), o1 _ _ _ _ (by decide)]; exact h1
  · rw [al _ _ (by simpa using hJ)]; exact World.cell?_setCell_same _ _ _ h2
  · rw [af _ _ (by simpa using hJ), World.frozen?_setCell]; exact hf k
  · rw [al _ _ (by simpa using hJ)]; exact World.cell?_setCell_same _ _ _ ((o1 _ _ _ _ (by decide)).trans h0)
  · rw [al _ _ (by simpa using hJ), o1 _ _ _ _ (by decide), o1 _ _ _ _ (by decide)]; exact h1
  · rw [al _ _ (by simpa using hJ), o1 _ _ _ _ (by decide)]; exact World.cell?_setCell_same _ _ _ h2
  · rw [af _ _ (by simpa using hJ), World.frozen?_setCell, World.frozen?_setCell]; exact hf k

/-- How a journey stands. -/
structure GoW (w0 : World) (B J F : Nat) (N : Int) (wh : Bool) (Gv : SB × List UInt8) (W : World) (S : SB) (s : PC) (l c : Int) (f : Nat) : Prop where
  t : Tn B s w0 W
  v : SV S s
  i : SI S (N + c)
  l0 : 0 ≤ l
  l1 : l ≤ 65535
  c0 : 0 ≤ c
  cf : c + f ≤ F
  lf : ∃ k, Left S.pc k ∧ 10 * l.toNat + k ≤ f
  g : S.go f l wh c = Gv
  j0 : W.cell? ⟨J, 0, none⟩ = some (.int .i64 l)
  j1 : W.cell? ⟨J, 1, none⟩ = some (.bool wh)
  j2 : W.cell? ⟨J, 2, none⟩ = some (.int .i64 c)
  jf : ∀ o, W.frozen? ⟨J, o, none⟩ = false
  jl : J < W.heap.size
theorem GoW.pos {w0 : World} {B J F : Nat} {N : Int} {wh : Bool} {Gv : SB × List UInt8} {W : World} {S : SB} {s : PC} {l c : Int} {f : Nat} (h : GoW w0 B J F N wh Gv W S s l c f) : 0 < f := by
  obtain ⟨k, hk, hf⟩ := h.lf
  cases hk with
  | idle => omega
  | mid n _ h7 _ => omega

set_option maxRecDepth 100000 in
set_option maxHeartbeats 8000000 in
theorem goOn_any {B : Nat} {s : PC} {w0 w : World} {S : SB} {N : Int} (h : Tn B s w0 w) (hS : SV S s) (hI : SI S N) (hN0 : 0 ≤ N) (hN : N < 1000000000000000) (l : Int) (l0 : 0 ≤ l) (l1 : l ≤ 65535) (wh : Bool) :
    Calls Tryz.prog 90 #[.pointer (some ⟨B, 0, none⟩), .agg #[.int .i64 l, .bool wh, .int .i64 0]] w fun e w' => e = .returned (.string ⟨(S.go (10 * l.toNat + 9) l wh 0).2.toArray⟩) ∧
      ∃ s', Tn B s' w0 w' ∧ SV (S.go (10 * l.toNat + 9) l wh 0).1 s' ∧ SI (S.go (10 * l.toNat + 9) l wh 0).1 (N + 1000000) := by
  obtain ⟨Gv, hG⟩ : ∃ Gv, Gv = S.go (10 * l.toNat + 9) l wh 0 := ⟨_, rfl⟩
  have hlt := h.c.lt
  have hsz := h.g.size
  have n0 : w.heap.size ≠ B := by omega
  have m0 : B ≠ w.heap.size := by omega
  have HW : Hid (GoW w0 B w.heap.size (10 * l.toNat + 9) N wh Gv (w.alloc (.cells #[.int .i64 l, .bool wh, .int .i64 0] 146)) S s l 0 (10 * l.toNat + 9)) := by
    obtain ⟨k, hk, h9⟩ := hI.left
    exact ⟨h.alloc _, hS, hI.mono (by omega), l0, l1, by omega, by omega, ⟨k, hk, by omega⟩, hG.symm, World.cell?_alloc_at _ _ _ _ rfl, World.cell?_alloc_at _ _ _ _ rfl, World.cell?_alloc_at _ _ _ _ rfl, fun o => World.frozen?_alloc_at _ _ _ _ rfl, by simp⟩
  rw [← hG]
  have hF : ((10 * l.toNat + 9 : Nat) : Int) ≤ 655359 := by omega
  clear hG h hS hI
  generalize 10 * l.toNat + 9 = F at *
  go_enter Tryz.func90, Tryz.ntmps90
  go_wp2_with fail
  go_loopw [] (fun wr => ∃ (S' : SB) (s' : PC) (l' c' : Int) (f : Nat), GoW w0 B w.heap.size F N wh Gv wr S' s' l' c' f) (fun wr => F - cntOf (wr.cell? ⟨w.heap.size, 2, none⟩))
  case atStart => exact ⟨S, s, l, 0, F, HW.out⟩
  case round =>
    obtain ⟨S', s', l', c', f, hg⟩ := hrel
    have hpos := hg.pos
    have j0 := hg.j0
    have j1 := hg.j1
    have j2 := hg.j2
    have hc0 := hg.c0
    have hcf := hg.cf
    cases hk : S'.look l' c' with
    | some why =>
      have h5 := look_why hk
      have LK := look_any hg.t hg.v l' c' wh why true (by rw [hk]; rfl) (fun e => by cases e)
      have TL := fun w => tell_any w l' c' wh why h5 hg.c0 (by omega)
      have HE : Hid (Gv = (S', tellI why c')) := by show _ = _; rw [← hg.g]; exact go_end hpos hk
      have HGW := hid hg
      clear hg hk HW
      go_wp2_with fail
      refine LK.mono ?_
      rintro e w1 ⟨rfl, hb1⟩
      have hl1 := hb1.size
      have i0 := (hb1.cell (p := ⟨w.heap.size, 0, none⟩) HGW.out.jl).trans j0
      have i1 := (hb1.cell (p := ⟨w.heap.size, 1, none⟩) HGW.out.jl).trans j1
      have i2 := (hb1.cell (p := ⟨w.heap.size, 2, none⟩) HGW.out.jl).trans j2
      have HT1 : Hid (Tn B s' wr w1) := below_thru (Tn.refl HGW.out.t.c) hb1
      clear j0 j1 j2 LK
      go_wp2_with fail
      refine (TL _).mono ?_
      rintro e w2 ⟨rfl, hb2⟩
      have HT2 : Hid (Tn B s' wr w2) := below_thru HT1.out hb2
      clear hb1 hb2 TL i0 i1 i2
      go_wp2
      go_ret
      rw [HE.out]
      exact ⟨rfl, s', HGW.out.t.trans HT2.out, HGW.out.v, HGW.out.i.mono (by omega)⟩
    | none =>
      obtain ⟨ln, h5, h6⟩ := look_none hk
      have LK := look_any hg.t hg.v l' c' wh 0 false (by rw [hk]; rfl) (fun _ => rfl)
      have CY := fun {a w : World} (h : Tn B s' a w) => stCycle_any h hg.v h5 hg.i.wf (fun e => by have := hg.v.rc.n64; have q : ¬ S'.rc.n = 64 := fun q => h6 ⟨e, q⟩; omega)
      have HGW := hid hg
      have HK := hid hk
      have jl := hg.jl
      have l1' := hg.l1
      have l0' := hg.l0
      clear hg hk HW h6
      go_wp2_with fail
      refine LK.mono ?_
      rintro e w1 ⟨rfl, hb1⟩
      have hl1 := hb1.size
      have i0 := (hb1.cell (p := ⟨w.heap.size, 0, none⟩) jl).trans j0
      have i1 := (hb1.cell (p := ⟨w.heap.size, 1, none⟩) jl).trans j1
      have i2 := (hb1.cell (p := ⟨w.heap.size, 2, none⟩) jl).trans j2
      have if_ : ∀ o, w1.frozen? ⟨w.heap.size, o, none⟩ = false := fun o => (hb1.frozen (p := ⟨w.heap.size, o, none⟩) jl).trans (HGW.out.jf o)
      have HT1 : Hid (Tn B s' wr w1) := below_thru (Tn.refl HGW.out.t.c) hb1
      clear j0 j1 j2 LK hb1
      go_wp2_with fail
      refine (CY (Tn.refl HT1.out.c)).mono ?_
      rintro e w2 ⟨rfl, s2, T2, V2⟩
      obtain ⟨o1, o2, o3, o4⟩ := cyc1_ok HGW.out.t.c HGW.out.v HGW.out.i h5 (by omega) T2.c V2
      have K := kept T2
      have hl2 := T2.g.size
      have g0 := (K.1 w.heap.size 0 n0 (by omega)).trans i0
      have g1 := (K.1 w.heap.size 1 n0 (by omega)).trans i1
      have g2 := (K.1 w.heap.size 2 n0 (by omega)).trans i2
      have gf : ∀ o, w2.frozen? ⟨w.heap.size, o, none⟩ = false := fun o => (K.2 w.heap.size o n0 (by omega)).trans (if_ o)
      have HT2 := hid ((HGW.out.t.trans HT1.out).trans T2)
      have HV2 := hid V2
      have HO1 := hid o1
      have HO4 := hid o4
      have HGO : Hid (S'.go f l' wh c' = Gv) := HGW.out.g
      have HMW := fun hw => go_watch (S := S') (l := l') (c := c') (wh := wh) hpos HK.out hw
      have HMM := fun hw => go_more (S := S') (l := l') (c := c') (wh := wh) (f := f - 1) HK.out hw
      rw [show f - 1 + 1 = f from by omega] at HMM
      rw [HGO.out] at HMW HMM
      have jz : w.heap.size ≠ w2.heap.size := by omega
      have jz' : w2.heap.size ≠ w.heap.size := by omega
      have jl2 : w.heap.size < w2.heap.size := by omega
      have hcl := HGW.out.cf
      clear i0 i1 i2 if_ K T2 V2 CY o1 o4
      have HMW2 := hid HMW
      have HMM2 := hid HMM
      clear HMW HMM
      have hlt2 := HT2.out.c.lt
      have bz : w2.heap.size ≠ B := by omega
      have bz' : B ≠ w2.heap.size := by omega
      generalize S'.cyc1 = r at *
      obtain ⟨S2, ba, bd, bw, bf⟩ := r
      simp only [BusI.val]
      cases wh
      · go_wp2_with fail
        have JS := (jset (l2 := l' - 1) (c2 := c' + 1) (.cells #[.int .i64 ba, .int .i64 bd, .bool bw, .bool bf] 43) g0 g1 g2 gf jl2).2
        have T4 : Tn B s2 w0 (((w2.setCell ⟨w.heap.size, 2, none⟩ (.int .i64 (c' + 1))).setCell ⟨w.heap.size, 0, none⟩ (.int .i64 (l' - 1))).alloc (.cells #[.int .i64 ba, .int .i64 bd, .bool bw, .bool bf] 43)) := (((HT2.out.other (b := w.heap.size) (o := 2) n0 (by omega)).other (b := w.heap.size) (o := 0) n0 (by omega)).alloc _)
        have zb : (((w2.setCell ⟨w.heap.size, 2, none⟩ (.int .i64 (c' + 1))).setCell ⟨w.heap.size, 0, none⟩ (.int .i64 (l' - 1))).alloc (.cells #[.int .i64 ba, .int .i64 bd, .bool bw, .bool bf] 43)).cell? ⟨w2.heap.size, 0, none⟩ = some (.int .i64 ba) := World.cell?_alloc_at _ _ _ _ (by simp)
        have zl : w.heap.size < (((w2.setCell ⟨w.heap.size, 2, none⟩ (.int .i64 (c' + 1))).setCell ⟨w.heap.size, 0, none⟩ (.int .i64 (l' - 1))).alloc (.cells #[.int .i64 ba, .int .i64 bd, .bool bw, .bool bf] 43)).heap.size := by simp; omega
        generalize (((w2.setCell ⟨w.heap.size, 2, none⟩ (.int .i64 (c' + 1))).setCell ⟨w.heap.size, 0, none⟩ (.int .i64 (l' - 1))).alloc (.cells #[.int .i64 ba, .int .i64 bd, .bool bw, .bool bf] 43)) = W4 at *
        obtain ⟨k0, k1, k2, kf⟩ := JS
        have HT4 := hid T4
        have PH := fun {a w : World} (h : Tn B s2 a w) => ptHas_any h (by decide) HV2.out.wp ba
        have hwr : IntKind.u16.wrap ba = ba := by rw [IntKind.wrap_u16]; have q1 : 0 ≤ ba := o2; have q2 : ba < 65536 := o3; omega
        clear T4 g0 g1 g2 gf
        cases hh : S2.wp.has ba
        · simp only [hh] at PH
          have HGN := hid (HMM2.out hh)
          clear HMW2 HMM2
          go_quiet (first | (go_at_call 113; (try rw [hwr]); exact Calls.quiet_of (PH (HT4.out.drewN _))))
          go_wp2
          go_roundw
          case rel =>
            refine ⟨S2, s2, (l' - 1), c' + 1, f - 1, ⟨HT4.out.drewN nq, HV2.out, HO1.out.mono (by omega), by omega, by omega, by omega, by omega, ?_, ?_, (drewN_cell _ _ _).trans k0, (drewN_cell _ _ _).trans k1, (drewN_cell _ _ _).trans k2, fun o => (drewN_frozen _ _ _).trans (kf o), by rw [drewN_size]; exact zl⟩⟩
            · obtain ⟨kk, hk1, hk2⟩ := HGW.out.lf
              obtain ⟨k', hk3, hk4, hk5⟩ := HO4.out kk hk1
              exact ⟨k', hk3, by omega⟩
            · rw [HGN.out]
              rw [if_pos (by simp)]
          case measure =>
            rw [drewN_cell, k2, HGW.out.j2]
            simp only [cntOf]
            omega
        · simp only [hh] at PH
          have HE : Hid (Gv = (S2, tellI 2 (c' + 1))) := HMW2.out hh
          have TL := fun w => tell_any w (l' - 1) (c' + 1) false 2 (by decide) (by omega) (by omega)
          clear HMW2 HMM2
          go_quiet (first | (go_at_call 113; (try rw [hwr]); exact Calls.quiet_of (PH (HT4.out.drewN _))))
          have HT5 := hid (HT4.out.drewN nq)
          have k0 := (drewN_cell _ nq _).trans k0
          have k1 := (drewN_cell _ nq _).trans k1
          have k2 := (drewN_cell _ nq _).trans k2
          generalize W4.drewN nq = W5 at *
          go_wp2_with fail
          refine (TL _).mono ?_
          rintro e w6 ⟨rfl, hb6⟩
          have HT6 := hid (below_thru HT5.out hb6)
          clear hb6 TL
          go_wp2
          go_ret
          rw [HE.out]
          exact ⟨rfl, s2, HT6.out, HV2.out, HO1.out.mono (by omega)⟩
      · have BT := fun {a w : World} (h : Tn B s2 a w) => between_any h
        have eb : s2.betw = S2.pc.betw := by rw [HV2.out.core]; rfl
        simp only [eb] at BT
        go_wp2_with fail
        refine (BT ((HT2.out.other (b := w.heap.size) (o := 2) n0 (by omega)).alloc _)).mono ?_
        rintro e w3 ⟨rfl, rfl⟩
        cases hbt : S2.pc.betw
        · clear BT
          go_wp2_with fail
          have JS := (jset (l2 := l' - 1) (c2 := c' + 1) (.cells #[.int .i64 ba, .int .i64 bd, .bool bw, .bool bf] 43) g0 g1 g2 gf jl2).1
          have T4 : Tn B s2 w0 ((w2.setCell ⟨w.heap.size, 2, none⟩ (.int .i64 (c' + 1))).alloc (.cells #[.int .i64 ba, .int .i64 bd, .bool bw, .bool bf] 43)) := ((HT2.out.other (b := w.heap.size) (o := 2) n0 (by omega)).alloc _)
          have zb : ((w2.setCell ⟨w.heap.size, 2, none⟩ (.int .i64 (c' + 1))).alloc (.cells #[.int .i64 ba, .int .i64 bd, .bool bw, .bool bf] 43)).cell? ⟨w2.heap.size, 0, none⟩ = some (.int .i64 ba) := World.cell?_alloc_at _ _ _ _ (by simp)
          have zl : w.heap.size < ((w2.setCell ⟨w.heap.size, 2, none⟩ (.int .i64 (c' + 1))).alloc (.cells #[.int .i64 ba, .int .i64 bd, .bool bw, .bool bf] 43)).heap.size := by simp; omega
          generalize ((w2.setCell ⟨w.heap.size, 2, none⟩ (.int .i64 (c' + 1))).alloc (.cells #[.int .i64 ba, .int .i64 bd, .bool bw, .bool bf] 43)) = W4 at *
          obtain ⟨k0, k1, k2, kf⟩ := JS
          have HT4 := hid T4
          have PH := fun {a w : World} (h : Tn B s2 a w) => ptHas_any h (by decide) HV2.out.wp ba
          have hwr : IntKind.u16.wrap ba = ba := by rw [IntKind.wrap_u16]; have q1 : 0 ≤ ba := o2; have q2 : ba < 65536 := o3; omega
          clear T4 g0 g1 g2 gf
          cases hh : S2.wp.has ba
          · simp only [hh] at PH
            have HGN := hid (HMM2.out hh)
            clear HMW2 HMM2
            go_quiet (first | (go_at_call 113; (try rw [hwr]); exact Calls.quiet_of (PH (HT4.out.drewN _))))
            go_wp2
            go_roundw
            case rel =>
              refine ⟨S2, s2, l', c' + 1, f - 1, ⟨HT4.out.drewN nq, HV2.out, HO1.out.mono (by omega), by omega, by omega, by omega, by omega, ?_, ?_, (drewN_cell _ _ _).trans k0, (drewN_cell _ _ _).trans k1, (drewN_cell _ _ _).trans k2, fun o => (drewN_frozen _ _ _).trans (kf o), by rw [drewN_size]; exact zl⟩⟩
              · obtain ⟨kk, hk1, hk2⟩ := HGW.out.lf
                obtain ⟨k', hk3, hk4, hk5⟩ := HO4.out kk hk1
                exact ⟨k', hk3, by
                  rcases hk5 with q | q
                  · rw [hbt] at q; cases q
                  · omega⟩
              · rw [HGN.out]
                rw [if_neg (by simp [hbt])]
            case measure =>
              rw [drewN_cell, k2, HGW.out.j2]
              simp only [cntOf]
              omega
          · simp only [hh] at PH
            have HE : Hid (Gv = (S2, tellI 2 (c' + 1))) := HMW2.out hh
            have TL := fun w => tell_any w l' (c' + 1) true 2 (by decide) (by omega) (by omega)
            clear HMW2 HMM2
            go_quiet (first | (go_at_call 113; (try rw [hwr]); exact Calls.quiet_of (PH (HT4.out.drewN _))))
            have HT5 := hid (HT4.out.drewN nq)
            have k0 := (drewN_cell _ nq _).trans k0
            have k1 := (drewN_cell _ nq _).trans k1
            have k2 := (drewN_cell _ nq _).trans k2
            generalize W4.drewN nq = W5 at *
            go_wp2_with fail
            refine (TL _).mono ?_
            rintro e w6 ⟨rfl, hb6⟩
            have HT6 := hid (below_thru HT5.out hb6)
            clear hb6 TL
            go_wp2
            go_ret
            rw [HE.out]
            exact ⟨rfl, s2, HT6.out, HV2.out, HO1.out.mono (by omega)⟩
        · clear BT
          go_wp2_with fail
          have JS := (jset (l2 := l' - 1) (c2 := c' + 1) (.cells #[.int .i64 ba, .int .i64 bd, .bool bw, .bool bf] 43) g0 g1 g2 gf jl2).2
          have T4 : Tn B s2 w0 (((w2.setCell ⟨w.heap.size, 2, none⟩ (.int .i64 (c' + 1))).setCell ⟨w.heap.size, 0, none⟩ (.int .i64 (l' - 1))).alloc (.cells #[.int .i64 ba, .int .i64 bd, .bool bw, .bool bf] 43)) := (((HT2.out.other (b := w.heap.size) (o := 2) n0 (by omega)).other (b := w.heap.size) (o := 0) n0 (by omega)).alloc _)
          have zb : (((w2.setCell ⟨w.heap.size, 2, none⟩ (.int .i64 (c' + 1))).setCell ⟨w.heap.size, 0, none⟩ (.int .i64 (l' - 1))).alloc (.cells #[.int .i64 ba, .int .i64 bd, .bool bw, .bool bf] 43)).cell? ⟨w2.heap.size, 0, none⟩ = some (.int .i64 ba) := World.cell?_alloc_at _ _ _ _ (by simp)
          have zl : w.heap.size < (((w2.setCell ⟨w.heap.size, 2, none⟩ (.int .i64 (c' + 1))).setCell ⟨w.heap.size, 0, none⟩ (.int .i64 (l' - 1))).alloc (.cells #[.int .i64 ba, .int .i64 bd, .bool bw, .bool bf] 43)).heap.size := by simp; omega
          generalize (((w2.setCell ⟨w.heap.size, 2, none⟩ (.int .i64 (c' + 1))).setCell ⟨w.heap.size, 0, none⟩ (.int .i64 (l' - 1))).alloc (.cells #[.int .i64 ba, .int .i64 bd, .bool bw, .bool bf] 43)) = W4 at *
          obtain ⟨k0, k1, k2, kf⟩ := JS
          have HT4 := hid T4
          have PH := fun {a w : World} (h : Tn B s2 a w) => ptHas_any h (by decide) HV2.out.wp ba
          have hwr : IntKind.u16.wrap ba = ba := by rw [IntKind.wrap_u16]; have q1 : 0 ≤ ba := o2; have q2 : ba < 65536 := o3; omega
          clear T4 g0 g1 g2 gf
          cases hh : S2.wp.has ba
          · simp only [hh] at PH
            have HGN := hid (HMM2.out hh)
            clear HMW2 HMM2
            go_quiet (first | (go_at_call 113; (try rw [hwr]); exact Calls.quiet_of (PH (HT4.out.drewN _))))
            go_wp2
            go_roundw
            case rel =>
              refine ⟨S2, s2, (l' - 1), c' + 1, f - 1, ⟨HT4.out.drewN nq, HV2.out, HO1.out.mono (by omega), by omega, by omega, by omega, by omega, ?_, ?_, (drewN_cell _ _ _).trans k0, (drewN_cell _ _ _).trans k1, (drewN_cell _ _ _).trans k2, fun o => (drewN_frozen _ _ _).trans (kf o), by rw [drewN_size]; exact zl⟩⟩
              · obtain ⟨kk, hk1, hk2⟩ := HGW.out.lf
                obtain ⟨k', hk3, hk4, hk5⟩ := HO4.out kk hk1
                exact ⟨k', hk3, by omega⟩
              · rw [HGN.out]
                rw [if_pos (.inr hbt)]
            case measure =>
              rw [drewN_cell, k2, HGW.out.j2]
              simp only [cntOf]
              omega
          · simp only [hh] at PH
            have HE : Hid (Gv = (S2, tellI 2 (c' + 1))) := HMW2.out hh
            have TL := fun w => tell_any w (l' - 1) (c' + 1) true 2 (by decide) (by omega) (by omega)
            clear HMW2 HMM2
            go_quiet (first | (go_at_call 113; (try rw [hwr]); exact Calls.quiet_of (PH (HT4.out.drewN _))))
            have HT5 := hid (HT4.out.drewN nq)
            have k0 := (drewN_cell _ nq _).trans k0
            have k1 := (drewN_cell _ nq _).trans k1
            have k2 := (drewN_cell _ nq _).trans k2
            generalize W4.drewN nq = W5 at *
            go_wp2_with fail
            refine (TL _).mono ?_
            rintro e w6 ⟨rfl, hb6⟩
            have HT6 := hid (below_thru HT5.out hb6)
            clear hb6 TL
            go_wp2
            go_ret
            rw [HE.out]
            exact ⟨rfl, s2, HT6.out, HV2.out, HO1.out.mono (by omega)⟩
end

/-
  Memory and records told.
-/
section
def SB.goIns (S : SB) (n : Int) : SB × List UInt8 := if 4095 < n then (S, eT 50) else S.go (10 * n.toNat + 9) n true 0

set_option maxRecDepth 100000 in
set_option maxHeartbeats 2000000 in
theorem goIns_any {B : Nat} {s : PC} {w0 w : World} {S : SB} {N : Int} (h : Tn B s w0 w) (hS : SV S s) (hI : SI S N) (hN0 : 0 ≤ N) (hN : N < 1000000000000000) (n : Int) (n0 : 0 ≤ n) (n1 : n ≤ 65535) :
    Calls Tryz.prog 91 #[.pointer (some ⟨B, 0, none⟩), .int .i64 n] w fun e w' => e = .returned (.string ⟨(S.goIns n).2.toArray⟩) ∧ ∃ s', Tn B s' w0 w' ∧ SV (S.goIns n).1 s' ∧ SI (S.goIns n).1 (N + 1000000) := by
  unfold SB.goIns
  by_cases hc : 4095 < n
  · rw [if_pos hc]
    have HT := hid h
    have HS := hid hS
    have HI := hid (hI.mono (show N ≤ N + 1000000 by omega))
    clear h hS hI
    go_enter Tryz.func91, Tryz.ntmps91
    go_wp2
    go_ret
    exact ⟨rfl, s, HT.out, HS.out, HI.out⟩
  · rw [if_neg hc]
    have GO := goOn_any h hS hI hN0 hN n n0 n1 true
    generalize S.go (10 * n.toNat + 9) n true 0 = G0 at *
    clear h hS hI
    go_enter Tryz.func91, Tryz.ntmps91
    go_wp2_with (first | (go_at_call 90; refine GO.mono ?_; rintro e w1 ⟨rfl, H⟩; have HH := hid H; clear H GO))
    go_ret
    exact ⟨rfl, HH.out⟩

def memText (s : PC) (a : Int) (n : Nat) : List UInt8 := (List.range n).flatMap fun (i : Nat) => hexN (s.peek (a + i)).toNat 2
theorem memText_s (s : PC) (a : Int) (n : Nat) : memText s a (n + 1) = memText s a n ++ hexN (s.peek (a + n)).toNat 2 := by simp [memText, List.range_succ]
theorem memText_len (s : PC) (a : Int) (n : Nat) : (memText s a n).length = 2 * n := by
  induction n with
  | zero => rfl
  | succ n ih => rw [memText_s, List.length_append, ih, hexN_len]; omega
def SB.tellMem (S : SB) (a n : Int) : List UInt8 := if n < 1 ∨ 32 < n then eT 50 else memText S.pc a n.toNat
theorem peek_r {w : World} {B : Nat} {s : PC} (h : CAt w B s) (a : Int) : 0 ≤ s.peek a ∧ s.peek a < 256 := by
  unfold PC.peek
  have h1 : 0 ≤ a % 65536 := by omega
  have h2 : a % 65536 < 65536 := by omega
  have q := h.rmem (a % 65536).toNat (by omega)
  have c := h.rcnt
  unfold PC.look
  split
  · exact c
  · split
    · split <;> omega
    · exact q

set_option maxRecDepth 100000 in
set_option maxHeartbeats 2000000 in
theorem tellMem_any {B : Nat} {s : PC} {w0 w : World} {S : SB} (h : Tn B s w0 w) (hS : SV S s) (a n : Int) (a0 : 0 ≤ a) (a1 : a ≤ 65535) (n0 : 0 ≤ n) (n1 : n ≤ 255) :
    Calls Tryz.prog 87 #[.pointer (some ⟨B, 0, none⟩), .int .i64 a, .int .i64 n] w fun e w' => e = .returned (.string ⟨(S.tellMem a n).toArray⟩) ∧ Below w.heap.size w w' := by
  unfold SB.tellMem
  by_cases hn : n < 1
  · rw [if_pos (.inl hn)]
    clear h hS
    go_enter Tryz.func87, Tryz.ntmps87
    go_wp2
    go_ret
    exact ⟨rfl, Below.refl _ _⟩
  · by_cases hn2 : 32 < n
    · rw [if_pos (.inr hn2)]
      clear h hS
      go_enter Tryz.func87, Tryz.ntmps87
      go_wp2
      go_ret
      exact ⟨rfl, Below.refl _ _⟩
    · rw [if_neg (by omega)]
      obtain ⟨m, rfl⟩ := Int.eq_ofNat_of_zero_le n0
      have ep : ∀ x, s.peek x = S.pc.peek x := fun x => by rw [hS.core]; rfl
      have PR := fun x => peek_r h.c x
      have PK := fun {a w : World} (h : Tn B s a w) (x : Int) => peek_any h x
      simp only [ep] at PK PR
      have HT := hid h
      rw [show ((m : Int)).toNat = m from rfl]
      have hm : m ≤ 32 := by omega
      have hn' : ¬ ((m : Int) < 1) := hn
      clear h hS ep
      generalize S.pc = c at *
      go_enter Tryz.func87, Tryz.ntmps87
      go_wp2_with fail
      go_loopw [7, 16] (fun v i wr => ∃ k : Nat, k ≤ m ∧ i = .int .i64 k ∧ OwnV w.heap.size w wr v (memText c a k)) (fun _ i _ => m - (intOf i).toNat)
      case atStart => exact ⟨0, by omega, rfl, ⟨World.ownsRow_nil _ _ _ _, Below.refl _ _, Nat.le_refl _⟩⟩
      case round =>
        obtain ⟨k, hk, rfl, hO⟩ := hrel
        by_cases hlt : k < m
        · have HO := hid hO
          have HTk := hid (below_thru HT.out hO.2.1)
          have pr := PR (a + k)
          have HS := hid (memText_s c a k)
          have HLn := hid (memText_len c a k)
          clear hO
          generalize memText c a k = L at *
          go_wp2_with (first | (go_at_call 23; refine (PK HTk.out (a + k)).mono ?_; rintro e w1 ⟨rfl, rfl⟩) | (go_at_call 37; refine (appendHexI _ _ _ _ 2 _ _ HO.out (by rw [HLn.out]; omega) pr.1 (by omega) (by omega)).mono ?_; rintro e w2 ⟨v2, rfl, O2⟩; rw [← HS.out] at O2; have HO2 := hid O2; clear O2 HO))
          go_roundw
          case rel => exact ⟨k + 1, by omega, by go_num, HO2.out⟩
          case measure => simp [intOf]; omega
        · have e1 : k = m := by omega
          subst e1
          obtain ⟨g, cap, rfl, o1, o2, o3⟩ := hO.form (by rw [memText_len]; omega)
          have hcv := to_string o1
          have HF : Hid (Below w.heap.size w wr) := o2
          clear hO o1 o2 o3
          go_wp2
          go_ret
          exact ⟨rfl, HF.out⟩

def kindT (b : BusI) : UInt8 := if b.ft = true then 102 else if b.wr = true then 119 else 114
def recText (b : BusI) : List UInt8 := hexN b.addr.toNat 4 ++ hexN b.data.toNat 2 ++ [kindT b]
theorem recText_len (b : BusI) : (recText b).length = 7 := by simp [recText, hexN_len]
end

/-
  Records told.
-/
section
/-- From w to w' the row in b0 alone has turned; v' lies there, or is new. -/
def Grw (w : World) (b0 : Option Nat) (w' : World) (v' : Value) : Prop := w.grownBy w' b0 ∧ (v'.ownBlock = b0 ∨ ∀ k, v'.ownBlock = some k → w.heap.size ≤ k)
theorem Grw.refl (w : World) (v : Value) : Grw w v.ownBlock w v := ⟨cp_refl _ _, .inl rfl⟩
theorem Grw.more {w wr w1 : World} {b0 : Option Nat} {u : Value} {o : Obj} {g n cap : Nat} (h : Grw w b0 wr u) (hg : (wr.alloc o).grownBy w1 u.ownBlock) (ha : u.ownBlock = some g ∨ g = (wr.alloc o).heap.size) : Grw w b0 w1 (.slice (some ⟨g, 0, none⟩) n cap) := by
  obtain ⟨h1, h2⟩ := h
  have hs := h1.size
  refine ⟨⟨hg.os.trans h1.os, hg.tape.trans h1.tape, hg.output.trans h1.output, by have := hg.size; simp at this; omega, fun k hk hne => ?_⟩, ?_⟩
  · have q1 : w1.heap[k]? = (wr.alloc o).heap[k]? := hg.block k (by simp; omega) (fun e => by
      rcases h2 with q | q
      · exact hne (e.trans q)
      · have := q k e.symm; omega)
    rw [q1, Below.heap_alloc _ _ _ (by omega)]
    exact h1.block k hk hne
  · rcases ha with q | q
    · rcases h2 with q2 | q2
      · left; rw [← q2, q]; rfl
      · right; intro k e; exact q2 k (q.trans e)
    · right; intro k e
      have e2 : g = k := by injection e
      subst e2; rw [q]; simp; omega
theorem Grw.cell {w w' : World} {b0 : Option Nat} {v : Value} (h : Grw w b0 w' v) {b o : Nat} (hb : b < w.heap.size) (hne : some b ≠ b0) : w'.cell? ⟨b, o, none⟩ = w.cell? ⟨b, o, none⟩ := World.cell?_of_block (a := ⟨b, o, none⟩) (h.1.block b hb hne)

set_option maxRecDepth 100000 in
set_option maxHeartbeats 1000000 in
theorem appendHexG (base : Nat) (v : Value) (l : List UInt8) (n count : Nat) (w0 w : World) (hv : OwnV base w0 w v l) (hl : l.length ≤ 1000) (hn : n < 9223372036854775808) (hc : count ≤ 16) :
    Calls Tryz.prog 37 #[v, .int .i64 n, .int .i64 count] w fun e w' => ∃ v', e = .returned v' ∧ OwnV base w0 w' v' (l ++ hexN n count) ∧ Grw w v.ownBlock w' v' := by
  have HG0 : Hid (Grw w v.ownBlock w v) := Grw.refl _ _
  obtain ⟨b0, hb0⟩ : ∃ b0, v.ownBlock = b0 := ⟨_, rfl⟩
  rw [hb0] at HG0 ⊢
  clear hb0
  obtain ⟨i0, hi, hz0, hz1, hz2⟩ := info_parts inf_u8
  have HO : Hid (OwnV base w0 w v l) := hv
  clear hv
  go_enter Tryz.func37, Tryz.ntmps37
  go_wp2
  go_loopw [0, 7] (fun t i wr => ∃ (k : Nat) (cur : List UInt8), k ≤ count ∧ i = .int .i64 ((k : Int) - 1) ∧ OwnV base w0 wr t cur ∧ cur ++ hexN n k = l ++ hexN n count ∧ cur.length ≤ 1016 - k ∧ Grw w b0 wr t) (fun _ i _ => (intOf i + 1).toNat)
  case atStart => exact ⟨count, l, Nat.le_refl _, by go_num, HO.out, rfl, by omega, HG0.out⟩
  case round =>
    obtain ⟨k, cur, hk, rfl, hO, hcur, hcl, hG⟩ := hrel
    clear HO HG0
    have HG := hid hG
    clear hG
    obtain ⟨hown, hbel, hsz⟩ := hO
    cases k with
    | zero =>
      have HF : Hid (OwnV base w0 wr u0 (l ++ hexN n count)) := by
        have e : cur = l ++ hexN n count := by rw [← hcur]; simp [hexN]
        subst e; exact ⟨hown, hbel, hsz⟩
      clear hown hbel hsz hcur
      go_wp2
      go_ret
      exact ⟨_, rfl, HF.out, HG.out⟩
    | succ j =>
      have hcur' : Hid ((cur ++ [hexd (n / 2 ^ (4 * j) % 16)]) ++ hexN n j = l ++ hexN n count) := by show _ = _; rw [← hcur]; simp [hexN]
      clear hcur
      have ej : ((j + 1 : Nat) : Int) - 1 = (j : Int) := by omega
      rw [ej]
      have HD : Hid (bits .and .i64 ((n : Int) / 2 ^ (4 * j)) 15 = ((n / 2 ^ (4 * j) % 16 : Nat) : Int)) := dig_n n j hn
      have a0 : 0 ≤ bits .and .i64 ((n : Int) / 2 ^ (4 * j)) 15 := by rw [HD.out]; omega
      have a1 : bits .and .i64 ((n : Int) / 2 ^ (4 * j)) 15 < 16 := by rw [HD.out]; omega
      go_wp2_with (first | (at_builtin; go_must (refine wpList_append_lies _ rfl (.tmp 14) (.tmp 21) 22 rfl base 5 i0 (.int .u8 0) 1 1 und_bytes hi hz0 hz1 hz2 rfl (by decide) u0 cur.length (vals cur) rfl (by exact (hown.alloc _)) ⟨wr.heap.size, 0, none⟩ 1 1 [.int .u8 (hexd (n / 2 ^ (4 * j) % 16)).toNat] rfl rfl (one_new2 _ _ _ (dig_v _ _ HD.out _) _) (one_one _) (by decide) (by unfold maxLen; omega) (by omega) (by simp; omega) _ rfl ?_; intro g' cap' w1 hown' hgrow hat hlt')))
      have HG2 := hid (HG.out.more (n := cur.length + 1) (cap := cap') hgrow hat)
      have HO := ownV_more (m := [hexd (n / 2 ^ (4 * j) % 16)]) hown hbel hsz hown' hgrow
      clear hown hbel hsz hown' hgrow hat hlt'
      go_roundw
      case rel => exact ⟨j, cur ++ [hexd (n / 2 ^ (4 * j) % 16)], by omega, by go_num, HO, hcur'.out, by simp; omega, HG2.out⟩
      case measure => simp [intOf]

theorem appendHexH (base : Nat) (v : Value) (l : List UInt8) (n : Int) (count : Nat) (w0 w : World) (hv : OwnV base w0 w v l) (hl : l.length ≤ 1000) (h0 : 0 ≤ n) (hn : n < 9223372036854775808) (hc : count ≤ 16) :
    Calls Tryz.prog 37 #[v, .int .i64 n, .int .i64 count] w fun e w' => ∃ v', e = .returned v' ∧ OwnV base w0 w' v' (l ++ hexN n.toNat count) ∧ Grw w v.ownBlock w' v' := by
  obtain ⟨m, rfl⟩ := Int.eq_ofNat_of_zero_le h0
  exact appendHexG base v l m count w0 w hv hl (by omega) hc

set_option maxRecDepth 100000 in
set_option maxHeartbeats 2000000 in
theorem appendRec_any (base : Nat) (v : Value) (l : List UInt8) (b : BusI) (w0 w : World) (hv : OwnV base w0 w v l) (hl : l.length ≤ 800) (a0 : 0 ≤ b.addr) (a1 : b.addr < 65536) (d0 : 0 ≤ b.data) (d1 : b.data < 256) :
    Calls Tryz.prog 84 #[v, b.val] w fun e w' => ∃ v', e = .returned v' ∧ OwnV base w0 w' v' (l ++ recText b) := by
  obtain ⟨i0, hi, hz0, hz1, hz2⟩ := info_parts inf_u8
  obtain ⟨ba, bd, bw, bf⟩ := b
  have hsz := hv.2.2
  have hw1 := hv.1
  have HO : Hid (OwnV base w0 (w.alloc (.cells #[.int .i64 ba, .int .i64 bd, .bool bw, .bool bf] 43)) v l) := ⟨hv.1.alloc _, hv.2.1.alloc hsz _, by simp; omega⟩
  have a0 : 0 ≤ ba := a0
  have a1 : ba < 65536 := a1
  have d0 : 0 ≤ bd := d0
  have d1 : bd < 256 := d1
  unfold BusI.val
  clear hv
  go_enter Tryz.func84, Tryz.ntmps84
  have hQ : some w.heap.size ≠ v.ownBlock := fun e => by have := (hw1.lt _ e.symm).2; omega
  go_wp2_with fail
  refine (appendHexH _ _ _ _ 4 _ _ HO.out (by omega) a0 (by omega) (by omega)).mono ?_
  rintro e w2 ⟨v2, rfl, O2, G2⟩
  have c1 : w2.cell? ⟨w.heap.size, 1, none⟩ = some (.int .i64 bd) := (G2.cell (by simp) hQ).trans (World.cell?_alloc_at _ _ _ _ rfl)
  have c2 : w2.cell? ⟨w.heap.size, 2, none⟩ = some (.bool bw) := (G2.cell (by simp) hQ).trans (World.cell?_alloc_at _ _ _ _ rfl)
  have c3 : w2.cell? ⟨w.heap.size, 3, none⟩ = some (.bool bf) := (G2.cell (by simp) hQ).trans (World.cell?_alloc_at _ _ _ _ rfl)
  have s2 : w.heap.size < w2.heap.size := by have := G2.1.size; simp at this; omega
  have hQ2 : some w.heap.size ≠ v2.ownBlock := fun e => by
    rcases G2.2 with q | q
    · exact hQ (e.trans q)
    · have := q _ e.symm; simp at this; omega
  have HO2 := hid O2
  clear O2 G2 HO
  go_wp2_with fail
  refine (appendHexH _ _ _ _ 2 _ _ HO2.out (by simp [hexN_len]; omega) d0 (by omega) (by omega)).mono ?_
  rintro e w3 ⟨v3, rfl, O3, G3⟩
  have c2 := (G3.cell (o := 2) s2 hQ2).trans c2
  have c3 := (G3.cell (o := 3) s2 hQ2).trans c3
  have hl3 : (l ++ hexN ba.toNat 4 ++ hexN bd.toNat 2).length ≤ 806 := by simp [hexN_len]; omega
  obtain ⟨L, HL⟩ : ∃ L, Hid (l ++ recText ⟨ba, bd, bw, bf⟩ = L ++ [kindT ⟨ba, bd, bw, bf⟩]) ∧ l ++ hexN ba.toNat 4 ++ hexN bd.toNat 2 = L := ⟨_, by show _ = _; simp [recText], rfl⟩
  obtain ⟨HL, hLe⟩ := HL
  rw [hLe] at O3 hl3
  have HO3 := hid O3
  have hs3 := O3.2.2
  clear O3 G3 HO2 c1 hLe
  cases bf
  · cases bw
    · go_wp2_with (first | (at_builtin; go_must (refine wpList_append_lies _ rfl (.tmp 25) (.tmp 26) 22 rfl base 5 i0 (.int .u8 0) 1 1 und_bytes hi hz0 hz1 hz2 rfl (by decide) v3 L.length (vals L) rfl (by exact (HO3.out.1.alloc _)) ⟨w3.heap.size, 0, none⟩ 1 1 [.int .u8 114] rfl rfl (one_new' _ _ _) (one_one _) (by decide) (by unfold maxLen; omega) (by omega) (by simp; omega) _ rfl ?_; intro g' cap' w4 hown' hgrow hat hlt'; have HF := hid (ownV_more (m := [114]) HO3.out.1 HO3.out.2.1 HO3.out.2.2 hown' hgrow); clear hown' hgrow hat hlt')))
      go_ret
      rw [HL.out]
      exact ⟨_, rfl, by simpa [kindT] using HF.out⟩
    · go_wp2_with (first | (at_builtin; go_must (refine wpList_append_lies _ rfl (.tmp 22) (.tmp 23) 22 rfl base 5 i0 (.int .u8 0) 1 1 und_bytes hi hz0 hz1 hz2 rfl (by decide) v3 L.length (vals L) rfl (by exact (HO3.out.1.alloc _)) ⟨w3.heap.size, 0, none⟩ 1 1 [.int .u8 119] rfl rfl (one_new' _ _ _) (one_one _) (by decide) (by unfold maxLen; omega) (by omega) (by simp; omega) _ rfl ?_; intro g' cap' w4 hown' hgrow hat hlt'; have HF := hid (ownV_more (m := [119]) HO3.out.1 HO3.out.2.1 HO3.out.2.2 hown' hgrow); clear hown' hgrow hat hlt')))
      go_ret
      rw [HL.out]
      exact ⟨_, rfl, by simpa [kindT] using HF.out⟩
  · go_wp2_with (first | (at_builtin; go_must (refine wpList_append_lies _ rfl (.tmp 16) (.tmp 17) 22 rfl base 5 i0 (.int .u8 0) 1 1 und_bytes hi hz0 hz1 hz2 rfl (by decide) v3 L.length (vals L) rfl (by exact (HO3.out.1.alloc _)) ⟨w3.heap.size, 0, none⟩ 1 1 [.int .u8 102] rfl rfl (one_new' _ _ _) (one_one _) (by decide) (by unfold maxLen; omega) (by omega) (by simp; omega) _ rfl ?_; intro g' cap' w4 hown' hgrow hat hlt'; have HF := hid (ownV_more (m := [102]) HO3.out.1 HO3.out.2.1 HO3.out.2.2 hown' hgrow); clear hown' hgrow hat hlt')))
    go_ret
    rw [HL.out]
    exact ⟨_, rfl, by simpa [kindT] using HF.out⟩
end

/-
  Records taken and told.
-/
section
theorem Tn.base {w0 w w' : World} {B N : Nat} {s : PC} (h : Tn B s w0 w) (hb : Below N w w') (hB : B < N) (h0 : w0.heap.size ≤ N) : Tn B s w0 w' :=
  ⟨h.c.same (hb.block B hB), ⟨hb.os.trans h.g.os, hb.tape.trans h.g.tape, hb.output.trans h.g.output, Nat.le_trans h.g.size hb.size, fun k hk hne => (hb.block k (by omega)).trans (h.g.block k hk hne)⟩⟩
theorem own_kept {w w' : World} {base B n : Nat} {v : Value} {xs : List Value} (h : w.ownsRow base 5 1 v n xs) (g : w.grownBy w' (some B)) (hB : B < base) : w'.ownsRow base 5 1 v n xs := by
  refine h.kept g ?_
  cases hv : v.ownBlock with
  | none => exact .inl rfl
  | some k =>
    refine .inr ?_
    have h1 := (h.lt k hv).1
    intro e; injection e with e; omega

theorem own_parts {w : World} {base n : Nat} {v : Value} {l : List UInt8} (h : w.ownsRow base 5 1 v n (vals l)) (hn : l.length = n) : (l = [] ∧ v = .slice none 0 0) ∨ ∃ g c, v = .slice (some ⟨g, 0, none⟩) l.length c := by
  rcases h.2 with ⟨e, e2⟩ | ⟨g, cap, _, e, _⟩
  · exact .inl ⟨List.eq_nil_of_length_eq_zero (by omega), e⟩
  · exact .inr ⟨g, cap, by rw [hn]; exact e⟩

theorem to_string_s {w : World} {base : Nat} {v : Value} {l : List UInt8} (h : w.ownsRow base 5 1 v l.length (vals l)) :
    (convert 22 9 v).run Tryz.prog w = .ok (.string ⟨l.toArray⟩) w := by
  rcases own_parts h rfl with ⟨rfl, rfl⟩ | ⟨g, c, rfl⟩
  · exact run_convert_bytes_nil (P := Tryz.prog) w 22 5 und_bytes und_u8 0 0 9 und_str
  · exact to_string h

/-- The first k records: what is left, and what they tell. -/
def Rcs.takes (r : Rcs) : Nat → Rcs × List UInt8
  | 0 => (r, [])
  | k + 1 => ((r.takes k).1.take, (r.takes k).2 ++ recText ((r.takes k).1.ring (r.takes k).1.first))
theorem takes_n (r : Rcs) (k : Nat) : (r.takes k).1.n = r.n - k := by
  induction k with
  | zero => rfl
  | succ k ih => show (r.takes k).1.n - 1 = _; omega
theorem takes_ring (r : Rcs) (k : Nat) : (r.takes k).1.ring = r.ring := by
  induction k with
  | zero => rfl
  | succ k ih => exact ih
theorem takes_len (r : Rcs) (k : Nat) : (r.takes k).2.length = 7 * k := by
  induction k with
  | zero => rfl
  | succ k ih => show ((r.takes k).2 ++ _).length = _; rw [List.length_append, ih, recText_len]; omega
def SB.takeRecs (S : SB) : SB × List UInt8 := ({ S with rc := (S.rc.takes (min S.rc.n 8)).1 }, (S.rc.takes (min S.rc.n 8)).2)
theorem SI.takeRecs {S : SB} {N : Int} (h : SI S N) : SI S.takeRecs.1 N := ⟨h.tr, h.c0, h.c1, fun i => by show 0 ≤ ((S.rc.takes _).1.ring i).addr ∧ _; unfold SB.takeRecs; simp only [takes_ring]; exact h.rr i⟩

set_option maxRecDepth 100000 in
set_option maxHeartbeats 2000000 in
theorem takeRecs_any {B : Nat} {s : PC} {w0 w : World} {S : SB} {N : Int} (h : Tn B s w0 w) (hS : SV S s) (hI : SI S N) :
    Calls Tryz.prog 50 #[.pointer (some ⟨B, 0, none⟩)] w fun e w' => e = .returned (.string ⟨(S.takeRecs).2.toArray⟩) ∧ ∃ s', Tn B s' w0 w' ∧ SV S.takeRecs.1 s' := by
  unfold SB.takeRecs
  have hlt := h.c.lt
  have hsz := h.g.size
  have c1 : w.cell? ⟨B, 66080, none⟩ = some (.int .i64 (S.rc.n : Int)) := h.rest (by decide) hS.rc.cn
  have hm8 : min S.rc.n 8 ≤ 8 := Nat.min_le_right _ _
  have hmn : min S.rc.n 8 ≤ S.rc.n := Nat.min_le_left _ _
  have emin : min (S.rc.n : Int) 8 = ((min S.rc.n 8 : Nat) : Int) := by omega
  have HR := hid hI.rr
  have HT := hid h
  have HS := hid hS
  clear h hS hI
  by_cases hc8 : (S.rc.n : Int) < 8
  · generalize min S.rc.n 8 = m at *
    go_enter Tryz.func50, Tryz.ntmps50
    go_wp2_with fail
    go_loopw [3, 10] (fun v i wr => ∃ (k : Nat) (t : PC), k ≤ m ∧ i = .int .i64 k ∧ Tn B t w0 wr ∧ SV { S with rc := (S.rc.takes k).1 } t ∧ w.heap.size ≤ wr.heap.size ∧ wr.ownsRow w.heap.size 5 1 v (S.rc.takes k).2.length (vals (S.rc.takes k).2)) (fun _ i _ => m - (intOf i).toNat)
    case atStart => exact ⟨0, s, by omega, rfl, HT.out, HS.out, Nat.le_refl _, World.ownsRow_nil _ _ _ _⟩
    case round =>
      obtain ⟨k, t, hk, rfl, hT, hV, hs, hO⟩ := hrel
      by_cases hlt1 : k < m
      · have TK := fun {a w : World} (h : Tn B t a w) => rcTake_any h (by decide) hV.rc (by show 0 < (S.rc.takes k).1.n; rw [takes_n]; omega)
        have HV2 : Hid (SV { S with rc := (S.rc.takes (k + 1)).1 } (rcTakeR t 65823 (S.rc.takes k).1)) := hV.rcs (rcTake_O _ _ _) (rcTake_R hV.rc (by show 0 < (S.rc.takes k).1.n; rw [takes_n]; omega))
        have hl : (S.rc.takes k).2.length ≤ 800 := by rw [takes_len]; omega
        have b : 0 ≤ ((S.rc.takes k).1.ring (S.rc.takes k).1.first).addr ∧ ((S.rc.takes k).1.ring (S.rc.takes k).1.first).addr < 65536 ∧ 0 ≤ ((S.rc.takes k).1.ring (S.rc.takes k).1.first).data ∧ ((S.rc.takes k).1.ring (S.rc.takes k).1.first).data < 256 := by rw [takes_ring]; exact HR.out _
        have HTk := hid hT
        have HO := hid hO
        have E2 : Hid ((S.rc.takes (k + 1)).2 = (S.rc.takes k).2 ++ recText ((S.rc.takes k).1.ring (S.rc.takes k).1.first)) := rfl
        clear hT hV hO
        go_wp2_with fail
        refine (TK (Tn.refl HTk.out.c)).mono ?_
        rintro e w1 ⟨rfl, T1⟩
        have h1 := T1.g.size
        have HO1 : Hid (OwnV w.heap.size w1 w1 u3 (S.rc.takes k).2) := ⟨own_kept HO.out T1.g hlt, Below.refl _ _, by omega⟩
        have HT1 := hid (HTk.out.trans T1)
        clear TK T1
        go_wp2_with fail
        refine (appendRec_any _ _ _ _ _ _ HO1.out hl b.1 b.2.1 b.2.2.1 b.2.2.2).mono ?_
        rintro e w2 ⟨v2, rfl, O2⟩
        rw [← E2.out] at O2
        have HO2 := hid O2
        have HT2 := hid (HT1.out.base O2.2.1 hlt hsz)
        clear O2 HO1
        go_wp2
        go_roundw
        case rel => exact ⟨k + 1, _, by omega, by go_num, HT2.out, HV2.out, HO2.out.2.2, HO2.out.1⟩
        case measure => simp [intOf]; omega
      · have e1 : k = m := by omega
        subst e1
        have hcv := to_string_s hO
        have HTk := hid hT
        have HV := hid hV
        clear hO hT hV
        go_wp2
        go_ret
        exact ⟨rfl, t, HTk.out, HV.out⟩
  · by_cases hc9 : (8 : Int) < S.rc.n
    · generalize min S.rc.n 8 = m at *
      go_enter Tryz.func50, Tryz.ntmps50
      go_wp2_with fail
      go_loopw [3, 10] (fun v i wr => ∃ (k : Nat) (t : PC), k ≤ m ∧ i = .int .i64 k ∧ Tn B t w0 wr ∧ SV { S with rc := (S.rc.takes k).1 } t ∧ w.heap.size ≤ wr.heap.size ∧ wr.ownsRow w.heap.size 5 1 v (S.rc.takes k).2.length (vals (S.rc.takes k).2)) (fun _ i _ => m - (intOf i).toNat)
      case atStart => exact ⟨0, s, by omega, rfl, HT.out, HS.out, Nat.le_refl _, World.ownsRow_nil _ _ _ _⟩
      case round =>
        obtain ⟨k, t, hk, rfl, hT, hV, hs, hO⟩ := hrel
        by_cases hlt1 : k < m
        · have TK := fun {a w : World} (h : Tn B t a w) => rcTake_any h (by decide) hV.rc (by show 0 < (S.rc.takes k).1.n; rw [takes_n]; omega)
          have HV2 : Hid (SV { S with rc := (S.rc.takes (k + 1)).1 } (rcTakeR t 65823 (S.rc.takes k).1)) := hV.rcs (rcTake_O _ _ _) (rcTake_R hV.rc (by show 0 < (S.rc.takes k).1.n; rw [takes_n]; omega))
          have hl : (S.rc.takes k).2.length ≤ 800 := by rw [takes_len]; omega
          have b : 0 ≤ ((S.rc.takes k).1.ring (S.rc.takes k).1.first).addr ∧ ((S.rc.takes k).1.ring (S.rc.takes k).1.first).addr < 65536 ∧ 0 ≤ ((S.rc.takes k).1.ring (S.rc.takes k).1.first).data ∧ ((S.rc.takes k).1.ring (S.rc.takes k).1.first).data < 256 := by rw [takes_ring]; exact HR.out _
          have HTk := hid hT
          have HO := hid hO
          have E2 : Hid ((S.rc.takes (k + 1)).2 = (S.rc.takes k).2 ++ recText ((S.rc.takes k).1.ring (S.rc.takes k).1.first)) := rfl
          clear hT hV hO
          go_wp2_with fail
          refine (TK (Tn.refl HTk.out.c)).mono ?_
          rintro e w1 ⟨rfl, T1⟩
          have h1 := T1.g.size
          have HO1 : Hid (OwnV w.heap.size w1 w1 u3 (S.rc.takes k).2) := ⟨own_kept HO.out T1.g hlt, Below.refl _ _, by omega⟩
          have HT1 := hid (HTk.out.trans T1)
          clear TK T1
          go_wp2_with fail
          refine (appendRec_any _ _ _ _ _ _ HO1.out hl b.1 b.2.1 b.2.2.1 b.2.2.2).mono ?_
          rintro e w2 ⟨v2, rfl, O2⟩
          rw [← E2.out] at O2
          have HO2 := hid O2
          have HT2 := hid (HT1.out.base O2.2.1 hlt hsz)
          clear O2 HO1
          go_wp2
          go_roundw
          case rel => exact ⟨k + 1, _, by omega, by go_num, HT2.out, HV2.out, HO2.out.2.2, HO2.out.1⟩
          case measure => simp [intOf]; omega
        · have e1 : k = m := by omega
          subst e1
          have hcv := to_string_s hO
          have HTk := hid hT
          have HV := hid hV
          clear hO hT hV
          go_wp2
          go_ret
          exact ⟨rfl, t, HTk.out, HV.out⟩
    · have hc10 : (S.rc.n : Int) = 8 := by omega
      generalize min S.rc.n 8 = m at *
      go_enter Tryz.func50, Tryz.ntmps50
      go_wp2_with fail
      go_loopw [3, 10] (fun v i wr => ∃ (k : Nat) (t : PC), k ≤ m ∧ i = .int .i64 k ∧ Tn B t w0 wr ∧ SV { S with rc := (S.rc.takes k).1 } t ∧ w.heap.size ≤ wr.heap.size ∧ wr.ownsRow w.heap.size 5 1 v (S.rc.takes k).2.length (vals (S.rc.takes k).2)) (fun _ i _ => m - (intOf i).toNat)
      case atStart => exact ⟨0, s, by omega, rfl, HT.out, HS.out, Nat.le_refl _, World.ownsRow_nil _ _ _ _⟩
      case round =>
        obtain ⟨k, t, hk, rfl, hT, hV, hs, hO⟩ := hrel
        by_cases hlt1 : k < m
        · have TK := fun {a w : World} (h : Tn B t a w) => rcTake_any h (by decide) hV.rc (by show 0 < (S.rc.takes k).1.n; rw [takes_n]; omega)
          have HV2 : Hid (SV { S with rc := (S.rc.takes (k + 1)).1 } (rcTakeR t 65823 (S.rc.takes k).1)) := hV.rcs (rcTake_O _ _ _) (rcTake_R hV.rc (by show 0 < (S.rc.takes k).1.n; rw [takes_n]; omega))
          have hl : (S.rc.takes k).2.length ≤ 800 := by rw [takes_len]; omega
          have b : 0 ≤ ((S.rc.takes k).1.ring (S.rc.takes k).1.first).addr ∧ ((S.rc.takes k).1.ring (S.rc.takes k).1.first).addr < 65536 ∧ 0 ≤ ((S.rc.takes k).1.ring (S.rc.takes k).1.first).data ∧ ((S.rc.takes k).1.ring (S.rc.takes k).1.first).data < 256 := by rw [takes_ring]; exact HR.out _
          have HTk := hid hT
          have HO := hid hO
          have E2 : Hid ((S.rc.takes (k + 1)).2 = (S.rc.takes k).2 ++ recText ((S.rc.takes k).1.ring (S.rc.takes k).1.first)) := rfl
          clear hT hV hO
          go_wp2_with fail
          refine (TK (Tn.refl HTk.out.c)).mono ?_
          rintro e w1 ⟨rfl, T1⟩
          have h1 := T1.g.size
          have HO1 : Hid (OwnV w.heap.size w1 w1 u3 (S.rc.takes k).2) := ⟨own_kept HO.out T1.g hlt, Below.refl _ _, by omega⟩
          have HT1 := hid (HTk.out.trans T1)
          clear TK T1
          go_wp2_with fail
          refine (appendRec_any _ _ _ _ _ _ HO1.out hl b.1 b.2.1 b.2.2.1 b.2.2.2).mono ?_
          rintro e w2 ⟨v2, rfl, O2⟩
          rw [← E2.out] at O2
          have HO2 := hid O2
          have HT2 := hid (HT1.out.base O2.2.1 hlt hsz)
          clear O2 HO1
          go_wp2
          go_roundw
          case rel => exact ⟨k + 1, _, by omega, by go_num, HT2.out, HV2.out, HO2.out.2.2, HO2.out.1⟩
          case measure => simp [intOf]; omega
        · have e1 : k = m := by omega
          subst e1
          have hcv := to_string_s hO
          have HTk := hid hT
          have HV := hid hV
          clear hO hT hV
          go_wp2
          go_ret
          exact ⟨rfl, t, HTk.out, HV.out⟩
end

end Go.Proofs.YtcgjliflnnklnabGreat
