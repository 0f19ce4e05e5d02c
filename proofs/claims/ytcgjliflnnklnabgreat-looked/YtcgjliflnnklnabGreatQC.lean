/-
  Joined texts.
-/
import Derived.Test.YtcgjliflnnklnabGreatQN
import Derived.Test.YtcgjliflnnklnabGreatCpRb
import Derived.Deep.QuietTactic
import Derived.BigQuiet
namespace Go.Proofs.YtcgjliflnnklnabGreat
open Go.RowKit

/-
  Points walked.
-/
section
theorem slice4 (B P n : Nat) (h : n ≤ 4) (w : World) : Sem.run Tryz.prog (Instr.sliceAt 73 (.pointer (some ⟨B, P, none⟩)) none (some (.int .i64 (n : Int))) none) w = .ok (.slice (some ⟨B, P, none⟩) n 4) w := by
  have hal : Tryz.prog.arrayLen 73 = 4 := by kernel_rfl
  have hel : Tryz.prog.elem 73 = 59 := by kernel_rfl
  rw [run_sliceAt_array_h (P := Tryz.prog) w 73 ⟨B, P, none⟩ (by rw [hal, hel]; exact Tryz.underlying73) .i64 (n : Int) (by omega) (by rw [hal]; omega), hal, hel]
  simp [sizeOf, go_sem, slicedAt, Addr.add]

set_option maxRecDepth 100000 in
set_option maxHeartbeats 1000000 in
theorem ptFind_any {B P : Nat} {s : PC} {w0 w : World} {p : Pts} (h : Tn B s w0 w) (hP : 65562 ≤ P) (hp : PtsR s.rest P p) (a : Int) :
    Calls Tryz.prog 114 #[.pointer (some ⟨B, P, none⟩), .int .u16 a] w fun e w' => e = .returned (.int .i64 (fInt (p.find a))) ∧ ∃ n, w' = w.drewN n := by
  have c4 : w.cell? ⟨B, P + 4, none⟩ = some (.int .i64 (p.n : Int)) := h.rest (by omega) hp.cn
  have ca : ∀ i, i < 4 → w.cell? ⟨B, P + i, none⟩ = some (.int .u16 (p.at_ i)) := fun i hi => h.rest (by omega) (hp.ca i hi)
  have n4 := hp.n4
  have IX := fun w' (hw : ∀ i, i < 4 → w'.cell? ⟨B, P + i, none⟩ = some (.int .u16 (p.at_ i))) => index_any w' B P p.n 4 p.at_ a (fun i hi => hw i (by omega)) n4
  have SL := slice4 B P p.n n4
  clear h hp
  unfold Pts.find
  go_enter Tryz.func114, Tryz.ntmps114
  go_wp2_with fail
  go_quiet (first | (go_at_call 123; exact Calls.quiet_of_same (IX _ ca)))
  go_wp2
  go_ret
  exact ⟨rfl, _, rfl⟩

theorem has_eq (p : Pts) (a : Int) : decide (0 ≤ fInt (p.find a)) = p.has a := by
  unfold Pts.has
  cases p.find a with
  | none => rfl
  | some i => simp [fInt]

set_option maxRecDepth 100000 in
set_option maxHeartbeats 1000000 in
theorem ptHas_any {B P : Nat} {s : PC} {w0 w : World} {p : Pts} (h : Tn B s w0 w) (hP : 65562 ≤ P) (hp : PtsR s.rest P p) (a : Int) :
    Calls Tryz.prog 113 #[.pointer (some ⟨B, P, none⟩), .int .u16 a] w fun e w' => e = .returned (.bool (p.has a)) ∧ ∃ n, w' = w.drewN n := by
  have F := ptFind_any h hP hp a
  rw [← has_eq]
  generalize fInt (p.find a) = r at *
  clear h hp
  go_enter Tryz.func113, Tryz.ntmps113
  go_wp2_with fail
  refine F.mono ?_
  rintro e w1 ⟨rfl, n, rfl⟩
  go_wp2
  go_ret
  exact ⟨rfl, _, rfl⟩

def ptAddR (s : PC) (P : Nat) (p : Pts) (a : Int) : PC :=
  if p.has a = true ∨ p.n = 4 then s else (s.put (P + p.n) (.int .u16 a)).put (P + 4) (.int .i64 ((p.n : Int) + 1))
theorem ptAdd_R {s : PC} {P : Nat} {p : Pts} (hp : PtsR s.rest P p) (a : Int) : PtsR (ptAddR s P p a).rest P (p.add a).1 := by
  unfold ptAddR Pts.add
  by_cases h1 : p.has a = true
  · rw [if_pos h1, if_pos (.inl h1)]; exact hp
  · rw [if_neg h1]
    by_cases h2 : p.n = 4
    · rw [if_pos h2, if_pos (.inr h2)]; exact hp
    · rw [if_neg h2, if_neg (by simp [h1, h2])]
      have := hp.n4
      refine ⟨by show p.n + 1 ≤ 4; omega, put_same _ _ _, fun i hi => ?_⟩
      rw [put_other _ _ _ _ (by omega)]
      by_cases e : i = p.n
      · subst e; rw [put_same]; simp
      · rw [put_other _ _ _ _ (by omega), hp.ca i hi]; simp [e]

set_option maxRecDepth 100000 in
set_option maxHeartbeats 1000000 in
theorem ptAdd_any {B P : Nat} {s : PC} {w0 w : World} {p : Pts} (h : Tn B s w0 w) (hP : 65562 ≤ P) (hp : PtsR s.rest P p) (a : Int) :
    Calls Tryz.prog 88 #[.pointer (some ⟨B, P, none⟩), .int .u16 a] w fun e w' => e = .returned (.string ⟨(p.add a).2.toArray⟩) ∧ Tn B (ptAddR s P p a) w0 w' := by
  have c4 : w.cell? ⟨B, P + 4, none⟩ = some (.int .i64 (p.n : Int)) := h.rest (by omega) hp.cn
  have F := ptHas_any h hP hp a
  have fz := h.c.free
  have n4 := hp.n4
  unfold ptAddR Pts.add
  by_cases h1 : p.has a = true
  · rw [if_pos h1, if_pos (.inl h1)]
    rw [h1] at F
    have HT := hid h
    clear h hp c4
    go_enter Tryz.func88, Tryz.ntmps88
    go_wp2_with (first | (refine F.mono ?_; rintro e w1 ⟨rfl, n, rfl⟩))
    go_ret
    exact ⟨rfl, HT.out.drewN n⟩
  · rw [if_neg h1]
    have h1' : p.has a = false := by simpa using h1
    rw [h1'] at F
    by_cases h2 : p.n = 4
    · rw [if_pos h2, if_pos (.inr h2)]
      rw [h2] at c4
      have HT := hid h
      clear h hp h1 h1'
      go_enter Tryz.func88, Tryz.ntmps88
      go_wp2_with (first | (refine F.mono ?_; rintro e w1 ⟨rfl, n, rfl⟩))
      go_ret
      exact ⟨rfl, HT.out.drewN n⟩
    · rw [if_neg h2, if_neg (by simp [h1, h2])]
      have cx : w.cell? ⟨B, P + p.n, none⟩ = some (.int .u16 (p.at_ p.n)) := h.rest (by omega) (hp.ca p.n (by omega))
      have HT := hid h
      have HP := hid hp
      have n5 : (p.n : Int) < 4 := by omega
      have n6 : ¬ (p.n : Int) = 4 := by omega
      have n7 : p.n < 4 := by omega
      clear h hp h1 h1'
      go_enter Tryz.func88, Tryz.ntmps88
      go_wp2_with (first | (refine F.mono ?_; rintro e w1 ⟨rfl, n, rfl⟩; have HT2 := hid (HT.out.drewN n); generalize w.drewN n = w2 at *; clear cx c4 fz; have c4 := HT2.out.rest (by omega) HP.out.cn; have cx := HT2.out.rest (by omega) (HP.out.ca p.n n7); have fz := HT2.out.c.free))
      go_region
      go_wp2
      go_ret
      refine ⟨rfl, Tn.put (Tn.put HT2.out.drew _ _ _ (by omega) (HP.out.ca p.n n7)) _ _ (.int .i64 (p.n : Int)) (by omega) ?_⟩
      rw [put_other _ _ _ _ (by omega)]
      exact HP.out.cn

def ptRemR (s : PC) (P : Nat) (p : Pts) (a : Int) : PC := match p.find a with
  | none => s
  | some i => (s.put (P + 4) (.int .i64 ((p.n : Int) - 1))).put (P + i) (.int .u16 (p.at_ (p.n - 1)))
theorem ptRem_R {s : PC} {P : Nat} {p : Pts} (hp : PtsR s.rest P p) (a : Int) : PtsR (ptRemR s P p a).rest P (p.remove a).1 := by
  unfold ptRemR Pts.remove
  cases h : p.find a with
  | none => exact hp
  | some i =>
    have hi := findG_lt _ _ _ _ _ h
    have := hp.n4
    refine ⟨by show p.n - 1 ≤ 4; omega, ?_, fun k hk => ?_⟩
    · rw [put_other _ _ _ _ (by omega), put_same, show ((p.n : Int) - 1) = ((p.n - 1 : Nat) : Int) from by omega]
    · by_cases e : k = i
      · subst e; rw [put_same]; simp
      · rw [put_other _ _ _ _ (by omega), put_other _ _ _ _ (by omega), hp.ca k hk]; simp [e]

set_option maxRecDepth 100000 in
set_option maxHeartbeats 1000000 in
theorem ptRem_any {B P : Nat} {s : PC} {w0 w : World} {p : Pts} (h : Tn B s w0 w) (hP : 65562 ≤ P) (hp : PtsR s.rest P p) (a : Int) :
    Calls Tryz.prog 89 #[.pointer (some ⟨B, P, none⟩), .int .u16 a] w fun e w' => e = .returned (.string ⟨(p.remove a).2.toArray⟩) ∧ Tn B (ptRemR s P p a) w0 w' := by
  have F := ptFind_any h hP hp a
  unfold ptRemR Pts.remove
  have HT := hid h
  have HP := hid hp
  cases hf : p.find a with
  | none =>
    rw [hf] at F
    clear h hp hf
    go_enter Tryz.func89, Tryz.ntmps89
    go_wp2_with (first | (refine F.mono ?_; rintro e w1 ⟨rfl, n, rfl⟩; simp only [fInt]))
    go_ret
    exact ⟨rfl, HT.out.drewN n⟩
  | some i =>
    rw [hf] at F
    obtain ⟨-, hi⟩ := findG_lt _ _ _ _ _ hf
    have n4 := hp.n4
    have hn1 : ((p.n : Int) - 1) = ((p.n - 1 : Nat) : Int) := by omega
    have k1 : p.n - 1 < 4 := by omega
    have k2 : i < 4 := by omega
    have k3 : ¬ ((i : Int) < 0) := by omega
    clear h hp hf
    have i0 : i ≠ 4 := by omega
    go_enter Tryz.func89, Tryz.ntmps89
    go_wp2_with (first | (refine F.mono ?_; rintro e w1 ⟨rfl, n, rfl⟩; simp only [fInt]; have HT2 := hid (HT.out.drewN n); generalize w.drewN n = w2 at *; have c4 := HT2.out.rest (by omega) HP.out.cn; have cx := HT2.out.rest (by omega) (HP.out.ca i k2); have cy := HT2.out.rest (by omega) (HP.out.ca (p.n - 1) k1); have fz := HT2.out.c.free))
    go_region
    go_wp2
    go_ret
    rw [hn1]
    refine ⟨rfl, Tn.put (Tn.put HT2.out _ _ _ (by omega) HP.out.cn).drew _ _ (.int .u16 (p.at_ i)) (by omega) ?_⟩
    rw [put_other _ _ _ _ (by omega)]
    exact HP.out.ca i k2
end

/-
  Records walked.
-/
section
/-- Records, as plain data. -/
structure Rcs where
  ring : Nat → BusI
  first : Nat
  n : Nat
def Rcs.put (r : Rcs) (b : BusI) : Rcs := ⟨fun k => if k = (r.first + r.n) % 64 then b else r.ring k, r.first, r.n + 1⟩
def Rcs.take (r : Rcs) : Rcs := ⟨r.ring, (r.first + 1) % 64, r.n - 1⟩
/-- A record lies at o. -/
structure BusR (R : Nat → Option Value) (o : Nat) (b : BusI) : Prop where
  c0 : R o = some (.int .i64 b.addr)
  c1 : R (o + 1) = some (.int .i64 b.data)
  c2 : R (o + 2) = some (.bool b.wr)
  c3 : R (o + 3) = some (.bool b.ft)
/-- They lie at P. -/
structure RcsR (R : Nat → Option Value) (P : Nat) (r : Rcs) : Prop where
  f64 : r.first < 64
  n64 : r.n ≤ 64
  cf : R (P + 256) = some (.int .i64 (r.first : Int))
  cn : R (P + 257) = some (.int .i64 (r.n : Int))
  ca : ∀ i, i < 64 → BusR R (P + i * 4) (r.ring i)

def putBus (s : PC) (o : Nat) (b : BusI) : PC := (((s.put o (.int .i64 b.addr)).put (o + 1) (.int .i64 b.data)).put (o + 2) (.bool b.wr)).put (o + 3) (.bool b.ft)
theorem putBus_same (s : PC) (o : Nat) (b : BusI) : BusR (putBus s o b).rest o b := by
  unfold putBus
  refine ⟨?_, ?_, ?_, put_same _ _ _⟩
  · rw [put_other _ _ _ _ (by omega), put_other _ _ _ _ (by omega), put_other _ _ _ _ (by omega), put_same]
  · rw [put_other _ _ _ _ (by omega), put_other _ _ _ _ (by omega), put_same]
  · rw [put_other _ _ _ _ (by omega), put_same]
theorem putBus_other (s : PC) (o k : Nat) (b : BusI) (h : k < o ∨ o + 4 ≤ k) : (putBus s o b).rest k = s.rest k := by
  unfold putBus
  rw [put_other _ _ _ _ (by omega), put_other _ _ _ _ (by omega), put_other _ _ _ _ (by omega), put_other _ _ _ _ (by omega)]
def rcPutR (s : PC) (P : Nat) (r : Rcs) (b : BusI) : PC := (putBus s (P + (r.first + r.n) % 64 * 4) b).put (P + 257) (.int .i64 ((r.n : Int) + 1))
theorem rcPut_R {s : PC} {P : Nat} {r : Rcs} (h : RcsR s.rest P r) (hn : r.n < 64) (b : BusI) : RcsR (rcPutR s P r b).rest P (r.put b) := by
  have hm : (r.first + r.n) % 64 < 64 := Nat.mod_lt _ (by decide)
  refine ⟨h.f64, hn, ?_, put_same _ _ _, fun i hi => ?_⟩
  · unfold rcPutR
    rw [put_other _ _ _ _ (by omega), putBus_other _ _ _ _ (by omega)]; exact h.cf
  · unfold Rcs.put rcPutR
    by_cases e : i = (r.first + r.n) % 64
    · have q := putBus_same s (P + i * 4) b
      simp only [if_pos e]
      rw [← e]
      exact ⟨by rw [put_other _ _ _ _ (by omega)]; exact q.c0, by rw [put_other _ _ _ _ (by omega)]; exact q.c1, by rw [put_other _ _ _ _ (by omega)]; exact q.c2, by rw [put_other _ _ _ _ (by omega)]; exact q.c3⟩
    · have q := h.ca i hi
      simp only [if_neg e]
      have o : ∀ j, j < 4 → ((putBus s (P + (r.first + r.n) % 64 * 4) b).put (P + 257) (.int .i64 ((r.n : Int) + 1))).rest (P + i * 4 + j) = s.rest (P + i * 4 + j) := fun j hj => by
        rw [put_other _ _ _ _ (by omega), putBus_other _ _ _ _ (by omega)]
      exact ⟨(o 0 (by decide)).trans q.c0, (o 1 (by decide)).trans q.c1, (o 2 (by decide)).trans q.c2, (o 3 (by decide)).trans q.c3⟩

theorem Tn.putBus {w0 w : World} {B : Nat} {s : PC} {b0 : BusI} (h : Tn B s w0 w) (o : Nat) (b : BusI) (ho : 65562 ≤ o) (h0 : BusR s.rest o b0) :
    Tn B (putBus s o b) w0 ((((w.setCell ⟨B, o, none⟩ (.int .i64 b.addr)).setCell ⟨B, o + 1, none⟩ (.int .i64 b.data)).setCell ⟨B, o + 2, none⟩ (.bool b.wr)).setCell ⟨B, o + 3, none⟩ (.bool b.ft)) := by
  unfold Go.Proofs.YtcgjliflnnklnabGreat.putBus
  refine Tn.put (Tn.put (Tn.put (Tn.put h o _ _ ho h0.c0) (o + 1) _ (.int .i64 b0.data) (by omega) ?_) (o + 2) _ (.bool b0.wr) (by omega) ?_) (o + 3) _ (.bool b0.ft) (by omega) ?_
  · rw [put_other _ _ _ _ (by omega)]; exact h0.c1
  · rw [put_other _ _ _ _ (by omega), put_other _ _ _ _ (by omega)]; exact h0.c2
  · rw [put_other _ _ _ _ (by omega), put_other _ _ _ _ (by omega), put_other _ _ _ _ (by omega)]; exact h0.c3

set_option maxRecDepth 100000 in
set_option maxHeartbeats 1000000 in
theorem rcFull_any {B P : Nat} {s : PC} {w0 w : World} {r : Rcs} (h : Tn B s w0 w) (hP : 65562 ≤ P) (hp : RcsR s.rest P r) :
    Calls Tryz.prog 125 #[.pointer (some ⟨B, P, none⟩)] w fun e w' => e = .returned (.bool (r.n == 64)) ∧ w' = w := by
  have c4 : w.cell? ⟨B, P + 257, none⟩ = some (.int .i64 (r.n : Int)) := h.rest (by omega) hp.cn
  have e : (r.n == 64) = ((r.n : Int) == 64) := by rw [Bool.eq_iff_iff]; simp; omega
  rw [e]
  clear h hp
  go_enter Tryz.func125, Tryz.ntmps125
  go_wp2
  go_ret
  exact ⟨rfl, rfl⟩

set_option maxRecDepth 100000 in
set_option maxHeartbeats 1000000 in
theorem rcPut_any {B P : Nat} {s : PC} {w0 w : World} {r : Rcs} (h : Tn B s w0 w) (hP : 65562 ≤ P) (hp : RcsR s.rest P r) (hn : r.n < 64) (b : BusI) :
    Calls Tryz.prog 126 #[.pointer (some ⟨B, P, none⟩), b.val] w fun e w' => e = .returned (.tuple #[]) ∧ Tn B (rcPutR s P r b) w0 w' := by
  have hlt := h.c.lt
  have n0 : w.heap.size ≠ B := by omega
  have m0 : B ≠ w.heap.size := by omega
  have HT := hid h
  have HP := hid hp
  have fz := h.c.free
  have c1 : w.cell? ⟨B, P + 256, none⟩ = some (.int .i64 (r.first : Int)) := h.rest (by omega) hp.cf
  have c2 : w.cell? ⟨B, P + 257, none⟩ = some (.int .i64 (r.n : Int)) := h.rest (by omega) hp.cn
  have hm : (r.first + r.n) % 64 < 64 := Nat.mod_lt _ (by decide)
  have q := hp.ca _ hm
  have c3 := h.rest (by omega) q.c0
  have c4 := h.rest (by omega) q.c1
  have c5 := h.rest (by omega) q.c2
  have c6 := h.rest (by omega) q.c3
  have f64 := hp.f64
  have em : ((r.first : Int) + (r.n : Int)).tmod 64 = (((r.first + r.n) % 64 : Nat) : Int) := by rw [Int.tmod_eq_emod_of_nonneg (by omega)]; omega
  unfold rcPutR
  clear h hp q
  unfold BusI.val
  go_enter Tryz.func126, Tryz.ntmps126
  go_wp2
  go_region
  go_wp2
  go_end0
  refine ⟨rfl, Tn.drew (Tn.alloc (Tn.put (Tn.putBus HT.out _ b (by omega) (HP.out.ca _ hm)) _ _ (.int .i64 (r.n : Int)) (by omega) ?_) _)⟩
  rw [putBus_other _ _ _ _ (by omega)]
  exact HP.out.cn

def rcTakeR (s : PC) (P : Nat) (r : Rcs) : PC := (s.put (P + 256) (.int .i64 (((r.first + 1) % 64 : Nat) : Int))).put (P + 257) (.int .i64 ((r.n : Int) - 1))
theorem rcTake_R {s : PC} {P : Nat} {r : Rcs} (h : RcsR s.rest P r) (hn : 0 < r.n) : RcsR (rcTakeR s P r).rest P r.take := by
  have h64 := h.n64
  have o : ∀ k, k < P + 256 → (rcTakeR s P r).rest k = s.rest k := fun k hk => by
    unfold rcTakeR
    rw [put_other _ _ _ _ (by omega), put_other _ _ _ _ (by omega)]
  refine ⟨Nat.mod_lt _ (by decide), by show r.n - 1 ≤ 64; omega, ?_, ?_, fun i hi => ?_⟩
  · unfold rcTakeR
    rw [put_other _ _ _ _ (by omega), put_same]; rfl
  · unfold rcTakeR
    rw [put_same, show ((r.n : Int) - 1) = ((r.n - 1 : Nat) : Int) from by omega]; rfl
  · have q := h.ca i hi
    exact ⟨(o _ (by omega)).trans q.c0, (o _ (by omega)).trans q.c1, (o _ (by omega)).trans q.c2, (o _ (by omega)).trans q.c3⟩

set_option maxRecDepth 100000 in
set_option maxHeartbeats 1000000 in
theorem rcTake_any {B P : Nat} {s : PC} {w0 w : World} {r : Rcs} (h : Tn B s w0 w) (hP : 65562 ≤ P) (hp : RcsR s.rest P r) (hn : 0 < r.n) :
    Calls Tryz.prog 85 #[.pointer (some ⟨B, P, none⟩)] w fun e w' => e = .returned (r.ring r.first).val ∧ Tn B (rcTakeR s P r) w0 w' := by
  have hlt := h.c.lt
  have hsz := h.g.size
  have n0 : w.heap.size ≠ B := by omega
  have m0 : B ≠ w.heap.size := by omega
  have n1 : w.heap.size + 1 ≠ B := by omega
  have m1 : B ≠ w.heap.size + 1 := by omega
  have HT := hid h
  have HP := hid hp
  have fz := h.c.free
  have c1 : w.cell? ⟨B, P + 256, none⟩ = some (.int .i64 (r.first : Int)) := h.rest (by omega) hp.cf
  have c2 : w.cell? ⟨B, P + 257, none⟩ = some (.int .i64 (r.n : Int)) := h.rest (by omega) hp.cn
  have q := hp.ca _ hp.f64
  have c3 := h.rest (by omega) q.c0
  have c4 := h.rest (by omega) q.c1
  have c5 := h.rest (by omega) q.c2
  have c6 := h.rest (by omega) q.c3
  have f64 := hp.f64
  have em : ((r.first : Int) + 1).tmod 64 = (((r.first + 1) % 64 : Nat) : Int) := by rw [Int.tmod_eq_emod_of_nonneg (by omega)]; omega
  unfold rcTakeR
  clear h hp q
  have n64 := HP.out.n64
  unfold BusI.val
  go_enter Tryz.func85, Tryz.ntmps85
  go_wp2
  go_region
  go_wp2
  have e2 : ((r.first : Int) + 1) % 64 = (((r.first + 1) % 64 : Nat) : Int) := by omega
  rw [← e2]
  refine bodyPost_ret (v := (r.ring r.first).val) (by simp [results, Tryz.results85, go_sem, BusI.val]) rfl (And.intro rfl ?_)
  refine Tn.drew (Tn.alloc (Tn.alloc (Tn.put (Tn.put HT.out _ _ _ (by omega) HP.out.cf) _ _ (.int .i64 (r.n : Int)) (by omega) ?_) _) _)
  rw [put_other _ _ _ _ (by omega)]
  exact HP.out.cn
end

end Go.Proofs.YtcgjliflnnklnabGreat
