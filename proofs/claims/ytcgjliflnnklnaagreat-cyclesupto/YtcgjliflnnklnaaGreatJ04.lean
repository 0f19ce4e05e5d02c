/-
  Joined texts.
-/
import Derived.Test.YtcgjliflnnklnaaGreatJ03
import Derived.Test.YtcgjliflnnklnaaGreatJ10
import Derived.Test.YtcgjliflnnklnaaGreatJ02
import Derived.Test.YtcgjliflnnklnaaGreatCpEz
import Derived.Test.YtcgjliflnnklnaaGreatCpFz
namespace Go.Proofs.YtcgjliflnnklnaaGreat
open Go.RowKit

/-
  The document's computer, walked: kinds, changes, sums.
-/
section
set_option maxRecDepth 100000
set_option maxHeartbeats 1000000

theorem ba_beq (a b : BA) : (a == b) = decide (a = b) := by
  cases a with
  | mk a => cases b with
    | mk b =>
      show (a == b) = _
      by_cases h : a = b
      · subst h; simp
      · rw [beq_eq_false_iff_ne.2 h, eq_comm, decide_eq_false_iff_not]
        intro e
        exact h (congrArg ByteArray.data e)
theorem tl_inj {a b : BA} (h : ByteArray.toList a = ByteArray.toList b) : a = b := by
  rw [Go.ByteArray.toList_eq, Go.ByteArray.toList_eq] at h
  cases a; cases b; exact congrArg ByteArray.mk (Array.ext' h)
theorem tl_no {a b : BA} (h : a ≠ b) : (ByteArray.toList a == ByteArray.toList b) = false := beq_eq_false_iff_ne.2 fun e => h (tl_inj e)
/-- Strings, as they lie. -/
def StrsAt (w : World) (b : Nat) (l : List BA) : Prop := ∀ i, (h : i < l.length) → w.cell? ⟨b, i, none⟩ = some (.string l[i])

theorem ramong (b cap n : Nat) (l : List BA) (x : BA) (w : World) (hn : l.length = n) (hl : n ≤ 100) (h : StrsAt w b l) :
    Calls Tryz.prog 151 #[.slice (some ⟨b, 0, none⟩) n cap, .string x] w fun e w' => e = .returned (.bool (l.any fun s => decide (s = x))) ∧ w' = w := by
  subst hn
  have HS : Hid (StrsAt w b l) := h
  clear h
  go_enter Tryz.func151, Tryz.ntmps151
  go_wp2_with fail
  go_loopw [5] (fun i wr => ∃ k : Nat, k ≤ l.length ∧ i = .int .i64 k ∧ (∀ j, (hj : j < k) → (hl : j < l.length) → l[j] ≠ x) ∧ wr = w) (fun i _ => l.length - (intOf i).toNat)
  case atStart => exact ⟨0, by omega, rfl, fun j hj => by omega, rfl⟩
  case round =>
    obtain ⟨k, hk, rfl, hno, rfl⟩ := hrel
    by_cases hlt : k < l.length
    · have c := HS.out k hlt
      have HNo : Hid (∀ j, (hj : j < k) → (hl : j < l.length) → l[j] ≠ x) := hno
      have hk1 : (k : Int) < (l.length : Int) := by omega
      clear hno
      obtain ⟨y, hy⟩ : ∃ y, l[k] = y := ⟨_, rfl⟩
      rw [hy] at c
      by_cases hx : y = x
      · subst hx
        go_wp2
        go_ret
        refine ⟨?_, rfl⟩
        rw [show (l.any fun s => decide (s = y)) = true from List.any_eq_true.2 ⟨l[k], List.getElem_mem _, by rw [hy]; simp⟩]
        rfl
      · have HY : Hid (l[k] ≠ x) := by rw [hy]; exact hx
        have hx2 := tl_no hx
        go_wp2
        go_roundw
        case rel => exact ⟨k + 1, by omega, by go_num, fun j hj hl => by
          rcases Nat.lt_succ_iff_lt_or_eq.1 hj with h | rfl
          · exact HNo.out j h hl
          · exact HY.out, trivial⟩
        case measure => simp [intOf]; omega
    · have e1 : k = l.length := by omega
      subst e1
      have HNo : Hid ((l.any fun s => decide (s = x)) = false) := by
        show _ = _
        rw [List.any_eq_false]
        intro s hs
        obtain ⟨j, hj, rfl⟩ := List.mem_iff_getElem.1 hs
        simpa using hno j hj hj
      clear hno
      go_wp2
      go_ret
      exact ⟨by rw [HNo.out]; rfl, rfl⟩

theorem strs_new (w : World) (l : List BA) (t : TypeId) : StrsAt (w.alloc (.cells (l.map Value.string).toArray t)) w.heap.size l := by
  intro i hi
  exact (World.cell?_alloc_at _ _ _ _ rfl).trans (by rw [List.getElem?_toArray, List.getElem?_map, List.getElem?_eq_getElem hi]; rfl)
def lW : List BA := [b3 83 84 65, b3 83 84 88, b3 83 84 89]
def lC : List BA := [b3 65 83 76, b3 76 83 82, b3 82 79 76, b3 82 79 82, b3 73 78 67, b3 68 69 67]
theorem isW_any (op : BA) : isW op = lW.any fun s => decide (s = op) := by
  unfold isW lW
  simp only [ba_beq, List.any_cons, List.any_nil, Bool.or_false, Bool.or_assoc, eq_comm (a := op)]
theorem isC_any (op : BA) : isC op = lC.any fun s => decide (s = op) := by
  unfold isC lC
  simp only [ba_beq, List.any_cons, List.any_nil, Bool.or_false, Bool.or_assoc, eq_comm (a := op)]

theorem rkind (op md : BA) (w : World) :
    Calls Tryz.prog 157 #[cdV op md] w fun e w' => e = .returned (.int .u8 (kindR op)) ∧ ∃ o1 o2 o3, w' = ((w.alloc o1).alloc o2).alloc o3 := by
  unfold cdV kindR
  rw [isW_any, isC_any]
  have A1 : ∀ (w : World) (t : TypeId) (b : Nat), b = w.heap.size → Calls Tryz.prog 151 #[.slice (some ⟨b, 0, none⟩) 3 3, .string op] (w.alloc (.cells #[.string ⟨#[83, 84, 65]⟩, .string ⟨#[83, 84, 88]⟩, .string ⟨#[83, 84, 89]⟩] t)) fun e w' => e = .returned (.bool (lW.any fun s => decide (s = op))) ∧ w' = w.alloc (.cells #[.string ⟨#[83, 84, 65]⟩, .string ⟨#[83, 84, 88]⟩, .string ⟨#[83, 84, 89]⟩] t) := fun w t b hb => by subst hb; exact ramong w.heap.size 3 3 lW op _ rfl (by decide) (strs_new w lW t)
  have A2 : ∀ (w : World) (t : TypeId) (b : Nat), b = w.heap.size → Calls Tryz.prog 151 #[.slice (some ⟨b, 0, none⟩) 6 6, .string op] (w.alloc (.cells #[.string ⟨#[65, 83, 76]⟩, .string ⟨#[76, 83, 82]⟩, .string ⟨#[82, 79, 76]⟩, .string ⟨#[82, 79, 82]⟩, .string ⟨#[73, 78, 67]⟩, .string ⟨#[68, 69, 67]⟩] t)) fun e w' => e = .returned (.bool (lC.any fun s => decide (s = op))) ∧ w' = w.alloc (.cells #[.string ⟨#[65, 83, 76]⟩, .string ⟨#[76, 83, 82]⟩, .string ⟨#[82, 79, 76]⟩, .string ⟨#[82, 79, 82]⟩, .string ⟨#[73, 78, 67]⟩, .string ⟨#[68, 69, 67]⟩] t) := fun w t b hb => by subst hb; exact ramong w.heap.size 6 6 lC op _ rfl (by decide) (strs_new w lC t)
  generalize (lW.any fun s => decide (s = op)) = x at *
  generalize (lC.any fun s => decide (s = op)) = y at *
  go_enter Tryz.func157, Tryz.ntmps157
  go_wp2_with fail
  with_reducible refine (A1 _ _ _ (by simp)).mono ?_
  rintro e w1 ⟨rfl, hw⟩
  subst hw
  go_wp2_with fail
  with_reducible refine (A2 _ _ _ (by simp)).mono ?_
  rintro e w1 ⟨rfl, hw⟩
  subst hw
  cases x <;> cases y
  all_goals
    go_wp2
    go_ret
    exact ⟨rfl, _, _, _, rfl⟩
end

/-
  The document's computer, walked: changes.
-/
section
set_option maxRecDepth 100000
set_option maxHeartbeats 1000000

theorem ch_asl (b p : Int) : changedR (b3 65 83 76) b p = (b * 2 % 256, nzR (carryR p (decide (127 < b))) (b * 2 % 256)) := rfl
theorem ch_rol (b p : Int) : changedR (b3 82 79 76) b p = (b * 2 % 256 + i64and p 1, nzR (carryR p (decide (127 < b))) (b * 2 % 256 + i64and p 1)) := rfl
theorem ch_lsr (b p : Int) : changedR (b3 76 83 82) b p = (b / 2, nzR (carryR p (b % 2 == 1)) (b / 2)) := rfl
theorem ch_ror (b p : Int) : changedR (b3 82 79 82) b p = (b / 2 + 128 * i64and p 1, nzR (carryR p (b % 2 == 1)) (b / 2 + 128 * i64and p 1)) := rfl
theorem ch_inc (b p : Int) : changedR (b3 73 78 67) b p = ((b + 1) % 256, nzR p ((b + 1) % 256)) := rfl
theorem ch_dec (b p : Int) : changedR (b3 68 69 67) b p = ((b - 1) % 256, nzR p ((b - 1) % 256)) := rfl
/-- What a change hands back. -/
def chV (q : Int × Int) : Value := .tuple #[.int .i64 q.1, .int .i64 q.2]
theorem and1_r (p : Int) (h0 : 0 ≤ p) (h1 : p < 256) : 0 ≤ i64and p 1 ∧ i64and p 1 ≤ 1 := by
  unfold i64and
  obtain ⟨n, rfl⟩ : ∃ n : Nat, p = n := ⟨p.toNat, by omega⟩
  have q := andi_nat n 1 (by omega) (by decide)
  rw [show ((1 : Nat) : Int) = 1 from rfl] at q
  rw [q, Nat.and_one_is_mod]
  omega

theorem chw_asl (b p : Int) (b0 : 0 ≤ b) (b1 : b < 256) (p0 : 0 ≤ p) (p1 : p < 256) (w : World) :
    Calls Tryz.prog 156 #[.string (b3 65 83 76), .int .i64 b, .int .i64 p] w fun e w' => e = .returned (chV (changedR (b3 65 83 76) b p)) ∧ w' = w := by
  rw [ch_asl]
  unfold chV b3
  have e1 : (b * 2).tmod 256 = b * 2 % 256 := Int.tmod_eq_emod_of_nonneg (by omega)
  have e2 : b.tmod 2 = b % 2 := Int.tmod_eq_emod_of_nonneg (by omega)
  have e3 : b.tdiv 2 = b / 2 := Int.tdiv_eq_ediv_of_nonneg (by omega)
  obtain ⟨a0, a1⟩ := and1_r p p0 p1
  unfold i64and at *
  generalize hA : bits .and .i64 p 1 = A at *
  go_enter Tryz.func156, Tryz.ntmps156
  go_wp2_with (first | (go_at_call 197; refine (rcarry _ _ _).mono ?_; rintro e w1 ⟨rfl, rfl⟩) | (go_at_call 196; refine (rnz _ _ _).mono ?_; rintro e w1 ⟨rfl, rfl⟩) | (go_at_call 91; refine (rcut8 _ _).mono ?_; rintro e w1 ⟨rfl, rfl⟩))
  go_ret2
  exact ⟨rfl, rfl⟩
theorem chw_rol (b p : Int) (b0 : 0 ≤ b) (b1 : b < 256) (p0 : 0 ≤ p) (p1 : p < 256) (w : World) :
    Calls Tryz.prog 156 #[.string (b3 82 79 76), .int .i64 b, .int .i64 p] w fun e w' => e = .returned (chV (changedR (b3 82 79 76) b p)) ∧ w' = w := by
  rw [ch_rol]
  unfold chV b3
  have e1 : (b * 2).tmod 256 = b * 2 % 256 := Int.tmod_eq_emod_of_nonneg (by omega)
  have e2 : b.tmod 2 = b % 2 := Int.tmod_eq_emod_of_nonneg (by omega)
  have e3 : b.tdiv 2 = b / 2 := Int.tdiv_eq_ediv_of_nonneg (by omega)
  obtain ⟨a0, a1⟩ := and1_r p p0 p1
  unfold i64and at *
  generalize hA : bits .and .i64 p 1 = A at *
  go_enter Tryz.func156, Tryz.ntmps156
  go_wp2_with (first | (go_at_call 197; refine (rcarry _ _ _).mono ?_; rintro e w1 ⟨rfl, rfl⟩) | (go_at_call 196; refine (rnz _ _ _).mono ?_; rintro e w1 ⟨rfl, rfl⟩) | (go_at_call 91; refine (rcut8 _ _).mono ?_; rintro e w1 ⟨rfl, rfl⟩))
  go_ret2
  exact ⟨rfl, rfl⟩
theorem chw_lsr (b p : Int) (b0 : 0 ≤ b) (b1 : b < 256) (p0 : 0 ≤ p) (p1 : p < 256) (w : World) :
    Calls Tryz.prog 156 #[.string (b3 76 83 82), .int .i64 b, .int .i64 p] w fun e w' => e = .returned (chV (changedR (b3 76 83 82) b p)) ∧ w' = w := by
  rw [ch_lsr]
  unfold chV b3
  have e1 : (b * 2).tmod 256 = b * 2 % 256 := Int.tmod_eq_emod_of_nonneg (by omega)
  have e2 : b.tmod 2 = b % 2 := Int.tmod_eq_emod_of_nonneg (by omega)
  have e3 : b.tdiv 2 = b / 2 := Int.tdiv_eq_ediv_of_nonneg (by omega)
  obtain ⟨a0, a1⟩ := and1_r p p0 p1
  unfold i64and at *
  generalize hA : bits .and .i64 p 1 = A at *
  go_enter Tryz.func156, Tryz.ntmps156
  go_wp2_with (first | (go_at_call 197; refine (rcarry _ _ _).mono ?_; rintro e w1 ⟨rfl, rfl⟩) | (go_at_call 196; refine (rnz _ _ _).mono ?_; rintro e w1 ⟨rfl, rfl⟩) | (go_at_call 91; refine (rcut8 _ _).mono ?_; rintro e w1 ⟨rfl, rfl⟩))
  go_ret2
  exact ⟨rfl, rfl⟩
theorem chw_ror (b p : Int) (b0 : 0 ≤ b) (b1 : b < 256) (p0 : 0 ≤ p) (p1 : p < 256) (w : World) :
    Calls Tryz.prog 156 #[.string (b3 82 79 82), .int .i64 b, .int .i64 p] w fun e w' => e = .returned (chV (changedR (b3 82 79 82) b p)) ∧ w' = w := by
  rw [ch_ror]
  unfold chV b3
  have e1 : (b * 2).tmod 256 = b * 2 % 256 := Int.tmod_eq_emod_of_nonneg (by omega)
  have e2 : b.tmod 2 = b % 2 := Int.tmod_eq_emod_of_nonneg (by omega)
  have e3 : b.tdiv 2 = b / 2 := Int.tdiv_eq_ediv_of_nonneg (by omega)
  obtain ⟨a0, a1⟩ := and1_r p p0 p1
  unfold i64and at *
  generalize hA : bits .and .i64 p 1 = A at *
  go_enter Tryz.func156, Tryz.ntmps156
  go_wp2_with (first | (go_at_call 197; refine (rcarry _ _ _).mono ?_; rintro e w1 ⟨rfl, rfl⟩) | (go_at_call 196; refine (rnz _ _ _).mono ?_; rintro e w1 ⟨rfl, rfl⟩) | (go_at_call 91; refine (rcut8 _ _).mono ?_; rintro e w1 ⟨rfl, rfl⟩))
  go_ret2
  exact ⟨rfl, rfl⟩
theorem chw_inc (b p : Int) (b0 : 0 ≤ b) (b1 : b < 256) (p0 : 0 ≤ p) (p1 : p < 256) (w : World) :
    Calls Tryz.prog 156 #[.string (b3 73 78 67), .int .i64 b, .int .i64 p] w fun e w' => e = .returned (chV (changedR (b3 73 78 67) b p)) ∧ w' = w := by
  rw [ch_inc]
  unfold chV b3
  have e1 : (b * 2).tmod 256 = b * 2 % 256 := Int.tmod_eq_emod_of_nonneg (by omega)
  have e2 : b.tmod 2 = b % 2 := Int.tmod_eq_emod_of_nonneg (by omega)
  have e3 : b.tdiv 2 = b / 2 := Int.tdiv_eq_ediv_of_nonneg (by omega)
  obtain ⟨a0, a1⟩ := and1_r p p0 p1
  unfold i64and at *
  generalize hA : bits .and .i64 p 1 = A at *
  go_enter Tryz.func156, Tryz.ntmps156
  go_wp2_with (first | (go_at_call 197; refine (rcarry _ _ _).mono ?_; rintro e w1 ⟨rfl, rfl⟩) | (go_at_call 196; refine (rnz _ _ _).mono ?_; rintro e w1 ⟨rfl, rfl⟩) | (go_at_call 91; refine (rcut8 _ _).mono ?_; rintro e w1 ⟨rfl, rfl⟩))
  go_ret2
  exact ⟨rfl, rfl⟩
theorem chw_dec (b p : Int) (b0 : 0 ≤ b) (b1 : b < 256) (p0 : 0 ≤ p) (p1 : p < 256) (w : World) :
    Calls Tryz.prog 156 #[.string (b3 68 69 67), .int .i64 b, .int .i64 p] w fun e w' => e = .returned (chV (changedR (b3 68 69 67) b p)) ∧ w' = w := by
  rw [ch_dec]
  unfold chV b3
  have e1 : (b * 2).tmod 256 = b * 2 % 256 := Int.tmod_eq_emod_of_nonneg (by omega)
  have e2 : b.tmod 2 = b % 2 := Int.tmod_eq_emod_of_nonneg (by omega)
  have e3 : b.tdiv 2 = b / 2 := Int.tdiv_eq_ediv_of_nonneg (by omega)
  obtain ⟨a0, a1⟩ := and1_r p p0 p1
  unfold i64and at *
  generalize hA : bits .and .i64 p 1 = A at *
  go_enter Tryz.func156, Tryz.ntmps156
  go_wp2_with (first | (go_at_call 197; refine (rcarry _ _ _).mono ?_; rintro e w1 ⟨rfl, rfl⟩) | (go_at_call 196; refine (rnz _ _ _).mono ?_; rintro e w1 ⟨rfl, rfl⟩) | (go_at_call 91; refine (rcut8 _ _).mono ?_; rintro e w1 ⟨rfl, rfl⟩))
  go_ret2
  exact ⟨rfl, rfl⟩
theorem rchanged (op : BA) (hop : op ∈ lC) (b p : Int) (b0 : 0 ≤ b) (b1 : b < 256) (p0 : 0 ≤ p) (p1 : p < 256) (w : World) :
    Calls Tryz.prog 156 #[.string op, .int .i64 b, .int .i64 p] w fun e w' => e = .returned (chV (changedR op b p)) ∧ w' = w := by
  unfold lC at hop
  simp only [List.mem_cons, List.not_mem_nil, or_false] at hop
  rcases hop with rfl | rfl | rfl | rfl | rfl | rfl
  · exact chw_asl b p b0 b1 p0 p1 w
  · exact chw_lsr b p b0 b1 p0 p1 w
  · exact chw_rol b p b0 b1 p0 p1 w
  · exact chw_ror b p b0 b1 p0 p1 w
  · exact chw_inc b p b0 b1 p0 p1 w
  · exact chw_dec b p b0 b1 p0 p1 w
end

/-
  A cycle in the midst of an instruction: alike.
-/
section
def RS.pinsB (t : RS) (nmi : Bool) : RS := { t with due := t.due || (nmi && !t.nmi), nmi := nmi, r := { t.r with cyc := IntKind.wrap .i64 (t.r.cyc + 1) } }

theorem counts_kept (t : RS) (b : BusI) : (t.counts b).op = t.op ∧ (t.counts b).md = t.md ∧ (t.counts b).r = t.r ∧ (t.counts b).h = t.h ∧ (t.counts b).mem = t.mem ∧ (t.counts b).rom = t.rom ∧ (t.counts b).nmi = t.nmi ∧ (t.counts b).due = t.due := by
  unfold RS.counts
  split
  · exact ⟨rfl, rfl, rfl, rfl, rfl, rfl, rfl, rfl⟩
  · split <;> exact ⟨rfl, rfl, rfl, rfl, rfl, rfl, rfl, rfl⟩

theorem bus_kept (t : RS) (a : Act) : (t.bus a).1.op = t.op ∧ (t.bus a).1.md = t.md ∧ (t.bus a).1.r = t.r ∧ (t.bus a).1.h = t.h ∧ (t.bus a).1.nmi = t.nmi ∧ (t.bus a).1.due = t.due := by
  unfold RS.bus
  split
  · split <;> exact ⟨rfl, rfl, rfl, rfl, rfl, rfl⟩
  · split
    · exact ⟨rfl, rfl, rfl, rfl, rfl, rfl⟩
    · split <;> exact ⟨rfl, rfl, rfl, rfl, rfl, rfl⟩

def RS.act (t : RS) : Act := if t.h.length > 0 then (nextR t.op t.md t.r t.h).1 else ⟨t.r.PC, false, 0, true⟩
def RS.after (t : RS) (b : BusI) : RS × BusI :=
  if t.r.jam = true then (t, b)
  else if (nextR t.op t.md t.r (t.h ++ [b.data])).2 = true then ({ t with h := t.h ++ [b.data] }, b)
  else ({ t with h := [], r := doneR t.op t.md t.r (t.h ++ [b.data]) }, b)
def RS.mids (t : RS) (irq : Bool) : RS := if t.h.length = 0 then (t.bus t.act).1.begins (t.bus t.act).2.data irq else (t.bus t.act).1

theorem rs_cycle (t : RS) (nmi irq : Bool) : t.cycle nmi irq = (((t.pinsB nmi).mids irq).counts ((t.pinsB nmi).bus (t.pinsB nmi).act).2).after ((t.pinsB nmi).bus (t.pinsB nmi).act).2 := rfl

theorem rs_mid (t1 : RS) (irq : Bool) (hh : t1.h ≠ []) (hj : t1.r.jam = false) (q : RS × BusI) (hq : q = t1.bus (nextR t1.op t1.md t1.r t1.h).1) (t3 : RS) (h3 : t3 = q.1.counts q.2) :
    ((t1.mids irq).counts (t1.bus t1.act).2).after (t1.bus t1.act).2 = if (nextR t1.op t1.md t1.r (t1.h ++ [q.2.data])).2 = true then ({ t3 with h := t1.h ++ [q.2.data] }, q.2) else ({ t3 with h := [], r := doneR t1.op t1.md t1.r (t1.h ++ [q.2.data]) }, q.2) := by
  have hl : 0 < t1.h.length := by cases h : t1.h with | nil => exact absurd h hh | cons x l => simp
  obtain ⟨k1, k2, k3, k4, -⟩ := counts_kept q.1 q.2
  obtain ⟨b1, b2, b3', b4, -⟩ := bus_kept t1 (nextR t1.op t1.md t1.r t1.h).1
  rw [← hq] at b1 b2 b3' b4
  rw [← h3] at k1 k2 k3 k4
  have e1 := k1.trans b1
  have e2 := k2.trans b2
  have e3 := k3.trans b3'
  have e4 := k4.trans b4
  have ea : t1.act = (nextR t1.op t1.md t1.r t1.h).1 := by unfold RS.act; rw [if_pos hl]
  have em : t1.mids irq = q.1 := by unfold RS.mids; rw [if_neg (by omega), ea, hq]
  rw [em, ea, ← hq, ← h3]
  unfold RS.after
  rw [if_neg (by rw [e3, hj]; decide), e1, e2, e3, e4]

theorem busOf_cnt (s : PC) (a : Act) (hB : 0 ≤ s.cnt ∧ s.cnt < 256) (ok : OkAct a) : 0 ≤ (s.busOf a).1.cnt ∧ (s.busOf a).1.cnt < 256 := by
  unfold PC.busOf
  by_cases w : a.wr = true
  · rw [if_pos w]
    unfold PC.write PC.write1
    simp only []
    split
    · exact ok.2.1 w
    · split <;> exact hB
  · rw [if_neg w]
    unfold PC.read PC.read1
    simp only []
    split <;> exact hB

def KeepR (r q : RG) : Prop := q.cyc = r.cyc ∧ q.jam = r.jam
theorem keep_ite {r a b : RG} {c : Prop} [Decidable c] (h1 : KeepR r a) (h2 : KeepR r b) : KeepR r (if c then a else b) := by
  split
  · exact h1
  · exact h2
theorem loads_keeps (op : BA) (r : RG) (m : Int) : (loadsR op r m).cyc = r.cyc ∧ (loadsR op r m).jam = r.jam := by
  show KeepR r _
  unfold loadsR
  repeat' (first | exact ⟨rfl, rfl⟩ | with_reducible apply keep_ite)
theorem plain_keeps (op : BA) (r : RG) : (plainR op r).cyc = r.cyc ∧ (plainR op r).jam = r.jam := by
  show KeepR r _
  unfold plainR
  repeat' (first | exact ⟨rfl, rfl⟩ | with_reducible apply keep_ite)
theorem flows_keeps (op : BA) (r : RG) (h : List Int) : (flowsR op r h).cyc = r.cyc ∧ (flowsR op r h).jam = r.jam := by
  show KeepR r _
  unfold flowsR
  repeat' (first | exact ⟨rfl, rfl⟩ | with_reducible apply keep_ite)
theorem done_keeps (op md : BA) (r : RG) (h : List Int) : (doneR op md r h).cyc = r.cyc ∧ (doneR op md r h).jam = r.jam := by
  unfold doneR
  simp only []
  split
  · exact flows_keeps op r h
  split
  · exact ⟨(flows_keeps op _ h).1.trans (plain_keeps op _).1, (flows_keeps op _ h).2.trans (plain_keeps op _).2⟩
  split
  · exact ⟨rfl, rfl⟩
  split
  · exact ⟨rfl, rfl⟩
  split
  · exact ⟨rfl, rfl⟩
  · exact loads_keeps op _ _

set_option maxHeartbeats 1000000 in
theorem cycle_mid (s : PC) (t : RS) (nmi irq : Bool) (H : Alike s t) (N : Rn s) (hj : t.r.jam = false) (i m : Nat) (hne : t.h ≠ []) (hi : i < 56) (hok : okPair i m = true) (hop : t.op = opName i m) (hmd : t.md = modeName m) (hL : Live s t.r i m) (hH : Byt t.h) (hb : Beh s t.r) (hM : Midst s t.r i m t.h) :
    (s.cycle nmi irq).2 = (t.cycle nmi irq).2 ∧ Alike (s.cycle nmi irq).1 (t.cycle nmi irq).1 := by
  have hR := H.rg N
  have hR1 : Rg (t.pinsB nmi).r := ⟨hR.A, hR.X, hR.Y, hR.S, hR.P, hR.PC⟩
  have hL1 : Live (s.pins nmi) (t.pinsB nmi).r i m := ⟨hL.a, hL.x, hL.y, hL.p, hL.ins, hL.md⟩
  have hB1 : Beh (s.pins nmi) (t.pinsB nmi).r := ⟨hb.a, hb.x, hb.y, hb.sp, hb.p, hb.pc⟩
  have hM1 : Midst (s.pins nmi) (t.pinsB nmi).r i m (t.pinsB nmi).h := hM.off nmi (s.nmiDue || (nmi && !s.nmiOn)) s.cnt s.calls s.cyc (IntKind.wrap .i64 (t.r.cyc + 1))
  obtain ⟨g1, g2, g3⟩ := midst_step (s.pins nmi) (t.pinsB nmi).r i m (t.pinsB nmi).h irq hL1 hR1 N.bytes N.data hi hok hH hM1
  have ho1 : (t.pinsB nmi).op = opName i m := hop
  have hm1 : (t.pinsB nmi).md = modeName m := hmd
  rw [← ho1, ← hm1] at g1 g2 g3
  have hA := ok_next (t.pinsB nmi).op (t.pinsB nmi).md (t.pinsB nmi).r (t.pinsB nmi).h hR1 hH
  have hc := H.cyc
  have hn1 : (t.pinsB nmi).h ≠ [] := hne
  have hH1 : Byt (t.pinsB nmi).h := hH
  have hj1 : (t.pinsB nmi).r.jam = false := hj
  have hcy : (t.pinsB nmi).r.cyc = IntKind.wrap .i64 ((s.pins nmi).cyc + 1) := by show IntKind.wrap .i64 (t.r.cyc + 1) = IntKind.wrap .i64 (s.cyc + 1); rw [hc]
  have x1 : (s.pins nmi).mem = (t.pinsB nmi).mem := H.mem
  have x2 : (s.pins nmi).rom = (t.pinsB nmi).rom := H.rom
  have x3 : (s.pins nmi).cnt = (t.pinsB nmi).cnt := H.cnt
  have x4 : (s.pins nmi).calls = (t.pinsB nmi).calls := H.calls
  have x5 : (s.pins nmi).nmiOn = (t.pinsB nmi).nmi := rfl
  have x6 : (s.pins nmi).nmiDue = (t.pinsB nmi).due := by show (s.nmiDue || (nmi && !s.nmiOn)) = (t.due || (nmi && !t.nmi)); rw [H.on, H.due]
  have xB : Bytes_ (s.pins nmi) := N.bytes
  rw [pc_cycle, rs_cycle]
  generalize s.pins nmi = u at *
  generalize t.pinsB nmi = v at *
  obtain ⟨a1, a2, a3, a4, a5, a6, a7, a8, a9, a10, a11, a12, a13, a14⟩ := bus_alike u v _ hA.1 x1 x2 x3 x4
  rw [rs_mid v irq hn1 hj1 _ rfl _ rfl]
  have hbb : (u.turn irq).2 = (v.bus (nextR v.op v.md v.r v.h).1).2 := g1.trans a1
  generalize hS : u.turn irq = S at *
  generalize hQ : v.bus (nextR v.op v.md v.r v.h).1 = Q at *
  rw [← hbb]
  have c0 : 0 ≤ S.1.cnt ∧ S.1.cnt < 256 := by rw [g2.cnt]; exact busOf_cnt u _ xB.2 hA
  obtain ⟨t1, t2, c', d', t3⟩ := counts_alike S.1 Q.1 S.2 c0 (g2.cnt.trans a4) (g2.calls.trans a5) (S.1.ends S.2) rfl
  obtain ⟨k1, k2, k3, k4, k5, k6, k7, k8⟩ := counts_kept Q.1 S.2
  have r3 : (Q.1.counts S.2).r = v.r := k3.trans a11
  have oo : (Q.1.counts S.2).op = opName i m := (k1.trans a12).trans ho1
  have mm : (Q.1.counts S.2).md = modeName m := (k2.trans a13).trans hm1
  have j3 : (Q.1.counts S.2).r.jam = false := by rw [r3]; exact hj1
  have y1 : S.1.mem = (Q.1.counts S.2).mem := (g2.mem.trans a2).trans k5.symm
  have y2 : S.1.rom = (Q.1.counts S.2).rom := (g2.rom.trans a3).trans k6.symm
  have y5 : S.1.nmiOn = (Q.1.counts S.2).nmi := ((g2.on.trans (a6.trans x5)).trans a9.symm).trans k7.symm
  have y6 : S.1.nmiDue = (Q.1.counts S.2).due := ((g2.due.trans (a7.trans x6)).trans a10.symm).trans k8.symm
  have y7 : IntKind.wrap .i64 (S.1.cyc + 1) = (Q.1.counts S.2).r.cyc := by rw [r3, hcy, g2.cyc, a8]
  have hd : 0 ≤ S.2.data ∧ S.2.data < 256 := by rw [g1]; exact busOf_byte u _ xB hA
  rw [t3] at t1 t2 ⊢
  generalize Q.1.counts S.2 = T at *
  rcases g3 with ⟨e, L, B, M⟩ | ⟨e, F⟩
  · rw [if_pos e]
    refine ⟨rfl, ⟨y1, y2, t1, t2, y5, y6, y7, ?_⟩⟩
    have M' : Midst S.1 T.r i m (v.h ++ [S.2.data]) := by rw [r3]; exact M
    refine .midst i m (by show v.h ++ [S.2.data] ≠ []; simp) j3 hi hok oo mm ?_ ?_ ?_ (M'.off S.1.nmiOn S.1.nmiDue c' d' (IntKind.wrap .i64 (S.1.cyc + 1)) T.r.cyc)
    · show Live _ T.r i m
      rw [r3]; exact ⟨L.a, L.x, L.y, L.p, L.ins, L.md⟩
    · intro b hb'
      rcases List.mem_append.1 hb' with q | q
      · exact hH1 b q
      · rw [List.mem_singleton.1 q]; exact hd
    · show Beh _ T.r
      have B' := B v.r hB1
      rw [r3]; exact ⟨B'.a, B'.x, B'.y, B'.sp, B'.p, B'.pc⟩
  · rw [if_neg (by rw [e]; decide)]
    have dk := done_keeps v.op v.md v.r (v.h ++ [S.2.data])
    refine ⟨rfl, ⟨y1, y2, t1, t2, y5, y6, ?_, ?_⟩⟩
    · show IntKind.wrap .i64 (S.1.cyc + 1) = (doneR v.op v.md v.r (v.h ++ [S.2.data])).cyc
      rw [dk.1, ← r3]; exact y7
    · exact .idle rfl (dk.2.trans hj1) ⟨F.st, ⟨F.b.a, F.b.x, F.b.y, F.b.sp, F.b.p, F.b.pc⟩, F.a, F.x, F.y, F.sp, F.p, F.pc⟩
end

/-
  A fetch: alike; and so is every cycle.
-/
section
theorem after_keeps (t : RS) (b : BusI) : (t.after b).2 = b ∧ (t.after b).1.mem = t.mem ∧ (t.after b).1.rom = t.rom ∧ (t.after b).1.cnt = t.cnt ∧ (t.after b).1.calls = t.calls ∧ (t.after b).1.nmi = t.nmi ∧ (t.after b).1.due = t.due ∧ (t.after b).1.r.cyc = t.r.cyc := by
  unfold RS.after
  split
  · exact ⟨rfl, rfl, rfl, rfl, rfl, rfl, rfl, rfl⟩
  split
  · exact ⟨rfl, rfl, rfl, rfl, rfl, rfl, rfl, rfl⟩
  · exact ⟨rfl, rfl, rfl, rfl, rfl, rfl, rfl, (done_keeps t.op t.md t.r _).1⟩

/-- The end of a cycle: the timer. -/
theorem ends_alike (W : PC) (X : RS) (b : BusI) (c0 : 0 ≤ W.cnt ∧ W.cnt < 256) (h1 : W.mem = X.mem) (h2 : W.rom = X.rom) (h3 : W.cnt = X.cnt) (h4 : W.calls = X.calls) (h5 : W.nmiOn = X.nmi) (h6 : W.nmiDue = X.due) (h7 : IntKind.wrap .i64 (W.cyc + 1) = X.r.cyc)
    (hw : ∀ (c : Int) (d : Bool) (e : Int) (T : RS), T.op = X.op → T.md = X.md → T.r = X.r → T.h = X.h → Way ({ W with cnt := c, calls := d, cyc := e } : PC) (T.after b).1) :
    b = ((X.counts b).after b).2 ∧ Alike ({ W.ends b with cyc := IntKind.wrap .i64 ((W.ends b).cyc + 1) } : PC) ((X.counts b).after b).1 := by
  obtain ⟨t1, t2, c', d', t3⟩ := counts_alike W X b c0 h3 h4 (W.ends b) rfl
  obtain ⟨k1, k2, k3, k4, k5, k6, k7, k8⟩ := counts_kept X b
  obtain ⟨a0, a1, a2, a3, a4, a5, a6, a7⟩ := after_keeps (X.counts b) b
  refine ⟨a0.symm, ?_⟩
  rw [t3] at t1 t2 ⊢
  exact ⟨(h1.trans k5.symm).trans a1.symm, (h2.trans k6.symm).trans a2.symm, t1.trans a3.symm, t2.trans a4.symm, (h5.trans k7.symm).trans a5.symm, (h6.trans k8.symm).trans a6.symm, (h7.trans (by rw [k3])).trans a7.symm, hw _ _ _ _ k1 k2 k3 k4⟩

/-- What a fetch leaves, if an instruction begins. -/
theorem way_begun (W : PC) (X : RS) (b : BusI) (i m : Nat) (hj : X.r.jam = false) (hh : X.h = []) (hi : i < 56) (hok : okPair i m = true) (hop : X.op = opName i m) (hmd : X.md = modeName m) (hL : Live W X.r i m) (hB : Beh W X.r) (hd : 0 ≤ b.data ∧ b.data < 256)
    (hst : W.st = 1) (hstep : W.step = 0) (hS : W.s = X.r.S) (hpc : W.pc = if m = 20 ∨ m = 21 then X.r.PC else (X.r.PC + 1) % 65536) (c : Int) (d : Bool) (e : Int) (T : RS) (e1 : T.op = X.op) (e2 : T.md = X.md) (e3 : T.r = X.r) (e4 : T.h = X.h) :
    Way ({ W with cnt := c, calls := d, cyc := e } : PC) (T.after b).1 := by
  have ea : (T.after b).1 = { T with h := [b.data] } := by
    unfold RS.after
    rw [if_neg (by rw [e3, hj]; decide), e4, hh, List.nil_append, if_pos (next_fst _ _ _ _)]
  rw [ea]
  rw [← e3] at hL hB hS hpc hj
  refine .midst i m (by show [b.data] ≠ []; simp) hj hi hok (e1.trans hop) (e2.trans hmd) ⟨hL.a, hL.x, hL.y, hL.p, hL.ins, hL.md⟩ ?_ ⟨hB.a, hB.x, hB.y, hB.sp, hB.p, hB.pc⟩ (.one b.data rfl hst hstep hS hpc)
  intro x hx
  rw [List.mem_singleton.1 hx]; exact hd

set_option maxHeartbeats 1000000 in
theorem cycle_idle (s : PC) (t : RS) (nmi irq : Bool) (H : Alike s t) (N : Rn s) (hj : t.r.jam = false) (hh : t.h = []) (hF : Fin_ s t.r) :
    (s.cycle nmi irq).2 = (t.cycle nmi irq).2 ∧ Alike (s.cycle nmi irq).1 (t.cycle nmi irq).1 := by
  have hR := H.rg N
  have hR1 : Rg (t.pinsB nmi).r := ⟨hR.A, hR.X, hR.Y, hR.S, hR.P, hR.PC⟩
  have hF1 : Fin_ (s.pins nmi) (t.pinsB nmi).r := ⟨hF.st, ⟨hF.b.a, hF.b.x, hF.b.y, hF.b.sp, hF.b.p, hF.b.pc⟩, hF.a, hF.x, hF.y, hF.sp, hF.p, hF.pc⟩
  have hc := H.cyc
  have hh1 : (t.pinsB nmi).h = [] := hh
  have hj1 : (t.pinsB nmi).r.jam = false := hj
  have hcy : IntKind.wrap .i64 ((s.pins nmi).cyc + 1) = (t.pinsB nmi).r.cyc := by show IntKind.wrap .i64 (s.cyc + 1) = IntKind.wrap .i64 (t.r.cyc + 1); rw [hc]
  have x1 : (s.pins nmi).mem = (t.pinsB nmi).mem := H.mem
  have x2 : (s.pins nmi).rom = (t.pinsB nmi).rom := H.rom
  have x3 : (s.pins nmi).cnt = (t.pinsB nmi).cnt := H.cnt
  have x4 : (s.pins nmi).calls = (t.pinsB nmi).calls := H.calls
  have x5 : (s.pins nmi).nmiOn = (t.pinsB nmi).nmi := rfl
  have x6 : (s.pins nmi).nmiDue = (t.pinsB nmi).due := by show (s.nmiDue || (nmi && !s.nmiOn)) = (t.due || (nmi && !t.nmi)); rw [H.on, H.due]
  have xB : Bytes_ (s.pins nmi) := N.bytes
  rw [pc_cycle, rs_cycle]
  generalize s.pins nmi = u at *
  generalize t.pinsB nmi = v at *
  have hpk : u.look u.pc = v.peek v.r.PC := by unfold PC.look RS.peek; rw [x1, x3, x4, hF1.pc]
  have hbyte := look_b xB u.pc (by rw [hF1.pc]; exact hR1.PC.2)
  have ea : v.act = ⟨v.r.PC, false, 0, true⟩ := by unfold RS.act; rw [if_neg (by rw [hh1]; decide)]
  have K := read1_kept u u.pc
  -- the bus of both
  obtain ⟨V, hV, w1, w2, w3, w4, w5, w6, w7, w8⟩ : ∃ V : RS, v.bus v.act = (V, ⟨u.pc, u.look u.pc, false, true⟩) ∧ V.mem = v.mem ∧ V.rom = v.rom ∧ V.cnt = v.cnt ∧ (u.read1 u.pc).calls = V.calls ∧ V.nmi = v.nmi ∧ V.due = v.due ∧ V.r = v.r ∧ V.h = v.h := by
    rw [ea]
    unfold RS.bus PC.read1
    simp only [if_true]
    rw [hpk, hF1.pc]
    by_cases e : v.r.PC = 53249
    · rw [if_pos e, if_pos e]; exact ⟨_, rfl, rfl, rfl, rfl, rfl, rfl, rfl, rfl, rfl⟩
    · rw [if_neg e, if_neg e]; exact ⟨_, rfl, rfl, rfl, rfl, x4, rfl, rfl, rfl, rfl⟩
  have em : v.mids irq = V.begins (u.look u.pc) irq := by unfold RS.mids; rw [if_pos (by rw [hh1]; rfl), hV]
  rw [em, hV]
  have et : u.turn irq = u.fetch irq := by unfold PC.turn; rw [if_pos hF1.st]
  rw [et]
  have O := read1_outer u u u.pc ⟨rfl, rfl, rfl, rfl, rfl, rfl, rfl⟩
  have ofields : (u.read1 u.pc).mem = u.mem ∧ (u.read1 u.pc).rom = u.rom ∧ (u.read1 u.pc).cnt = u.cnt ∧ (u.read1 u.pc).nmiOn = u.nmiOn ∧ (u.read1 u.pc).nmiDue = u.nmiDue ∧ (u.read1 u.pc).cyc = u.cyc := by
    unfold PC.read1; split <;> exact ⟨rfl, rfl, rfl, rfl, rfl, rfl⟩
  obtain ⟨o1, o2, o3, o4, o5, o6⟩ := ofields
  clear O
  have fB : Beh (u.read1 u.pc) V.r := by rw [w7]; exact ⟨K.ba.trans hF1.b.a, K.bx.trans hF1.b.x, K.b_y.trans hF1.b.y, K.bs.trans hF1.b.sp, K.bp.trans hF1.b.p, K.bpc.trans hF1.b.pc⟩
  have fA := K.a.trans hF1.a
  have fX := K.x.trans hF1.x
  have fY := K.y.trans hF1.y
  have fS := K.sp.trans hF1.sp
  have fP := K.p.trans hF1.p
  have fPC := K.pc.trans hF1.pc
  rw [← w7] at fA fX fY fS fP fPC hj1 hcy hR1
  have y1 := (o1.trans x1).trans w1.symm
  have y2 := (o2.trans x2).trans w2.symm
  have y3 := (o3.trans x3).trans w3.symm
  have y5 := (o4.trans x5).trans w5.symm
  have y6 := (o5.trans x6).trans w6.symm
  have y7 : IntKind.wrap .i64 ((u.read1 u.pc).cyc + 1) = V.r.cyc := by rw [o6]; exact hcy
  have hh2 := w8.trans hh1
  have c0 : 0 ≤ (u.read1 u.pc).cnt ∧ (u.read1 u.pc).cnt < 256 := by rw [o3]; exact xB.2
  have efetch : u.fetch irq = (if (u.read1 u.pc).nmiDue = true then (({ u.read1 u.pc with nmiDue := false } : PC).begin_ 12 20, (⟨u.pc, u.look u.pc, false, true⟩ : BusI))
      else if (irq || (u.read1 u.pc).calls) = true ∧ hasf (u.read1 u.pc).p 4 = false then ((u.read1 u.pc).begin_ 12 21, ⟨u.pc, u.look u.pc, false, true⟩)
      else (({ u.read1 u.pc with pc := ((u.read1 u.pc).pc + 1) % 65536 } : PC).begin_ (decodeI (u.look u.pc % 256).toNat).1 (decodeI (u.look u.pc % 256).toNat).2, ⟨u.pc, u.look u.pc, false, true⟩)) := rfl
  rw [efetch]
  clear efetch et em ea hV K o1 o2 o3 o4 o5 o6 w1 w2 w3 w5 w6 w7 w8 x1 x2 x3 x4 x5 x6 hF1 hpk hh1 H N hR hj hh hF hc xB
  generalize u.read1 u.pc = U at *
  generalize u.look u.pc = D at *
  generalize u.pc = A at *
  by_cases q1 : U.nmiDue = true
  · have eb : V.begins D irq = { V with due := false, op := (b3 78 77 73), md := (b3 115 101 113) } := by unfold RS.begins; rw [if_pos (y6 ▸ q1)]
    have ew : ({ U with nmiDue := false } : PC).begin_ 12 20 = { U with nmiDue := false, ins := 12, md := 20, step := 0, st := 1 } := by unfold PC.begin_; rw [if_neg (by decide)]
    rw [if_pos q1, eb, ew]
    exact ends_alike ({ U with nmiDue := false, ins := 12, md := 20, step := 0, st := 1 } : PC) ({ V with due := false, op := (b3 78 77 73), md := (b3 115 101 113) } : RS) _ c0 y1 y2 y3 w4 y5 rfl y7 (fun c d e T => way_begun ({ U with nmiDue := false, ins := 12, md := 20, step := 0, st := 1 } : PC) ({ V with due := false, op := (b3 78 77 73), md := (b3 115 101 113) } : RS) _ 12 20 hj1 hh2 (by decide) (by decide) rfl rfl ⟨fA, fX, fY, fP, rfl, rfl⟩ ⟨fB.a, fB.x, fB.y, fB.sp, fB.p, fB.pc⟩ hbyte rfl rfl fS fPC c d e T)
  · rw [if_neg q1]
    have hp4 : hasf U.p 4 = false ↔ i64and V.r.P 4 = 0 := by
      unfold hasf; rw [fP, and_u8_i64 V.r.P 4 hR1.P.1 hR1.P.2 (by decide) (by decide)]; simp
    by_cases q2 : (irq || U.calls) = true ∧ hasf U.p 4 = false
    · have eb : V.begins D irq = { V with op := (b3 73 82 81), md := (b3 115 101 113) } := by
        unfold RS.begins; rw [if_neg (y6 ▸ q1), if_pos ⟨w4 ▸ q2.1, hp4.1 q2.2⟩]
      have ew : U.begin_ 12 21 = { U with ins := 12, md := 21, step := 0, st := 1 } := by unfold PC.begin_; rw [if_neg (by decide)]
      rw [if_pos q2, eb, ew]
      exact ends_alike ({ U with ins := 12, md := 21, step := 0, st := 1 } : PC) ({ V with op := (b3 73 82 81), md := (b3 115 101 113) } : RS) _ c0 y1 y2 y3 w4 y5 y6 y7 (fun c d e T => way_begun ({ U with ins := 12, md := 21, step := 0, st := 1 } : PC) ({ V with op := (b3 73 82 81), md := (b3 115 101 113) } : RS) _ 12 21 hj1 hh2 (by decide) (by decide) rfl rfl ⟨fA, fX, fY, fP, rfl, rfl⟩ ⟨fB.a, fB.x, fB.y, fB.sp, fB.p, fB.pc⟩ hbyte rfl rfl fS fPC c d e T)
    · rw [if_neg q2]
      obtain ⟨n, rfl⟩ := Int.eq_ofNat_of_zero_le hbyte.1
      have hn : n < 256 := by omega
      have en : ((n : Int) % 256).toNat = n := by omega
      rw [en]
      have eb : V.begins (n : Int) irq = { V with op := (codeR n).1, md := (codeR n).2, r := { V.r with jam := (codeR n).1 == ⟨#[]⟩ } } := by
        unfold RS.begins; rw [if_neg (y6 ▸ q1), if_neg (fun x => q2 ⟨w4.symm ▸ x.1, hp4.2 x.2⟩)]
      rw [eb]
      rcases code_alike n hn with ⟨z, cz⟩ | ⟨nz, okk, cn, -⟩
      · rw [cz, z]
        have ew : ({ U with pc := (U.pc + 1) % 65536 } : PC).begin_ (decodeI n).1 (0 : Nat) = { U with pc := (U.pc + 1) % 65536, ins := (decodeI n).1, md := 0, step := 0, st := 5 } := by unfold PC.begin_; rw [if_pos (by decide)]; rfl
        rw [ew]
        refine ends_alike _ _ _ c0 y1 y2 y3 w4 y5 y6 y7 (fun c d e T e1 e2 e3 e4 => ?_)
        have ej : T.r.jam = true := by rw [e3]; rfl
        have ea : (T.after (⟨A, (n : Int), false, true⟩ : BusI)).1 = T := by unfold RS.after; rw [if_pos ej]
        rw [ea]
        refine .jam ej rfl ?_
        rw [e3]; exact ⟨fB.a, fB.x, fB.y, fB.sp, fB.p, fB.pc⟩
      · obtain ⟨l1, l2⟩ := decode_lt n hn
        have hm2 : ¬ ((decodeI n).2 = 20 ∨ (decodeI n).2 = 21) := by
          have : ∀ n : Fin 256, ¬ ((decodeI n.val).2 = 20 ∨ (decodeI n.val).2 = 21) := by decide +kernel
          exact this ⟨n, hn⟩
        have ew : ({ U with pc := (U.pc + 1) % 65536 } : PC).begin_ (decodeI n).1 (decodeI n).2 = { U with pc := (U.pc + 1) % 65536, ins := (decodeI n).1, md := (decodeI n).2, step := 0, st := 1 } := by unfold PC.begin_; rw [if_neg (by omega)]
        rw [ew]
        have ejam : ((codeR n).1 == ⟨#[]⟩) = false := by
          have : ∀ n : Fin 256, (decodeI n.val).2 ≠ 0 → ((codeR (n.val : Nat)).1 == ⟨#[]⟩) = false := by decide +kernel
          exact this ⟨n, hn⟩ nz
        rw [ejam, cn]
        refine ends_alike ({ U with pc := (U.pc + 1) % 65536, ins := (decodeI n).1, md := (decodeI n).2, step := 0, st := 1 } : PC) ({ V with op := opName (decodeI n).1 (decodeI n).2, md := modeName (decodeI n).2, r := { V.r with jam := false } } : RS) _ c0 y1 y2 y3 w4 y5 y6 y7 (fun c d e T => way_begun ({ U with pc := (U.pc + 1) % 65536, ins := (decodeI n).1, md := (decodeI n).2, step := 0, st := 1 } : PC) ({ V with op := opName (decodeI n).1 (decodeI n).2, md := modeName (decodeI n).2, r := { V.r with jam := false } } : RS) _ (decodeI n).1 (decodeI n).2 rfl hh2 l1 okk rfl rfl ⟨fA, fX, fY, fP, rfl, rfl⟩ ⟨fB.a, fB.x, fB.y, fB.sp, fB.p, fB.pc⟩ hbyte rfl rfl fS ?_ c d e T)
        rw [if_neg hm2]
        show (U.pc + 1) % 65536 = (V.r.PC + 1) % 65536
        rw [fPC]

/-- A cycle, alike. -/
theorem cycle_alike (s : PC) (t : RS) (nmi irq : Bool) (H : Alike s t) (N : Rn s) (hj : t.r.jam = false) :
    (s.cycle nmi irq).2 = (t.cycle nmi irq).2 ∧ Alike (s.cycle nmi irq).1 (t.cycle nmi irq).1 := by
  cases H.way with
  | idle hh _ hF => exact cycle_idle s t nmi irq H N hj hh hF
  | midst i m hne _ hi hok hop hmd hL hH hb hM => exact cycle_mid s t nmi irq H N hj i m hne hi hok hop hmd hL hH hb hM
  | jam e _ _ => rw [hj] at e; cases e

theorem midst_st {s : PC} {r : RG} {i m : Nat} {h : List Int} (hM : Midst s r i m h) : s.st = 1 ∨ s.st = 2 ∨ s.st = 3 ∨ s.st = 4 := by
  cases hM with
  | one _ _ x => exact .inl x
  | plc _ _ q =>
    cases q with
    | acc _ _ _ _ _ _ w =>
      cases w with
      | due _ x => exact .inr (.inl x)
      | was _ _ x => exact .inr (.inr (.inl x))
      | new _ _ x => exact .inr (.inr (.inr x))
    | one _ _ x => exact .inl x
    | low _ x => exact .inl x
    | abs3 _ x => exact .inl x
    | hop2 _ x => exact .inl x
    | izx3 x => exact .inl x
    | izx4 x => exact .inl x
    | izy3 x => exact .inl x
    | izy4 x => exact .inl x
  | rel _ q => cases q with
    | two _ x => exact .inl x
    | three _ x => exact .inl x
  | jmp _ q => cases q with
    | two _ x => exact .inl x
    | three x => exact .inl x
    | four x => exact .inl x
  | jsr _ q => cases q <;> (rename_i x _ _ _ _; exact .inl x)
  | back _ q => cases q with
    | two x => exact .inl x
    | three x => exact .inl x
    | rts4 x => exact .inl x
    | rts5 x => exact .inl x
    | rti4 x => exact .inl x
    | rti5 x => exact .inl x
  | push _ q => cases q with
    | two x => exact .inl x
  | pull _ q => cases q with
    | two x => exact .inl x
    | three x => exact .inl x
  | int _ q => cases q with
    | two x => exact .inl x
    | three x => exact .inl x
    | four x => exact .inl x
    | five x => exact .inl x
    | six x => exact .inl x

theorem alike_jam (s : PC) (t : RS) (H : Alike s t) : (s.st == 5) = t.r.jam := by
  cases H.way with
  | idle _ e f => rw [e, f.st]; rfl
  | midst i m _ e _ _ _ _ _ _ _ hM =>
    rw [e]
    have := midst_st hM
    rcases this with e | e | e | e <;> rw [e] <;> rfl
  | jam e f _ => rw [e, f]; rfl
end

/-
  Modes of a page, and absolute ones: walked.
-/
section
set_option maxRecDepth 100000
set_option maxHeartbeats 1000000
variable {B : Nat} {s : PC} {w0 w : World}

theorem zeroPageBy_1 (h : Tn B s w0 w) (i : Int) (i1 : 0 ≤ i) (i2 : i < 256) (hk : s.step = 1) :
    Calls Tryz.prog 171 #[.pointer (some ⟨B, 0, none⟩), .int .u8 i] w fun e w' => e = .returned (s.zeroPageBy i).2.val ∧ Tn B (s.zeroPageBy i).1 w0 w' := by
  have c_step := h.c.cstep; obtain ⟨l_step, u_step⟩ := h.c.rstep; have c_pc := h.c.cpc; obtain ⟨l_pc, u_pc⟩ := h.c.rpc; have c_ad := h.c.cad; obtain ⟨l_ad, u_ad⟩ := h.c.rad; have c_st := h.c.cst; obtain ⟨l_st, u_st⟩ := h.c.rst
  have hu : Hid (s.zeroPageBy i = takeLow s.readNext) := by show _ = _; unfold PC.zeroPageBy; rw [if_pos hk]
  rw [hu.out]
  rw [hk] at c_step
  have _ := i1
  have _ := i2
  obtain ⟨hlt, hsz, n0, m0, fz0, -⟩ := h.pre
  go_enter Tryz.func171, Tryz.ntmps171
  go_wp2_with (first | (go_at_call 169; refine Ck.go w0 w.heap.size kq10 (fun h => readNext_any h) ?_; intro w1 k; intros; have c_ad := k.c.cad; obtain ⟨l_ad, u_ad⟩ := k.c.rad; have c_st := k.c.cst; obtain ⟨l_st, u_st⟩ := k.c.rst; (try simp only [BusI.val])) | (go_at_call 170; refine Ck.go w0 w.heap.size kq10 (fun h => takeLow_any h ⟨_, _, _, _⟩) ?_; intro w1 k; intros; have c_ad := k.c.cad; obtain ⟨l_ad, u_ad⟩ := k.c.rad; have c_st := k.c.cst; obtain ⟨l_st, u_st⟩ := k.c.rst; (try simp only [BusI.val])))
  all_goals (have hr := Tryz.results171; exact bodyPost_ret brq rfl ⟨rfl, tq4⟩)

theorem zeroPageBy_d (h : Tn B s w0 w) (i : Int) (i1 : 0 ≤ i) (i2 : i < 256) (hk1 : (s.step == 1) = false) :
    Calls Tryz.prog 171 #[.pointer (some ⟨B, 0, none⟩), .int .u8 i] w fun e w' => e = .returned (s.zeroPageBy i).2.val ∧ Tn B (s.zeroPageBy i).1 w0 w' := by
  have c_step := h.c.cstep; obtain ⟨l_step, u_step⟩ := h.c.rstep; have c_pc := h.c.cpc; obtain ⟨l_pc, u_pc⟩ := h.c.rpc; have c_ad := h.c.cad; obtain ⟨l_ad, u_ad⟩ := h.c.rad; have c_st := h.c.cst; obtain ⟨l_st, u_st⟩ := h.c.rst
  have hu : Hid (s.zeroPageBy i = ({ (s.read s.ad).1 with ad := withinI (s.read s.ad).1.ad i, st := 2 }, (s.read s.ad).2)) := by show _ = _; unfold PC.zeroPageBy; rw [if_neg (by simpa using hk1)]
  rw [hu.out]
  have _ := i1
  have _ := i2
  obtain ⟨hlt, hsz, n0, m0, fz0, n01, m01⟩ := h.pre
  go_enter Tryz.func171, Tryz.ntmps171
  go_wp2_with (first | (go_at_call 103; refine Ck.gq w0 w.heap.size kq11 (fun h => read_any h _ nq5 nq5) ?_; intro w1 k q1 q2 zz; intros; (try simp at zz); (try replace zz := Nat.lt_of_succ_le zz); (try have zl : w.heap.size + 1 < w1.heap.size := (by omega)); (try have zm : w.heap.size < w1.heap.size := (by omega)); have c_ad := k.c.cad; obtain ⟨l_ad, u_ad⟩ := k.c.rad; have c_st := k.c.cst; obtain ⟨l_st, u_st⟩ := k.c.rst; (try simp only [BusI.val])) | (go_at_call 175; refine (within_any _ _ _ nq5 nq5).mono ?_; rintro e w' ⟨rfl, rfl⟩))
  all_goals (try go_region_with (first | (go_at_call 103; refine Ck.gq w0 w.heap.size kq11 (fun h => read_any h _ nq5 nq5) ?_; intro w1 k q1 q2 zz; intros; (try simp at zz); (try replace zz := Nat.lt_of_succ_le zz); (try have zl : w.heap.size + 1 < w1.heap.size := (by omega)); (try have zm : w.heap.size < w1.heap.size := (by omega)); have c_ad := k.c.cad; obtain ⟨l_ad, u_ad⟩ := k.c.rad; have c_st := k.c.cst; obtain ⟨l_st, u_st⟩ := k.c.rst; (try simp only [BusI.val])) | (go_at_call 175; refine (within_any _ _ _ nq5 nq5).mono ?_; rintro e w' ⟨rfl, rfl⟩)))
  all_goals (try go_wp2_with (first | (go_at_call 103; refine Ck.gq w0 w.heap.size kq11 (fun h => read_any h _ nq5 nq5) ?_; intro w1 k q1 q2 zz; intros; (try simp at zz); (try replace zz := Nat.lt_of_succ_le zz); (try have zl : w.heap.size + 1 < w1.heap.size := (by omega)); (try have zm : w.heap.size < w1.heap.size := (by omega)); have c_ad := k.c.cad; obtain ⟨l_ad, u_ad⟩ := k.c.rad; have c_st := k.c.cst; obtain ⟨l_st, u_st⟩ := k.c.rst; (try simp only [BusI.val])) | (go_at_call 175; refine (within_any _ _ _ nq5 nq5).mono ?_; rintro e w' ⟨rfl, rfl⟩)))
  all_goals (try go_region_with (first | (go_at_call 103; refine Ck.gq w0 w.heap.size kq11 (fun h => read_any h _ nq5 nq5) ?_; intro w1 k q1 q2 zz; intros; (try simp at zz); (try replace zz := Nat.lt_of_succ_le zz); (try have zl : w.heap.size + 1 < w1.heap.size := (by omega)); (try have zm : w.heap.size < w1.heap.size := (by omega)); have c_ad := k.c.cad; obtain ⟨l_ad, u_ad⟩ := k.c.rad; have c_st := k.c.cst; obtain ⟨l_st, u_st⟩ := k.c.rst; (try simp only [BusI.val])) | (go_at_call 175; refine (within_any _ _ _ nq5 nq5).mono ?_; rintro e w' ⟨rfl, rfl⟩)))
  all_goals (try go_wp2_with (first | (go_at_call 103; refine Ck.gq w0 w.heap.size kq11 (fun h => read_any h _ nq5 nq5) ?_; intro w1 k q1 q2 zz; intros; (try simp at zz); (try replace zz := Nat.lt_of_succ_le zz); (try have zl : w.heap.size + 1 < w1.heap.size := (by omega)); (try have zm : w.heap.size < w1.heap.size := (by omega)); have c_ad := k.c.cad; obtain ⟨l_ad, u_ad⟩ := k.c.rad; have c_st := k.c.cst; obtain ⟨l_st, u_st⟩ := k.c.rst; (try simp only [BusI.val])) | (go_at_call 175; refine (within_any _ _ _ nq5 nq5).mono ?_; rintro e w' ⟨rfl, rfl⟩)))
  all_goals (have hr := Tryz.results171; exact bodyPost_ret brq rfl ⟨rfl, tq4⟩)

theorem zeroPageBy_any (h : Tn B s w0 w) (i : Int) (i1 : 0 ≤ i) (i2 : i < 256) :
    Calls Tryz.prog 171 #[.pointer (some ⟨B, 0, none⟩), .int .u8 i] w fun e w' => e = .returned (s.zeroPageBy i).2.val ∧ Tn B (s.zeroPageBy i).1 w0 w' := by
  by_cases e1 : s.step = 1
  · exact zeroPageBy_1 h i i1 i2 e1
  exact zeroPageBy_d h i i1 i2 (by simpa using e1)

theorem zeroPageX_any (h : Tn B s w0 w) :
    Calls Tryz.prog 115 #[.pointer (some ⟨B, 0, none⟩)] w fun e w' => e = .returned (s.zeroPageBy s.x).2.val ∧ Tn B (s.zeroPageBy s.x).1 w0 w' := by
  have c_x := h.c.cx; obtain ⟨l_x, u_x⟩ := h.c.rx
  obtain ⟨hlt, hsz, n0, m0, fz0, -⟩ := h.pre
  go_enter Tryz.func115, Tryz.ntmps115
  go_wp2_with (first | (go_at_call 171; refine Ck.go w0 w.heap.size kq6 (fun h => zeroPageBy_any h _ nq5 nq5) ?_; intro w1 k; intros; (try simp only [BusI.val])))
  all_goals (have hr := Tryz.results115; exact bodyPost_ret brq rfl ⟨rfl, tq1⟩)

theorem zeroPageY_any (h : Tn B s w0 w) :
    Calls Tryz.prog 116 #[.pointer (some ⟨B, 0, none⟩)] w fun e w' => e = .returned (s.zeroPageBy s.y).2.val ∧ Tn B (s.zeroPageBy s.y).1 w0 w' := by
  have c_y := h.c.cy; obtain ⟨l_y, u_y⟩ := h.c.ry
  obtain ⟨hlt, hsz, n0, m0, fz0, -⟩ := h.pre
  go_enter Tryz.func116, Tryz.ntmps116
  go_wp2_with (first | (go_at_call 171; refine Ck.go w0 w.heap.size kq6 (fun h => zeroPageBy_any h _ nq5 nq5) ?_; intro w1 k; intros; (try simp only [BusI.val])))
  all_goals (have hr := Tryz.results116; exact bodyPost_ret brq rfl ⟨rfl, tq1⟩)

theorem absolute_1 (h : Tn B s w0 w) (hk : s.step = 1) :
    Calls Tryz.prog 117 #[.pointer (some ⟨B, 0, none⟩)] w fun e w' => e = .returned (s.absolute).2.val ∧ Tn B (s.absolute).1 w0 w' := by
  have c_step := h.c.cstep; obtain ⟨l_step, u_step⟩ := h.c.rstep; have c_pc := h.c.cpc; obtain ⟨l_pc, u_pc⟩ := h.c.rpc; have c_st := h.c.cst; obtain ⟨l_st, u_st⟩ := h.c.rst
  have hu : Hid (s.absolute = takeLow s.readNext) := by show _ = _; unfold PC.absolute; rw [if_pos hk]
  rw [hu.out]
  rw [hk] at c_step
  obtain ⟨hlt, hsz, n0, m0, fz0, -⟩ := h.pre
  go_enter Tryz.func117, Tryz.ntmps117
  go_wp2_with (first | (go_at_call 169; refine Ck.go w0 w.heap.size kq4 (fun h => readNext_any h) ?_; intro w1 k; intros; have c_pc := k.c.cpc; obtain ⟨l_pc, u_pc⟩ := k.c.rpc; (try simp only [BusI.val])) | (go_at_call 170; refine Ck.go w0 w.heap.size kq4 (fun h => takeLow_any h ⟨_, _, _, _⟩) ?_; intro w1 k; intros; have c_pc := k.c.cpc; obtain ⟨l_pc, u_pc⟩ := k.c.rpc; (try simp only [BusI.val])))
  all_goals (have hr := Tryz.results117; exact bodyPost_ret brq rfl ⟨rfl, tq2⟩)

theorem absolute_d (h : Tn B s w0 w) (hk1 : (s.step == 1) = false) :
    Calls Tryz.prog 117 #[.pointer (some ⟨B, 0, none⟩)] w fun e w' => e = .returned (s.absolute).2.val ∧ Tn B (s.absolute).1 w0 w' := by
  have c_step := h.c.cstep; obtain ⟨l_step, u_step⟩ := h.c.rstep; have c_pc := h.c.cpc; obtain ⟨l_pc, u_pc⟩ := h.c.rpc; have c_st := h.c.cst; obtain ⟨l_st, u_st⟩ := h.c.rst
  have hu : Hid (s.absolute = takeHigh ({ s with st := 2 } : PC).readNext) := by show _ = _; unfold PC.absolute; rw [if_neg (by simpa using hk1)]
  rw [hu.out]
  obtain ⟨hlt, hsz, n0, m0, fz0, -⟩ := h.pre
  go_enter Tryz.func117, Tryz.ntmps117
  go_wp2_with (first | (go_at_call 169; refine Ck.go w0 w.heap.size kq4 (fun h => readNext_any h) ?_; intro w1 k; intros; have c_pc := k.c.cpc; obtain ⟨l_pc, u_pc⟩ := k.c.rpc; (try simp only [BusI.val])) | (go_at_call 172; refine Ck.go w0 w.heap.size kq4 (fun h => takeHigh_any h ⟨_, _, _, _⟩) ?_; intro w1 k; intros; have c_pc := k.c.cpc; obtain ⟨l_pc, u_pc⟩ := k.c.rpc; (try simp only [BusI.val])))
  all_goals (have hr := Tryz.results117; exact bodyPost_ret brq rfl ⟨rfl, tq2⟩)

theorem absolute_any (h : Tn B s w0 w) :
    Calls Tryz.prog 117 #[.pointer (some ⟨B, 0, none⟩)] w fun e w' => e = .returned (s.absolute).2.val ∧ Tn B (s.absolute).1 w0 w' := by
  by_cases e1 : s.step = 1
  · exact absolute_1 h  e1
  exact absolute_d h  (by simpa using e1)
end

/-
  Modes with an index: walked.
-/
section
set_option maxRecDepth 100000
set_option maxHeartbeats 1000000
variable {B : Nat} {s : PC} {w0 w : World}

theorem indexed_e (h : Tn B s w0 w) (i : Int) (i1 : 0 ≤ i) (i2 : i < 256) (e1 : ((s.ad + i) % 65536 == withinI s.ad i) = true) (e2 : kindI s.ins = 0) :
    Calls Tryz.prog 176 #[.pointer (some ⟨B, 0, none⟩), .int .u8 i] w fun e w' => e = .returned (s.indexed i).2.val ∧ Tn B (s.indexed i).1 w0 w' := by
  have c_ad := h.c.cad; obtain ⟨l_ad, u_ad⟩ := h.c.rad; have c_st := h.c.cst; obtain ⟨l_st, u_st⟩ := h.c.rst; have c_ins := h.c.cins; obtain ⟨l_ins, u_ins⟩ := h.c.rins
  have near : Hid (s.indexed i = ({ s with ad := (s.ad + i) % 65536, st := 2 } : PC).access) := by show _ = _; unfold PC.indexed; simp only []; rw [if_pos ⟨by simpa using e1, e2⟩]
  rw [near.out]
  have wn := within_r s.ad i l_ad u_ad
  obtain ⟨v1, v2⟩ := wn
  have sm : IntKind.u16.wrap (s.ad + i) = (s.ad + i) % 65536 := IntKind.wrap_u16 _
  obtain ⟨hlt, hsz, n0, m0, fz0, -⟩ := h.pre
  go_enter Tryz.func176, Tryz.ntmps176
  go_wp2_with (first | (go_at_call 175; refine (within_any _ _ _ nq5 nq5).mono ?_; rintro e w' ⟨rfl, rfl⟩) | (go_at_call 107; refine (kind_any _ _).mono ?_; rintro e w' ⟨rfl, rfl⟩) | (go_at_call 80; refine Ck.go w0 w.heap.size kq10 (fun h => access_any h) ?_; intro w1 k; intros; have c_ad := k.c.cad; obtain ⟨l_ad, u_ad⟩ := k.c.rad; (try simp only [BusI.val])))
  all_goals (have hr := Tryz.results176; exact bodyPost_ret brq rfl ⟨rfl, tq4⟩)

theorem indexed_k (h : Tn B s w0 w) (i : Int) (i1 : 0 ≤ i) (i2 : i < 256) (e1 : ((s.ad + i) % 65536 == withinI s.ad i) = true) (e2 : (kindI s.ins == 0) = false) :
    Calls Tryz.prog 176 #[.pointer (some ⟨B, 0, none⟩), .int .u8 i] w fun e w' => e = .returned (s.indexed i).2.val ∧ Tn B (s.indexed i).1 w0 w' := by
  have c_ad := h.c.cad; obtain ⟨l_ad, u_ad⟩ := h.c.rad; have c_st := h.c.cst; obtain ⟨l_st, u_st⟩ := h.c.rst; have c_ins := h.c.cins; obtain ⟨l_ins, u_ins⟩ := h.c.rins
  have near : Hid (s.indexed i = ({ s with ad := (s.ad + i) % 65536, st := 2 } : PC).read (withinI s.ad i)) := by show _ = _; unfold PC.indexed; simp only []; rw [if_neg (fun q => by have := q.2; simp [this] at e2)]
  rw [near.out]
  have wn := within_r s.ad i l_ad u_ad
  obtain ⟨v1, v2⟩ := wn
  have sm : IntKind.u16.wrap (s.ad + i) = (s.ad + i) % 65536 := IntKind.wrap_u16 _
  obtain ⟨hlt, hsz, n0, m0, fz0, -⟩ := h.pre
  go_enter Tryz.func176, Tryz.ntmps176
  go_wp2_with (first | (go_at_call 175; refine (within_any _ _ _ nq5 nq5).mono ?_; rintro e w' ⟨rfl, rfl⟩) | (go_at_call 107; refine (kind_any _ _).mono ?_; rintro e w' ⟨rfl, rfl⟩) | (go_at_call 103; refine Ck.go w0 w.heap.size kq10 (fun h => read_any h _ nq5 nq5) ?_; intro w1 k; intros; have c_ad := k.c.cad; obtain ⟨l_ad, u_ad⟩ := k.c.rad; (try simp only [BusI.val])))
  all_goals (have hr := Tryz.results176; exact bodyPost_ret brq rfl ⟨rfl, tq4⟩)

theorem indexed_n (h : Tn B s w0 w) (i : Int) (i1 : 0 ≤ i) (i2 : i < 256) (e1 : ((s.ad + i) % 65536 == withinI s.ad i) = false) :
    Calls Tryz.prog 176 #[.pointer (some ⟨B, 0, none⟩), .int .u8 i] w fun e w' => e = .returned (s.indexed i).2.val ∧ Tn B (s.indexed i).1 w0 w' := by
  have c_ad := h.c.cad; obtain ⟨l_ad, u_ad⟩ := h.c.rad; have c_st := h.c.cst; obtain ⟨l_st, u_st⟩ := h.c.rst; have c_ins := h.c.cins; obtain ⟨l_ins, u_ins⟩ := h.c.rins
  have near : Hid (s.indexed i = ({ s with ad := (s.ad + i) % 65536, st := 2 } : PC).read (withinI s.ad i)) := by show _ = _; unfold PC.indexed; simp only []; rw [if_neg (fun q => by have := q.1; simp [this] at e1)]
  rw [near.out]
  have wn := within_r s.ad i l_ad u_ad
  obtain ⟨v1, v2⟩ := wn
  have sm : IntKind.u16.wrap (s.ad + i) = (s.ad + i) % 65536 := IntKind.wrap_u16 _
  obtain ⟨hlt, hsz, n0, m0, fz0, -⟩ := h.pre
  go_enter Tryz.func176, Tryz.ntmps176
  go_wp2_with (first | (go_at_call 175; refine (within_any _ _ _ nq5 nq5).mono ?_; rintro e w' ⟨rfl, rfl⟩) | (go_at_call 107; refine (kind_any _ _).mono ?_; rintro e w' ⟨rfl, rfl⟩) | (go_at_call 103; refine Ck.go w0 w.heap.size kq10 (fun h => read_any h _ nq5 nq5) ?_; intro w1 k; intros; have c_ad := k.c.cad; obtain ⟨l_ad, u_ad⟩ := k.c.rad; (try simp only [BusI.val])))
  all_goals (have hr := Tryz.results176; exact bodyPost_ret brq rfl ⟨rfl, tq4⟩)

theorem indexed_any (h : Tn B s w0 w) (i : Int) (i1 : 0 ≤ i) (i2 : i < 256) :
    Calls Tryz.prog 176 #[.pointer (some ⟨B, 0, none⟩), .int .u8 i] w fun e w' => e = .returned (s.indexed i).2.val ∧ Tn B (s.indexed i).1 w0 w' := by
  by_cases e1 : (s.ad + i) % 65536 = withinI s.ad i
  · by_cases e2 : kindI s.ins = 0
    · exact indexed_e h i i1 i2 (by simpa using e1) e2
    · exact indexed_k h i i1 i2 (by simpa using e1) (by simpa using e2)
  · exact indexed_n h i i1 i2 (by simpa using e1)

theorem absoluteBy_1 (h : Tn B s w0 w) (i : Int) (i1 : 0 ≤ i) (i2 : i < 256) (hk : s.step = 1) :
    Calls Tryz.prog 173 #[.pointer (some ⟨B, 0, none⟩), .int .u8 i] w fun e w' => e = .returned (s.absoluteBy i).2.val ∧ Tn B (s.absoluteBy i).1 w0 w' := by
  have c_step := h.c.cstep; obtain ⟨l_step, u_step⟩ := h.c.rstep; have c_pc := h.c.cpc; obtain ⟨l_pc, u_pc⟩ := h.c.rpc
  have hu : Hid (s.absoluteBy i = takeLow s.readNext) := by show _ = _; unfold PC.absoluteBy; rw [if_pos hk]
  rw [hu.out]
  rw [hk] at c_step
  have _ := i1
  have _ := i2
  obtain ⟨hlt, hsz, n0, m0, fz0, -⟩ := h.pre
  go_enter Tryz.func173, Tryz.ntmps173
  go_wp2_with (first | (go_at_call 169; refine Ck.go w0 w.heap.size kq6 (fun h => readNext_any h) ?_; intro w1 k; intros; have c_pc := k.c.cpc; obtain ⟨l_pc, u_pc⟩ := k.c.rpc; (try simp only [BusI.val])) | (go_at_call 170; refine Ck.go w0 w.heap.size kq6 (fun h => takeLow_any h ⟨_, _, _, _⟩) ?_; intro w1 k; intros; have c_pc := k.c.cpc; obtain ⟨l_pc, u_pc⟩ := k.c.rpc; (try simp only [BusI.val])))
  all_goals (have hr := Tryz.results173; exact bodyPost_ret brq rfl ⟨rfl, tq1⟩)

theorem absoluteBy_2 (h : Tn B s w0 w) (i : Int) (i1 : 0 ≤ i) (i2 : i < 256) (hk : s.step = 2) :
    Calls Tryz.prog 173 #[.pointer (some ⟨B, 0, none⟩), .int .u8 i] w fun e w' => e = .returned (s.absoluteBy i).2.val ∧ Tn B (s.absoluteBy i).1 w0 w' := by
  have c_step := h.c.cstep; obtain ⟨l_step, u_step⟩ := h.c.rstep; have c_pc := h.c.cpc; obtain ⟨l_pc, u_pc⟩ := h.c.rpc
  have hu : Hid (s.absoluteBy i = takeHigh s.readNext) := by show _ = _; unfold PC.absoluteBy; rw [if_neg (by rw [hk]; decide), if_pos hk]
  rw [hu.out]
  rw [hk] at c_step
  have _ := i1
  have _ := i2
  obtain ⟨hlt, hsz, n0, m0, fz0, -⟩ := h.pre
  go_enter Tryz.func173, Tryz.ntmps173
  go_wp2_with (first | (go_at_call 169; refine Ck.go w0 w.heap.size kq6 (fun h => readNext_any h) ?_; intro w1 k; intros; have c_pc := k.c.cpc; obtain ⟨l_pc, u_pc⟩ := k.c.rpc; (try simp only [BusI.val])) | (go_at_call 172; refine Ck.go w0 w.heap.size kq6 (fun h => takeHigh_any h ⟨_, _, _, _⟩) ?_; intro w1 k; intros; have c_pc := k.c.cpc; obtain ⟨l_pc, u_pc⟩ := k.c.rpc; (try simp only [BusI.val])))
  all_goals (have hr := Tryz.results173; exact bodyPost_ret brq rfl ⟨rfl, tq1⟩)

theorem absoluteBy_d (h : Tn B s w0 w) (i : Int) (i1 : 0 ≤ i) (i2 : i < 256) (hk1 : (s.step == 1) = false) (hk2 : (s.step == 2) = false) :
    Calls Tryz.prog 173 #[.pointer (some ⟨B, 0, none⟩), .int .u8 i] w fun e w' => e = .returned (s.absoluteBy i).2.val ∧ Tn B (s.absoluteBy i).1 w0 w' := by
  have c_step := h.c.cstep; obtain ⟨l_step, u_step⟩ := h.c.rstep; have c_pc := h.c.cpc; obtain ⟨l_pc, u_pc⟩ := h.c.rpc
  have hu : Hid (s.absoluteBy i = s.indexed i) := by show _ = _; unfold PC.absoluteBy; rw [if_neg (by simpa using hk1), if_neg (by simpa using hk2)]
  rw [hu.out]
  have _ := i1
  have _ := i2
  obtain ⟨hlt, hsz, n0, m0, fz0, -⟩ := h.pre
  go_enter Tryz.func173, Tryz.ntmps173
  go_wp2_with (first | (go_at_call 176; refine Ck.go w0 w.heap.size kq6 (fun h => indexed_any h _ nq5 nq5) ?_; intro w1 k; intros; have c_pc := k.c.cpc; obtain ⟨l_pc, u_pc⟩ := k.c.rpc; (try simp only [BusI.val])))
  all_goals (have hr := Tryz.results173; exact bodyPost_ret brq rfl ⟨rfl, tq1⟩)

theorem absoluteBy_any (h : Tn B s w0 w) (i : Int) (i1 : 0 ≤ i) (i2 : i < 256) :
    Calls Tryz.prog 173 #[.pointer (some ⟨B, 0, none⟩), .int .u8 i] w fun e w' => e = .returned (s.absoluteBy i).2.val ∧ Tn B (s.absoluteBy i).1 w0 w' := by
  by_cases e1 : s.step = 1
  · exact absoluteBy_1 h i i1 i2 e1
  by_cases e2 : s.step = 2
  · exact absoluteBy_2 h i i1 i2 e2
  exact absoluteBy_d h i i1 i2 (by simpa using e1) (by simpa using e2)

theorem absoluteX_any (h : Tn B s w0 w) :
    Calls Tryz.prog 118 #[.pointer (some ⟨B, 0, none⟩)] w fun e w' => e = .returned (s.absoluteBy s.x).2.val ∧ Tn B (s.absoluteBy s.x).1 w0 w' := by
  have c_x := h.c.cx; obtain ⟨l_x, u_x⟩ := h.c.rx
  obtain ⟨hlt, hsz, n0, m0, fz0, -⟩ := h.pre
  go_enter Tryz.func118, Tryz.ntmps118
  go_wp2_with (first | (go_at_call 173; refine Ck.go w0 w.heap.size kq6 (fun h => absoluteBy_any h _ nq5 nq5) ?_; intro w1 k; intros; (try simp only [BusI.val])))
  all_goals (have hr := Tryz.results118; exact bodyPost_ret brq rfl ⟨rfl, tq1⟩)

theorem absoluteY_any (h : Tn B s w0 w) :
    Calls Tryz.prog 119 #[.pointer (some ⟨B, 0, none⟩)] w fun e w' => e = .returned (s.absoluteBy s.y).2.val ∧ Tn B (s.absoluteBy s.y).1 w0 w' := by
  have c_y := h.c.cy; obtain ⟨l_y, u_y⟩ := h.c.ry
  obtain ⟨hlt, hsz, n0, m0, fz0, -⟩ := h.pre
  go_enter Tryz.func119, Tryz.ntmps119
  go_wp2_with (first | (go_at_call 173; refine Ck.go w0 w.heap.size kq6 (fun h => absoluteBy_any h _ nq5 nq5) ?_; intro w1 k; intros; (try simp only [BusI.val])))
  all_goals (have hr := Tryz.results119; exact bodyPost_ret brq rfl ⟨rfl, tq1⟩)
end

/-
  What was laid in a function's own blocks lies there still behind a call that only lays new ones.
-/
section
theorem own3 {w w1 : World} {a b c : Obj} (hb : Below (((w.alloc a).alloc b).alloc c).heap.size (((w.alloc a).alloc b).alloc c) w1) :
    w1.heap[w.heap.size]? = some a ∧ w1.heap[w.heap.size + 1]? = some b ∧ w1.heap[w.heap.size + 1 + 1]? = some c ∧ w.heap.size + 1 + 1 < w1.heap.size ∧ Below w.heap.size w w1 := by
  have s := hb.size
  simp only [World.size_alloc] at s
  refine ⟨(hb.block _ (by simp only [World.size_alloc]; omega)).trans ?_, (hb.block _ (by simp only [World.size_alloc]; omega)).trans ?_, (hb.block _ (by simp only [World.size_alloc]; omega)).trans ?_, by omega, ?_⟩
  · rw [Below.heap_alloc _ _ _ (by simp only [World.size_alloc]; omega), Below.heap_alloc _ _ _ (by simp only [World.size_alloc]; omega)]; exact heap_alloc_new w a
  · rw [Below.heap_alloc _ _ _ (by simp only [World.size_alloc]; omega)]; have := heap_alloc_new (w.alloc a) b; rwa [World.size_alloc] at this
  · have := heap_alloc_new ((w.alloc a).alloc b) c; rwa [World.size_alloc, World.size_alloc] at this
  · exact ((((Below.refl _ _).alloc (Nat.le_refl _) a).alloc (by simp only [World.size_alloc]; omega) b).alloc (by simp only [World.size_alloc]; omega) c).trans (hb.mono (by simp only [World.size_alloc]; omega))
theorem own4 {w w1 : World} {a b c d : Obj} (hb : Below ((((w.alloc a).alloc b).alloc c).alloc d).heap.size ((((w.alloc a).alloc b).alloc c).alloc d) w1) :
    w1.heap[w.heap.size]? = some a ∧ w1.heap[w.heap.size + 1]? = some b ∧ w1.heap[w.heap.size + 1 + 1]? = some c ∧ w1.heap[w.heap.size + 1 + 1 + 1]? = some d ∧ w.heap.size + 1 + 1 + 1 < w1.heap.size ∧ Below w.heap.size w w1 := by
  have h := own3 (w := w.alloc a) hb
  have s : (w.alloc a).heap.size = w.heap.size + 1 := World.size_alloc _ _
  rw [s] at h
  have k := h.2.2.2.2
  refine ⟨(k.block _ (by omega)).trans (heap_alloc_new w a), h.1, h.2.1, h.2.2.1, by omega, ?_⟩
  exact ((Below.refl _ _).alloc (Nat.le_refl _) a).trans (k.mono (by omega))
theorem row2 {w : World} {n : Nat} {v0 v1 : Value} {t : TypeId} (h : w.heap[n]? = some (.cells #[v0, v1] t (0, 0))) :
    w.cell? ⟨n, 0, none⟩ = some v0 ∧ w.cell? ⟨n, 1, none⟩ = some v1 ∧ ∀ o, w.frozen? ⟨n, o, none⟩ = false :=
  ⟨by rw [cell_of_row _ _ _ _ _ _ h]; rfl, by rw [cell_of_row _ _ _ _ _ _ h]; rfl, fun o => by unfold World.frozen?; rw [h]; simp⟩
theorem row4 {w : World} {n : Nat} {v0 v1 v2 v3 : Value} {t : TypeId} (h : w.heap[n]? = some (.cells #[v0, v1, v2, v3] t (0, 0))) :
    w.cell? ⟨n, 0, none⟩ = some v0 ∧ w.cell? ⟨n, 1, none⟩ = some v1 ∧ w.cell? ⟨n, 2, none⟩ = some v2 ∧ w.cell? ⟨n, 3, none⟩ = some v3 ∧ ∀ o, w.frozen? ⟨n, o, none⟩ = false :=
  ⟨by rw [cell_of_row _ _ _ _ _ _ h]; rfl, by rw [cell_of_row _ _ _ _ _ _ h]; rfl, by rw [cell_of_row _ _ _ _ _ _ h]; rfl, by rw [cell_of_row _ _ _ _ _ _ h]; rfl, fun o => by unfold World.frozen?; rw [h]; simp⟩
theorem row8 {w : World} {n : Nat} {v0 v1 v2 v3 v4 v5 v6 v7 : Value} {t : TypeId} (h : w.heap[n]? = some (.cells #[v0, v1, v2, v3, v4, v5, v6, v7] t (0, 0))) :
    w.cell? ⟨n, 0, none⟩ = some v0 ∧ w.cell? ⟨n, 1, none⟩ = some v1 ∧ w.cell? ⟨n, 2, none⟩ = some v2 ∧ w.cell? ⟨n, 3, none⟩ = some v3 ∧ w.cell? ⟨n, 4, none⟩ = some v4 ∧ w.cell? ⟨n, 5, none⟩ = some v5 ∧ w.cell? ⟨n, 6, none⟩ = some v6 ∧ w.cell? ⟨n, 7, none⟩ = some v7 ∧ ∀ o, w.frozen? ⟨n, o, none⟩ = false :=
  ⟨by rw [cell_of_row _ _ _ _ _ _ h]; rfl, by rw [cell_of_row _ _ _ _ _ _ h]; rfl, by rw [cell_of_row _ _ _ _ _ _ h]; rfl, by rw [cell_of_row _ _ _ _ _ _ h]; rfl, by rw [cell_of_row _ _ _ _ _ _ h]; rfl, by rw [cell_of_row _ _ _ _ _ _ h]; rfl, by rw [cell_of_row _ _ _ _ _ _ h]; rfl, by rw [cell_of_row _ _ _ _ _ _ h]; rfl, fun o => by unfold World.frozen?; rw [h]; simp⟩
end

/-
  Behind a draw and a call that only lays new blocks.
-/
section
theorem held_r {W w1 : World} (hb : Below W.drew.heap.size W.drew w1) : (∀ n i, n < W.heap.size → w1.cell? ⟨n, i, none⟩ = W.cell? ⟨n, i, none⟩) ∧ (∀ n i, n < W.heap.size → w1.frozen? ⟨n, i, none⟩ = W.frozen? ⟨n, i, none⟩) ∧ W.heap.size ≤ w1.heap.size ∧ Below W.heap.size W w1 :=
  ⟨fun n i hn => World.cell?_of_block (a := ⟨n, i, none⟩) (hb.block n hn), fun n i hn => World.frozen?_of_block (a := ⟨n, i, none⟩) (hb.block n hn), hb.size, hb.os, hb.tape, hb.output, hb.size, hb.block⟩
end

end Go.Proofs.YtcgjliflnnklnaaGreat
