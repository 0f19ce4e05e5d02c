/-
  Joined texts.
-/
import Derived.Handy
import Derived.Test.YtcgjliflnnklnaaGreatJ01
import Derived.Test.YtcgjliflnnklnaaGreatJ02
namespace Go.Proofs.YtcgjliflnnklnaaGreat
open Go.RowKit

/-
  The document's computer, walked: its small parts.
-/
section
set_option maxRecDepth 100000
set_option maxHeartbeats 400000

def RG.val (r : RG) : Value := .agg #[.int .i64 r.A, .int .i64 r.X, .int .i64 r.Y, .int .i64 r.S, .int .i64 r.P, .int .i64 r.PC, .int .i64 r.cyc, .bool r.jam]
def Act.val (a : Act) : Value := .agg #[.int .i64 a.addr, .bool a.wr, .int .i64 a.data, .bool a.ft]
def cdV (op md : BA) : Value := .agg #[.string op, .string md]
/-- What a rule hands back. -/
def ruleV (q : Act × Bool) : Value := .tuple #[q.1.val, .bool q.2]
theorem bw_alloc {w w' : World} (h : Below w.heap.size w w') (o : Obj) : Below w.heap.size w (w'.alloc o) := h.alloc h.size o
theorem bw_drew {w w' : World} (h : Below w.heap.size w w') : Below w.heap.size w w'.drew := ⟨h.os, h.tape, h.output, h.size, h.block⟩
theorem bw_set {w w' : World} (h : Below w.heap.size w w') {b o : Nat} {v : Value} (hb : w.heap.size ≤ b) : Below w.heap.size w (w'.setCell ⟨b, o, none⟩ v) := h.setCell (p := ⟨b, o, none⟩) hb v
theorem bw_cell {W w1 : World} (hb : Below W.heap.size W w1) : (∀ b o, b < W.heap.size → w1.cell? ⟨b, o, none⟩ = W.cell? ⟨b, o, none⟩) ∧ (∀ b o, b < W.heap.size → w1.frozen? ⟨b, o, none⟩ = W.frozen? ⟨b, o, none⟩) :=
  ⟨fun b o h => hb.cell (p := ⟨b, o, none⟩) h, fun b o h => hb.frozen (p := ⟨b, o, none⟩) h⟩

theorem tmod_cut (n m : Int) (hm : 0 < m) : (n.tmod m < 0 ∧ n.tmod m + m = n % m) ∨ (¬ n.tmod m < 0 ∧ n.tmod m = n % m) := by
  have h1 := Int.emod_nonneg n (show m ≠ 0 by omega)
  have h2 := Int.emod_lt_of_pos n hm
  rw [Int.tmod_eq_emod]
  split
  · right; omega
  · left
    rename_i h
    have : n % m ≠ 0 := fun e => h (.inr (Int.dvd_of_emod_eq_zero e))
    have e : ((m.natAbs : Nat) : Int) = m := by omega
    omega

theorem rcut (m : Int) (hm : m = 256 ∨ m = 65536) (n : Int) (w : World) :
    Calls Tryz.prog 91 #[.int .i64 n, .int .i64 m] w fun e w' => e = .returned (.int .i64 (n % m)) ∧ w' = w := by
  have q := tmod_cut n m (by omega)
  have r1 := Int.emod_nonneg n (show m ≠ 0 by omega)
  have r2 := Int.emod_lt_of_pos n (show 0 < m by omega)
  rcases hm with rfl | rfl
  · generalize n % 256 = x at *
    generalize ht : n.tmod 256 = t at *
    rcases q with ⟨q1, q2⟩ | ⟨q1, q2⟩
    · go_enter Tryz.func91, Tryz.ntmps91
      go_wp2
      go_ret
      exact ⟨ret_int (by omega), rfl⟩
    · go_enter Tryz.func91, Tryz.ntmps91
      go_wp2
      go_ret
      exact ⟨ret_int (by omega), rfl⟩
  · generalize n % 65536 = x at *
    generalize ht : n.tmod 65536 = t at *
    rcases q with ⟨q1, q2⟩ | ⟨q1, q2⟩
    · go_enter Tryz.func91, Tryz.ntmps91
      go_wp2
      go_ret
      exact ⟨ret_int (by omega), rfl⟩
    · go_enter Tryz.func91, Tryz.ntmps91
      go_wp2
      go_ret
      exact ⟨ret_int (by omega), rfl⟩
theorem rcut8 (n : Int) (w : World) : Calls Tryz.prog 91 #[.int .i64 n, .int .i64 256] w fun e w' => e = .returned (.int .i64 (n % 256)) ∧ w' = w := rcut 256 (.inl rfl) n w
theorem rcut16 (n : Int) (w : World) : Calls Tryz.prog 91 #[.int .i64 n, .int .i64 65536] w fun e w' => e = .returned (.int .i64 (n % 65536)) ∧ w' = w := rcut 65536 (.inr rfl) n w

theorem rread (a : Int) (w : World) : Calls Tryz.prog 142 #[.int .i64 a] w fun e w' => e = .returned (ruleV (rdR a)) ∧ ∃ o, w' = w.alloc o := by
  go_enter Tryz.func142, Tryz.ntmps142
  go_wp2_with fail
  refine (rcut16 a _).mono ?_
  rintro e w' ⟨rfl, rfl⟩
  go_wp2
  refine bodyPost_ret (v := ruleV (rdR a)) (by simp [results, Tryz.results142, go_sem, ruleV, Act.val, rdR, *]) rfl (And.intro rfl ?_)
  exact ⟨_, rfl⟩
theorem rwrite (a d : Int) (w : World) : Calls Tryz.prog 143 #[.int .i64 a, .int .i64 d] w fun e w' => e = .returned (ruleV (wrR a d)) ∧ ∃ o, w' = w.alloc o := by
  go_enter Tryz.func143, Tryz.ntmps143
  go_wp2_with fail
  refine (rcut16 a _).mono ?_
  rintro e w' ⟨rfl, rfl⟩
  go_wp2
  refine bodyPost_ret (v := ruleV (wrR a d)) (by simp [results, Tryz.results143, go_sem, ruleV, Act.val, wrR, *]) rfl (And.intro rfl ?_)
  exact ⟨_, rfl⟩
theorem rdone (w : World) : Calls Tryz.prog 144 #[] w fun e w' => e = .returned (ruleV dnR) ∧ ∃ o, w' = w.alloc o := by
  go_enter Tryz.func144, Tryz.ntmps144
  go_wp2
  refine bodyPost_ret (v := ruleV dnR) (by simp [results, Tryz.results144, go_sem, ruleV, Act.val, dnR, Act.nil, *]) rfl (And.intro rfl ?_)
  exact ⟨_, rfl⟩
theorem rnz (p b : Int) (w : World) : Calls Tryz.prog 196 #[.int .i64 p, .int .i64 b] w fun e w' => e = .returned (.int .i64 (nzR p b)) ∧ w' = w := by
  unfold nzR i64and i64or
  dsimp only
  by_cases h1 : 127 < b
  · have h2 : ¬ b = 0 := by omega
    rw [if_pos h1, if_neg h2]
    go_enter Tryz.func196, Tryz.ntmps196
    go_wp2
    go_ret
    exact ⟨rfl, rfl⟩
  · by_cases h2 : b = 0
    · subst h2
      go_enter Tryz.func196, Tryz.ntmps196
      go_wp2
      go_ret
      exact ⟨rfl, rfl⟩
    · rw [if_neg h1, if_neg h2]
      go_enter Tryz.func196, Tryz.ntmps196
      go_wp2
      go_ret
      exact ⟨rfl, rfl⟩
theorem rcarry (p : Int) (c : Bool) (w : World) : Calls Tryz.prog 197 #[.int .i64 p, .bool c] w fun e w' => e = .returned (.int .i64 (carryR p c)) ∧ w' = w := by
  cases c
  · go_enter Tryz.func197, Tryz.ntmps197
    go_wp2
    go_ret
    exact ⟨rfl, rfl⟩
  · go_enter Tryz.func197, Tryz.ntmps197
    go_wp2
    go_ret
    exact ⟨rfl, rfl⟩
theorem rgoal (r : RG) (d : Int) (w : World) (h0 : 0 ≤ r.PC) (h1 : r.PC < 65536) (d0 : 0 ≤ d) (d1 : d < 256) : Calls Tryz.prog 154 #[r.val, .int .i64 d] w fun e w' => e = .returned (.int .i64 (goalR r d)) ∧ ∃ o, w' = w.alloc o := by
  obtain ⟨A, X, Y, S, P, PC, cyc, jam⟩ := r
  unfold RG.val goalR
  dsimp only at h0 h1 ⊢
  by_cases hd : 127 < d
  · rw [if_pos hd]
    go_enter Tryz.func154, Tryz.ntmps154
    go_wp2_with fail
    refine (rcut16 _ _).mono ?_
    rintro e w' ⟨rfl, rfl⟩
    go_wp2
    go_ret
    exact ⟨rfl, _, rfl⟩
  · rw [if_neg hd]
    go_enter Tryz.func154, Tryz.ntmps154
    go_wp2_with fail
    refine (rcut16 _ _).mono ?_
    rintro e w' ⟨rfl, rfl⟩
    go_wp2
    go_ret
    exact ⟨rfl, _, rfl⟩
end

/-
  The document's computer, walked: kinds, changes, sums.
-/
section
set_option maxRecDepth 100000
set_option maxHeartbeats 1000000

theorem ba_beq (a b : BA) : (a == b) = decide (a = b) := by
  cases a with
  | mk a => cases b with
    | mk b =>
      show (a == b) = _
      by_cases h : a = b
      · subst h; simp
      · rw [beq_eq_false_iff_ne.2 h, eq_comm, decide_eq_false_iff_not]
        intro e
        exact h (congrArg ByteArray.data e)
theorem tl_inj {a b : BA} (h : ByteArray.toList a = ByteArray.toList b) : a = b := by
  rw [Go.ByteArray.toList_eq, Go.ByteArray.toList_eq] at h
  cases a; cases b; exact congrArg ByteArray.mk (Array.ext' h)
theorem tl_no {a b : BA} (h : a ≠ b) : (ByteArray.toList a == ByteArray.toList b) = false := beq_eq_false_iff_ne.2 fun e => h (tl_inj e)
/-- Strings, as they lie. -/
def StrsAt (w : World) (b : Nat) (l : List BA) : Prop := ∀ i, (h : i < l.length) → w.cell? ⟨b, i, none⟩ = some (.string l[i])

theorem ramong (b cap n : Nat) (l : List BA) (x : BA) (w : World) (hn : l.length = n) (hl : n ≤ 100) (h : StrsAt w b l) :
    Calls Tryz.prog 151 #[.slice (some ⟨b, 0, none⟩) n cap, .string x] w fun e w' => e = .returned (.bool (l.any fun s => decide (s = x))) ∧ w' = w := by
  subst hn
  have HS : Hid (StrsAt w b l) := h
  clear h
  go_enter Tryz.func151, Tryz.ntmps151
  go_wp2_with fail
  go_loopw [5] (fun i wr => ∃ k : Nat, k ≤ l.length ∧ i = .int .i64 k ∧ (∀ j, (hj : j < k) → (hl : j < l.length) → l[j] ≠ x) ∧ wr = w) (fun i _ => l.length - (intOf i).toNat)
  case atStart => exact ⟨0, by omega, rfl, fun j hj => by omega, rfl⟩
  case round =>
    obtain ⟨k, hk, rfl, hno, rfl⟩ := hrel
    by_cases hlt : k < l.length
    · have c := HS.out k hlt
      have HNo : Hid (∀ j, (hj : j < k) → (hl : j < l.length) → l[j] ≠ x) := hno
      have hk1 : (k : Int) < (l.length : Int) := by omega
      clear hno
      obtain ⟨y, hy⟩ : ∃ y, l[k] = y := ⟨_, rfl⟩
      rw [hy] at c
      by_cases hx : y = x
      · subst hx
        go_wp2
        go_ret
        refine ⟨?_, rfl⟩
        rw [show (l.any fun s => decide (s = y)) = true from List.any_eq_true.2 ⟨l[k], List.getElem_mem _, by rw [hy]; simp⟩]
        rfl
      · have HY : Hid (l[k] ≠ x) := by rw [hy]; exact hx
        have hx2 := tl_no hx
        go_wp2
        go_roundw
        case rel => exact ⟨k + 1, by omega, by go_num, fun j hj hl => by
          rcases Nat.lt_succ_iff_lt_or_eq.1 hj with h | rfl
          · exact HNo.out j h hl
          · exact HY.out, trivial⟩
        case measure => simp [intOf]; omega
    · have e1 : k = l.length := by omega
      subst e1
      have HNo : Hid ((l.any fun s => decide (s = x)) = false) := by
        show _ = _
        rw [List.any_eq_false]
        intro s hs
        obtain ⟨j, hj, rfl⟩ := List.mem_iff_getElem.1 hs
        simpa using hno j hj hj
      clear hno
      go_wp2
      go_ret
      exact ⟨by rw [HNo.out]; rfl, rfl⟩

theorem strs_new (w : World) (l : List BA) (t : TypeId) : StrsAt (w.alloc (.cells (l.map Value.string).toArray t)) w.heap.size l := by
  intro i hi
  exact (World.cell?_alloc_at _ _ _ _ rfl).trans (by rw [List.getElem?_toArray, List.getElem?_map, List.getElem?_eq_getElem hi]; rfl)
def lW : List BA := [b3 83 84 65, b3 83 84 88, b3 83 84 89]
def lC : List BA := [b3 65 83 76, b3 76 83 82, b3 82 79 76, b3 82 79 82, b3 73 78 67, b3 68 69 67]
theorem isW_any (op : BA) : isW op = lW.any fun s => decide (s = op) := by
  unfold isW lW
  simp only [ba_beq, List.any_cons, List.any_nil, Bool.or_false, Bool.or_assoc, eq_comm (a := op)]
theorem isC_any (op : BA) : isC op = lC.any fun s => decide (s = op) := by
  unfold isC lC
  simp only [ba_beq, List.any_cons, List.any_nil, Bool.or_false, Bool.or_assoc, eq_comm (a := op)]

theorem rkind (op md : BA) (w : World) :
    Calls Tryz.prog 157 #[cdV op md] w fun e w' => e = .returned (.int .u8 (kindR op)) ∧ ∃ o1 o2 o3, w' = ((w.alloc o1).alloc o2).alloc o3 := by
  unfold cdV kindR
  rw [isW_any, isC_any]
  have A1 : ∀ (w : World) (t : TypeId) (b : Nat), b = w.heap.size → Calls Tryz.prog 151 #[.slice (some ⟨b, 0, none⟩) 3 3, .string op] (w.alloc (.cells #[.string ⟨#[83, 84, 65]⟩, .string ⟨#[83, 84, 88]⟩, .string ⟨#[83, 84, 89]⟩] t)) fun e w' => e = .returned (.bool (lW.any fun s => decide (s = op))) ∧ w' = w.alloc (.cells #[.string ⟨#[83, 84, 65]⟩, .string ⟨#[83, 84, 88]⟩, .string ⟨#[83, 84, 89]⟩] t) := fun w t b hb => by subst hb; exact ramong w.heap.size 3 3 lW op _ rfl (by decide) (strs_new w lW t)
  have A2 : ∀ (w : World) (t : TypeId) (b : Nat), b = w.heap.size → Calls Tryz.prog 151 #[.slice (some ⟨b, 0, none⟩) 6 6, .string op] (w.alloc (.cells #[.string ⟨#[65, 83, 76]⟩, .string ⟨#[76, 83, 82]⟩, .string ⟨#[82, 79, 76]⟩, .string ⟨#[82, 79, 82]⟩, .string ⟨#[73, 78, 67]⟩, .string ⟨#[68, 69, 67]⟩] t)) fun e w' => e = .returned (.bool (lC.any fun s => decide (s = op))) ∧ w' = w.alloc (.cells #[.string ⟨#[65, 83, 76]⟩, .string ⟨#[76, 83, 82]⟩, .string ⟨#[82, 79, 76]⟩, .string ⟨#[82, 79, 82]⟩, .string ⟨#[73, 78, 67]⟩, .string ⟨#[68, 69, 67]⟩] t) := fun w t b hb => by subst hb; exact ramong w.heap.size 6 6 lC op _ rfl (by decide) (strs_new w lC t)
  generalize (lW.any fun s => decide (s = op)) = x at *
  generalize (lC.any fun s => decide (s = op)) = y at *
  go_enter Tryz.func157, Tryz.ntmps157
  go_wp2_with fail
  with_reducible refine (A1 _ _ _ (by simp)).mono ?_
  rintro e w1 ⟨rfl, hw⟩
  subst hw
  go_wp2_with fail
  with_reducible refine (A2 _ _ _ (by simp)).mono ?_
  rintro e w1 ⟨rfl, hw⟩
  subst hw
  cases x <;> cases y
  all_goals
    go_wp2
    go_ret
    exact ⟨rfl, _, _, _, rfl⟩
end

/-
  The document's computer, walked: changes.
-/
section
set_option maxRecDepth 100000
set_option maxHeartbeats 1000000

theorem ch_asl (b p : Int) : changedR (b3 65 83 76) b p = (b * 2 % 256, nzR (carryR p (decide (127 < b))) (b * 2 % 256)) := rfl
theorem ch_rol (b p : Int) : changedR (b3 82 79 76) b p = (b * 2 % 256 + i64and p 1, nzR (carryR p (decide (127 < b))) (b * 2 % 256 + i64and p 1)) := rfl
theorem ch_lsr (b p : Int) : changedR (b3 76 83 82) b p = (b / 2, nzR (carryR p (b % 2 == 1)) (b / 2)) := rfl
theorem ch_ror (b p : Int) : changedR (b3 82 79 82) b p = (b / 2 + 128 * i64and p 1, nzR (carryR p (b % 2 == 1)) (b / 2 + 128 * i64and p 1)) := rfl
theorem ch_inc (b p : Int) : changedR (b3 73 78 67) b p = ((b + 1) % 256, nzR p ((b + 1) % 256)) := rfl
theorem ch_dec (b p : Int) : changedR (b3 68 69 67) b p = ((b - 1) % 256, nzR p ((b - 1) % 256)) := rfl
/-- What a change hands back. -/
def chV (q : Int × Int) : Value := .tuple #[.int .i64 q.1, .int .i64 q.2]
theorem and1_r (p : Int) (h0 : 0 ≤ p) (h1 : p < 256) : 0 ≤ i64and p 1 ∧ i64and p 1 ≤ 1 := by
  unfold i64and
  obtain ⟨n, rfl⟩ : ∃ n : Nat, p = n := ⟨p.toNat, by omega⟩
  have q := andi_nat n 1 (by omega) (by decide)
  rw [show ((1 : Nat) : Int) = 1 from rfl] at q
  rw [q, Nat.and_one_is_mod]
  omega

theorem chw_asl (b p : Int) (b0 : 0 ≤ b) (b1 : b < 256) (p0 : 0 ≤ p) (p1 : p < 256) (w : World) :
    Calls Tryz.prog 156 #[.string (b3 65 83 76), .int .i64 b, .int .i64 p] w fun e w' => e = .returned (chV (changedR (b3 65 83 76) b p)) ∧ w' = w := by
  rw [ch_asl]
  unfold chV b3
  have e1 : (b * 2).tmod 256 = b * 2 % 256 := Int.tmod_eq_emod_of_nonneg (by omega)
  have e2 : b.tmod 2 = b % 2 := Int.tmod_eq_emod_of_nonneg (by omega)
  have e3 : b.tdiv 2 = b / 2 := Int.tdiv_eq_ediv_of_nonneg (by omega)
  obtain ⟨a0, a1⟩ := and1_r p p0 p1
  unfold i64and at *
  generalize hA : bits .and .i64 p 1 = A at *
  go_enter Tryz.func156, Tryz.ntmps156
  go_wp2_with (first | (go_at_call 197; refine (rcarry _ _ _).mono ?_; rintro e w1 ⟨rfl, rfl⟩) | (go_at_call 196; refine (rnz _ _ _).mono ?_; rintro e w1 ⟨rfl, rfl⟩) | (go_at_call 91; refine (rcut8 _ _).mono ?_; rintro e w1 ⟨rfl, rfl⟩))
  go_ret2
  exact ⟨rfl, rfl⟩
theorem chw_rol (b p : Int) (b0 : 0 ≤ b) (b1 : b < 256) (p0 : 0 ≤ p) (p1 : p < 256) (w : World) :
    Calls Tryz.prog 156 #[.string (b3 82 79 76), .int .i64 b, .int .i64 p] w fun e w' => e = .returned (chV (changedR (b3 82 79 76) b p)) ∧ w' = w := by
  rw [ch_rol]
  unfold chV b3
  have e1 : (b * 2).tmod 256 = b * 2 % 256 := Int.tmod_eq_emod_of_nonneg (by omega)
  have e2 : b.tmod 2 = b % 2 := Int.tmod_eq_emod_of_nonneg (by omega)
  have e3 : b.tdiv 2 = b / 2 := Int.tdiv_eq_ediv_of_nonneg (by omega)
  obtain ⟨a0, a1⟩ := and1_r p p0 p1
  unfold i64and at *
  generalize hA : bits .and .i64 p 1 = A at *
  go_enter Tryz.func156, Tryz.ntmps156
  go_wp2_with (first | (go_at_call 197; refine (rcarry _ _ _).mono ?_; rintro e w1 ⟨rfl, rfl⟩) | (go_at_call 196; refine (rnz _ _ _).mono ?_; rintro e w1 ⟨rfl, rfl⟩) | (go_at_call 91; refine (rcut8 _ _).mono ?_; rintro e w1 ⟨rfl, rfl⟩))
  go_ret2
  exact ⟨rfl, rfl⟩
theorem chw_lsr (b p : Int) (b0 : 0 ≤ b) (b1 : b < 256) (p0 : 0 ≤ p) (p1 : p < 256) (w : World) :
    Calls Tryz.prog 156 #[.string (b3 76 83 82), .int .i64 b, .int .i64 p] w fun e w' => e = .returned (chV (changedR (b3 76 83 82) b p)) ∧ w' = w := by
  rw [ch_lsr]
  unfold chV b3
  have e1 : (b * 2).tmod 256 = b * 2 % 256 := Int.tmod_eq_emod_of_nonneg (by omega)
  have e2 : b.tmod 2 = b % 2 := Int.tmod_eq_emod_of_nonneg (by omega)
  have e3 : b.tdiv 2 = b / 2 := Int.tdiv_eq_ediv_of_nonneg (by omega)
  obtain ⟨a0, a1⟩ := and1_r p p0 p1
  unfold i64and at *
  generalize hA : bits .and .i64 p 1 = A at *
  go_enter Tryz.func156, Tryz.ntmps156
  go_wp2_with (first | (go_at_call 197; refine (rcarry _ _ _).mono ?_; rintro e w1 ⟨rfl, rfl⟩) | (go_at_call 196; refine (rnz _ _ _).mono ?_; rintro e w1 ⟨rfl, rfl⟩) | (go_at_call 91; refine (rcut8 _ _).mono ?_; rintro e w1 ⟨rfl, rfl⟩))
  go_ret2
  exact ⟨rfl, rfl⟩
theorem chw_ror (b p : Int) (b0 : 0 ≤ b) (b1 : b < 256) (p0 : 0 ≤ p) (p1 : p < 256) (w : World) :
    Calls Tryz.prog 156 #[.string (b3 82 79 82), .int .i64 b, .int .i64 p] w fun e w' => e = .returned (chV (changedR (b3 82 79 82) b p)) ∧ w' = w := by
  rw [ch_ror]
  unfold chV b3
  have e1 : (b * 2).tmod 256 = b * 2 % 256 := Int.tmod_eq_emod_of_nonneg (by omega)
  have e2 : b.tmod 2 = b % 2 := Int.tmod_eq_emod_of_nonneg (by omega)
  have e3 : b.tdiv 2 = b / 2 := Int.tdiv_eq_ediv_of_nonneg (by omega)
  obtain ⟨a0, a1⟩ := and1_r p p0 p1
  unfold i64and at *
  generalize hA : bits .and .i64 p 1 = A at *
  go_enter Tryz.func156, Tryz.ntmps156
  go_wp2_with (first | (go_at_call 197; refine (rcarry _ _ _).mono ?_; rintro e w1 ⟨rfl, rfl⟩) | (go_at_call 196; refine (rnz _ _ _).mono ?_; rintro e w1 ⟨rfl, rfl⟩) | (go_at_call 91; refine (rcut8 _ _).mono ?_; rintro e w1 ⟨rfl, rfl⟩))
  go_ret2
  exact ⟨rfl, rfl⟩
theorem chw_inc (b p : Int) (b0 : 0 ≤ b) (b1 : b < 256) (p0 : 0 ≤ p) (p1 : p < 256) (w : World) :
    Calls Tryz.prog 156 #[.string (b3 73 78 67), .int .i64 b, .int .i64 p] w fun e w' => e = .returned (chV (changedR (b3 73 78 67) b p)) ∧ w' = w := by
  rw [ch_inc]
  unfold chV b3
  have e1 : (b * 2).tmod 256 = b * 2 % 256 := Int.tmod_eq_emod_of_nonneg (by omega)
  have e2 : b.tmod 2 = b % 2 := Int.tmod_eq_emod_of_nonneg (by omega)
  have e3 : b.tdiv 2 = b / 2 := Int.tdiv_eq_ediv_of_nonneg (by omega)
  obtain ⟨a0, a1⟩ := and1_r p p0 p1
  unfold i64and at *
  generalize hA : bits .and .i64 p 1 = A at *
  go_enter Tryz.func156, Tryz.ntmps156
  go_wp2_with (first | (go_at_call 197; refine (rcarry _ _ _).mono ?_; rintro e w1 ⟨rfl, rfl⟩) | (go_at_call 196; refine (rnz _ _ _).mono ?_; rintro e w1 ⟨rfl, rfl⟩) | (go_at_call 91; refine (rcut8 _ _).mono ?_; rintro e w1 ⟨rfl, rfl⟩))
  go_ret2
  exact ⟨rfl, rfl⟩
theorem chw_dec (b p : Int) (b0 : 0 ≤ b) (b1 : b < 256) (p0 : 0 ≤ p) (p1 : p < 256) (w : World) :
    Calls Tryz.prog 156 #[.string (b3 68 69 67), .int .i64 b, .int .i64 p] w fun e w' => e = .returned (chV (changedR (b3 68 69 67) b p)) ∧ w' = w := by
  rw [ch_dec]
  unfold chV b3
  have e1 : (b * 2).tmod 256 = b * 2 % 256 := Int.tmod_eq_emod_of_nonneg (by omega)
  have e2 : b.tmod 2 = b % 2 := Int.tmod_eq_emod_of_nonneg (by omega)
  have e3 : b.tdiv 2 = b / 2 := Int.tdiv_eq_ediv_of_nonneg (by omega)
  obtain ⟨a0, a1⟩ := and1_r p p0 p1
  unfold i64and at *
  generalize hA : bits .and .i64 p 1 = A at *
  go_enter Tryz.func156, Tryz.ntmps156
  go_wp2_with (first | (go_at_call 197; refine (rcarry _ _ _).mono ?_; rintro e w1 ⟨rfl, rfl⟩) | (go_at_call 196; refine (rnz _ _ _).mono ?_; rintro e w1 ⟨rfl, rfl⟩) | (go_at_call 91; refine (rcut8 _ _).mono ?_; rintro e w1 ⟨rfl, rfl⟩))
  go_ret2
  exact ⟨rfl, rfl⟩
theorem rchanged (op : BA) (hop : op ∈ lC) (b p : Int) (b0 : 0 ≤ b) (b1 : b < 256) (p0 : 0 ≤ p) (p1 : p < 256) (w : World) :
    Calls Tryz.prog 156 #[.string op, .int .i64 b, .int .i64 p] w fun e w' => e = .returned (chV (changedR op b p)) ∧ w' = w := by
  unfold lC at hop
  simp only [List.mem_cons, List.not_mem_nil, or_false] at hop
  rcases hop with rfl | rfl | rfl | rfl | rfl | rfl
  · exact chw_asl b p b0 b1 p0 p1 w
  · exact chw_lsr b p b0 b1 p0 p1 w
  · exact chw_rol b p b0 b1 p0 p1 w
  · exact chw_ror b p b0 b1 p0 p1 w
  · exact chw_inc b p b0 b1 p0 p1 w
  · exact chw_dec b p b0 b1 p0 p1 w
end

/-
  The document's computer, walked: its table of opcodes.
-/
section
set_option maxRecDepth 100000
set_option maxHeartbeats 4000000

def lineV (e : Nat × BA × BA) : Value := .agg #[.int .i64 (e.1 : Nat), .string e.2.1, .string e.2.2]
def mk3 (d : Nat × Nat × BA × BA) : Oper := ⟨some (d.1 + 1), .build 267 #[(0, .const (.int .i64 (d.2.1 : Nat))), (1, .const (.string d.2.2.1)), (2, .const (.string d.2.2.2))], 267, "table.go:29", #[], none⟩
def step3 (a : Go.Act) (d : Nat × Nat × BA × BA) : Go.Act := a.put (some (d.1 + 1)) (lineV d.2)
def rdata : List (Nat × Nat × BA × BA) := (List.range 151).zip refTable
def rtabL : List Value := refTable.flatMap fun e => [.int .i64 (e.1 : Nat), .string e.2.1, .string e.2.2]
def rtabO : Obj := .cells rtabL.toArray 267 (0, 0)

theorem mk3_run (d : Nat × Nat × BA × BA) (a : Go.Act) (w : World) : (execOp a.eval (mk3 d)).run Tryz.prog w = .ok (.value (lineV d.2)) w := by
  obtain ⟨k, m, n, q⟩ := d
  kernel_rfl

theorem wpList_run3 {P : Program} {ops : Array Oper} {rest : List Oper} {op : Oper} {a : Go.Act} {w w' : World} {Q : Exit → Go.Act → World → Prop} (V : Value) (hgd : op.guard = none)
    (hv : (execOp a.eval op).run P w = .ok (.value V) w') (h : wpList P ops Q rest (a.put op.dst V) w') : wpList P ops Q (op :: rest) a w :=
  wpList_plain hgd fun K hK => by
    unfold Oper.wp
    rw [hv]
    exact hK _ _ h

theorem wpList_all3 {ops : Array Oper} {Q : Exit → Go.Act → World → Prop} {w : World} (rest : List Oper) : ∀ (l : List (Nat × Nat × BA × BA)) (a : Go.Act),
    wpList Tryz.prog ops Q rest (l.foldl step3 a) w → wpList Tryz.prog ops Q (l.map mk3 ++ rest) a w
  | [], _, h => h
  | d :: l, a, h => wpList_run3 (op := mk3 d) (lineV d.2) rfl (mk3_run d a w) (wpList_all3 rest l (step3 a d) h)

theorem wp_table3 {id : Nat} {ops : Array Oper} {Q : Exit → Go.Act → World → Prop} {a : Go.Act} {w : World} {V : Value} {o : Obj} (d : Oper)
    (e : ops.toList = rdata.map mk3 ++ [ops.toList.getD 151 d, ops.toList.getD 152 d])
    (g1 : (ops.toList.getD 151 d).guard = none) (v1 : (execOp (rdata.foldl step3 a).eval (ops.toList.getD 151 d)).run Tryz.prog w = .ok (.value V) (w.alloc o))
    (g2 : (ops.toList.getD 152 d).guard = none) (v2 : ∀ w, (execOp ((rdata.foldl step3 a).put (ops.toList.getD 151 d).dst V).eval (ops.toList.getD 152 d)).run Tryz.prog w = .ok (.value V) w)
    (h : Q .normal (((rdata.foldl step3 a).put (ops.toList.getD 151 d).dst V).put (ops.toList.getD 152 d).dst V) (w.alloc o)) : (Code.region id ops false).wp Tryz.prog Q a w := by
  refine wp_region_list ?_
  rw [e]
  refine wpList_all3 _ rdata a ?_
  refine wpList_run3 V g1 v1 ?_
  refine wpList_run3 V g2 (v2 _) ?_
  exact h

theorem rtable (w : World) : Calls Tryz.prog 195 #[] w fun e w' => e = .returned (.slice (some ⟨w.heap.size, 0, none⟩) 151 151) ∧ w' = w.alloc rtabO := by
  go_enter Tryz.func195, Tryz.ntmps195
  iterate 10 go_step
  refine wp_table3 (V := .slice (some ⟨w.heap.size, 0, none⟩) 151 151) (o := rtabO) ⟨none, .alloc 0, 0, "", #[], none⟩ ?e ?g1 ?v1 ?g2 ?v2 ?_
  case e => kernel_rfl
  case g1 => kernel_rfl
  case v1 => kernel_rfl
  case g2 => kernel_rfl
  case v2 => intro w; kernel_rfl
  generalize hA : (((rdata.foldl step3 _).put _ _).put _ _ : Go.Act) = A9
  have hr : A9.tmps[0]?.getD undef = .slice (some ⟨w.heap.size, 0, none⟩) 151 151 := by rw [← hA]; kernel_rfl
  have hd : A9.defers = [] := by rw [← hA]; kernel_rfl
  clear hA
  rename_i Q' K ha
  refine ha _ _ ?_
  go_step
  exact bodyPost_ret (v := .slice (some ⟨w.heap.size, 0, none⟩) 151 151) (by simp [results, Tryz.results195, go_sem, hr]) (by simp [hd]) ⟨rfl, rfl⟩
end

end Go.Proofs.YtcgjliflnnklnaaGreat
