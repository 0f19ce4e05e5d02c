/-
  Joined texts.
-/
import Derived.Deep.DeepCutAuto
import Derived.Test.YtcgjliflnnklnaaGreatJ01
import Derived.Test.YtcgjliflnnklnaaGreatJ02
import Derived.Test.YtcgjliflnnklnaaGreatCpCz
import Derived.Test.YtcgjliflnnklnaaGreatPBz
import Derived.Test.YtcgjliflnnklnaaGreatCpUz
namespace Go.Proofs.YtcgjliflnnklnaaGreat
open Go.RowKit

/-
  The document's computer, walked: its small parts.
-/
section
set_option maxRecDepth 100000
set_option maxHeartbeats 400000

def RG.val (r : RG) : Value := .agg #[.int .i64 r.A, .int .i64 r.X, .int .i64 r.Y, .int .i64 r.S, .int .i64 r.P, .int .i64 r.PC, .int .i64 r.cyc, .bool r.jam]
def Act.val (a : Act) : Value := .agg #[.int .i64 a.addr, .bool a.wr, .int .i64 a.data, .bool a.ft]
def cdV (op md : BA) : Value := .agg #[.string op, .string md]
/-- What a rule hands back. -/
def ruleV (q : Act × Bool) : Value := .tuple #[q.1.val, .bool q.2]
theorem bw_alloc {w w' : World} (h : Below w.heap.size w w') (o : Obj) : Below w.heap.size w (w'.alloc o) := h.alloc h.size o
theorem bw_drew {w w' : World} (h : Below w.heap.size w w') : Below w.heap.size w w'.drew := ⟨h.os, h.tape, h.output, h.size, h.block⟩
theorem bw_set {w w' : World} (h : Below w.heap.size w w') {b o : Nat} {v : Value} (hb : w.heap.size ≤ b) : Below w.heap.size w (w'.setCell ⟨b, o, none⟩ v) := h.setCell (p := ⟨b, o, none⟩) hb v
theorem bw_cell {W w1 : World} (hb : Below W.heap.size W w1) : (∀ b o, b < W.heap.size → w1.cell? ⟨b, o, none⟩ = W.cell? ⟨b, o, none⟩) ∧ (∀ b o, b < W.heap.size → w1.frozen? ⟨b, o, none⟩ = W.frozen? ⟨b, o, none⟩) :=
  ⟨fun b o h => hb.cell (p := ⟨b, o, none⟩) h, fun b o h => hb.frozen (p := ⟨b, o, none⟩) h⟩

theorem tmod_cut (n m : Int) (hm : 0 < m) : (n.tmod m < 0 ∧ n.tmod m + m = n % m) ∨ (¬ n.tmod m < 0 ∧ n.tmod m = n % m) := by
  have h1 := Int.emod_nonneg n (show m ≠ 0 by omega)
  have h2 := Int.emod_lt_of_pos n hm
  rw [Int.tmod_eq_emod]
  split
  · right; omega
  · left
    rename_i h
    have : n % m ≠ 0 := fun e => h (.inr (Int.dvd_of_emod_eq_zero e))
    have e : ((m.natAbs : Nat) : Int) = m := by omega
    omega

theorem rcut (m : Int) (hm : m = 256 ∨ m = 65536) (n : Int) (w : World) :
    Calls Tryz.prog 91 #[.int .i64 n, .int .i64 m] w fun e w' => e = .returned (.int .i64 (n % m)) ∧ w' = w := by
  have q := tmod_cut n m (by omega)
  have r1 := Int.emod_nonneg n (show m ≠ 0 by omega)
  have r2 := Int.emod_lt_of_pos n (show 0 < m by omega)
  rcases hm with rfl | rfl
  · generalize n % 256 = x at *
    generalize ht : n.tmod 256 = t at *
    rcases q with ⟨q1, q2⟩ | ⟨q1, q2⟩
    · go_enter Tryz.func91, Tryz.ntmps91
      go_wp2
      go_ret
      exact ⟨ret_int (by omega), rfl⟩
    · go_enter Tryz.func91, Tryz.ntmps91
      go_wp2
      go_ret
      exact ⟨ret_int (by omega), rfl⟩
  · generalize n % 65536 = x at *
    generalize ht : n.tmod 65536 = t at *
    rcases q with ⟨q1, q2⟩ | ⟨q1, q2⟩
    · go_enter Tryz.func91, Tryz.ntmps91
      go_wp2
      go_ret
      exact ⟨ret_int (by omega), rfl⟩
    · go_enter Tryz.func91, Tryz.ntmps91
      go_wp2
      go_ret
      exact ⟨ret_int (by omega), rfl⟩
theorem rcut8 (n : Int) (w : World) : Calls Tryz.prog 91 #[.int .i64 n, .int .i64 256] w fun e w' => e = .returned (.int .i64 (n % 256)) ∧ w' = w := rcut 256 (.inl rfl) n w
theorem rcut16 (n : Int) (w : World) : Calls Tryz.prog 91 #[.int .i64 n, .int .i64 65536] w fun e w' => e = .returned (.int .i64 (n % 65536)) ∧ w' = w := rcut 65536 (.inr rfl) n w

theorem rread (a : Int) (w : World) : Calls Tryz.prog 142 #[.int .i64 a] w fun e w' => e = .returned (ruleV (rdR a)) ∧ ∃ o, w' = w.alloc o := by
  go_enter Tryz.func142, Tryz.ntmps142
  go_wp2_with fail
  refine (rcut16 a _).mono ?_
  rintro e w' ⟨rfl, rfl⟩
  go_wp2
  refine bodyPost_ret (v := ruleV (rdR a)) (by simp [results, Tryz.results142, go_sem, ruleV, Act.val, rdR, *]) rfl (And.intro rfl ?_)
  exact ⟨_, rfl⟩
theorem rwrite (a d : Int) (w : World) : Calls Tryz.prog 143 #[.int .i64 a, .int .i64 d] w fun e w' => e = .returned (ruleV (wrR a d)) ∧ ∃ o, w' = w.alloc o := by
  go_enter Tryz.func143, Tryz.ntmps143
  go_wp2_with fail
  refine (rcut16 a _).mono ?_
  rintro e w' ⟨rfl, rfl⟩
  go_wp2
  refine bodyPost_ret (v := ruleV (wrR a d)) (by simp [results, Tryz.results143, go_sem, ruleV, Act.val, wrR, *]) rfl (And.intro rfl ?_)
  exact ⟨_, rfl⟩
theorem rdone (w : World) : Calls Tryz.prog 144 #[] w fun e w' => e = .returned (ruleV dnR) ∧ ∃ o, w' = w.alloc o := by
  go_enter Tryz.func144, Tryz.ntmps144
  go_wp2
  refine bodyPost_ret (v := ruleV dnR) (by simp [results, Tryz.results144, go_sem, ruleV, Act.val, dnR, Act.nil, *]) rfl (And.intro rfl ?_)
  exact ⟨_, rfl⟩
theorem rnz (p b : Int) (w : World) : Calls Tryz.prog 196 #[.int .i64 p, .int .i64 b] w fun e w' => e = .returned (.int .i64 (nzR p b)) ∧ w' = w := by
  unfold nzR i64and i64or
  dsimp only
  by_cases h1 : 127 < b
  · have h2 : ¬ b = 0 := by omega
    rw [if_pos h1, if_neg h2]
    go_enter Tryz.func196, Tryz.ntmps196
    go_wp2
    go_ret
    exact ⟨rfl, rfl⟩
  · by_cases h2 : b = 0
    · subst h2
      go_enter Tryz.func196, Tryz.ntmps196
      go_wp2
      go_ret
      exact ⟨rfl, rfl⟩
    · rw [if_neg h1, if_neg h2]
      go_enter Tryz.func196, Tryz.ntmps196
      go_wp2
      go_ret
      exact ⟨rfl, rfl⟩
theorem rcarry (p : Int) (c : Bool) (w : World) : Calls Tryz.prog 197 #[.int .i64 p, .bool c] w fun e w' => e = .returned (.int .i64 (carryR p c)) ∧ w' = w := by
  cases c
  · go_enter Tryz.func197, Tryz.ntmps197
    go_wp2
    go_ret
    exact ⟨rfl, rfl⟩
  · go_enter Tryz.func197, Tryz.ntmps197
    go_wp2
    go_ret
    exact ⟨rfl, rfl⟩
theorem rgoal (r : RG) (d : Int) (w : World) (h0 : 0 ≤ r.PC) (h1 : r.PC < 65536) (d0 : 0 ≤ d) (d1 : d < 256) : Calls Tryz.prog 154 #[r.val, .int .i64 d] w fun e w' => e = .returned (.int .i64 (goalR r d)) ∧ ∃ o, w' = w.alloc o := by
  obtain ⟨A, X, Y, S, P, PC, cyc, jam⟩ := r
  unfold RG.val goalR
  dsimp only at h0 h1 ⊢
  by_cases hd : 127 < d
  · rw [if_pos hd]
    go_enter Tryz.func154, Tryz.ntmps154
    go_wp2_with fail
    refine (rcut16 _ _).mono ?_
    rintro e w' ⟨rfl, rfl⟩
    go_wp2
    go_ret
    exact ⟨rfl, _, rfl⟩
  · rw [if_neg hd]
    go_enter Tryz.func154, Tryz.ntmps154
    go_wp2_with fail
    refine (rcut16 _ _).mono ?_
    rintro e w' ⟨rfl, rfl⟩
    go_wp2
    go_ret
    exact ⟨rfl, _, rfl⟩
end

/-
  The world in the midst of a mode's cycle: the computer, what was there ahead, and the cell of the result.
-/
section
/-- The computer in B is s; nothing that was there in w0 has turned but B; the result's cell lies in R, empty yet. -/
structure Ck (w0 : World) (B R : Nat) (s : PC) (W : World) : Prop where
  c : CAt W B s
  g : w0.grownBy W (some B)
  r : W.heap[R]? = some (.cells #[.int .i64 0, .int .i64 0, .bool false, .bool false] 53 (0, 0))
  ne : R ≠ B
  le : w0.heap.size ≤ R

theorem Tn.other {w0 w : World} {B b o : Nat} {v : Value} {s : PC} (h : Tn B s w0 w) (hne : b ≠ B) (hb : w0.heap.size ≤ b) : Tn B s w0 (w.setCell ⟨b, o, none⟩ v) := ⟨h.c.other hne, G.other h.g hb⟩
theorem Ck.t {w0 W : World} {B R : Nat} {s : PC} (k : Ck w0 B R s W) : Tn B s w0 W := ⟨k.c, k.g⟩
theorem Ck.lt {w0 W : World} {B R : Nat} {s : PC} (k : Ck w0 B R s W) : R < W.heap.size := by
  by_cases e : R < W.heap.size
  · exact e
  · have h := k.r; rw [Array.getElem?_eq_none (by omega)] at h; cases h
theorem Ck.mk' {w0 w : World} {B R : Nat} {s : PC} (h : Tn B s w0 w) (hR : w.heap.size = R) : Ck w0 B R s (w.alloc (.cells #[.int .i64 0, .int .i64 0, .bool false, .bool false] 53)) :=
  ⟨h.c.alloc, G.alloc h.g, four_new' hR, by have := h.c.lt; omega, by have := h.g.size; omega⟩
theorem Ck.drew {w0 W : World} {B R : Nat} {s : PC} (k : Ck w0 B R s W) : Ck w0 B R s W.drew := ⟨k.c.drew, G.drew k.g, k.r, k.ne, k.le⟩
theorem Ck.alloc {w0 W : World} {B R : Nat} {s : PC} {o : Obj} (k : Ck w0 B R s W) : Ck w0 B R s (W.alloc o) := ⟨k.c.alloc, G.alloc k.g, four_alloc k.r, k.ne, k.le⟩
theorem Ck.other {w0 W : World} {B R b o : Nat} {v : Value} {s : PC} (k : Ck w0 B R s W) (hne : b ≠ B) (hnr : b ≠ R) (hb : w0.heap.size ≤ b) : Ck w0 B R s (W.setCell ⟨b, o, none⟩ v) :=
  ⟨k.c.other hne, G.other k.g hb, four_set k.r hnr, k.ne, k.le⟩

theorem Ck.setRom {w0 W : World} {B R : Nat} {s : PC} {v : Int} (k : Ck w0 B R s W) (hv : 0 ≤ v ∧ v < 65537) : Ck w0 B R { s with rom := v } (W.setCell ⟨B, 65536, none⟩ (.int .i64 v)) := ⟨k.c.setRom v hv, G.set k.g, four_set k.r (fun e => k.ne e.symm), k.ne, k.le⟩
theorem Ck.setCnt {w0 W : World} {B R : Nat} {s : PC} {v : Int} (k : Ck w0 B R s W) (hv : 0 ≤ v ∧ v < 256) : Ck w0 B R { s with cnt := v } (W.setCell ⟨B, 65537, none⟩ (.int .u8 v)) := ⟨k.c.setCnt v hv, G.set k.g, four_set k.r (fun e => k.ne e.symm), k.ne, k.le⟩
theorem Ck.setCalls {w0 W : World} {B R : Nat} {s : PC} {v : Bool} (k : Ck w0 B R s W) : Ck w0 B R { s with calls := v } (W.setCell ⟨B, 65538, none⟩ (.bool v)) := ⟨k.c.setCalls v, G.set k.g, four_set k.r (fun e => k.ne e.symm), k.ne, k.le⟩
theorem Ck.setA {w0 W : World} {B R : Nat} {s : PC} {v : Int} (k : Ck w0 B R s W) (hv : 0 ≤ v ∧ v < 256) : Ck w0 B R { s with a := v } (W.setCell ⟨B, 65539, none⟩ (.int .u8 v)) := ⟨k.c.setA v hv, G.set k.g, four_set k.r (fun e => k.ne e.symm), k.ne, k.le⟩
theorem Ck.setX {w0 W : World} {B R : Nat} {s : PC} {v : Int} (k : Ck w0 B R s W) (hv : 0 ≤ v ∧ v < 256) : Ck w0 B R { s with x := v } (W.setCell ⟨B, 65540, none⟩ (.int .u8 v)) := ⟨k.c.setX v hv, G.set k.g, four_set k.r (fun e => k.ne e.symm), k.ne, k.le⟩
theorem Ck.setY {w0 W : World} {B R : Nat} {s : PC} {v : Int} (k : Ck w0 B R s W) (hv : 0 ≤ v ∧ v < 256) : Ck w0 B R { s with y := v } (W.setCell ⟨B, 65541, none⟩ (.int .u8 v)) := ⟨k.c.setY v hv, G.set k.g, four_set k.r (fun e => k.ne e.symm), k.ne, k.le⟩
theorem Ck.setS {w0 W : World} {B R : Nat} {s : PC} {v : Int} (k : Ck w0 B R s W) (hv : 0 ≤ v ∧ v < 256) : Ck w0 B R { s with s := v } (W.setCell ⟨B, 65542, none⟩ (.int .u8 v)) := ⟨k.c.setS v hv, G.set k.g, four_set k.r (fun e => k.ne e.symm), k.ne, k.le⟩
theorem Ck.setP {w0 W : World} {B R : Nat} {s : PC} {v : Int} (k : Ck w0 B R s W) (hv : 0 ≤ v ∧ v < 256) : Ck w0 B R { s with p := v } (W.setCell ⟨B, 65543, none⟩ (.int .u8 v)) := ⟨k.c.setP v hv, G.set k.g, four_set k.r (fun e => k.ne e.symm), k.ne, k.le⟩
theorem Ck.setPc {w0 W : World} {B R : Nat} {s : PC} {v : Int} (k : Ck w0 B R s W) (hv : 0 ≤ v ∧ v < 65536) : Ck w0 B R { s with pc := v } (W.setCell ⟨B, 65544, none⟩ (.int .u16 v)) := ⟨k.c.setPc v hv, G.set k.g, four_set k.r (fun e => k.ne e.symm), k.ne, k.le⟩
theorem Ck.setBa {w0 W : World} {B R : Nat} {s : PC} {v : Int} (k : Ck w0 B R s W) (hv : 0 ≤ v ∧ v < 256) : Ck w0 B R { s with ba := v } (W.setCell ⟨B, 65545, none⟩ (.int .u8 v)) := ⟨k.c.setBa v hv, G.set k.g, four_set k.r (fun e => k.ne e.symm), k.ne, k.le⟩
theorem Ck.setBx {w0 W : World} {B R : Nat} {s : PC} {v : Int} (k : Ck w0 B R s W) (hv : 0 ≤ v ∧ v < 256) : Ck w0 B R { s with bx := v } (W.setCell ⟨B, 65546, none⟩ (.int .u8 v)) := ⟨k.c.setBx v hv, G.set k.g, four_set k.r (fun e => k.ne e.symm), k.ne, k.le⟩
theorem Ck.setB_y {w0 W : World} {B R : Nat} {s : PC} {v : Int} (k : Ck w0 B R s W) (hv : 0 ≤ v ∧ v < 256) : Ck w0 B R { s with b_y := v } (W.setCell ⟨B, 65547, none⟩ (.int .u8 v)) := ⟨k.c.setB_y v hv, G.set k.g, four_set k.r (fun e => k.ne e.symm), k.ne, k.le⟩
theorem Ck.setBs {w0 W : World} {B R : Nat} {s : PC} {v : Int} (k : Ck w0 B R s W) (hv : 0 ≤ v ∧ v < 256) : Ck w0 B R { s with bs := v } (W.setCell ⟨B, 65548, none⟩ (.int .u8 v)) := ⟨k.c.setBs v hv, G.set k.g, four_set k.r (fun e => k.ne e.symm), k.ne, k.le⟩
theorem Ck.setBp {w0 W : World} {B R : Nat} {s : PC} {v : Int} (k : Ck w0 B R s W) (hv : 0 ≤ v ∧ v < 256) : Ck w0 B R { s with bp := v } (W.setCell ⟨B, 65549, none⟩ (.int .u8 v)) := ⟨k.c.setBp v hv, G.set k.g, four_set k.r (fun e => k.ne e.symm), k.ne, k.le⟩
theorem Ck.setBpc {w0 W : World} {B R : Nat} {s : PC} {v : Int} (k : Ck w0 B R s W) (hv : 0 ≤ v ∧ v < 65536) : Ck w0 B R { s with bpc := v } (W.setCell ⟨B, 65550, none⟩ (.int .u16 v)) := ⟨k.c.setBpc v hv, G.set k.g, four_set k.r (fun e => k.ne e.symm), k.ne, k.le⟩
theorem Ck.setSt {w0 W : World} {B R : Nat} {s : PC} {v : Int} (k : Ck w0 B R s W) (hv : 0 ≤ v ∧ v < 6) : Ck w0 B R { s with st := v } (W.setCell ⟨B, 65551, none⟩ (.int .u8 v)) := ⟨k.c.setSt v hv, G.set k.g, four_set k.r (fun e => k.ne e.symm), k.ne, k.le⟩
theorem Ck.setIns {w0 W : World} {B R : Nat} {s : PC} {v : Int} (k : Ck w0 B R s W) (hv : 0 ≤ v ∧ v < 56) : Ck w0 B R { s with ins := v } (W.setCell ⟨B, 65552, none⟩ (.int .u8 v)) := ⟨k.c.setIns v hv, G.set k.g, four_set k.r (fun e => k.ne e.symm), k.ne, k.le⟩
theorem Ck.setMd {w0 W : World} {B R : Nat} {s : PC} {v : Int} (k : Ck w0 B R s W) (hv : 0 ≤ v ∧ v < 23) : Ck w0 B R { s with md := v } (W.setCell ⟨B, 65553, none⟩ (.int .u8 v)) := ⟨k.c.setMd v hv, G.set k.g, four_set k.r (fun e => k.ne e.symm), k.ne, k.le⟩
theorem Ck.setStep {w0 W : World} {B R : Nat} {s : PC} {v : Int} (k : Ck w0 B R s W) (hv : -9223372036854775808 ≤ v ∧ v < 9223372036854775808) : Ck w0 B R { s with step := v } (W.setCell ⟨B, 65554, none⟩ (.int .i64 v)) := ⟨k.c.setStep v hv, G.set k.g, four_set k.r (fun e => k.ne e.symm), k.ne, k.le⟩
theorem Ck.setAd {w0 W : World} {B R : Nat} {s : PC} {v : Int} (k : Ck w0 B R s W) (hv : 0 ≤ v ∧ v < 65536) : Ck w0 B R { s with ad := v } (W.setCell ⟨B, 65555, none⟩ (.int .u16 v)) := ⟨k.c.setAd v hv, G.set k.g, four_set k.r (fun e => k.ne e.symm), k.ne, k.le⟩
theorem Ck.setHop {w0 W : World} {B R : Nat} {s : PC} {v : Int} (k : Ck w0 B R s W) (hv : 0 ≤ v ∧ v < 65536) : Ck w0 B R { s with hop := v } (W.setCell ⟨B, 65556, none⟩ (.int .u16 v)) := ⟨k.c.setHop v hv, G.set k.g, four_set k.r (fun e => k.ne e.symm), k.ne, k.le⟩
theorem Ck.setData {w0 W : World} {B R : Nat} {s : PC} {v : Int} (k : Ck w0 B R s W) (hv : 0 ≤ v ∧ v < 256) : Ck w0 B R { s with data := v } (W.setCell ⟨B, 65557, none⟩ (.int .u8 v)) := ⟨k.c.setData v hv, G.set k.g, four_set k.r (fun e => k.ne e.symm), k.ne, k.le⟩
theorem Ck.setTaken {w0 W : World} {B R : Nat} {s : PC} {v : Bool} (k : Ck w0 B R s W) : Ck w0 B R { s with taken := v } (W.setCell ⟨B, 65558, none⟩ (.bool v)) := ⟨k.c.setTaken v, G.set k.g, four_set k.r (fun e => k.ne e.symm), k.ne, k.le⟩
theorem Ck.setNmiOn {w0 W : World} {B R : Nat} {s : PC} {v : Bool} (k : Ck w0 B R s W) : Ck w0 B R { s with nmiOn := v } (W.setCell ⟨B, 65559, none⟩ (.bool v)) := ⟨k.c.setNmiOn v, G.set k.g, four_set k.r (fun e => k.ne e.symm), k.ne, k.le⟩
theorem Ck.setNmiDue {w0 W : World} {B R : Nat} {s : PC} {v : Bool} (k : Ck w0 B R s W) : Ck w0 B R { s with nmiDue := v } (W.setCell ⟨B, 65560, none⟩ (.bool v)) := ⟨k.c.setNmiDue v, G.set k.g, four_set k.r (fun e => k.ne e.symm), k.ne, k.le⟩
theorem Ck.setCyc {w0 W : World} {B R : Nat} {s : PC} {v : Int} (k : Ck w0 B R s W) (hv : -9223372036854775808 ≤ v ∧ v < 9223372036854775808) : Ck w0 B R { s with cyc := v } (W.setCell ⟨B, 65561, none⟩ (.int .i64 v)) := ⟨k.c.setCyc v hv, G.set k.g, four_set k.r (fun e => k.ne e.symm), k.ne, k.le⟩

/-- What the walk wants to know of the world behind a call. -/
theorem Ck.facts {w0 W : World} {B R : Nat} {s : PC} (k : Ck w0 B R s W) :
    (W.cell? ⟨R, 0, none⟩ = some (.int .i64 0) ∧ W.cell? ⟨R, 1, none⟩ = some (.int .i64 0) ∧ W.cell? ⟨R, 2, none⟩ = some (.bool false) ∧ W.cell? ⟨R, 3, none⟩ = some (.bool false)) ∧ (∀ o, W.frozen? ⟨R, o, none⟩ = false) ∧
    R < W.heap.size ∧ W.heap.size ≠ B ∧ W.heap.size + 1 ≠ B ∧ B ≠ W.heap.size ∧ B ≠ W.heap.size + 1 ∧ (∀ o, W.frozen? ⟨B, o, none⟩ = false) ∧ B < W.heap.size ∧ W.heap.size ≠ R ∧ R ≠ W.heap.size := by
  obtain ⟨h1, h2⟩ := cells4 k.r
  have := k.c.lt
  have := k.lt
  exact ⟨h1, h2, k.lt, by omega, by omega, by omega, by omega, k.c.free, k.c.lt, by omega, by omega⟩

theorem Ck.thru {w0 W w1 : World} {B R : Nat} {s s' : PC} (k : Ck w0 B R s W) (h : Tn B s' W w1) : Ck w0 B R s' w1 := ⟨h.c, cp_trans k.g h.g, four_thru h k.ne k.r, k.ne, k.le⟩

/-- A call in the midst of it. -/
theorem Ck.call {P : Program} {f : FuncId} {args : Array Value} {w0 W : World} {B R : Nat} {s s' : PC} {V : Value} (k : Ck w0 B R s W)
    (hc : ∀ {a b : World}, Tn B s a b → Calls P f args b (fun e w' => e = .returned V ∧ Tn B s' a w')) :
    Calls P f args W (fun e w' => e = .returned V ∧ Ck w0 B R s' w' ∧ (∀ b o, b ≠ B → b < W.heap.size → w'.cell? ⟨b, o, none⟩ = W.cell? ⟨b, o, none⟩) ∧ (∀ b o, b ≠ B → b < W.heap.size → w'.frozen? ⟨b, o, none⟩ = W.frozen? ⟨b, o, none⟩) ∧ W.heap.size ≤ w'.heap.size) :=
  (hc (Tn.refl k.c)).mono fun _ _ h => ⟨h.1, k.thru h.2, (kept h.2).1, (kept h.2).2, h.2.g.size⟩

/-- A call that leaves the world as it is. -/
theorem Ck.same {P : Program} {f : FuncId} {args : Array Value} {w0 W : World} {B R : Nat} {s : PC} {V : Value} (k : Ck w0 B R s W)
    (hc : ∀ {a b : World}, Tn B s a b → Calls P f args b (fun e w' => e = .returned V ∧ w' = b)) : Calls P f args W (fun e w' => e = .returned V ∧ w' = W) := hc (Tn.refl k.c)
end

/-
  What is shown at each call, told once: each constant proves what is asked of it in its place.
-/
section
theorem Tn.pre {B : Nat} {s : PC} {w0 w : World} (h : Tn B s w0 w) : B < w.heap.size ∧ w0.heap.size ≤ w.heap.size ∧ w.heap.size ≠ B ∧ B ≠ w.heap.size ∧ (∀ o, w.frozen? ⟨B, o, none⟩ = false) ∧ w.heap.size + 1 ≠ B ∧ B ≠ w.heap.size + 1 :=
  ⟨h.c.lt, h.g.size, by have := h.c.lt; omega, by have := h.c.lt; omega, h.c.free, by have := h.c.lt; omega, by have := h.c.lt; omega⟩
theorem Ck.gq {P : Program} {f : FuncId} {args : Array Value} {W : World} {B : Nat} {s s' : PC} {V : Value} {Q : Ending → World → Prop} (w0 : World) (R : Nat) (k : Ck w0 B R s W)
    (hc : ∀ {a b : World}, Tn B s a b → Calls P f args b (fun e w' => e = .returned V ∧ Tn B s' a w'))
    (K : ∀ W', Ck w0 B R s' W' → (∀ b o, b ≠ B → b < W.heap.size → W'.cell? ⟨b, o, none⟩ = W.cell? ⟨b, o, none⟩) → (∀ b o, b ≠ B → b < W.heap.size → W'.frozen? ⟨b, o, none⟩ = W.frozen? ⟨b, o, none⟩) → W.heap.size ≤ W'.heap.size → W'.cell? ⟨R, 0, none⟩ = some (.int .i64 0) → W'.cell? ⟨R, 1, none⟩ = some (.int .i64 0) → W'.cell? ⟨R, 2, none⟩ = some (.bool false) → W'.cell? ⟨R, 3, none⟩ = some (.bool false) → (∀ o, W'.frozen? ⟨R, o, none⟩ = false) → R < W'.heap.size → W'.heap.size ≠ B → W'.heap.size + 1 ≠ B → B ≠ W'.heap.size → B ≠ W'.heap.size + 1 → (∀ o, W'.frozen? ⟨B, o, none⟩ = false) → B < W'.heap.size → W'.heap.size ≠ R → R ≠ W'.heap.size → Q (.returned V) W') : Calls P f args W Q :=
  (Ck.call k hc).mono fun e W' ⟨he, k', q1, q2, zz⟩ => by
    subst he
    obtain ⟨⟨r0, r1, r2, r3⟩, r4, z0, n1, n2, m1, m2, fz, b1, nr, mr⟩ := k'.facts
    exact K W' k' q1 q2 zz r0 r1 r2 r3 r4 z0 n1 n2 m1 m2 fz b1 nr mr
theorem Ck.go {P : Program} {f : FuncId} {args : Array Value} {W : World} {B : Nat} {s s' : PC} {V : Value} {Q : Ending → World → Prop} (w0 : World) (R : Nat) (k : Ck w0 B R s W)
    (hc : ∀ {a b : World}, Tn B s a b → Calls P f args b (fun e w' => e = .returned V ∧ Tn B s' a w'))
    (K : ∀ W', Ck w0 B R s' W' → W'.cell? ⟨R, 0, none⟩ = some (.int .i64 0) → W'.cell? ⟨R, 1, none⟩ = some (.int .i64 0) → W'.cell? ⟨R, 2, none⟩ = some (.bool false) → W'.cell? ⟨R, 3, none⟩ = some (.bool false) → (∀ o, W'.frozen? ⟨R, o, none⟩ = false) → R < W'.heap.size → W'.heap.size ≠ B → W'.heap.size + 1 ≠ B → B ≠ W'.heap.size → B ≠ W'.heap.size + 1 → (∀ o, W'.frozen? ⟨B, o, none⟩ = false) → B < W'.heap.size → W'.heap.size ≠ R → R ≠ W'.heap.size → Q (.returned V) W') : Calls P f args W Q := Ck.gq w0 R k hc fun W' k' _ _ _ => K W' k'
theorem kq1 {p : Prop} (q : p := by repeat (first | with_reducible exact k | with_reducible apply Ck.drew | ((with_reducible apply Ck.mk'); (case hR => (simp; done)); (case h => (repeat (first | with_reducible exact h | with_reducible apply Tn.drew | with_reducible apply Tn.alloc | ((with_reducible apply Tn.setS); (case hv => (first | omega | exact wr_r _ | exact wr16_r _ | exact within_r _ _ (by omega) (by omega)))) | ((with_reducible apply Tn.other); (case hne => omega); (case hb => omega)))))) | with_reducible apply Ck.alloc | ((with_reducible apply Ck.setS); (case hv => (first | omega | exact wr_r _ | exact wr16_r _ | exact within_r _ _ (by omega) (by omega)))) | ((with_reducible apply Ck.other); (case hne => omega); (case hnr => omega); (case hb => omega)))) : p := q
theorem nq2 {p : Prop} (q : p := by first | assumption | omega | exact (top_r _).1 | exact (top_r _).2 | (unfold PC.stackTop joinI; omega) | (unfold withinI joinI loI hiI; omega) | (unfold joinI loI hiI; omega) | (unfold loI; omega) | (unfold hiI; omega)) : p := q
theorem kq3 {p : Prop} (q : p := by repeat (first | with_reducible exact k | with_reducible apply Ck.drew | ((with_reducible apply Ck.mk'); (case hR => (simp; done)); (case h => (repeat (first | with_reducible exact h | with_reducible apply Tn.drew | with_reducible apply Tn.alloc | ((with_reducible apply Tn.setS); (case hv => (first | omega | exact wr_r _ | exact wr16_r _ | exact within_r _ _ (by omega) (by omega)))) | ((with_reducible apply Tn.other); (case hne => omega); (case hb => omega)))))) | with_reducible apply Ck.alloc | ((with_reducible apply Ck.setS); (case hv => (first | omega | exact wr_r _ | exact wr16_r _ | exact within_r _ _ (by omega) (by omega)))))) : p := q
theorem kq4 {p : Prop} (q : p := by repeat (first | with_reducible exact k | with_reducible apply Ck.drew | ((with_reducible apply Ck.mk'); (case hR => (simp; done)); (case h => (repeat (first | with_reducible exact h | with_reducible apply Tn.drew | with_reducible apply Tn.alloc | ((with_reducible apply Tn.setSt); (case hv => (first | omega | exact wr_r _ | exact wr16_r _ | exact within_r _ _ (by omega) (by omega)))) | ((with_reducible apply Tn.other); (case hne => omega); (case hb => omega)))))) | with_reducible apply Ck.alloc | ((with_reducible apply Ck.setSt); (case hv => (first | omega | exact wr_r _ | exact wr16_r _ | exact within_r _ _ (by omega) (by omega)))))) : p := q
theorem nq5 {p : Prop} (q : p := by first | assumption | omega | exact (top_r _).1 | exact (top_r _).2 | exact (wr16_r _).1 | exact (wr16_r _).2 | (unfold PC.stackTop joinI; omega) | (unfold withinI joinI loI hiI; omega) | (unfold joinI loI hiI; omega) | (unfold loI; omega) | (unfold hiI; omega)) : p := q
theorem kq6 {p : Prop} (q : p := by repeat (first | with_reducible exact k | with_reducible apply Ck.drew | ((with_reducible apply Ck.mk'); (case hR => (simp; done)); (case h => (repeat (first | with_reducible exact h | with_reducible apply Tn.drew | with_reducible apply Tn.alloc | ((with_reducible apply Tn.other); (case hne => omega); (case hb => omega)))))) | with_reducible apply Ck.alloc)) : p := q
theorem kq7 {p : Prop} (q : p := by repeat (first | with_reducible exact k | with_reducible apply Ck.drew | ((with_reducible apply Ck.mk'); (case hR => (simp; done)); (case h => (repeat (first | with_reducible exact h | with_reducible apply Tn.drew | with_reducible apply Tn.alloc | ((with_reducible apply Tn.setSt); (case hv => (first | omega | exact wr_r _ | exact wr16_r _ | exact within_r _ _ (by omega) (by omega)))) | ((with_reducible apply Tn.other); (case hne => omega); (case hb => omega)))))) | with_reducible apply Ck.alloc | ((with_reducible apply Ck.setSt); (case hv => (first | omega | exact wr_r _ | exact wr16_r _ | exact within_r _ _ (by omega) (by omega)))) | ((with_reducible apply Ck.other); (case hne => omega); (case hnr => omega); (case hb => omega)))) : p := q
theorem kq8 {p : Prop} (q : p := by repeat (first | with_reducible exact k | with_reducible apply Ck.drew | ((with_reducible apply Ck.mk'); (case hR => (simp; done)); (case h => (repeat (first | with_reducible exact h | with_reducible apply Tn.drew | with_reducible apply Tn.alloc | ((with_reducible apply Tn.other); (case hne => omega); (case hb => omega)))))) | with_reducible apply Ck.alloc | ((with_reducible apply Ck.other); (case hne => omega); (case hnr => omega); (case hb => omega)))) : p := q
theorem kq9 {p : Prop} (q : p := by repeat (first | with_reducible exact k | with_reducible apply Ck.drew | ((with_reducible apply Ck.mk'); (case hR => (simp; done)); (case h => (repeat (first | with_reducible exact h | with_reducible apply Tn.drew | with_reducible apply Tn.alloc | ((with_reducible apply Tn.setData); (case hv => (first | omega | exact wr_r _ | exact wr16_r _ | exact within_r _ _ (by omega) (by omega)))) | ((with_reducible apply Tn.setA); (case hv => (first | omega | exact wr_r _ | exact wr16_r _ | exact within_r _ _ (by omega) (by omega)))) | ((with_reducible apply Tn.other); (case hne => omega); (case hb => omega)))))) | with_reducible apply Ck.alloc | ((with_reducible apply Ck.setData); (case hv => (first | omega | exact wr_r _ | exact wr16_r _ | exact within_r _ _ (by omega) (by omega)))) | ((with_reducible apply Ck.setA); (case hv => (first | omega | exact wr_r _ | exact wr16_r _ | exact within_r _ _ (by omega) (by omega)))) | ((with_reducible apply Ck.other); (case hne => omega); (case hnr => omega); (case hb => omega)))) : p := q
theorem kq10 {p : Prop} (q : p := by repeat (first | with_reducible exact k | with_reducible apply Ck.drew | ((with_reducible apply Ck.mk'); (case hR => (simp; done)); (case h => (repeat (first | with_reducible exact h | with_reducible apply Tn.drew | with_reducible apply Tn.alloc | ((with_reducible apply Tn.setAd); (case hv => (first | omega | exact wr_r _ | exact wr16_r _ | exact within_r _ _ (by omega) (by omega)))) | ((with_reducible apply Tn.setSt); (case hv => (first | omega | exact wr_r _ | exact wr16_r _ | exact within_r _ _ (by omega) (by omega)))) | ((with_reducible apply Tn.other); (case hne => omega); (case hb => omega)))))) | with_reducible apply Ck.alloc | ((with_reducible apply Ck.setAd); (case hv => (first | omega | exact wr_r _ | exact wr16_r _ | exact within_r _ _ (by omega) (by omega)))) | ((with_reducible apply Ck.setSt); (case hv => (first | omega | exact wr_r _ | exact wr16_r _ | exact within_r _ _ (by omega) (by omega)))))) : p := q
theorem kq11 {p : Prop} (q : p := by repeat (first | with_reducible exact k | with_reducible apply Ck.drew | ((with_reducible apply Ck.mk'); (case hR => (simp; done)); (case h => (repeat (first | with_reducible exact h | with_reducible apply Tn.drew | with_reducible apply Tn.alloc | ((with_reducible apply Tn.setAd); (case hv => (first | omega | exact wr_r _ | exact wr16_r _ | exact within_r _ _ (by omega) (by omega)))) | ((with_reducible apply Tn.setSt); (case hv => (first | omega | exact wr_r _ | exact wr16_r _ | exact within_r _ _ (by omega) (by omega)))) | ((with_reducible apply Tn.other); (case hne => omega); (case hb => omega)))))) | with_reducible apply Ck.alloc | ((with_reducible apply Ck.setAd); (case hv => (first | omega | exact wr_r _ | exact wr16_r _ | exact within_r _ _ (by omega) (by omega)))) | ((with_reducible apply Ck.setSt); (case hv => (first | omega | exact wr_r _ | exact wr16_r _ | exact within_r _ _ (by omega) (by omega)))) | ((with_reducible apply Ck.other); (case hne => omega); (case hnr => omega); (case hb => omega)))) : p := q
theorem kq12 {p : Prop} (q : p := by repeat (first | with_reducible exact k | with_reducible apply Ck.drew | ((with_reducible apply Ck.mk'); (case hR => (simp; done)); (case h => (repeat (first | with_reducible exact h | with_reducible apply Tn.drew | with_reducible apply Tn.alloc | ((with_reducible apply Tn.setHop); (case hv => (first | omega | exact wr_r _ | exact wr16_r _ | exact within_r _ _ (by omega) (by omega)))) | ((with_reducible apply Tn.setSt); (case hv => (first | omega | exact wr_r _ | exact wr16_r _ | exact within_r _ _ (by omega) (by omega)))) | ((with_reducible apply Tn.other); (case hne => omega); (case hb => omega)))))) | with_reducible apply Ck.alloc | ((with_reducible apply Ck.setHop); (case hv => (first | omega | exact wr_r _ | exact wr16_r _ | exact within_r _ _ (by omega) (by omega)))) | ((with_reducible apply Ck.setSt); (case hv => (first | omega | exact wr_r _ | exact wr16_r _ | exact within_r _ _ (by omega) (by omega)))))) : p := q
theorem kq13 {p : Prop} (q : p := by repeat (first | with_reducible exact k | with_reducible apply Ck.drew | ((with_reducible apply Ck.mk'); (case hR => (simp; done)); (case h => (repeat (first | with_reducible exact h | with_reducible apply Tn.drew | with_reducible apply Tn.alloc | ((with_reducible apply Tn.setHop); (case hv => (first | omega | exact wr_r _ | exact wr16_r _ | exact within_r _ _ (by omega) (by omega)))) | ((with_reducible apply Tn.setSt); (case hv => (first | omega | exact wr_r _ | exact wr16_r _ | exact within_r _ _ (by omega) (by omega)))) | ((with_reducible apply Tn.other); (case hne => omega); (case hb => omega)))))) | with_reducible apply Ck.alloc | ((with_reducible apply Ck.setHop); (case hv => (first | omega | exact wr_r _ | exact wr16_r _ | exact within_r _ _ (by omega) (by omega)))) | ((with_reducible apply Ck.setSt); (case hv => (first | omega | exact wr_r _ | exact wr16_r _ | exact within_r _ _ (by omega) (by omega)))) | ((with_reducible apply Ck.other); (case hne => omega); (case hnr => omega); (case hb => omega)))) : p := q
theorem kq14 {p : Prop} (q : p := by repeat (first | with_reducible exact k | with_reducible apply Ck.drew | ((with_reducible apply Ck.mk'); (case hR => (simp; done)); (case h => (repeat (first | with_reducible exact h | with_reducible apply Tn.drew | with_reducible apply Tn.alloc | ((with_reducible apply Tn.setHop); (case hv => (first | omega | exact wr_r _ | exact wr16_r _ | exact within_r _ _ (by omega) (by omega)))) | ((with_reducible apply Tn.other); (case hne => omega); (case hb => omega)))))) | with_reducible apply Ck.alloc | ((with_reducible apply Ck.setHop); (case hv => (first | omega | exact wr_r _ | exact wr16_r _ | exact within_r _ _ (by omega) (by omega)))))) : p := q
theorem kq15 {p : Prop} (q : p := by repeat (first | with_reducible exact k | with_reducible apply Ck.drew | ((with_reducible apply Ck.mk'); (case hR => (simp; done)); (case h => (repeat (first | with_reducible exact h | with_reducible apply Tn.drew | with_reducible apply Tn.alloc | ((with_reducible apply Tn.setHop); (case hv => (first | omega | exact wr_r _ | exact wr16_r _ | exact within_r _ _ (by omega) (by omega)))) | ((with_reducible apply Tn.other); (case hne => omega); (case hb => omega)))))) | with_reducible apply Ck.alloc | ((with_reducible apply Ck.setHop); (case hv => (first | omega | exact wr_r _ | exact wr16_r _ | exact within_r _ _ (by omega) (by omega)))) | ((with_reducible apply Ck.other); (case hne => omega); (case hnr => omega); (case hb => omega)))) : p := q
theorem kq16 {p : Prop} (q : p := by repeat (first | with_reducible exact k | with_reducible apply Ck.drew | ((with_reducible apply Ck.mk'); (case hR => (simp; done)); (case h => (repeat (first | with_reducible exact h | with_reducible apply Tn.drew | with_reducible apply Tn.alloc | ((with_reducible apply Tn.setStep); (case hv => (first | omega | exact wr64_r _))) | ((with_reducible apply Tn.other); (case hne => omega); (case hb => omega)))))) | with_reducible apply Ck.alloc | ((with_reducible apply Ck.setStep); (case hv => (first | omega | exact wr64_r _))))) : p := q

theorem brq {p : Prop} (q : p := by simp [results, go_sem, BusI.val, *] <;> (repeat' (first | rfl | constructor))) : p := q
theorem tq1 {p : Prop} (q : p := by apply Tn.eq; (case h => repeat (first | with_reducible exact k.t | with_reducible exact h | with_reducible apply Tn.drew | with_reducible apply Tn.alloc | ((with_reducible apply Tn.other); (case hne => omega); (case hb => omega)))); (case e => rfl)) : p := q
theorem tq2 {p : Prop} (q : p := by apply Tn.eq; (case h => repeat (first | with_reducible exact k.t | with_reducible exact h | with_reducible apply Tn.drew | with_reducible apply Tn.alloc | ((with_reducible apply Tn.setSt); (case hv => (first | omega | exact wr_r _ | exact wr16_r _ | exact within_r _ _ (by omega) (by omega)))) | ((with_reducible apply Tn.other); (case hne => omega); (case hb => omega)))); (case e => rfl)) : p := q
theorem tq3 {p : Prop} (q : p := by apply Tn.eq; (case h => repeat (first | with_reducible exact K9.k.t | with_reducible apply Tn.drew | with_reducible apply Tn.drewN | with_reducible apply Tn.alloc | ((with_reducible apply Tn.other); (case hne => omega); (case hb => omega)))); (case e => rfl)) : p := q
theorem tq4 {p : Prop} (q : p := by apply Tn.eq; (case h => repeat (first | with_reducible exact k.t | with_reducible exact h | with_reducible apply Tn.drew | with_reducible apply Tn.alloc | ((with_reducible apply Tn.setAd); (case hv => (first | omega | exact wr_r _ | exact wr16_r _ | exact within_r _ _ (by omega) (by omega)))) | ((with_reducible apply Tn.setSt); (case hv => (first | omega | exact wr_r _ | exact wr16_r _ | exact within_r _ _ (by omega) (by omega)))) | ((with_reducible apply Tn.other); (case hne => omega); (case hb => omega)))); (case e => rfl)) : p := q
theorem tq5 {p : Prop} (q : p := by apply Tn.eq; (case h => repeat (first | with_reducible exact k.t | with_reducible exact h | with_reducible apply Tn.drew | with_reducible apply Tn.alloc | ((with_reducible apply Tn.setHop); (case hv => (first | omega | exact wr_r _ | exact wr16_r _ | exact within_r _ _ (by omega) (by omega)))) | ((with_reducible apply Tn.setSt); (case hv => (first | omega | exact wr_r _ | exact wr16_r _ | exact within_r _ _ (by omega) (by omega)))) | ((with_reducible apply Tn.other); (case hne => omega); (case hb => omega)))); (case e => rfl)) : p := q
theorem tq6 {p : Prop} (q : p := by apply Tn.eq; (case h => repeat (first | with_reducible exact k.t | with_reducible exact h | with_reducible apply Tn.drew | with_reducible apply Tn.alloc | ((with_reducible apply Tn.setHop); (case hv => (first | omega | exact wr_r _ | exact wr16_r _ | exact within_r _ _ (by omega) (by omega)))) | ((with_reducible apply Tn.other); (case hne => omega); (case hb => omega)))); (case e => rfl)) : p := q
theorem tq7 {p : Prop} (q : p := by apply Tn.eq; (case h => repeat (first | with_reducible exact k.t | with_reducible exact h | with_reducible apply Tn.drew | with_reducible apply Tn.alloc | ((with_reducible apply Tn.setS); (case hv => (first | omega | exact wr_r _ | exact wr16_r _ | exact within_r _ _ (by omega) (by omega)))) | ((with_reducible apply Tn.other); (case hne => omega); (case hb => omega)))); (case e => rfl)) : p := q
theorem tq8 {p : Prop} (q : p := by apply Tn.eq; (case h => repeat (first | with_reducible exact k.t | with_reducible exact h | with_reducible apply Tn.drew | with_reducible apply Tn.alloc | ((with_reducible apply Tn.setStep); (case hv => (first | omega | exact wr64_r _))) | ((with_reducible apply Tn.other); (case hne => omega); (case hb => omega)))); (case e => rfl)) : p := q
end

/-
  An instruction is performed: through the table.
-/
section
theorem imeth_at (i : Nat) (hi : i < 56) (v : Value) (hv : itab.getD i .nilFunc = v) (w : World) :
    Calls Tryz.prog 205 #[.int .u8 i] w fun e w' => e = .returned v ∧ Below w.heap.size w w' := hv ▸ imeth_any i hi w
theorem mmeth_at (i : Nat) (hi : i < 23) (v : Value) (hv : mtab.getD i .nilFunc = v) (w : World) :
    Calls Tryz.prog 83 #[.int .u8 i] w fun e w' => e = .returned v ∧ Below w.heap.size w w' := hv ▸ mmeth_any i hi w

theorem below_thru {B : Nat} {s : PC} {w0 w w1 : World} (h : Tn B s w0 w) (hb : Below w.heap.size w w1) : Tn B s w0 w1 :=
  ⟨h.c.same (hb.block _ h.c.lt), ⟨hb.os.trans h.g.os, hb.tape.trans h.g.tape, hb.output.trans h.g.output, Nat.le_trans h.g.size hb.size, fun k hk hne => (hb.block k (Nat.lt_of_lt_of_le hk h.g.size)).trans (h.g.block k hk hne)⟩⟩
end

/-
  An instruction is performed, whichever it is; it is finished; the branch's end.
-/
section
set_option maxRecDepth 100000
set_option maxHeartbeats 1000000

theorem perform_f {B : Nat} {s : PC} {w0 w : World} (h : Tn B s w0 w) (n : Nat) (hn : n < 56) (hk : s.ins = n) (F : Nat) (hv : itab.getD n .nilFunc = .func (.func F) #[] #[]) (he : ∀ a w, Sem.run Tryz.prog (callFunc F a) w = .ok (.enter F a) w)
    (hc : ∀ {w1}, Tn B s w0 w1 → Calls Tryz.prog F #[.pointer (some ⟨B, 0, none⟩)] w1 fun e w' => e = .returned (.tuple #[]) ∧ Tn B (s.doIns n) w0 w') :
    Calls Tryz.prog 167 #[.pointer (some ⟨B, 0, none⟩)] w fun e w' => e = .returned (.tuple #[]) ∧ Tn B (s.doIns n) w0 w' := by
  have c_ins := h.c.cins
  rw [hk] at c_ins
  go_enter Tryz.func167, Tryz.ntmps167
  go_wp2_with (go_at_call 205; refine (imeth_at n hn _ hv _).mono ?_; rintro e w1 ⟨rfl, hb⟩; have h1 := below_thru h hb)
  refine (hc h1).mono ?_
  rintro e w2 ⟨rfl, h2⟩
  go_wp2
  go_end0
  exact ⟨rfl, h2⟩

theorem perform_any {B : Nat} {s : PC} {w0 w : World} (h : Tn B s w0 w) :
    Calls Tryz.prog 167 #[.pointer (some ⟨B, 0, none⟩)] w fun e w' => e = .returned (.tuple #[]) ∧ Tn B s.perform w0 w' := by
  obtain ⟨l1, l2⟩ := h.c.rins
  obtain ⟨n, hn⟩ := Int.eq_ofNat_of_zero_le l1
  have e : s.perform = s.doIns n := by unfold PC.perform; rw [hn]; rfl
  rw [e]
  have hlt : n < 56 := by omega
  clear l1 l2 e
  match n, hlt, hn with
  | 0, hn, hk => exact perform_f h _ hn hk _ rfl (fun _ _ => by kernel_rfl) adc_any
  | 1, hn, hk => exact perform_f h _ hn hk _ rfl (fun _ _ => by kernel_rfl) and_any
  | 2, hn, hk => exact perform_f h _ hn hk _ rfl (fun _ _ => by kernel_rfl) asl_any
  | 3, hn, hk => exact perform_f h _ hn hk _ rfl (fun _ _ => by kernel_rfl) bcc_any
  | 4, hn, hk => exact perform_f h _ hn hk _ rfl (fun _ _ => by kernel_rfl) bcs_any
  | 5, hn, hk => exact perform_f h _ hn hk _ rfl (fun _ _ => by kernel_rfl) beq_any
  | 6, hn, hk => exact perform_f h _ hn hk _ rfl (fun _ _ => by kernel_rfl) bmi_any
  | 7, hn, hk => exact perform_f h _ hn hk _ rfl (fun _ _ => by kernel_rfl) bne_any
  | 8, hn, hk => exact perform_f h _ hn hk _ rfl (fun _ _ => by kernel_rfl) bpl_any
  | 9, hn, hk => exact perform_f h _ hn hk _ rfl (fun _ _ => by kernel_rfl) bvc_any
  | 10, hn, hk => exact perform_f h _ hn hk _ rfl (fun _ _ => by kernel_rfl) bvs_any
  | 11, hn, hk => exact perform_f h _ hn hk _ rfl (fun _ _ => by kernel_rfl) bit_any
  | 12, hn, hk => exact perform_f h _ hn hk _ rfl (fun _ _ => by kernel_rfl) brk_any
  | 13, hn, hk => exact perform_f h _ hn hk _ rfl (fun _ _ => by kernel_rfl) clc_any
  | 14, hn, hk => exact perform_f h _ hn hk _ rfl (fun _ _ => by kernel_rfl) cld_any
  | 15, hn, hk => exact perform_f h _ hn hk _ rfl (fun _ _ => by kernel_rfl) cli_any
  | 16, hn, hk => exact perform_f h _ hn hk _ rfl (fun _ _ => by kernel_rfl) clv_any
  | 17, hn, hk => exact perform_f h _ hn hk _ rfl (fun _ _ => by kernel_rfl) cmp_any
  | 18, hn, hk => exact perform_f h _ hn hk _ rfl (fun _ _ => by kernel_rfl) cpx_any
  | 19, hn, hk => exact perform_f h _ hn hk _ rfl (fun _ _ => by kernel_rfl) cpy_any
  | 20, hn, hk => exact perform_f h _ hn hk _ rfl (fun _ _ => by kernel_rfl) dec_any
  | 21, hn, hk => exact perform_f h _ hn hk _ rfl (fun _ _ => by kernel_rfl) dex_any
  | 22, hn, hk => exact perform_f h _ hn hk _ rfl (fun _ _ => by kernel_rfl) dey_any
  | 23, hn, hk => exact perform_f h _ hn hk _ rfl (fun _ _ => by kernel_rfl) eor_any
  | 24, hn, hk => exact perform_f h _ hn hk _ rfl (fun _ _ => by kernel_rfl) inc_any
  | 25, hn, hk => exact perform_f h _ hn hk _ rfl (fun _ _ => by kernel_rfl) inx_any
  | 26, hn, hk => exact perform_f h _ hn hk _ rfl (fun _ _ => by kernel_rfl) iny_any
  | 27, hn, hk => exact perform_f h _ hn hk _ rfl (fun _ _ => by kernel_rfl) jmp_any
  | 28, hn, hk => exact perform_f h _ hn hk _ rfl (fun _ _ => by kernel_rfl) jsr_any
  | 29, hn, hk => exact perform_f h _ hn hk _ rfl (fun _ _ => by kernel_rfl) lda_any
  | 30, hn, hk => exact perform_f h _ hn hk _ rfl (fun _ _ => by kernel_rfl) ldx_any
  | 31, hn, hk => exact perform_f h _ hn hk _ rfl (fun _ _ => by kernel_rfl) ldy_any
  | 32, hn, hk => exact perform_f h _ hn hk _ rfl (fun _ _ => by kernel_rfl) lsr_any
  | 33, hn, hk => exact perform_f h _ hn hk _ rfl (fun _ _ => by kernel_rfl) nop_any
  | 34, hn, hk => exact perform_f h _ hn hk _ rfl (fun _ _ => by kernel_rfl) ora_any
  | 35, hn, hk => exact perform_f h _ hn hk _ rfl (fun _ _ => by kernel_rfl) pha_any
  | 36, hn, hk => exact perform_f h _ hn hk _ rfl (fun _ _ => by kernel_rfl) php_any
  | 37, hn, hk => exact perform_f h _ hn hk _ rfl (fun _ _ => by kernel_rfl) pla_any
  | 38, hn, hk => exact perform_f h _ hn hk _ rfl (fun _ _ => by kernel_rfl) plp_any
  | 39, hn, hk => exact perform_f h _ hn hk _ rfl (fun _ _ => by kernel_rfl) rol_any
  | 40, hn, hk => exact perform_f h _ hn hk _ rfl (fun _ _ => by kernel_rfl) ror_any
  | 41, hn, hk => exact perform_f h _ hn hk _ rfl (fun _ _ => by kernel_rfl) rti_any
  | 42, hn, hk => exact perform_f h _ hn hk _ rfl (fun _ _ => by kernel_rfl) rts_any
  | 43, hn, hk => exact perform_f h _ hn hk _ rfl (fun _ _ => by kernel_rfl) sbc_any
  | 44, hn, hk => exact perform_f h _ hn hk _ rfl (fun _ _ => by kernel_rfl) sec_any
  | 45, hn, hk => exact perform_f h _ hn hk _ rfl (fun _ _ => by kernel_rfl) sed_any
  | 46, hn, hk => exact perform_f h _ hn hk _ rfl (fun _ _ => by kernel_rfl) sei_any
  | 47, hn, hk => exact perform_f h _ hn hk _ rfl (fun _ _ => by kernel_rfl) sta_any
  | 48, hn, hk => exact perform_f h _ hn hk _ rfl (fun _ _ => by kernel_rfl) stx_any
  | 49, hn, hk => exact perform_f h _ hn hk _ rfl (fun _ _ => by kernel_rfl) sty_any
  | 50, hn, hk => exact perform_f h _ hn hk _ rfl (fun _ _ => by kernel_rfl) tax_any
  | 51, hn, hk => exact perform_f h _ hn hk _ rfl (fun _ _ => by kernel_rfl) tay_any
  | 52, hn, hk => exact perform_f h _ hn hk _ rfl (fun _ _ => by kernel_rfl) tsx_any
  | 53, hn, hk => exact perform_f h _ hn hk _ rfl (fun _ _ => by kernel_rfl) txa_any
  | 54, hn, hk => exact perform_f h _ hn hk _ rfl (fun _ _ => by kernel_rfl) txs_any
  | 55, hn, hk => exact perform_f h _ hn hk _ rfl (fun _ _ => by kernel_rfl) tya_any
  | n + 56, hlt, _ => exact absurd hlt (by omega)

theorem performLast_any {B : Nat} {s : PC} {w0 w : World} (h : Tn B s w0 w) :
    Calls Tryz.prog 108 #[.pointer (some ⟨B, 0, none⟩)] w fun e w' => e = .returned (.tuple #[]) ∧ Tn B s.performLast w0 w' := by
  go_enter Tryz.func108, Tryz.ntmps108
  go_wp2_with fail
  refine (perform_any h).mono ?_
  rintro e w1 ⟨rfl, h1⟩
  go_wp2_with fail
  refine (finish_any h1).mono ?_
  rintro e w2 ⟨rfl, h2⟩
  go_wp2
  go_end0
  exact ⟨rfl, h2⟩

theorem branch_any {B : Nat} {s : PC} {w0 w : World} (h : Tn B s w0 w) :
    Calls Tryz.prog 178 #[.pointer (some ⟨B, 0, none⟩)] w fun e w' => e = .returned (.tuple #[]) ∧ Tn B s.branch w0 w' := by
  have c_ad := h.c.cad; obtain ⟨l_ad, u_ad⟩ := h.c.rad; have c_pc := h.c.cpc; obtain ⟨l_pc, u_pc⟩ := h.c.rpc
  have f_pc := h.c.free 65544
  go_enter Tryz.func178, Tryz.ntmps178
  go_wp2_with fail
  refine (finish_any (h.setPc _ ⟨l_ad, u_ad⟩)).mono ?_
  rintro e w2 ⟨rfl, h2⟩
  go_wp2
  go_end0
  exact ⟨rfl, h2⟩
end

/-
  Pushed and pulled, walked.
-/
section
set_option maxRecDepth 100000
set_option maxHeartbeats 1000000
variable {B : Nat} {s : PC} {w0 w : World}

theorem top_r (x : Int) : 0 ≤ joinI (IntKind.u8.wrap x) 1 ∧ joinI (IntKind.u8.wrap x) 1 < 65536 := by have := wr_r x; unfold joinI; omega

theorem pushed_any (h : Tn B s w0 w) (d : Int) (d1 : 0 ≤ d) (d2 : d < 256) :
    Calls Tryz.prog 182 #[.pointer (some ⟨B, 0, none⟩), .int .u8 d] w fun e w' => e = .returned (s.pushed d).2.val ∧ Tn B (s.pushed d).1 w0 w' := by
  have c_s := h.c.cs; obtain ⟨l_s, u_s⟩ := h.c.rs
  obtain ⟨hlt, hsz, n0, m0, fz0, n01, m01⟩ := h.pre
  go_enter Tryz.func182, Tryz.ntmps182
  go_wp2_with (first | (go_at_call 181; refine (Ck.same (w0 := w0) (R := w.heap.size) kq1 (fun h => stackTop_any h)).mono ?_; rintro e w' ⟨rfl, rfl⟩) | (go_at_call 109; refine Ck.gq w0 w.heap.size kq1 (fun h => write_any h _ _ nq2 nq2 nq2 nq2) ?_; intro w1 k q1 q2 zz; intros; (try simp at zz); (try replace zz := Nat.lt_of_succ_le zz); (try have zl : w.heap.size + 1 < w1.heap.size := (by omega)); have c_s := k.c.cs; obtain ⟨l_s, u_s⟩ := k.c.rs; (try simp only [BusI.val])))
  all_goals (try go_region_with (first | (go_at_call 181; refine (Ck.same (w0 := w0) (R := w.heap.size) kq1 (fun h => stackTop_any h)).mono ?_; rintro e w' ⟨rfl, rfl⟩) | (go_at_call 109; refine Ck.gq w0 w.heap.size kq1 (fun h => write_any h _ _ nq2 nq2 nq2 nq2) ?_; intro w1 k q1 q2 zz; intros; (try simp at zz); (try replace zz := Nat.lt_of_succ_le zz); (try have zl : w.heap.size + 1 < w1.heap.size := (by omega)); have c_s := k.c.cs; obtain ⟨l_s, u_s⟩ := k.c.rs; (try simp only [BusI.val]))))
  all_goals (try go_wp2_with (first | (go_at_call 181; refine (Ck.same (w0 := w0) (R := w.heap.size) kq1 (fun h => stackTop_any h)).mono ?_; rintro e w' ⟨rfl, rfl⟩) | (go_at_call 109; refine Ck.gq w0 w.heap.size kq1 (fun h => write_any h _ _ nq2 nq2 nq2 nq2) ?_; intro w1 k q1 q2 zz; intros; (try simp at zz); (try replace zz := Nat.lt_of_succ_le zz); (try have zl : w.heap.size + 1 < w1.heap.size := (by omega)); have c_s := k.c.cs; obtain ⟨l_s, u_s⟩ := k.c.rs; (try simp only [BusI.val]))))
  all_goals (have hr := Tryz.results182; exact bodyPost_ret brq rfl ⟨rfl, tq7⟩)

theorem pulled_any (h : Tn B s w0 w) :
    Calls Tryz.prog 183 #[.pointer (some ⟨B, 0, none⟩)] w fun e w' => e = .returned (s.pulled).2.val ∧ Tn B (s.pulled).1 w0 w' := by
  have c_s := h.c.cs; obtain ⟨l_s, u_s⟩ := h.c.rs
  obtain ⟨hlt, hsz, n0, m0, fz0, -⟩ := h.pre
  go_enter Tryz.func183, Tryz.ntmps183
  go_wp2_with (first | (go_at_call 181; refine (Ck.same (w0 := w0) (R := w.heap.size) kq3 (fun h => stackTop_any h)).mono ?_; rintro e w' ⟨rfl, rfl⟩) | (go_at_call 103; refine Ck.go w0 w.heap.size kq3 (fun h => read_any h _ nq2 nq2) ?_; intro w1 k; intros; have c_s := k.c.cs; obtain ⟨l_s, u_s⟩ := k.c.rs; (try simp only [BusI.val])))
  all_goals (try go_region_with (first | (go_at_call 181; refine (Ck.same (w0 := w0) (R := w.heap.size) kq3 (fun h => stackTop_any h)).mono ?_; rintro e w' ⟨rfl, rfl⟩) | (go_at_call 103; refine Ck.go w0 w.heap.size kq3 (fun h => read_any h _ nq2 nq2) ?_; intro w1 k; intros; have c_s := k.c.cs; obtain ⟨l_s, u_s⟩ := k.c.rs; (try simp only [BusI.val]))))
  all_goals (try go_wp2_with (first | (go_at_call 181; refine (Ck.same (w0 := w0) (R := w.heap.size) kq3 (fun h => stackTop_any h)).mono ?_; rintro e w' ⟨rfl, rfl⟩) | (go_at_call 103; refine Ck.go w0 w.heap.size kq3 (fun h => read_any h _ nq2 nq2) ?_; intro w1 k; intros; have c_s := k.c.cs; obtain ⟨l_s, u_s⟩ := k.c.rs; (try simp only [BusI.val]))))
  all_goals (have hr := Tryz.results183; exact bodyPost_ret brq rfl ⟨rfl, tq7⟩)
end

/-
  The document's computer, walked: is it a configuration?
-/
section
set_option maxRecDepth 100000
set_option maxHeartbeats 1000000

theorem valid_all {rom : Int} {cs : List Chn} (h : cs.all okChn = true) : validI rom cs = (decide (cs.length ≤ 8) && (decide (total cs ≤ 4096) && (decide (0 ≤ rom) && decide (rom ≤ 256)))) := by
  unfold validI
  rw [h]
  by_cases a : cs.length ≤ 8 <;> by_cases b : total cs ≤ 4096 <;> by_cases c : 0 ≤ rom <;> by_cases d : rom ≤ 256 <;> simp [a, b, c, d]
theorem valid_bad {rom : Int} {cs : List Chn} {k : Nat} (hk : k < cs.length) (h : okChn cs[k] = false) : validI rom cs = false :=
  valid_pre hk (fun e => by rw [h] at e; cases e.1)

theorem rfits (N : Nat) (v : Value) (cs : List Chn) (rom : Int) (w : World) (h : CfAt N w v cs) (hl : cs.length ≤ 100000000) (hb : total cs ≤ 100000000) :
    Calls Tryz.prog 90 #[.agg #[v, .int .i64 rom]] w fun e w' => e = .returned (.bool (validI rom cs)) ∧ Below w.heap.size w w' := by
  obtain ⟨p, cap, rfl, H⟩ := h
  have HH : Hid (cs ≠ [] → ∃ b off, p = some ⟨b, off, none⟩ ∧ b < N ∧
    ∀ i, (h : i < cs.length) → w.cell? ⟨b, off + i * 2, none⟩ = some (.int .i64 cs[i].at_) ∧ w.cell? ⟨b, off + i * 2 + 1, none⟩ = some cs[i].v ∧ ChV N w cs[i].v cs[i].bs) := H
  have HL : Hid (total cs ≤ 100000000) := hb
  clear H hb
  go_enter Tryz.func90, Tryz.ntmps90
  go_wp2
  go_loopw [3, 4] (fun n i wr => ∃ k : Nat, k ≤ cs.length ∧ i = .int .i64 k ∧ n = .int .i64 (total (cs.take k) : Int) ∧ (cs.take k).all okChn = true ∧ wr = w.alloc (.cells #[.slice p cs.length cap, .int .i64 rom] 26)) (fun _ i _ => cs.length - (intOf i).toNat)
  case atStart => exact ⟨0, Nat.zero_le _, rfl, rfl, rfl, rfl⟩
  case round =>
    obtain ⟨k, hk, rfl, rfl, ha, hwr⟩ := hrel
    have e0 : wr.cell? ⟨w.heap.size, 0, none⟩ = some (.slice p cs.length cap) := by rw [hwr]; exact World.cell?_alloc_at _ _ _ _ rfl
    have e1 : wr.cell? ⟨w.heap.size, 1, none⟩ = some (.int .i64 rom) := by rw [hwr]; exact World.cell?_alloc_at _ _ _ _ rfl
    have HW : Hid (wr = w.alloc (.cells #[.slice p cs.length cap, .int .i64 rom] 26)) := hwr
    have HBl : Hid (Below w.heap.size w wr) := by rw [hwr]; exact (Below.refl _ _).alloc (Nat.le_refl _) _
    clear hwr
    by_cases hlt : k < cs.length
    · obtain ⟨b, off, rfl, hbN, HC⟩ := HH.out (by intro e; rw [e] at hlt; simp at hlt)
      obtain ⟨c1, c2, p2, cap2, hv, -⟩ := HC k hlt
      have d1 := (HBl.out.cell (p := ⟨b, off + k * 2, none⟩) (lt_of_cell (by rw [c1]; simp))).trans c1
      have d2 := (HBl.out.cell (p := ⟨b, off + k * 2 + 1, none⟩) (lt_of_cell (by rw [c2]; simp))).trans c2
      rw [hv] at d2
      have HT : Hid (total (cs.take (k + 1)) = total (cs.take k) + cs[k].bs.length) := by show _ = _; rw [chn_snoc cs k hlt, total_snoc]
      have HV : Hid (okChn cs[k] = false → validI rom cs = false) := valid_bad hlt
      have HA : Hid (okChn cs[k] = true → (cs.take (k + 1)).all okChn = true) := by intro e; rw [chn_snoc cs k hlt, List.all_append, ha]; simp [e]
      have HO : Hid (okChn cs[k] = decide (0 ≤ cs[k].at_ ∧ cs[k].at_ < 65536)) := rfl
      have hq : total (cs.take k) + cs[k].bs.length ≤ 100000000 := by rw [← HT.out]; exact Nat.le_trans (total_take cs _) HL.out
      clear c1 c2 hv HC ha
      generalize cs[k].at_ = A at *
      generalize okChn cs[k] = O at *
      generalize cs[k].bs.length = L at *
      generalize hTT : total (cs.take k) = T at *
      clear hTT
      by_cases a0 : A < 0
      · go_wp2
        go_ret
        exact ⟨cp_bool (HV.out (by rw [HO.out]; simp; omega)).symm, HBl.out⟩
      · have a0' : 0 ≤ A := by omega
        by_cases a1 : 65535 < A
        · go_wp2
          go_ret
          exact ⟨cp_bool (HV.out (by rw [HO.out]; simp; omega)).symm, HBl.out⟩
        · have a1' : A ≤ 65535 := by omega
          go_wp2
          go_roundw
          case rel => exact ⟨k + 1, by omega, by go_num, by rw [HT.out]; go_num, HA.out (by rw [HO.out]; simp; omega), HW.out⟩
          case measure => simp [intOf]; omega
    · have hke : cs.take k = cs := List.take_of_length_le (by omega)
      rw [hke] at ha ⊢
      have HV : Hid (validI rom cs = (decide (cs.length ≤ 8) && (decide (total cs ≤ 4096) && (decide (0 ≤ rom) && decide (rom ≤ 256))))) := valid_all ha
      clear ha hke
      generalize total cs = T at *
      have hke : (k : Int) = (cs.length : Int) := by omega
      by_cases q0 : (cs.length : Int) ≤ 8
      · by_cases q1 : (T : Int) ≤ 4096
        · by_cases q2 : 0 ≤ rom
          · by_cases q3 : rom ≤ 256
            all_goals
              go_wp2
              go_ret
              exact ⟨cp_bool (by rw [HV.out]; simp; omega), HBl.out⟩
          · go_wp2
            go_ret
            exact ⟨cp_bool (by rw [HV.out]; simp; omega), HBl.out⟩
        · go_wp2
          go_ret
          exact ⟨cp_bool (by rw [HV.out]; simp; omega), HBl.out⟩
      · go_wp2
        go_ret
        exact ⟨cp_bool (by rw [HV.out]; simp; omega), HBl.out⟩
end

end Go.Proofs.YtcgjliflnnklnaaGreat
