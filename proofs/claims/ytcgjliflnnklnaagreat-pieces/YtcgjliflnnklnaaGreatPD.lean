/-
  Joined texts.
-/
import Derived.Test.YtcgjliflnnklnaaGreatRows
import Derived.WalkKit
import Derived.WalkSpells
import Derived.WalkLawsBesides
import Derived.Laws.BitsAllLaws
import Derived.Test.YtcgjliflnnklnaaGreatCpRgx
import Derived.Test.YtcgjliflnnklnaaGreatCp1
namespace Go.Proofs.YtcgjliflnnklnaaGreat
open Go.RowKit

/-
  Leaf walks of the wire package: hexValue, hexByte, pick.
-/
section
def hv (c : UInt8) : UInt8 × Bool :=
  if 48 ≤ c ∧ c ≤ 57 then (c - 48, true) else if 97 ≤ c ∧ c ≤ 102 then (c - 97 + 10, true) else if 65 ≤ c ∧ c ≤ 70 then (c - 65 + 10, true) else (0, false)

theorem all_u8 {p : UInt8 → Prop} (h : ∀ n : Fin 256, p (UInt8.ofFin n)) (c : UInt8) : p c := h c.toFin

theorem hv_fst (c : UInt8) : ((hv c).1.toNat : Int) = if 48 ≤ (c.toNat : Int) ∧ (c.toNat : Int) ≤ 57 then (c.toNat : Int) - 48 else
    if 97 ≤ (c.toNat : Int) ∧ (c.toNat : Int) ≤ 102 then (c.toNat : Int) - 97 + 10 else if 65 ≤ (c.toNat : Int) ∧ (c.toNat : Int) ≤ 70 then (c.toNat : Int) - 65 + 10 else 0 := by
  revert c; apply all_u8; decide +kernel

theorem hv_snd (c : UInt8) : (hv c).2 = decide ((48 ≤ (c.toNat : Int) ∧ (c.toNat : Int) ≤ 57) ∨ (97 ≤ (c.toNat : Int) ∧ (c.toNat : Int) ≤ 102) ∨ (65 ≤ (c.toNat : Int) ∧ (c.toNat : Int) ≤ 70)) := by
  revert c; apply all_u8; decide +kernel

theorem ret_u8b {a b : Int} {x y : Bool} (h : a = b) (h' : x = y) : Ending.returned (.tuple #[.int .u8 a, .bool x]) = .returned (.tuple #[.int .u8 b, .bool y]) := by rw [h, h']
theorem ret_int {k : IntKind} {a b : Int} (h : a = b) : Ending.returned (.int k a) = .returned (.int k b) := by rw [h]

set_option maxRecDepth 100000 in
set_option maxHeartbeats 400000 in
theorem hexValue_any (c : UInt8) (w : World) :
    Calls Tryz.prog 185 #[.int .u8 c.toNat] w fun e w' => e = .returned (.tuple #[.int .u8 (hv c).1.toNat, .bool (hv c).2]) ∧ w' = w := by
  have hc : (c.toNat : Int) < 256 := by have := c.toNat_lt; omega
  go_enter Tryz.func185, Tryz.ntmps185
  go_wp2
  all_goals go_ret2
  all_goals
    refine ⟨ret_u8b ?_ ?_, rfl⟩
    · rw [hv_fst]
      first | (rw [if_pos (by omega)]; done) | (rw [if_neg (by omega), if_pos (by omega)]; done) | (rw [if_neg (by omega), if_neg (by omega), if_pos (by omega)]; done) | (rw [if_neg (by omega), if_neg (by omega), if_neg (by omega)]; done)
    · rw [hv_snd]; symm
      first | (rw [decide_eq_true_eq]; omega) | (rw [decide_eq_false_iff_not]; omega)

theorem pick_lt (c n : Int) (h : 1 ≤ n) (hc : c < 0) : 0 ≤ -(c + 1).tmod n ∧ -(c + 1).tmod n < n := by
  rw [← Int.neg_tmod, Int.tmod_eq_emod_of_nonneg (by omega)]
  exact ⟨Int.emod_nonneg _ (by omega), Int.emod_lt_of_pos _ (by omega)⟩

set_option maxRecDepth 100000 in
set_option maxHeartbeats 400000 in
theorem pick_any (c n : Int) (w : World) (h : 1 ≤ n) (h2 : n ≤ 9223372036854775807) (hc1 : -9223372036854775808 ≤ c) (hc2 : c ≤ 9223372036854775807) :
    Calls Tryz.prog 20 #[.int .i64 c, .int .i64 n] w fun e w' => (∃ r : Nat, (r : Int) < n ∧ e = .returned (.int .i64 r)) ∧ w' = w := by
  go_enter Tryz.func20, Tryz.ntmps20
  go_wp2
  all_goals go_ret
  · have hc : c < 0 := by assumption
    have := pick_lt c n h hc
    exact ⟨⟨(-(c + 1).tmod n).toNat, by omega, ret_int (by omega)⟩, rfl⟩
  · have h0 := Int.emod_nonneg c (show n ≠ 0 by omega)
    have h1 := Int.emod_lt_of_pos c (show 0 < n by omega)
    exact ⟨⟨(c % n).toNat, by omega, ret_int (by omega)⟩, rfl⟩

theorem or_shl (a b : UInt8) : bits .or .u8 ((a.toNat : Int) * 16 % 256) (b.toNat : Int) = ((a <<< 4 ||| b).toNat : Int) := by
  have e : (a.toNat : Int) * (16 : Int) % (256 : Int) = ((a <<< 4).toNat : Int) := by revert a; apply all_u8; decide +kernel
  rw [e, u8_or_nat _ _ (UInt8.toNat_lt _) (UInt8.toNat_lt _), UInt8.toNat_or]

def hb (h l : UInt8) : UInt8 × Bool := if (hv h).2 = true ∧ (hv l).2 = true then ((hv h).1 <<< 4 ||| (hv l).1, true) else (0, false)

set_option maxRecDepth 100000 in
set_option maxHeartbeats 400000 in
theorem hexByte_any (h l : UInt8) (w : World) :
    Calls Tryz.prog 135 #[.int .u8 h.toNat, .int .u8 l.toNat] w fun e w' => e = .returned (.tuple #[.int .u8 (hb h l).1.toNat, .bool (hb h l).2]) ∧ w' = w := by
  have hc1 : ((hv h).1.toNat : Int) < 256 := by have := (hv h).1.toNat_lt; omega
  have hc2 : ((hv l).1.toNat : Int) < 256 := by have := (hv l).1.toNat_lt; omega
  go_enter Tryz.func135, Tryz.ntmps135
  go_wp2_with fail
  refine (hexValue_any h _).mono ?_
  rintro e w' ⟨rfl, rfl⟩
  go_wp2_with fail
  refine (hexValue_any l _).mono ?_
  rintro e w' ⟨rfl, rfl⟩
  go_wp2
  all_goals go_ret2
  · have e1 : (hv h).snd = true := by assumption
    have e2 : (!(hv l).snd) = true := by assumption
    exact ⟨ret_u8b (by simp_all [hb]) (by simp_all [hb]), rfl⟩
  · have e1 : (hv h).snd = true := by assumption
    have e2 : (!(hv l).snd) = false := by assumption
    have e3 : (hv l).snd = true := by simpa using e2
    refine ⟨ret_u8b ?_ (by simp [hb, e1, e3]), rfl⟩
    rw [or_shl]; simp [hb, e1, e3]
  · have e1 : ¬ (hv h).snd = true := by assumption
    exact ⟨ret_u8b (by simp_all [hb]) (by simp_all [hb]), rfl⟩
end

/-
  The scanner's leaf walks: sum, begin, gather, take.
-/
section
def sum8 (l : List UInt8) : UInt8 := l.foldl (· + ·) 0

theorem sum8_snoc (l : List UInt8) (c : UInt8) : sum8 (l ++ [c]) = sum8 l + c := by simp [sum8]

theorem add_u8 (a b : UInt8) : ((a.toNat : Int) + (b.toNat : Int)) % 256 = ((a + b).toNat : Int) := by
  rw [UInt8.toNat_add]; omega

/-- The bytes l stand in the world from an address on. -/
def BytesAt (w : World) (b off : Nat) (l : List UInt8) : Prop := ∀ i, (h : i < l.length) → w.cell? ⟨b, off + i, none⟩ = some (.int .u8 (l[i].toNat : Int))

theorem take_snoc8 (l : List UInt8) (k : Nat) (h : k < l.length) : l.take (k + 1) = l.take k ++ [l[k]] := by
  rw [List.take_succ_eq_append_getElem h]

set_option maxRecDepth 100000 in
set_option maxHeartbeats 400000 in
theorem sum_any (b off cap : Nat) (l : List UInt8) (w : World) (hl : l.length ≤ 140737488355328) (h : BytesAt w b off l) :
    Calls Tryz.prog 86 #[.slice (some ⟨b, off, none⟩) l.length cap] w fun e w' => e = .returned (.int .u8 (sum8 l).toNat) ∧ w' = w := by
  have H := h
  clear h
  go_enter Tryz.func86, Tryz.ntmps86
  go_wp2
  go_loop [3, 8] (fun t i => ∃ k : Nat, k ≤ l.length ∧ i = .int .i64 k ∧ t = .int .u8 (sum8 (l.take k)).toNat) (fun _ i => l.length - (intOf i).toNat)
  case atStart => exact ⟨0, Nat.zero_le _, rfl, rfl⟩
  case round =>
    obtain ⟨k, hk, rfl, rfl⟩ := hrel
    by_cases hlt : k < l.length
    · have hcell := H k hlt
      have hs : Hid (sum8 (l.take (k + 1)) = sum8 (l.take k) + l[k]) := by rw [take_snoc8 l k hlt]; exact sum8_snoc _ _
      have b1 : ((sum8 (l.take k)).toNat : Int) < 256 := by have := (sum8 (l.take k)).toNat_lt; omega
      have b2 : (l[k].toNat : Int) < 256 := by have := l[k].toNat_lt; omega
      go_wp2
      go_round
      case rel => exact ⟨k + 1, by omega, by go_num, by rw [hs.out, ← add_u8]⟩
      case measure => simp [intOf]; omega
    · go_wp2
      go_ret
      exact ⟨ret_int (by rw [List.take_of_length_le (by omega)]), rfl⟩

structure Sc where
  st : Nat
  raw : List UInt8
  sum : UInt8

def Sc.step (s : Sc) (c : UInt8) : Sc :=
  if s.st = 0 then (if c = 36 then ⟨1, [], s.sum⟩ else s)
  else if s.st = 1 then (if c = 36 then ⟨1, [], s.sum⟩ else if c = 35 then ⟨2, s.raw, s.sum⟩ else if s.raw.length = 200 then ⟨0, s.raw, s.sum⟩ else ⟨1, s.raw ++ [c], s.sum⟩)
  else if s.st = 2 then ⟨3, s.raw, c⟩
  else ⟨0, s.raw, s.sum⟩

/-- A scanner lies in block B. -/
structure ScAt (w : World) (B : Nat) (s : Sc) : Prop where
  st3 : s.st ≤ 3
  len : s.raw.length ≤ 200
  cst : w.cell? ⟨B, 0, none⟩ = some (.int .u8 (s.st : Int))
  cnt : w.cell? ⟨B, 201, none⟩ = some (.int .i64 (s.raw.length : Int))
  csum : w.cell? ⟨B, 202, none⟩ = some (.int .u8 (s.sum.toNat : Int))
  bytes : BytesAt w B 1 s.raw
  there : ∀ i, i < 200 → ∃ v, w.cell? ⟨B, 1 + i, none⟩ = some v
  free : ∀ o, w.frozen? ⟨B, o, none⟩ = false

theorem addr_ne (B a b : Nat) (h : a ≠ b) : (⟨B, a, none⟩ : Addr) ≠ ⟨B, b, none⟩ := by
  intro e; injection e with e1 e2; exact h e2

theorem ScAt.setSt {w : World} {B : Nat} {s : Sc} (h : ScAt w B s) (n : Nat) (hn : n ≤ 3) : ScAt (w.setCell ⟨B, 0, none⟩ (.int .u8 (n : Int))) B ⟨n, s.raw, s.sum⟩ := by
  refine ⟨hn, h.len, World.cell?_setCell_same _ _ _ h.cst, ?_, ?_, ?_, ?_, ?_⟩
  · rw [World.cell?_setCell_other _ _ _ _ (addr_ne _ _ _ (by omega))]; exact h.cnt
  · rw [World.cell?_setCell_other _ _ _ _ (addr_ne _ _ _ (by omega))]; exact h.csum
  · intro i hi; rw [World.cell?_setCell_other _ _ _ _ (addr_ne _ _ _ (by omega))]; exact h.bytes i hi
  · intro i hi; rw [World.cell?_setCell_other _ _ _ _ (addr_ne _ _ _ (by omega))]; exact h.there i hi
  · intro o; rw [World.frozen?_setCell]; exact h.free o

theorem ScAt.clear {w : World} {B : Nat} {s : Sc} (h : ScAt w B s) : ScAt (w.setCell ⟨B, 201, none⟩ (.int .i64 0)) B ⟨s.st, [], s.sum⟩ := by
  refine ⟨h.st3, by simp, ?_, ?_, ?_, ?_, ?_, ?_⟩
  · rw [World.cell?_setCell_other _ _ _ _ (addr_ne _ _ _ (by omega))]; exact h.cst
  · exact World.cell?_setCell_same _ _ _ h.cnt
  · rw [World.cell?_setCell_other _ _ _ _ (addr_ne _ _ _ (by omega))]; exact h.csum
  · intro i hi; simp at hi
  · intro i hi; rw [World.cell?_setCell_other _ _ _ _ (addr_ne _ _ _ (by omega))]; exact h.there i hi
  · intro o; rw [World.frozen?_setCell]; exact h.free o

theorem ScAt.setSum {w : World} {B : Nat} {s : Sc} (h : ScAt w B s) (c : UInt8) : ScAt (w.setCell ⟨B, 202, none⟩ (.int .u8 (c.toNat : Int))) B ⟨s.st, s.raw, c⟩ := by
  refine ⟨h.st3, h.len, ?_, ?_, World.cell?_setCell_same _ _ _ h.csum, ?_, ?_, ?_⟩
  · rw [World.cell?_setCell_other _ _ _ _ (addr_ne _ _ _ (by omega))]; exact h.cst
  · rw [World.cell?_setCell_other _ _ _ _ (addr_ne _ _ _ (by omega))]; exact h.cnt
  · intro i hi; have := h.len; have hi' : i < s.raw.length := hi; rw [World.cell?_setCell_other _ _ _ _ (addr_ne _ _ _ (by omega))]; exact h.bytes i hi
  · intro i hi; rw [World.cell?_setCell_other _ _ _ _ (addr_ne _ _ _ (by omega))]; exact h.there i hi
  · intro o; rw [World.frozen?_setCell]; exact h.free o

theorem ScAt.push {w : World} {B : Nat} {s : Sc} (h : ScAt w B s) (c : UInt8) (hl : s.raw.length < 200) :
    ScAt ((w.setCell ⟨B, 1 + s.raw.length, none⟩ (.int .u8 (c.toNat : Int))).setCell ⟨B, 201, none⟩ (.int .i64 ((s.raw.length : Int) + 1))) B ⟨s.st, s.raw ++ [c], s.sum⟩ := by
  obtain ⟨v, hv⟩ := h.there _ hl
  refine ⟨h.st3, by simp; omega, ?_, ?_, ?_, ?_, ?_, ?_⟩
  · rw [World.cell?_setCell_other _ _ _ _ (addr_ne _ _ _ (by omega)), World.cell?_setCell_other _ _ _ _ (addr_ne _ _ _ (by omega))]; exact h.cst
  · have e : w.cell? ⟨B, 201, none⟩ = some (.int .i64 (s.raw.length : Int)) := h.cnt
    rw [← World.cell?_setCell_other w ⟨B, 1 + s.raw.length, none⟩ _ (.int .u8 (c.toNat : Int)) (addr_ne _ _ _ (by omega))] at e
    rw [World.cell?_setCell_same _ _ _ e]; simp
  · rw [World.cell?_setCell_other _ _ _ _ (addr_ne _ _ _ (by omega)), World.cell?_setCell_other _ _ _ _ (addr_ne _ _ _ (by omega))]; exact h.csum
  · intro i hi
    simp at hi
    rw [World.cell?_setCell_other _ _ _ _ (addr_ne _ _ _ (by omega))]
    by_cases e : i = s.raw.length
    · subst e; rw [World.cell?_setCell_same _ _ _ hv]; simp
    · rw [World.cell?_setCell_other _ _ _ _ (addr_ne _ _ _ (by omega)), h.bytes i (by omega)]; simp [List.getElem_append_left (show i < s.raw.length by omega)]
  · intro i hi
    rw [World.cell?_setCell_other _ _ _ _ (addr_ne _ _ _ (by omega))]
    by_cases e : i = s.raw.length
    · subst e; exact ⟨_, World.cell?_setCell_same _ _ _ hv⟩
    · rw [World.cell?_setCell_other _ _ _ _ (addr_ne _ _ _ (by omega))]; exact h.there i hi
  · intro o; rw [World.frozen?_setCell, World.frozen?_setCell]; exact h.free o

set_option maxRecDepth 100000 in
set_option maxHeartbeats 400000 in
theorem begin_any (B : Nat) (s : Sc) (w : World) (h : ScAt w B s) :
    Calls Tryz.prog 133 #[.pointer (some ⟨B, 0, none⟩)] w fun e w' => e = .returned (.tuple #[]) ∧ w' = (w.setCell ⟨B, 0, none⟩ (.int .u8 1)).setCell ⟨B, 201, none⟩ (.int .i64 0) := by
  have h1 := h.cst
  have h2 := h.cnt
  have f1 := h.free 0
  have f2 := h.free 201
  clear h
  go_enter Tryz.func133, Tryz.ntmps133
  go_wp2
  go_end0
  exact ⟨rfl, rfl⟩

/-- A call that turns scanner B from s to s' and nothing else. -/
def Turned (B : Nat) (s' : Sc) (w w' : World) : Prop := ScAt w' B s' ∧ w.grownBy w' (some B) ∧ w'.heap.size = w.heap.size

theorem grown_set (w : World) (B o : Nat) (v : Value) : w.grownBy (w.setCell ⟨B, o, none⟩ v) (some B) :=
  ⟨rfl, rfl, rfl, by simp, fun k _ hne => Below.heap_setCell _ _ _ _ (fun e => hne (by rw [e]))⟩

theorem grown_trans {a b c : World} {row : Option Nat} (h : a.grownBy b row) (k : b.grownBy c row) : a.grownBy c row :=
  ⟨k.os.trans h.os, k.tape.trans h.tape, k.output.trans h.output, Nat.le_trans h.size k.size, fun i hi hne => (k.block i (Nat.lt_of_lt_of_le hi h.size) hne).trans (h.block i hi hne)⟩

theorem grown_drew (w : World) (row : Option Nat) : w.grownBy w.drew row := ⟨rfl, rfl, rfl, Nat.le_refl _, fun _ _ _ => rfl⟩

theorem ScAt.drew {w : World} {B : Nat} {s : Sc} (h : ScAt w B s) : ScAt w.drew B s :=
  ⟨h.st3, h.len, h.cst, h.cnt, h.csum, h.bytes, h.there, h.free⟩

theorem c_ne {c : UInt8} {n : Nat} (h : c ≠ UInt8.ofNat n) : ((c.toNat : Int) == (n : Int)) = false := by
  rw [beq_eq_false_iff_ne]; intro e; apply h
  have : c.toNat = n := by omega
  rw [← this]; simp

set_option maxRecDepth 100000 in
set_option maxHeartbeats 400000 in
theorem gather_start (B : Nat) (s : Sc) (w : World) (h : ScAt w B s) :
    Calls Tryz.prog 134 #[.pointer (some ⟨B, 0, none⟩), .int .u8 36] w fun e w' => e = .returned (.tuple #[]) ∧ w' = (w.setCell ⟨B, 0, none⟩ (.int .u8 1)).setCell ⟨B, 201, none⟩ (.int .i64 0) := by
  have H : Hid (ScAt w B s) := h
  clear h
  go_enter Tryz.func134, Tryz.ntmps134
  go_wp2_with fail
  refine (begin_any B s _ H.out).mono ?_
  rintro e w' ⟨rfl, rfl⟩
  go_wp2
  go_end0
  exact ⟨rfl, rfl⟩

set_option maxRecDepth 100000 in
set_option maxHeartbeats 400000 in
theorem gather_end (B : Nat) (s : Sc) (w : World) (h : ScAt w B s) :
    Calls Tryz.prog 134 #[.pointer (some ⟨B, 0, none⟩), .int .u8 35] w fun e w' => e = .returned (.tuple #[]) ∧ w' = w.setCell ⟨B, 0, none⟩ (.int .u8 2) := by
  have h1 := h.cst
  have f1 := h.free 0
  clear h
  go_enter Tryz.func134, Tryz.ntmps134
  go_wp2
  go_end0
  exact ⟨rfl, rfl⟩

set_option maxRecDepth 100000 in
set_option maxHeartbeats 400000 in
theorem gather_full (B : Nat) (s : Sc) (w : World) (h : ScAt w B s) (c : UInt8) (h36 : ((c.toNat : Int) == 36) = false) (h35 : ((c.toNat : Int) == 35) = false) (hl : s.raw.length = 200) :
    Calls Tryz.prog 134 #[.pointer (some ⟨B, 0, none⟩), .int .u8 c.toNat] w fun e w' => e = .returned (.tuple #[]) ∧ w' = w.setCell ⟨B, 0, none⟩ (.int .u8 0) := by
  have h1 := h.cst
  have h2 := h.cnt
  rw [hl] at h2
  have f1 := h.free 0
  clear h hl
  go_enter Tryz.func134, Tryz.ntmps134
  go_wp2
  go_end0
  exact ⟨rfl, rfl⟩

set_option maxRecDepth 100000 in
set_option maxHeartbeats 400000 in
theorem gather_push (B : Nat) (s : Sc) (w : World) (h : ScAt w B s) (c : UInt8) (h36 : ((c.toNat : Int) == 36) = false) (h35 : ((c.toNat : Int) == 35) = false) (hl : s.raw.length < 200) :
    Calls Tryz.prog 134 #[.pointer (some ⟨B, 0, none⟩), .int .u8 c.toNat] w fun e w' => e = .returned (.tuple #[]) ∧
      w' = ((w.setCell ⟨B, 1 + s.raw.length, none⟩ (.int .u8 (c.toNat : Int))).setCell ⟨B, 201, none⟩ (.int .i64 ((s.raw.length : Int) + 1))).drew := by
  have h2 := h.cnt
  obtain ⟨v, hv⟩ := h.there _ hl
  have f1 := h.free 201
  have f2 := h.free (1 + s.raw.length)
  have hn : ((s.raw.length : Int) == 200) = false := by rw [beq_eq_false_iff_ne]; omega
  generalize s.raw.length = n at *
  clear h
  go_enter Tryz.func134, Tryz.ntmps134
  go_wp2
  go_region
  go_wp2
  go_end0
  exact ⟨rfl, rfl⟩

theorem c_eq {c : UInt8} {n : Nat} (h : c = UInt8.ofNat n) (hn : n < 256) : (c.toNat : Int) = (n : Int) := by
  subst h; simp; omega

theorem turned_begin {B : Nat} {s : Sc} {w : World} (h : ScAt w B s) : Turned B ⟨1, [], s.sum⟩ w ((w.setCell ⟨B, 0, none⟩ (.int .u8 1)).setCell ⟨B, 201, none⟩ (.int .i64 0)) :=
  ⟨(h.setSt 1 (by omega)).clear, grown_trans (grown_set _ _ _ _) (grown_set _ _ _ _), by simp⟩

theorem gather_any (B : Nat) (s : Sc) (w : World) (h : ScAt w B s) (hs : s.st = 1) (c : UInt8) :
    Calls Tryz.prog 134 #[.pointer (some ⟨B, 0, none⟩), .int .u8 c.toNat] w fun e w' => e = .returned (.tuple #[]) ∧ Turned B (s.step c) w w' := by
  by_cases h36 : c = 36
  · subst h36
    refine (gather_start B s w h).mono ?_
    rintro e w' ⟨rfl, rfl⟩
    refine ⟨rfl, ?_⟩
    have e : s.step 36 = ⟨1, [], s.sum⟩ := by simp [Sc.step, hs]
    rw [e]; exact turned_begin h
  · by_cases h35 : c = 35
    · subst h35
      refine (gather_end B s w h).mono ?_
      rintro e w' ⟨rfl, rfl⟩
      have e : s.step 35 = ⟨2, s.raw, s.sum⟩ := by simp [Sc.step, hs]
      rw [e]; exact ⟨rfl, h.setSt 2 (by omega), grown_set _ _ _ _, by simp⟩
    · by_cases hl : s.raw.length = 200
      · refine (gather_full B s w h c (c_ne (n := 36) h36) (c_ne (n := 35) h35) hl).mono ?_
        rintro e w' ⟨rfl, rfl⟩
        have e : s.step c = ⟨0, s.raw, s.sum⟩ := by simp [Sc.step, hs, h36, h35, hl]
        rw [e]; exact ⟨rfl, h.setSt 0 (by omega), grown_set _ _ _ _, by simp⟩
      · have hlt : s.raw.length < 200 := by have := h.len; omega
        refine (gather_push B s w h c (c_ne (n := 36) h36) (c_ne (n := 35) h35) hlt).mono ?_
        rintro e w' ⟨rfl, rfl⟩
        have e : s.step c = ⟨s.st, s.raw ++ [c], s.sum⟩ := by simp [Sc.step, hs, h36, h35, hl]
        rw [e]
        exact ⟨rfl, (h.push c hlt).drew, grown_trans (grown_trans (grown_set _ _ _ _) (grown_set _ _ _ _)) (grown_drew _ _), by simp⟩

set_option maxRecDepth 100000 in
set_option maxHeartbeats 400000 in
theorem take_0 (B : Nat) (s : Sc) (w : World) (h : ScAt w B s) (hs : s.st = 0) (c : UInt8) :
    Calls Tryz.prog 87 #[.pointer (some ⟨B, 0, none⟩), .int .u8 c.toNat] w fun e w' => e = .returned (.bool false) ∧ Turned B (s.step c) w w' := by
  have h1 := h.cst
  rw [hs] at h1
  by_cases h36 : c = 36
  · subst h36
    have e : s.step 36 = ⟨1, [], s.sum⟩ := by simp [Sc.step, hs]
    rw [e]
    have H : Hid (ScAt w B s) := h
    clear h hs e
    go_enter Tryz.func87, Tryz.ntmps87
    go_wp2_with fail
    refine (begin_any B s _ H.out).mono ?_
    rintro e w' ⟨rfl, rfl⟩
    go_wp2
    go_ret
    exact ⟨rfl, turned_begin H.out⟩
  · have hc := c_ne (n := 36) h36
    have e : s.step c = s := by simp [Sc.step, hs, h36]
    rw [e]
    have H : Hid (ScAt w B s) := h
    clear h hs e
    go_enter Tryz.func87, Tryz.ntmps87
    go_wp2
    go_ret
    exact ⟨rfl, H.out, World.grownBy.refl _ _, rfl⟩

set_option maxRecDepth 100000 in
set_option maxHeartbeats 400000 in
theorem take_1 (B : Nat) (s : Sc) (w : World) (h : ScAt w B s) (hs : s.st = 1) (c : UInt8) :
    Calls Tryz.prog 87 #[.pointer (some ⟨B, 0, none⟩), .int .u8 c.toNat] w fun e w' => e = .returned (.bool false) ∧ Turned B (s.step c) w w' := by
  have h1 := h.cst
  rw [hs] at h1
  have H : Hid (ScAt w B s) := h
  have HS : Hid (s.st = 1) := hs
  clear h hs
  go_enter Tryz.func87, Tryz.ntmps87
  go_wp2_with fail
  refine (gather_any B s _ H.out HS.out c).mono ?_
  rintro e w' ⟨rfl, hT⟩
  have HT : Hid (Turned B (s.step c) w w') := hT
  clear hT
  go_wp2
  go_ret
  exact ⟨rfl, HT.out⟩

set_option maxRecDepth 100000 in
set_option maxHeartbeats 400000 in
theorem take_2 (B : Nat) (s : Sc) (w : World) (h : ScAt w B s) (hs : s.st = 2) (c : UInt8) :
    Calls Tryz.prog 87 #[.pointer (some ⟨B, 0, none⟩), .int .u8 c.toNat] w fun e w' => e = .returned (.bool false) ∧ Turned B (s.step c) w w' := by
  have h1 := h.cst
  rw [hs] at h1
  have h2 := h.csum
  have f1 := h.free 0
  have f2 := h.free 202
  have e : s.step c = ⟨3, s.raw, c⟩ := by simp [Sc.step, hs]
  rw [e]
  have H : Hid (ScAt w B s) := h
  clear h hs e
  go_enter Tryz.func87, Tryz.ntmps87
  go_wp2
  go_ret
  exact ⟨rfl, (H.out.setSum c).setSt 3 (by omega), grown_trans (grown_set _ _ _ _) (grown_set _ _ _ _), by simp⟩

set_option maxRecDepth 100000 in
set_option maxHeartbeats 400000 in
theorem take_3 (B : Nat) (s : Sc) (w : World) (h : ScAt w B s) (hs : s.st = 3) (c : UInt8) :
    Calls Tryz.prog 87 #[.pointer (some ⟨B, 0, none⟩), .int .u8 c.toNat] w fun e w' => e = .returned (.bool true) ∧ Turned B (s.step c) w w' := by
  have h1 := h.cst
  rw [hs] at h1
  have f1 := h.free 0
  have e : s.step c = ⟨0, s.raw, s.sum⟩ := by simp [Sc.step, hs]
  rw [e]
  have H : Hid (ScAt w B s) := h
  clear h hs e
  go_enter Tryz.func87, Tryz.ntmps87
  go_wp2
  go_ret
  exact ⟨rfl, H.out.setSt 0 (by omega), grown_set _ _ _ _, by simp⟩

theorem take_any (B : Nat) (s : Sc) (w : World) (h : ScAt w B s) (c : UInt8) :
    Calls Tryz.prog 87 #[.pointer (some ⟨B, 0, none⟩), .int .u8 c.toNat] w fun e w' => e = .returned (.bool (decide (s.st = 3))) ∧ Turned B (s.step c) w w' := by
  have h3 := h.st3
  rcases (show s.st = 0 ∨ s.st = 1 ∨ s.st = 2 ∨ s.st = 3 from by omega) with e | e | e | e
  · rw [e]; exact take_0 B s w h e c
  · rw [e]; exact take_1 B s w h e c
  · rw [e]; exact take_2 B s w h e c
  · rw [e]; exact take_3 B s w h e c
end

/-
  A stub's scanner: the same walks, where it lies within the stub.
-/
section
variable {Q : Nat → Option Value}

/-- A scanner lies in block B. -/
structure ScS (Q : Nat → Option Value) (w : World) (B : Nat) (s : Sc) : Prop where
  st3 : s.st ≤ 3
  len : s.raw.length ≤ 200
  cst : w.cell? ⟨B, 65562, none⟩ = some (.int .u8 (s.st : Int))
  cnt : w.cell? ⟨B, 65763, none⟩ = some (.int .i64 (s.raw.length : Int))
  csum : w.cell? ⟨B, 65764, none⟩ = some (.int .u8 (s.sum.toNat : Int))
  bytes : BytesAt w B 65563 s.raw
  there : ∀ i, i < 200 → ∃ v, w.cell? ⟨B, 65563 + i, none⟩ = some v
  free : ∀ o, w.frozen? ⟨B, o, none⟩ = false
  keep : ∀ o, o < 65562 ∨ 65765 ≤ o → w.cell? ⟨B, o, none⟩ = Q o


theorem ScS.setSt {w : World} {B : Nat} {s : Sc} (h : ScS Q w B s) (n : Nat) (hn : n ≤ 3) : ScS Q (w.setCell ⟨B, 65562, none⟩ (.int .u8 (n : Int))) B ⟨n, s.raw, s.sum⟩ := by
  refine ⟨hn, h.len, World.cell?_setCell_same _ _ _ h.cst, ?_, ?_, ?_, ?_, ?_, ?_⟩
  · rw [World.cell?_setCell_other _ _ _ _ (addr_ne _ _ _ (by omega))]; exact h.cnt
  · rw [World.cell?_setCell_other _ _ _ _ (addr_ne _ _ _ (by omega))]; exact h.csum
  · intro i hi; rw [World.cell?_setCell_other _ _ _ _ (addr_ne _ _ _ (by omega))]; exact h.bytes i hi
  · intro i hi; rw [World.cell?_setCell_other _ _ _ _ (addr_ne _ _ _ (by omega))]; exact h.there i hi
  · intro o; rw [World.frozen?_setCell]; exact h.free o
  · intro o ho; rw [World.cell?_setCell_other _ _ _ _ (addr_ne _ _ _ (by omega))]; exact h.keep o ho

theorem ScS.clear {w : World} {B : Nat} {s : Sc} (h : ScS Q w B s) : ScS Q (w.setCell ⟨B, 65763, none⟩ (.int .i64 0)) B ⟨s.st, [], s.sum⟩ := by
  refine ⟨h.st3, by simp, ?_, ?_, ?_, ?_, ?_, ?_, ?_⟩
  · rw [World.cell?_setCell_other _ _ _ _ (addr_ne _ _ _ (by omega))]; exact h.cst
  · exact World.cell?_setCell_same _ _ _ h.cnt
  · rw [World.cell?_setCell_other _ _ _ _ (addr_ne _ _ _ (by omega))]; exact h.csum
  · intro i hi; simp at hi
  · intro i hi; rw [World.cell?_setCell_other _ _ _ _ (addr_ne _ _ _ (by omega))]; exact h.there i hi
  · intro o; rw [World.frozen?_setCell]; exact h.free o
  · intro o ho; rw [World.cell?_setCell_other _ _ _ _ (addr_ne _ _ _ (by omega))]; exact h.keep o ho

theorem ScS.setSum {w : World} {B : Nat} {s : Sc} (h : ScS Q w B s) (c : UInt8) : ScS Q (w.setCell ⟨B, 65764, none⟩ (.int .u8 (c.toNat : Int))) B ⟨s.st, s.raw, c⟩ := by
  refine ⟨h.st3, h.len, ?_, ?_, World.cell?_setCell_same _ _ _ h.csum, ?_, ?_, ?_, ?_⟩
  · rw [World.cell?_setCell_other _ _ _ _ (addr_ne _ _ _ (by omega))]; exact h.cst
  · rw [World.cell?_setCell_other _ _ _ _ (addr_ne _ _ _ (by omega))]; exact h.cnt
  · intro i hi; have := h.len; have hi' : i < s.raw.length := hi; rw [World.cell?_setCell_other _ _ _ _ (addr_ne _ _ _ (by omega))]; exact h.bytes i hi
  · intro i hi; rw [World.cell?_setCell_other _ _ _ _ (addr_ne _ _ _ (by omega))]; exact h.there i hi
  · intro o; rw [World.frozen?_setCell]; exact h.free o
  · intro o ho; rw [World.cell?_setCell_other _ _ _ _ (addr_ne _ _ _ (by omega))]; exact h.keep o ho

theorem ScS.push {w : World} {B : Nat} {s : Sc} (h : ScS Q w B s) (c : UInt8) (hl : s.raw.length < 200) :
    ScS Q ((w.setCell ⟨B, 65563 + s.raw.length, none⟩ (.int .u8 (c.toNat : Int))).setCell ⟨B, 65763, none⟩ (.int .i64 ((s.raw.length : Int) + 1))) B ⟨s.st, s.raw ++ [c], s.sum⟩ := by
  obtain ⟨v, hv⟩ := h.there _ hl
  refine ⟨h.st3, by simp; omega, ?_, ?_, ?_, ?_, ?_, ?_, ?_⟩
  · rw [World.cell?_setCell_other _ _ _ _ (addr_ne _ _ _ (by omega)), World.cell?_setCell_other _ _ _ _ (addr_ne _ _ _ (by omega))]; exact h.cst
  · have e : w.cell? ⟨B, 65763, none⟩ = some (.int .i64 (s.raw.length : Int)) := h.cnt
    rw [← World.cell?_setCell_other w ⟨B, 65563 + s.raw.length, none⟩ _ (.int .u8 (c.toNat : Int)) (addr_ne _ _ _ (by omega))] at e
    rw [World.cell?_setCell_same _ _ _ e]; simp
  · rw [World.cell?_setCell_other _ _ _ _ (addr_ne _ _ _ (by omega)), World.cell?_setCell_other _ _ _ _ (addr_ne _ _ _ (by omega))]; exact h.csum
  · intro i hi
    simp at hi
    rw [World.cell?_setCell_other _ _ _ _ (addr_ne _ _ _ (by omega))]
    by_cases e : i = s.raw.length
    · subst e; rw [World.cell?_setCell_same _ _ _ hv]; simp
    · rw [World.cell?_setCell_other _ _ _ _ (addr_ne _ _ _ (by omega)), h.bytes i (by omega)]; simp [List.getElem_append_left (show i < s.raw.length by omega)]
  · intro i hi
    rw [World.cell?_setCell_other _ _ _ _ (addr_ne _ _ _ (by omega))]
    by_cases e : i = s.raw.length
    · subst e; exact ⟨_, World.cell?_setCell_same _ _ _ hv⟩
    · rw [World.cell?_setCell_other _ _ _ _ (addr_ne _ _ _ (by omega))]; exact h.there i hi
  · intro o; rw [World.frozen?_setCell, World.frozen?_setCell]; exact h.free o
  · intro o ho; rw [World.cell?_setCell_other _ _ _ _ (addr_ne _ _ _ (by omega)), World.cell?_setCell_other _ _ _ _ (addr_ne _ _ _ (by omega))]; exact h.keep o ho

set_option maxRecDepth 100000 in
set_option maxHeartbeats 400000 in
theorem beginS_any (B : Nat) (s : Sc) (w : World) (h : ScS Q w B s) :
    Calls Tryz.prog 133 #[.pointer (some ⟨B, 65562, none⟩)] w fun e w' => e = .returned (.tuple #[]) ∧ w' = (w.setCell ⟨B, 65562, none⟩ (.int .u8 1)).setCell ⟨B, 65763, none⟩ (.int .i64 0) := by
  have h1 := h.cst
  have h2 := h.cnt
  have f1 := h.free 65562
  have f2 := h.free 65763
  clear h
  go_enter Tryz.func133, Tryz.ntmps133
  go_wp2
  go_end0
  exact ⟨rfl, rfl⟩

/-- A call that turns scanner B from s to s' and nothing else. -/
def TurnedS (Q : Nat → Option Value) (B : Nat) (s' : Sc) (w w' : World) : Prop := ScS Q w' B s' ∧ w.grownBy w' (some B) ∧ w'.heap.size = w.heap.size




theorem ScS.drew {w : World} {B : Nat} {s : Sc} (h : ScS Q w B s) : ScS Q w.drew B s :=
  ⟨h.st3, h.len, h.cst, h.cnt, h.csum, h.bytes, h.there, h.free, h.keep⟩


set_option maxRecDepth 100000 in
set_option maxHeartbeats 400000 in
theorem gatherS_start (B : Nat) (s : Sc) (w : World) (h : ScS Q w B s) :
    Calls Tryz.prog 134 #[.pointer (some ⟨B, 65562, none⟩), .int .u8 36] w fun e w' => e = .returned (.tuple #[]) ∧ w' = (w.setCell ⟨B, 65562, none⟩ (.int .u8 1)).setCell ⟨B, 65763, none⟩ (.int .i64 0) := by
  have H : Hid (ScS Q w B s) := h
  clear h
  go_enter Tryz.func134, Tryz.ntmps134
  go_wp2_with fail
  refine (beginS_any B s _ H.out).mono ?_
  rintro e w' ⟨rfl, rfl⟩
  go_wp2
  go_end0
  exact ⟨rfl, rfl⟩

set_option maxRecDepth 100000 in
set_option maxHeartbeats 400000 in
theorem gatherS_end (B : Nat) (s : Sc) (w : World) (h : ScS Q w B s) :
    Calls Tryz.prog 134 #[.pointer (some ⟨B, 65562, none⟩), .int .u8 35] w fun e w' => e = .returned (.tuple #[]) ∧ w' = w.setCell ⟨B, 65562, none⟩ (.int .u8 2) := by
  have h1 := h.cst
  have f1 := h.free 65562
  clear h
  go_enter Tryz.func134, Tryz.ntmps134
  go_wp2
  go_end0
  exact ⟨rfl, rfl⟩

set_option maxRecDepth 100000 in
set_option maxHeartbeats 400000 in
theorem gatherS_full (B : Nat) (s : Sc) (w : World) (h : ScS Q w B s) (c : UInt8) (h36 : ((c.toNat : Int) == 36) = false) (h35 : ((c.toNat : Int) == 35) = false) (hl : s.raw.length = 200) :
    Calls Tryz.prog 134 #[.pointer (some ⟨B, 65562, none⟩), .int .u8 c.toNat] w fun e w' => e = .returned (.tuple #[]) ∧ w' = w.setCell ⟨B, 65562, none⟩ (.int .u8 0) := by
  have h1 := h.cst
  have h2 := h.cnt
  rw [hl] at h2
  have f1 := h.free 65562
  clear h hl
  go_enter Tryz.func134, Tryz.ntmps134
  go_wp2
  go_end0
  exact ⟨rfl, rfl⟩

set_option maxRecDepth 100000 in
set_option maxHeartbeats 400000 in
theorem gatherS_push (B : Nat) (s : Sc) (w : World) (h : ScS Q w B s) (c : UInt8) (h36 : ((c.toNat : Int) == 36) = false) (h35 : ((c.toNat : Int) == 35) = false) (hl : s.raw.length < 200) :
    Calls Tryz.prog 134 #[.pointer (some ⟨B, 65562, none⟩), .int .u8 c.toNat] w fun e w' => e = .returned (.tuple #[]) ∧
      w' = ((w.setCell ⟨B, 65563 + s.raw.length, none⟩ (.int .u8 (c.toNat : Int))).setCell ⟨B, 65763, none⟩ (.int .i64 ((s.raw.length : Int) + 1))).drew := by
  have h2 := h.cnt
  obtain ⟨v, hv⟩ := h.there _ hl
  have f1 := h.free 65763
  have f2 := h.free (65563 + s.raw.length)
  have hn : ((s.raw.length : Int) == 200) = false := by rw [beq_eq_false_iff_ne]; omega
  generalize s.raw.length = n at *
  clear h
  go_enter Tryz.func134, Tryz.ntmps134
  go_wp2
  go_region
  go_wp2
  go_end0
  exact ⟨rfl, rfl⟩


theorem turnedS_begin {B : Nat} {s : Sc} {w : World} (h : ScS Q w B s) : TurnedS Q B ⟨1, [], s.sum⟩ w ((w.setCell ⟨B, 65562, none⟩ (.int .u8 1)).setCell ⟨B, 65763, none⟩ (.int .i64 0)) :=
  ⟨(h.setSt 1 (by omega)).clear, grown_trans (grown_set _ _ _ _) (grown_set _ _ _ _), by simp⟩

theorem gatherS_any (B : Nat) (s : Sc) (w : World) (h : ScS Q w B s) (hs : s.st = 1) (c : UInt8) :
    Calls Tryz.prog 134 #[.pointer (some ⟨B, 65562, none⟩), .int .u8 c.toNat] w fun e w' => e = .returned (.tuple #[]) ∧ TurnedS Q B (s.step c) w w' := by
  by_cases h36 : c = 36
  · subst h36
    refine (gatherS_start B s w h).mono ?_
    rintro e w' ⟨rfl, rfl⟩
    refine ⟨rfl, ?_⟩
    have e : s.step 36 = ⟨1, [], s.sum⟩ := by simp [Sc.step, hs]
    rw [e]; exact turnedS_begin h
  · by_cases h35 : c = 35
    · subst h35
      refine (gatherS_end B s w h).mono ?_
      rintro e w' ⟨rfl, rfl⟩
      have e : s.step 35 = ⟨2, s.raw, s.sum⟩ := by simp [Sc.step, hs]
      rw [e]; exact ⟨rfl, h.setSt 2 (by omega), grown_set _ _ _ _, by simp⟩
    · by_cases hl : s.raw.length = 200
      · refine (gatherS_full B s w h c (c_ne (n := 36) h36) (c_ne (n := 35) h35) hl).mono ?_
        rintro e w' ⟨rfl, rfl⟩
        have e : s.step c = ⟨0, s.raw, s.sum⟩ := by simp [Sc.step, hs, h36, h35, hl]
        rw [e]; exact ⟨rfl, h.setSt 0 (by omega), grown_set _ _ _ _, by simp⟩
      · have hlt : s.raw.length < 200 := by have := h.len; omega
        refine (gatherS_push B s w h c (c_ne (n := 36) h36) (c_ne (n := 35) h35) hlt).mono ?_
        rintro e w' ⟨rfl, rfl⟩
        have e : s.step c = ⟨s.st, s.raw ++ [c], s.sum⟩ := by simp [Sc.step, hs, h36, h35, hl]
        rw [e]
        exact ⟨rfl, (h.push c hlt).drew, grown_trans (grown_trans (grown_set _ _ _ _) (grown_set _ _ _ _)) (grown_drew _ _), by simp⟩

set_option maxRecDepth 100000 in
set_option maxHeartbeats 400000 in
theorem takeS_0 (B : Nat) (s : Sc) (w : World) (h : ScS Q w B s) (hs : s.st = 0) (c : UInt8) :
    Calls Tryz.prog 87 #[.pointer (some ⟨B, 65562, none⟩), .int .u8 c.toNat] w fun e w' => e = .returned (.bool false) ∧ TurnedS Q B (s.step c) w w' := by
  have h1 := h.cst
  rw [hs] at h1
  by_cases h36 : c = 36
  · subst h36
    have e : s.step 36 = ⟨1, [], s.sum⟩ := by simp [Sc.step, hs]
    rw [e]
    have H : Hid (ScS Q w B s) := h
    clear h hs e
    go_enter Tryz.func87, Tryz.ntmps87
    go_wp2_with fail
    refine (beginS_any B s _ H.out).mono ?_
    rintro e w' ⟨rfl, rfl⟩
    go_wp2
    go_ret
    exact ⟨rfl, turnedS_begin H.out⟩
  · have hc := c_ne (n := 36) h36
    have e : s.step c = s := by simp [Sc.step, hs, h36]
    rw [e]
    have H : Hid (ScS Q w B s) := h
    clear h hs e
    go_enter Tryz.func87, Tryz.ntmps87
    go_wp2
    go_ret
    exact ⟨rfl, H.out, World.grownBy.refl _ _, rfl⟩

set_option maxRecDepth 100000 in
set_option maxHeartbeats 400000 in
theorem takeS_1 (B : Nat) (s : Sc) (w : World) (h : ScS Q w B s) (hs : s.st = 1) (c : UInt8) :
    Calls Tryz.prog 87 #[.pointer (some ⟨B, 65562, none⟩), .int .u8 c.toNat] w fun e w' => e = .returned (.bool false) ∧ TurnedS Q B (s.step c) w w' := by
  have h1 := h.cst
  rw [hs] at h1
  have H : Hid (ScS Q w B s) := h
  have HS : Hid (s.st = 1) := hs
  clear h hs
  go_enter Tryz.func87, Tryz.ntmps87
  go_wp2_with fail
  refine (gatherS_any B s _ H.out HS.out c).mono ?_
  rintro e w' ⟨rfl, hT⟩
  have HT : Hid (TurnedS Q B (s.step c) w w') := hT
  clear hT
  go_wp2
  go_ret
  exact ⟨rfl, HT.out⟩

set_option maxRecDepth 100000 in
set_option maxHeartbeats 400000 in
theorem takeS_2 (B : Nat) (s : Sc) (w : World) (h : ScS Q w B s) (hs : s.st = 2) (c : UInt8) :
    Calls Tryz.prog 87 #[.pointer (some ⟨B, 65562, none⟩), .int .u8 c.toNat] w fun e w' => e = .returned (.bool false) ∧ TurnedS Q B (s.step c) w w' := by
  have h1 := h.cst
  rw [hs] at h1
  have h2 := h.csum
  have f1 := h.free 65562
  have f2 := h.free 65764
  have e : s.step c = ⟨3, s.raw, c⟩ := by simp [Sc.step, hs]
  rw [e]
  have H : Hid (ScS Q w B s) := h
  clear h hs e
  go_enter Tryz.func87, Tryz.ntmps87
  go_wp2
  go_ret
  exact ⟨rfl, (H.out.setSum c).setSt 3 (by omega), grown_trans (grown_set _ _ _ _) (grown_set _ _ _ _), by simp⟩

set_option maxRecDepth 100000 in
set_option maxHeartbeats 400000 in
theorem takeS_3 (B : Nat) (s : Sc) (w : World) (h : ScS Q w B s) (hs : s.st = 3) (c : UInt8) :
    Calls Tryz.prog 87 #[.pointer (some ⟨B, 65562, none⟩), .int .u8 c.toNat] w fun e w' => e = .returned (.bool true) ∧ TurnedS Q B (s.step c) w w' := by
  have h1 := h.cst
  rw [hs] at h1
  have f1 := h.free 65562
  have e : s.step c = ⟨0, s.raw, s.sum⟩ := by simp [Sc.step, hs]
  rw [e]
  have H : Hid (ScS Q w B s) := h
  clear h hs e
  go_enter Tryz.func87, Tryz.ntmps87
  go_wp2
  go_ret
  exact ⟨rfl, H.out.setSt 0 (by omega), grown_set _ _ _ _, by simp⟩

theorem takeS_any (B : Nat) (s : Sc) (w : World) (h : ScS Q w B s) (c : UInt8) :
    Calls Tryz.prog 87 #[.pointer (some ⟨B, 65562, none⟩), .int .u8 c.toNat] w fun e w' => e = .returned (.bool (decide (s.st = 3))) ∧ TurnedS Q B (s.step c) w w' := by
  have h3 := h.st3
  rcases (show s.st = 0 ∨ s.st = 1 ∨ s.st = 2 ∨ s.st = 3 from by omega) with e | e | e | e
  · rw [e]; exact takeS_0 B s w h e c
  · rw [e]; exact takeS_1 B s w h e c
  · rw [e]; exact takeS_2 B s w h e c
  · rw [e]; exact takeS_3 B s w h e c
end

/-
  What every cycle of the program's computer keeps: its byte is memory's, its instruction ends in time.
-/
section
/-- How many cycles behind the fetch a mode has, at most. -/
def lenM (m : Nat) : Nat := [0, 1, 1, 1, 1, 2, 2, 2, 3, 3, 4, 4, 3, 2, 4, 5, 5, 2, 3, 6, 6, 6, 5].getD m 0

/-- How the computer stands n cycles behind the last fetch. -/
inductive TrI (s : PC) (n : Nat) : Prop
  | idle : s.st = 0 → s.bpc = s.pc → n ≤ 7 → TrI s n
  | mid (m : Nat) : s.st = 1 → s.md = m → 1 ≤ m → m ≤ 22 → s.step = n → n < lenM m → TrI s n
  | two : s.st = 2 → n ≤ 4 → TrI s n
  | three : s.st = 3 → n ≤ 5 → TrI s n
  | four : s.st = 4 → n ≤ 6 → TrI s n
  | jam : s.st = 5 → TrI s n

structure RgP (s : PC) : Prop where
  pc : 0 ≤ s.pc ∧ s.pc < 65536
  ad : 0 ≤ s.ad ∧ s.ad < 65536
  hop : 0 ≤ s.hop ∧ s.hop < 65536
  sp : 0 ≤ s.s ∧ s.s < 256
  x : 0 ≤ s.x ∧ s.x < 256

structure Okr (s : PC) (n : Nat) (r : PC × BusI) : Prop where
  ft : r.2.ft = false
  lo : 0 ≤ r.2.addr
  hi : r.2.addr < 65536
  rom : (r.1.rom, r.1.cyc) = (s.rom, s.cyc)
  byte : r.2.addr / 256 ≠ 208 → ¬ (r.2.wr = true ∧ s.rom ≤ r.2.addr) → r.1.mem r.2.addr.toNat = r.2.data
  nx : TrI r.1 n

structure Kp (s q : PC) : Prop where
  mem : q.mem = s.mem
  rom : (q.rom, q.cyc) = (s.rom, s.cyc)
  st : q.st = s.st
  md : q.md = s.md
  step : q.step = s.step
theorem rk (s : PC) (a : Int) : Kp s (s.read1 a) := by
  unfold PC.read1; split <;> exact ⟨rfl, rfl, rfl, rfl, rfl⟩

structure Wk (s q : PC) (a d : Int) : Prop where
  mem : a / 256 ≠ 208 → a < s.rom → q.mem a.toNat = d
  rom : (q.rom, q.cyc) = (s.rom, s.cyc)
  st : q.st = s.st
  md : q.md = s.md
  step : q.step = s.step
  pc : q.pc = s.pc
  bpc : q.bpc = s.bpc
theorem wk (s : PC) (a d : Int) : Wk s (s.write1 a d) a d := by
  unfold PC.write1
  split
  · exact ⟨fun h _ => by omega, rfl, rfl, rfl, rfl, rfl, rfl⟩
  split
  · exact ⟨fun _ _ => by show mput s.mem a.toNat d a.toNat = d; unfold mput; rw [if_pos rfl], rfl, rfl, rfl, rfl, rfl, rfl⟩
  · exact ⟨fun h h2 => by omega, rfl, rfl, rfl, rfl, rfl, rfl⟩

structure Ik (s q : PC) : Prop where
  mem : q.mem = s.mem
  rom : (q.rom, q.cyc) = (s.rom, s.cyc)
  st : q.st = s.st
  md : q.md = s.md
  step : q.step = s.step
  ad : q.ad = s.ad
  sp : q.s = s.s ∨ q.s = s.x
theorem ik (s : PC) (i : Nat) : Ik s (s.doIns i) := by
  unfold PC.doIns
  split <;> exact ⟨rfl, rfl, rfl, rfl, rfl, rfl, by first | exact .inl rfl | exact .inr rfl⟩

theorem Okr.r {s q : PC} {n : Nat} {a : Int} (h0 : 0 ≤ a) (h1 : a < 65536) (hm : q.mem = s.mem) (hr : (q.rom, q.cyc) = (s.rom, s.cyc)) (hn : TrI q n) : Okr s n (q, ⟨a, s.look a, false, false⟩) :=
  ⟨rfl, h0, h1, hr, fun h _ => by show q.mem a.toNat = s.look a; rw [hm]; have h' : a / 256 ≠ 208 := h; unfold PC.look; rw [if_neg (by omega), if_neg (by omega)], hn⟩
theorem Okr.w {s q : PC} {n : Nat} {a d : Int} (h0 : 0 ≤ a) (h1 : a < 65536) (hm : a / 256 ≠ 208 → a < s.rom → q.mem a.toNat = d) (hr : (q.rom, q.cyc) = (s.rom, s.cyc)) (hn : TrI q n) : Okr s n (q, ⟨a, d, true, false⟩) :=
  ⟨rfl, h0, h1, hr, fun h h2 => hm h (by have h3 : ¬ (true = true ∧ s.rom ≤ a) := h2; simp at h3; omega), hn⟩

/-- The midst of an instruction of mode m, at its step n + 1. -/
structure MidH (s : PC) (n m : Nat) : Prop where
  st : s.st = 1
  md : s.md = m
  h1 : 1 ≤ m
  h2 : m ≤ 22
  step : s.step = (n : Int) + 1

theorem MidH.stay {s q : PC} {n m : Nat} (M : MidH s n m) (e1 : q.st = s.st) (e2 : q.md = s.md) (e3 : q.step = s.step) (hl : n + 1 < lenM m) : TrI q (n + 1) :=
  .mid m (e1.trans M.st) (e2.trans M.md) M.h1 M.h2 (e3.trans (by rw [M.step]; omega)) hl

theorem range_pc {s : PC} (R : RgP s) : 0 ≤ s.stackTop ∧ s.stackTop < 65536 := by
  have := R.sp; unfold PC.stackTop joinI; omega
theorem range_in {a : Int} (h0 : 0 ≤ a) (h1 : a < 65536) (i : Int) : 0 ≤ withinI a i ∧ withinI a i < 65536 := by
  unfold withinI joinI loI hiI; omega

/-- A byte accessed. -/
theorem ok_access (s : PC) (n : Nat) (h0 : 0 ≤ s.ad) (h1 : s.ad < 65536) (hn : n ≤ 4) : Okr s (n + 1) s.access := by
  unfold PC.access
  split
  · have I := ik s s.ins.toNat
    have K := wk s.performLast s.performLast.ad s.performLast.data
    have ea : s.performLast.ad = s.ad := I.ad
    have er : (s.performLast.rom, s.performLast.cyc) = (s.rom, s.cyc) := I.rom
    have er' : s.performLast.rom = s.rom := (Prod.mk.inj er).1
    refine Okr.w (s := s) (q := s.performLast.write1 s.performLast.ad s.performLast.data) (a := s.performLast.ad) (d := s.performLast.data) (by omega) (by omega) (fun x y => K.mem x (by omega)) (K.rom.trans er) (.idle (K.st.trans rfl) (K.bpc.trans (by rw [K.pc]; rfl)) (by omega))
  split
  · have K := rk ({ s with st := 3 } : PC) s.ad
    exact Okr.r (s := s) (q := (takeData (({ s with st := 3 } : PC).read s.ad)).1) (a := s.ad) h0 h1 K.mem K.rom (.three K.st (by omega))
  · have K := rk s s.ad
    have I := ik (takeData (s.read s.ad)).1 (takeData (s.read s.ad)).1.ins.toNat
    exact Okr.r (s := s) (q := (takeData (s.read s.ad)).1.performLast) (a := s.ad) h0 h1 (I.mem.trans K.mem) (I.rom.trans K.rom) (.idle rfl rfl (by omega))

theorem ok_restore (s : PC) (n : Nat) (h0 : 0 ≤ s.ad) (h1 : s.ad < 65536) (hn : n ≤ 5) : Okr s (n + 1) s.restore := by
  have K := wk ({ s with st := 4 } : PC) s.ad s.data
  exact Okr.w (s := s) (q := ({ s with st := 4 } : PC).write1 s.ad s.data) (a := s.ad) (d := s.data) h0 h1 K.mem K.rom (.four K.st (by omega))
theorem ok_change (s : PC) (n : Nat) (h0 : 0 ≤ s.ad) (h1 : s.ad < 65536) (hn : n ≤ 6) : Okr s (n + 1) s.change := by
  have I := ik s s.ins.toNat
  have K := wk s.performLast s.performLast.ad s.performLast.data
  have ea : s.performLast.ad = s.ad := I.ad
  have er : (s.performLast.rom, s.performLast.cyc) = (s.rom, s.cyc) := I.rom
  have er' : s.performLast.rom = s.rom := (Prod.mk.inj er).1
  exact Okr.w (s := s) (q := s.performLast.write1 s.performLast.ad s.performLast.data) (a := s.performLast.ad) (d := s.performLast.data) (by omega) (by omega) (fun x y => K.mem x (by omega)) (K.rom.trans er) (.idle (K.st.trans rfl) (K.bpc.trans (by rw [K.pc]; rfl)) (by omega))

/-- A read that stays in the mode. -/
theorem ok_stay {s : PC} {n m : Nat} (M : MidH s n m) (q : PC) (a : Int) (K : Kp s q) (h : 0 ≤ a ∧ a < 65536) (hl : n + 1 < lenM m) : Okr s (n + 1) (q, ⟨a, s.look a, false, false⟩) :=
  Okr.r h.1 h.2 K.mem K.rom (M.stay K.st K.md K.step hl)
/-- A read that gathers the last byte of an address. -/
theorem ok_two {s : PC} {n : Nat} (q : PC) (a : Int) (hm : q.mem = s.mem) (hr : (q.rom, q.cyc) = (s.rom, s.cyc)) (hs : q.st = 2) (h : 0 ≤ a ∧ a < 65536) (hl : n ≤ 3) : Okr s (n + 1) (q, ⟨a, s.look a, false, false⟩) :=
  Okr.r h.1 h.2 hm hr (.two hs (by omega))
/-- A read that ends the instruction. -/
theorem ok_fin {s : PC} {n : Nat} (q : PC) (a : Int) (hm : q.mem = s.mem) (hr : (q.rom, q.cyc) = (s.rom, s.cyc)) (hs : q.st = 0) (hb : q.bpc = q.pc) (h : 0 ≤ a ∧ a < 65536) (hl : n ≤ 6) : Okr s (n + 1) (q, ⟨a, s.look a, false, false⟩) :=
  Okr.r h.1 h.2 hm hr (.idle hs hb (by omega))

theorem ok_readNext {s : PC} {n m : Nat} (R : RgP s) (M : MidH s n m) (hl : n + 1 < lenM m) :
    Okr s (n + 1) s.readNext ∧ Okr s (n + 1) (takeLow s.readNext) ∧ Okr s (n + 1) (takeHigh s.readNext) ∧ Okr s (n + 1) (takeHop s.readNext) :=
  ⟨ok_stay M s.readNext.1 s.pc ⟨(rk s s.pc).mem, (rk s s.pc).rom, (rk s s.pc).st, (rk s s.pc).md, (rk s s.pc).step⟩ R.pc hl, ok_stay M (takeLow s.readNext).1 s.pc ⟨(rk s s.pc).mem, (rk s s.pc).rom, (rk s s.pc).st, (rk s s.pc).md, (rk s s.pc).step⟩ R.pc hl, ok_stay M (takeHigh s.readNext).1 s.pc ⟨(rk s s.pc).mem, (rk s s.pc).rom, (rk s s.pc).st, (rk s s.pc).md, (rk s s.pc).step⟩ R.pc hl, ok_stay M (takeHop s.readNext).1 s.pc ⟨(rk s s.pc).mem, (rk s s.pc).rom, (rk s s.pc).st, (rk s s.pc).md, (rk s s.pc).step⟩ R.pc hl⟩
theorem ok_read {s : PC} {n m : Nat} (M : MidH s n m) (a : Int) (h : 0 ≤ a ∧ a < 65536) (hl : n + 1 < lenM m) :
    Okr s (n + 1) (s.read a) ∧ Okr s (n + 1) (takeLow (s.read a)) ∧ Okr s (n + 1) (takeHigh (s.read a)) ∧ Okr s (n + 1) (takeData (s.read a)) :=
  ⟨ok_stay M (s.read a).1 a ⟨(rk s a).mem, (rk s a).rom, (rk s a).st, (rk s a).md, (rk s a).step⟩ h hl, ok_stay M (takeLow (s.read a)).1 a ⟨(rk s a).mem, (rk s a).rom, (rk s a).st, (rk s a).md, (rk s a).step⟩ h hl, ok_stay M (takeHigh (s.read a)).1 a ⟨(rk s a).mem, (rk s a).rom, (rk s a).st, (rk s a).md, (rk s a).step⟩ h hl, ok_stay M (takeData (s.read a)).1 a ⟨(rk s a).mem, (rk s a).rom, (rk s a).st, (rk s a).md, (rk s a).step⟩ h hl⟩
theorem ok_pulled {s : PC} {n m : Nat} (M : MidH s n m) (hl : n + 1 < lenM m) :
    Okr s (n + 1) (takeLow s.pulled) ∧ Okr s (n + 1) (takeHigh s.pulled) ∧ Okr s (n + 1) (takeData s.pulled) := by
  have h : 0 ≤ joinI ((s.s + 1) % 256) 1 ∧ joinI ((s.s + 1) % 256) 1 < 65536 := by unfold joinI; omega
  exact ⟨ok_stay M (takeLow s.pulled).1 (joinI ((s.s + 1) % 256) 1) ⟨(rk ({ s with s := (s.s + 1) % 256 } : PC) (joinI ((s.s + 1) % 256) 1)).mem, (rk ({ s with s := (s.s + 1) % 256 } : PC) (joinI ((s.s + 1) % 256) 1)).rom, (rk ({ s with s := (s.s + 1) % 256 } : PC) (joinI ((s.s + 1) % 256) 1)).st, (rk ({ s with s := (s.s + 1) % 256 } : PC) (joinI ((s.s + 1) % 256) 1)).md, (rk ({ s with s := (s.s + 1) % 256 } : PC) (joinI ((s.s + 1) % 256) 1)).step⟩ h hl, ok_stay M (takeHigh s.pulled).1 (joinI ((s.s + 1) % 256) 1) ⟨(rk ({ s with s := (s.s + 1) % 256 } : PC) (joinI ((s.s + 1) % 256) 1)).mem, (rk ({ s with s := (s.s + 1) % 256 } : PC) (joinI ((s.s + 1) % 256) 1)).rom, (rk ({ s with s := (s.s + 1) % 256 } : PC) (joinI ((s.s + 1) % 256) 1)).st, (rk ({ s with s := (s.s + 1) % 256 } : PC) (joinI ((s.s + 1) % 256) 1)).md, (rk ({ s with s := (s.s + 1) % 256 } : PC) (joinI ((s.s + 1) % 256) 1)).step⟩ h hl, ok_stay M (takeData s.pulled).1 (joinI ((s.s + 1) % 256) 1) ⟨(rk ({ s with s := (s.s + 1) % 256 } : PC) (joinI ((s.s + 1) % 256) 1)).mem, (rk ({ s with s := (s.s + 1) % 256 } : PC) (joinI ((s.s + 1) % 256) 1)).rom, (rk ({ s with s := (s.s + 1) % 256 } : PC) (joinI ((s.s + 1) % 256) 1)).st, (rk ({ s with s := (s.s + 1) % 256 } : PC) (joinI ((s.s + 1) % 256) 1)).md, (rk ({ s with s := (s.s + 1) % 256 } : PC) (joinI ((s.s + 1) % 256) 1)).step⟩ h hl⟩
theorem ok_pushed {s : PC} {n m : Nat} (R : RgP s) (M : MidH s n m) (d : Int) (hl : n + 1 < lenM m) : Okr s (n + 1) (s.pushed d) := by
  have h := range_pc R
  have K := wk s s.stackTop d
  exact Okr.w (s := s) (q := (s.pushed d).1) (a := s.stackTop) (d := d) h.1 h.2 K.mem K.rom (M.stay K.st K.md K.step hl)
/-- A read of the address's high byte, and there. -/
theorem ok_there {s : PC} {n : Nat} (a : Int) (h : 0 ≤ a ∧ a < 65536) (hl : n ≤ 6) : Okr s (n + 1) (goThere (s.read a)) := by
  have K := rk s a
  have I := ik (takeHigh (s.read a)).1 (takeHigh (s.read a)).1.ins.toNat
  exact ok_fin (goThere (s.read a)).1 a (I.mem.trans K.mem) (I.rom.trans K.rom) rfl rfl h hl
/-- A read, and the instruction is done. -/
theorem ok_last {s : PC} {n : Nat} (q : PC) (a : Int) (h : 0 ≤ a ∧ a < 65536) (hm : q.mem = s.mem) (hr : (q.rom, q.cyc) = (s.rom, s.cyc)) (hl : n ≤ 6) : Okr s (n + 1) (q.performLast, ⟨a, s.look a, false, false⟩) := by
  have I := ik q q.ins.toNat
  exact ok_fin q.performLast a (I.mem.trans hm) (I.rom.trans hr) rfl rfl h hl
end

/-
  Every mode, every cycle.
-/
section
theorem ok_indexed (s : PC) (n : Nat) (i : Int) (R : RgP s) (hn : n ≤ 3) : Okr s (n + 1) (s.indexed i) := by
  unfold PC.indexed
  simp only []
  split
  · have A := ok_access ({ s with ad := (s.ad + i) % 65536, st := 2 } : PC) n (by show 0 ≤ (s.ad + i) % 65536; omega) (by show (s.ad + i) % 65536 < 65536; omega) (by omega)
    exact ⟨A.ft, A.lo, A.hi, A.rom, A.byte, A.nx⟩
  · have K := rk ({ s with ad := (s.ad + i) % 65536, st := 2 } : PC) (withinI s.ad i)
    exact ok_two (({ s with ad := (s.ad + i) % 65536, st := 2 } : PC).read (withinI s.ad i)).1 (withinI s.ad i) K.mem K.rom K.st (range_in R.ad.1 R.ad.2 i) hn

theorem ok_enter {s : PC} {n m : Nat} (R : RgP s) (M : MidH s n m) (v f : Int) (hv : 0 ≤ v ∧ v < 65536) (h1 : 1 ≤ n) (h6 : n < 6) (hl : lenM m = 6) : Okr s (n + 1) (s.enter v f) := by
  have hs := M.step
  unfold PC.enter
  split
  · exact ok_pushed R M _ (by omega)
  split
  · exact ok_pushed R M _ (by omega)
  split
  · exact ok_pushed R M _ (by omega)
  split
  · exact (ok_read M v hv (by omega)).2.1
  · exact ok_there _ (by omega) (by omega)

theorem ok_1 {s : PC} {n : Nat} (R : RgP s) (hl : n < 1) : Okr s (n + 1) s.implied :=
  ok_last (s.read s.pc).1 s.pc R.pc (rk s s.pc).mem (rk s s.pc).rom (by omega)
theorem ok_2 {s : PC} {n : Nat} (R : RgP s) (hl : n < 1) : Okr s (n + 1) s.accumulator := by
  have K := rk s s.pc
  have I := ik ({ (s.read s.pc).1 with data := (s.read s.pc).1.a } : PC) (s.read s.pc).1.ins.toNat
  exact ok_fin s.accumulator.1 s.pc (I.mem.trans K.mem) (I.rom.trans K.rom) rfl rfl R.pc (by omega)
theorem ok_3 {s : PC} {n : Nat} (R : RgP s) (hl : n < 1) : Okr s (n + 1) s.immediate :=
  ok_last (takeData s.readNext).1 s.pc R.pc (rk s s.pc).mem (rk s s.pc).rom (by omega)
theorem ok_4 {s : PC} {n : Nat} (R : RgP s) (hl : n < 1) : Okr s (n + 1) s.zeroPage := by
  have K := rk ({ s with st := 2 } : PC) s.pc
  exact ok_two s.zeroPage.1 s.pc K.mem K.rom K.st R.pc (by omega)
theorem ok_5 {s : PC} {n m : Nat} (R : RgP s) (M : MidH s n m) (i : Int) (hl : n < 2) (e : lenM m = 2) : Okr s (n + 1) (s.zeroPageBy i) := by
  have hs := M.step
  unfold PC.zeroPageBy
  split
  · exact (ok_readNext R M (by omega)).2.1
  · have K := rk s s.ad
    exact ok_two ({ (s.read s.ad).1 with ad := withinI (s.read s.ad).1.ad i, st := 2 } : PC) s.ad K.mem K.rom rfl R.ad (by omega)
theorem ok_7 {s : PC} {n m : Nat} (R : RgP s) (M : MidH s n m) (hl : n < 2) (e : lenM m = 2) : Okr s (n + 1) s.absolute := by
  have hs := M.step
  unfold PC.absolute
  split
  · exact (ok_readNext R M (by omega)).2.1
  · have K := rk ({ s with st := 2 } : PC) s.pc
    exact ok_two (takeHigh ({ s with st := 2 } : PC).readNext).1 s.pc K.mem K.rom K.st R.pc (by omega)
theorem ok_8 {s : PC} {n m : Nat} (R : RgP s) (M : MidH s n m) (i : Int) (hl : n < 3) (e : lenM m = 3) : Okr s (n + 1) (s.absoluteBy i) := by
  have hs := M.step
  unfold PC.absoluteBy
  split
  · exact (ok_readNext R M (by omega)).2.1
  split
  · exact (ok_readNext R M (by omega)).2.2.1
  · exact ok_indexed s n i R (by omega)
theorem ok_10 {s : PC} {n m : Nat} (R : RgP s) (M : MidH s n m) (hl : n < 4) (e : lenM m = 4) : Okr s (n + 1) s.indirectX := by
  have hs := M.step
  unfold PC.indirectX
  split
  · exact (ok_readNext R M (by omega)).2.2.2
  split
  · exact ok_stay M ({ (s.read s.hop).1 with hop := withinI (s.read s.hop).1.hop (s.read s.hop).1.x } : PC) s.hop ⟨(rk s s.hop).mem, (rk s s.hop).rom, (rk s s.hop).st, (rk s s.hop).md, (rk s s.hop).step⟩ R.hop (by omega)
  split
  · exact (ok_read M s.hop R.hop (by omega)).2.1
  · have K := rk ({ s with st := 2 } : PC) (withinI s.hop 1)
    exact ok_two (takeHigh (({ s with st := 2 } : PC).read (withinI s.hop 1))).1 (withinI s.hop 1) K.mem K.rom K.st (range_in R.hop.1 R.hop.2 1) (by omega)
theorem ok_11 {s : PC} {n m : Nat} (R : RgP s) (M : MidH s n m) (hl : n < 4) (e : lenM m = 4) : Okr s (n + 1) s.indirectY := by
  have hs := M.step
  unfold PC.indirectY
  split
  · exact (ok_readNext R M (by omega)).2.2.2
  split
  · exact (ok_read M s.hop R.hop (by omega)).2.1
  split
  · exact (ok_read M (withinI s.hop 1) (range_in R.hop.1 R.hop.2 1) (by omega)).2.2.1
  · exact ok_indexed s n s.y R (by omega)
theorem ok_12 {s : PC} {n m : Nat} (R : RgP s) (M : MidH s n m) (hl : n < 3) (e : lenM m = 3) : Okr s (n + 1) s.relative := by
  have hs := M.step
  unfold PC.relative
  split
  · have K := rk s s.pc
    have I := ik ({ s.readNext.1 with ad := (s.readNext.1.pc + sgn s.readNext.2.data) % 65536 } : PC) s.readNext.1.ins.toNat
    refine Okr.r (s := s) (a := s.pc) R.pc.1 R.pc.2 ?_ ?_ ?_
    · split
      · exact I.mem.trans K.mem
      · exact I.mem.trans K.mem
    · split
      · exact I.rom.trans K.rom
      · exact I.rom.trans K.rom
    · split
      · exact M.stay (I.st.trans K.st) (I.md.trans K.md) (I.step.trans K.step) (by omega)
      · exact .idle rfl rfl (by omega)
  split
  · have K := rk s s.pc
    refine Okr.r (s := s) (a := s.pc) R.pc.1 R.pc.2 ?_ ?_ ?_
    · split
      · exact K.mem
      · exact K.mem
    · split
      · exact K.rom
      · exact K.rom
    · split
      · exact .idle rfl rfl (by omega)
      · exact M.stay K.st K.md K.step (by omega)
  · have K := rk s (joinI (loI s.ad) (hiI s.pc))
    have hp := R.pc
    exact ok_fin (s.read (joinI (loI s.ad) (hiI s.pc))).1.branch (joinI (loI s.ad) (hiI s.pc)) K.mem K.rom rfl rfl (by unfold joinI loI hiI; omega) (by omega)
theorem ok_13 {s : PC} {n m : Nat} (R : RgP s) (M : MidH s n m) (hl : n < 2) (e : lenM m = 2) : Okr s (n + 1) s.jumpAbsolute := by
  have hs := M.step
  unfold PC.jumpAbsolute
  split
  · exact (ok_readNext R M (by omega)).2.1
  · exact ok_there _ R.pc (by omega)
theorem ok_14 {s : PC} {n m : Nat} (R : RgP s) (M : MidH s n m) (hl : n < 4) (e : lenM m = 4) : Okr s (n + 1) s.jumpIndirect := by
  have hs := M.step
  unfold PC.jumpIndirect
  split
  · exact (ok_readNext R M (by omega)).2.1
  split
  · exact ok_stay M ({ (takeHigh s.readNext).1 with hop := (takeHigh s.readNext).1.ad } : PC) s.pc ⟨(rk s s.pc).mem, (rk s s.pc).rom, (rk s s.pc).st, (rk s s.pc).md, (rk s s.pc).step⟩ R.pc (by omega)
  split
  · exact (ok_read M s.hop R.hop (by omega)).2.1
  · exact ok_there _ (range_in R.hop.1 R.hop.2 1) (by omega)
theorem ok_15 {s : PC} {n m : Nat} (R : RgP s) (M : MidH s n m) (hl : n < 5) (e : lenM m = 5) : Okr s (n + 1) s.callSubroutine := by
  have hs := M.step
  unfold PC.callSubroutine
  split
  · exact (ok_readNext R M (by omega)).2.1
  split
  · exact (ok_read M _ (range_pc R) (by omega)).1
  split
  · exact ok_pushed R M _ (by omega)
  split
  · exact ok_pushed R M _ (by omega)
  · exact ok_there _ R.pc (by omega)
theorem ok_16 {s : PC} {n m : Nat} (R : RgP s) (M : MidH s n m) (hl : n < 5) (e : lenM m = 5) : Okr s (n + 1) s.leaveSubroutine := by
  have hs := M.step
  unfold PC.leaveSubroutine
  split
  · exact (ok_read M _ R.pc (by omega)).1
  split
  · exact (ok_read M _ (range_pc R) (by omega)).1
  split
  · exact (ok_pulled M (by omega)).1
  split
  · exact (ok_pulled M (by omega)).2.1
  · exact ok_last (s.read s.ad).1 s.ad R.ad (rk s s.ad).mem (rk s s.ad).rom (by omega)
theorem ok_22 {s : PC} {n m : Nat} (R : RgP s) (M : MidH s n m) (hl : n < 5) (e : lenM m = 5) : Okr s (n + 1) s.leaveInterrupt := by
  have hs := M.step
  unfold PC.leaveInterrupt
  split
  · exact (ok_read M _ R.pc (by omega)).1
  split
  · exact (ok_read M _ (range_pc R) (by omega)).1
  split
  · exact (ok_pulled M (by omega)).2.2
  split
  · exact (ok_pulled M (by omega)).1
  · have K := rk ({ s with s := (s.s + 1) % 256 } : PC) (joinI ((s.s + 1) % 256) 1)
    have I := ik (takeHigh s.pulled).1 (takeHigh s.pulled).1.ins.toNat
    exact ok_fin (goThere s.pulled).1 (joinI ((s.s + 1) % 256) 1) (I.mem.trans K.mem) (I.rom.trans K.rom) rfl rfl (by unfold joinI; omega) (by omega)
theorem ok_17 {s : PC} {n m : Nat} (R : RgP s) (M : MidH s n m) (hl : n < 2) (e : lenM m = 2) : Okr s (n + 1) s.pushByte := by
  have hs := M.step
  unfold PC.pushByte
  split
  · exact (ok_read M _ R.pc (by omega)).1
  · have I := ik s s.ins.toNat
    have hsp := R.sp
    have hx := R.x
    have ht : 0 ≤ s.perform.stackTop ∧ s.perform.stackTop < 65536 := by
      have e : s.perform.s = s.s ∨ s.perform.s = s.x := I.sp
      unfold PC.stackTop joinI
      rcases e with e | e <;> rw [e] <;> omega
    have er : (s.perform.rom, s.perform.cyc) = (s.rom, s.cyc) := I.rom
    have er' : s.perform.rom = s.rom := (Prod.mk.inj er).1
    have K := wk s.perform s.perform.stackTop s.perform.data
    exact Okr.w (s := s) (q := (s.perform.pushed s.perform.data).1.finish) (a := s.perform.stackTop) (d := s.perform.data) ht.1 ht.2 (fun x y => K.mem x (by omega)) (K.rom.trans er) (.idle rfl rfl (by omega))
theorem ok_18 {s : PC} {n m : Nat} (R : RgP s) (M : MidH s n m) (hl : n < 3) (e : lenM m = 3) : Okr s (n + 1) s.pullByte := by
  have hs := M.step
  unfold PC.pullByte
  split
  · exact (ok_read M _ R.pc (by omega)).1
  split
  · exact (ok_read M _ (range_pc R) (by omega)).1
  · have K := rk ({ s with s := (s.s + 1) % 256 } : PC) (joinI ((s.s + 1) % 256) 1)
    exact ok_last (takeData s.pulled).1 (joinI ((s.s + 1) % 256) 1) (by unfold joinI; omega) K.mem K.rom (by omega)
theorem ok_19 {s : PC} {n m : Nat} (R : RgP s) (M : MidH s n m) (hl : n < 6) (e : lenM m = 6) : Okr s (n + 1) s.enterByBreak ∧ Okr s (n + 1) s.enterByNMI ∧ Okr s (n + 1) s.enterByIRQ := by
  have hs := M.step
  unfold PC.enterByBreak PC.enterByNMI PC.enterByIRQ
  by_cases h : s.step = 1
  · rw [if_pos h, if_pos h, if_pos h]
    exact ⟨(ok_readNext R M (by omega)).1, (ok_read M _ R.pc (by omega)).1, (ok_read M _ R.pc (by omega)).1⟩
  · rw [if_neg h, if_neg h, if_neg h]
    exact ⟨ok_enter R M _ _ (by decide) (by omega) hl e, ok_enter R M _ _ (by decide) (by omega) hl e, ok_enter R M _ _ (by decide) (by omega) hl e⟩

theorem ok_mode {s : PC} {n m : Nat} (R : RgP s) (M : MidH s n m) (hl : n < lenM m) : Okr s (n + 1) (s.doMode m) := by
  have h1 := M.h1
  have h2 := M.h2
  rcases (show m = 1 ∨ m = 2 ∨ m = 3 ∨ m = 4 ∨ m = 5 ∨ m = 6 ∨ m = 7 ∨ m = 8 ∨ m = 9 ∨ m = 10 ∨ m = 11 ∨ m = 12 ∨ m = 13 ∨ m = 14 ∨ m = 15 ∨ m = 16 ∨ m = 17 ∨ m = 18 ∨ m = 19 ∨ m = 20 ∨ m = 21 ∨ m = 22 from by omega) with rfl | rfl | rfl | rfl | rfl | rfl | rfl | rfl | rfl | rfl | rfl | rfl | rfl | rfl | rfl | rfl | rfl | rfl | rfl | rfl | rfl | rfl
  · exact ok_1 R hl
  · exact ok_2 R hl
  · exact ok_3 R hl
  · exact ok_4 R hl
  · exact ok_5 R M _ hl rfl
  · exact ok_5 R M _ hl rfl
  · exact ok_7 R M hl rfl
  · exact ok_8 R M _ hl rfl
  · exact ok_8 R M _ hl rfl
  · exact ok_10 R M hl rfl
  · exact ok_11 R M hl rfl
  · exact ok_12 R M hl rfl
  · exact ok_13 R M hl rfl
  · exact ok_14 R M hl rfl
  · exact ok_15 R M hl rfl
  · exact ok_16 R M hl rfl
  · exact ok_17 R M hl rfl
  · exact ok_18 R M hl rfl
  · exact (ok_19 R M hl rfl).1
  · exact (ok_19 R M hl rfl).2.1
  · exact (ok_19 R M hl rfl).2.2
  · exact ok_22 R M hl rfl
end

/-
  A whole cycle: what Traced asks of it.
-/
section
/-- What a turn or a cycle does, n cycles behind the last fetch. -/
structure Cyo (s : PC) (n : Nat) (r : PC × BusI) : Prop where
  lo : 0 ≤ r.2.addr
  hi : r.2.addr < 65536
  rom : (r.1.rom, r.1.cyc) = (s.rom, s.cyc)
  byte : r.2.addr / 256 ≠ 208 → ¬ (r.2.wr = true ∧ s.rom ≤ r.2.addr) → r.1.mem r.2.addr.toNat = r.2.data
  ft : r.2.ft = true → r.2.wr = false ∧ r.2.addr = s.bpc
  nx : TrI r.1 (if r.2.ft = true then 0 else n + 1)
  n7 : n + 1 ≤ 7 ∨ r.2.ft = true

theorem Okr.cyo {s : PC} {n : Nat} {r : PC × BusI} (h : Okr s (n + 1) r) (hn : n + 1 ≤ 7) : Cyo s n r :=
  ⟨h.lo, h.hi, h.rom, h.byte, fun e => by rw [h.ft] at e; exact absurd e (by decide), by rw [h.ft, if_neg (by decide)]; exact h.nx, .inl hn⟩

theorem decode_m (c : Nat) : (decodeI c).2 ≤ 22 := by
  unfold decodeI
  split
  · rename_i e h
    have : ∀ e ∈ opTable, e.2.2 ≤ 22 := by decide +kernel
    exact this e (List.mem_of_find?_eq_some h)
  · show 0 ≤ 22; omega

theorem fetch_ok (s : PC) (n : Nat) (irq : Bool) (R : RgP s) (hb : s.bpc = s.pc) : Cyo s n (s.fetch irq) := by
  have K := rk s s.pc
  have hby : s.pc / 256 ≠ 208 → (s.read1 s.pc).mem s.pc.toNat = s.look s.pc := fun h => by
    rw [K.mem]; unfold PC.look; rw [if_neg (by omega), if_neg (by omega)]
  have go : ∀ q : PC, q.mem = (s.read1 s.pc).mem → (q.rom, q.cyc) = ((s.read1 s.pc).rom, (s.read1 s.pc).cyc) → TrI q 0 → Cyo s n (q, ⟨s.pc, s.look s.pc, false, true⟩) := fun q h1 h2 h3 =>
    ⟨R.pc.1, R.pc.2, h2.trans K.rom, fun h _ => by show q.mem s.pc.toNat = s.look s.pc; rw [h1]; exact hby h, fun _ => ⟨rfl, hb.symm⟩, h3, .inr rfl⟩
  have bg : ∀ (q : PC) (i : Int) (m : Nat), m ≤ 22 → TrI (q.begin_ i m) 0 := fun q i m hm => by
    unfold PC.begin_
    split
    · exact .jam rfl
    · refine .mid m rfl rfl (by omega) hm rfl ?_
      rcases (show m = 1 ∨ m = 2 ∨ m = 3 ∨ m = 4 ∨ m = 5 ∨ m = 6 ∨ m = 7 ∨ m = 8 ∨ m = 9 ∨ m = 10 ∨ m = 11 ∨ m = 12 ∨ m = 13 ∨ m = 14 ∨ m = 15 ∨ m = 16 ∨ m = 17 ∨ m = 18 ∨ m = 19 ∨ m = 20 ∨ m = 21 ∨ m = 22 from by omega) with rfl | rfl | rfl | rfl | rfl | rfl | rfl | rfl | rfl | rfl | rfl | rfl | rfl | rfl | rfl | rfl | rfl | rfl | rfl | rfl | rfl | rfl <;> decide
  have bm : ∀ (q : PC) (i m : Int), (q.begin_ i m).mem = q.mem ∧ ((q.begin_ i m).rom, (q.begin_ i m).cyc) = (q.rom, q.cyc) := fun q i m => by
    unfold PC.begin_; split <;> exact ⟨rfl, rfl⟩
  unfold PC.fetch
  simp only []
  split
  · exact go _ (bm _ _ _).1 (bm _ _ _).2 (bg _ 12 20 (by decide))
  split
  · exact go _ (bm _ _ _).1 (bm _ _ _).2 (bg _ 12 21 (by decide))
  · exact go _ (bm _ _ _).1 (bm _ _ _).2 (bg _ _ _ (decode_m _))

theorem turn_ok (s : PC) (n : Nat) (irq : Bool) (R : RgP s) (I : TrI s n) (h5 : s.st ≠ 5) : Cyo s n (s.turn irq) := by
  unfold PC.turn
  cases I with
  | idle h hb hn => rw [if_pos h]; exact fetch_ok s n irq R hb
  | mid m h hm m1 m2 hs hl =>
    rw [if_neg (by omega), if_neg (by omega), if_neg (by omega), if_neg (by omega)]
    have hl7 : lenM m ≤ 6 := by
      rcases (show m = 1 ∨ m = 2 ∨ m = 3 ∨ m = 4 ∨ m = 5 ∨ m = 6 ∨ m = 7 ∨ m = 8 ∨ m = 9 ∨ m = 10 ∨ m = 11 ∨ m = 12 ∨ m = 13 ∨ m = 14 ∨ m = 15 ∨ m = 16 ∨ m = 17 ∨ m = 18 ∨ m = 19 ∨ m = 20 ∨ m = 21 ∨ m = 22 from by omega) with rfl | rfl | rfl | rfl | rfl | rfl | rfl | rfl | rfl | rfl | rfl | rfl | rfl | rfl | rfl | rfl | rfl | rfl | rfl | rfl | rfl | rfl <;> decide
    have es : IntKind.wrap .i64 (s.step + 1) = (n : Int) + 1 := by rw [IntKind.wrap_i64, hs]; omega
    have A := ok_mode (s := { s with step := IntKind.wrap .i64 (s.step + 1) }) (n := n) (m := m) ⟨R.pc, R.ad, R.hop, R.sp, R.x⟩ ⟨h, hm, m1, m2, es⟩ hl
    have em : s.md.toNat = m := by rw [hm]; rfl
    have A' : Okr s (n + 1) (({ s with step := IntKind.wrap .i64 (s.step + 1) } : PC).doMode m) := ⟨A.ft, A.lo, A.hi, A.rom, A.byte, A.nx⟩
    show Cyo s n (({ s with step := IntKind.wrap .i64 (s.step + 1) } : PC).doMode s.md.toNat)
    rw [em]
    exact A'.cyo (by omega)
  | two h hn => rw [if_neg (by omega), if_pos h]; exact (ok_access s n R.ad.1 R.ad.2 hn).cyo (by omega)
  | three h hn => rw [if_neg (by omega), if_neg (by omega), if_pos h]; exact (ok_restore s n R.ad.1 R.ad.2 hn).cyo (by omega)
  | four h hn => rw [if_neg (by omega), if_neg (by omega), if_neg (by omega), if_pos h]; exact (ok_change s n R.ad.1 R.ad.2 hn).cyo (by omega)
  | jam h => exact absurd h h5

theorem TrI.like {s q : PC} {n : Nat} (h : TrI s n) (e1 : q.st = s.st) (e2 : q.md = s.md) (e3 : q.step = s.step) (e4 : q.bpc = s.bpc) (e5 : q.pc = s.pc) : TrI q n := by
  cases h with
  | idle h hb hn => exact .idle (e1.trans h) (by rw [e4, e5]; exact hb) hn
  | mid m h hm m1 m2 hs hl => exact .mid m (e1.trans h) (e2.trans hm) m1 m2 (e3.trans hs) hl
  | two h hn => exact .two (e1.trans h) hn
  | three h hn => exact .three (e1.trans h) hn
  | four h hn => exact .four (e1.trans h) hn
  | jam h => exact .jam (e1.trans h)

theorem tick_keeps (s : PC) (b : BusI) : (s.ends b).mem = s.mem ∧ (s.ends b).rom = s.rom ∧ (s.ends b).cyc = s.cyc ∧ (s.ends b).st = s.st ∧ (s.ends b).md = s.md ∧ (s.ends b).step = s.step ∧ (s.ends b).bpc = s.bpc ∧ (s.ends b).pc = s.pc := by
  unfold PC.ends PC.tick
  split
  · split
    · exact ⟨rfl, rfl, rfl, rfl, rfl, rfl, rfl, rfl⟩
    · split <;> exact ⟨rfl, rfl, rfl, rfl, rfl, rfl, rfl, rfl⟩
  · exact ⟨rfl, rfl, rfl, rfl, rfl, rfl, rfl, rfl⟩

/-- What Traced asks of a cycle. -/
structure Cyz (s : PC) (n : Nat) (r : PC × BusI) : Prop where
  rom : r.1.rom = s.rom
  cyc : r.1.cyc = IntKind.wrap .i64 (s.cyc + 1)
  byte : r.2.addr / 256 ≠ 208 → ¬ (r.2.wr = true ∧ s.rom ≤ r.2.addr) → r.1.peek r.2.addr = r.2.data
  ft : r.2.ft = true → r.2.wr = false ∧ r.2.addr = s.bpc
  nx : TrI r.1 (if r.2.ft = true then 0 else n + 1)
  n7 : n + 1 ≤ 7 ∨ r.2.ft = true
  lo : 0 ≤ r.2.addr
  hi : r.2.addr < 65536

theorem cycle_ok (s : PC) (n : Nat) (nmi irq : Bool) (R : RgP s) (I : TrI s n) (h5 : s.st ≠ 5) : Cyz s n (s.cycle nmi irq) := by
  have T := turn_ok (s.pins nmi) n irq ⟨R.pc, R.ad, R.hop, R.sp, R.x⟩ (I.like rfl rfl rfl rfl rfl) h5
  rw [pc_cycle]
  generalize (s.pins nmi).turn irq = r at *
  obtain ⟨k1, k2, k3, k4, k5, k6, k7, k8⟩ := tick_keeps r.1 r.2
  obtain ⟨e1, e2⟩ := Prod.mk.inj T.rom
  refine ⟨k2.trans e1, ?_, fun h1 h2 => ?_, T.ft, T.nx.like k4 k5 k6 k7 k8, T.n7, T.lo, T.hi⟩
  · show IntKind.wrap .i64 ((r.1.ends r.2).cyc + 1) = _
    rw [k3, e2]; rfl
  · have q := T.byte h1 h2
    have h1' : r.2.addr / 256 ≠ 208 := h1
    have lo := T.lo
    have hi := T.hi
    show PC.look _ (r.2.addr % 65536) = r.2.data
    rw [Int.emod_eq_of_lt lo hi]
    unfold PC.look
    rw [if_neg (by omega), if_neg (by omega)]
    show (r.1.ends r.2).mem r.2.addr.toNat = _
    rw [k1]; exact q
end

end Go.Proofs.YtcgjliflnnklnaaGreat
