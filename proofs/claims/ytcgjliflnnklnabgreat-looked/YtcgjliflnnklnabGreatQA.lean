/-
  Joined texts.
-/
import Derived.Test.YtcgjliflnnklnabGreatProg
import Derived.WalkKit
import Derived.WalkSpells
import Derived.WalkLawsBesides
import Derived.Laws.BitsAllLaws
import Derived.Deep.AppendLies
import Derived.Deep.RegionLaw
import Derived.Deep.RegionHeld3
import Derived.Deep.QuietTactic
import Derived.BigQuiet
namespace Go.Proofs.YtcgjliflnnklnabGreat
open Go.RowKit

/-
  Leaf walks of the wire package: hexValue, hexByte, pick.
-/
section
def hv (c : UInt8) : UInt8 × Bool :=
  if 48 ≤ c ∧ c ≤ 57 then (c - 48, true) else if 97 ≤ c ∧ c ≤ 102 then (c - 97 + 10, true) else if 65 ≤ c ∧ c ≤ 70 then (c - 65 + 10, true) else (0, false)

theorem all_u8 {p : UInt8 → Prop} (h : ∀ n : Fin 256, p (UInt8.ofFin n)) (c : UInt8) : p c := h c.toFin

theorem hv_fst (c : UInt8) : ((hv c).1.toNat : Int) = if 48 ≤ (c.toNat : Int) ∧ (c.toNat : Int) ≤ 57 then (c.toNat : Int) - 48 else
    if 97 ≤ (c.toNat : Int) ∧ (c.toNat : Int) ≤ 102 then (c.toNat : Int) - 97 + 10 else if 65 ≤ (c.toNat : Int) ∧ (c.toNat : Int) ≤ 70 then (c.toNat : Int) - 65 + 10 else 0 := by
  revert c; apply all_u8; decide +kernel

theorem hv_snd (c : UInt8) : (hv c).2 = decide ((48 ≤ (c.toNat : Int) ∧ (c.toNat : Int) ≤ 57) ∨ (97 ≤ (c.toNat : Int) ∧ (c.toNat : Int) ≤ 102) ∨ (65 ≤ (c.toNat : Int) ∧ (c.toNat : Int) ≤ 70)) := by
  revert c; apply all_u8; decide +kernel

theorem ret_u8b {a b : Int} {x y : Bool} (h : a = b) (h' : x = y) : Ending.returned (.tuple #[.int .u8 a, .bool x]) = .returned (.tuple #[.int .u8 b, .bool y]) := by rw [h, h']
theorem ret_int {k : IntKind} {a b : Int} (h : a = b) : Ending.returned (.int k a) = .returned (.int k b) := by rw [h]

set_option maxRecDepth 100000 in
set_option maxHeartbeats 400000 in
theorem hexValue_any (c : UInt8) (w : World) :
    Calls Tryz.prog 83 #[.int .u8 c.toNat] w fun e w' => e = .returned (.tuple #[.int .u8 (hv c).1.toNat, .bool (hv c).2]) ∧ w' = w := by
  have hc : (c.toNat : Int) < 256 := by have := c.toNat_lt; omega
  go_enter Tryz.func83, Tryz.ntmps83
  go_wp2
  all_goals go_ret2
  all_goals
    refine ⟨ret_u8b ?_ ?_, rfl⟩
    · rw [hv_fst]
      first | (rw [if_pos (by omega)]; done) | (rw [if_neg (by omega), if_pos (by omega)]; done) | (rw [if_neg (by omega), if_neg (by omega), if_pos (by omega)]; done) | (rw [if_neg (by omega), if_neg (by omega), if_neg (by omega)]; done)
    · rw [hv_snd]; symm
      first | (rw [decide_eq_true_eq]; omega) | (rw [decide_eq_false_iff_not]; omega)

theorem pick_lt (c n : Int) (h : 1 ≤ n) (hc : c < 0) : 0 ≤ -(c + 1).tmod n ∧ -(c + 1).tmod n < n := by
  rw [← Int.neg_tmod, Int.tmod_eq_emod_of_nonneg (by omega)]
  exact ⟨Int.emod_nonneg _ (by omega), Int.emod_lt_of_pos _ (by omega)⟩

set_option maxRecDepth 100000 in
set_option maxHeartbeats 400000 in
theorem pick_any (c n : Int) (w : World) (h : 1 ≤ n) (h2 : n ≤ 9223372036854775807) (hc1 : -9223372036854775808 ≤ c) (hc2 : c ≤ 9223372036854775807) :
    Calls Tryz.prog 8 #[.int .i64 c, .int .i64 n] w fun e w' => (∃ r : Nat, (r : Int) < n ∧ e = .returned (.int .i64 r)) ∧ w' = w := by
  go_enter Tryz.func8, Tryz.ntmps8
  go_wp2
  all_goals go_ret
  · have hc : c < 0 := by assumption
    have := pick_lt c n h hc
    exact ⟨⟨(-(c + 1).tmod n).toNat, by omega, ret_int (by omega)⟩, rfl⟩
  · have h0 := Int.emod_nonneg c (show n ≠ 0 by omega)
    have h1 := Int.emod_lt_of_pos c (show 0 < n by omega)
    exact ⟨⟨(c % n).toNat, by omega, ret_int (by omega)⟩, rfl⟩

theorem or_shl (a b : UInt8) : bits .or .u8 ((a.toNat : Int) * 16 % 256) (b.toNat : Int) = ((a <<< 4 ||| b).toNat : Int) := by
  have e : (a.toNat : Int) * (16 : Int) % (256 : Int) = ((a <<< 4).toNat : Int) := by revert a; apply all_u8; decide +kernel
  rw [e, u8_or_nat _ _ (UInt8.toNat_lt _) (UInt8.toNat_lt _), UInt8.toNat_or]

def hb (h l : UInt8) : UInt8 × Bool := if (hv h).2 = true ∧ (hv l).2 = true then ((hv h).1 <<< 4 ||| (hv l).1, true) else (0, false)

set_option maxRecDepth 100000 in
set_option maxHeartbeats 400000 in
theorem hexByte_any (h l : UInt8) (w : World) :
    Calls Tryz.prog 47 #[.int .u8 h.toNat, .int .u8 l.toNat] w fun e w' => e = .returned (.tuple #[.int .u8 (hb h l).1.toNat, .bool (hb h l).2]) ∧ w' = w := by
  have hc1 : ((hv h).1.toNat : Int) < 256 := by have := (hv h).1.toNat_lt; omega
  have hc2 : ((hv l).1.toNat : Int) < 256 := by have := (hv l).1.toNat_lt; omega
  go_enter Tryz.func47, Tryz.ntmps47
  go_wp2_with fail
  refine (hexValue_any h _).mono ?_
  rintro e w' ⟨rfl, rfl⟩
  go_wp2_with fail
  refine (hexValue_any l _).mono ?_
  rintro e w' ⟨rfl, rfl⟩
  go_wp2
  all_goals go_ret2
  · have e1 : (hv h).snd = true := by assumption
    have e2 : (!(hv l).snd) = true := by assumption
    exact ⟨ret_u8b (by simp_all [hb]) (by simp_all [hb]), rfl⟩
  · have e1 : (hv h).snd = true := by assumption
    have e2 : (!(hv l).snd) = false := by assumption
    have e3 : (hv l).snd = true := by simpa using e2
    refine ⟨ret_u8b ?_ (by simp [hb, e1, e3]), rfl⟩
    rw [or_shl]; simp [hb, e1, e3]
  · have e1 : ¬ (hv h).snd = true := by assumption
    exact ⟨ret_u8b (by simp_all [hb]) (by simp_all [hb]), rfl⟩
end

/-
  The scanner's leaf walks: sum, begin, gather, take.
-/
section
def sum8 (l : List UInt8) : UInt8 := l.foldl (· + ·) 0

theorem sum8_snoc (l : List UInt8) (c : UInt8) : sum8 (l ++ [c]) = sum8 l + c := by simp [sum8]

theorem add_u8 (a b : UInt8) : ((a.toNat : Int) + (b.toNat : Int)) % 256 = ((a + b).toNat : Int) := by
  rw [UInt8.toNat_add]; omega

/-- The bytes l stand in the world from an address on. -/
def BytesAt (w : World) (b off : Nat) (l : List UInt8) : Prop := ∀ i, (h : i < l.length) → w.cell? ⟨b, off + i, none⟩ = some (.int .u8 (l[i].toNat : Int))

theorem take_snoc8 (l : List UInt8) (k : Nat) (h : k < l.length) : l.take (k + 1) = l.take k ++ [l[k]] := by
  rw [List.take_succ_eq_append_getElem h]

set_option maxRecDepth 100000 in
set_option maxHeartbeats 400000 in
theorem sum_any (b off cap : Nat) (l : List UInt8) (w : World) (hl : l.length ≤ 140737488355328) (h : BytesAt w b off l) :
    Calls Tryz.prog 39 #[.slice (some ⟨b, off, none⟩) l.length cap] w fun e w' => e = .returned (.int .u8 (sum8 l).toNat) ∧ w' = w := by
  have H := h
  clear h
  go_enter Tryz.func39, Tryz.ntmps39
  go_wp2
  go_loop [3, 8] (fun t i => ∃ k : Nat, k ≤ l.length ∧ i = .int .i64 k ∧ t = .int .u8 (sum8 (l.take k)).toNat) (fun _ i => l.length - (intOf i).toNat)
  case atStart => exact ⟨0, Nat.zero_le _, rfl, rfl⟩
  case round =>
    obtain ⟨k, hk, rfl, rfl⟩ := hrel
    by_cases hlt : k < l.length
    · have hcell := H k hlt
      have hs : Hid (sum8 (l.take (k + 1)) = sum8 (l.take k) + l[k]) := by rw [take_snoc8 l k hlt]; exact sum8_snoc _ _
      have b1 : ((sum8 (l.take k)).toNat : Int) < 256 := by have := (sum8 (l.take k)).toNat_lt; omega
      have b2 : (l[k].toNat : Int) < 256 := by have := l[k].toNat_lt; omega
      go_wp2
      go_round
      case rel => exact ⟨k + 1, by omega, by go_num, by rw [hs.out, ← add_u8]⟩
      case measure => simp [intOf]; omega
    · go_wp2
      go_ret
      exact ⟨ret_int (by rw [List.take_of_length_le (by omega)]), rfl⟩

structure Sc where
  st : Nat
  raw : List UInt8
  sum : UInt8

def Sc.step (s : Sc) (c : UInt8) : Sc :=
  if s.st = 0 then (if c = 36 then ⟨1, [], s.sum⟩ else s)
  else if s.st = 1 then (if c = 36 then ⟨1, [], s.sum⟩ else if c = 35 then ⟨2, s.raw, s.sum⟩ else if s.raw.length = 200 then ⟨0, s.raw, s.sum⟩ else ⟨1, s.raw ++ [c], s.sum⟩)
  else if s.st = 2 then ⟨3, s.raw, c⟩
  else ⟨0, s.raw, s.sum⟩

/-- A scanner lies in block B. -/
structure ScAt (w : World) (B : Nat) (s : Sc) : Prop where
  st3 : s.st ≤ 3
  len : s.raw.length ≤ 200
  cst : w.cell? ⟨B, 0, none⟩ = some (.int .u8 (s.st : Int))
  cnt : w.cell? ⟨B, 201, none⟩ = some (.int .i64 (s.raw.length : Int))
  csum : w.cell? ⟨B, 202, none⟩ = some (.int .u8 (s.sum.toNat : Int))
  bytes : BytesAt w B 1 s.raw
  there : ∀ i, i < 200 → ∃ v, w.cell? ⟨B, 1 + i, none⟩ = some v
  free : ∀ o, w.frozen? ⟨B, o, none⟩ = false

theorem addr_ne (B a b : Nat) (h : a ≠ b) : (⟨B, a, none⟩ : Addr) ≠ ⟨B, b, none⟩ := by
  intro e; injection e with e1 e2; exact h e2

theorem ScAt.setSt {w : World} {B : Nat} {s : Sc} (h : ScAt w B s) (n : Nat) (hn : n ≤ 3) : ScAt (w.setCell ⟨B, 0, none⟩ (.int .u8 (n : Int))) B ⟨n, s.raw, s.sum⟩ := by
  refine ⟨hn, h.len, World.cell?_setCell_same _ _ _ h.cst, ?_, ?_, ?_, ?_, ?_⟩
  · rw [World.cell?_setCell_other _ _ _ _ (addr_ne _ _ _ (by omega))]; exact h.cnt
  · rw [World.cell?_setCell_other _ _ _ _ (addr_ne _ _ _ (by omega))]; exact h.csum
  · intro i hi; rw [World.cell?_setCell_other _ _ _ _ (addr_ne _ _ _ (by omega))]; exact h.bytes i hi
  · intro i hi; rw [World.cell?_setCell_other _ _ _ _ (addr_ne _ _ _ (by omega))]; exact h.there i hi
  · intro o; rw [World.frozen?_setCell]; exact h.free o

theorem ScAt.clear {w : World} {B : Nat} {s : Sc} (h : ScAt w B s) : ScAt (w.setCell ⟨B, 201, none⟩ (.int .i64 0)) B ⟨s.st, [], s.sum⟩ := by
  refine ⟨h.st3, by simp, ?_, ?_, ?_, ?_, ?_, ?_⟩
  · rw [World.cell?_setCell_other _ _ _ _ (addr_ne _ _ _ (by omega))]; exact h.cst
  · exact World.cell?_setCell_same _ _ _ h.cnt
  · rw [World.cell?_setCell_other _ _ _ _ (addr_ne _ _ _ (by omega))]; exact h.csum
  · intro i hi; simp at hi
  · intro i hi; rw [World.cell?_setCell_other _ _ _ _ (addr_ne _ _ _ (by omega))]; exact h.there i hi
  · intro o; rw [World.frozen?_setCell]; exact h.free o

theorem ScAt.setSum {w : World} {B : Nat} {s : Sc} (h : ScAt w B s) (c : UInt8) : ScAt (w.setCell ⟨B, 202, none⟩ (.int .u8 (c.toNat : Int))) B ⟨s.st, s.raw, c⟩ := by
  refine ⟨h.st3, h.len, ?_, ?_, World.cell?_setCell_same _ _ _ h.csum, ?_, ?_, ?_⟩
  · rw [World.cell?_setCell_other _ _ _ _ (addr_ne _ _ _ (by omega))]; exact h.cst
  · rw [World.cell?_setCell_other _ _ _ _ (addr_ne _ _ _ (by omega))]; exact h.cnt
  · intro i hi; have := h.len; have hi' : i < s.raw.length := hi; rw [World.cell?_setCell_other _ _ _ _ (addr_ne _ _ _ (by omega))]; exact h.bytes i hi
  · intro i hi; rw [World.cell?_setCell_other _ _ _ _ (addr_ne _ _ _ (by omega))]; exact h.there i hi
  · intro o; rw [World.frozen?_setCell]; exact h.free o

theorem ScAt.push {w : World} {B : Nat} {s : Sc} (h : ScAt w B s) (c : UInt8) (hl : s.raw.length < 200) :
    ScAt ((w.setCell ⟨B, 1 + s.raw.length, none⟩ (.int .u8 (c.toNat : Int))).setCell ⟨B, 201, none⟩ (.int .i64 ((s.raw.length : Int) + 1))) B ⟨s.st, s.raw ++ [c], s.sum⟩ := by
  obtain ⟨v, hv⟩ := h.there _ hl
  refine ⟨h.st3, by simp; omega, ?_, ?_, ?_, ?_, ?_, ?_⟩
  · rw [World.cell?_setCell_other _ _ _ _ (addr_ne _ _ _ (by omega)), World.cell?_setCell_other _ _ _ _ (addr_ne _ _ _ (by omega))]; exact h.cst
  · have e : w.cell? ⟨B, 201, none⟩ = some (.int .i64 (s.raw.length : Int)) := h.cnt
    rw [← World.cell?_setCell_other w ⟨B, 1 + s.raw.length, none⟩ _ (.int .u8 (c.toNat : Int)) (addr_ne _ _ _ (by omega))] at e
    rw [World.cell?_setCell_same _ _ _ e]; simp
  · rw [World.cell?_setCell_other _ _ _ _ (addr_ne _ _ _ (by omega)), World.cell?_setCell_other _ _ _ _ (addr_ne _ _ _ (by omega))]; exact h.csum
  · intro i hi
    simp at hi
    rw [World.cell?_setCell_other _ _ _ _ (addr_ne _ _ _ (by omega))]
    by_cases e : i = s.raw.length
    · subst e; rw [World.cell?_setCell_same _ _ _ hv]; simp
    · rw [World.cell?_setCell_other _ _ _ _ (addr_ne _ _ _ (by omega)), h.bytes i (by omega)]; simp [List.getElem_append_left (show i < s.raw.length by omega)]
  · intro i hi
    rw [World.cell?_setCell_other _ _ _ _ (addr_ne _ _ _ (by omega))]
    by_cases e : i = s.raw.length
    · subst e; exact ⟨_, World.cell?_setCell_same _ _ _ hv⟩
    · rw [World.cell?_setCell_other _ _ _ _ (addr_ne _ _ _ (by omega))]; exact h.there i hi
  · intro o; rw [World.frozen?_setCell, World.frozen?_setCell]; exact h.free o

set_option maxRecDepth 100000 in
set_option maxHeartbeats 400000 in
theorem begin_any (B : Nat) (s : Sc) (w : World) (h : ScAt w B s) :
    Calls Tryz.prog 45 #[.pointer (some ⟨B, 0, none⟩)] w fun e w' => e = .returned (.tuple #[]) ∧ w' = (w.setCell ⟨B, 0, none⟩ (.int .u8 1)).setCell ⟨B, 201, none⟩ (.int .i64 0) := by
  have h1 := h.cst
  have h2 := h.cnt
  have f1 := h.free 0
  have f2 := h.free 201
  clear h
  go_enter Tryz.func45, Tryz.ntmps45
  go_wp2
  go_end0
  exact ⟨rfl, rfl⟩

/-- A call that turns scanner B from s to s' and nothing else. -/
def Turned (B : Nat) (s' : Sc) (w w' : World) : Prop := ScAt w' B s' ∧ w.grownBy w' (some B) ∧ w'.heap.size = w.heap.size

theorem grown_set (w : World) (B o : Nat) (v : Value) : w.grownBy (w.setCell ⟨B, o, none⟩ v) (some B) :=
  ⟨rfl, rfl, rfl, by simp, fun k _ hne => Below.heap_setCell _ _ _ _ (fun e => hne (by rw [e]))⟩

theorem grown_trans {a b c : World} {row : Option Nat} (h : a.grownBy b row) (k : b.grownBy c row) : a.grownBy c row :=
  ⟨k.os.trans h.os, k.tape.trans h.tape, k.output.trans h.output, Nat.le_trans h.size k.size, fun i hi hne => (k.block i (Nat.lt_of_lt_of_le hi h.size) hne).trans (h.block i hi hne)⟩

theorem grown_drew (w : World) (row : Option Nat) : w.grownBy w.drew row := ⟨rfl, rfl, rfl, Nat.le_refl _, fun _ _ _ => rfl⟩

theorem ScAt.drew {w : World} {B : Nat} {s : Sc} (h : ScAt w B s) : ScAt w.drew B s :=
  ⟨h.st3, h.len, h.cst, h.cnt, h.csum, h.bytes, h.there, h.free⟩

theorem c_ne {c : UInt8} {n : Nat} (h : c ≠ UInt8.ofNat n) : ((c.toNat : Int) == (n : Int)) = false := by
  rw [beq_eq_false_iff_ne]; intro e; apply h
  have : c.toNat = n := by omega
  rw [← this]; simp

set_option maxRecDepth 100000 in
set_option maxHeartbeats 400000 in
theorem gather_start (B : Nat) (s : Sc) (w : World) (h : ScAt w B s) :
    Calls Tryz.prog 46 #[.pointer (some ⟨B, 0, none⟩), .int .u8 36] w fun e w' => e = .returned (.tuple #[]) ∧ w' = (w.setCell ⟨B, 0, none⟩ (.int .u8 1)).setCell ⟨B, 201, none⟩ (.int .i64 0) := by
  have H : Hid (ScAt w B s) := h
  clear h
  go_enter Tryz.func46, Tryz.ntmps46
  go_wp2_with fail
  refine (begin_any B s _ H.out).mono ?_
  rintro e w' ⟨rfl, rfl⟩
  go_wp2
  go_end0
  exact ⟨rfl, rfl⟩

set_option maxRecDepth 100000 in
set_option maxHeartbeats 400000 in
theorem gather_end (B : Nat) (s : Sc) (w : World) (h : ScAt w B s) :
    Calls Tryz.prog 46 #[.pointer (some ⟨B, 0, none⟩), .int .u8 35] w fun e w' => e = .returned (.tuple #[]) ∧ w' = w.setCell ⟨B, 0, none⟩ (.int .u8 2) := by
  have h1 := h.cst
  have f1 := h.free 0
  clear h
  go_enter Tryz.func46, Tryz.ntmps46
  go_wp2
  go_end0
  exact ⟨rfl, rfl⟩

set_option maxRecDepth 100000 in
set_option maxHeartbeats 400000 in
theorem gather_full (B : Nat) (s : Sc) (w : World) (h : ScAt w B s) (c : UInt8) (h36 : ((c.toNat : Int) == 36) = false) (h35 : ((c.toNat : Int) == 35) = false) (hl : s.raw.length = 200) :
    Calls Tryz.prog 46 #[.pointer (some ⟨B, 0, none⟩), .int .u8 c.toNat] w fun e w' => e = .returned (.tuple #[]) ∧ w' = w.setCell ⟨B, 0, none⟩ (.int .u8 0) := by
  have h1 := h.cst
  have h2 := h.cnt
  rw [hl] at h2
  have f1 := h.free 0
  clear h hl
  go_enter Tryz.func46, Tryz.ntmps46
  go_wp2
  go_end0
  exact ⟨rfl, rfl⟩

set_option maxRecDepth 100000 in
set_option maxHeartbeats 400000 in
theorem gather_push (B : Nat) (s : Sc) (w : World) (h : ScAt w B s) (c : UInt8) (h36 : ((c.toNat : Int) == 36) = false) (h35 : ((c.toNat : Int) == 35) = false) (hl : s.raw.length < 200) :
    Calls Tryz.prog 46 #[.pointer (some ⟨B, 0, none⟩), .int .u8 c.toNat] w fun e w' => e = .returned (.tuple #[]) ∧
      w' = ((w.setCell ⟨B, 1 + s.raw.length, none⟩ (.int .u8 (c.toNat : Int))).setCell ⟨B, 201, none⟩ (.int .i64 ((s.raw.length : Int) + 1))).drew := by
  have h2 := h.cnt
  obtain ⟨v, hv⟩ := h.there _ hl
  have f1 := h.free 201
  have f2 := h.free (1 + s.raw.length)
  have hn : ((s.raw.length : Int) == 200) = false := by rw [beq_eq_false_iff_ne]; omega
  generalize s.raw.length = n at *
  clear h
  go_enter Tryz.func46, Tryz.ntmps46
  go_wp2
  go_region
  go_wp2
  go_end0
  exact ⟨rfl, rfl⟩

theorem c_eq {c : UInt8} {n : Nat} (h : c = UInt8.ofNat n) (hn : n < 256) : (c.toNat : Int) = (n : Int) := by
  subst h; simp; omega

theorem turned_begin {B : Nat} {s : Sc} {w : World} (h : ScAt w B s) : Turned B ⟨1, [], s.sum⟩ w ((w.setCell ⟨B, 0, none⟩ (.int .u8 1)).setCell ⟨B, 201, none⟩ (.int .i64 0)) :=
  ⟨(h.setSt 1 (by omega)).clear, grown_trans (grown_set _ _ _ _) (grown_set _ _ _ _), by simp⟩

theorem gather_any (B : Nat) (s : Sc) (w : World) (h : ScAt w B s) (hs : s.st = 1) (c : UInt8) :
    Calls Tryz.prog 46 #[.pointer (some ⟨B, 0, none⟩), .int .u8 c.toNat] w fun e w' => e = .returned (.tuple #[]) ∧ Turned B (s.step c) w w' := by
  by_cases h36 : c = 36
  · subst h36
    refine (gather_start B s w h).mono ?_
    rintro e w' ⟨rfl, rfl⟩
    refine ⟨rfl, ?_⟩
    have e : s.step 36 = ⟨1, [], s.sum⟩ := by simp [Sc.step, hs]
    rw [e]; exact turned_begin h
  · by_cases h35 : c = 35
    · subst h35
      refine (gather_end B s w h).mono ?_
      rintro e w' ⟨rfl, rfl⟩
      have e : s.step 35 = ⟨2, s.raw, s.sum⟩ := by simp [Sc.step, hs]
      rw [e]; exact ⟨rfl, h.setSt 2 (by omega), grown_set _ _ _ _, by simp⟩
    · by_cases hl : s.raw.length = 200
      · refine (gather_full B s w h c (c_ne (n := 36) h36) (c_ne (n := 35) h35) hl).mono ?_
        rintro e w' ⟨rfl, rfl⟩
        have e : s.step c = ⟨0, s.raw, s.sum⟩ := by simp [Sc.step, hs, h36, h35, hl]
        rw [e]; exact ⟨rfl, h.setSt 0 (by omega), grown_set _ _ _ _, by simp⟩
      · have hlt : s.raw.length < 200 := by have := h.len; omega
        refine (gather_push B s w h c (c_ne (n := 36) h36) (c_ne (n := 35) h35) hlt).mono ?_
        rintro e w' ⟨rfl, rfl⟩
        have e : s.step c = ⟨s.st, s.raw ++ [c], s.sum⟩ := by simp [Sc.step, hs, h36, h35, hl]
        rw [e]
        exact ⟨rfl, (h.push c hlt).drew, grown_trans (grown_trans (grown_set _ _ _ _) (grown_set _ _ _ _)) (grown_drew _ _), by simp⟩

set_option maxRecDepth 100000 in
set_option maxHeartbeats 400000 in
theorem take_0 (B : Nat) (s : Sc) (w : World) (h : ScAt w B s) (hs : s.st = 0) (c : UInt8) :
    Calls Tryz.prog 34 #[.pointer (some ⟨B, 0, none⟩), .int .u8 c.toNat] w fun e w' => e = .returned (.bool false) ∧ Turned B (s.step c) w w' := by
  have h1 := h.cst
  rw [hs] at h1
  by_cases h36 : c = 36
  · subst h36
    have e : s.step 36 = ⟨1, [], s.sum⟩ := by simp [Sc.step, hs]
    rw [e]
    have H : Hid (ScAt w B s) := h
    clear h hs e
    go_enter Tryz.func34, Tryz.ntmps34
    go_wp2_with fail
    refine (begin_any B s _ H.out).mono ?_
    rintro e w' ⟨rfl, rfl⟩
    go_wp2
    go_ret
    exact ⟨rfl, turned_begin H.out⟩
  · have hc := c_ne (n := 36) h36
    have e : s.step c = s := by simp [Sc.step, hs, h36]
    rw [e]
    have H : Hid (ScAt w B s) := h
    clear h hs e
    go_enter Tryz.func34, Tryz.ntmps34
    go_wp2
    go_ret
    exact ⟨rfl, H.out, World.grownBy.refl _ _, rfl⟩

set_option maxRecDepth 100000 in
set_option maxHeartbeats 400000 in
theorem take_1 (B : Nat) (s : Sc) (w : World) (h : ScAt w B s) (hs : s.st = 1) (c : UInt8) :
    Calls Tryz.prog 34 #[.pointer (some ⟨B, 0, none⟩), .int .u8 c.toNat] w fun e w' => e = .returned (.bool false) ∧ Turned B (s.step c) w w' := by
  have h1 := h.cst
  rw [hs] at h1
  have H : Hid (ScAt w B s) := h
  have HS : Hid (s.st = 1) := hs
  clear h hs
  go_enter Tryz.func34, Tryz.ntmps34
  go_wp2_with fail
  refine (gather_any B s _ H.out HS.out c).mono ?_
  rintro e w' ⟨rfl, hT⟩
  have HT : Hid (Turned B (s.step c) w w') := hT
  clear hT
  go_wp2
  go_ret
  exact ⟨rfl, HT.out⟩

set_option maxRecDepth 100000 in
set_option maxHeartbeats 400000 in
theorem take_2 (B : Nat) (s : Sc) (w : World) (h : ScAt w B s) (hs : s.st = 2) (c : UInt8) :
    Calls Tryz.prog 34 #[.pointer (some ⟨B, 0, none⟩), .int .u8 c.toNat] w fun e w' => e = .returned (.bool false) ∧ Turned B (s.step c) w w' := by
  have h1 := h.cst
  rw [hs] at h1
  have h2 := h.csum
  have f1 := h.free 0
  have f2 := h.free 202
  have e : s.step c = ⟨3, s.raw, c⟩ := by simp [Sc.step, hs]
  rw [e]
  have H : Hid (ScAt w B s) := h
  clear h hs e
  go_enter Tryz.func34, Tryz.ntmps34
  go_wp2
  go_ret
  exact ⟨rfl, (H.out.setSum c).setSt 3 (by omega), grown_trans (grown_set _ _ _ _) (grown_set _ _ _ _), by simp⟩

set_option maxRecDepth 100000 in
set_option maxHeartbeats 400000 in
theorem take_3 (B : Nat) (s : Sc) (w : World) (h : ScAt w B s) (hs : s.st = 3) (c : UInt8) :
    Calls Tryz.prog 34 #[.pointer (some ⟨B, 0, none⟩), .int .u8 c.toNat] w fun e w' => e = .returned (.bool true) ∧ Turned B (s.step c) w w' := by
  have h1 := h.cst
  rw [hs] at h1
  have f1 := h.free 0
  have e : s.step c = ⟨0, s.raw, s.sum⟩ := by simp [Sc.step, hs]
  rw [e]
  have H : Hid (ScAt w B s) := h
  clear h hs e
  go_enter Tryz.func34, Tryz.ntmps34
  go_wp2
  go_ret
  exact ⟨rfl, H.out.setSt 0 (by omega), grown_set _ _ _ _, by simp⟩

theorem take_any (B : Nat) (s : Sc) (w : World) (h : ScAt w B s) (c : UInt8) :
    Calls Tryz.prog 34 #[.pointer (some ⟨B, 0, none⟩), .int .u8 c.toNat] w fun e w' => e = .returned (.bool (decide (s.st = 3))) ∧ Turned B (s.step c) w w' := by
  have h3 := h.st3
  rcases (show s.st = 0 ∨ s.st = 1 ∨ s.st = 2 ∨ s.st = 3 from by omega) with e | e | e | e
  · rw [e]; exact take_0 B s w h e c
  · rw [e]; exact take_1 B s w h e c
  · rw [e]; exact take_2 B s w h e c
  · rw [e]; exact take_3 B s w h e c
end

/-
  hex.Append: so many digits of a number, behind what is there.
-/
section
def vals (l : List UInt8) : List Value := l.map fun c => Value.int .u8 (c.toNat : Int)

theorem inf_u8 : (Tryz.prog.info? 5).map (fun i => (i.zero, i.size, i.bytes)) = some (some (.int .u8 0), 1, 1) := by kernel_rfl

def digits : List UInt8 := [48, 49, 50, 51, 52, 53, 54, 55, 56, 57, 97, 98, 99, 100, 101, 102]
def hexd (n : Nat) : UInt8 := digits.getD n 0
def hex2 (b : UInt8) : List UInt8 := [hexd (b.toNat / 16), hexd (b.toNat % 16)]

theorem and15 (b : UInt8) : bits .and .u8 (b.toNat : Int) 15 = ((b.toNat % 16 : Nat) : Int) := by
  rw [show (15 : Int) = ((15 : Nat) : Int) from rfl, u8_and_nat _ _ (UInt8.toNat_lt _) (by omega)]
  congr 1; exact Nat.and_two_pow_sub_one_eq_mod b.toNat 4

theorem und_bytes : Tryz.prog.underlying 22 = some (.slice 5) := by kernel_rfl

theorem dig_get (n : Nat) (h : n < 16) : (({ data := #[48, 49, 50, 51, 52, 53, 54, 55, 56, 57, 97, 98, 99, 100, 101, 102] } : ByteArray)[n]'h) = hexd n := by
  have : ∀ n : Fin 16, (({ data := #[48, 49, 50, 51, 52, 53, 54, 55, 56, 57, 97, 98, 99, 100, 101, 102] } : ByteArray)[n.1]'n.2) = hexd n.1 := by decide +kernel
  exact this ⟨n, h⟩

theorem two_one (m n : Int) : ∀ u ∈ [Value.int .u8 m, Value.int .u8 n], u.oneCell' = true := by
  intro u hu; simp at hu; rcases hu with rfl | rfl <;> rfl

theorem vals_append (a b : List UInt8) : vals (a ++ b) = vals a ++ vals b := by simp [vals]
theorem vals_length (a : List UInt8) : (vals a).length = a.length := by simp [vals]

theorem two_new' (w : World) (x y : Value) (t : TypeId) :
    ∀ j u, [x, y][j]? = some u → (w.alloc (.cells #[x, y] t)).cell? ((⟨w.heap.size, 0, none⟩ : Addr).add j) = some u :=
  World.news_of_block (w := w.alloc (.cells #[x, y] t)) (cs := #[x, y]) (t := t) (fr := (0, 0)) (heap_alloc_new w _)
theorem one_new' (w : World) (x : Value) (t : TypeId) :
    ∀ j u, [x][j]? = some u → (w.alloc (.cells #[x] t)).cell? ((⟨w.heap.size, 0, none⟩ : Addr).add j) = some u :=
  World.news_of_block (w := w.alloc (.cells #[x] t)) (cs := #[x]) (t := t) (fr := (0, 0)) (heap_alloc_new w _)
theorem one_new2 (w : World) (x y : Value) (h : x = y) (t : TypeId) :
    ∀ j u, [y][j]? = some u → (w.alloc (.cells #[x] t)).cell? ((⟨w.heap.size, 0, none⟩ : Addr).add j) = some u := by
  subst h; exact one_new' w x t
theorem one_one (m : Int) : ∀ u ∈ [Value.int .u8 m], u.oneCell' = true := by
  intro u hu; simp at hu; subst hu; rfl

/-- A slice of bytes that the call itself has made. -/
def Owns (base : Nat) (w0 w : World) (v : Value) (l : List UInt8) : Prop :=
  ∃ g cap, v = .slice (some ⟨g, 0, none⟩) l.length cap ∧ w.ownsRow base 5 1 v l.length (vals l) ∧ Below base w0 w ∧ base ≤ w.heap.size

theorem owns_more {base : Nat} {w0 w w1 : World} {v : Value} {l m : List UInt8} {o : Obj} {g' cap' : Nat} (hown : w.ownsRow base 5 1 v l.length (vals l)) (hb : Below base w0 w) (hs : base ≤ w.heap.size)
    (h : w1.ownsRow base 5 1 (.slice (some ⟨g', 0, none⟩) (l.length + m.length) cap') (l.length + m.length) (vals l ++ vals m)) (hg : (w.alloc o).grownBy w1 v.ownBlock) : Owns base w0 w1 (.slice (some ⟨g', 0, none⟩) (l.length + m.length) cap') (l ++ m) := by
  refine ⟨g', cap', by simp, by rw [List.length_append, vals_append]; exact h, ?_, ?_⟩
  · exact (hb.alloc hs _).grown hg (by simp; omega) (fun k e => (hown.lt k e).1)
  · have := hg.size; simp at this; omega

theorem wrap_i64_nat (a : Nat) (h : a < 9223372036854775808) : IntKind.i64.wrap (a : Int) = a := by
  simp only [IntKind.wrap, IntKind.bits, IntKind.signed]; simp; omega
theorem andi_nat (a b : Nat) (ha : a < 9223372036854775808) (hb : b < 9223372036854775808) : bits .and .i64 (a : Int) (b : Int) = ((a &&& b : Nat) : Int) := by
  have hx : a &&& b < 2 ^ 63 := Nat.and_lt_two_pow _ (by omega)
  show IntKind.i64.wrap ((BitVec.ofInt 64 (a : Int) &&& BitVec.ofInt 64 (b : Int)).toNat : Int) = _
  rw [BitVec.toNat_and, ofInt_u64 a (by omega), ofInt_u64 b (by omega), wrap_i64_nat _ (by omega)]
theorem and15i (a : Nat) (ha : a < 9223372036854775808) : bits .and .i64 (a : Int) 15 = ((a % 16 : Nat) : Int) := by
  rw [show (15 : Int) = ((15 : Nat) : Int) from rfl, andi_nat _ _ ha (by omega)]
  congr 1; exact Nat.and_two_pow_sub_one_eq_mod a 4

/-- The lowest k digits of a number. -/
def hexN (n : Nat) : Nat → List UInt8
  | 0 => []
  | k + 1 => hexd (n / 2 ^ (4 * k) % 16) :: hexN n k
theorem hexN_len (n k : Nat) : (hexN n k).length = k := by
  induction k with
  | zero => rfl
  | succ k ih => simp [hexN, ih]
theorem hexN_two (b : UInt8) : hexN b.toNat 2 = hex2 b := by
  have := b.toNat_lt
  simp only [hexN, hex2]
  rw [show b.toNat / 2 ^ (4 * 1) % 16 = b.toNat / 16 from by omega, show b.toNat / 2 ^ (4 * 0) % 16 = b.toNat % 16 from by omega]

theorem dig_n (n k : Nat) (hn : n < 9223372036854775808) : bits .and .i64 ((n : Int) / 2 ^ (4 * k)) 15 = ((n / 2 ^ (4 * k) % 16 : Nat) : Int) := by
  have e : (n : Int) / 2 ^ (4 * k) = ((n / 2 ^ (4 * k) : Nat) : Int) := by simp
  rw [e, and15i _ (Nat.lt_of_le_of_lt (Nat.div_le_self _ _) hn)]

theorem dig_v (m : Int) (n : Nat) (hm : m = (n : Int)) (h : m.toNat < 16) : Value.int .u8 ((({ data := #[48, 49, 50, 51, 52, 53, 54, 55, 56, 57, 97, 98, 99, 100, 101, 102] } : ByteArray)[m.toNat]'h).toNat : Int) = .int .u8 ((hexd n).toNat : Int) := by
  subst hm
  rw [dig_get _ h, Int.toNat_natCast]

set_option maxRecDepth 100000 in
set_option maxHeartbeats 1000000 in
theorem appendHex_owns (base : Nat) (v : Value) (l : List UInt8) (n count : Nat) (w0 w : World) (hv : Owns base w0 w v l) (hl : l.length ≤ 1000) (hn : n < 9223372036854775808) (hc : count ≤ 16) :
    Calls Tryz.prog 37 #[v, .int .i64 n, .int .i64 count] w fun e w' => ∃ v', e = .returned v' ∧ Owns base w0 w' v' (l ++ hexN n count) := by
  obtain ⟨i0, hi, hz0, hz1, hz2⟩ := info_parts inf_u8
  have HO : Hid (Owns base w0 w v l) := hv
  clear hv
  go_enter Tryz.func37, Tryz.ntmps37
  go_wp2
  go_loopw [0, 7] (fun t i wr => ∃ (k : Nat) (cur : List UInt8), k ≤ count ∧ i = .int .i64 ((k : Int) - 1) ∧ Owns base w0 wr t cur ∧ cur ++ hexN n k = l ++ hexN n count ∧ cur.length ≤ 1016 - k) (fun _ i _ => (intOf i + 1).toNat)
  case atStart => exact ⟨count, l, Nat.le_refl _, by go_num, HO.out, rfl, by omega⟩
  case round =>
    obtain ⟨k, cur, hk, rfl, hO, hcur, hcl⟩ := hrel
    clear HO
    obtain ⟨g1, cap1, rfl, hown, hbel, hsz⟩ := hO
    cases k with
    | zero =>
      have HF : Hid (Owns base w0 wr (.slice (some ⟨g1, 0, none⟩) cur.length cap1) (l ++ hexN n count)) := by
        have e : cur = l ++ hexN n count := by rw [← hcur]; simp [hexN]
        subst e; exact ⟨g1, cap1, rfl, hown, hbel, hsz⟩
      clear hown hbel hsz hcur
      go_wp2
      go_ret
      exact ⟨_, rfl, HF.out⟩
    | succ j =>
      have hcur' : Hid ((cur ++ [hexd (n / 2 ^ (4 * j) % 16)]) ++ hexN n j = l ++ hexN n count) := by show _ = _; rw [← hcur]; simp [hexN]
      clear hcur
      have ej : ((j + 1 : Nat) : Int) - 1 = (j : Int) := by omega
      rw [ej]
      have HD : Hid (bits .and .i64 ((n : Int) / 2 ^ (4 * j)) 15 = ((n / 2 ^ (4 * j) % 16 : Nat) : Int)) := dig_n n j hn
      have a0 : 0 ≤ bits .and .i64 ((n : Int) / 2 ^ (4 * j)) 15 := by rw [HD.out]; omega
      have a1 : bits .and .i64 ((n : Int) / 2 ^ (4 * j)) 15 < 16 := by rw [HD.out]; omega
      go_wp2_with (first | (at_builtin; go_must (refine wpList_append_lies _ rfl (.tmp 14) (.tmp 21) 22 rfl base 5 i0 (.int .u8 0) 1 1 und_bytes hi hz0 hz1 hz2 rfl (by decide) (.slice (some ⟨g1, 0, none⟩) cur.length cap1) cur.length (vals cur) rfl (by exact (hown.alloc _)) ⟨wr.heap.size, 0, none⟩ 1 1 [.int .u8 (hexd (n / 2 ^ (4 * j) % 16)).toNat] rfl rfl (one_new2 _ _ _ (dig_v _ _ HD.out _) _) (one_one _) (by decide) (by unfold maxLen; omega) (by omega) (by simp; omega) _ rfl ?_; intro g' cap' w1 hown' hgrow hat hlt')))
      have HO := owns_more (m := [hexd (n / 2 ^ (4 * j) % 16)]) hown hbel hsz hown' hgrow
      clear hown hbel hsz hown' hgrow hat hlt'
      go_roundw
      case rel => exact ⟨j, cur ++ [hexd (n / 2 ^ (4 * j) % 16)], by omega, by go_num, HO, hcur'.out, by simp; omega⟩
      case measure => simp [intOf]
end

/-
  appendEscaped.
-/
section
def esc1 (c : UInt8) : List UInt8 := if c = 36 ∨ c = 35 ∨ c = 125 then [125, c ^^^ 32] else [c]
def esc (l : List UInt8) : List UInt8 := l.flatMap esc1

theorem esc_snoc (l : List UInt8) (c : UInt8) : esc (l ++ [c]) = esc l ++ esc1 c := by simp [esc]
theorem esc1_len (c : UInt8) : (esc1 c).length ≤ 2 := by unfold esc1; split <;> simp
theorem esc_len (l : List UInt8) : (esc l).length ≤ 2 * l.length := by
  induction l with
  | nil => simp [esc]
  | cons c r ih => have := esc1_len c; simp only [esc, List.flatMap_cons, List.length_append, List.length_cons] at *; omega

theorem take_snoc (s : ByteArray) (k : Nat) (h : k < s.size) : s.data.toList.take (k + 1) = s.data.toList.take k ++ [s[k]] := by
  rw [List.take_succ_eq_append_getElem (by simpa using h)]; rfl

theorem xor32 (c : UInt8) : bits .xor .u8 (c.toNat : Int) 32 = ((c ^^^ 32).toNat : Int) := by
  rw [show (32 : Int) = ((32 : Nat) : Int) from rfl, u8_xor_nat _ _ (UInt8.toNat_lt _) (by omega), UInt8.toNat_xor]; rfl

set_option maxRecDepth 100000 in
set_option maxHeartbeats 1000000 in
theorem appendEscaped_any (base : Nat) (v : Value) (l : List UInt8) (s : ByteArray) (w0 w : World) (hv : Owns base w0 w v l) (hl : l.length ≤ 1000) (hs : s.size ≤ 1000) :
    Calls Tryz.prog 38 #[v, .string s] w fun e w' => ∃ v', e = .returned v' ∧ Owns base w0 w' v' (l ++ esc s.data.toList) := by
  obtain ⟨g, cap, rfl, hown, hbel, hsz⟩ := hv
  obtain ⟨i0, hi, hz0, hz1, hz2⟩ := info_parts inf_u8
  have HO : Hid (Owns base w0 w (.slice (some ⟨g, 0, none⟩) l.length cap) (l ++ esc (s.data.toList.take 0))) := ⟨g, cap, by simp [esc], by simpa [esc] using hown, hbel, hsz⟩
  clear hown hbel hsz
  go_enter Tryz.func38, Tryz.ntmps38
  go_wp2
  go_loopw [0, 9] (fun t i wr => ∃ k : Nat, k ≤ s.size ∧ i = .int .i64 k ∧ Owns base w0 wr t (l ++ esc (s.data.toList.take k))) (fun _ i _ => s.size - (intOf i).toNat)
  case atStart => exact ⟨0, Nat.zero_le _, rfl, HO.out⟩
  case round =>
    obtain ⟨k, hk, rfl, hO⟩ := hrel
    clear HO
    obtain ⟨g1, cap1, rfl, hown, hbel, hsz⟩ := hO
    have hlen : (l ++ esc (s.data.toList.take k)).length ≤ 1000 + 2 * k := by
      have := esc_len (s.data.toList.take k); have h2 : (s.data.toList.take k).length ≤ k := List.length_take_le _ _
      rw [List.length_append]; omega
    by_cases hlt : k < s.size
    · have hstep : Hid (l ++ esc (s.data.toList.take (k + 1)) = (l ++ esc (s.data.toList.take k)) ++ esc1 s[k]) := by rw [take_snoc s k hlt, esc_snoc, List.append_assoc]; rfl
      generalize l ++ esc (s.data.toList.take k) = cur at *
      by_cases hsp : s[k] = 36 ∨ s[k] = 35 ∨ s[k] = 125
      · have he : Hid (esc1 s[k] = [125, s[k] ^^^ 32]) := by show _ = _; unfold esc1; rw [if_pos hsp]
        have hx : bits .xor .u8 (s[k].toNat : Int) 32 = ((s[k] ^^^ 32).toNat : Int) := xor32 _
        have ht : ((s[k].toNat : Int) == 36) = true ∨ (((s[k].toNat : Int) == 36) = false ∧ ((s[k].toNat : Int) == 35) = true) ∨ (((s[k].toNat : Int) == 36) = false ∧ ((s[k].toNat : Int) == 35) = false ∧ ((s[k].toNat : Int) == 125) = true) := by
          rcases hsp with h | h | h <;> simp [h]
        clear hsp
        rcases ht with t1 | ⟨t1, t2⟩ | ⟨t1, t2, t3⟩
        all_goals
          go_wp2_with (first | (at_builtin; go_must (refine wpList_append_lies _ rfl (.tmp 24) (.tmp 27) 22 rfl base 5 i0 (.int .u8 0) 1 1 und_bytes hi hz0 hz1 hz2 rfl (by decide) (.slice (some ⟨g1, 0, none⟩) cur.length cap1) cur.length (vals cur) rfl (by exact (hown.alloc _)) ⟨wr.heap.size, 0, none⟩ 2 2 [.int .u8 125, .int .u8 (s[k] ^^^ 32).toNat] rfl rfl (two_new' _ _ _ _) (two_one _ _) (by decide) (by unfold maxLen; omega) (by omega) (by simp; omega) _ rfl ?_; intro g' cap' w1 hown' hgrow hat hlt')))
          have HO := owns_more (m := [125, s[k] ^^^ 32]) hown hbel hsz hown' hgrow
          clear hown hbel hsz hown' hgrow hat hlt'
          go_roundw
          case rel => exact ⟨k + 1, by omega, by go_num, by rw [hstep.out, he.out]; exact HO⟩
          case measure => simp [intOf]; omega
      · have he : Hid (esc1 s[k] = [s[k]]) := by show _ = _; unfold esc1; rw [if_neg hsp]
        have t1 : ((s[k].toNat : Int) == 36) = false := c_ne (n := 36) (fun e => hsp (.inl e))
        have t2 : ((s[k].toNat : Int) == 35) = false := c_ne (n := 35) (fun e => hsp (.inr (.inl e)))
        have t3 : ((s[k].toNat : Int) == 125) = false := c_ne (n := 125) (fun e => hsp (.inr (.inr e)))
        clear hsp
        go_wp2_with (first | (at_builtin; go_must (refine wpList_append_lies _ rfl (.tmp 16) (.tmp 18) 22 rfl base 5 i0 (.int .u8 0) 1 1 und_bytes hi hz0 hz1 hz2 rfl (by decide) (.slice (some ⟨g1, 0, none⟩) cur.length cap1) cur.length (vals cur) rfl (by exact (hown.alloc _)) ⟨wr.heap.size, 0, none⟩ 1 1 [.int .u8 s[k].toNat] rfl rfl (one_new' _ _ _) (one_one _) (by decide) (by unfold maxLen; omega) (by omega) (by simp; omega) _ rfl ?_; intro g' cap' w1 hown' hgrow hat hlt')))
        have HO := owns_more (m := [s[k]]) hown hbel hsz hown' hgrow
        clear hown hbel hsz hown' hgrow hat hlt'
        go_roundw
        case rel => exact ⟨k + 1, by omega, by go_num, by rw [hstep.out, he.out]; exact HO⟩
        case measure => simp [intOf]; omega
    · have hke : k = s.size := by omega
      have he : Hid (l ++ esc (s.data.toList.take k) = l ++ esc s.data.toList) := by show _ = _; rw [hke, List.take_of_length_le (by simp)]
      generalize l ++ esc (s.data.toList.take k) = cur at *
      have HO : Hid (Owns base w0 wr (.slice (some ⟨g1, 0, none⟩) cur.length cap1) cur) := ⟨g1, cap1, rfl, hown, hbel, hsz⟩
      clear hown hbel hsz
      go_wp2
      go_ret
      exact ⟨_, rfl, by rw [← he.out]; exact HO.out⟩
end

/-
  wire.Frame and stylet.Frame.
-/
section
def rawOf (b : UInt8) (body : List UInt8) : List UInt8 := hex2 b ++ esc body
def frameOf (b : UInt8) (body : List UInt8) : List UInt8 := [36] ++ hex2 b ++ esc body ++ [35] ++ hex2 (sum8 (rawOf b body))

theorem owns_bytes {base : Nat} {w : World} {g cap : Nat} {l : List UInt8} (h : w.ownsRow base 5 1 (.slice (some ⟨g, 0, none⟩) l.length cap) l.length (vals l)) : BytesAt w g 0 l := by
  intro i hi
  have := h.cellAt i (by omega)
  rw [Nat.zero_add, this]; simp [vals, List.getElem?_eq_getElem hi]

theorem bytes_tail {w : World} {g : Nat} {c : UInt8} {l : List UInt8} (h : BytesAt w g 0 (c :: l)) : BytesAt w g 1 l := by
  intro i hi
  have := h (i + 1) (by simpa using hi)
  simpa [Nat.add_comm] using this

theorem own_cap {base : Nat} {w : World} {g n cap : Nat} {xs : List Value} (h : w.ownsRow base 5 1 (.slice (some ⟨g, 0, none⟩) n cap) n xs) : n ≤ cap := by
  rcases h.2 with ⟨e, _⟩ | ⟨g', cap', cur, e, _, _, h1, _⟩
  · simp at e
  · injection e with e1 e2 e3; omega

set_option maxRecDepth 100000 in
set_option maxHeartbeats 1000000 in
theorem wireFrame_any (b : UInt8) (s : ByteArray) (w : World) (hs : s.size ≤ 80) :
    Calls Tryz.prog 30 #[.int .i64 b.toNat, .string s] w fun e w' => ∃ v, e = .returned (.tuple #[v, .int .i64 0]) ∧ Owns w.heap.size w w' v (frameOf b s.data.toList) := by
  have hc : (b.toNat : Int) < 256 := by have := b.toNat_lt; omega
  obtain ⟨i0, hi, hz0, hz1, hz2⟩ := info_parts inf_u8
  have hel : (esc s.data.toList).length ≤ 160 := by have := esc_len s.data.toList; simp at this; omega
  have O0 : Hid (Owns w.heap.size w (w.alloc (.cells #[.int .u8 36] 5)) (.slice (some ⟨w.heap.size, 0, none⟩) 1 1) [36]) := by
    refine ⟨w.heap.size, 1, rfl, ?_, (Below.refl _ _).alloc (Nat.le_refl _) _, by simp⟩
    exact World.ownsRow_lit w #[.int .u8 36] 1 (Nat.le_refl _) (by decide) rfl
  go_enter Tryz.func30, Tryz.ntmps30
  go_wp2_with fail
  refine (appendHex_owns w.heap.size _ [36] b.toNat 2 w _ O0.out (by simp) (by omega) (by omega)).mono ?_
  rintro e w1 ⟨v1, rfl, O1⟩
  rw [hexN_two] at O1
  have H1 : Hid (Owns w.heap.size w w1 v1 ([36] ++ hex2 b)) := O1
  clear O1 O0
  go_wp2_with fail
  refine (appendEscaped_any w.heap.size v1 ([36] ++ hex2 b) s w _ H1.out (by simp [hex2]) (by omega)).mono ?_
  rintro e w2 ⟨v2, rfl, O2⟩
  have hF : Hid (frameOf b s.data.toList = 36 :: rawOf b s.data.toList ++ [35] ++ hex2 (sum8 (rawOf b s.data.toList))) := by show _ = _; simp [frameOf, rawOf]
  have hrl : (rawOf b s.data.toList).length ≤ 162 := by simp [rawOf, hex2]; omega
  have hr2 : 2 ≤ (rawOf b s.data.toList).length := by simp [rawOf, hex2]
  rw [show [36] ++ hex2 b ++ esc s.data.toList = 36 :: rawOf b s.data.toList from by simp [rawOf]] at O2
  clear H1 hel
  generalize rawOf b s.data.toList = raw at *
  obtain ⟨g2, cap2, rfl, hown2, hbel2, hsz2⟩ := O2
  have hcap := own_cap hown2
  rw [List.length_cons] at hcap
  have HB : Hid (BytesAt w2 g2 1 raw) := bytes_tail (owns_bytes hown2)
  have HO2 : Hid (w2.ownsRow w.heap.size 5 1 (.slice (some ⟨g2, 0, none⟩) (raw.length + 1) cap2) (raw.length + 1) (vals (36 :: raw))) := hown2
  clear hown2
  go_wp2_with fail
  refine (sum_any g2 1 (cap2 - 1) raw _ (by omega) HB.out).mono ?_
  rintro e w' ⟨rfl, hw⟩
  subst hw
  clear HB
  have h256 : ((sum8 raw).toNat : Int) < 256 := by have := (sum8 raw).toNat_lt; omega
  go_wp2_with (first | (at_builtin; go_must (refine wpList_append_lies _ rfl (.tmp 27) (.tmp 28) 22 rfl w.heap.size 5 i0 (.int .u8 0) 1 1 und_bytes hi hz0 hz1 hz2 rfl (by decide) (.slice (some ⟨g2, 0, none⟩) (raw.length + 1) cap2) (raw.length + 1) (vals (36 :: raw)) rfl (by exact (HO2.out.alloc _)) ⟨w'.heap.size, 0, none⟩ 1 1 [.int .u8 35] rfl rfl (one_new' _ _ _) (one_one _) (by decide) (by unfold maxLen; omega) (by omega) (by simp; omega) _ rfl ?_; intro g' cap' w4 hown' hgrow hat hlt')) | fail)
  have HO : Hid (Owns w.heap.size w w4 (.slice (some ⟨g', 0, none⟩) (raw.length + 1 + 1) cap') (36 :: raw ++ [35])) := owns_more (l := 36 :: raw) (m := [35]) HO2.out hbel2 hsz2 hown' hgrow
  clear hown' hgrow hat hlt' HO2 hbel2 hsz2
  refine (appendHex_owns w.heap.size _ (36 :: raw ++ [35]) (sum8 raw).toNat 2 w _ HO.out (by simp; omega) (by have := (sum8 raw).toNat_lt; omega) (by omega)).mono ?_
  rintro e w5 ⟨v5, rfl, O5⟩
  rw [hexN_two] at O5
  have H5 : Hid (Owns w.heap.size w w5 v5 (36 :: raw ++ [35] ++ hex2 (sum8 raw))) := O5
  clear O5 HO
  go_wp2
  go_ret2
  exact ⟨v5, rfl, by rw [hF.out]; exact H5.out⟩

set_option maxRecDepth 100000 in
set_option maxHeartbeats 400000 in
theorem frame_any (b : UInt8) (s : ByteArray) (w : World) (hs : s.size ≤ 80) :
    Calls Tryz.prog 20 #[.int .i64 b.toNat, .string s] w fun e w' => ∃ v, e = .returned (.tuple #[v, .int .i64 0]) ∧ Owns w.heap.size w w' v (frameOf b s.data.toList) := by
  go_enter Tryz.func20, Tryz.ntmps20
  go_wp2_with fail
  refine (wireFrame_any b s _ hs).mono ?_
  rintro e w1 ⟨v, rfl, O⟩
  have H : Hid (Owns w.heap.size w w1 v (frameOf b s.data.toList)) := O
  clear O
  go_wp2
  go_ret2
  exact ⟨v, rfl, H.out⟩

def zsc : Array Value := #[.int .u8 0] ++ Array.replicate 200 (.int .u8 0) ++ #[.int .i64 0, .int .u8 0]

theorem zsc_raw (i : Nat) (h : i < 200) : zsc[1 + i]? = some (.int .u8 0) := by
  have : ∀ i : Fin 200, zsc[1 + i.1]? = some (.int .u8 0) := by
    intro i
    unfold zsc
    rw [Array.getElem?_append_left (by simp; omega), Array.getElem?_append_right (by simp)]
    simp
  exact this ⟨i, h⟩

theorem zsc_0 : zsc[0]? = some (.int .u8 ((0 : Nat) : Int)) := by kernel_rfl
theorem zsc_201 : zsc[201]? = some (.int .i64 ((([] : List UInt8).length : Nat) : Int)) := by kernel_rfl
theorem zsc_202 : zsc[202]? = some (.int .u8 (((0 : UInt8).toNat : Nat) : Int)) := by kernel_rfl

theorem scAt_new (w : World) (t : TypeId) : ScAt (w.alloc (.cells zsc t)) w.heap.size ⟨0, [], 0⟩ := by
  have hc : ∀ i, (w.alloc (.cells zsc t)).cell? ⟨w.heap.size, i, none⟩ = zsc[i]? := fun i => World.cell?_alloc_at _ _ _ _ rfl
  refine ⟨by simp, by simp, ?_, ?_, ?_, ?_, ?_, ?_⟩
  · rw [hc]; exact zsc_0
  · rw [hc]; exact zsc_201
  · rw [hc]; exact zsc_202
  · intro i hi; simp at hi
  · intro i hi; rw [hc, zsc_raw i hi]; exact ⟨_, rfl⟩
  · intro o; exact World.frozen?_alloc_at _ _ _ _ rfl

end

/-
  unescape.
-/
section
def unesc : List UInt8 → Option (List UInt8)
  | [] => some []
  | [c] => if c = 125 then none else some [c]
  | c :: d :: r => if c = 125 then (unesc r).map ((d ^^^ 32) :: ·) else (unesc (d :: r)).map (c :: ·)

theorem unesc_plain (c : UInt8) (r : List UInt8) (h : c ≠ 125) : unesc (c :: r) = (unesc r).map (c :: ·) := by
  cases r with
  | nil => simp [unesc, h]
  | cons d r => simp [unesc, h]

theorem unesc_two (d : UInt8) (r : List UInt8) : unesc (125 :: d :: r) = (unesc r).map ((d ^^^ 32) :: ·) := by simp [unesc]

/-- What stands when k bytes of l are done: out has come. -/
def Part (l : List UInt8) (k : Nat) (out : List UInt8) : Prop := unesc l = (unesc (l.drop k)).map (out ++ ·) ∧ out.length ≤ k

theorem part_0 (l : List UInt8) : Part l 0 [] := ⟨by rw [List.drop_zero]; cases unesc l <;> simp, by simp⟩
theorem part_plain {l : List UInt8} {k : Nat} {out : List UInt8} (h : Part l k out) (hk : k < l.length) (hc : l[k] ≠ 125) : Part l (k + 1) (out ++ [l[k]]) := by
  refine ⟨?_, by have := h.2; simp; omega⟩
  rw [h.1, List.drop_eq_getElem_cons hk, unesc_plain _ _ hc]
  cases unesc (l.drop (k + 1)) <;> simp
theorem part_two {l : List UInt8} {k : Nat} {out : List UInt8} (h : Part l k out) (hk : k + 1 < l.length) (hc : l[k] = 125) : Part l (k + 2) (out ++ [l[k + 1] ^^^ 32]) := by
  refine ⟨?_, by have := h.2; simp; omega⟩
  rw [h.1, List.drop_eq_getElem_cons (show k < l.length by omega), hc, List.drop_eq_getElem_cons hk, unesc_two]
  cases unesc (l.drop (k + 1 + 1)) <;> simp
theorem part_none {l : List UInt8} {k : Nat} {out : List UInt8} (h : Part l k out) (hk : k < l.length) (hk' : k + 1 = l.length) (hc : l[k] = 125) : unesc l = none := by
  rw [h.1, List.drop_eq_getElem_cons hk, hc, List.drop_of_length_le (by omega)]; rfl
theorem part_end {l : List UInt8} {k : Nat} {out : List UInt8} (h : Part l k out) (hk : k = l.length) : unesc l = some out := by
  rw [h.1, List.drop_of_length_le (by omega)]; simp [unesc]

def unescRes (l : List UInt8) : Value × Bool := match unesc l with
  | some out => (.string ⟨out.toArray⟩, true)
  | none => (.string ⟨#[]⟩, false)

theorem und_u8 : Tryz.prog.underlying 5 = some (.int .u8) := by kernel_rfl
theorem und_str : Tryz.prog.underlying 9 = some .string := by kernel_rfl

theorem to_string {w : World} {base g cap : Nat} {l : List UInt8} (h : w.ownsRow base 5 1 (.slice (some ⟨g, 0, none⟩) l.length cap) l.length (vals l)) :
    (convert 22 9 (.slice (some ⟨g, 0, none⟩) l.length cap)).run Tryz.prog w = .ok (.string ⟨l.toArray⟩) w := by
  have := run_convert_bytes_back (P := Tryz.prog) w 22 9 5 ⟨g, 0, none⟩ cap l und_bytes und_u8 und_str
    (fun j hj => by
      have hb := owns_bytes h j hj
      rw [Nat.zero_add] at hb
      rw [show (⟨g, 0, none⟩ : Addr).add j = ⟨g, j, none⟩ from by unfold Addr.add; split <;> simp_all]; exact hb)
  exact this

set_option maxRecDepth 100000 in
set_option maxHeartbeats 1000000 in
theorem unescape_any (b off cap : Nat) (l : List UInt8) (w : World) (hl : l.length ≤ 1000) (h : BytesAt w b off l) (hb : b < w.heap.size) :
    Calls Tryz.prog 48 #[.slice (some ⟨b, off, none⟩) l.length cap] w fun e w' => e = .returned (.tuple #[(unescRes l).1, .bool (unescRes l).2]) ∧ Below w.heap.size w w' := by
  obtain ⟨i0, hi, hz0, hz1, hz2⟩ := info_parts inf_u8
  have HB : Hid (BytesAt w b off l) := h
  clear h
  have hm : i0.bytes * l.length ≤ 281474976710656 := by rw [hz2]; omega
  go_enter Tryz.func48, Tryz.ntmps48
  go_wp2_with (first | (at_make; go_must (refine wpList_make_own _ rfl _ _ 22 rfl w.heap.size 5 i0 (.int .u8 0) 1 und_bytes hi hz0 hz1 .i64 .i64 _ l.length rfl rfl rfl hm (by unfold maxLen; omega) (Nat.le_refl _) ?_; intro w1 hown1 hgrow1)))
  have HO : Hid (Owns w.heap.size w w1 (.slice (some ⟨w.heap.size, 0, none⟩) 0 l.length) []) := ⟨w.heap.size, l.length, rfl, hown1, (Below.refl _ _).grown hgrow1 (Nat.le_refl _) (by simp), hgrow1.size⟩
  clear hown1 hgrow1 hm
  go_loopw [4, 5] (fun v i wr => ∃ (k : Nat) (out : List UInt8), k ≤ l.length ∧ i = .int .i64 k ∧ Hid (Part l k out) ∧ Owns w.heap.size w wr v out) (fun _ i _ => l.length - (intOf i).toNat)
  case atStart => exact ⟨0, [], Nat.zero_le _, rfl, part_0 l, HO.out⟩
  case round =>
    obtain ⟨k, out, hk, rfl, hP, hO⟩ := hrel
    clear HO
    obtain ⟨g1, cap1, rfl, hown, hbel, hsz⟩ := hO
    have hol : out.length ≤ 1000 := by have := hP.out.2; omega
    by_cases hlt : k < l.length
    · have hc0 : wr.cell? ⟨b, off + k, none⟩ = some (.int .u8 (l[k].toNat : Int)) := (hbel.cell (by exact hb)).trans (HB.out k hlt)
      by_cases h125 : l[k] = 125
      · by_cases hk1 : k + 1 < l.length
        · have hc1 : wr.cell? ⟨b, off + (k + 1), none⟩ = some (.int .u8 (l[k + 1].toNat : Int)) := (hbel.cell (by exact hb)).trans (HB.out (k + 1) hk1)
          have hP' : Hid (Part l (k + 2) (out ++ [l[k + 1] ^^^ 32])) := part_two hP.out hk1 h125
          have t1 : ((l[k].toNat : Int) == 125) = true := by rw [h125]; rfl
          have hx : bits .xor .u8 (l[k + 1].toNat : Int) 32 = ((l[k + 1] ^^^ 32).toNat : Int) := xor32 _
          clear h125 hP
          have tz : ((k : Int) + 1 == (l.length : Int)) = false := by rw [beq_eq_false_iff_ne]; omega
          go_wp2_with (first | (at_builtin; go_must (refine wpList_append_lies _ rfl (.tmp 33) (.tmp 35) 22 rfl w.heap.size 5 i0 (.int .u8 0) 1 1 und_bytes hi hz0 hz1 hz2 rfl (by decide) (.slice (some ⟨g1, 0, none⟩) out.length cap1) out.length (vals out) rfl (by exact (hown.alloc _)) ⟨wr.heap.size, 0, none⟩ 1 1 [.int .u8 (l[k + 1] ^^^ 32).toNat] rfl rfl (one_new' _ _ _) (one_one _) (by decide) (by unfold maxLen; omega) (by omega) (by simp; omega) _ rfl ?_; intro g' cap' w1 hown' hgrow hat hlt')))
          have HO := owns_more (m := [l[k + 1] ^^^ 32]) hown hbel hsz hown' hgrow
          clear hown hbel hsz hown' hgrow hat hlt'
          go_roundw
          case rel => exact ⟨k + 2, out ++ [l[k + 1] ^^^ 32], by omega, by go_num, hP', HO⟩
          case measure => simp [intOf]; omega
        · have hn : Hid (unesc l = none) := part_none hP.out hlt (by omega) h125
          have t1 : ((l[k].toNat : Int) == 125) = true := by rw [h125]; rfl
          have tz : ((k : Int) + 1 == (l.length : Int)) = true := by rw [beq_iff_eq]; omega
          clear h125 hP
          go_wp2
          go_ret2
          refine ⟨by simp only [unescRes, hn.out]; rfl, hbel⟩
      · have hP' : Hid (Part l (k + 1) (out ++ [l[k]])) := part_plain hP.out hlt h125
        have t1 : ((l[k].toNat : Int) == 125) = false := c_ne (n := 125) h125
        clear h125 hP
        go_wp2_with (first | (at_builtin; go_must (refine wpList_append_lies _ rfl (.tmp 33) (.tmp 35) 22 rfl w.heap.size 5 i0 (.int .u8 0) 1 1 und_bytes hi hz0 hz1 hz2 rfl (by decide) (.slice (some ⟨g1, 0, none⟩) out.length cap1) out.length (vals out) rfl (by exact (hown.alloc _)) ⟨wr.heap.size, 0, none⟩ 1 1 [.int .u8 l[k].toNat] rfl rfl (one_new' _ _ _) (one_one _) (by decide) (by unfold maxLen; omega) (by omega) (by simp; omega) _ rfl ?_; intro g' cap' w1 hown' hgrow hat hlt')))
        have HO := owns_more (m := [l[k]]) hown hbel hsz hown' hgrow
        clear hown hbel hsz hown' hgrow hat hlt'
        go_roundw
        case rel => exact ⟨k + 1, out ++ [l[k]], by omega, by go_num, hP', HO⟩
        case measure => simp [intOf]; omega
    · have hn : Hid (unesc l = some out) := part_end hP.out (by omega)
      have hconv := to_string hown
      clear hP hown
      go_wp2
      go_ret2
      refine ⟨by simp only [unescRes, hn.out]; rfl, hbel⟩
end

/-
  readPacket.
-/
section
structure Pk where
  seq : Nat
  body : List UInt8
  bad : Bool

def badPk : Pk := ⟨0, [], true⟩

def Pk.val (p : Pk) : Value := .agg #[.int .i64 (p.seq : Int), .string ⟨p.body.toArray⟩, .bool p.bad]

def tailPk (l : List UInt8) (c0 c1 : UInt8) : Pk :=
  if (hb c0 c1).2 = true then
    (match unesc (l.drop 2) with
    | some out => if out.length ≤ 80 then ⟨(hb c0 c1).1.toNat, out, false⟩ else badPk
    | none => badPk)
  else badPk

def readPk (l : List UInt8) (h lo : UInt8) : Pk :=
  if (hb h lo).2 = true ∧ (hb h lo).1 = sum8 l ∧ 2 ≤ l.length then tailPk l (l.getD 0 0) (l.getD 1 0) else badPk

theorem below2 (w : World) (o p : Obj) : Below w.heap.size w ((w.alloc o).alloc p) := ((Below.refl _ _).alloc (Nat.le_refl _) _).alloc (by simp) _

set_option maxRecDepth 100000 in
set_option maxHeartbeats 1000000 in
theorem readPacket_a (b off cap : Nat) (l : List UInt8) (h lo : UInt8) (w : World) (hbad : (hb h lo).2 = false) :
    Calls Tryz.prog 35 #[.slice (some ⟨b, off, none⟩) l.length cap, .int .u8 h.toNat, .int .u8 lo.toNat] w fun e w' => e = .returned badPk.val ∧ Below w.heap.size w w' := by
  go_enter Tryz.func35, Tryz.ntmps35
  go_wp2_with fail
  refine (hexByte_any h lo _).mono ?_
  rintro e w1 ⟨rfl, rfl⟩
  rw [hbad]
  go_wp2
  exact bodyPost_ret (v := .agg #[.int .i64 0, .string ⟨#[]⟩, .bool true]) (by simp [results, Tryz.results35, go_sem]) rfl ⟨rfl, below2 _ _ _⟩

theorem ne_u8 {a b : UInt8} (h : a ≠ b) : ((a.toNat : Int) != (b.toNat : Int)) = true := by
  rw [bne_iff_ne]; intro e; apply h; exact UInt8.toNat_inj.1 (by omega)
theorem eq_u8 (a : UInt8) : ((a.toNat : Int) != (a.toNat : Int)) = false := by simp

theorem bytes_alloc {w : World} {b off : Nat} {l : List UInt8} (h : BytesAt w b off l) (hb : b < w.heap.size) (o : Obj) : BytesAt (w.alloc o) b off l := by
  intro i hi; rw [World.cell?_alloc_past _ _ _ hb]; exact h i hi

theorem bytes_below {w w' : World} {b off B : Nat} {l : List UInt8} (h : BytesAt w b off l) (hw : Below B w w') (hb : b < B) : BytesAt w' b off l := by
  intro i hi; rw [hw.cell (by exact hb)]; exact h i hi

set_option maxRecDepth 100000 in
set_option maxHeartbeats 1000000 in
theorem readPacket_b (b off cap : Nat) (l : List UInt8) (h lo : UInt8) (w : World) (hgood : (hb h lo).2 = true) (hsum : (hb h lo).1 ≠ sum8 l) (hl : l.length ≤ 1000) (hB : BytesAt w b off l) (hbs : b < w.heap.size) :
    Calls Tryz.prog 35 #[.slice (some ⟨b, off, none⟩) l.length cap, .int .u8 h.toNat, .int .u8 lo.toNat] w fun e w' => e = .returned badPk.val ∧ Below w.heap.size w w' := by
  have HB : Hid (BytesAt w b off l) := hB
  clear hB
  have hne := ne_u8 hsum
  clear hsum
  go_enter Tryz.func35, Tryz.ntmps35
  go_wp2_with fail
  refine (hexByte_any h lo _).mono ?_
  rintro e w1 ⟨rfl, rfl⟩
  rw [hgood]
  go_wp2_with fail
  refine (sum_any b off cap l _ (by omega) (bytes_alloc (bytes_alloc HB.out hbs _) (by simp; omega) _)).mono ?_
  rintro e w1 ⟨rfl, rfl⟩
  go_wp2
  exact bodyPost_ret (v := .agg #[.int .i64 0, .string ⟨#[]⟩, .bool true]) (by simp [results, Tryz.results35, go_sem]) rfl ⟨rfl, below2 _ _ _⟩

set_option maxRecDepth 100000 in
set_option maxHeartbeats 1000000 in
theorem readPacket_c (b off cap : Nat) (l : List UInt8) (h lo : UInt8) (w : World) (hgood : (hb h lo).2 = true) (hsum : (hb h lo).1 = sum8 l) (hl : l.length < 2) (hB : BytesAt w b off l) (hbs : b < w.heap.size) :
    Calls Tryz.prog 35 #[.slice (some ⟨b, off, none⟩) l.length cap, .int .u8 h.toNat, .int .u8 lo.toNat] w fun e w' => e = .returned badPk.val ∧ Below w.heap.size w w' := by
  have HB : Hid (BytesAt w b off l) := hB
  clear hB
  have hne := eq_u8 (sum8 l)
  have HS : Hid ((hb h lo).1 = sum8 l) := hsum
  clear hsum
  go_enter Tryz.func35, Tryz.ntmps35
  go_wp2_with fail
  refine (hexByte_any h lo _).mono ?_
  rintro e w1 ⟨rfl, rfl⟩
  rw [hgood, HS.out]
  go_wp2_with fail
  refine (sum_any b off cap l _ (by omega) (bytes_alloc (bytes_alloc HB.out hbs _) (by simp; omega) _)).mono ?_
  rintro e w1 ⟨rfl, rfl⟩
  go_wp2
  exact bodyPost_ret (v := .agg #[.int .i64 0, .string ⟨#[]⟩, .bool true]) (by simp [results, Tryz.results35, go_sem]) rfl ⟨rfl, below2 _ _ _⟩

theorem unescape_len (b off cap n : Nat) (l : List UInt8) (w : World) (hn : l.length = n) (hl : l.length ≤ 1000) (h : BytesAt w b off l) (hb : b < w.heap.size) :
    Calls Tryz.prog 48 #[.slice (some ⟨b, off, none⟩) n cap] w fun e w' => e = .returned (.tuple #[(unescRes l).1, .bool (unescRes l).2]) ∧ Below w.heap.size w w' := by
  subst hn; exact unescape_any b off cap l w hl h hb

theorem bytes_drop {w : World} {b off : Nat} {l : List UInt8} (h : BytesAt w b off l) (k : Nat) : BytesAt w b (off + k) (l.drop k) := by
  intro i hi
  have hi' : k + i < l.length := by simp at hi; omega
  have := h (k + i) hi'
  rw [Nat.add_assoc, this]; simp

theorem bytes_drewN {w : World} {b off : Nat} {l : List UInt8} (h : BytesAt w b off l) (n : Nat) : BytesAt (w.drewN n) b off l := h

theorem bcell {W w1 : World} (hb : Below W.heap.size W w1) : (∀ b o, b < W.heap.size → w1.cell? ⟨b, o, none⟩ = W.cell? ⟨b, o, none⟩) ∧ (∀ b o, b < W.heap.size → w1.frozen? ⟨b, o, none⟩ = W.frozen? ⟨b, o, none⟩) :=
  ⟨fun b o h => hb.cell (p := ⟨b, o, none⟩) h, fun b o h => hb.frozen (p := ⟨b, o, none⟩) h⟩

theorem after_cells {w w2 : World} {a0 a1 a2 b0 b1 b2 : Value} {t t' : TypeId} {n : Nat}
    (h : Below (((w.alloc (.cells #[a0, a1, a2] t)).alloc (.cells #[b0, b1, b2] t')).drewN n).heap.size (((w.alloc (.cells #[a0, a1, a2] t)).alloc (.cells #[b0, b1, b2] t')).drewN n) w2) :
    w2.cell? ⟨w.heap.size, 0, none⟩ = some a0 ∧ w2.cell? ⟨w.heap.size, 1, none⟩ = some a1 ∧ w2.cell? ⟨w.heap.size, 2, none⟩ = some a2 ∧
    w2.frozen? ⟨w.heap.size, 0, none⟩ = false ∧ w2.frozen? ⟨w.heap.size, 1, none⟩ = false ∧ w2.frozen? ⟨w.heap.size, 2, none⟩ = false ∧
    w2.cell? ⟨w.heap.size + 1, 0, none⟩ = some b0 ∧ w2.cell? ⟨w.heap.size + 1, 1, none⟩ = some b1 ∧ w2.cell? ⟨w.heap.size + 1, 2, none⟩ = some b2 := by
  obtain ⟨hc, hf⟩ := bcell h
  have c0 : ∀ o, w2.cell? ⟨w.heap.size, o, none⟩ = #[a0, a1, a2][o]? := fun o => by
    rw [hc _ _ (by simp; omega), World.cell?_drewN, World.cell?_alloc_past _ _ _ (by simp), World.cell?_alloc_at _ _ _ _ rfl]
  have c1 : ∀ o, w2.cell? ⟨w.heap.size + 1, o, none⟩ = #[b0, b1, b2][o]? := fun o => by
    rw [hc _ _ (by simp), World.cell?_drewN, World.cell?_alloc_at _ _ _ _ (by simp)]
  have f0 : ∀ o, w2.frozen? ⟨w.heap.size, o, none⟩ = false := fun o => by
    rw [hf _ _ (by simp; omega), World.frozen?_drewN, World.frozen?_alloc_past _ _ _ (by simp), World.frozen?_alloc_at _ _ _ _ rfl]
  exact ⟨c0 0, c0 1, c0 2, f0 0, f0 1, f0 2, c1 0, c1 1, c1 2⟩

theorem below_after {w w2 : World} {o p : Obj} {n : Nat} (h : Below (((w.alloc o).alloc p).drewN n).heap.size (((w.alloc o).alloc p).drewN n) w2) : Below w.heap.size w w2 :=
  (below_drewN (below2 w o p) n).trans (h.mono (by simp; omega))

set_option maxRecDepth 100000 in
set_option maxHeartbeats 1000000 in
theorem readPacket_d (b off : Nat) (l : List UInt8) (c0 c1 h lo : UInt8) (w : World) (hgood : (hb h lo).2 = true) (hsum : (hb h lo).1 = sum8 l) (hl : 2 ≤ l.length) (hl2 : l.length ≤ 200) (hB : BytesAt w b off l) (hbs : b < w.heap.size)
    (hc0 : w.cell? ⟨b, off, none⟩ = some (.int .u8 (c0.toNat : Int))) (hc1 : w.cell? ⟨b, off + 1, none⟩ = some (.int .u8 (c1.toNat : Int))) :
    Calls Tryz.prog 35 #[.slice (some ⟨b, off, none⟩) l.length 200, .int .u8 h.toNat, .int .u8 lo.toNat] w fun e w' => e = .returned (tailPk l c0 c1).val ∧ Below w.heap.size w w' := by
  have HB : Hid (BytesAt w b off l) := hB
  clear hB
  have hne := eq_u8 (sum8 l)
  have HS : Hid ((hb h lo).1 = sum8 l) := hsum
  clear hsum
  go_enter Tryz.func35, Tryz.ntmps35
  go_wp2_with fail
  refine (hexByte_any h lo _).mono ?_
  rintro e w1 ⟨rfl, rfl⟩
  rw [hgood, HS.out]
  go_wp2_with fail
  refine (sum_any b off 200 l _ (by omega) (bytes_alloc (bytes_alloc HB.out hbs _) (by simp; omega) _)).mono ?_
  rintro e w1 ⟨rfl, rfl⟩
  have b1 : (1 : Int) < (l.length : Int) := by omega
  have b0 : (0 : Int) < (l.length : Int) := by omega
  go_wp2_with fail
  go_quiet ((go_at_call 47; exact Calls.quiet_of_same (hexByte_any _ _ _)))
  cases hq : (hb c0 c1).snd
  · have hT : Hid (tailPk l c0 c1 = badPk) := by show _ = _; simp [tailPk, hq]
    go_wp2
    exact bodyPost_ret (v := .agg #[.int .i64 0, .string ⟨#[]⟩, .bool true]) (by simp [results, Tryz.results35, go_sem]) rfl ⟨by rw [hT.out]; rfl, (((below_drewN (below2 _ _ _) _).setCell (Nat.le_refl _) _).setCell (Nat.le_refl _) _).setCell (Nat.le_refl _) _⟩
  · have HQ : Hid ((hb c0 c1).snd = true) := hq
    clear hq
    go_wp2_with fail
    refine (unescape_len b (off + 2) 198 (l.length - 2) (l.drop 2) _ (by simp) (by simp; omega) (bytes_drewN (bytes_alloc (bytes_alloc (bytes_drop HB.out 2) hbs _) (by simp; omega) _) _) (by simp; omega)).mono ?_
    rintro e w2 ⟨rfl, hbel⟩
    have HF : Hid (Below w.heap.size w w2) := below_after hbel
    obtain ⟨d0, d1, d2, f0, f1, f2, g0, g1, g2⟩ := after_cells hbel
    clear hbel
    cases hu : unesc (l.drop 2) with
    | none =>
      have hT : Hid (tailPk l c0 c1 = badPk) := by show _ = _; simp [tailPk, HQ.out, hu]
      have hr : unescRes (l.drop 2) = (.string ⟨#[]⟩, false) := by simp [unescRes, hu]
      rw [hr]
      clear hr hu
      go_wp2
      exact bodyPost_ret (v := .agg #[.int .i64 0, .string ⟨#[]⟩, .bool true]) (by simp [results, Tryz.results35, go_sem, d0, d1, d2]) rfl ⟨by rw [hT.out]; rfl, ((HF.out.setCell (Nat.le_refl _) _).setCell (Nat.le_refl _) _).setCell (Nat.le_refl _) _⟩
    | some out =>
      have hr : unescRes (l.drop 2) = (.string ⟨out.toArray⟩, true) := by simp [unescRes, hu]
      rw [hr]
      clear hr
      by_cases h80 : out.length ≤ 80
      · have hT : Hid (tailPk l c0 c1 = ⟨(hb c0 c1).1.toNat, out, false⟩) := by show _ = _; simp [tailPk, HQ.out, hu, h80]
        have h81 : (out.length : Int) ≤ 80 := by omega
        have hc3 : ((hb c0 c1).1.toNat : Int) < 256 := by have := (hb c0 c1).1.toNat_lt; omega
        clear hu
        go_wp2
        exact bodyPost_ret (v := .agg #[.int .i64 (hb c0 c1).1.toNat, .string ⟨out.toArray⟩, .bool false]) (by simp [results, Tryz.results35, go_sem, d0, d1, d2]) rfl ⟨by rw [hT.out]; rfl, ((HF.out.setCell (Nat.le_refl _) _).setCell (Nat.le_refl _) _).setCell (Nat.le_refl _) _⟩
      · have hT : Hid (tailPk l c0 c1 = badPk) := by show _ = _; simp [tailPk, HQ.out, hu, h80]
        have h81 : (80 : Int) < (out.length : Int) := by omega
        clear hu h80
        go_wp2
        exact bodyPost_ret (v := .agg #[.int .i64 0, .string ⟨#[]⟩, .bool true]) (by simp [results, Tryz.results35, go_sem, d0, d1, d2]) rfl ⟨by rw [hT.out]; rfl, ((HF.out.setCell (Nat.le_refl _) _).setCell (Nat.le_refl _) _).setCell (Nat.le_refl _) _⟩

theorem readPacket_any (b off : Nat) (l : List UInt8) (h lo : UInt8) (w : World) (hl : l.length ≤ 200) (hB : BytesAt w b off l) (hbs : b < w.heap.size) :
    Calls Tryz.prog 35 #[.slice (some ⟨b, off, none⟩) l.length 200, .int .u8 h.toNat, .int .u8 lo.toNat] w fun e w' => e = .returned (readPk l h lo).val ∧ Below w.heap.size w w' := by
  cases h1 : (hb h lo).2 with
  | false => rw [show readPk l h lo = badPk from by simp [readPk, h1]]; exact readPacket_a b off 200 l h lo w h1
  | true =>
    by_cases h2 : (hb h lo).1 = sum8 l
    · by_cases h3 : 2 ≤ l.length
      · rw [show readPk l h lo = tailPk l (l.getD 0 0) (l.getD 1 0) from by unfold readPk; rw [if_pos ⟨h1, h2, h3⟩]]
        have e0 := hB 0 (by omega)
        have e1 := hB 1 (by omega)
        exact readPacket_d b off l _ _ h lo w h1 h2 h3 hl hB hbs (by rw [Nat.add_zero] at e0; rw [e0]; simp [List.getD, List.getElem?_eq_getElem (show 0 < l.length by omega)]) (by rw [e1]; simp [List.getD, List.getElem?_eq_getElem (show 1 < l.length by omega)])
      · rw [show readPk l h lo = badPk from by simp [readPk, h3]]; exact readPacket_c b off 200 l h lo w h1 h2 (by omega) hB hbs
    · rw [show readPk l h lo = badPk from by simp [readPk, h2]]; exact readPacket_b b off 200 l h lo w h1 h2 (by omega) hB hbs
end

/-
  Scanner.Feed and Scan.Feed.
-/
section
def feedS (s : Sc) (l : List UInt8) : Sc := l.foldl Sc.step s
def feedP : Sc → List UInt8 → List Pk
  | _, [] => []
  | s, c :: r => (if s.st = 3 then [readPk s.raw s.sum c] else []) ++ feedP (s.step c) r

theorem feedS_append (s : Sc) (a b : List UInt8) : feedS s (a ++ b) = feedS (feedS s a) b := by simp [feedS]
theorem feedP_append (s : Sc) (a b : List UInt8) : feedP s (a ++ b) = feedP s a ++ feedP (feedS s a) b := by
  induction a generalizing s with
  | nil => simp [feedP, feedS]
  | cons c r ih => simp only [List.cons_append, feedP, ih, List.append_assoc]; rfl

def Pk.cells (p : Pk) : List Value := [.int .i64 (p.seq : Int), .string ⟨p.body.toArray⟩, .bool p.bad]
def pvals (ps : List Pk) : List Value := ps.flatMap Pk.cells

theorem pvals_snoc (ps : List Pk) (p : Pk) : pvals (ps ++ [p]) = pvals ps ++ p.cells := by simp [pvals]

theorem inf_pk : (Tryz.prog.info? 105).map (fun i => (i.zero, i.size, i.bytes)) = some (some (.agg #[.int .i64 0, .string ⟨#[]⟩, .bool false]), 3, 32) := by kernel_rfl
theorem und_pks : Tryz.prog.underlying 102 = some (.slice 105) := by kernel_rfl

theorem feed_step (s : Sc) (l : List UInt8) (k : Nat) (h : k < l.length) : feedS s (l.take (k + 1)) = (feedS s (l.take k)).step l[k] := by
  rw [take_snoc8 l k h, feedS_append]; rfl
theorem feedP_step0 (s : Sc) (l : List UInt8) (k : Nat) (h : k < l.length) (h3 : (feedS s (l.take k)).st ≠ 3) : feedP s (l.take (k + 1)) = feedP s (l.take k) := by
  rw [take_snoc8 l k h, feedP_append]; simp [feedP, h3]
theorem feedP_step3 (s : Sc) (l : List UInt8) (k : Nat) (h : k < l.length) (h3 : (feedS s (l.take k)).st = 3) :
    feedP s (l.take (k + 1)) = feedP s (l.take k) ++ [readPk (feedS s (l.take k)).raw (feedS s (l.take k)).sum l[k]] := by
  rw [take_snoc8 l k h, feedP_append]; simp [feedP, h3]
theorem feedP_take_len (s : Sc) (l : List UInt8) (k : Nat) : (feedP s (l.take k)).length ≤ (feedP s l).length := by
  have : feedP s l = feedP s (l.take k) ++ feedP (feedS s (l.take k)) (l.drop k) := by rw [← feedP_append, List.take_append_drop]
  rw [this]; simp

theorem ScAt.lt {w : World} {B : Nat} {s : Sc} (h : ScAt w B s) : B < w.heap.size := World.block_lt_of_cell? w ⟨B, 0, none⟩ h.cst

theorem und_arr : Tryz.prog.underlying 70 = some (.array 200 5) := by kernel_rfl

theorem slice_raw (B n : Nat) (h : n ≤ 200) (w : World) : Sem.run Tryz.prog (Instr.sliceAt 70 (.pointer (some ⟨B, 1, none⟩)) none (some (.int .i64 (n : Int))) none) w = .ok (.slice (some ⟨B, 1, none⟩) n 200) w := by
  have hal : Tryz.prog.arrayLen 70 = 200 := by kernel_rfl
  have hel : Tryz.prog.elem 70 = 5 := by kernel_rfl
  rw [run_sliceAt_array_h (P := Tryz.prog) w 70 ⟨B, 1, none⟩ (by rw [hal, hel]; exact und_arr) .i64 (n : Int) (by omega) (by rw [hal]; omega), hal, hel]
  simp [sizeOf, go_sem, slicedAt, Addr.add]

/-- The packets' slice of a Feed, and the scanner. -/
structure Fed (B : Nat) (w0 w : World) (v : Value) (s : Sc) (ps : List Pk) : Prop where
  own : w.ownsRow w0.heap.size 105 3 v ps.length (pvals ps)
  nil : ps = [] → v = .slice none 0 0
  sc : ScAt w B s
  grown : w0.grownBy w (some B)
  lt : B < w0.heap.size

theorem Fed.turned {B : Nat} {w0 w w1 : World} {v : Value} {s s' : Sc} {ps : List Pk} (h : Fed B w0 w v s ps) (ht : Turned B s' w w1) : Fed B w0 w1 v s' ps := by
  refine ⟨h.own.kept ht.2.1 ?_, h.nil, ht.1, grown_trans h.grown ht.2.1, h.lt⟩
  cases hv : v.ownBlock with
  | none => exact .inl rfl
  | some g =>
    refine .inr ?_
    have h1 := (h.own.lt g hv).1
    have h2 := h.lt
    intro e; injection e with e; omega

theorem own_below {w w' : World} {base : Nat} {e : TypeId} {size : Nat} {v : Value} {n : Nat} {xs : List Value} (h : w.ownsRow base e size v n xs) (hb : Below w.heap.size w w') : w'.ownsRow base e size v n xs :=
  h.kept ⟨hb.os, hb.tape, hb.output, hb.size, fun k hk _ => hb.block k hk⟩ (row := none) (by cases v.ownBlock <;> simp)

theorem ScAt.below {w w' : World} {B : Nat} {s : Sc} (h : ScAt w B s) (hb : Below w.heap.size w w') : ScAt w' B s := by
  have hc : ∀ o, w'.cell? ⟨B, o, none⟩ = w.cell? ⟨B, o, none⟩ := fun o => hb.cell (p := ⟨B, o, none⟩) h.lt
  have hf : ∀ o, w'.frozen? ⟨B, o, none⟩ = w.frozen? ⟨B, o, none⟩ := fun o => hb.frozen (p := ⟨B, o, none⟩) h.lt
  exact ⟨h.st3, h.len, by rw [hc]; exact h.cst, by rw [hc]; exact h.cnt, by rw [hc]; exact h.csum, fun i hi => by rw [hc]; exact h.bytes i hi, fun i hi => by rw [hc]; exact h.there i hi, fun o => by rw [hf]; exact h.free o⟩

theorem grown_below {w w' : World} (hb : Below w.heap.size w w') (row : Option Nat) : w.grownBy w' row := ⟨hb.os, hb.tape, hb.output, hb.size, fun k hk _ => hb.block k hk⟩

theorem Fed.below {B : Nat} {w0 w w1 : World} {v : Value} {s : Sc} {ps : List Pk} (h : Fed B w0 w v s ps) (hb : Below w.heap.size w w1) : Fed B w0 w1 v s ps :=
  ⟨own_below h.own hb, h.nil, h.sc.below hb, grown_trans h.grown (grown_below hb _), h.lt⟩

theorem below_undrew {B : Nat} {w w' : World} (h : Below B w.drew w') : Below B w w' := ⟨h.os, h.tape, h.output, h.size, h.block⟩

theorem ScAt.grown {w w' : World} {B : Nat} {s : Sc} {row : Option Nat} (h : ScAt w B s) (hg : w.grownBy w' row) (hne : some B ≠ row) : ScAt w' B s := by
  have hb := hg.block B h.lt hne
  have hc : ∀ o, w'.cell? ⟨B, o, none⟩ = w.cell? ⟨B, o, none⟩ := fun o => World.cell?_of_block (a := ⟨B, o, none⟩) hb
  have hf : ∀ o, w'.frozen? ⟨B, o, none⟩ = w.frozen? ⟨B, o, none⟩ := fun o => World.frozen?_of_block (a := ⟨B, o, none⟩) hb
  exact ⟨h.st3, h.len, by rw [hc]; exact h.cst, by rw [hc]; exact h.cnt, by rw [hc]; exact h.csum, fun i hi => by rw [hc]; exact h.bytes i hi, fun i hi => by rw [hc]; exact h.there i hi, fun o => by rw [hf]; exact h.free o⟩

theorem Fed.append {B : Nat} {w0 w w3 : World} {v : Value} {s : Sc} {ps : List Pk} {p : Pk} {o : Obj} {g cap : Nat} (h : Fed B w0 w v s ps)
    (hown : w3.ownsRow w0.heap.size 105 3 (.slice (some ⟨g, 0, none⟩) (ps.length + 1) cap) (ps.length + 1) (pvals ps ++ p.cells)) (hg : (w.alloc o).grownBy w3 v.ownBlock) :
    Fed B w0 w3 (.slice (some ⟨g, 0, none⟩) (ps.length + 1) cap) s (ps ++ [p]) := by
  have hlt := h.lt
  have hne : some B ≠ v.ownBlock := fun e => by have := (h.own.lt B e.symm).1; omega
  have hal : ScAt (w.alloc o) B s := h.sc.grown (World.grownBy_alloc w o none) (by simp)
  refine ⟨by rw [pvals_snoc]; simpa using hown, by simp, hal.grown hg hne, ?_, h.lt⟩
  have hs := h.grown.size
  have hs3 := hg.size
  simp only [World.size_alloc] at hs3
  refine ⟨hg.os.trans h.grown.os, hg.tape.trans h.grown.tape, hg.output.trans h.grown.output, by omega, ?_⟩
  intro k hk hkB
  have hne' : some k ≠ v.ownBlock := fun e => by have := (h.own.lt k e.symm).1; omega
  exact (hg.block k (by simp; omega) hne').trans ((Below.heap_alloc w o k (by omega)).trans (h.grown.block k hk hkB))

theorem pk_val (p : Pk) : p.val = .agg #[.int .i64 (p.seq : Int), .string ⟨p.body.toArray⟩, .bool p.bad] := rfl

theorem three_new (w : World) (p : Pk) (t : TypeId) :
    ∀ j u, p.cells[j]? = some u → (w.alloc (.cells #[.int .i64 (p.seq : Int), .string ⟨p.body.toArray⟩, .bool p.bad] t)).cell? ((⟨w.heap.size, 0, none⟩ : Addr).add j) = some u :=
  World.news_of_block (w := w.alloc (.cells #[.int .i64 (p.seq : Int), .string ⟨p.body.toArray⟩, .bool p.bad] t)) (cs := #[.int .i64 (p.seq : Int), .string ⟨p.body.toArray⟩, .bool p.bad]) (t := t) (fr := (0, 0)) (heap_alloc_new w _)

theorem three_one (p : Pk) : ∀ u ∈ p.cells, u.oneCell' = true := by
  intro u hu; simp [Pk.cells] at hu; rcases hu with rfl | rfl | rfl <;> rfl

set_option maxRecDepth 100000 in
set_option maxHeartbeats 2000000 in
theorem scannerFeed_any (B bb off cap : Nat) (s : Sc) (l : List UInt8) (w : World) (hs : ScAt w B s) (hl : l.length ≤ 140737488355328) (hB : BytesAt w bb off l) (hne : bb ≠ B)
    (hmax : (feedP s l).length ≤ 4194304) :
    Calls Tryz.prog 28 #[.pointer (some ⟨B, 0, none⟩), .slice (some ⟨bb, off, none⟩) l.length cap] w fun e w' => ∃ v, e = .returned v ∧ Fed B w w' v (feedS s l) (feedP s l) := by
  obtain ⟨i0, hi, hz0, hz1, hz2⟩ := info_parts inf_pk
  have HB : Hid (BytesAt w bb off l) := hB
  have HF : Hid (Fed B w w (.slice none 0 0) (feedS s (l.take 0)) (feedP s (l.take 0))) := ⟨World.ownsRow_nil _ _ _ _, fun _ => rfl, hs, World.grownBy.refl _ _, hs.lt⟩
  have HM : Hid ((feedP s l).length ≤ 4194304) := hmax
  have hBs := hs.lt
  clear hB hs hmax
  go_enter Tryz.func28, Tryz.ntmps28
  go_wp2
  go_loopw [5, 10] (fun v i wr => ∃ k : Nat, k ≤ l.length ∧ i = .int .i64 k ∧ Fed B w wr v (feedS s (l.take k)) (feedP s (l.take k))) (fun _ i _ => l.length - (intOf i).toNat)
  case atStart => exact ⟨0, Nat.zero_le _, rfl, HF.out⟩
  case round =>
    obtain ⟨k, hk, rfl, hF⟩ := hrel
    clear HF
    by_cases hlt : k < l.length
    · have hcell : wr.cell? ⟨bb, off + k, none⟩ = some (.int .u8 (l[k].toNat : Int)) := hF.grown.cell (HB.out k hlt) (by simpa using hne)
      have hst := Hid.out (p := feedS s (l.take (k + 1)) = (feedS s (l.take k)).step l[k]) (feed_step s l k hlt)
      have HST : Hid (feedS s (l.take (k + 1)) = (feedS s (l.take k)).step l[k]) := hst
      have hlen : (feedP s (l.take k)).length ≤ 4194304 := Nat.le_trans (feedP_take_len s l k) HM.out
      have H3 : Hid (feedP s (l.take (k + 1)) = if (feedS s (l.take k)).st = 3 then feedP s (l.take k) ++ [readPk (feedS s (l.take k)).raw (feedS s (l.take k)).sum l[k]] else feedP s (l.take k)) := by
        show _ = _
        split
        · exact feedP_step3 s l k hlt ‹_›
        · exact feedP_step0 s l k hlt ‹_›
      clear hst
      have HF : Hid (Fed B w wr u5 (feedS s (l.take k)) (feedP s (l.take k))) := hF
      generalize feedP s (l.take k) = ps at *
      generalize feedS s (l.take k) = t at *
      clear hF
      go_wp2_with fail
      refine (take_any B t _ HF.out.sc l[k]).mono ?_
      rintro e w1 ⟨rfl, hT⟩
      have HT : Hid (Fed B w w1 u5 (t.step l[k]) ps) := HF.out.turned hT
      clear hT HF hcell
      by_cases h3 : t.st = 3
      · have e1 : Hid (t.step l[k] = ⟨0, t.raw, t.sum⟩) := by show _ = _; simp [Sc.step, h3]
        rw [e1.out] at HT HST
        have H3' : Hid (feedP s (l.take (k + 1)) = ps ++ [readPk t.raw t.sum l[k]]) := by show _ = _; rw [H3.out, if_pos h3]
        rw [decide_eq_true h3]
        have hc1 := HT.out.sc.cnt
        have hc2 := HT.out.sc.csum
        have hrl : t.raw.length ≤ 200 := HT.out.sc.len
        have hsl := slice_raw B t.raw.length hrl
        clear h3 H3
        go_wp2_with fail
        go_region_held3 (fun w' => w'.cell? ⟨B, 201, none⟩ = some (.int .i64 (t.raw.length : Int)) ∧ w'.cell? ⟨B, 202, none⟩ = some (.int .u8 (t.sum.toNat : Int))) (go_keep) (first | (go_at_call 35; go_must (refine (readPacket_any B 1 t.raw t.sum l[k] _ hrl ?_ ?_).mono ?_; exact HT.out.sc.drew.bytes; exact HT.out.sc.lt; rintro e w2 ⟨rfl, hbel⟩; have k1 := cell_later hbel hc1; have k2 := cell_later hbel hc2; have HF2 : Hid (Fed B w w2 u5 ⟨0, t.raw, t.sum⟩ ps) := HT.out.below (below_undrew hbel); have hn := World.new_ne w2 ⟨B, 201, none⟩ k1; have hn2 := World.new_ne w2 ⟨B, 202, none⟩ k2; rw [pk_val])) | (refine step_append_lies _ rfl (.tmp 17) (.tmp 32) 102 rfl w.heap.size 105 i0 _ 3 32 und_pks hi hz0 hz1 hz2 rfl (by decide) u5 ps.length (pvals ps) rfl ?_ ⟨_, 0, none⟩ 1 1 (Pk.cells (readPk t.raw t.sum l[k])) rfl rfl ?_ ?_ (by decide) ?_ ?_ ?_ _ rfl ?_; go_must (exact HF2.out.own.alloc _; exact (three_new _ _ _); exact (three_one _); (unfold maxLen; omega); omega; (have := HF2.out.grown.size; simp; omega);  intro g' cap' w3 hown' hgrow hat hlt'; have HF3 : Hid (Fed B w w3 (.slice (some ⟨g', 0, none⟩) (ps.length + 1) cap') ⟨0, t.raw, t.sum⟩ (ps ++ [readPk t.raw t.sum l[k]])) := HF2.out.append hown' hgrow; have k3 := HF3.out.sc.cnt; have k4 := HF3.out.sc.csum; clear hown' hgrow hat hlt' HF2)))
        all_goals
          go_wp2
          go_roundw
          case rel => exact ⟨k + 1, by omega, by go_num, by rw [HST.out, H3'.out]; exact HF3.out⟩
          case measure => simp [intOf]; omega
      · have H3' : Hid (feedP s (l.take (k + 1)) = ps) := by show _ = _; rw [H3.out, if_neg h3]
        rw [decide_eq_false h3]
        clear h3 H3
        go_wp2
        go_roundw
        case rel => exact ⟨k + 1, by omega, by go_num, by rw [HST.out, H3'.out]; exact HT.out⟩
        case measure => simp [intOf]; omega
    · have hke : l.take k = l := List.take_of_length_le (by omega)
      rw [hke] at hF
      have HF : Hid (Fed B w wr u5 (feedS s l) (feedP s l)) := hF
      clear hF hke
      go_wp2
      go_ret
      exact ⟨_, rfl, HF.out⟩

end

/-
  A stub's scanner: the same walks, where it lies within the stub.
-/
section
variable {Q : Nat → Option Value}

/-- A scanner lies in block B. -/
structure ScS (Q : Nat → Option Value) (w : World) (B : Nat) (s : Sc) : Prop where
  st3 : s.st ≤ 3
  len : s.raw.length ≤ 200
  cst : w.cell? ⟨B, 65562, none⟩ = some (.int .u8 (s.st : Int))
  cnt : w.cell? ⟨B, 65763, none⟩ = some (.int .i64 (s.raw.length : Int))
  csum : w.cell? ⟨B, 65764, none⟩ = some (.int .u8 (s.sum.toNat : Int))
  bytes : BytesAt w B 65563 s.raw
  there : ∀ i, i < 200 → ∃ v, w.cell? ⟨B, 65563 + i, none⟩ = some v
  free : ∀ o, w.frozen? ⟨B, o, none⟩ = false
  keep : ∀ o, o < 65562 ∨ 65765 ≤ o → w.cell? ⟨B, o, none⟩ = Q o


theorem ScS.setSt {w : World} {B : Nat} {s : Sc} (h : ScS Q w B s) (n : Nat) (hn : n ≤ 3) : ScS Q (w.setCell ⟨B, 65562, none⟩ (.int .u8 (n : Int))) B ⟨n, s.raw, s.sum⟩ := by
  refine ⟨hn, h.len, World.cell?_setCell_same _ _ _ h.cst, ?_, ?_, ?_, ?_, ?_, ?_⟩
  · rw [World.cell?_setCell_other _ _ _ _ (addr_ne _ _ _ (by omega))]; exact h.cnt
  · rw [World.cell?_setCell_other _ _ _ _ (addr_ne _ _ _ (by omega))]; exact h.csum
  · intro i hi; rw [World.cell?_setCell_other _ _ _ _ (addr_ne _ _ _ (by omega))]; exact h.bytes i hi
  · intro i hi; rw [World.cell?_setCell_other _ _ _ _ (addr_ne _ _ _ (by omega))]; exact h.there i hi
  · intro o; rw [World.frozen?_setCell]; exact h.free o
  · intro o ho; rw [World.cell?_setCell_other _ _ _ _ (addr_ne _ _ _ (by omega))]; exact h.keep o ho

theorem ScS.clear {w : World} {B : Nat} {s : Sc} (h : ScS Q w B s) : ScS Q (w.setCell ⟨B, 65763, none⟩ (.int .i64 0)) B ⟨s.st, [], s.sum⟩ := by
  refine ⟨h.st3, by simp, ?_, ?_, ?_, ?_, ?_, ?_, ?_⟩
  · rw [World.cell?_setCell_other _ _ _ _ (addr_ne _ _ _ (by omega))]; exact h.cst
  · exact World.cell?_setCell_same _ _ _ h.cnt
  · rw [World.cell?_setCell_other _ _ _ _ (addr_ne _ _ _ (by omega))]; exact h.csum
  · intro i hi; simp at hi
  · intro i hi; rw [World.cell?_setCell_other _ _ _ _ (addr_ne _ _ _ (by omega))]; exact h.there i hi
  · intro o; rw [World.frozen?_setCell]; exact h.free o
  · intro o ho; rw [World.cell?_setCell_other _ _ _ _ (addr_ne _ _ _ (by omega))]; exact h.keep o ho

theorem ScS.setSum {w : World} {B : Nat} {s : Sc} (h : ScS Q w B s) (c : UInt8) : ScS Q (w.setCell ⟨B, 65764, none⟩ (.int .u8 (c.toNat : Int))) B ⟨s.st, s.raw, c⟩ := by
  refine ⟨h.st3, h.len, ?_, ?_, World.cell?_setCell_same _ _ _ h.csum, ?_, ?_, ?_, ?_⟩
  · rw [World.cell?_setCell_other _ _ _ _ (addr_ne _ _ _ (by omega))]; exact h.cst
  · rw [World.cell?_setCell_other _ _ _ _ (addr_ne _ _ _ (by omega))]; exact h.cnt
  · intro i hi; have := h.len; have hi' : i < s.raw.length := hi; rw [World.cell?_setCell_other _ _ _ _ (addr_ne _ _ _ (by omega))]; exact h.bytes i hi
  · intro i hi; rw [World.cell?_setCell_other _ _ _ _ (addr_ne _ _ _ (by omega))]; exact h.there i hi
  · intro o; rw [World.frozen?_setCell]; exact h.free o
  · intro o ho; rw [World.cell?_setCell_other _ _ _ _ (addr_ne _ _ _ (by omega))]; exact h.keep o ho

theorem ScS.push {w : World} {B : Nat} {s : Sc} (h : ScS Q w B s) (c : UInt8) (hl : s.raw.length < 200) :
    ScS Q ((w.setCell ⟨B, 65563 + s.raw.length, none⟩ (.int .u8 (c.toNat : Int))).setCell ⟨B, 65763, none⟩ (.int .i64 ((s.raw.length : Int) + 1))) B ⟨s.st, s.raw ++ [c], s.sum⟩ := by
  obtain ⟨v, hv⟩ := h.there _ hl
  refine ⟨h.st3, by simp; omega, ?_, ?_, ?_, ?_, ?_, ?_, ?_⟩
  · rw [World.cell?_setCell_other _ _ _ _ (addr_ne _ _ _ (by omega)), World.cell?_setCell_other _ _ _ _ (addr_ne _ _ _ (by omega))]; exact h.cst
  · have e : w.cell? ⟨B, 65763, none⟩ = some (.int .i64 (s.raw.length : Int)) := h.cnt
    rw [← World.cell?_setCell_other w ⟨B, 65563 + s.raw.length, none⟩ _ (.int .u8 (c.toNat : Int)) (addr_ne _ _ _ (by omega))] at e
    rw [World.cell?_setCell_same _ _ _ e]; simp
  · rw [World.cell?_setCell_other _ _ _ _ (addr_ne _ _ _ (by omega)), World.cell?_setCell_other _ _ _ _ (addr_ne _ _ _ (by omega))]; exact h.csum
  · intro i hi
    simp at hi
    rw [World.cell?_setCell_other _ _ _ _ (addr_ne _ _ _ (by omega))]
    by_cases e : i = s.raw.length
    · subst e; rw [World.cell?_setCell_same _ _ _ hv]; simp
    · rw [World.cell?_setCell_other _ _ _ _ (addr_ne _ _ _ (by omega)), h.bytes i (by omega)]; simp [List.getElem_append_left (show i < s.raw.length by omega)]
  · intro i hi
    rw [World.cell?_setCell_other _ _ _ _ (addr_ne _ _ _ (by omega))]
    by_cases e : i = s.raw.length
    · subst e; exact ⟨_, World.cell?_setCell_same _ _ _ hv⟩
    · rw [World.cell?_setCell_other _ _ _ _ (addr_ne _ _ _ (by omega))]; exact h.there i hi
  · intro o; rw [World.frozen?_setCell, World.frozen?_setCell]; exact h.free o
  · intro o ho; rw [World.cell?_setCell_other _ _ _ _ (addr_ne _ _ _ (by omega)), World.cell?_setCell_other _ _ _ _ (addr_ne _ _ _ (by omega))]; exact h.keep o ho

set_option maxRecDepth 100000 in
set_option maxHeartbeats 400000 in
theorem beginS_any (B : Nat) (s : Sc) (w : World) (h : ScS Q w B s) :
    Calls Tryz.prog 45 #[.pointer (some ⟨B, 65562, none⟩)] w fun e w' => e = .returned (.tuple #[]) ∧ w' = (w.setCell ⟨B, 65562, none⟩ (.int .u8 1)).setCell ⟨B, 65763, none⟩ (.int .i64 0) := by
  have h1 := h.cst
  have h2 := h.cnt
  have f1 := h.free 65562
  have f2 := h.free 65763
  clear h
  go_enter Tryz.func45, Tryz.ntmps45
  go_wp2
  go_end0
  exact ⟨rfl, rfl⟩

/-- A call that turns scanner B from s to s' and nothing else. -/
def TurnedS (Q : Nat → Option Value) (B : Nat) (s' : Sc) (w w' : World) : Prop := ScS Q w' B s' ∧ w.grownBy w' (some B) ∧ w'.heap.size = w.heap.size




theorem ScS.drew {w : World} {B : Nat} {s : Sc} (h : ScS Q w B s) : ScS Q w.drew B s :=
  ⟨h.st3, h.len, h.cst, h.cnt, h.csum, h.bytes, h.there, h.free, h.keep⟩


set_option maxRecDepth 100000 in
set_option maxHeartbeats 400000 in
theorem gatherS_start (B : Nat) (s : Sc) (w : World) (h : ScS Q w B s) :
    Calls Tryz.prog 46 #[.pointer (some ⟨B, 65562, none⟩), .int .u8 36] w fun e w' => e = .returned (.tuple #[]) ∧ w' = (w.setCell ⟨B, 65562, none⟩ (.int .u8 1)).setCell ⟨B, 65763, none⟩ (.int .i64 0) := by
  have H : Hid (ScS Q w B s) := h
  clear h
  go_enter Tryz.func46, Tryz.ntmps46
  go_wp2_with fail
  refine (beginS_any B s _ H.out).mono ?_
  rintro e w' ⟨rfl, rfl⟩
  go_wp2
  go_end0
  exact ⟨rfl, rfl⟩

set_option maxRecDepth 100000 in
set_option maxHeartbeats 400000 in
theorem gatherS_end (B : Nat) (s : Sc) (w : World) (h : ScS Q w B s) :
    Calls Tryz.prog 46 #[.pointer (some ⟨B, 65562, none⟩), .int .u8 35] w fun e w' => e = .returned (.tuple #[]) ∧ w' = w.setCell ⟨B, 65562, none⟩ (.int .u8 2) := by
  have h1 := h.cst
  have f1 := h.free 65562
  clear h
  go_enter Tryz.func46, Tryz.ntmps46
  go_wp2
  go_end0
  exact ⟨rfl, rfl⟩

set_option maxRecDepth 100000 in
set_option maxHeartbeats 400000 in
theorem gatherS_full (B : Nat) (s : Sc) (w : World) (h : ScS Q w B s) (c : UInt8) (h36 : ((c.toNat : Int) == 36) = false) (h35 : ((c.toNat : Int) == 35) = false) (hl : s.raw.length = 200) :
    Calls Tryz.prog 46 #[.pointer (some ⟨B, 65562, none⟩), .int .u8 c.toNat] w fun e w' => e = .returned (.tuple #[]) ∧ w' = w.setCell ⟨B, 65562, none⟩ (.int .u8 0) := by
  have h1 := h.cst
  have h2 := h.cnt
  rw [hl] at h2
  have f1 := h.free 65562
  clear h hl
  go_enter Tryz.func46, Tryz.ntmps46
  go_wp2
  go_end0
  exact ⟨rfl, rfl⟩

set_option maxRecDepth 100000 in
set_option maxHeartbeats 400000 in
theorem gatherS_push (B : Nat) (s : Sc) (w : World) (h : ScS Q w B s) (c : UInt8) (h36 : ((c.toNat : Int) == 36) = false) (h35 : ((c.toNat : Int) == 35) = false) (hl : s.raw.length < 200) :
    Calls Tryz.prog 46 #[.pointer (some ⟨B, 65562, none⟩), .int .u8 c.toNat] w fun e w' => e = .returned (.tuple #[]) ∧
      w' = ((w.setCell ⟨B, 65563 + s.raw.length, none⟩ (.int .u8 (c.toNat : Int))).setCell ⟨B, 65763, none⟩ (.int .i64 ((s.raw.length : Int) + 1))).drew := by
  have h2 := h.cnt
  obtain ⟨v, hv⟩ := h.there _ hl
  have f1 := h.free 65763
  have f2 := h.free (65563 + s.raw.length)
  have hn : ((s.raw.length : Int) == 200) = false := by rw [beq_eq_false_iff_ne]; omega
  generalize s.raw.length = n at *
  clear h
  go_enter Tryz.func46, Tryz.ntmps46
  go_wp2
  go_region
  go_wp2
  go_end0
  exact ⟨rfl, rfl⟩


theorem turnedS_begin {B : Nat} {s : Sc} {w : World} (h : ScS Q w B s) : TurnedS Q B ⟨1, [], s.sum⟩ w ((w.setCell ⟨B, 65562, none⟩ (.int .u8 1)).setCell ⟨B, 65763, none⟩ (.int .i64 0)) :=
  ⟨(h.setSt 1 (by omega)).clear, grown_trans (grown_set _ _ _ _) (grown_set _ _ _ _), by simp⟩

theorem gatherS_any (B : Nat) (s : Sc) (w : World) (h : ScS Q w B s) (hs : s.st = 1) (c : UInt8) :
    Calls Tryz.prog 46 #[.pointer (some ⟨B, 65562, none⟩), .int .u8 c.toNat] w fun e w' => e = .returned (.tuple #[]) ∧ TurnedS Q B (s.step c) w w' := by
  by_cases h36 : c = 36
  · subst h36
    refine (gatherS_start B s w h).mono ?_
    rintro e w' ⟨rfl, rfl⟩
    refine ⟨rfl, ?_⟩
    have e : s.step 36 = ⟨1, [], s.sum⟩ := by simp [Sc.step, hs]
    rw [e]; exact turnedS_begin h
  · by_cases h35 : c = 35
    · subst h35
      refine (gatherS_end B s w h).mono ?_
      rintro e w' ⟨rfl, rfl⟩
      have e : s.step 35 = ⟨2, s.raw, s.sum⟩ := by simp [Sc.step, hs]
      rw [e]; exact ⟨rfl, h.setSt 2 (by omega), grown_set _ _ _ _, by simp⟩
    · by_cases hl : s.raw.length = 200
      · refine (gatherS_full B s w h c (c_ne (n := 36) h36) (c_ne (n := 35) h35) hl).mono ?_
        rintro e w' ⟨rfl, rfl⟩
        have e : s.step c = ⟨0, s.raw, s.sum⟩ := by simp [Sc.step, hs, h36, h35, hl]
        rw [e]; exact ⟨rfl, h.setSt 0 (by omega), grown_set _ _ _ _, by simp⟩
      · have hlt : s.raw.length < 200 := by have := h.len; omega
        refine (gatherS_push B s w h c (c_ne (n := 36) h36) (c_ne (n := 35) h35) hlt).mono ?_
        rintro e w' ⟨rfl, rfl⟩
        have e : s.step c = ⟨s.st, s.raw ++ [c], s.sum⟩ := by simp [Sc.step, hs, h36, h35, hl]
        rw [e]
        exact ⟨rfl, (h.push c hlt).drew, grown_trans (grown_trans (grown_set _ _ _ _) (grown_set _ _ _ _)) (grown_drew _ _), by simp⟩

set_option maxRecDepth 100000 in
set_option maxHeartbeats 400000 in
theorem takeS_0 (B : Nat) (s : Sc) (w : World) (h : ScS Q w B s) (hs : s.st = 0) (c : UInt8) :
    Calls Tryz.prog 34 #[.pointer (some ⟨B, 65562, none⟩), .int .u8 c.toNat] w fun e w' => e = .returned (.bool false) ∧ TurnedS Q B (s.step c) w w' := by
  have h1 := h.cst
  rw [hs] at h1
  by_cases h36 : c = 36
  · subst h36
    have e : s.step 36 = ⟨1, [], s.sum⟩ := by simp [Sc.step, hs]
    rw [e]
    have H : Hid (ScS Q w B s) := h
    clear h hs e
    go_enter Tryz.func34, Tryz.ntmps34
    go_wp2_with fail
    refine (beginS_any B s _ H.out).mono ?_
    rintro e w' ⟨rfl, rfl⟩
    go_wp2
    go_ret
    exact ⟨rfl, turnedS_begin H.out⟩
  · have hc := c_ne (n := 36) h36
    have e : s.step c = s := by simp [Sc.step, hs, h36]
    rw [e]
    have H : Hid (ScS Q w B s) := h
    clear h hs e
    go_enter Tryz.func34, Tryz.ntmps34
    go_wp2
    go_ret
    exact ⟨rfl, H.out, World.grownBy.refl _ _, rfl⟩

set_option maxRecDepth 100000 in
set_option maxHeartbeats 400000 in
theorem takeS_1 (B : Nat) (s : Sc) (w : World) (h : ScS Q w B s) (hs : s.st = 1) (c : UInt8) :
    Calls Tryz.prog 34 #[.pointer (some ⟨B, 65562, none⟩), .int .u8 c.toNat] w fun e w' => e = .returned (.bool false) ∧ TurnedS Q B (s.step c) w w' := by
  have h1 := h.cst
  rw [hs] at h1
  have H : Hid (ScS Q w B s) := h
  have HS : Hid (s.st = 1) := hs
  clear h hs
  go_enter Tryz.func34, Tryz.ntmps34
  go_wp2_with fail
  refine (gatherS_any B s _ H.out HS.out c).mono ?_
  rintro e w' ⟨rfl, hT⟩
  have HT : Hid (TurnedS Q B (s.step c) w w') := hT
  clear hT
  go_wp2
  go_ret
  exact ⟨rfl, HT.out⟩

set_option maxRecDepth 100000 in
set_option maxHeartbeats 400000 in
theorem takeS_2 (B : Nat) (s : Sc) (w : World) (h : ScS Q w B s) (hs : s.st = 2) (c : UInt8) :
    Calls Tryz.prog 34 #[.pointer (some ⟨B, 65562, none⟩), .int .u8 c.toNat] w fun e w' => e = .returned (.bool false) ∧ TurnedS Q B (s.step c) w w' := by
  have h1 := h.cst
  rw [hs] at h1
  have h2 := h.csum
  have f1 := h.free 65562
  have f2 := h.free 65764
  have e : s.step c = ⟨3, s.raw, c⟩ := by simp [Sc.step, hs]
  rw [e]
  have H : Hid (ScS Q w B s) := h
  clear h hs e
  go_enter Tryz.func34, Tryz.ntmps34
  go_wp2
  go_ret
  exact ⟨rfl, (H.out.setSum c).setSt 3 (by omega), grown_trans (grown_set _ _ _ _) (grown_set _ _ _ _), by simp⟩

set_option maxRecDepth 100000 in
set_option maxHeartbeats 400000 in
theorem takeS_3 (B : Nat) (s : Sc) (w : World) (h : ScS Q w B s) (hs : s.st = 3) (c : UInt8) :
    Calls Tryz.prog 34 #[.pointer (some ⟨B, 65562, none⟩), .int .u8 c.toNat] w fun e w' => e = .returned (.bool true) ∧ TurnedS Q B (s.step c) w w' := by
  have h1 := h.cst
  rw [hs] at h1
  have f1 := h.free 65562
  have e : s.step c = ⟨0, s.raw, s.sum⟩ := by simp [Sc.step, hs]
  rw [e]
  have H : Hid (ScS Q w B s) := h
  clear h hs e
  go_enter Tryz.func34, Tryz.ntmps34
  go_wp2
  go_ret
  exact ⟨rfl, H.out.setSt 0 (by omega), grown_set _ _ _ _, by simp⟩

theorem takeS_any (B : Nat) (s : Sc) (w : World) (h : ScS Q w B s) (c : UInt8) :
    Calls Tryz.prog 34 #[.pointer (some ⟨B, 65562, none⟩), .int .u8 c.toNat] w fun e w' => e = .returned (.bool (decide (s.st = 3))) ∧ TurnedS Q B (s.step c) w w' := by
  have h3 := h.st3
  rcases (show s.st = 0 ∨ s.st = 1 ∨ s.st = 2 ∨ s.st = 3 from by omega) with e | e | e | e
  · rw [e]; exact takeS_0 B s w h e c
  · rw [e]; exact takeS_1 B s w h e c
  · rw [e]; exact takeS_2 B s w h e c
  · rw [e]; exact takeS_3 B s w h e c
end

/-
  A stub's scanner fed.
-/
section
variable {Q : Nat → Option Value}

theorem ScS.lt {w : World} {B : Nat} {s : Sc} (h : ScS Q w B s) : B < w.heap.size := World.block_lt_of_cell? w ⟨B, 65562, none⟩ h.cst


theorem sliceS_raw (B n : Nat) (h : n ≤ 200) (w : World) : Sem.run Tryz.prog (Instr.sliceAt 70 (.pointer (some ⟨B, 65563, none⟩)) none (some (.int .i64 (n : Int))) none) w = .ok (.slice (some ⟨B, 65563, none⟩) n 200) w := by
  have hal : Tryz.prog.arrayLen 70 = 200 := by kernel_rfl
  have hel : Tryz.prog.elem 70 = 5 := by kernel_rfl
  rw [run_sliceAt_array_h (P := Tryz.prog) w 70 ⟨B, 65563, none⟩ (by rw [hal, hel]; exact und_arr) .i64 (n : Int) (by omega) (by rw [hal]; omega), hal, hel]
  simp [sizeOf, go_sem, slicedAt, Addr.add]

/-- The packets' slice of a Feed, and the scanner. -/
structure FedS (Q : Nat → Option Value) (B : Nat) (w0 w : World) (v : Value) (s : Sc) (ps : List Pk) : Prop where
  own : w.ownsRow w0.heap.size 105 3 v ps.length (pvals ps)
  nil : ps = [] → v = .slice none 0 0
  sc : ScS Q w B s
  grown : w0.grownBy w (some B)
  lt : B < w0.heap.size

theorem FedS.turned {B : Nat} {w0 w w1 : World} {v : Value} {s s' : Sc} {ps : List Pk} (h : FedS Q B w0 w v s ps) (ht : TurnedS Q B s' w w1) : FedS Q B w0 w1 v s' ps := by
  refine ⟨h.own.kept ht.2.1 ?_, h.nil, ht.1, grown_trans h.grown ht.2.1, h.lt⟩
  cases hv : v.ownBlock with
  | none => exact .inl rfl
  | some g =>
    refine .inr ?_
    have h1 := (h.own.lt g hv).1
    have h2 := h.lt
    intro e; injection e with e; omega


theorem ScS.below {w w' : World} {B : Nat} {s : Sc} (h : ScS Q w B s) (hb : Below w.heap.size w w') : ScS Q w' B s := by
  have hc : ∀ o, w'.cell? ⟨B, o, none⟩ = w.cell? ⟨B, o, none⟩ := fun o => hb.cell (p := ⟨B, o, none⟩) h.lt
  have hf : ∀ o, w'.frozen? ⟨B, o, none⟩ = w.frozen? ⟨B, o, none⟩ := fun o => hb.frozen (p := ⟨B, o, none⟩) h.lt
  exact ⟨h.st3, h.len, by rw [hc]; exact h.cst, by rw [hc]; exact h.cnt, by rw [hc]; exact h.csum, fun i hi => by rw [hc]; exact h.bytes i hi, fun i hi => by rw [hc]; exact h.there i hi, fun o => by rw [hf]; exact h.free o, fun o ho => by rw [hc]; exact h.keep o ho⟩


theorem FedS.below {B : Nat} {w0 w w1 : World} {v : Value} {s : Sc} {ps : List Pk} (h : FedS Q B w0 w v s ps) (hb : Below w.heap.size w w1) : FedS Q B w0 w1 v s ps :=
  ⟨own_below h.own hb, h.nil, h.sc.below hb, grown_trans h.grown (grown_below hb _), h.lt⟩


theorem ScS.grown {w w' : World} {B : Nat} {s : Sc} {row : Option Nat} (h : ScS Q w B s) (hg : w.grownBy w' row) (hne : some B ≠ row) : ScS Q w' B s := by
  have hb := hg.block B h.lt hne
  have hc : ∀ o, w'.cell? ⟨B, o, none⟩ = w.cell? ⟨B, o, none⟩ := fun o => World.cell?_of_block (a := ⟨B, o, none⟩) hb
  have hf : ∀ o, w'.frozen? ⟨B, o, none⟩ = w.frozen? ⟨B, o, none⟩ := fun o => World.frozen?_of_block (a := ⟨B, o, none⟩) hb
  exact ⟨h.st3, h.len, by rw [hc]; exact h.cst, by rw [hc]; exact h.cnt, by rw [hc]; exact h.csum, fun i hi => by rw [hc]; exact h.bytes i hi, fun i hi => by rw [hc]; exact h.there i hi, fun o => by rw [hf]; exact h.free o, fun o ho => by rw [hc]; exact h.keep o ho⟩

theorem FedS.append {B : Nat} {w0 w w3 : World} {v : Value} {s : Sc} {ps : List Pk} {p : Pk} {o : Obj} {g cap : Nat} (h : FedS Q B w0 w v s ps)
    (hown : w3.ownsRow w0.heap.size 105 3 (.slice (some ⟨g, 0, none⟩) (ps.length + 1) cap) (ps.length + 1) (pvals ps ++ p.cells)) (hg : (w.alloc o).grownBy w3 v.ownBlock) :
    FedS Q B w0 w3 (.slice (some ⟨g, 0, none⟩) (ps.length + 1) cap) s (ps ++ [p]) := by
  have hlt := h.lt
  have hne : some B ≠ v.ownBlock := fun e => by have := (h.own.lt B e.symm).1; omega
  have hal : ScS Q (w.alloc o) B s := h.sc.grown (World.grownBy_alloc w o none) (by simp)
  refine ⟨by rw [pvals_snoc]; simpa using hown, by simp, hal.grown hg hne, ?_, h.lt⟩
  have hs := h.grown.size
  have hs3 := hg.size
  simp only [World.size_alloc] at hs3
  refine ⟨hg.os.trans h.grown.os, hg.tape.trans h.grown.tape, hg.output.trans h.grown.output, by omega, ?_⟩
  intro k hk hkB
  have hne' : some k ≠ v.ownBlock := fun e => by have := (h.own.lt k e.symm).1; omega
  exact (hg.block k (by simp; omega) hne').trans ((Below.heap_alloc w o k (by omega)).trans (h.grown.block k hk hkB))




set_option maxRecDepth 100000 in
set_option maxHeartbeats 2000000 in
theorem scannerFeedS_any (B bb off cap : Nat) (s : Sc) (l : List UInt8) (w : World) (hs : ScS Q w B s) (hl : l.length ≤ 140737488355328) (hB : BytesAt w bb off l) (hne : bb ≠ B)
    (hmax : (feedP s l).length ≤ 4194304) :
    Calls Tryz.prog 28 #[.pointer (some ⟨B, 65562, none⟩), .slice (some ⟨bb, off, none⟩) l.length cap] w fun e w' => ∃ v, e = .returned v ∧ FedS Q B w w' v (feedS s l) (feedP s l) := by
  obtain ⟨i0, hi, hz0, hz1, hz2⟩ := info_parts inf_pk
  have HB : Hid (BytesAt w bb off l) := hB
  have HF : Hid (FedS Q B w w (.slice none 0 0) (feedS s (l.take 0)) (feedP s (l.take 0))) := ⟨World.ownsRow_nil _ _ _ _, fun _ => rfl, hs, World.grownBy.refl _ _, hs.lt⟩
  have HM : Hid ((feedP s l).length ≤ 4194304) := hmax
  have hBs := hs.lt
  clear hB hs hmax
  go_enter Tryz.func28, Tryz.ntmps28
  go_wp2
  go_loopw [5, 10] (fun v i wr => ∃ k : Nat, k ≤ l.length ∧ i = .int .i64 k ∧ FedS Q B w wr v (feedS s (l.take k)) (feedP s (l.take k))) (fun _ i _ => l.length - (intOf i).toNat)
  case atStart => exact ⟨0, Nat.zero_le _, rfl, HF.out⟩
  case round =>
    obtain ⟨k, hk, rfl, hF⟩ := hrel
    clear HF
    by_cases hlt : k < l.length
    · have hcell : wr.cell? ⟨bb, off + k, none⟩ = some (.int .u8 (l[k].toNat : Int)) := hF.grown.cell (HB.out k hlt) (by simpa using hne)
      have hst := Hid.out (p := feedS s (l.take (k + 1)) = (feedS s (l.take k)).step l[k]) (feed_step s l k hlt)
      have HST : Hid (feedS s (l.take (k + 1)) = (feedS s (l.take k)).step l[k]) := hst
      have hlen : (feedP s (l.take k)).length ≤ 4194304 := Nat.le_trans (feedP_take_len s l k) HM.out
      have H3 : Hid (feedP s (l.take (k + 1)) = if (feedS s (l.take k)).st = 3 then feedP s (l.take k) ++ [readPk (feedS s (l.take k)).raw (feedS s (l.take k)).sum l[k]] else feedP s (l.take k)) := by
        show _ = _
        split
        · exact feedP_step3 s l k hlt ‹_›
        · exact feedP_step0 s l k hlt ‹_›
      clear hst
      have HF : Hid (FedS Q B w wr u5 (feedS s (l.take k)) (feedP s (l.take k))) := hF
      generalize feedP s (l.take k) = ps at *
      generalize feedS s (l.take k) = t at *
      clear hF
      go_wp2_with fail
      refine (takeS_any B t _ HF.out.sc l[k]).mono ?_
      rintro e w1 ⟨rfl, hT⟩
      have HT : Hid (FedS Q B w w1 u5 (t.step l[k]) ps) := HF.out.turned hT
      clear hT HF hcell
      by_cases h3 : t.st = 3
      · have e1 : Hid (t.step l[k] = ⟨0, t.raw, t.sum⟩) := by show _ = _; simp [Sc.step, h3]
        rw [e1.out] at HT HST
        have H3' : Hid (feedP s (l.take (k + 1)) = ps ++ [readPk t.raw t.sum l[k]]) := by show _ = _; rw [H3.out, if_pos h3]
        rw [decide_eq_true h3]
        have hc1 := HT.out.sc.cnt
        have hc2 := HT.out.sc.csum
        have hrl : t.raw.length ≤ 200 := HT.out.sc.len
        have hsl := sliceS_raw B t.raw.length hrl
        clear h3 H3
        go_wp2_with fail
        go_region_held3 (fun w' => w'.cell? ⟨B, 65763, none⟩ = some (.int .i64 (t.raw.length : Int)) ∧ w'.cell? ⟨B, 65764, none⟩ = some (.int .u8 (t.sum.toNat : Int))) (go_keep) (first | (go_at_call 35; go_must (refine (readPacket_any B 65563 t.raw t.sum l[k] _ hrl ?_ ?_).mono ?_; exact HT.out.sc.drew.bytes; exact HT.out.sc.lt; rintro e w2 ⟨rfl, hbel⟩; have k1 := cell_later hbel hc1; have k2 := cell_later hbel hc2; have HF2 : Hid (FedS Q B w w2 u5 ⟨0, t.raw, t.sum⟩ ps) := HT.out.below (below_undrew hbel); have hn := World.new_ne w2 ⟨B, 65763, none⟩ k1; have hn2 := World.new_ne w2 ⟨B, 65764, none⟩ k2; rw [pk_val])) | (refine step_append_lies _ rfl (.tmp 17) (.tmp 32) 102 rfl w.heap.size 105 i0 _ 3 32 und_pks hi hz0 hz1 hz2 rfl (by decide) u5 ps.length (pvals ps) rfl ?_ ⟨_, 0, none⟩ 1 1 (Pk.cells (readPk t.raw t.sum l[k])) rfl rfl ?_ ?_ (by decide) ?_ ?_ ?_ _ rfl ?_; go_must (exact HF2.out.own.alloc _; exact (three_new _ _ _); exact (three_one _); (unfold maxLen; omega); omega; (have := HF2.out.grown.size; simp; omega);  intro g' cap' w3 hown' hgrow hat hlt'; have HF3 : Hid (FedS Q B w w3 (.slice (some ⟨g', 0, none⟩) (ps.length + 1) cap') ⟨0, t.raw, t.sum⟩ (ps ++ [readPk t.raw t.sum l[k]])) := HF2.out.append hown' hgrow; have k3 := HF3.out.sc.cnt; have k4 := HF3.out.sc.csum; clear hown' hgrow hat hlt' HF2)))
        all_goals
          go_wp2
          go_roundw
          case rel => exact ⟨k + 1, by omega, by go_num, by rw [HST.out, H3'.out]; exact HF3.out⟩
          case measure => simp [intOf]; omega
      · have H3' : Hid (feedP s (l.take (k + 1)) = ps) := by show _ = _; rw [H3.out, if_neg h3]
        rw [decide_eq_false h3]
        clear h3 H3
        go_wp2
        go_roundw
        case rel => exact ⟨k + 1, by omega, by go_num, by rw [HST.out, H3'.out]; exact HT.out⟩
        case measure => simp [intOf]; omega
    · have hke : l.take k = l := List.take_of_length_le (by omega)
      rw [hke] at hF
      have HF : Hid (FedS Q B w wr u5 (feedS s l) (feedP s l)) := hF
      clear hF hke
      go_wp2
      go_ret
      exact ⟨_, rfl, HF.out⟩
end

/-
  Hex digits behind any bytes of one's own, be there none.
-/
section
/-- A slice of bytes that the call itself has made, or none. -/
def OwnV (base : Nat) (w0 w : World) (v : Value) (l : List UInt8) : Prop := w.ownsRow base 5 1 v l.length (vals l) ∧ Below base w0 w ∧ base ≤ w.heap.size

theorem OwnV.form {base : Nat} {w0 w : World} {v : Value} {l : List UInt8} (h : OwnV base w0 w v l) (hl : 0 < l.length) : Owns base w0 w v l := by
  obtain ⟨g, cap, e⟩ : ∃ g cap, v = .slice (some ⟨g, 0, none⟩) l.length cap := by
    rcases h.1.2 with ⟨-, e⟩ | ⟨g, cap, cur, e, -⟩
    · omega
    · exact ⟨g, cap, e⟩
  exact ⟨g, cap, e, h.1, h.2.1, h.2.2⟩
theorem Owns.v {base : Nat} {w0 w : World} {v : Value} {l : List UInt8} (h : Owns base w0 w v l) : OwnV base w0 w v l := by
  obtain ⟨g, cap, -, h1, h2, h3⟩ := h
  exact ⟨h1, h2, h3⟩
theorem ownV_more {base : Nat} {w0 w w1 : World} {v : Value} {l m : List UInt8} {o : Obj} {g' cap' : Nat} (hown : w.ownsRow base 5 1 v l.length (vals l)) (hb : Below base w0 w) (hs : base ≤ w.heap.size)
    (h : w1.ownsRow base 5 1 (.slice (some ⟨g', 0, none⟩) (l.length + m.length) cap') (l.length + m.length) (vals l ++ vals m)) (hg : (w.alloc o).grownBy w1 v.ownBlock) : OwnV base w0 w1 (.slice (some ⟨g', 0, none⟩) (l.length + m.length) cap') (l ++ m) :=
  (owns_more hown hb hs h hg).v

set_option maxRecDepth 100000 in
set_option maxHeartbeats 1000000 in
theorem appendHexV (base : Nat) (v : Value) (l : List UInt8) (n count : Nat) (w0 w : World) (hv : OwnV base w0 w v l) (hl : l.length ≤ 1000) (hn : n < 9223372036854775808) (hc : count ≤ 16) :
    Calls Tryz.prog 37 #[v, .int .i64 n, .int .i64 count] w fun e w' => ∃ v', e = .returned v' ∧ OwnV base w0 w' v' (l ++ hexN n count) := by
  obtain ⟨i0, hi, hz0, hz1, hz2⟩ := info_parts inf_u8
  have HO : Hid (OwnV base w0 w v l) := hv
  clear hv
  go_enter Tryz.func37, Tryz.ntmps37
  go_wp2
  go_loopw [0, 7] (fun t i wr => ∃ (k : Nat) (cur : List UInt8), k ≤ count ∧ i = .int .i64 ((k : Int) - 1) ∧ OwnV base w0 wr t cur ∧ cur ++ hexN n k = l ++ hexN n count ∧ cur.length ≤ 1016 - k) (fun _ i _ => (intOf i + 1).toNat)
  case atStart => exact ⟨count, l, Nat.le_refl _, by go_num, HO.out, rfl, by omega⟩
  case round =>
    obtain ⟨k, cur, hk, rfl, hO, hcur, hcl⟩ := hrel
    clear HO
    obtain ⟨hown, hbel, hsz⟩ := hO
    cases k with
    | zero =>
      have HF : Hid (OwnV base w0 wr u0 (l ++ hexN n count)) := by
        have e : cur = l ++ hexN n count := by rw [← hcur]; simp [hexN]
        subst e; exact ⟨hown, hbel, hsz⟩
      clear hown hbel hsz hcur
      go_wp2
      go_ret
      exact ⟨_, rfl, HF.out⟩
    | succ j =>
      have hcur' : Hid ((cur ++ [hexd (n / 2 ^ (4 * j) % 16)]) ++ hexN n j = l ++ hexN n count) := by show _ = _; rw [← hcur]; simp [hexN]
      clear hcur
      have ej : ((j + 1 : Nat) : Int) - 1 = (j : Int) := by omega
      rw [ej]
      have HD : Hid (bits .and .i64 ((n : Int) / 2 ^ (4 * j)) 15 = ((n / 2 ^ (4 * j) % 16 : Nat) : Int)) := dig_n n j hn
      have a0 : 0 ≤ bits .and .i64 ((n : Int) / 2 ^ (4 * j)) 15 := by rw [HD.out]; omega
      have a1 : bits .and .i64 ((n : Int) / 2 ^ (4 * j)) 15 < 16 := by rw [HD.out]; omega
      go_wp2_with (first | (at_builtin; go_must (refine wpList_append_lies _ rfl (.tmp 14) (.tmp 21) 22 rfl base 5 i0 (.int .u8 0) 1 1 und_bytes hi hz0 hz1 hz2 rfl (by decide) u0 cur.length (vals cur) rfl (by exact (hown.alloc _)) ⟨wr.heap.size, 0, none⟩ 1 1 [.int .u8 (hexd (n / 2 ^ (4 * j) % 16)).toNat] rfl rfl (one_new2 _ _ _ (dig_v _ _ HD.out _) _) (one_one _) (by decide) (by unfold maxLen; omega) (by omega) (by simp; omega) _ rfl ?_; intro g' cap' w1 hown' hgrow hat hlt')))
      have HO := ownV_more (m := [hexd (n / 2 ^ (4 * j) % 16)]) hown hbel hsz hown' hgrow
      clear hown hbel hsz hown' hgrow hat hlt'
      go_roundw
      case rel => exact ⟨j, cur ++ [hexd (n / 2 ^ (4 * j) % 16)], by omega, by go_num, HO, hcur'.out, by simp; omega⟩
      case measure => simp [intOf]
end

end Go.Proofs.YtcgjliflnnklnabGreat
