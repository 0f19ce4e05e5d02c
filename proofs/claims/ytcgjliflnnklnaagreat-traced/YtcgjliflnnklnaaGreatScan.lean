/-
  The scanner's leaf walks: sum, begin, gather, take.
-/
import Derived.Test.YtcgjliflnnklnaaGreatLeafA
namespace Go.Proofs.YtcgjliflnnklnaaGreat
open Go.RowKit

def sum8 (l : List UInt8) : UInt8 := l.foldl (· + ·) 0

theorem sum8_snoc (l : List UInt8) (c : UInt8) : sum8 (l ++ [c]) = sum8 l + c := by simp [sum8]

theorem add_u8 (a b : UInt8) : ((a.toNat : Int) + (b.toNat : Int)) % 256 = ((a + b).toNat : Int) := by
  rw [UInt8.toNat_add]; omega

/-- The bytes l stand in the world from an address on. -/
def BytesAt (w : World) (b off : Nat) (l : List UInt8) : Prop := ∀ i, (h : i < l.length) → w.cell? ⟨b, off + i, none⟩ = some (.int .u8 (l[i].toNat : Int))

theorem take_snoc8 (l : List UInt8) (k : Nat) (h : k < l.length) : l.take (k + 1) = l.take k ++ [l[k]] := by
  rw [List.take_succ_eq_append_getElem h]

set_option maxRecDepth 100000 in
set_option maxHeartbeats 400000 in
theorem sum_any (b off cap : Nat) (l : List UInt8) (w : World) (hl : l.length ≤ 140737488355328) (h : BytesAt w b off l) :
    Calls Tryz.prog 86 #[.slice (some ⟨b, off, none⟩) l.length cap] w fun e w' => e = .returned (.int .u8 (sum8 l).toNat) ∧ w' = w := by
  have H := h
  clear h
  go_enter Tryz.func86, Tryz.ntmps86
  go_wp2
  go_loop [3, 8] (fun t i => ∃ k : Nat, k ≤ l.length ∧ i = .int .i64 k ∧ t = .int .u8 (sum8 (l.take k)).toNat) (fun _ i => l.length - (intOf i).toNat)
  case atStart => exact ⟨0, Nat.zero_le _, rfl, rfl⟩
  case round =>
    obtain ⟨k, hk, rfl, rfl⟩ := hrel
    by_cases hlt : k < l.length
    · have hcell := H k hlt
      have hs : Hid (sum8 (l.take (k + 1)) = sum8 (l.take k) + l[k]) := by rw [take_snoc8 l k hlt]; exact sum8_snoc _ _
      have b1 : ((sum8 (l.take k)).toNat : Int) < 256 := by have := (sum8 (l.take k)).toNat_lt; omega
      have b2 : (l[k].toNat : Int) < 256 := by have := l[k].toNat_lt; omega
      go_wp2
      go_round
      case rel => exact ⟨k + 1, by omega, by go_num, by rw [hs.out, ← add_u8]⟩
      case measure => simp [intOf]; omega
    · go_wp2
      go_ret
      exact ⟨ret_int (by rw [List.take_of_length_le (by omega)]), rfl⟩

structure Sc where
  st : Nat
  raw : List UInt8
  sum : UInt8

def Sc.step (s : Sc) (c : UInt8) : Sc :=
  if s.st = 0 then (if c = 36 then ⟨1, [], s.sum⟩ else s)
  else if s.st = 1 then (if c = 36 then ⟨1, [], s.sum⟩ else if c = 35 then ⟨2, s.raw, s.sum⟩ else if s.raw.length = 200 then ⟨0, s.raw, s.sum⟩ else ⟨1, s.raw ++ [c], s.sum⟩)
  else if s.st = 2 then ⟨3, s.raw, c⟩
  else ⟨0, s.raw, s.sum⟩

/-- A scanner lies in block B. -/
structure ScAt (w : World) (B : Nat) (s : Sc) : Prop where
  st3 : s.st ≤ 3
  len : s.raw.length ≤ 200
  cst : w.cell? ⟨B, 0, none⟩ = some (.int .u8 (s.st : Int))
  cnt : w.cell? ⟨B, 201, none⟩ = some (.int .i64 (s.raw.length : Int))
  csum : w.cell? ⟨B, 202, none⟩ = some (.int .u8 (s.sum.toNat : Int))
  bytes : BytesAt w B 1 s.raw
  there : ∀ i, i < 200 → ∃ v, w.cell? ⟨B, 1 + i, none⟩ = some v
  free : ∀ o, w.frozen? ⟨B, o, none⟩ = false

theorem addr_ne (B a b : Nat) (h : a ≠ b) : (⟨B, a, none⟩ : Addr) ≠ ⟨B, b, none⟩ := by
  intro e; injection e with e1 e2; exact h e2

theorem ScAt.setSt {w : World} {B : Nat} {s : Sc} (h : ScAt w B s) (n : Nat) (hn : n ≤ 3) : ScAt (w.setCell ⟨B, 0, none⟩ (.int .u8 (n : Int))) B ⟨n, s.raw, s.sum⟩ := by
  refine ⟨hn, h.len, World.cell?_setCell_same _ _ _ h.cst, ?_, ?_, ?_, ?_, ?_⟩
  · rw [World.cell?_setCell_other _ _ _ _ (addr_ne _ _ _ (by omega))]; exact h.cnt
  · rw [World.cell?_setCell_other _ _ _ _ (addr_ne _ _ _ (by omega))]; exact h.csum
  · intro i hi; rw [World.cell?_setCell_other _ _ _ _ (addr_ne _ _ _ (by omega))]; exact h.bytes i hi
  · intro i hi; rw [World.cell?_setCell_other _ _ _ _ (addr_ne _ _ _ (by omega))]; exact h.there i hi
  · intro o; rw [World.frozen?_setCell]; exact h.free o

theorem ScAt.clear {w : World} {B : Nat} {s : Sc} (h : ScAt w B s) : ScAt (w.setCell ⟨B, 201, none⟩ (.int .i64 0)) B ⟨s.st, [], s.sum⟩ := by
  refine ⟨h.st3, by simp, ?_, ?_, ?_, ?_, ?_, ?_⟩
  · rw [World.cell?_setCell_other _ _ _ _ (addr_ne _ _ _ (by omega))]; exact h.cst
  · exact World.cell?_setCell_same _ _ _ h.cnt
  · rw [World.cell?_setCell_other _ _ _ _ (addr_ne _ _ _ (by omega))]; exact h.csum
  · intro i hi; simp at hi
  · intro i hi; rw [World.cell?_setCell_other _ _ _ _ (addr_ne _ _ _ (by omega))]; exact h.there i hi
  · intro o; rw [World.frozen?_setCell]; exact h.free o

theorem ScAt.setSum {w : World} {B : Nat} {s : Sc} (h : ScAt w B s) (c : UInt8) : ScAt (w.setCell ⟨B, 202, none⟩ (.int .u8 (c.toNat : Int))) B ⟨s.st, s.raw, c⟩ := by
  refine ⟨h.st3, h.len, ?_, ?_, World.cell?_setCell_same _ _ _ h.csum, ?_, ?_, ?_⟩
  · rw [World.cell?_setCell_other _ _ _ _ (addr_ne _ _ _ (by omega))]; exact h.cst
  · rw [World.cell?_setCell_other _ _ _ _ (addr_ne _ _ _ (by omega))]; exact h.cnt
  · intro i hi; have := h.len; have hi' : i < s.raw.length := hi; rw [World.cell?_setCell_other _ _ _ _ (addr_ne _ _ _ (by omega))]; exact h.bytes i hi
  · intro i hi; rw [World.cell?_setCell_other _ _ _ _ (addr_ne _ _ _ (by omega))]; exact h.there i hi
  · intro o; rw [World.frozen?_setCell]; exact h.free o

theorem ScAt.push {w : World} {B : Nat} {s : Sc} (h : ScAt w B s) (c : UInt8) (hl : s.raw.length < 200) :
    ScAt ((w.setCell ⟨B, 1 + s.raw.length, none⟩ (.int .u8 (c.toNat : Int))).setCell ⟨B, 201, none⟩ (.int .i64 ((s.raw.length : Int) + 1))) B ⟨s.st, s.raw ++ [c], s.sum⟩ := by
  obtain ⟨v, hv⟩ := h.there _ hl
  refine ⟨h.st3, by simp; omega, ?_, ?_, ?_, ?_, ?_, ?_⟩
  · rw [World.cell?_setCell_other _ _ _ _ (addr_ne _ _ _ (by omega)), World.cell?_setCell_other _ _ _ _ (addr_ne _ _ _ (by omega))]; exact h.cst
  · have e : w.cell? ⟨B, 201, none⟩ = some (.int .i64 (s.raw.length : Int)) := h.cnt
    rw [← World.cell?_setCell_other w ⟨B, 1 + s.raw.length, none⟩ _ (.int .u8 (c.toNat : Int)) (addr_ne _ _ _ (by omega))] at e
    rw [World.cell?_setCell_same _ _ _ e]; simp
  · rw [World.cell?_setCell_other _ _ _ _ (addr_ne _ _ _ (by omega)), World.cell?_setCell_other _ _ _ _ (addr_ne _ _ _ (by omega))]; exact h.csum
  · intro i hi
    simp at hi
    rw [World.cell?_setCell_other _ _ _ _ (addr_ne _ _ _ (by omega))]
    by_cases e : i = s.raw.length
    · subst e; rw [World.cell?_setCell_same _ _ _ hv]; simp
    · rw [World.cell?_setCell_other _ _ _ _ (addr_ne _ _ _ (by omega)), h.bytes i (by omega)]; simp [List.getElem_append_left (show i < s.raw.length by omega)]
  · intro i hi
    rw [World.cell?_setCell_other _ _ _ _ (addr_ne _ _ _ (by omega))]
    by_cases e : i = s.raw.length
    · subst e; exact ⟨_, World.cell?_setCell_same _ _ _ hv⟩
    · rw [World.cell?_setCell_other _ _ _ _ (addr_ne _ _ _ (by omega))]; exact h.there i hi
  · intro o; rw [World.frozen?_setCell, World.frozen?_setCell]; exact h.free o

set_option maxRecDepth 100000 in
set_option maxHeartbeats 400000 in
theorem begin_any (B : Nat) (s : Sc) (w : World) (h : ScAt w B s) :
    Calls Tryz.prog 133 #[.pointer (some ⟨B, 0, none⟩)] w fun e w' => e = .returned (.tuple #[]) ∧ w' = (w.setCell ⟨B, 0, none⟩ (.int .u8 1)).setCell ⟨B, 201, none⟩ (.int .i64 0) := by
  have h1 := h.cst
  have h2 := h.cnt
  have f1 := h.free 0
  have f2 := h.free 201
  clear h
  go_enter Tryz.func133, Tryz.ntmps133
  go_wp2
  go_end0
  exact ⟨rfl, rfl⟩

/-- A call that turns scanner B from s to s' and nothing else. -/
def Turned (B : Nat) (s' : Sc) (w w' : World) : Prop := ScAt w' B s' ∧ w.grownBy w' (some B) ∧ w'.heap.size = w.heap.size

theorem grown_set (w : World) (B o : Nat) (v : Value) : w.grownBy (w.setCell ⟨B, o, none⟩ v) (some B) :=
  ⟨rfl, rfl, rfl, by simp, fun k _ hne => Below.heap_setCell _ _ _ _ (fun e => hne (by rw [e]))⟩

theorem grown_trans {a b c : World} {row : Option Nat} (h : a.grownBy b row) (k : b.grownBy c row) : a.grownBy c row :=
  ⟨k.os.trans h.os, k.tape.trans h.tape, k.output.trans h.output, Nat.le_trans h.size k.size, fun i hi hne => (k.block i (Nat.lt_of_lt_of_le hi h.size) hne).trans (h.block i hi hne)⟩

theorem grown_drew (w : World) (row : Option Nat) : w.grownBy w.drew row := ⟨rfl, rfl, rfl, Nat.le_refl _, fun _ _ _ => rfl⟩

theorem ScAt.drew {w : World} {B : Nat} {s : Sc} (h : ScAt w B s) : ScAt w.drew B s :=
  ⟨h.st3, h.len, h.cst, h.cnt, h.csum, h.bytes, h.there, h.free⟩

theorem c_ne {c : UInt8} {n : Nat} (h : c ≠ UInt8.ofNat n) : ((c.toNat : Int) == (n : Int)) = false := by
  rw [beq_eq_false_iff_ne]; intro e; apply h
  have : c.toNat = n := by omega
  rw [← this]; simp

set_option maxRecDepth 100000 in
set_option maxHeartbeats 400000 in
theorem gather_start (B : Nat) (s : Sc) (w : World) (h : ScAt w B s) :
    Calls Tryz.prog 134 #[.pointer (some ⟨B, 0, none⟩), .int .u8 36] w fun e w' => e = .returned (.tuple #[]) ∧ w' = (w.setCell ⟨B, 0, none⟩ (.int .u8 1)).setCell ⟨B, 201, none⟩ (.int .i64 0) := by
  have H : Hid (ScAt w B s) := h
  clear h
  go_enter Tryz.func134, Tryz.ntmps134
  go_wp2_with fail
  refine (begin_any B s _ H.out).mono ?_
  rintro e w' ⟨rfl, rfl⟩
  go_wp2
  go_end0
  exact ⟨rfl, rfl⟩

set_option maxRecDepth 100000 in
set_option maxHeartbeats 400000 in
theorem gather_end (B : Nat) (s : Sc) (w : World) (h : ScAt w B s) :
    Calls Tryz.prog 134 #[.pointer (some ⟨B, 0, none⟩), .int .u8 35] w fun e w' => e = .returned (.tuple #[]) ∧ w' = w.setCell ⟨B, 0, none⟩ (.int .u8 2) := by
  have h1 := h.cst
  have f1 := h.free 0
  clear h
  go_enter Tryz.func134, Tryz.ntmps134
  go_wp2
  go_end0
  exact ⟨rfl, rfl⟩

set_option maxRecDepth 100000 in
set_option maxHeartbeats 400000 in
theorem gather_full (B : Nat) (s : Sc) (w : World) (h : ScAt w B s) (c : UInt8) (h36 : ((c.toNat : Int) == 36) = false) (h35 : ((c.toNat : Int) == 35) = false) (hl : s.raw.length = 200) :
    Calls Tryz.prog 134 #[.pointer (some ⟨B, 0, none⟩), .int .u8 c.toNat] w fun e w' => e = .returned (.tuple #[]) ∧ w' = w.setCell ⟨B, 0, none⟩ (.int .u8 0) := by
  have h1 := h.cst
  have h2 := h.cnt
  rw [hl] at h2
  have f1 := h.free 0
  clear h hl
  go_enter Tryz.func134, Tryz.ntmps134
  go_wp2
  go_end0
  exact ⟨rfl, rfl⟩

set_option maxRecDepth 100000 in
set_option maxHeartbeats 400000 in
theorem gather_push (B : Nat) (s : Sc) (w : World) (h : ScAt w B s) (c : UInt8) (h36 : ((c.toNat : Int) == 36) = false) (h35 : ((c.toNat : Int) == 35) = false) (hl : s.raw.length < 200) :
    Calls Tryz.prog 134 #[.pointer (some ⟨B, 0, none⟩), .int .u8 c.toNat] w fun e w' => e = .returned (.tuple #[]) ∧
      w' = ((w.setCell ⟨B, 1 + s.raw.length, none⟩ (.int .u8 (c.toNat : Int))).setCell ⟨B, 201, none⟩ (.int .i64 ((s.raw.length : Int) + 1))).drew := by
  have h2 := h.cnt
  obtain ⟨v, hv⟩ := h.there _ hl
  have f1 := h.free 201
  have f2 := h.free (1 + s.raw.length)
  have hn : ((s.raw.length : Int) == 200) = false := by rw [beq_eq_false_iff_ne]; omega
  generalize s.raw.length = n at *
  clear h
  go_enter Tryz.func134, Tryz.ntmps134
  go_wp2
  go_region
  go_wp2
  go_end0
  exact ⟨rfl, rfl⟩

theorem c_eq {c : UInt8} {n : Nat} (h : c = UInt8.ofNat n) (hn : n < 256) : (c.toNat : Int) = (n : Int) := by
  subst h; simp; omega

theorem turned_begin {B : Nat} {s : Sc} {w : World} (h : ScAt w B s) : Turned B ⟨1, [], s.sum⟩ w ((w.setCell ⟨B, 0, none⟩ (.int .u8 1)).setCell ⟨B, 201, none⟩ (.int .i64 0)) :=
  ⟨(h.setSt 1 (by omega)).clear, grown_trans (grown_set _ _ _ _) (grown_set _ _ _ _), by simp⟩

theorem gather_any (B : Nat) (s : Sc) (w : World) (h : ScAt w B s) (hs : s.st = 1) (c : UInt8) :
    Calls Tryz.prog 134 #[.pointer (some ⟨B, 0, none⟩), .int .u8 c.toNat] w fun e w' => e = .returned (.tuple #[]) ∧ Turned B (s.step c) w w' := by
  by_cases h36 : c = 36
  · subst h36
    refine (gather_start B s w h).mono ?_
    rintro e w' ⟨rfl, rfl⟩
    refine ⟨rfl, ?_⟩
    have e : s.step 36 = ⟨1, [], s.sum⟩ := by simp [Sc.step, hs]
    rw [e]; exact turned_begin h
  · by_cases h35 : c = 35
    · subst h35
      refine (gather_end B s w h).mono ?_
      rintro e w' ⟨rfl, rfl⟩
      have e : s.step 35 = ⟨2, s.raw, s.sum⟩ := by simp [Sc.step, hs]
      rw [e]; exact ⟨rfl, h.setSt 2 (by omega), grown_set _ _ _ _, by simp⟩
    · by_cases hl : s.raw.length = 200
      · refine (gather_full B s w h c (c_ne (n := 36) h36) (c_ne (n := 35) h35) hl).mono ?_
        rintro e w' ⟨rfl, rfl⟩
        have e : s.step c = ⟨0, s.raw, s.sum⟩ := by simp [Sc.step, hs, h36, h35, hl]
        rw [e]; exact ⟨rfl, h.setSt 0 (by omega), grown_set _ _ _ _, by simp⟩
      · have hlt : s.raw.length < 200 := by have := h.len; omega
        refine (gather_push B s w h c (c_ne (n := 36) h36) (c_ne (n := 35) h35) hlt).mono ?_
        rintro e w' ⟨rfl, rfl⟩
        have e : s.step c = ⟨s.st, s.raw ++ [c], s.sum⟩ := by simp [Sc.step, hs, h36, h35, hl]
        rw [e]
        exact ⟨rfl, (h.push c hlt).drew, grown_trans (grown_trans (grown_set _ _ _ _) (grown_set _ _ _ _)) (grown_drew _ _), by simp⟩

set_option maxRecDepth 100000 in
set_option maxHeartbeats 400000 in
theorem take_0 (B : Nat) (s : Sc) (w : World) (h : ScAt w B s) (hs : s.st = 0) (c : UInt8) :
    Calls Tryz.prog 87 #[.pointer (some ⟨B, 0, none⟩), .int .u8 c.toNat] w fun e w' => e = .returned (.bool false) ∧ Turned B (s.step c) w w' := by
  have h1 := h.cst
  rw [hs] at h1
  by_cases h36 : c = 36
  · subst h36
    have e : s.step 36 = ⟨1, [], s.sum⟩ := by simp [Sc.step, hs]
    rw [e]
    have H : Hid (ScAt w B s) := h
    clear h hs e
    go_enter Tryz.func87, Tryz.ntmps87
    go_wp2_with fail
    refine (begin_any B s _ H.out).mono ?_
    rintro e w' ⟨rfl, rfl⟩
    go_wp2
    go_ret
    exact ⟨rfl, turned_begin H.out⟩
  · have hc := c_ne (n := 36) h36
    have e : s.step c = s := by simp [Sc.step, hs, h36]
    rw [e]
    have H : Hid (ScAt w B s) := h
    clear h hs e
    go_enter Tryz.func87, Tryz.ntmps87
    go_wp2
    go_ret
    exact ⟨rfl, H.out, World.grownBy.refl _ _, rfl⟩

set_option maxRecDepth 100000 in
set_option maxHeartbeats 400000 in
theorem take_1 (B : Nat) (s : Sc) (w : World) (h : ScAt w B s) (hs : s.st = 1) (c : UInt8) :
    Calls Tryz.prog 87 #[.pointer (some ⟨B, 0, none⟩), .int .u8 c.toNat] w fun e w' => e = .returned (.bool false) ∧ Turned B (s.step c) w w' := by
  have h1 := h.cst
  rw [hs] at h1
  have H : Hid (ScAt w B s) := h
  have HS : Hid (s.st = 1) := hs
  clear h hs
  go_enter Tryz.func87, Tryz.ntmps87
  go_wp2_with fail
  refine (gather_any B s _ H.out HS.out c).mono ?_
  rintro e w' ⟨rfl, hT⟩
  have HT : Hid (Turned B (s.step c) w w') := hT
  clear hT
  go_wp2
  go_ret
  exact ⟨rfl, HT.out⟩

set_option maxRecDepth 100000 in
set_option maxHeartbeats 400000 in
theorem take_2 (B : Nat) (s : Sc) (w : World) (h : ScAt w B s) (hs : s.st = 2) (c : UInt8) :
    Calls Tryz.prog 87 #[.pointer (some ⟨B, 0, none⟩), .int .u8 c.toNat] w fun e w' => e = .returned (.bool false) ∧ Turned B (s.step c) w w' := by
  have h1 := h.cst
  rw [hs] at h1
  have h2 := h.csum
  have f1 := h.free 0
  have f2 := h.free 202
  have e : s.step c = ⟨3, s.raw, c⟩ := by simp [Sc.step, hs]
  rw [e]
  have H : Hid (ScAt w B s) := h
  clear h hs e
  go_enter Tryz.func87, Tryz.ntmps87
  go_wp2
  go_ret
  exact ⟨rfl, (H.out.setSum c).setSt 3 (by omega), grown_trans (grown_set _ _ _ _) (grown_set _ _ _ _), by simp⟩

set_option maxRecDepth 100000 in
set_option maxHeartbeats 400000 in
theorem take_3 (B : Nat) (s : Sc) (w : World) (h : ScAt w B s) (hs : s.st = 3) (c : UInt8) :
    Calls Tryz.prog 87 #[.pointer (some ⟨B, 0, none⟩), .int .u8 c.toNat] w fun e w' => e = .returned (.bool true) ∧ Turned B (s.step c) w w' := by
  have h1 := h.cst
  rw [hs] at h1
  have f1 := h.free 0
  have e : s.step c = ⟨0, s.raw, s.sum⟩ := by simp [Sc.step, hs]
  rw [e]
  have H : Hid (ScAt w B s) := h
  clear h hs e
  go_enter Tryz.func87, Tryz.ntmps87
  go_wp2
  go_ret
  exact ⟨rfl, H.out.setSt 0 (by omega), grown_set _ _ _ _, by simp⟩

theorem take_any (B : Nat) (s : Sc) (w : World) (h : ScAt w B s) (c : UInt8) :
    Calls Tryz.prog 87 #[.pointer (some ⟨B, 0, none⟩), .int .u8 c.toNat] w fun e w' => e = .returned (.bool (decide (s.st = 3))) ∧ Turned B (s.step c) w w' := by
  have h3 := h.st3
  rcases (show s.st = 0 ∨ s.st = 1 ∨ s.st = 2 ∨ s.st = 3 from by omega) with e | e | e | e
  · rw [e]; exact take_0 B s w h e c
  · rw [e]; exact take_1 B s w h e c
  · rw [e]; exact take_2 B s w h e c
  · rw [e]; exact take_3 B s w h e c

end Go.Proofs.YtcgjliflnnklnaaGreat
