/-
  Joined texts.
-/
import Derived.WalkKit
import Derived.WalkSpells
import Derived.WalkLawsBesides
import Derived.Laws.BitsAllLaws
import Derived.Deep.AppendLies
import Derived.Deep.RegionLaw
import Derived.Deep.RegionHeld3
import Derived.Deep.QuietTactic
import Derived.BigQuiet
import Derived.ArgAppend
import Derived.Lib.Strings
import Derived.Lib.SliceRun
import Derived.Test.YtcgjliflnnklnaaGreatProg
namespace Go.Proofs.YtcgjliflnnklnaaGreat
open Go.RowKit

/-
  Joined texts.
-/
section
set_option maxRecDepth 100000
set_option maxHeartbeats 2000000

/-
  Leaf walks of the wire package: hexValue, hexByte, pick.
-/
section
def hv (c : UInt8) : UInt8 × Bool :=
  if 48 ≤ c ∧ c ≤ 57 then (c - 48, true) else if 97 ≤ c ∧ c ≤ 102 then (c - 97 + 10, true) else if 65 ≤ c ∧ c ≤ 70 then (c - 65 + 10, true) else (0, false)

theorem ret_int {k : IntKind} {a b : Int} (h : a = b) : Ending.returned (.int k a) = .returned (.int k b) := by rw [h]

theorem pick_lt (c n : Int) (h : 1 ≤ n) (hc : c < 0) : 0 ≤ -(c + 1).tmod n ∧ -(c + 1).tmod n < n := by
  rw [← Int.neg_tmod, Int.tmod_eq_emod_of_nonneg (by omega)]
  exact ⟨Int.emod_nonneg _ (by omega), Int.emod_lt_of_pos _ (by omega)⟩

def hb (h l : UInt8) : UInt8 × Bool := if (hv h).2 = true ∧ (hv l).2 = true then ((hv h).1 <<< 4 ||| (hv l).1, true) else (0, false)

end

/-
  The scanner's leaf walks: sum, begin, gather, take.
-/
section
/-- The bytes l stand in the world from an address on. -/
def BytesAt (w : World) (b off : Nat) (l : List UInt8) : Prop := ∀ i, (h : i < l.length) → w.cell? ⟨b, off + i, none⟩ = some (.int .u8 (l[i].toNat : Int))

theorem take_snoc8 (l : List UInt8) (k : Nat) (h : k < l.length) : l.take (k + 1) = l.take k ++ [l[k]] := by
  rw [List.take_succ_eq_append_getElem h]

structure Sc where
  st : Nat
  raw : List UInt8
  sum : UInt8

def Sc.step (s : Sc) (c : UInt8) : Sc :=
  if s.st = 0 then (if c = 36 then ⟨1, [], s.sum⟩ else s)
  else if s.st = 1 then (if c = 36 then ⟨1, [], s.sum⟩ else if c = 35 then ⟨2, s.raw, s.sum⟩ else if s.raw.length = 200 then ⟨0, s.raw, s.sum⟩ else ⟨1, s.raw ++ [c], s.sum⟩)
  else if s.st = 2 then ⟨3, s.raw, c⟩
  else ⟨0, s.raw, s.sum⟩

/-- A scanner lies in block B. -/
structure ScAt (w : World) (B : Nat) (s : Sc) : Prop where
  st3 : s.st ≤ 3
  len : s.raw.length ≤ 200
  cst : w.cell? ⟨B, 0, none⟩ = some (.int .u8 (s.st : Int))
  cnt : w.cell? ⟨B, 201, none⟩ = some (.int .i64 (s.raw.length : Int))
  csum : w.cell? ⟨B, 202, none⟩ = some (.int .u8 (s.sum.toNat : Int))
  bytes : BytesAt w B 1 s.raw
  there : ∀ i, i < 200 → ∃ v, w.cell? ⟨B, 1 + i, none⟩ = some v
  free : ∀ o, w.frozen? ⟨B, o, none⟩ = false

theorem addr_ne (B a b : Nat) (h : a ≠ b) : (⟨B, a, none⟩ : Addr) ≠ ⟨B, b, none⟩ := by
  intro e; injection e with e1 e2; exact h e2

theorem ScAt.setSt {w : World} {B : Nat} {s : Sc} (h : ScAt w B s) (n : Nat) (hn : n ≤ 3) : ScAt (w.setCell ⟨B, 0, none⟩ (.int .u8 (n : Int))) B ⟨n, s.raw, s.sum⟩ := by
  refine ⟨hn, h.len, World.cell?_setCell_same _ _ _ h.cst, ?_, ?_, ?_, ?_, ?_⟩
  · rw [World.cell?_setCell_other _ _ _ _ (addr_ne _ _ _ (by omega))]; exact h.cnt
  · rw [World.cell?_setCell_other _ _ _ _ (addr_ne _ _ _ (by omega))]; exact h.csum
  · intro i hi; rw [World.cell?_setCell_other _ _ _ _ (addr_ne _ _ _ (by omega))]; exact h.bytes i hi
  · intro i hi; rw [World.cell?_setCell_other _ _ _ _ (addr_ne _ _ _ (by omega))]; exact h.there i hi
  · intro o; rw [World.frozen?_setCell]; exact h.free o

theorem ScAt.clear {w : World} {B : Nat} {s : Sc} (h : ScAt w B s) : ScAt (w.setCell ⟨B, 201, none⟩ (.int .i64 0)) B ⟨s.st, [], s.sum⟩ := by
  refine ⟨h.st3, by simp, ?_, ?_, ?_, ?_, ?_, ?_⟩
  · rw [World.cell?_setCell_other _ _ _ _ (addr_ne _ _ _ (by omega))]; exact h.cst
  · exact World.cell?_setCell_same _ _ _ h.cnt
  · rw [World.cell?_setCell_other _ _ _ _ (addr_ne _ _ _ (by omega))]; exact h.csum
  · intro i hi; simp at hi
  · intro i hi; rw [World.cell?_setCell_other _ _ _ _ (addr_ne _ _ _ (by omega))]; exact h.there i hi
  · intro o; rw [World.frozen?_setCell]; exact h.free o

theorem ScAt.push {w : World} {B : Nat} {s : Sc} (h : ScAt w B s) (c : UInt8) (hl : s.raw.length < 200) :
    ScAt ((w.setCell ⟨B, 1 + s.raw.length, none⟩ (.int .u8 (c.toNat : Int))).setCell ⟨B, 201, none⟩ (.int .i64 ((s.raw.length : Int) + 1))) B ⟨s.st, s.raw ++ [c], s.sum⟩ := by
  obtain ⟨v, hv⟩ := h.there _ hl
  refine ⟨h.st3, by simp; omega, ?_, ?_, ?_, ?_, ?_, ?_⟩
  · rw [World.cell?_setCell_other _ _ _ _ (addr_ne _ _ _ (by omega)), World.cell?_setCell_other _ _ _ _ (addr_ne _ _ _ (by omega))]; exact h.cst
  · have e : w.cell? ⟨B, 201, none⟩ = some (.int .i64 (s.raw.length : Int)) := h.cnt
    rw [← World.cell?_setCell_other w ⟨B, 1 + s.raw.length, none⟩ _ (.int .u8 (c.toNat : Int)) (addr_ne _ _ _ (by omega))] at e
    rw [World.cell?_setCell_same _ _ _ e]; simp
  · rw [World.cell?_setCell_other _ _ _ _ (addr_ne _ _ _ (by omega)), World.cell?_setCell_other _ _ _ _ (addr_ne _ _ _ (by omega))]; exact h.csum
  · intro i hi
    simp at hi
    rw [World.cell?_setCell_other _ _ _ _ (addr_ne _ _ _ (by omega))]
    by_cases e : i = s.raw.length
    · subst e; rw [World.cell?_setCell_same _ _ _ hv]; simp
    · rw [World.cell?_setCell_other _ _ _ _ (addr_ne _ _ _ (by omega)), h.bytes i (by omega)]; simp [List.getElem_append_left (show i < s.raw.length by omega)]
  · intro i hi
    rw [World.cell?_setCell_other _ _ _ _ (addr_ne _ _ _ (by omega))]
    by_cases e : i = s.raw.length
    · subst e; exact ⟨_, World.cell?_setCell_same _ _ _ hv⟩
    · rw [World.cell?_setCell_other _ _ _ _ (addr_ne _ _ _ (by omega))]; exact h.there i hi
  · intro o; rw [World.frozen?_setCell, World.frozen?_setCell]; exact h.free o

/-- A call that turns scanner B from s to s' and nothing else. -/
def Turned (B : Nat) (s' : Sc) (w w' : World) : Prop := ScAt w' B s' ∧ w.grownBy w' (some B) ∧ w'.heap.size = w.heap.size

theorem grown_set (w : World) (B o : Nat) (v : Value) : w.grownBy (w.setCell ⟨B, o, none⟩ v) (some B) :=
  ⟨rfl, rfl, rfl, by simp, fun k _ hne => Below.heap_setCell _ _ _ _ (fun e => hne (by rw [e]))⟩

theorem grown_trans {a b c : World} {row : Option Nat} (h : a.grownBy b row) (k : b.grownBy c row) : a.grownBy c row :=
  ⟨k.os.trans h.os, k.tape.trans h.tape, k.output.trans h.output, Nat.le_trans h.size k.size, fun i hi hne => (k.block i (Nat.lt_of_lt_of_le hi h.size) hne).trans (h.block i hi hne)⟩

theorem ScAt.drew {w : World} {B : Nat} {s : Sc} (h : ScAt w B s) : ScAt w.drew B s :=
  ⟨h.st3, h.len, h.cst, h.cnt, h.csum, h.bytes, h.there, h.free⟩

end

/-
  hex.Append: so many digits of a number, behind what is there.
-/
section
def vals (l : List UInt8) : List Value := l.map fun c => Value.int .u8 (c.toNat : Int)

theorem inf_u8 : (Tryz.prog.info? 5).map (fun i => (i.zero, i.size, i.bytes)) = some (some (.int .u8 0), 1, 1) := by kernel_rfl

def digits : List UInt8 := [48, 49, 50, 51, 52, 53, 54, 55, 56, 57, 97, 98, 99, 100, 101, 102]
theorem und_bytes : Tryz.prog.underlying 35 = some (.slice 5) := by kernel_rfl

theorem vals_length (a : List UInt8) : (vals a).length = a.length := by simp [vals]

theorem one_new' (w : World) (x : Value) (t : TypeId) :
    ∀ j u, [x][j]? = some u → (w.alloc (.cells #[x] t)).cell? ((⟨w.heap.size, 0, none⟩ : Addr).add j) = some u :=
  World.news_of_block (w := w.alloc (.cells #[x] t)) (cs := #[x]) (t := t) (fr := (0, 0)) (heap_alloc_new w _)
/-- A slice of bytes that the call itself has made. -/
def Owns (base : Nat) (w0 w : World) (v : Value) (l : List UInt8) : Prop :=
  ∃ g cap, v = .slice (some ⟨g, 0, none⟩) l.length cap ∧ w.ownsRow base 5 1 v l.length (vals l) ∧ Below base w0 w ∧ base ≤ w.heap.size

theorem wrap_i64_nat (a : Nat) (h : a < 9223372036854775808) : IntKind.i64.wrap (a : Int) = a := by
  simp only [IntKind.wrap, IntKind.bits, IntKind.signed]; simp; omega
theorem andi_nat (a b : Nat) (ha : a < 9223372036854775808) (hb : b < 9223372036854775808) : bits .and .i64 (a : Int) (b : Int) = ((a &&& b : Nat) : Int) := by
  have hx : a &&& b < 2 ^ 63 := Nat.and_lt_two_pow _ (by omega)
  show IntKind.i64.wrap ((BitVec.ofInt 64 (a : Int) &&& BitVec.ofInt 64 (b : Int)).toNat : Int) = _
  rw [BitVec.toNat_and, ofInt_u64 a (by omega), ofInt_u64 b (by omega), wrap_i64_nat _ (by omega)]
end

/-
  appendEscaped.
-/
section
end

/-
  wire.Frame and stylet.Frame.
-/
section
def zsc : Array Value := #[.int .u8 0] ++ Array.replicate 200 (.int .u8 0) ++ #[.int .i64 0, .int .u8 0]

theorem zero_scan (w : World) : Sem.run Tryz.prog (zeroValue 130) w = .ok (.agg zsc) w := by kernel_rfl

theorem zsc_raw (i : Nat) (h : i < 200) : zsc[1 + i]? = some (.int .u8 0) := by
  have : ∀ i : Fin 200, zsc[1 + i.1]? = some (.int .u8 0) := by
    intro i
    unfold zsc
    rw [Array.getElem?_append_left (by simp; omega), Array.getElem?_append_right (by simp)]
    simp
  exact this ⟨i, h⟩

theorem zsc_0 : zsc[0]? = some (.int .u8 ((0 : Nat) : Int)) := by kernel_rfl
theorem zsc_201 : zsc[201]? = some (.int .i64 ((([] : List UInt8).length : Nat) : Int)) := by kernel_rfl
theorem zsc_202 : zsc[202]? = some (.int .u8 (((0 : UInt8).toNat : Nat) : Int)) := by kernel_rfl

theorem scAt_new (w : World) (t : TypeId) : ScAt (w.alloc (.cells zsc t)) w.heap.size ⟨0, [], 0⟩ := by
  have hc : ∀ i, (w.alloc (.cells zsc t)).cell? ⟨w.heap.size, i, none⟩ = zsc[i]? := fun i => World.cell?_alloc_at _ _ _ _ rfl
  refine ⟨by simp, by simp, ?_, ?_, ?_, ?_, ?_, ?_⟩
  · rw [hc]; exact zsc_0
  · rw [hc]; exact zsc_201
  · rw [hc]; exact zsc_202
  · intro i hi; simp at hi
  · intro i hi; rw [hc, zsc_raw i hi]; exact ⟨_, rfl⟩
  · intro o; exact World.frozen?_alloc_at _ _ _ _ rfl

theorem newScan_any (w : World) :
    Calls Tryz.prog 30 #[] w fun e w' => e = .returned (.pointer (some ⟨w.heap.size, 0, none⟩)) ∧ ScAt w' w.heap.size ⟨0, [], 0⟩ ∧ w.grownBy w' none ∧ w'.heap.size = w.heap.size + 1 := by
  have hz := zero_scan
  have HN := scAt_new w
  have H : Hid (∀ t, ScAt (w.alloc (.cells zsc t)) w.heap.size ⟨0, [], 0⟩) := HN
  clear HN
  go_enter Tryz.func30, Tryz.ntmps30
  go_wp2
  go_ret
  exact ⟨rfl, H.out _, World.grownBy_alloc _ _ _, by simp⟩
end

/-
  unescape.
-/
section
theorem und_u8 : Tryz.prog.underlying 5 = some (.int .u8) := by kernel_rfl
theorem und_str : Tryz.prog.underlying 9 = some .string := by kernel_rfl

end

/-
  readPacket.
-/
section
structure Pk where
  seq : Nat
  body : List UInt8
  bad : Bool

def Pk.val (p : Pk) : Value := .agg #[.int .i64 (p.seq : Int), .string ⟨p.body.toArray⟩, .bool p.bad]

theorem below2 (w : World) (o p : Obj) : Below w.heap.size w ((w.alloc o).alloc p) := ((Below.refl _ _).alloc (Nat.le_refl _) _).alloc (by simp) _

end

/-
  Scanner.Feed and Scan.Feed.
-/
section
def Pk.cells (p : Pk) : List Value := [.int .i64 (p.seq : Int), .string ⟨p.body.toArray⟩, .bool p.bad]
def pvals (ps : List Pk) : List Value := ps.flatMap Pk.cells

theorem pvals_snoc (ps : List Pk) (p : Pk) : pvals (ps ++ [p]) = pvals ps ++ p.cells := by simp [pvals]

theorem ScAt.lt {w : World} {B : Nat} {s : Sc} (h : ScAt w B s) : B < w.heap.size := World.block_lt_of_cell? w ⟨B, 0, none⟩ h.cst

/-- The packets' slice of a Feed, and the scanner. -/
structure Fed (B : Nat) (w0 w : World) (v : Value) (s : Sc) (ps : List Pk) : Prop where
  own : w.ownsRow w0.heap.size 152 3 v ps.length (pvals ps)
  nil : ps = [] → v = .slice none 0 0
  sc : ScAt w B s
  grown : w0.grownBy w (some B)
  lt : B < w0.heap.size

theorem Fed.turned {B : Nat} {w0 w w1 : World} {v : Value} {s s' : Sc} {ps : List Pk} (h : Fed B w0 w v s ps) (ht : Turned B s' w w1) : Fed B w0 w1 v s' ps := by
  refine ⟨h.own.kept ht.2.1 ?_, h.nil, ht.1, grown_trans h.grown ht.2.1, h.lt⟩
  cases hv : v.ownBlock with
  | none => exact .inl rfl
  | some g =>
    refine .inr ?_
    have h1 := (h.own.lt g hv).1
    have h2 := h.lt
    intro e; injection e with e; omega

theorem own_below {w w' : World} {base : Nat} {e : TypeId} {size : Nat} {v : Value} {n : Nat} {xs : List Value} (h : w.ownsRow base e size v n xs) (hb : Below w.heap.size w w') : w'.ownsRow base e size v n xs :=
  h.kept ⟨hb.os, hb.tape, hb.output, hb.size, fun k hk _ => hb.block k hk⟩ (row := none) (by cases v.ownBlock <;> simp)

theorem ScAt.below {w w' : World} {B : Nat} {s : Sc} (h : ScAt w B s) (hb : Below w.heap.size w w') : ScAt w' B s := by
  have hc : ∀ o, w'.cell? ⟨B, o, none⟩ = w.cell? ⟨B, o, none⟩ := fun o => hb.cell (p := ⟨B, o, none⟩) h.lt
  have hf : ∀ o, w'.frozen? ⟨B, o, none⟩ = w.frozen? ⟨B, o, none⟩ := fun o => hb.frozen (p := ⟨B, o, none⟩) h.lt
  exact ⟨h.st3, h.len, by rw [hc]; exact h.cst, by rw [hc]; exact h.cnt, by rw [hc]; exact h.csum, fun i hi => by rw [hc]; exact h.bytes i hi, fun i hi => by rw [hc]; exact h.there i hi, fun o => by rw [hf]; exact h.free o⟩

theorem grown_below {w w' : World} (hb : Below w.heap.size w w') (row : Option Nat) : w.grownBy w' row := ⟨hb.os, hb.tape, hb.output, hb.size, fun k hk _ => hb.block k hk⟩

theorem Fed.below {B : Nat} {w0 w w1 : World} {v : Value} {s : Sc} {ps : List Pk} (h : Fed B w0 w v s ps) (hb : Below w.heap.size w w1) : Fed B w0 w1 v s ps :=
  ⟨own_below h.own hb, h.nil, h.sc.below hb, grown_trans h.grown (grown_below hb _), h.lt⟩

theorem ScAt.grown {w w' : World} {B : Nat} {s : Sc} {row : Option Nat} (h : ScAt w B s) (hg : w.grownBy w' row) (hne : some B ≠ row) : ScAt w' B s := by
  have hb := hg.block B h.lt hne
  have hc : ∀ o, w'.cell? ⟨B, o, none⟩ = w.cell? ⟨B, o, none⟩ := fun o => World.cell?_of_block (a := ⟨B, o, none⟩) hb
  have hf : ∀ o, w'.frozen? ⟨B, o, none⟩ = w.frozen? ⟨B, o, none⟩ := fun o => World.frozen?_of_block (a := ⟨B, o, none⟩) hb
  exact ⟨h.st3, h.len, by rw [hc]; exact h.cst, by rw [hc]; exact h.cnt, by rw [hc]; exact h.csum, fun i hi => by rw [hc]; exact h.bytes i hi, fun i hi => by rw [hc]; exact h.there i hi, fun o => by rw [hf]; exact h.free o⟩

theorem Fed.append {B : Nat} {w0 w w3 : World} {v : Value} {s : Sc} {ps : List Pk} {p : Pk} {o : Obj} {g cap : Nat} (h : Fed B w0 w v s ps)
    (hown : w3.ownsRow w0.heap.size 152 3 (.slice (some ⟨g, 0, none⟩) (ps.length + 1) cap) (ps.length + 1) (pvals ps ++ p.cells)) (hg : (w.alloc o).grownBy w3 v.ownBlock) :
    Fed B w0 w3 (.slice (some ⟨g, 0, none⟩) (ps.length + 1) cap) s (ps ++ [p]) := by
  have hlt := h.lt
  have hne : some B ≠ v.ownBlock := fun e => by have := (h.own.lt B e.symm).1; omega
  have hal : ScAt (w.alloc o) B s := h.sc.grown (World.grownBy_alloc w o none) (by simp)
  refine ⟨by rw [pvals_snoc]; simpa using hown, by simp, hal.grown hg hne, ?_, h.lt⟩
  have hs := h.grown.size
  have hs3 := hg.size
  simp only [World.size_alloc] at hs3
  refine ⟨hg.os.trans h.grown.os, hg.tape.trans h.grown.tape, hg.output.trans h.grown.output, by omega, ?_⟩
  intro k hk hkB
  have hne' : some k ≠ v.ownBlock := fun e => by have := (h.own.lt k e.symm).1; omega
  exact (hg.block k (by simp; omega) hne').trans ((Below.heap_alloc w o k (by omega)).trans (h.grown.block k hk hkB))

end

/-
  A stub's scanner: the same walks, where it lies within the stub.
-/
section
variable {Q : Nat → Option Value}

/-- A scanner lies in block B. -/
structure ScS (Q : Nat → Option Value) (w : World) (B : Nat) (s : Sc) : Prop where
  st3 : s.st ≤ 3
  len : s.raw.length ≤ 200
  cst : w.cell? ⟨B, 65562, none⟩ = some (.int .u8 (s.st : Int))
  cnt : w.cell? ⟨B, 65763, none⟩ = some (.int .i64 (s.raw.length : Int))
  csum : w.cell? ⟨B, 65764, none⟩ = some (.int .u8 (s.sum.toNat : Int))
  bytes : BytesAt w B 65563 s.raw
  there : ∀ i, i < 200 → ∃ v, w.cell? ⟨B, 65563 + i, none⟩ = some v
  free : ∀ o, w.frozen? ⟨B, o, none⟩ = false
  keep : ∀ o, o < 65562 ∨ 65765 ≤ o → w.cell? ⟨B, o, none⟩ = Q o


theorem ScS.setSt {w : World} {B : Nat} {s : Sc} (h : ScS Q w B s) (n : Nat) (hn : n ≤ 3) : ScS Q (w.setCell ⟨B, 65562, none⟩ (.int .u8 (n : Int))) B ⟨n, s.raw, s.sum⟩ := by
  refine ⟨hn, h.len, World.cell?_setCell_same _ _ _ h.cst, ?_, ?_, ?_, ?_, ?_, ?_⟩
  · rw [World.cell?_setCell_other _ _ _ _ (addr_ne _ _ _ (by omega))]; exact h.cnt
  · rw [World.cell?_setCell_other _ _ _ _ (addr_ne _ _ _ (by omega))]; exact h.csum
  · intro i hi; rw [World.cell?_setCell_other _ _ _ _ (addr_ne _ _ _ (by omega))]; exact h.bytes i hi
  · intro i hi; rw [World.cell?_setCell_other _ _ _ _ (addr_ne _ _ _ (by omega))]; exact h.there i hi
  · intro o; rw [World.frozen?_setCell]; exact h.free o
  · intro o ho; rw [World.cell?_setCell_other _ _ _ _ (addr_ne _ _ _ (by omega))]; exact h.keep o ho

theorem ScS.clear {w : World} {B : Nat} {s : Sc} (h : ScS Q w B s) : ScS Q (w.setCell ⟨B, 65763, none⟩ (.int .i64 0)) B ⟨s.st, [], s.sum⟩ := by
  refine ⟨h.st3, by simp, ?_, ?_, ?_, ?_, ?_, ?_, ?_⟩
  · rw [World.cell?_setCell_other _ _ _ _ (addr_ne _ _ _ (by omega))]; exact h.cst
  · exact World.cell?_setCell_same _ _ _ h.cnt
  · rw [World.cell?_setCell_other _ _ _ _ (addr_ne _ _ _ (by omega))]; exact h.csum
  · intro i hi; simp at hi
  · intro i hi; rw [World.cell?_setCell_other _ _ _ _ (addr_ne _ _ _ (by omega))]; exact h.there i hi
  · intro o; rw [World.frozen?_setCell]; exact h.free o
  · intro o ho; rw [World.cell?_setCell_other _ _ _ _ (addr_ne _ _ _ (by omega))]; exact h.keep o ho

theorem ScS.push {w : World} {B : Nat} {s : Sc} (h : ScS Q w B s) (c : UInt8) (hl : s.raw.length < 200) :
    ScS Q ((w.setCell ⟨B, 65563 + s.raw.length, none⟩ (.int .u8 (c.toNat : Int))).setCell ⟨B, 65763, none⟩ (.int .i64 ((s.raw.length : Int) + 1))) B ⟨s.st, s.raw ++ [c], s.sum⟩ := by
  obtain ⟨v, hv⟩ := h.there _ hl
  refine ⟨h.st3, by simp; omega, ?_, ?_, ?_, ?_, ?_, ?_, ?_⟩
  · rw [World.cell?_setCell_other _ _ _ _ (addr_ne _ _ _ (by omega)), World.cell?_setCell_other _ _ _ _ (addr_ne _ _ _ (by omega))]; exact h.cst
  · have e : w.cell? ⟨B, 65763, none⟩ = some (.int .i64 (s.raw.length : Int)) := h.cnt
    rw [← World.cell?_setCell_other w ⟨B, 65563 + s.raw.length, none⟩ _ (.int .u8 (c.toNat : Int)) (addr_ne _ _ _ (by omega))] at e
    rw [World.cell?_setCell_same _ _ _ e]; simp
  · rw [World.cell?_setCell_other _ _ _ _ (addr_ne _ _ _ (by omega)), World.cell?_setCell_other _ _ _ _ (addr_ne _ _ _ (by omega))]; exact h.csum
  · intro i hi
    simp at hi
    rw [World.cell?_setCell_other _ _ _ _ (addr_ne _ _ _ (by omega))]
    by_cases e : i = s.raw.length
    · subst e; rw [World.cell?_setCell_same _ _ _ hv]; simp
    · rw [World.cell?_setCell_other _ _ _ _ (addr_ne _ _ _ (by omega)), h.bytes i (by omega)]; simp [List.getElem_append_left (show i < s.raw.length by omega)]
  · intro i hi
    rw [World.cell?_setCell_other _ _ _ _ (addr_ne _ _ _ (by omega))]
    by_cases e : i = s.raw.length
    · subst e; exact ⟨_, World.cell?_setCell_same _ _ _ hv⟩
    · rw [World.cell?_setCell_other _ _ _ _ (addr_ne _ _ _ (by omega))]; exact h.there i hi
  · intro o; rw [World.frozen?_setCell, World.frozen?_setCell]; exact h.free o
  · intro o ho; rw [World.cell?_setCell_other _ _ _ _ (addr_ne _ _ _ (by omega)), World.cell?_setCell_other _ _ _ _ (addr_ne _ _ _ (by omega))]; exact h.keep o ho

/-- A call that turns scanner B from s to s' and nothing else. -/
def TurnedS (Q : Nat → Option Value) (B : Nat) (s' : Sc) (w w' : World) : Prop := ScS Q w' B s' ∧ w.grownBy w' (some B) ∧ w'.heap.size = w.heap.size




theorem ScS.drew {w : World} {B : Nat} {s : Sc} (h : ScS Q w B s) : ScS Q w.drew B s :=
  ⟨h.st3, h.len, h.cst, h.cnt, h.csum, h.bytes, h.there, h.free, h.keep⟩


end

/-
  A stub's scanner fed.
-/
section
variable {Q : Nat → Option Value}

theorem ScS.lt {w : World} {B : Nat} {s : Sc} (h : ScS Q w B s) : B < w.heap.size := World.block_lt_of_cell? w ⟨B, 65562, none⟩ h.cst


/-- The packets' slice of a Feed, and the scanner. -/
structure FedS (Q : Nat → Option Value) (B : Nat) (w0 w : World) (v : Value) (s : Sc) (ps : List Pk) : Prop where
  own : w.ownsRow w0.heap.size 152 3 v ps.length (pvals ps)
  nil : ps = [] → v = .slice none 0 0
  sc : ScS Q w B s
  grown : w0.grownBy w (some B)
  lt : B < w0.heap.size

theorem FedS.turned {B : Nat} {w0 w w1 : World} {v : Value} {s s' : Sc} {ps : List Pk} (h : FedS Q B w0 w v s ps) (ht : TurnedS Q B s' w w1) : FedS Q B w0 w1 v s' ps := by
  refine ⟨h.own.kept ht.2.1 ?_, h.nil, ht.1, grown_trans h.grown ht.2.1, h.lt⟩
  cases hv : v.ownBlock with
  | none => exact .inl rfl
  | some g =>
    refine .inr ?_
    have h1 := (h.own.lt g hv).1
    have h2 := h.lt
    intro e; injection e with e; omega


theorem ScS.below {w w' : World} {B : Nat} {s : Sc} (h : ScS Q w B s) (hb : Below w.heap.size w w') : ScS Q w' B s := by
  have hc : ∀ o, w'.cell? ⟨B, o, none⟩ = w.cell? ⟨B, o, none⟩ := fun o => hb.cell (p := ⟨B, o, none⟩) h.lt
  have hf : ∀ o, w'.frozen? ⟨B, o, none⟩ = w.frozen? ⟨B, o, none⟩ := fun o => hb.frozen (p := ⟨B, o, none⟩) h.lt
  exact ⟨h.st3, h.len, by rw [hc]; exact h.cst, by rw [hc]; exact h.cnt, by rw [hc]; exact h.csum, fun i hi => by rw [hc]; exact h.bytes i hi, fun i hi => by rw [hc]; exact h.there i hi, fun o => by rw [hf]; exact h.free o, fun o ho => by rw [hc]; exact h.keep o ho⟩


theorem FedS.below {B : Nat} {w0 w w1 : World} {v : Value} {s : Sc} {ps : List Pk} (h : FedS Q B w0 w v s ps) (hb : Below w.heap.size w w1) : FedS Q B w0 w1 v s ps :=
  ⟨own_below h.own hb, h.nil, h.sc.below hb, grown_trans h.grown (grown_below hb _), h.lt⟩


theorem ScS.grown {w w' : World} {B : Nat} {s : Sc} {row : Option Nat} (h : ScS Q w B s) (hg : w.grownBy w' row) (hne : some B ≠ row) : ScS Q w' B s := by
  have hb := hg.block B h.lt hne
  have hc : ∀ o, w'.cell? ⟨B, o, none⟩ = w.cell? ⟨B, o, none⟩ := fun o => World.cell?_of_block (a := ⟨B, o, none⟩) hb
  have hf : ∀ o, w'.frozen? ⟨B, o, none⟩ = w.frozen? ⟨B, o, none⟩ := fun o => World.frozen?_of_block (a := ⟨B, o, none⟩) hb
  exact ⟨h.st3, h.len, by rw [hc]; exact h.cst, by rw [hc]; exact h.cnt, by rw [hc]; exact h.csum, fun i hi => by rw [hc]; exact h.bytes i hi, fun i hi => by rw [hc]; exact h.there i hi, fun o => by rw [hf]; exact h.free o, fun o ho => by rw [hc]; exact h.keep o ho⟩

theorem FedS.append {B : Nat} {w0 w w3 : World} {v : Value} {s : Sc} {ps : List Pk} {p : Pk} {o : Obj} {g cap : Nat} (h : FedS Q B w0 w v s ps)
    (hown : w3.ownsRow w0.heap.size 152 3 (.slice (some ⟨g, 0, none⟩) (ps.length + 1) cap) (ps.length + 1) (pvals ps ++ p.cells)) (hg : (w.alloc o).grownBy w3 v.ownBlock) :
    FedS Q B w0 w3 (.slice (some ⟨g, 0, none⟩) (ps.length + 1) cap) s (ps ++ [p]) := by
  have hlt := h.lt
  have hne : some B ≠ v.ownBlock := fun e => by have := (h.own.lt B e.symm).1; omega
  have hal : ScS Q (w.alloc o) B s := h.sc.grown (World.grownBy_alloc w o none) (by simp)
  refine ⟨by rw [pvals_snoc]; simpa using hown, by simp, hal.grown hg hne, ?_, h.lt⟩
  have hs := h.grown.size
  have hs3 := hg.size
  simp only [World.size_alloc] at hs3
  refine ⟨hg.os.trans h.grown.os, hg.tape.trans h.grown.tape, hg.output.trans h.grown.output, by omega, ?_⟩
  intro k hk hkB
  have hne' : some k ≠ v.ownBlock := fun e => by have := (h.own.lt k e.symm).1; omega
  exact (hg.block k (by simp; omega) hne').trans ((Below.heap_alloc w o k (by omega)).trans (h.grown.block k hk hkB))




end

/-
  Hex digits behind any bytes of one's own, be there none.
-/
section
/-- A slice of bytes that the call itself has made, or none. -/
def OwnV (base : Nat) (w0 w : World) (v : Value) (l : List UInt8) : Prop := w.ownsRow base 5 1 v l.length (vals l) ∧ Below base w0 w ∧ base ≤ w.heap.size

theorem OwnV.form {base : Nat} {w0 w : World} {v : Value} {l : List UInt8} (h : OwnV base w0 w v l) (hl : 0 < l.length) : Owns base w0 w v l := by
  obtain ⟨g, cap, e⟩ : ∃ g cap, v = .slice (some ⟨g, 0, none⟩) l.length cap := by
    rcases h.1.2 with ⟨-, e⟩ | ⟨g, cap, cur, e, -⟩
    · omega
    · exact ⟨g, cap, e⟩
  exact ⟨g, cap, e, h.1, h.2.1, h.2.2⟩
theorem Owns.v {base : Nat} {w0 w : World} {v : Value} {l : List UInt8} (h : Owns base w0 w v l) : OwnV base w0 w v l := by
  obtain ⟨g, cap, -, h1, h2, h3⟩ := h
  exact ⟨h1, h2, h3⟩
end
end

/-
  The document's answer, its small parts: cut, digits, sum, hex.
-/
section
set_option maxRecDepth 100000
set_option maxHeartbeats 1000000

theorem ba_eq {h : ByteArray} {l : List UInt8} (e : h.data.toList = l) : h = ⟨l.toArray⟩ := by subst e; cases h; simp
end

/-
  The document's answer: body and packet.
-/
section
set_option maxRecDepth 100000
set_option maxHeartbeats 1000000

/-- A slice of bytes that the call itself has made, or nil. -/
structure OwnsN (base : Nat) (w0 w : World) (v : Value) (l : List UInt8) : Prop where
  own : w.ownsRow base 5 1 v l.length (vals l)
  bel : Below base w0 w
  sz : base ≤ w.heap.size

theorem Owns.n {base : Nat} {w0 w : World} {v : Value} {l : List UInt8} (h : Owns base w0 w v l) : OwnsN base w0 w v l := by
  obtain ⟨g, cap, rfl, h1, h2, h3⟩ := h; exact ⟨h1, h2, h3⟩
end

/-
  The document's answer: Feed of a scan.
-/
section
set_option maxRecDepth 100000
set_option maxHeartbeats 4000000

/-- The document's scan in block R. -/
structure RsCells (w : World) (R : Nat) (raw : List UInt8) (inn : Bool) (tail : Nat) : Prop where
  c0 : w.cell? ⟨R, 0, none⟩ = some (.string ⟨raw.toArray⟩)
  c1 : w.cell? ⟨R, 1, none⟩ = some (.bool inn)
  c2 : w.cell? ⟨R, 2, none⟩ = some (.int .i64 (tail : Int))
  free : ∀ o, w.frozen? ⟨R, o, none⟩ = false

theorem RsCells.lt {w : World} {R : Nat} {raw : List UInt8} {inn : Bool} {tail : Nat} (h : RsCells w R raw inn tail) : R < w.heap.size := World.block_lt_of_cell? w ⟨R, 0, none⟩ h.c0
theorem RsCells.grown {w w' : World} {R : Nat} {raw : List UInt8} {inn : Bool} {tail : Nat} {row : Option Nat} (h : RsCells w R raw inn tail) (hg : w.grownBy w' row) (hne : some R ≠ row) : RsCells w' R raw inn tail := by
  have hb := hg.block R h.lt hne
  have hc : ∀ o, w'.cell? ⟨R, o, none⟩ = w.cell? ⟨R, o, none⟩ := fun o => World.cell?_of_block (a := ⟨R, o, none⟩) hb
  have hf : ∀ o, w'.frozen? ⟨R, o, none⟩ = w.frozen? ⟨R, o, none⟩ := fun o => World.frozen?_of_block (a := ⟨R, o, none⟩) hb
  exact ⟨by rw [hc]; exact h.c0, by rw [hc]; exact h.c1, by rw [hc]; exact h.c2, fun o => by rw [hf]; exact h.free o⟩

def rRaw (s : Sc) : List UInt8 := if s.st = 0 then [] else if s.st = 1 then s.raw else if s.st = 2 then s.raw ++ [35] else s.raw ++ [35, s.sum]
def rTail (s : Sc) : Nat := if s.st = 2 then 1 else if s.st = 3 then 2 else 0
def rIn (s : Sc) : Bool := decide (s.st ≠ 0)

structure RsAt (w : World) (R : Nat) (s : Sc) : Prop where
  st3 : s.st ≤ 3
  len : s.raw.length ≤ 200
  cells : RsCells w R (rRaw s) (rIn s) (rTail s)

/-- The packets' slice of a Feed of the document's, and its scan. -/
structure FedR (R : Nat) (w0 w : World) (v : Value) (s : Sc) (ps : List Pk) : Prop where
  own : w.ownsRow w0.heap.size 152 3 v ps.length (pvals ps)
  nil : ps = [] → v = .slice none 0 0
  sc : RsAt w R s
  grown : w0.grownBy w (some R)
  lt : R < w0.heap.size

/-- The same, with whatever cells its scan has. -/
structure FedC (R : Nat) (w0 w : World) (v : Value) (ps : List Pk) (raw : List UInt8) (inn : Bool) (tail : Nat) : Prop where
  own : w.ownsRow w0.heap.size 152 3 v ps.length (pvals ps)
  nil : ps = [] → v = .slice none 0 0
  cells : RsCells w R raw inn tail
  grown : w0.grownBy w (some R)
  lt : R < w0.heap.size

section
variable {R : Nat} {w0 w : World} {v : Value} {ps : List Pk} {raw : List UInt8} {inn : Bool} {tail : Nat}
theorem FedC.ne (h : FedC R w0 w v ps raw inn tail) : v.ownBlock ≠ some R := fun e => by have h1 := (h.own.lt R e).1; have h2 := h.lt; omega
theorem FedC.set {w1 : World} {raw' : List UInt8} {inn' : Bool} {tail' : Nat} (h : FedC R w0 w v ps raw inn tail) (hg : w.grownBy w1 (some R)) (hc : RsCells w1 R raw' inn' tail') : FedC R w0 w1 v ps raw' inn' tail' :=
  ⟨h.own.kept hg (.inr h.ne), h.nil, hc, grown_trans h.grown hg, h.lt⟩
theorem FedC.append {w3 : World} {p : Pk} {o : Obj} {g cap : Nat} (h : FedC R w0 w v ps raw inn tail)
    (hown : w3.ownsRow w0.heap.size 152 3 (.slice (some ⟨g, 0, none⟩) (ps.length + 1) cap) (ps.length + 1) (pvals ps ++ p.cells)) (hg : (w.alloc o).grownBy w3 v.ownBlock) :
    FedC R w0 w3 (.slice (some ⟨g, 0, none⟩) (ps.length + 1) cap) (ps ++ [p]) raw inn tail := by
  have hlt := h.lt
  have hne : some R ≠ v.ownBlock := fun e => h.ne e.symm
  have hal : RsCells (w.alloc o) R raw inn tail := h.cells.grown (World.grownBy_alloc w o none) (by simp)
  refine ⟨by rw [pvals_snoc]; simpa using hown, by simp, hal.grown hg hne, ?_, h.lt⟩
  have hs := h.grown.size
  have hs3 := hg.size
  simp only [World.size_alloc] at hs3
  refine ⟨hg.os.trans h.grown.os, hg.tape.trans h.grown.tape, hg.output.trans h.grown.output, by omega, ?_⟩
  intro k hk hkB
  have hne' : some k ≠ v.ownBlock := fun e => by have := (h.own.lt k e.symm).1; omega
  exact (hg.block k (by simp; omega) hne').trans ((Below.heap_alloc w o k (by omega)).trans (h.grown.block k hk hkB))
end

theorem FedR.c {R : Nat} {w0 w : World} {v : Value} {s : Sc} {ps : List Pk} (h : FedR R w0 w v s ps) : FedC R w0 w v ps (rRaw s) (rIn s) (rTail s) := ⟨h.own, h.nil, h.sc.cells, h.grown, h.lt⟩
theorem FedC.r {R : Nat} {w0 w : World} {v : Value} {s : Sc} {ps : List Pk} {raw : List UInt8} {inn : Bool} {tail : Nat} (h : FedC R w0 w v ps raw inn tail) (h1 : s.st ≤ 3) (h2 : s.raw.length ≤ 200) (e1 : raw = rRaw s) (e2 : inn = rIn s) (e3 : tail = rTail s) : FedR R w0 w v s ps := by
  subst e1 e2 e3; exact ⟨h.own, h.nil, ⟨h1, h2, h.cells⟩, h.grown, h.lt⟩
end

/-
  The document's Frame; and what both Frames refuse.
-/
section
set_option maxRecDepth 100000
set_option maxHeartbeats 1000000

theorem size_toList (a : ByteArray) : a.size = a.data.toList.length := by simp
end

/-
  Lists of which every entry is one and the same mark: what append does to them.
-/
section
/-- A row of cells of element type e: room for cap elements of size cells each; nothing of it is frozen. -/
def RowAt (w : World) (g : Nat) (e size cap : Nat) : Prop := ∃ cur, w.heap[g]? = some (.cells cur e (0, 0)) ∧ cur.size = cap * size

theorem RowAt.there {w : World} {g e size cap : Nat} (h : RowAt w g e size cap) (i : Nat) (hi : i < cap * size) : ∃ v, w.cell? ⟨g, i, none⟩ = some v := by
  obtain ⟨cur, h1, h2⟩ := h
  exact ⟨cur[i]'(by omega), by rw [cell_of_row w g i cur e (0, 0) h1]; simp⟩
theorem RowAt.free {w : World} {g e size cap : Nat} (h : RowAt w g e size cap) (i : Nat) : w.frozen? ⟨g, i, none⟩ = false := by
  obtain ⟨cur, h1, _⟩ := h
  simp [World.frozen?, h1]
theorem RowAt.lt {w : World} {g e size cap : Nat} (h : RowAt w g e size cap) : g < w.heap.size := by
  obtain ⟨cur, h1, _⟩ := h; exact (Array.getElem?_eq_some_iff.1 h1).1
theorem RowAt.setCell {w : World} {g e size cap : Nat} (h : RowAt w g e size cap) (b o : Nat) (v : Value) : RowAt (w.setCell ⟨b, o, none⟩ v) g e size cap := by
  obtain ⟨cur, h1, h2⟩ := h
  by_cases hb : g = b
  · subst hb
    refine ⟨cur.setIfInBounds o v, ?_, by simpa using h2⟩
    simp only [World.setCell, Array.getElem?_modify, h1]
    simp
  · exact ⟨cur, by rw [Below.heap_setCell _ _ _ _ hb]; exact h1, h2⟩
theorem RowAt.setCells {g e size cap : Nat} (b : Nat) : ∀ (vs : List Value) (o : Nat) (w : World), RowAt w g e size cap → RowAt (w.setCells b o vs) g e size cap
  | [], _, _, h => h
  | v :: r, o, _, h => RowAt.setCells b r (o + 1) _ (h.setCell b o v)

section
variable (e size : Nat) (xf : Nat → Value) (row : Option Nat) (H : Nat)

def Ok (g : Nat) : Prop := some g = row ∨ H ≤ g

/-- v has n entries, each of which is the mark. -/
def AllX (w : World) (v : Value) (n : Nat) : Prop :=
  (v = .slice none 0 0 ∧ n = 0) ∨ ∃ g cap, v = .slice (some ⟨g, 0, none⟩) n cap ∧ Ok row H g ∧ n ≤ cap ∧ RowAt w g e size cap ∧ ∀ i, i < n * size → w.cell? ⟨g, i, none⟩ = some (xf (i % size))

/-- Nothing but marks was written, into the one row or new ones. -/
structure XExt (w w' : World) : Prop where
  os : w'.os = w.os
  tape : w'.tape = w.tape
  output : w'.output = w.output
  sz : w.heap.size ≤ w'.heap.size
  old : ∀ k, k < H → some k ≠ row → w'.heap[k]? = w.heap[k]?
  rows : ∀ g cap, Ok row H g → RowAt w g e size cap → RowAt w' g e size cap
  cells : ∀ g i, Ok row H g → g < w.heap.size → w.cell? ⟨g, i, none⟩ = some (xf (i % size)) → w'.cell? ⟨g, i, none⟩ = some (xf (i % size))
end

section
variable {e size : Nat} {xf : Nat → Value} {row : Option Nat} {H : Nat}

theorem XExt.refl (w : World) : XExt e size xf row H w w := ⟨rfl, rfl, rfl, Nat.le_refl _, fun _ _ _ => rfl, fun _ _ _ h => h, fun _ _ _ _ h => h⟩
theorem XExt.trans {a b c : World} (h : XExt e size xf row H a b) (k : XExt e size xf row H b c) : XExt e size xf row H a c :=
  ⟨k.os.trans h.os, k.tape.trans h.tape, k.output.trans h.output, Nat.le_trans h.sz k.sz, fun i h1 h2 => (k.old i h1 h2).trans (h.old i h1 h2), fun g cap ho hr => k.rows g cap ho (h.rows g cap ho hr),
   fun g i ho hl hc => k.cells g i ho (Nat.lt_of_lt_of_le hl h.sz) (h.cells g i ho hl hc)⟩
theorem XExt.drew {a b : World} (h : XExt e size xf row H a b) : XExt e size xf row H a b.drew := ⟨h.os, h.tape, h.output, h.sz, h.old, h.rows, h.cells⟩
theorem XExt.drewN {a b : World} (h : XExt e size xf row H a b) (n : Nat) : XExt e size xf row H a (b.drewN n) := ⟨h.os, h.tape, h.output, h.sz, h.old, h.rows, h.cells⟩
theorem XExt.ofGrown {w w' : World} (hg : w.grownBy w' none) (hH : H ≤ w.heap.size) : XExt e size xf row H w w' := by
  refine ⟨hg.os, hg.tape, hg.output, hg.size, fun k hk _ => hg.block k (by omega) (by simp), ?_, ?_⟩
  · rintro g cap _ hr
    obtain ⟨cur, h1, h2⟩ := hr
    exact ⟨cur, (hg.block g (Array.getElem?_eq_some_iff.1 h1).1 (by simp)).trans h1, h2⟩
  · intro g i _ hl hc
    rw [World.cell?_of_block (a := ⟨g, i, none⟩) (hg.block g hl (by simp))]; exact hc
theorem AllX.ext {w w' : World} {v : Value} {n : Nat} (h : AllX e size xf row H w v n) (hx : XExt e size xf row H w w') : AllX e size xf row H w' v n := by
  rcases h with h | ⟨g, cap, rfl, ho, hn, hr, hc⟩
  · exact .inl h
  · exact .inr ⟨g, cap, rfl, ho, hn, hx.rows g cap ho hr, fun i hi => hx.cells g i ho hr.lt (hc i hi)⟩
theorem XExt.setCells {w : World} (g o : Nat) (news : List Value) (ho : Ok row H g) (hrow : H ≤ g ∨ some g = row) (hth : ∀ j, j < news.length → (w.cell? ⟨g, o + j, none⟩).isSome = true)
    (hnews : ∀ j u, news[j]? = some u → u = xf ((o + j) % size)) : XExt e size xf row H w (w.setCells g o news) := by
  have hblk : ∀ (vs : List Value) (o : Nat) (w : World) (k : Nat), k ≠ g → (w.setCells g o vs).heap[k]? = w.heap[k]? := by
    intro vs
    induction vs with
    | nil => intros; rfl
    | cons v r ih => intro o w k hk; show ((w.setCell ⟨g, o, none⟩ v).setCells g (o + 1) r).heap[k]? = _; rw [ih _ _ _ hk, Below.heap_setCell _ _ _ _ hk]
  have hmeta : ∀ (vs : List Value) (o : Nat) (w : World), (w.setCells g o vs).os = w.os ∧ (w.setCells g o vs).tape = w.tape ∧ (w.setCells g o vs).output = w.output ∧ (w.setCells g o vs).heap.size = w.heap.size := by
    intro vs
    induction vs with
    | nil => intros; exact ⟨rfl, rfl, rfl, rfl⟩
    | cons v r ih =>
      intro o w
      have := ih (o + 1) (w.setCell ⟨g, o, none⟩ v)
      exact ⟨this.1, this.2.1, this.2.2.1, by rw [show (w.setCells g o (v :: r)).heap.size = ((w.setCell ⟨g, o, none⟩ v).setCells g (o + 1) r).heap.size from rfl, this.2.2.2]; simp⟩
  have hm := hmeta news o w
  refine ⟨hm.1, hm.2.1, hm.2.2.1, by omega, ?_, ?_, ?_⟩
  · intro k hk hne
    exact hblk news o w k (fun e => by subst e; rcases hrow with h | h; omega; exact hne h)
  · intro g' cap' _ hr; exact RowAt.setCells g news o w hr
  · intro g' i _ _ hc
    by_cases hg : g' = g
    · subst hg
      by_cases hi : o ≤ i ∧ i < o + news.length
      · have := World.cell?_setCells_in g' news o w hth (i - o) (by omega)
        rw [show o + (i - o) = i from by omega] at this
        rw [this, hnews (i - o) _ (List.getElem?_eq_getElem (by omega)), show o + (i - o) = i from by omega]
      · rw [World.cell?_setCells_out g' news o w ⟨g', i, none⟩ (fun _ _ => by simp only; omega)]; exact hc
    · rw [World.cell?_setCells_out g news o w ⟨g', i, none⟩ (fun e _ => absurd e hg)]; exact hc

end
end

/-
  Lists of bytes that came out: their owner's marks.
-/
section
set_option maxRecDepth 100000
set_option maxHeartbeats 4000000

def xfB (m : Nat) : Nat → Value := fun _ => .int .u8 ((m % 251 : Nat) : Int)

theorem AllX.alloc {e size : Nat} {xf : Nat → Value} {row : Option Nat} {H : Nat} {w : World} {v : Value} {n : Nat} (h : AllX e size xf row H w v n) (o : Obj) (hH : H ≤ w.heap.size) : AllX e size xf row H (w.alloc o) v n := h.ext (XExt.ofGrown (World.grownBy_alloc w o none) hH)
theorem XExt.alloc {e size : Nat} {xf : Nat → Value} {row : Option Nat} {H : Nat} {a w : World} (h : XExt e size xf row H a w) (o : Obj) (hH : H ≤ w.heap.size) : XExt e size xf row H a (w.alloc o) := h.trans (XExt.ofGrown (World.grownBy_alloc w o none) hH)
theorem XExt.setX {e size : Nat} {xf : Nat → Value} {row : Option Nat} {H : Nat} {a w : World} (h : XExt e size xf row H a w) {g cap : Nat} (hr : RowAt w g e size cap) (ho : Ok row H g) (k : Nat) (hk : k < cap * size) : XExt e size xf row H a (w.setCell ⟨g, k, none⟩ (xf (k % size))) :=
  h.trans (XExt.setCells g k [xf (k % size)] ho (by rcases ho with h | h; exact .inr h; exact .inl h) (fun j hj => by
    have : j = 0 := by simpa using hj
    subst this
    obtain ⟨u, hu⟩ := hr.there k hk
    rw [Nat.add_zero, hu]; rfl) (fun j u hj => by
    match j, hj with
    | 0, hj => simp at hj; subst hj; rfl))

theorem Ok.mono {row : Option Nat} {H H' g : Nat} (h : Ok row H g) (hH : H' ≤ H) : Ok row H' g := by
  rcases h with h | h
  · exact .inl h
  · exact .inr (by omega)
theorem AllX.mono {e size : Nat} {xf : Nat → Value} {row : Option Nat} {H H' : Nat} {w : World} {v : Value} {n : Nat} (h : AllX e size xf row H w v n) (hH : H' ≤ H) : AllX e size xf row H' w v n := by
  rcases h with h | ⟨g, cap, rfl, ho, hn, hr, hc⟩
  · exact .inl h
  · exact .inr ⟨g, cap, rfl, ho.mono hH, hn, hr, hc⟩
theorem XExt.grown {e size : Nat} {xf : Nat → Value} {row : Option Nat} {H : Nat} {w wr : World} (h : XExt e size xf row H w wr) : ∀ k, k < H → some k ≠ row → wr.heap[k]? = w.heap[k]? := h.old
end

/-
  Lists of packets that came out: their owner's marks.
-/
section
set_option maxRecDepth 100000
set_option maxHeartbeats 4000000

def xfP (m : Nat) : Nat → Value := fun i => if i = 0 then .int .i64 (-1000 - (m : Int)) else if i = 1 then .string ⟨#[]⟩ else .bool false
end

/-
  What is lent, and given back: lent, back.
-/
section
set_option maxRecDepth 100000
set_option maxHeartbeats 1000000

theorem wpList_copy_str {P : Program} (w : World) {ops : Array Oper} {rest : List Oper} {o : Oper} {a : Go.Act} {Q : Exit → Go.Act → World → Prop} (hgd : o.guard = none) (d s : Operand) (dT sT : TypeId)
    (ho : o.op = .call { callee := .builtin .copy, args := #[d, s], argTypes := #[dT, sT] }) (elem : TypeId) (i : TypeInfo) (hu : P.underlying dT = some (.slice elem)) (hi : P.info? elem = some i)
    (g dLen dCap : Nat) (hd : a.eval d = .slice (some ⟨g, 0, none⟩) dLen dCap) (x : ByteArray) (hs : a.eval s = .string x) (hle : x.size ≤ dLen)
    (hth : ∀ j, j < x.size → (w.cell? ⟨g, j, none⟩).isSome = true) (hfr : ∀ j, j < x.size → w.frozen? ⟨g, j, none⟩ = false)
    (h : wpList P ops Q rest (a.put o.dst (goInt x.size)) (w.setCells g 0 (vals x.data.toList))) : wpList P ops Q (o :: rest) a w := by
  refine wpList_plain hgd fun K hK => ?_
  have hmin : Nat.min x.size dLen = x.size := Nat.min_eq_left hle
  have hl : (vals x.data.toList).length = x.size := by rw [vals_length]; simp
  have hst := run_storeCells_cells (P := P) g 0 (vals x.data.toList) 0 w (fun j hj => by rw [hl] at hj; simpa using hth j hj) (fun j hj => by rw [hl] at hj; simpa using hfr j hj) (by intro v hv; simp [vals] at hv; obtain ⟨c, _, rfl⟩ := hv; rfl)
  have hrun : (Builtin.copy_ #[dT, sT] o.type #[.slice (some ⟨g, 0, none⟩) dLen dCap, .string x]).run P w = .ok (goInt x.size) (w.setCells g 0 (vals x.data.toList)) := by
    simp [Builtin.copy_, run_underlying hu, Builtin.lenOf, Builtin.firstCells, sizeOf, typeInfo, hi, hmin]
    have e : List.map (fun b : UInt8 => Value.int .u8 (b.toNat : Int)) x.data.toList = vals x.data.toList := rfl
    rw [e, List.take_of_length_le (by rw [hl]; omega), hst]; rfl
  unfold Oper.wp
  simp [execOp, ho, resolve, invoke, builtin, hd, hs, hrun, Result.andThen]
  exact hK _ _ h

structure LentAt (w : World) (g : Nat) (l : List UInt8) : Prop where
  row : RowAt w g 5 1 (l.length + 8)
  bytes : BytesAt w g 0 l
  spare : ∀ j, j < 8 → w.cell? ⟨g, l.length + j, none⟩ = some (.int .u8 77)

theorem copied {w : World} {g : Nat} {l : List UInt8} {cap : Nat} (hr : RowAt w g 5 1 cap) (hl : l.length ≤ cap) : BytesAt (w.setCells g 0 (vals l)) g 0 l := by
  intro i hi
  have := World.cell?_setCells_in g (vals l) 0 w (fun j hj => by rw [vals_length] at hj; obtain ⟨u, hu⟩ := hr.there (0 + j) (by omega); rw [hu]; rfl) i (by rw [vals_length]; exact hi)
  rw [this]; simp [vals]

theorem setCells_grown (g : Nat) : ∀ (vs : List Value) (o : Nat) (w : World), w.grownBy (w.setCells g o vs) (some g) ∧ (w.setCells g o vs).heap.size = w.heap.size
  | [], _, w => ⟨World.grownBy.refl _ _, rfl⟩
  | v :: r, o, w => by
    obtain ⟨h1, h2⟩ := setCells_grown g r (o + 1) (w.setCell ⟨g, o, none⟩ v)
    exact ⟨grown_trans (grown_set w g o v) h1, h2.trans (by simp)⟩

theorem below_of_grown {w0 w w' : World} {g : Nat} (hb : Below w0.heap.size w0 w) (hg : w.grownBy w' (some g)) (hl : w0.heap.size ≤ g) : Below w0.heap.size w0 w' := hb.grown hg hb.size (fun k e => by injection e with e; omega)

theorem bytes_set {w : World} {g o : Nat} {l : List UInt8} {v : Value} (h : BytesAt w g 0 l) (ho : l.length ≤ o) : BytesAt (w.setCell ⟨g, o, none⟩ v) g 0 l := by
  intro i hi
  rw [World.cell?_setCell_other _ _ _ _ (addr_ne _ _ _ (by omega))]; exact h i hi
theorem spare_set {w : World} {g n k : Nat} {u : Value} (h : ∀ j, j < k → w.cell? ⟨g, n + j, none⟩ = some (.int .u8 77)) (hu : w.cell? ⟨g, n + k, none⟩ = some u) :
    ∀ j, j < k + 1 → (w.setCell ⟨g, n + k, none⟩ (.int .u8 77)).cell? ⟨g, n + j, none⟩ = some (.int .u8 77) := by
  intro j hj
  by_cases e : j = k
  · subst e; exact World.cell?_setCell_same _ _ _ hu
  · rw [World.cell?_setCell_other _ _ _ _ (addr_ne _ _ _ (by omega))]; exact h j (by omega)

theorem row_of_own {w : World} {base g n : Nat} {xs : List Value} (h : w.ownsRow base 5 1 (.slice (some ⟨g, 0, none⟩) n n) n xs) : RowAt w g 5 1 n := by
  rcases h.2 with ⟨e, _⟩ | ⟨g', cap, cur, e, _, h1, _, _, h2, _⟩
  · simp at e
  · injection e with e1 e2 e3; injection e1 with e1; injection e1 with e1; subst e1 e3; exact ⟨cur, h1, h2⟩

theorem empty_size {s : ByteArray} (h : s.toList.isEmpty = true) : s.size = 0 := by
  rw [Lib.toList_data] at h
  rw [size_toList, List.isEmpty_iff.1 h]; rfl

theorem lent_any (s : ByteArray) (b : Bool) (w : World) (hs : s.size ≤ 10000000) (hn : ¬ (s.size = 0 ∧ b = true)) :
    Calls Tryz.prog 70 #[.string s, .bool b] w fun e w' => e = .returned (.slice (some ⟨w.heap.size, 0, none⟩) s.size (s.size + 8)) ∧ LentAt w' w.heap.size s.data.toList ∧ Below w.heap.size w w' := by
  obtain ⟨i0, hi, hz0, hz1, hz2⟩ := info_parts inf_u8
  have hm : i0.bytes * (s.size + 8) ≤ 281474976710656 := by rw [hz2]; omega
  have hcase : (s.toList.isEmpty = false) ∨ (s.toList.isEmpty = true ∧ b = false) := by
    cases hq : s.toList.isEmpty with
    | false => exact .inl rfl
    | true => exact .inr ⟨rfl, by cases b with
      | false => rfl
      | true => exact absurd ⟨empty_size hq, rfl⟩ hn⟩
  clear hn
  have hlen : s.data.toList.length = s.size := by simp
  rcases hcase with hq | ⟨hq, rfl⟩
  all_goals
    go_enter Tryz.func70, Tryz.ntmps70
    go_wp2_with (first | (at_make; go_must (refine wpList_make_full _ rfl _ _ 35 rfl w.heap.size 5 i0 (.int .u8 0) 1 und_bytes hi hz0 hz1 .i64 .i64 _ _ (s.size + 8) rfl rfl (by omega) (by omega) hm (by unfold maxLen; omega) (Nat.le_refl _) ?_; intro w1 hown1 hgrow1; have HR : Hid (RowAt w1 w.heap.size 5 1 (s.size + 8) ∧ Below w.heap.size w w1) := ⟨row_of_own hown1, (Below.refl _ _).grown hgrow1 (Nat.le_refl _) (by simp)⟩; clear hown1 hgrow1)) | (refine wpList_copy_str _ rfl (.tmp 16) (.tmp 17) 35 9 rfl 5 i0 und_bytes hi w.heap.size (s.size + 8) (s.size + 8) rfl s rfl (by omega) ?_ ?_ ?_; (intro j hj; obtain ⟨u, hu⟩ := HR.out.1.there j (by omega); rw [hu]; rfl); (intro j hj; exact HR.out.1.free j)))
    have HC : Hid (RowAt (w1.setCells w.heap.size 0 (vals s.data.toList)) w.heap.size 5 1 (s.size + 8) ∧ BytesAt (w1.setCells w.heap.size 0 (vals s.data.toList)) w.heap.size 0 s.data.toList ∧ Below w.heap.size w (w1.setCells w.heap.size 0 (vals s.data.toList))) :=
      ⟨RowAt.setCells _ _ _ _ HR.out.1, copied HR.out.1 (by omega), below_of_grown HR.out.2 (setCells_grown _ _ _ _).1 (Nat.le_refl _)⟩
    generalize w1.setCells w.heap.size 0 (vals s.data.toList) = w2 at *
    clear HR
    go_loopw [6] (fun i wr => ∃ k : Nat, k ≤ 8 ∧ i = .int .i64 ((s.size : Int) + (k : Int)) ∧ RowAt wr w.heap.size 5 1 (s.size + 8) ∧ BytesAt wr w.heap.size 0 s.data.toList ∧ Below w.heap.size w wr ∧ ∀ j, j < k → wr.cell? ⟨w.heap.size, s.size + j, none⟩ = some (.int .u8 77)) (fun i _ => s.size + 8 - (intOf i).toNat)
    case atStart => exact ⟨0, by omega, by go_num, HC.out.1, HC.out.2.1, HC.out.2.2, by simp⟩
    case round =>
      clear HC
      obtain ⟨k, hk, rfl, p0, p1, p2, p3⟩ := hrel
      have HP : Hid (RowAt wr w.heap.size 5 1 (s.size + 8) ∧ BytesAt wr w.heap.size 0 s.data.toList ∧ Below w.heap.size w wr ∧ ∀ j, j < k → wr.cell? ⟨w.heap.size, s.size + j, none⟩ = some (.int .u8 77)) := ⟨p0, p1, p2, p3⟩
      clear p0 p1 p2 p3
      by_cases hlt : k < 8
      · obtain ⟨u, hu⟩ := HP.out.1.there (s.size + k) (by omega)
        have hfu := HP.out.1.free (s.size + k)
        go_wp2
        go_roundw
        case rel => exact ⟨k + 1, by omega, by go_num, HP.out.1.setCell _ _ _, bytes_set HP.out.2.1 (by omega), HP.out.2.2.1.setCell (Nat.le_refl _) _, spare_set HP.out.2.2.2 hu⟩
        case measure => simp [intOf]; omega
      · have hk8 : k = 8 := by omega
        subst hk8
        go_wp2
        go_ret
        exact ⟨rfl, ⟨by rw [hlen]; exact HP.out.1, HP.out.2.1, by rw [hlen]; exact HP.out.2.2.2⟩, HP.out.2.2.1⟩
end

/-
  What is given back: back; and lists that are nil.
-/
section
set_option maxRecDepth 100000
set_option maxHeartbeats 2000000

theorem lent_nil (w : World) :
    Calls Tryz.prog 70 #[.string ⟨#[]⟩, .bool true] w fun e w' => e = .returned (.slice none 0 0) ∧ w' = w := by
  go_enter Tryz.func70, Tryz.ntmps70
  go_wp2
  go_ret
  exact ⟨rfl, rfl⟩

theorem back_nil (w : World) :
    Calls Tryz.prog 72 #[.slice none 0 0, .string ⟨#[]⟩] w fun e w' => e = .returned (.bool true) ∧ w' = w := by
  have hnil := fun (w : World) (a : Option Addr) (n c : Nat) => Lib.run_eql_slice_nil (P := Tryz.prog) w 35 5 a n c 0 0 und_bytes
  go_enter Tryz.func72, Tryz.ntmps72
  go_wp2
  go_ret
  exact ⟨rfl, rfl⟩

theorem lent_str {w : World} {g c : Nat} {s : ByteArray} (h : LentAt w g s.data.toList) : (convert 35 9 (.slice (some ⟨g, 0, none⟩) s.size c)).run Tryz.prog w = .ok (.string s) w := by
  have hl : s.data.toList.length = s.size := by simp
  have := run_convert_bytes_back (P := Tryz.prog) w 35 9 5 ⟨g, 0, none⟩ c s.data.toList und_bytes und_u8 und_str
    (fun j hj => by
      have hb := h.bytes j hj
      rw [Nat.zero_add] at hb
      rw [show (⟨g, 0, none⟩ : Addr).add j = ⟨g, j, none⟩ from by unfold Addr.add; split <;> simp_all]; exact hb)
  rw [hl] at this
  rw [this, ← ba_eq (h := s) rfl]

theorem back_any (s : ByteArray) (g : Nat) (w : World) (hs : s.size ≤ 10000000) (h : LentAt w g s.data.toList) :
    Calls Tryz.prog 72 #[.slice (some ⟨g, 0, none⟩) s.size (s.size + 8), .string s] w fun e w' => e = .returned (.bool true) ∧ w.grownBy w' (some g) ∧ w'.heap.size = w.heap.size := by
  have hconv := lent_str (c := s.size + 8) h
  have hlen : s.data.toList.length = s.size := by simp
  have HR : Hid (RowAt w g 5 1 (s.size + 8) ∧ ∀ j, j < 8 → w.cell? ⟨g, s.size + j, none⟩ = some (.int .u8 77)) := by have := h.row; have h2 := h.spare; rw [hlen] at this h2; exact ⟨this, h2⟩
  clear h
  have hnil := fun (w : World) (a : Option Addr) (n c : Nat) => Lib.run_eql_slice_nil (P := Tryz.prog) w 35 5 a n c 0 0 und_bytes
  go_enter Tryz.func72, Tryz.ntmps72
  go_wp2
  go_loopw [5, 7] (fun b i wr => ∃ k : Nat, k ≤ s.size + 8 ∧ b = .bool true ∧ i = .int .i64 k ∧ RowAt wr g 5 1 (s.size + 8) ∧ (∀ j, k ≤ s.size + j → j < 8 → wr.cell? ⟨g, s.size + j, none⟩ = some (.int .u8 77)) ∧ w.grownBy wr (some g) ∧ wr.heap.size = w.heap.size) (fun _ i _ => s.size + 8 - (intOf i).toNat)
  case atStart => exact ⟨0, by omega, by simp, rfl, HR.out.1, fun j _ hj => HR.out.2 j hj, World.grownBy.refl _ _, rfl⟩
  case round =>
    obtain ⟨k, hk, rfl, rfl, p0, p1, p2, p3⟩ := hrel
    have HP : Hid (RowAt wr g 5 1 (s.size + 8) ∧ (∀ j, k ≤ s.size + j → j < 8 → wr.cell? ⟨g, s.size + j, none⟩ = some (.int .u8 77)) ∧ w.grownBy wr (some g) ∧ wr.heap.size = w.heap.size) := ⟨p0, p1, p2, p3⟩
    clear p0 p1 p2 p3 HR hconv
    by_cases hlt : k < s.size + 8
    · obtain ⟨u, hu⟩ := HP.out.1.there k (by omega)
      have hfu := HP.out.1.free k
      have HN : Hid (RowAt (wr.setCell ⟨g, k, none⟩ (.int .u8 78)) g 5 1 (s.size + 8) ∧ (∀ j, k + 1 ≤ s.size + j → j < 8 → (wr.setCell ⟨g, k, none⟩ (.int .u8 78)).cell? ⟨g, s.size + j, none⟩ = some (.int .u8 77)) ∧ w.grownBy (wr.setCell ⟨g, k, none⟩ (.int .u8 78)) (some g) ∧ (wr.setCell ⟨g, k, none⟩ (.int .u8 78)).heap.size = w.heap.size) :=
        ⟨HP.out.1.setCell _ _ _, fun j h1 h2 => by rw [World.cell?_setCell_other _ _ _ _ (addr_ne _ _ _ (by omega))]; exact HP.out.2.1 j (by omega) h2, grown_trans HP.out.2.2.1 (grown_set _ _ _ _), by simpa using HP.out.2.2.2⟩
      by_cases hin : k < s.size
      · have hin' : (k : Int) < (s.size : Int) := by omega
        clear HP
        go_wp2
        go_roundw
        case rel => exact ⟨k + 1, by omega, rfl, by go_num, HN.out⟩
        case measure => simp [intOf]; omega
      · have hcell : wr.cell? ⟨g, k, none⟩ = some (.int .u8 77) := by
          have := HP.out.2.1 (k - s.size) (by omega) (by omega); rw [show s.size + (k - s.size) = k from by omega] at this; exact this
        have hd : decide ((k : Int) < (s.size : Int)) = false := by rw [decide_eq_false_iff_not]; omega
        clear HP hu
        go_wp2
        go_roundw
        case rel => exact ⟨k + 1, by omega, rfl, by go_num, HN.out⟩
        case measure => simp [intOf]; omega
    · go_wp2
      go_ret
      exact ⟨rfl, HP.out.2.2⟩
end

/-
  What holds between the steps of a script: the law's world, its scans and the document's, and the book.
-/
section
/-- An entry of the book: a list and three begun at it; each entry of each is the mark of number i; none lies in a bad block. -/
def Ent (e size : Nat) (xf : Nat → Nat → Value) (w : World) (Bad : Nat → Prop) (i : Nat) (v v1 v2 v3 : Value) : Prop :=
  ∃ n, n ≤ 100000000 ∧ AllX e size (xf i) none 0 w v n ∧ AllX e size (xf i) none 0 w v1 (n + 1) ∧ AllX e size (xf i) none 0 w v2 (n + 2) ∧ AllX e size (xf i) none 0 w v3 (n + 64) ∧
    ∀ g, (v.ownBlock = some g ∨ v1.ownBlock = some g ∨ v2.ownBlock = some g ∨ v3.ownBlock = some g) → ¬ Bad g

theorem AllX.blk {e size : Nat} {xf : Nat → Value} {row : Option Nat} {H : Nat} {w : World} {v : Value} {n g : Nat} (h : AllX e size xf row H w v n) (hg : v.ownBlock = some g) : g < w.heap.size ∧ Ok row H g := by
  rcases h with ⟨rfl, _⟩ | ⟨g', cap, rfl, ho, _, hr, _⟩
  · simp [Value.ownBlock] at hg
  · simp [Value.ownBlock] at hg; subst hg; exact ⟨hr.lt, ho⟩
theorem AllX.same {e size : Nat} {xf : Nat → Value} {w w' : World} {v : Value} {n : Nat} (h : AllX e size xf none 0 w v n) (hk : ∀ g, v.ownBlock = some g → w'.heap[g]? = w.heap[g]?) : AllX e size xf none 0 w' v n := by
  rcases h with h | ⟨g, cap, rfl, ho, hn, ⟨cur, h1, h2⟩, hc⟩
  · exact .inl h
  · have hb := hk g rfl
    exact .inr ⟨g, cap, rfl, ho, hn, ⟨cur, hb.trans h1, h2⟩, fun i hi => by rw [World.cell?_of_block (a := ⟨g, i, none⟩) hb]; exact hc i hi⟩
theorem AllX.free {e size : Nat} {xf : Nat → Value} {row : Option Nat} {H : Nat} {w : World} {v : Value} {n : Nat} (h : AllX e size xf row H w v n) : AllX e size xf none 0 w v n := by
  rcases h with h | ⟨g, cap, rfl, _, hn, hr, hc⟩
  · exact .inl h
  · exact .inr ⟨g, cap, rfl, .inr (Nat.zero_le _), hn, hr, hc⟩

theorem Ent.kept {e size : Nat} {xf : Nat → Nat → Value} {w w' : World} {Bad Bad' : Nat → Prop} {i : Nat} {v v1 v2 v3 : Value} (h : Ent e size xf w Bad i v v1 v2 v3)
    (hk : ∀ g, g < w.heap.size → ¬ Bad g → w'.heap[g]? = w.heap[g]?) (hb : ∀ g, g < w.heap.size → Bad' g → Bad g) : Ent e size xf w' Bad' i v v1 v2 v3 := by
  obtain ⟨n, hn, h0, h1, h2, h3, hB⟩ := h
  refine ⟨n, hn, h0.same (fun g hg => hk g (h0.blk hg).1 (hB g (.inl hg))), h1.same (fun g hg => hk g (h1.blk hg).1 (hB g (.inr (.inl hg)))), h2.same (fun g hg => hk g (h2.blk hg).1 (hB g (.inr (.inr (.inl hg))))), h3.same (fun g hg => hk g (h3.blk hg).1 (hB g (.inr (.inr (.inr hg))))), ?_⟩
  intro g hg hb'
  have hlt : g < w.heap.size := by
    rcases hg with h | h | h | h
    · exact (h0.blk h).1
    · exact (h1.blk h).1
    · exact (h2.blk h).1
    · exact (h3.blk h).1
  exact hB g hg (hb g hlt hb')

def BookX (e size : Nat) (xf : Nat → Nat → Value) (te : Nat) (w : World) (base : Nat) (Bad : Nat → Prop) (V : Value) (nb : Nat) : Prop :=
  ∃ xs, w.ownsRow base te 5 V nb xs ∧ ∀ i, i < nb → ∃ v v1 v2 v3, xs[i * 5]? = some v ∧ xs[i * 5 + 1]? = some v1 ∧ xs[i * 5 + 2]? = some v2 ∧ xs[i * 5 + 3]? = some v3 ∧ xs[i * 5 + 4]? = some (.int .i64 (i : Int)) ∧ Ent e size xf w Bad i v v1 v2 v3

theorem BookX.kept {e size : Nat} {xf : Nat → Nat → Value} {te : Nat} {w w' : World} {base : Nat} {Bad Bad' : Nat → Prop} {V : Value} {nb : Nat} (h : BookX e size xf te w base Bad V nb)
    (hV : ∀ g, V.ownBlock = some g → w'.heap[g]? = w.heap[g]?) (hk : ∀ g, g < w.heap.size → ¬ Bad g → w'.heap[g]? = w.heap[g]?) (hb : ∀ g, g < w.heap.size → Bad' g → Bad g) : BookX e size xf te w' base Bad' V nb := by
  obtain ⟨xs, ho, he⟩ := h
  refine ⟨xs, ⟨ho.1, ?_⟩, fun i hi => ?_⟩
  · rcases ho.2 with h | ⟨g, cap, cur, rfl, hbg, hgg, r⟩
    · exact .inl h
    · exact .inr ⟨g, cap, cur, rfl, hbg, (hV g rfl).trans hgg, r⟩
  · obtain ⟨v, v1, v2, v3, q0, q1, q2, q3, q4, hE⟩ := he i hi
    exact ⟨v, v1, v2, v3, q0, q1, q2, q3, q4, hE.kept hk hb⟩

structure Fix where
  W : Nat
  SB : Nat
  RB : Nat
  cs : Nat
  cr : Nat
  B : Nat → Nat
  R : Nat → Nat

def Fix.mem (f : Fix) (g : Nat) : Prop := g = f.W ∨ g = f.SB ∨ g = f.RB ∨ ∃ k, k < 2 ∧ (g = f.B k ∨ g = f.R k)

structure Fix.Apart (f : Fix) : Prop where
  ws : f.W ≠ f.SB
  wr : f.W ≠ f.RB
  sr : f.SB ≠ f.RB
  wb : ∀ k, k < 2 → f.W ≠ f.B k ∧ f.W ≠ f.R k
  sb : ∀ k, k < 2 → f.SB ≠ f.B k ∧ f.SB ≠ f.R k
  rb : ∀ k, k < 2 → f.RB ≠ f.B k ∧ f.RB ≠ f.R k
  br : ∀ k j, k < 2 → j < 2 → f.B k ≠ f.R j
  bb : ∀ k j, k < 2 → j < 2 → f.B k = f.B j → k = j
  rr : ∀ k j, k < 2 → j < 2 → f.R k = f.R j → k = j

def Bad (f : Fix) (X : Nat → Prop) (vb vp : Value) (g : Nat) : Prop := f.mem g ∨ vb.ownBlock = some g ∨ vp.ownBlock = some g ∨ X g

structure Inv (w0 : World) (f : Fix) (X : Nat → Prop) (s t : Nat → Sc) (vb vp : Value) (nb np : Nat) (w : World) : Prop where
  bel : Below w0.heap.size w0 w
  ap : f.Apart
  lo : ∀ g, f.mem g → w0.heap.size ≤ g
  blk : w.heap[f.W]? = some (.cells #[.slice none 0 0, .slice none 0 0, .slice (some ⟨f.SB, 0, none⟩) 2 f.cs, .slice (some ⟨f.RB, 0, none⟩) 2 f.cr, vb, vp] 82 (0, 0))
  sb : ∀ k, k < 2 → w.cell? ⟨f.SB, k, none⟩ = some (.pointer (some ⟨f.B k, 0, none⟩))
  rb : ∀ k, k < 2 → w.cell? ⟨f.RB, k, none⟩ = some (.pointer (some ⟨f.R k, 0, none⟩))
  sc : ∀ k, k < 2 → ScAt w (f.B k) (s k)
  rs : ∀ k, k < 2 → RsAt w (f.R k) (t k)
  bk : BookX 5 1 xfB 139 w w0.heap.size (Bad f X vb vp) vb nb
  pk : BookX 152 3 xfP 142 w w0.heap.size (Bad f X vb vp) vp np
  vbm : ∀ g, vb.ownBlock = some g → ¬ f.mem g ∧ vp.ownBlock ≠ some g ∧ ¬ X g
  vpm : ∀ g, vp.ownBlock = some g → ¬ f.mem g ∧ ¬ X g
  xm : ∀ g, X g → ¬ f.mem g ∧ w0.heap.size ≤ g

section
variable {w0 : World} {f : Fix} {X : Nat → Prop} {s t : Nat → Sc} {vb vp : Value} {nb np : Nat} {w : World}

theorem ScAt.sameBlock {w w' : World} {B : Nat} {s : Sc} (h : ScAt w B s) (hb : w'.heap[B]? = w.heap[B]?) : ScAt w' B s := by
  have hc : ∀ o, w'.cell? ⟨B, o, none⟩ = w.cell? ⟨B, o, none⟩ := fun o => World.cell?_of_block (a := ⟨B, o, none⟩) hb
  have hf : ∀ o, w'.frozen? ⟨B, o, none⟩ = w.frozen? ⟨B, o, none⟩ := fun o => World.frozen?_of_block (a := ⟨B, o, none⟩) hb
  exact ⟨h.st3, h.len, by rw [hc]; exact h.cst, by rw [hc]; exact h.cnt, by rw [hc]; exact h.csum, fun i hi => by rw [hc]; exact h.bytes i hi, fun i hi => by rw [hc]; exact h.there i hi, fun o => by rw [hf]; exact h.free o⟩
theorem RsAt.sameBlock {w w' : World} {R : Nat} {s : Sc} (h : RsAt w R s) (hb : w'.heap[R]? = w.heap[R]?) : RsAt w' R s := by
  have hc : ∀ o, w'.cell? ⟨R, o, none⟩ = w.cell? ⟨R, o, none⟩ := fun o => World.cell?_of_block (a := ⟨R, o, none⟩) hb
  have hf : ∀ o, w'.frozen? ⟨R, o, none⟩ = w.frozen? ⟨R, o, none⟩ := fun o => World.frozen?_of_block (a := ⟨R, o, none⟩) hb
  exact ⟨h.st3, h.len, ⟨by rw [hc]; exact h.cells.c0, by rw [hc]; exact h.cells.c1, by rw [hc]; exact h.cells.c2, fun o => by rw [hf]; exact h.cells.free o⟩⟩

theorem BookX.vlt {e size : Nat} {xf : Nat → Nat → Value} {te : Nat} {w : World} {base : Nat} {Bad : Nat → Prop} {V : Value} {nb g : Nat} (h : BookX e size xf te w base Bad V nb) (hg : V.ownBlock = some g) : base ≤ g ∧ g < w.heap.size := by
  obtain ⟨xs, ho, _⟩ := h; exact ho.lt g hg

theorem Inv.wlt (h : Inv w0 f X s t vb vp nb np w) : f.W < w.heap.size := (Array.getElem?_eq_some_iff.1 h.blk).1

/-- Whatever is done to blocks of X, or new ones. -/
theorem Inv.kept {w' : World} {X' : Nat → Prop} (h : Inv w0 f X s t vb vp nb np w) (h1 : w'.os = w.os) (h2 : w'.tape = w.tape) (h3 : w'.output = w.output) (h4 : w.heap.size ≤ w'.heap.size)
    (hk : ∀ g, g < w.heap.size → ¬ X g → w'.heap[g]? = w.heap[g]?) (hx : ∀ g, X' g → X g ∨ w.heap.size ≤ g) : Inv w0 f X' s t vb vp nb np w' := by
  have hmem : ∀ g, f.mem g → g < w.heap.size → w'.heap[g]? = w.heap[g]? := fun g hg hl => hk g hl (fun hX => (h.xm g hX).1 hg)
  have hsb : f.SB < w.heap.size := World.block_lt_of_cell? w ⟨f.SB, 0, none⟩ (h.sb 0 (by omega))
  have hrb : f.RB < w.heap.size := World.block_lt_of_cell? w ⟨f.RB, 0, none⟩ (h.rb 0 (by omega))
  have hbad : ∀ g, g < w.heap.size → Bad f X' vb vp g → Bad f X vb vp g := by
    rintro g hl (h | h | h | h)
    · exact .inl h
    · exact .inr (.inl h)
    · exact .inr (.inr (.inl h))
    · rcases hx g h with h' | h'
      · exact .inr (.inr (.inr h'))
      · omega
  have hkb : ∀ g, g < w.heap.size → ¬ Bad f X vb vp g → w'.heap[g]? = w.heap[g]? := fun g hl hB => hk g hl (fun hX => hB (.inr (.inr (.inr hX))))
  have hmlt : ∀ g, f.mem g → g < w.heap.size := by
    rintro g (rfl | rfl | rfl | ⟨k, hk2, rfl | rfl⟩)
    · exact h.wlt
    · exact hsb
    · exact hrb
    · exact (h.sc k hk2).lt
    · exact (h.rs k hk2).cells.lt
  refine ⟨?_, h.ap, h.lo, (hmem f.W (.inl rfl) h.wlt).trans h.blk, ?_, ?_, ?_, ?_, ?_, ?_, ?_, ?_, ?_⟩
  · refine ⟨h1.trans h.bel.os, h2.trans h.bel.tape, h3.trans h.bel.output, Nat.le_trans h.bel.size h4, fun k hk' => (hk k (Nat.lt_of_lt_of_le hk' h.bel.size) (fun hX => by have := (h.xm k hX).2; omega)).trans (h.bel.block k hk')⟩
  · intro k hk2; rw [World.cell?_of_block (a := ⟨f.SB, k, none⟩) (hmem f.SB (.inr (.inl rfl)) hsb)]; exact h.sb k hk2
  · intro k hk2; rw [World.cell?_of_block (a := ⟨f.RB, k, none⟩) (hmem f.RB (.inr (.inr (.inl rfl))) hrb)]; exact h.rb k hk2
  · intro k hk2; exact (h.sc k hk2).sameBlock (hmem _ (.inr (.inr (.inr ⟨k, hk2, .inl rfl⟩))) (h.sc k hk2).lt)
  · intro k hk2; exact (h.rs k hk2).sameBlock (hmem _ (.inr (.inr (.inr ⟨k, hk2, .inr rfl⟩))) (h.rs k hk2).cells.lt)
  · exact h.bk.kept (fun g hg => hk g (h.bk.vlt hg).2 (h.vbm g hg).2.2) hkb hbad
  · exact h.pk.kept (fun g hg => hk g (h.pk.vlt hg).2 (h.vpm g hg).2) hkb hbad
  · intro g hg
    refine ⟨(h.vbm g hg).1, (h.vbm g hg).2.1, fun hX => ?_⟩
    rcases hx g hX with h' | h'
    · exact (h.vbm g hg).2.2 h'
    · have := (h.bk.vlt hg).2; omega
  · intro g hg
    refine ⟨(h.vpm g hg).1, fun hX => ?_⟩
    rcases hx g hX with h' | h'
    · exact (h.vpm g hg).2 h'
    · have := (h.pk.vlt hg).2; omega
  · intro g hX
    rcases hx g hX with h' | h'
    · exact h.xm g h'
    · exact ⟨fun hm => by have := hmlt g hm; omega, by have := h.bel.size; omega⟩

/-- New blocks alone. -/
theorem Inv.below {w' : World} (h : Inv w0 f X s t vb vp nb np w) (hb : Below w.heap.size w w') : Inv w0 f X s t vb vp nb np w' :=
  h.kept hb.os hb.tape hb.output hb.size (fun g hl _ => hb.block g hl) (fun _ hX => .inl hX)
theorem Inv.fresh {w' : World} (h : Inv w0 f X s t vb vp nb np w) (hb : Below w.heap.size w w') : Inv w0 f (fun g => X g ∨ w.heap.size ≤ g) s t vb vp nb np w' :=
  h.kept hb.os hb.tape hb.output hb.size (fun g hl _ => hb.block g hl) (fun _ hX => hX)
end
end

/-
  One entry more in the book.
-/
section
section
variable {w0 : World} {f : Fix} {X : Nat → Prop} {s t : Nat → Sc} {vb vp : Value} {nb np : Nat} {w w3 : World}

theorem set_blk {w : World} {W k : Nat} {cs : Array Value} {T : TypeId} (h : w.heap[W]? = some (.cells cs T (0, 0))) (v : Value) : (w.setCell ⟨W, k, none⟩ v).heap[W]? = some (.cells (cs.setIfInBounds k v) T (0, 0)) := by
  simp only [World.setCell, Array.getElem?_modify, h]; simp

end
end

/-
  The book's byte: a list of bytes that came out is its owner's.
-/
section
set_option maxRecDepth 100000
set_option maxHeartbeats 600000

/-- A list that the owner may write over: nil, or a row of its own. -/
def Out (e size : Nat) (w : World) (X : Nat → Prop) (v : Value) (n : Nat) : Prop := (v = .slice none 0 0 ∧ n = 0) ∨ ∃ g cap, v = .slice (some ⟨g, 0, none⟩) n cap ∧ n ≤ cap ∧ RowAt w g e size cap ∧ X g

section
variable {w0 : World} {f : Fix} {X : Nat → Prop} {s t : Nat → Sc} {vb vp : Value} {nb np : Nat} {w w1 : World}

theorem Out.blk {e size : Nat} {v : Value} {n g : Nat} (h : Out e size w X v n) (hg : v.ownBlock = some g) : X g := by
  rcases h with ⟨rfl, _⟩ | ⟨g', cap, rfl, _, _, hX⟩
  · simp [Value.ownBlock] at hg
  · simp [Value.ownBlock] at hg; subst hg; exact hX

theorem Inv.own {e size : Nat} {v : Value} {n : Nat} (h : Inv w0 f X s t vb vp nb np w) (hv : Out e size w X v n) (hg : w.grownBy w1 v.ownBlock) : Inv w0 f (fun g => X g ∧ v.ownBlock ≠ some g) s t vb vp nb np w1 :=
  h.kept hg.os hg.tape hg.output hg.size (fun k hl hnX => hg.block k hl (fun e => hnX (hv.blk e.symm))) (fun _ hX => .inl hX.1)

theorem Inv.cell (h : Inv w0 f X s t vb vp nb np w) : w.cell? ⟨f.W, 2, none⟩ = some (.slice (some ⟨f.SB, 0, none⟩) 2 f.cs) ∧ w.cell? ⟨f.W, 3, none⟩ = some (.slice (some ⟨f.RB, 0, none⟩) 2 f.cr) ∧ w.cell? ⟨f.W, 4, none⟩ = some vb ∧ w.cell? ⟨f.W, 5, none⟩ = some vp ∧ ∀ o, w.frozen? ⟨f.W, o, none⟩ = false := by
  have hc : ∀ o, w.cell? ⟨f.W, o, none⟩ = _ := fun o => cell_of_row w f.W o _ _ (0, 0) h.blk
  exact ⟨hc 2, hc 3, hc 4, hc 5, fun o => by simp [World.frozen?, h.blk]⟩

end

section
variable {w0 : World} {f : Fix} {X : Nat → Prop} {s t : Nat → Sc} {vb vp : Value} {nb np : Nat} {w w1 w3 : World}
end
end

/-
  The book's looks: each list that came out bears its own mark.
-/
section
set_option maxRecDepth 100000
set_option maxHeartbeats 2000000

theorem Ent.one {e size : Nat} {xf : Nat → Nat → Value} {w : World} {B : Nat → Prop} {i : Nat} {v v1 v2 v3 : Value} (h : Ent e size xf w B i v v1 v2 v3) : ∃ a0 k0 c0 a1 k1 c1 a2 k2 c2 a3 k3 c3, v = .slice a0 k0 c0 ∧ v1 = .slice a1 k1 c1 ∧ v2 = .slice a2 k2 c2 ∧ v3 = .slice a3 k3 c3 := by
  have sh : ∀ {u : Value} {n : Nat}, AllX e size (xf i) none 0 w u n → ∃ a k c, u = .slice a k c := by
    rintro u n (⟨rfl, _⟩ | ⟨g, cap, rfl, _⟩)
    · exact ⟨_, _, _, rfl⟩
    · exact ⟨_, _, _, rfl⟩
  obtain ⟨n, _, h0, h1, h2, h3, _⟩ := h
  obtain ⟨a0, k0, c0, e0⟩ := sh h0
  obtain ⟨a1, k1, c1, e1⟩ := sh h1
  obtain ⟨a2, k2, c2, e2⟩ := sh h2
  obtain ⟨a3, k3, c3, e3⟩ := sh h3
  exact ⟨a0, k0, c0, a1, k1, c1, a2, k2, c2, a3, k3, c3, e0, e1, e2, e3⟩
end

/-
  The law's world while its scans are made.
-/
section
def sc00 : Sc := ⟨0, [], 0⟩
def ptr (n : Nat) : Value := .pointer (some ⟨n, 0, none⟩)
def ptrs (B : Nat → Nat) (k : Nat) : List Value := (List.range k).map fun i => ptr (B i)

theorem own_same {w w' : World} {base te size n : Nat} {V : Value} {xs : List Value} (h : w.ownsRow base te size V n xs) (hV : ∀ g, V.ownBlock = some g → w'.heap[g]? = w.heap[g]?) : w'.ownsRow base te size V n xs := by
  refine ⟨h.1, ?_⟩
  rcases h.2 with h | ⟨g, cap, cur, rfl, hbg, hgg, r⟩
  · exact .inl h
  · exact .inr ⟨g, cap, cur, rfl, hbg, (hV g rfl).trans hgg, r⟩

theorem ptrs_push (B : Nat → Nat) (k n : Nat) : ptrs (fun i => if i = k then n else B i) (k + 1) = ptrs B k ++ [ptr n] := by
  unfold ptrs
  rw [List.range_succ, List.map_append]
  congr 1
  · exact List.map_congr_left fun i hi => by
      have h1 := List.mem_range.1 hi
      have h2 : i ≠ k := by omega
      simp [h2]
  · simp

structure Boot (w0 : World) (W : Nat) (tag : Nat → Nat) (B R : Nat → Nat) (ks kr : Nat) (vs vr : Value) (w : World) : Prop where
  bel : Below w0.heap.size w0 w
  loW : w0.heap.size ≤ W
  loB : ∀ i, i < ks → w0.heap.size ≤ B i
  loR : ∀ i, i < kr → w0.heap.size ≤ R i
  blk : w.heap[W]? = some (.cells #[.slice none 0 0, .slice none 0 0, vs, vr, .slice none 0 0, .slice none 0 0] 82 (0, 0))
  oS : w.ownsRow w0.heap.size 83 1 vs ks (ptrs B ks)
  oR : w.ownsRow w0.heap.size 85 1 vr kr (ptrs R kr)
  sc : ∀ i, i < ks → ScAt w (B i) sc00
  rs : ∀ i, i < kr → RsAt w (R i) sc00
  tW : tag W = 0
  tS : ∀ g, vs.ownBlock = some g → tag g = 1
  tR : ∀ g, vr.ownBlock = some g → tag g = 2
  tB : ∀ i, i < ks → tag (B i) = 3 + 2 * i
  tr : ∀ i, i < kr → tag (R i) = 4 + 2 * i

section
variable {w0 : World} {W : Nat} {tag : Nat → Nat} {B R : Nat → Nat} {ks kr : Nat} {vs vr : Value} {w : World}

theorem Boot.wlt (h : Boot w0 W tag B R ks kr vs vr w) : W < w.heap.size := (Array.getElem?_eq_some_iff.1 h.blk).1

theorem Boot.below {w' : World} (h : Boot w0 W tag B R ks kr vs vr w) (hb : Below w.heap.size w w') : Boot w0 W tag B R ks kr vs vr w' :=
  ⟨h.bel.trans (hb.mono h.bel.size), h.loW, h.loB, h.loR, (hb.block _ h.wlt).trans h.blk, own_same h.oS (fun g hg => hb.block g (h.oS.lt g hg).2), own_same h.oR (fun g hg => hb.block g (h.oR.lt g hg).2),
   fun i hi => (h.sc i hi).sameBlock (hb.block _ (h.sc i hi).lt), fun i hi => (h.rs i hi).sameBlock (hb.block _ (h.rs i hi).cells.lt), h.tW, h.tS, h.tR, h.tB, h.tr⟩

theorem Boot.tagged {tag' : Nat → Nat} (h : Boot w0 W tag B R ks kr vs vr w) (ht : ∀ g, g < w.heap.size → tag' g = tag g) : Boot w0 W tag' B R ks kr vs vr w :=
  ⟨h.bel, h.loW, h.loB, h.loR, h.blk, h.oS, h.oR, h.sc, h.rs, (ht _ h.wlt).trans h.tW, fun g hg => (ht g (h.oS.lt g hg).2).trans (h.tS g hg), fun g hg => (ht g (h.oR.lt g hg).2).trans (h.tR g hg),
   fun i hi => (ht _ (h.sc i hi).lt).trans (h.tB i hi), fun i hi => (ht _ (h.rs i hi).cells.lt).trans (h.tr i hi)⟩

theorem Boot.pushS {n g' cap' : Nat} {w3 : World} (h : Boot w0 W tag B R ks kr vs vr w) (hn : ScAt w n sc00) (hlo : w0.heap.size ≤ n) (htn : tag n = 3 + 2 * ks)
    (hown : w3.ownsRow w0.heap.size 83 1 (.slice (some ⟨g', 0, none⟩) (ks + 1) cap') (ks + 1) (ptrs B ks ++ [ptr n])) (hg : w.grownBy w3 vs.ownBlock) (hat : vs.ownBlock = some g' ∨ g' = w.heap.size) :
    Boot w0 W (fun g => if w.heap.size ≤ g then 1 else tag g) (fun i => if i = ks then n else B i) R (ks + 1) kr (.slice (some ⟨g', 0, none⟩) (ks + 1) cap') vr (w3.setCell ⟨W, 2, none⟩ (.slice (some ⟨g', 0, none⟩) (ks + 1) cap')) := by
  have hWne : some W ≠ vs.ownBlock := fun e => by have h1 := h.tS W e.symm; have h2 := h.tW; omega
  have hgW : g' ≠ W := by
    rcases hat with e | e
    · exact fun e2 => hWne (by rw [← e2]; exact e.symm)
    · have := h.wlt; omega
  have hkeep : ∀ g, g < w.heap.size → tag g ≠ 0 → tag g ≠ 1 → (w3.setCell ⟨W, 2, none⟩ (.slice (some ⟨g', 0, none⟩) (ks + 1) cap')).heap[g]? = w.heap[g]? := fun g hl h0 h1 => by
    rw [Below.heap_setCell _ _ _ _ (fun e => h0 (by rw [e]; exact h.tW))]
    exact hg.block g hl (fun e => h1 (h.tS g e.symm))
  have htag : ∀ g, g < w.heap.size → (if w.heap.size ≤ g then 1 else tag g) = tag g := fun g hl => if_neg (by omega)
  refine ⟨?_, h.loW, ?_, ?_, ?_, ?_, ?_, ?_, ?_, ?_, ?_, ?_, ?_, ?_⟩
  · have hloW := h.loW
    refine ⟨hg.os.trans h.bel.os, hg.tape.trans h.bel.tape, hg.output.trans h.bel.output, ?_, fun k hk => ?_⟩
    · have h1 := h.bel.size; have h2 := hg.size; simp; omega
    · rw [Below.heap_setCell _ _ _ _ (show k ≠ W by omega)]
      refine (hg.block k (by have := h.bel.size; omega) (fun e => ?_)).trans (h.bel.block k hk)
      have := (h.oS.lt k e.symm).1
      omega
  · intro i hi
    by_cases e : i = ks
    · simp [e]; exact hlo
    · simp [e]; exact h.loB i (by omega)
  · exact h.loR
  · exact set_blk ((hg.block W h.wlt hWne).trans h.blk) _
  · rw [ptrs_push]
    exact own_same hown (fun g e => by
      have e2 : g' = g := by simpa [Value.ownBlock] using e
      subst e2
      exact Below.heap_setCell _ _ _ _ hgW)
  · exact own_same h.oR (fun g e => hkeep g (h.oR.lt g e).2 (by rw [h.tR g e]; omega) (by rw [h.tR g e]; omega))
  · intro i hi
    by_cases e : i = ks
    · simp only [if_pos e]; exact hn.sameBlock (hkeep n hn.lt (by omega) (by omega))
    · simp only [if_neg e]; exact (h.sc i (by omega)).sameBlock (hkeep _ (h.sc i (by omega)).lt (by rw [h.tB i (by omega)]; omega) (by rw [h.tB i (by omega)]; omega))
  · intro i hi
    exact (h.rs i hi).sameBlock (hkeep _ (h.rs i hi).cells.lt (by rw [h.tr i hi]; omega) (by rw [h.tr i hi]; omega))
  · exact (htag _ h.wlt).trans h.tW
  · intro g e
    have e2 : g' = g := by simpa [Value.ownBlock] using e
    subst e2
    rcases hat with e | e
    · exact (htag _ (h.oS.lt _ e).2).trans (h.tS _ e)
    · exact if_pos (by omega)
  · intro g e
    exact (htag _ (h.oR.lt _ e).2).trans (h.tR _ e)
  · intro i hi
    by_cases e : i = ks
    · simp only [if_pos e]; exact (htag _ hn.lt).trans (by rw [htn, e])
    · simp only [if_neg e]; exact (htag _ (h.sc i (by omega)).lt).trans (h.tB i (by omega))
  · intro i hi
    exact (htag _ (h.rs i hi).cells.lt).trans (h.tr i hi)

theorem Boot.pushR {n g' cap' : Nat} {w3 : World} (h : Boot w0 W tag B R ks kr vs vr w) (hn : RsAt w n sc00) (hlo : w0.heap.size ≤ n) (htn : tag n = 4 + 2 * kr)
    (hown : w3.ownsRow w0.heap.size 85 1 (.slice (some ⟨g', 0, none⟩) (kr + 1) cap') (kr + 1) (ptrs R kr ++ [ptr n])) (hg : w.grownBy w3 vr.ownBlock) (hat : vr.ownBlock = some g' ∨ g' = w.heap.size) :
    Boot w0 W (fun g => if w.heap.size ≤ g then 2 else tag g) B (fun i => if i = kr then n else R i) ks (kr + 1) vs (.slice (some ⟨g', 0, none⟩) (kr + 1) cap') (w3.setCell ⟨W, 3, none⟩ (.slice (some ⟨g', 0, none⟩) (kr + 1) cap')) := by
  have hWne : some W ≠ vr.ownBlock := fun e => by have h1 := h.tR W e.symm; have h2 := h.tW; omega
  have hgW : g' ≠ W := by
    rcases hat with e | e
    · exact fun e2 => hWne (by rw [← e2]; exact e.symm)
    · have := h.wlt; omega
  have hkeep : ∀ g, g < w.heap.size → tag g ≠ 0 → tag g ≠ 2 → (w3.setCell ⟨W, 3, none⟩ (.slice (some ⟨g', 0, none⟩) (kr + 1) cap')).heap[g]? = w.heap[g]? := fun g hl h0 h1 => by
    rw [Below.heap_setCell _ _ _ _ (fun e => h0 (by rw [e]; exact h.tW))]
    exact hg.block g hl (fun e => h1 (h.tR g e.symm))
  have htag : ∀ g, g < w.heap.size → (if w.heap.size ≤ g then 2 else tag g) = tag g := fun g hl => if_neg (by omega)
  refine ⟨?_, h.loW, ?_, ?_, ?_, ?_, ?_, ?_, ?_, ?_, ?_, ?_, ?_, ?_⟩
  · have hloW := h.loW
    refine ⟨hg.os.trans h.bel.os, hg.tape.trans h.bel.tape, hg.output.trans h.bel.output, ?_, fun k hk => ?_⟩
    · have h1 := h.bel.size; have h2 := hg.size; simp; omega
    · rw [Below.heap_setCell _ _ _ _ (show k ≠ W by omega)]
      refine (hg.block k (by have := h.bel.size; omega) (fun e => ?_)).trans (h.bel.block k hk)
      have := (h.oR.lt k e.symm).1
      omega
  · exact h.loB
  · intro i hi
    by_cases e : i = kr
    · simp [e]; exact hlo
    · simp [e]; exact h.loR i (by omega)
  · exact set_blk ((hg.block W h.wlt hWne).trans h.blk) _
  · exact own_same h.oS (fun g e => hkeep g (h.oS.lt g e).2 (by rw [h.tS g e]; omega) (by rw [h.tS g e]; omega))
  · rw [ptrs_push]
    exact own_same hown (fun g e => by
      have e2 : g' = g := by simpa [Value.ownBlock] using e
      subst e2
      exact Below.heap_setCell _ _ _ _ hgW)
  · intro i hi
    exact (h.sc i hi).sameBlock (hkeep _ (h.sc i hi).lt (by rw [h.tB i hi]; omega) (by rw [h.tB i hi]; omega))
  · intro i hi
    by_cases e : i = kr
    · simp only [if_pos e]; exact hn.sameBlock (hkeep n hn.cells.lt (by omega) (by omega))
    · simp only [if_neg e]; exact (h.rs i (by omega)).sameBlock (hkeep _ (h.rs i (by omega)).cells.lt (by rw [h.tr i (by omega)]; omega) (by rw [h.tr i (by omega)]; omega))
  · exact (htag _ h.wlt).trans h.tW
  · intro g e
    exact (htag _ (h.oS.lt _ e).2).trans (h.tS _ e)
  · intro g e
    have e2 : g' = g := by simpa [Value.ownBlock] using e
    subst e2
    rcases hat with e | e
    · exact (htag _ (h.oR.lt _ e).2).trans (h.tR _ e)
    · exact if_pos (by omega)
  · intro i hi
    exact (htag _ (h.sc i hi).lt).trans (h.tB i hi)
  · intro i hi
    by_cases e : i = kr
    · simp only [if_pos e]; exact (htag _ hn.cells.lt).trans (by rw [htn, e])
    · simp only [if_neg e]; exact (htag _ (h.rs i (by omega)).cells.lt).trans (h.tr i (by omega))

end
end

/-
  The play of a script.
-/
section
set_option maxRecDepth 100000
set_option maxHeartbeats 2000000

/-- A step of a script, as it lies in memory. -/
def OpAt (p : Int → Prop) (w : World) (g o : Nat) : Prop := ∃ (k a b : Int) (S : ByteArray) (n q : Bool) (ca : Option Addr) (cl cc : Nat) (rom : Int),
  w.cell? ⟨g, o, none⟩ = some (.int .i64 k) ∧ w.cell? ⟨g, o + 1, none⟩ = some (.int .i64 a) ∧ w.cell? ⟨g, o + 2, none⟩ = some (.int .i64 b) ∧ w.cell? ⟨g, o + 3, none⟩ = some (.string S) ∧ w.cell? ⟨g, o + 4, none⟩ = some (.bool n) ∧ w.cell? ⟨g, o + 5, none⟩ = some (.bool q) ∧ w.cell? ⟨g, o + 6, none⟩ = some (.slice ca cl cc) ∧ w.cell? ⟨g, o + 7, none⟩ = some (.int .i64 rom) ∧
  S.size ≤ 4000000 ∧ -9223372036854775808 ≤ a ∧ a ≤ 9223372036854775807 ∧ p k

theorem OpAt.later {p : Int → Prop} {w w' : World} {g o : Nat} (h : OpAt p w g o) (hb : Below w.heap.size w w') : OpAt p w' g o := by
  obtain ⟨k, a, b, S, n, q, ca, cl, cc, rom, h0, h1, h2, h3, h4, h5, h6, h7, r⟩ := h
  exact ⟨k, a, b, S, n, q, ca, cl, cc, rom, cell_later hb h0, cell_later hb h1, cell_later hb h2, cell_later hb h3, cell_later hb h4, cell_later hb h5, cell_later hb h6, cell_later hb h7, r⟩

theorem inf_pS : (Tryz.prog.info? 83).map (fun i => (i.zero, i.size, i.bytes)) = some (some (.pointer none), 1, 8) := by kernel_rfl
theorem inf_pR : (Tryz.prog.info? 85).map (fun i => (i.zero, i.size, i.bytes)) = some (some (.pointer none), 1, 8) := by kernel_rfl
theorem und_pS : Tryz.prog.underlying 75 = some (.slice 83) := by kernel_rfl
theorem und_pR : Tryz.prog.underlying 76 = some (.slice 85) := by kernel_rfl

theorem boot_new (w : World) : Boot w w.heap.size (fun _ => 0) (fun _ => 0) (fun _ => 0) 0 0 (.slice none 0 0) (.slice none 0 0) (w.alloc (.cells #[.slice none 0 0, .slice none 0 0, .slice none 0 0, .slice none 0 0, .slice none 0 0, .slice none 0 0] 82)) :=
  ⟨(Below.refl _ _).alloc (Nat.le_refl _) _, Nat.le_refl _, fun i hi => absurd hi (by omega), fun i hi => absurd hi (by omega), heap_alloc_new w _, World.ownsRow_nil _ _ _ _, World.ownsRow_nil _ _ _ _, fun i hi => absurd hi (by omega), fun i hi => absurd hi (by omega), rfl, fun g e => by simp [Value.ownBlock] at e, fun g e => by simp [Value.ownBlock] at e, fun i hi => absurd hi (by omega), fun i hi => absurd hi (by omega)⟩

theorem rs_new (w : World) (t : TypeId) : RsAt (w.alloc (.cells #[.string ⟨#[]⟩, .bool false, .int .i64 0] t)) w.heap.size sc00 :=
  ⟨by simp [sc00], by simp [sc00], ⟨World.cell?_alloc_at _ _ _ _ rfl, World.cell?_alloc_at _ _ _ _ rfl, World.cell?_alloc_at _ _ _ _ rfl, fun o => World.frozen?_alloc_at _ _ _ _ rfl⟩⟩

theorem one_new3 (w : World) (o : Obj) (x : Value) (t : TypeId) (n : Nat) (hn : n = w.heap.size + 1) : ∀ j u, [x][j]? = some u → ((w.alloc o).alloc (.cells #[x] t)).cell? ((⟨n, 0, none⟩ : Addr).add j) = some u := by
  have := one_new' (w.alloc o) x t
  rw [hn]
  simpa using this

theorem ptr_one (n : Nat) : ∀ u ∈ [Value.pointer (some ⟨n, 0, none⟩)], u.oneCell' = true := by
  intro u hu; simp at hu; subst hu; rfl

section
variable {w0 : World} {W : Nat} {tag : Nat → Nat} {B R : Nat → Nat} {ks kr : Nat} {vs vr : Value} {w : World}
theorem Boot.cell (h : Boot w0 W tag B R ks kr vs vr w) : w.cell? ⟨W, 2, none⟩ = some vs ∧ w.cell? ⟨W, 3, none⟩ = some vr ∧ ∀ o, w.frozen? ⟨W, o, none⟩ = false := by
  have hc : ∀ o, w.cell? ⟨W, o, none⟩ = _ := fun o => cell_of_row w W o _ _ (0, 0) h.blk
  exact ⟨hc 2, hc 3, fun o => by simp [World.frozen?, h.blk]⟩
theorem Boot.shape (h : Boot w0 W tag B R ks kr vs vr w) : ∃ aS cs ar cr, vs = .slice aS ks cs ∧ vr = .slice ar kr cr := by
  have one : ∀ {te n : Nat} {v : Value} {xs : List Value}, w.ownsRow w0.heap.size te 1 v n xs → ∃ a c, v = .slice a n c := by
    intro te n v xs h
    rcases h.2 with ⟨rfl, rfl⟩ | ⟨g, cap, _, rfl, _⟩
    · exact ⟨_, _, rfl⟩
    · exact ⟨_, _, rfl⟩
  obtain ⟨a, c, e⟩ := one h.oS
  obtain ⟨a', c', e'⟩ := one h.oR
  exact ⟨a, c, a', c', e, e'⟩
theorem Boot.keptS {w3 : World} (h : Boot w0 W tag B R ks kr vs vr w) (hg : w.grownBy w3 vs.ownBlock) : w3.cell? ⟨W, 2, none⟩ = some vs ∧ w3.frozen? ⟨W, 2, none⟩ = false ∧ w3.cell? ⟨W, 3, none⟩ = some vr ∧ W < w3.heap.size := by
  have hb := hg.block W h.wlt (fun e => by have h1 := h.tS W e.symm; have h2 := h.tW; omega)
  exact ⟨(World.cell?_of_block (a := ⟨W, 2, none⟩) hb).trans h.cell.1, (World.frozen?_of_block (a := ⟨W, 2, none⟩) hb).trans (h.cell.2.2 2), (World.cell?_of_block (a := ⟨W, 3, none⟩) hb).trans h.cell.2.1, Nat.lt_of_lt_of_le h.wlt hg.size⟩
theorem Boot.more (h : Boot w0 W tag B R ks kr vs vr w) (o p : Obj) : ∃ tag', Boot w0 W tag' B R ks kr vs vr ((w.alloc o).alloc p) ∧ tag' w.heap.size = 4 + 2 * kr :=
  ⟨fun g => if g = w.heap.size then 4 + 2 * kr else tag g, (h.tagged (fun g hl => if_neg (by omega))).below (below2 _ _ _), if_pos rfl⟩
theorem Boot.endR {w3 : World} {k g' cap' : Nat} (h : Boot w0 W tag B R ks k vs vr w) (o : Obj) (t : TypeId) (n : Nat) (hn : n = w.heap.size)
    (hown : w3.ownsRow w0.heap.size 85 1 (.slice (some ⟨g', 0, none⟩) (k + 1) cap') (k + 1) (ptrs R k ++ [ptr n])) (hg : ((w.alloc (.cells #[.string ⟨#[]⟩, .bool false, .int .i64 0] t)).alloc o).grownBy w3 vr.ownBlock) (hat : vr.ownBlock = some g' ∨ g' = ((w.alloc (.cells #[.string ⟨#[]⟩, .bool false, .int .i64 0] t)).alloc o).heap.size) :
    ∃ tag R', Boot w0 W tag B R' ks (k + 1) vs (.slice (some ⟨g', 0, none⟩) (k + 1) cap') (w3.setCell ⟨W, 3, none⟩ (.slice (some ⟨g', 0, none⟩) (k + 1) cap')) := by
  subst hn
  obtain ⟨tag', hB, ht⟩ := h.more (.cells #[.string ⟨#[]⟩, .bool false, .int .i64 0] t) o
  exact ⟨_, _, hB.pushR ((rs_new w t).sameBlock (Below.heap_alloc _ _ _ (by simp))) h.bel.size ht hown hg hat⟩
theorem Boot.keptR {w3 : World} (h : Boot w0 W tag B R ks kr vs vr w) (hg : w.grownBy w3 vr.ownBlock) : w3.cell? ⟨W, 3, none⟩ = some vr ∧ w3.frozen? ⟨W, 3, none⟩ = false := by
  have hb := hg.block W h.wlt (fun e => by have h1 := h.tR W e.symm; have h2 := h.tW; omega)
  exact ⟨(World.cell?_of_block (a := ⟨W, 3, none⟩) hb).trans h.cell.2.1, (World.frozen?_of_block (a := ⟨W, 3, none⟩) hb).trans (h.cell.2.2 3)⟩
end
end

end Go.Proofs.YtcgjliflnnklnaaGreat
