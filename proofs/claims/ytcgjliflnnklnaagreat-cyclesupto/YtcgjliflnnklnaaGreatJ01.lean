/-
  Joined texts.
-/
import Derived.WalkKit
import Derived.WalkSpells
import Derived.WalkLawsBesides
import Derived.Laws.BitsAllLaws
import Derived.Deep.AppendLies
import Derived.Deep.RegionLaw
import Derived.Deep.RegionHeld3
import Derived.Deep.QuietTactic
import Derived.BigQuiet
import Derived.ArgAppend
import Derived.Lib.Strings
import Derived.Test.YtcgjliflnnklnaaGreatProg
import Derived.Test.YtcgjliflnnklnaaGreatJ11
import Derived.Test.YtcgjliflnnklnaaGreatCpCz
namespace Go.Proofs.YtcgjliflnnklnaaGreat
open Go.RowKit

/-
  Joined texts.
-/
section
set_option maxRecDepth 100000
set_option maxHeartbeats 2000000

/-
  Leaf walks of the wire package: hexValue, hexByte, pick.
-/
section
def hv (c : UInt8) : UInt8 × Bool :=
  if 48 ≤ c ∧ c ≤ 57 then (c - 48, true) else if 97 ≤ c ∧ c ≤ 102 then (c - 97 + 10, true) else if 65 ≤ c ∧ c ≤ 70 then (c - 65 + 10, true) else (0, false)

theorem ret_int {k : IntKind} {a b : Int} (h : a = b) : Ending.returned (.int k a) = .returned (.int k b) := by rw [h]

theorem pick_lt (c n : Int) (h : 1 ≤ n) (hc : c < 0) : 0 ≤ -(c + 1).tmod n ∧ -(c + 1).tmod n < n := by
  rw [← Int.neg_tmod, Int.tmod_eq_emod_of_nonneg (by omega)]
  exact ⟨Int.emod_nonneg _ (by omega), Int.emod_lt_of_pos _ (by omega)⟩

def hb (h l : UInt8) : UInt8 × Bool := if (hv h).2 = true ∧ (hv l).2 = true then ((hv h).1 <<< 4 ||| (hv l).1, true) else (0, false)

end

/-
  The scanner's leaf walks: sum, begin, gather, take.
-/
section
/-- The bytes l stand in the world from an address on. -/
def BytesAt (w : World) (b off : Nat) (l : List UInt8) : Prop := ∀ i, (h : i < l.length) → w.cell? ⟨b, off + i, none⟩ = some (.int .u8 (l[i].toNat : Int))

theorem take_snoc8 (l : List UInt8) (k : Nat) (h : k < l.length) : l.take (k + 1) = l.take k ++ [l[k]] := by
  rw [List.take_succ_eq_append_getElem h]

structure Sc where
  st : Nat
  raw : List UInt8
  sum : UInt8

def Sc.step (s : Sc) (c : UInt8) : Sc :=
  if s.st = 0 then (if c = 36 then ⟨1, [], s.sum⟩ else s)
  else if s.st = 1 then (if c = 36 then ⟨1, [], s.sum⟩ else if c = 35 then ⟨2, s.raw, s.sum⟩ else if s.raw.length = 200 then ⟨0, s.raw, s.sum⟩ else ⟨1, s.raw ++ [c], s.sum⟩)
  else if s.st = 2 then ⟨3, s.raw, c⟩
  else ⟨0, s.raw, s.sum⟩

/-- A scanner lies in block B. -/
structure ScAt (w : World) (B : Nat) (s : Sc) : Prop where
  st3 : s.st ≤ 3
  len : s.raw.length ≤ 200
  cst : w.cell? ⟨B, 0, none⟩ = some (.int .u8 (s.st : Int))
  cnt : w.cell? ⟨B, 201, none⟩ = some (.int .i64 (s.raw.length : Int))
  csum : w.cell? ⟨B, 202, none⟩ = some (.int .u8 (s.sum.toNat : Int))
  bytes : BytesAt w B 1 s.raw
  there : ∀ i, i < 200 → ∃ v, w.cell? ⟨B, 1 + i, none⟩ = some v
  free : ∀ o, w.frozen? ⟨B, o, none⟩ = false

theorem addr_ne (B a b : Nat) (h : a ≠ b) : (⟨B, a, none⟩ : Addr) ≠ ⟨B, b, none⟩ := by
  intro e; injection e with e1 e2; exact h e2

theorem ScAt.setSt {w : World} {B : Nat} {s : Sc} (h : ScAt w B s) (n : Nat) (hn : n ≤ 3) : ScAt (w.setCell ⟨B, 0, none⟩ (.int .u8 (n : Int))) B ⟨n, s.raw, s.sum⟩ := by
  refine ⟨hn, h.len, World.cell?_setCell_same _ _ _ h.cst, ?_, ?_, ?_, ?_, ?_⟩
  · rw [World.cell?_setCell_other _ _ _ _ (addr_ne _ _ _ (by omega))]; exact h.cnt
  · rw [World.cell?_setCell_other _ _ _ _ (addr_ne _ _ _ (by omega))]; exact h.csum
  · intro i hi; rw [World.cell?_setCell_other _ _ _ _ (addr_ne _ _ _ (by omega))]; exact h.bytes i hi
  · intro i hi; rw [World.cell?_setCell_other _ _ _ _ (addr_ne _ _ _ (by omega))]; exact h.there i hi
  · intro o; rw [World.frozen?_setCell]; exact h.free o

theorem ScAt.clear {w : World} {B : Nat} {s : Sc} (h : ScAt w B s) : ScAt (w.setCell ⟨B, 201, none⟩ (.int .i64 0)) B ⟨s.st, [], s.sum⟩ := by
  refine ⟨h.st3, by simp, ?_, ?_, ?_, ?_, ?_, ?_⟩
  · rw [World.cell?_setCell_other _ _ _ _ (addr_ne _ _ _ (by omega))]; exact h.cst
  · exact World.cell?_setCell_same _ _ _ h.cnt
  · rw [World.cell?_setCell_other _ _ _ _ (addr_ne _ _ _ (by omega))]; exact h.csum
  · intro i hi; simp at hi
  · intro i hi; rw [World.cell?_setCell_other _ _ _ _ (addr_ne _ _ _ (by omega))]; exact h.there i hi
  · intro o; rw [World.frozen?_setCell]; exact h.free o

theorem ScAt.push {w : World} {B : Nat} {s : Sc} (h : ScAt w B s) (c : UInt8) (hl : s.raw.length < 200) :
    ScAt ((w.setCell ⟨B, 1 + s.raw.length, none⟩ (.int .u8 (c.toNat : Int))).setCell ⟨B, 201, none⟩ (.int .i64 ((s.raw.length : Int) + 1))) B ⟨s.st, s.raw ++ [c], s.sum⟩ := by
  obtain ⟨v, hv⟩ := h.there _ hl
  refine ⟨h.st3, by simp; omega, ?_, ?_, ?_, ?_, ?_, ?_⟩
  · rw [World.cell?_setCell_other _ _ _ _ (addr_ne _ _ _ (by omega)), World.cell?_setCell_other _ _ _ _ (addr_ne _ _ _ (by omega))]; exact h.cst
  · have e : w.cell? ⟨B, 201, none⟩ = some (.int .i64 (s.raw.length : Int)) := h.cnt
    rw [← World.cell?_setCell_other w ⟨B, 1 + s.raw.length, none⟩ _ (.int .u8 (c.toNat : Int)) (addr_ne _ _ _ (by omega))] at e
    rw [World.cell?_setCell_same _ _ _ e]; simp
  · rw [World.cell?_setCell_other _ _ _ _ (addr_ne _ _ _ (by omega)), World.cell?_setCell_other _ _ _ _ (addr_ne _ _ _ (by omega))]; exact h.csum
  · intro i hi
    simp at hi
    rw [World.cell?_setCell_other _ _ _ _ (addr_ne _ _ _ (by omega))]
    by_cases e : i = s.raw.length
    · subst e; rw [World.cell?_setCell_same _ _ _ hv]; simp
    · rw [World.cell?_setCell_other _ _ _ _ (addr_ne _ _ _ (by omega)), h.bytes i (by omega)]; simp [List.getElem_append_left (show i < s.raw.length by omega)]
  · intro i hi
    rw [World.cell?_setCell_other _ _ _ _ (addr_ne _ _ _ (by omega))]
    by_cases e : i = s.raw.length
    · subst e; exact ⟨_, World.cell?_setCell_same _ _ _ hv⟩
    · rw [World.cell?_setCell_other _ _ _ _ (addr_ne _ _ _ (by omega))]; exact h.there i hi
  · intro o; rw [World.frozen?_setCell, World.frozen?_setCell]; exact h.free o

/-- A call that turns scanner B from s to s' and nothing else. -/
def Turned (B : Nat) (s' : Sc) (w w' : World) : Prop := ScAt w' B s' ∧ w.grownBy w' (some B) ∧ w'.heap.size = w.heap.size

theorem grown_set (w : World) (B o : Nat) (v : Value) : w.grownBy (w.setCell ⟨B, o, none⟩ v) (some B) :=
  ⟨rfl, rfl, rfl, by simp, fun k _ hne => Below.heap_setCell _ _ _ _ (fun e => hne (by rw [e]))⟩

theorem grown_trans {a b c : World} {row : Option Nat} (h : a.grownBy b row) (k : b.grownBy c row) : a.grownBy c row :=
  ⟨k.os.trans h.os, k.tape.trans h.tape, k.output.trans h.output, Nat.le_trans h.size k.size, fun i hi hne => (k.block i (Nat.lt_of_lt_of_le hi h.size) hne).trans (h.block i hi hne)⟩

theorem ScAt.drew {w : World} {B : Nat} {s : Sc} (h : ScAt w B s) : ScAt w.drew B s :=
  ⟨h.st3, h.len, h.cst, h.cnt, h.csum, h.bytes, h.there, h.free⟩

end

/-
  hex.Append: so many digits of a number, behind what is there.
-/
section
def vals (l : List UInt8) : List Value := l.map fun c => Value.int .u8 (c.toNat : Int)

theorem inf_u8 : (Tryz.prog.info? 5).map (fun i => (i.zero, i.size, i.bytes)) = some (some (.int .u8 0), 1, 1) := by kernel_rfl

def digits : List UInt8 := [48, 49, 50, 51, 52, 53, 54, 55, 56, 57, 97, 98, 99, 100, 101, 102]
theorem und_bytes : Tryz.prog.underlying 35 = some (.slice 5) := by kernel_rfl

theorem vals_length (a : List UInt8) : (vals a).length = a.length := by simp [vals]

theorem one_new' (w : World) (x : Value) (t : TypeId) :
    ∀ j u, [x][j]? = some u → (w.alloc (.cells #[x] t)).cell? ((⟨w.heap.size, 0, none⟩ : Addr).add j) = some u :=
  World.news_of_block (w := w.alloc (.cells #[x] t)) (cs := #[x]) (t := t) (fr := (0, 0)) (heap_alloc_new w _)
/-- A slice of bytes that the call itself has made. -/
def Owns (base : Nat) (w0 w : World) (v : Value) (l : List UInt8) : Prop :=
  ∃ g cap, v = .slice (some ⟨g, 0, none⟩) l.length cap ∧ w.ownsRow base 5 1 v l.length (vals l) ∧ Below base w0 w ∧ base ≤ w.heap.size

theorem wrap_i64_nat (a : Nat) (h : a < 9223372036854775808) : IntKind.i64.wrap (a : Int) = a := by
  simp only [IntKind.wrap, IntKind.bits, IntKind.signed]; simp; omega
theorem andi_nat (a b : Nat) (ha : a < 9223372036854775808) (hb : b < 9223372036854775808) : bits .and .i64 (a : Int) (b : Int) = ((a &&& b : Nat) : Int) := by
  have hx : a &&& b < 2 ^ 63 := Nat.and_lt_two_pow _ (by omega)
  show IntKind.i64.wrap ((BitVec.ofInt 64 (a : Int) &&& BitVec.ofInt 64 (b : Int)).toNat : Int) = _
  rw [BitVec.toNat_and, ofInt_u64 a (by omega), ofInt_u64 b (by omega), wrap_i64_nat _ (by omega)]
end

/-
  appendEscaped.
-/
section
end

/-
  wire.Frame and stylet.Frame.
-/
section
def zsc : Array Value := #[.int .u8 0] ++ Array.replicate 200 (.int .u8 0) ++ #[.int .i64 0, .int .u8 0]

theorem zero_scan (w : World) : Sem.run Tryz.prog (zeroValue 130) w = .ok (.agg zsc) w := by kernel_rfl

theorem zsc_raw (i : Nat) (h : i < 200) : zsc[1 + i]? = some (.int .u8 0) := by
  have : ∀ i : Fin 200, zsc[1 + i.1]? = some (.int .u8 0) := by
    intro i
    unfold zsc
    rw [Array.getElem?_append_left (by simp; omega), Array.getElem?_append_right (by simp)]
    simp
  exact this ⟨i, h⟩

theorem zsc_0 : zsc[0]? = some (.int .u8 ((0 : Nat) : Int)) := by kernel_rfl
theorem zsc_201 : zsc[201]? = some (.int .i64 ((([] : List UInt8).length : Nat) : Int)) := by kernel_rfl
theorem zsc_202 : zsc[202]? = some (.int .u8 (((0 : UInt8).toNat : Nat) : Int)) := by kernel_rfl

theorem scAt_new (w : World) (t : TypeId) : ScAt (w.alloc (.cells zsc t)) w.heap.size ⟨0, [], 0⟩ := by
  have hc : ∀ i, (w.alloc (.cells zsc t)).cell? ⟨w.heap.size, i, none⟩ = zsc[i]? := fun i => World.cell?_alloc_at _ _ _ _ rfl
  refine ⟨by simp, by simp, ?_, ?_, ?_, ?_, ?_, ?_⟩
  · rw [hc]; exact zsc_0
  · rw [hc]; exact zsc_201
  · rw [hc]; exact zsc_202
  · intro i hi; simp at hi
  · intro i hi; rw [hc, zsc_raw i hi]; exact ⟨_, rfl⟩
  · intro o; exact World.frozen?_alloc_at _ _ _ _ rfl

theorem newScan_any (w : World) :
    Calls Tryz.prog 30 #[] w fun e w' => e = .returned (.pointer (some ⟨w.heap.size, 0, none⟩)) ∧ ScAt w' w.heap.size ⟨0, [], 0⟩ ∧ w.grownBy w' none ∧ w'.heap.size = w.heap.size + 1 := by
  have hz := zero_scan
  have HN := scAt_new w
  have H : Hid (∀ t, ScAt (w.alloc (.cells zsc t)) w.heap.size ⟨0, [], 0⟩) := HN
  clear HN
  go_enter Tryz.func30, Tryz.ntmps30
  go_wp2
  go_ret
  exact ⟨rfl, H.out _, World.grownBy_alloc _ _ _, by simp⟩
end

/-
  unescape.
-/
section
theorem und_u8 : Tryz.prog.underlying 5 = some (.int .u8) := by kernel_rfl
theorem und_str : Tryz.prog.underlying 9 = some .string := by kernel_rfl

end

/-
  readPacket.
-/
section
structure Pk where
  seq : Nat
  body : List UInt8
  bad : Bool

def Pk.val (p : Pk) : Value := .agg #[.int .i64 (p.seq : Int), .string ⟨p.body.toArray⟩, .bool p.bad]

theorem below2 (w : World) (o p : Obj) : Below w.heap.size w ((w.alloc o).alloc p) := ((Below.refl _ _).alloc (Nat.le_refl _) _).alloc (by simp) _

end

/-
  Scanner.Feed and Scan.Feed.
-/
section
def Pk.cells (p : Pk) : List Value := [.int .i64 (p.seq : Int), .string ⟨p.body.toArray⟩, .bool p.bad]
def pvals (ps : List Pk) : List Value := ps.flatMap Pk.cells

theorem pvals_snoc (ps : List Pk) (p : Pk) : pvals (ps ++ [p]) = pvals ps ++ p.cells := by simp [pvals]

theorem ScAt.lt {w : World} {B : Nat} {s : Sc} (h : ScAt w B s) : B < w.heap.size := World.block_lt_of_cell? w ⟨B, 0, none⟩ h.cst

/-- The packets' slice of a Feed, and the scanner. -/
structure Fed (B : Nat) (w0 w : World) (v : Value) (s : Sc) (ps : List Pk) : Prop where
  own : w.ownsRow w0.heap.size 152 3 v ps.length (pvals ps)
  nil : ps = [] → v = .slice none 0 0
  sc : ScAt w B s
  grown : w0.grownBy w (some B)
  lt : B < w0.heap.size

theorem Fed.turned {B : Nat} {w0 w w1 : World} {v : Value} {s s' : Sc} {ps : List Pk} (h : Fed B w0 w v s ps) (ht : Turned B s' w w1) : Fed B w0 w1 v s' ps := by
  refine ⟨h.own.kept ht.2.1 ?_, h.nil, ht.1, grown_trans h.grown ht.2.1, h.lt⟩
  cases hv : v.ownBlock with
  | none => exact .inl rfl
  | some g =>
    refine .inr ?_
    have h1 := (h.own.lt g hv).1
    have h2 := h.lt
    intro e; injection e with e; omega

theorem own_below {w w' : World} {base : Nat} {e : TypeId} {size : Nat} {v : Value} {n : Nat} {xs : List Value} (h : w.ownsRow base e size v n xs) (hb : Below w.heap.size w w') : w'.ownsRow base e size v n xs :=
  h.kept ⟨hb.os, hb.tape, hb.output, hb.size, fun k hk _ => hb.block k hk⟩ (row := none) (by cases v.ownBlock <;> simp)

theorem ScAt.below {w w' : World} {B : Nat} {s : Sc} (h : ScAt w B s) (hb : Below w.heap.size w w') : ScAt w' B s := by
  have hc : ∀ o, w'.cell? ⟨B, o, none⟩ = w.cell? ⟨B, o, none⟩ := fun o => hb.cell (p := ⟨B, o, none⟩) h.lt
  have hf : ∀ o, w'.frozen? ⟨B, o, none⟩ = w.frozen? ⟨B, o, none⟩ := fun o => hb.frozen (p := ⟨B, o, none⟩) h.lt
  exact ⟨h.st3, h.len, by rw [hc]; exact h.cst, by rw [hc]; exact h.cnt, by rw [hc]; exact h.csum, fun i hi => by rw [hc]; exact h.bytes i hi, fun i hi => by rw [hc]; exact h.there i hi, fun o => by rw [hf]; exact h.free o⟩

theorem grown_below {w w' : World} (hb : Below w.heap.size w w') (row : Option Nat) : w.grownBy w' row := ⟨hb.os, hb.tape, hb.output, hb.size, fun k hk _ => hb.block k hk⟩

theorem Fed.below {B : Nat} {w0 w w1 : World} {v : Value} {s : Sc} {ps : List Pk} (h : Fed B w0 w v s ps) (hb : Below w.heap.size w w1) : Fed B w0 w1 v s ps :=
  ⟨own_below h.own hb, h.nil, h.sc.below hb, grown_trans h.grown (grown_below hb _), h.lt⟩

theorem ScAt.grown {w w' : World} {B : Nat} {s : Sc} {row : Option Nat} (h : ScAt w B s) (hg : w.grownBy w' row) (hne : some B ≠ row) : ScAt w' B s := by
  have hb := hg.block B h.lt hne
  have hc : ∀ o, w'.cell? ⟨B, o, none⟩ = w.cell? ⟨B, o, none⟩ := fun o => World.cell?_of_block (a := ⟨B, o, none⟩) hb
  have hf : ∀ o, w'.frozen? ⟨B, o, none⟩ = w.frozen? ⟨B, o, none⟩ := fun o => World.frozen?_of_block (a := ⟨B, o, none⟩) hb
  exact ⟨h.st3, h.len, by rw [hc]; exact h.cst, by rw [hc]; exact h.cnt, by rw [hc]; exact h.csum, fun i hi => by rw [hc]; exact h.bytes i hi, fun i hi => by rw [hc]; exact h.there i hi, fun o => by rw [hf]; exact h.free o⟩

theorem Fed.append {B : Nat} {w0 w w3 : World} {v : Value} {s : Sc} {ps : List Pk} {p : Pk} {o : Obj} {g cap : Nat} (h : Fed B w0 w v s ps)
    (hown : w3.ownsRow w0.heap.size 152 3 (.slice (some ⟨g, 0, none⟩) (ps.length + 1) cap) (ps.length + 1) (pvals ps ++ p.cells)) (hg : (w.alloc o).grownBy w3 v.ownBlock) :
    Fed B w0 w3 (.slice (some ⟨g, 0, none⟩) (ps.length + 1) cap) s (ps ++ [p]) := by
  have hlt := h.lt
  have hne : some B ≠ v.ownBlock := fun e => by have := (h.own.lt B e.symm).1; omega
  have hal : ScAt (w.alloc o) B s := h.sc.grown (World.grownBy_alloc w o none) (by simp)
  refine ⟨by rw [pvals_snoc]; simpa using hown, by simp, hal.grown hg hne, ?_, h.lt⟩
  have hs := h.grown.size
  have hs3 := hg.size
  simp only [World.size_alloc] at hs3
  refine ⟨hg.os.trans h.grown.os, hg.tape.trans h.grown.tape, hg.output.trans h.grown.output, by omega, ?_⟩
  intro k hk hkB
  have hne' : some k ≠ v.ownBlock := fun e => by have := (h.own.lt k e.symm).1; omega
  exact (hg.block k (by simp; omega) hne').trans ((Below.heap_alloc w o k (by omega)).trans (h.grown.block k hk hkB))

end

/-
  A stub's scanner: the same walks, where it lies within the stub.
-/
section
variable {Q : Nat → Option Value}

/-- A scanner lies in block B. -/
structure ScS (Q : Nat → Option Value) (w : World) (B : Nat) (s : Sc) : Prop where
  st3 : s.st ≤ 3
  len : s.raw.length ≤ 200
  cst : w.cell? ⟨B, 65562, none⟩ = some (.int .u8 (s.st : Int))
  cnt : w.cell? ⟨B, 65763, none⟩ = some (.int .i64 (s.raw.length : Int))
  csum : w.cell? ⟨B, 65764, none⟩ = some (.int .u8 (s.sum.toNat : Int))
  bytes : BytesAt w B 65563 s.raw
  there : ∀ i, i < 200 → ∃ v, w.cell? ⟨B, 65563 + i, none⟩ = some v
  free : ∀ o, w.frozen? ⟨B, o, none⟩ = false
  keep : ∀ o, o < 65562 ∨ 65765 ≤ o → w.cell? ⟨B, o, none⟩ = Q o


theorem ScS.setSt {w : World} {B : Nat} {s : Sc} (h : ScS Q w B s) (n : Nat) (hn : n ≤ 3) : ScS Q (w.setCell ⟨B, 65562, none⟩ (.int .u8 (n : Int))) B ⟨n, s.raw, s.sum⟩ := by
  refine ⟨hn, h.len, World.cell?_setCell_same _ _ _ h.cst, ?_, ?_, ?_, ?_, ?_, ?_⟩
  · rw [World.cell?_setCell_other _ _ _ _ (addr_ne _ _ _ (by omega))]; exact h.cnt
  · rw [World.cell?_setCell_other _ _ _ _ (addr_ne _ _ _ (by omega))]; exact h.csum
  · intro i hi; rw [World.cell?_setCell_other _ _ _ _ (addr_ne _ _ _ (by omega))]; exact h.bytes i hi
  · intro i hi; rw [World.cell?_setCell_other _ _ _ _ (addr_ne _ _ _ (by omega))]; exact h.there i hi
  · intro o; rw [World.frozen?_setCell]; exact h.free o
  · intro o ho; rw [World.cell?_setCell_other _ _ _ _ (addr_ne _ _ _ (by omega))]; exact h.keep o ho

theorem ScS.clear {w : World} {B : Nat} {s : Sc} (h : ScS Q w B s) : ScS Q (w.setCell ⟨B, 65763, none⟩ (.int .i64 0)) B ⟨s.st, [], s.sum⟩ := by
  refine ⟨h.st3, by simp, ?_, ?_, ?_, ?_, ?_, ?_, ?_⟩
  · rw [World.cell?_setCell_other _ _ _ _ (addr_ne _ _ _ (by omega))]; exact h.cst
  · exact World.cell?_setCell_same _ _ _ h.cnt
  · rw [World.cell?_setCell_other _ _ _ _ (addr_ne _ _ _ (by omega))]; exact h.csum
  · intro i hi; simp at hi
  · intro i hi; rw [World.cell?_setCell_other _ _ _ _ (addr_ne _ _ _ (by omega))]; exact h.there i hi
  · intro o; rw [World.frozen?_setCell]; exact h.free o
  · intro o ho; rw [World.cell?_setCell_other _ _ _ _ (addr_ne _ _ _ (by omega))]; exact h.keep o ho

theorem ScS.push {w : World} {B : Nat} {s : Sc} (h : ScS Q w B s) (c : UInt8) (hl : s.raw.length < 200) :
    ScS Q ((w.setCell ⟨B, 65563 + s.raw.length, none⟩ (.int .u8 (c.toNat : Int))).setCell ⟨B, 65763, none⟩ (.int .i64 ((s.raw.length : Int) + 1))) B ⟨s.st, s.raw ++ [c], s.sum⟩ := by
  obtain ⟨v, hv⟩ := h.there _ hl
  refine ⟨h.st3, by simp; omega, ?_, ?_, ?_, ?_, ?_, ?_, ?_⟩
  · rw [World.cell?_setCell_other _ _ _ _ (addr_ne _ _ _ (by omega)), World.cell?_setCell_other _ _ _ _ (addr_ne _ _ _ (by omega))]; exact h.cst
  · have e : w.cell? ⟨B, 65763, none⟩ = some (.int .i64 (s.raw.length : Int)) := h.cnt
    rw [← World.cell?_setCell_other w ⟨B, 65563 + s.raw.length, none⟩ _ (.int .u8 (c.toNat : Int)) (addr_ne _ _ _ (by omega))] at e
    rw [World.cell?_setCell_same _ _ _ e]; simp
  · rw [World.cell?_setCell_other _ _ _ _ (addr_ne _ _ _ (by omega)), World.cell?_setCell_other _ _ _ _ (addr_ne _ _ _ (by omega))]; exact h.csum
  · intro i hi
    simp at hi
    rw [World.cell?_setCell_other _ _ _ _ (addr_ne _ _ _ (by omega))]
    by_cases e : i = s.raw.length
    · subst e; rw [World.cell?_setCell_same _ _ _ hv]; simp
    · rw [World.cell?_setCell_other _ _ _ _ (addr_ne _ _ _ (by omega)), h.bytes i (by omega)]; simp [List.getElem_append_left (show i < s.raw.length by omega)]
  · intro i hi
    rw [World.cell?_setCell_other _ _ _ _ (addr_ne _ _ _ (by omega))]
    by_cases e : i = s.raw.length
    · subst e; exact ⟨_, World.cell?_setCell_same _ _ _ hv⟩
    · rw [World.cell?_setCell_other _ _ _ _ (addr_ne _ _ _ (by omega))]; exact h.there i hi
  · intro o; rw [World.frozen?_setCell, World.frozen?_setCell]; exact h.free o
  · intro o ho; rw [World.cell?_setCell_other _ _ _ _ (addr_ne _ _ _ (by omega)), World.cell?_setCell_other _ _ _ _ (addr_ne _ _ _ (by omega))]; exact h.keep o ho

/-- A call that turns scanner B from s to s' and nothing else. -/
def TurnedS (Q : Nat → Option Value) (B : Nat) (s' : Sc) (w w' : World) : Prop := ScS Q w' B s' ∧ w.grownBy w' (some B) ∧ w'.heap.size = w.heap.size




theorem ScS.drew {w : World} {B : Nat} {s : Sc} (h : ScS Q w B s) : ScS Q w.drew B s :=
  ⟨h.st3, h.len, h.cst, h.cnt, h.csum, h.bytes, h.there, h.free, h.keep⟩


end

/-
  A stub's scanner fed.
-/
section
variable {Q : Nat → Option Value}

theorem ScS.lt {w : World} {B : Nat} {s : Sc} (h : ScS Q w B s) : B < w.heap.size := World.block_lt_of_cell? w ⟨B, 65562, none⟩ h.cst


/-- The packets' slice of a Feed, and the scanner. -/
structure FedS (Q : Nat → Option Value) (B : Nat) (w0 w : World) (v : Value) (s : Sc) (ps : List Pk) : Prop where
  own : w.ownsRow w0.heap.size 152 3 v ps.length (pvals ps)
  nil : ps = [] → v = .slice none 0 0
  sc : ScS Q w B s
  grown : w0.grownBy w (some B)
  lt : B < w0.heap.size

theorem FedS.turned {B : Nat} {w0 w w1 : World} {v : Value} {s s' : Sc} {ps : List Pk} (h : FedS Q B w0 w v s ps) (ht : TurnedS Q B s' w w1) : FedS Q B w0 w1 v s' ps := by
  refine ⟨h.own.kept ht.2.1 ?_, h.nil, ht.1, grown_trans h.grown ht.2.1, h.lt⟩
  cases hv : v.ownBlock with
  | none => exact .inl rfl
  | some g =>
    refine .inr ?_
    have h1 := (h.own.lt g hv).1
    have h2 := h.lt
    intro e; injection e with e; omega


theorem ScS.below {w w' : World} {B : Nat} {s : Sc} (h : ScS Q w B s) (hb : Below w.heap.size w w') : ScS Q w' B s := by
  have hc : ∀ o, w'.cell? ⟨B, o, none⟩ = w.cell? ⟨B, o, none⟩ := fun o => hb.cell (p := ⟨B, o, none⟩) h.lt
  have hf : ∀ o, w'.frozen? ⟨B, o, none⟩ = w.frozen? ⟨B, o, none⟩ := fun o => hb.frozen (p := ⟨B, o, none⟩) h.lt
  exact ⟨h.st3, h.len, by rw [hc]; exact h.cst, by rw [hc]; exact h.cnt, by rw [hc]; exact h.csum, fun i hi => by rw [hc]; exact h.bytes i hi, fun i hi => by rw [hc]; exact h.there i hi, fun o => by rw [hf]; exact h.free o, fun o ho => by rw [hc]; exact h.keep o ho⟩


theorem FedS.below {B : Nat} {w0 w w1 : World} {v : Value} {s : Sc} {ps : List Pk} (h : FedS Q B w0 w v s ps) (hb : Below w.heap.size w w1) : FedS Q B w0 w1 v s ps :=
  ⟨own_below h.own hb, h.nil, h.sc.below hb, grown_trans h.grown (grown_below hb _), h.lt⟩


theorem ScS.grown {w w' : World} {B : Nat} {s : Sc} {row : Option Nat} (h : ScS Q w B s) (hg : w.grownBy w' row) (hne : some B ≠ row) : ScS Q w' B s := by
  have hb := hg.block B h.lt hne
  have hc : ∀ o, w'.cell? ⟨B, o, none⟩ = w.cell? ⟨B, o, none⟩ := fun o => World.cell?_of_block (a := ⟨B, o, none⟩) hb
  have hf : ∀ o, w'.frozen? ⟨B, o, none⟩ = w.frozen? ⟨B, o, none⟩ := fun o => World.frozen?_of_block (a := ⟨B, o, none⟩) hb
  exact ⟨h.st3, h.len, by rw [hc]; exact h.cst, by rw [hc]; exact h.cnt, by rw [hc]; exact h.csum, fun i hi => by rw [hc]; exact h.bytes i hi, fun i hi => by rw [hc]; exact h.there i hi, fun o => by rw [hf]; exact h.free o, fun o ho => by rw [hc]; exact h.keep o ho⟩

theorem FedS.append {B : Nat} {w0 w w3 : World} {v : Value} {s : Sc} {ps : List Pk} {p : Pk} {o : Obj} {g cap : Nat} (h : FedS Q B w0 w v s ps)
    (hown : w3.ownsRow w0.heap.size 152 3 (.slice (some ⟨g, 0, none⟩) (ps.length + 1) cap) (ps.length + 1) (pvals ps ++ p.cells)) (hg : (w.alloc o).grownBy w3 v.ownBlock) :
    FedS Q B w0 w3 (.slice (some ⟨g, 0, none⟩) (ps.length + 1) cap) s (ps ++ [p]) := by
  have hlt := h.lt
  have hne : some B ≠ v.ownBlock := fun e => by have := (h.own.lt B e.symm).1; omega
  have hal : ScS Q (w.alloc o) B s := h.sc.grown (World.grownBy_alloc w o none) (by simp)
  refine ⟨by rw [pvals_snoc]; simpa using hown, by simp, hal.grown hg hne, ?_, h.lt⟩
  have hs := h.grown.size
  have hs3 := hg.size
  simp only [World.size_alloc] at hs3
  refine ⟨hg.os.trans h.grown.os, hg.tape.trans h.grown.tape, hg.output.trans h.grown.output, by omega, ?_⟩
  intro k hk hkB
  have hne' : some k ≠ v.ownBlock := fun e => by have := (h.own.lt k e.symm).1; omega
  exact (hg.block k (by simp; omega) hne').trans ((Below.heap_alloc w o k (by omega)).trans (h.grown.block k hk hkB))




end

/-
  Hex digits behind any bytes of one's own, be there none.
-/
section
/-- A slice of bytes that the call itself has made, or none. -/
def OwnV (base : Nat) (w0 w : World) (v : Value) (l : List UInt8) : Prop := w.ownsRow base 5 1 v l.length (vals l) ∧ Below base w0 w ∧ base ≤ w.heap.size

theorem OwnV.form {base : Nat} {w0 w : World} {v : Value} {l : List UInt8} (h : OwnV base w0 w v l) (hl : 0 < l.length) : Owns base w0 w v l := by
  obtain ⟨g, cap, e⟩ : ∃ g cap, v = .slice (some ⟨g, 0, none⟩) l.length cap := by
    rcases h.1.2 with ⟨-, e⟩ | ⟨g, cap, cur, e, -⟩
    · omega
    · exact ⟨g, cap, e⟩
  exact ⟨g, cap, e, h.1, h.2.1, h.2.2⟩
theorem Owns.v {base : Nat} {w0 w : World} {v : Value} {l : List UInt8} (h : Owns base w0 w v l) : OwnV base w0 w v l := by
  obtain ⟨g, cap, -, h1, h2, h3⟩ := h
  exact ⟨h1, h2, h3⟩
end
end

/-
  Joined texts.
-/
section
set_option maxRecDepth 100000
set_option maxHeartbeats 2000000

/-
  A configuration as it lies in memory, and what the program makes of it: valid, fill.
-/
section
/-- A chunk: its address, its bytes' slice, its bytes. -/
structure Chn where
  at_ : Int
  v : Value
  bs : List UInt8

def ChV (N : Nat) (w : World) (v : Value) (bs : List UInt8) : Prop := ∃ p cap, v = .slice p bs.length cap ∧ (bs ≠ [] → ∃ b off, p = some ⟨b, off, none⟩ ∧ b < N ∧ BytesAt w b off bs)

def CfAt (N : Nat) (w : World) (v : Value) (cs : List Chn) : Prop := ∃ p cap, v = .slice p cs.length cap ∧ (cs ≠ [] → ∃ b off, p = some ⟨b, off, none⟩ ∧ b < N ∧
  ∀ i, (h : i < cs.length) → w.cell? ⟨b, off + i * 2, none⟩ = some (.int .i64 cs[i].at_) ∧ w.cell? ⟨b, off + i * 2 + 1, none⟩ = some cs[i].v ∧ ChV N w cs[i].v cs[i].bs)

theorem ChV.kept {N : Nat} {w w' : World} {v : Value} {bs : List UInt8} (h : ChV N w v bs) (hc : ∀ b o, b < N → w.cell? ⟨b, o, none⟩ ≠ none → w'.cell? ⟨b, o, none⟩ = w.cell? ⟨b, o, none⟩) : ChV N w' v bs := by
  obtain ⟨p, cap, e, h⟩ := h
  refine ⟨p, cap, e, fun hn => ?_⟩
  obtain ⟨b, off, e2, hb, hB⟩ := h hn
  exact ⟨b, off, e2, hb, fun i hi => by rw [hc _ _ hb (by rw [hB i hi]; simp)]; exact hB i hi⟩
theorem CfAt.kept {N : Nat} {w w' : World} {v : Value} {cs : List Chn} (h : CfAt N w v cs) (hc : ∀ b o, b < N → w.cell? ⟨b, o, none⟩ ≠ none → w'.cell? ⟨b, o, none⟩ = w.cell? ⟨b, o, none⟩) : CfAt N w' v cs := by
  obtain ⟨p, cap, e, h⟩ := h
  refine ⟨p, cap, e, fun hn => ?_⟩
  obtain ⟨b, off, e2, hb, hB⟩ := h hn
  refine ⟨b, off, e2, hb, fun i hi => ?_⟩
  obtain ⟨h1, h2, h3⟩ := hB i hi
  exact ⟨by rw [hc _ _ hb (by rw [h1]; simp)]; exact h1, by rw [hc _ _ hb (by rw [h2]; simp)]; exact h2, h3.kept hc⟩

theorem lt_of_cell {w : World} {b o : Nat} (h : w.cell? ⟨b, o, none⟩ ≠ none) : b < w.heap.size := by
  cases e : w.cell? ⟨b, o, none⟩ with
  | none => exact absurd e h
  | some v => exact World.block_lt_of_cell? w ⟨b, o, none⟩ e
theorem grown_cell {w w' : World} {B b o : Nat} (g : w.grownBy w' (some B)) (hne : b ≠ B) (h : w.cell? ⟨b, o, none⟩ ≠ none) : w'.cell? ⟨b, o, none⟩ = w.cell? ⟨b, o, none⟩ :=
  World.cell?_of_block (a := ⟨b, o, none⟩) (g.block b (lt_of_cell h) (by intro e; injection e with e; exact hne e))
theorem CfAt.grown {N B : Nat} {w w' : World} {v : Value} {cs : List Chn} (h : CfAt N w v cs) (g : w.grownBy w' (some B)) (hN : N ≤ B) : CfAt N w' v cs := h.kept fun b o hb hc => grown_cell g (by omega) hc
theorem CfAt.below {N : Nat} {w w' : World} {v : Value} {cs : List Chn} (h : CfAt N w v cs) (g : Below w.heap.size w w') : CfAt N w' v cs := h.kept fun b o _ hc => g.cell (p := ⟨b, o, none⟩) (lt_of_cell hc)

def total (cs : List Chn) : Nat := (cs.map (fun c => c.bs.length)).sum
theorem total_snoc (cs : List Chn) (c : Chn) : total (cs ++ [c]) = total cs + c.bs.length := by simp [total]
theorem chn_snoc (l : List Chn) (k : Nat) (h : k < l.length) : l.take (k + 1) = l.take k ++ [l[k]] := by
  rw [List.take_succ_eq_append_getElem h]
theorem total_take (cs : List Chn) (k : Nat) : total (cs.take k) ≤ total cs := by
  have h : cs = cs.take k ++ cs.drop k := (List.take_append_drop k cs).symm
  have : total cs = total (cs.take k) + total (cs.drop k) := by conv => lhs; rw [h]
                                                                simp only [total, List.map_append, List.sum_append]
  omega

def okChn (c : Chn) : Bool := decide (0 ≤ c.at_ ∧ c.at_ < 65536)
/-- Is it a configuration? -/
def validI (rom : Int) (cs : List Chn) : Bool := decide (0 ≤ rom ∧ rom ≤ 256 ∧ cs.length ≤ 8) && (cs.all okChn && decide (total cs ≤ 4096))

theorem valid_pre {rom : Int} {cs : List Chn} {k : Nat} (hk : k < cs.length) (h : ¬ (okChn cs[k] = true ∧ total (cs.take (k + 1)) ≤ 4096)) : validI rom cs = false := by
  rw [Bool.eq_false_iff]
  intro e
  unfold validI at e
  simp only [Bool.and_eq_true, decide_eq_true_eq] at e
  exact h ⟨List.all_eq_true.1 e.2.1 _ (List.getElem_mem hk), Nat.le_trans (total_take cs _) e.2.2⟩

theorem valid_any (N : Nat) (v : Value) (cs : List Chn) (rom : Int) (w : World) (h : CfAt N w v cs) (hl : cs.length ≤ 140737488355328) (hb : ∀ c ∈ cs, c.bs.length ≤ 140737488355328) :
    Calls Tryz.prog 50 #[.agg #[v, .int .i64 rom]] w fun e w' => e = .returned (.bool (validI rom cs)) ∧ Below w.heap.size w w' := by
  obtain ⟨p, cap, rfl, H⟩ := h
  by_cases h0 : 0 ≤ rom ∧ rom ≤ 256 ∧ cs.length ≤ 8
  · obtain ⟨r0, r1, r2⟩ := h0
    have r0' : ¬ rom < 0 := by omega
    have r1' : ¬ 256 < rom := by omega
    have r2' : ¬ (8 : Int) < (cs.length : Int) := by omega
    have HH : Hid (cs ≠ [] → ∃ b off, p = some ⟨b, off, none⟩ ∧ b < N ∧
      ∀ i, (h : i < cs.length) → w.cell? ⟨b, off + i * 2, none⟩ = some (.int .i64 cs[i].at_) ∧ w.cell? ⟨b, off + i * 2 + 1, none⟩ = some cs[i].v ∧ ChV N w cs[i].v cs[i].bs) := H
    clear H
    go_enter Tryz.func50, Tryz.ntmps50
    go_wp2
    go_loopw [3, 23] (fun room i wr => ∃ k : Nat, k ≤ cs.length ∧ i = .int .i64 k ∧ room = .int .i64 (4096 - (total (cs.take k) : Int)) ∧ (cs.take k).all okChn = true ∧ total (cs.take k) ≤ 4096 ∧ Below w.heap.size w wr) (fun _ i _ => cs.length - (intOf i).toNat)
    case atStart => exact ⟨0, Nat.zero_le _, rfl, rfl, rfl, by simp [total], (Below.refl _ _).alloc (Nat.le_refl _) _⟩
    case round =>
      obtain ⟨k, hk, rfl, rfl, ha, ht, hB⟩ := hrel
      by_cases hlt : k < cs.length
      · obtain ⟨b, off, rfl, hbN, HC⟩ := HH.out (by intro e; rw [e] at hlt; simp at hlt)
        obtain ⟨c1, c2, p2, cap2, hv, -⟩ := HC k hlt
        have d1 := (hB.cell (p := ⟨b, off + k * 2, none⟩) (lt_of_cell (by rw [c1]; simp))).trans c1
        have d2 := (hB.cell (p := ⟨b, off + k * 2 + 1, none⟩) (lt_of_cell (by rw [c2]; simp))).trans c2
        rw [hv] at d2
        have bl := hb cs[k] (List.getElem_mem hlt)
        have HT : Hid (total (cs.take (k + 1)) = total (cs.take k) + cs[k].bs.length) := by show _ = _; rw [chn_snoc cs k hlt, total_snoc]
        have HV : Hid (¬ (okChn cs[k] = true ∧ total (cs.take (k + 1)) ≤ 4096) → validI rom cs = false) := valid_pre hlt
        have HA : Hid (okChn cs[k] = true → (cs.take (k + 1)).all okChn = true) := by intro e; rw [chn_snoc cs k hlt, List.all_append, ha]; simp [e]
        have HO : Hid (okChn cs[k] = decide (0 ≤ cs[k].at_ ∧ cs[k].at_ < 65536)) := rfl
        have HBl : Hid (Below w.heap.size w wr) := hB
        clear c1 c2 hv HC ha hB
        rw [HT.out] at HV
        generalize cs[k].at_ = A at *
        generalize okChn cs[k] = O at *
        generalize cs[k].bs.length = L at *
        generalize total (cs.take k) = T at *
        by_cases a0 : A < 0
        · go_wp2
          go_ret
          exact ⟨cp_bool (HV.out (by rw [HO.out]; simp; omega)).symm, HBl.out.alloc HBl.out.size _⟩
        · have a0' : 0 ≤ A := by omega
          by_cases a1 : 65536 ≤ A
          · go_wp2
            go_ret
            exact ⟨cp_bool (HV.out (by rw [HO.out]; simp; omega)).symm, HBl.out.alloc HBl.out.size _⟩
          · have a1' : A < 65536 := by omega
            by_cases a2 : (4096 : Int) - T - L < 0
            · go_wp2
              go_ret
              exact ⟨cp_bool (HV.out (by rw [HO.out]; simp; omega)).symm, HBl.out.alloc HBl.out.size _⟩
            · have a2' : 0 ≤ (4096 : Int) - T - L := by omega
              go_wp2
              go_roundw
              case rel => exact ⟨k + 1, by omega, by go_num, by rw [HT.out]; go_num, HA.out (by rw [HO.out]; simp; omega), by rw [HT.out]; omega, HBl.out.alloc HBl.out.size _⟩
              case measure => simp [intOf]; omega
      · have hke : cs.take k = cs := List.take_of_length_le (by omega)
        rw [hke] at ha ht
        have HV : Hid (validI rom cs = true) := by show _ = _; unfold validI; simp [r0, r1, r2, ha, ht]
        clear ha ht hke
        have HBl : Hid (Below w.heap.size w wr) := hB
        clear hB
        go_wp2
        go_ret
        exact ⟨cp_bool HV.out.symm, HBl.out⟩
  · have HV : Hid (validI rom cs = false) := by show _ = _; unfold validI; simp [h0]
    rw [HV.out]
    by_cases r0 : rom < 0
    · clear h0
      go_enter Tryz.func50, Tryz.ntmps50
      go_wp2
      go_ret
      exact ⟨rfl, (Below.refl _ _).alloc (Nat.le_refl _) _⟩
    · have r0' : 0 ≤ rom := by omega
      by_cases r1 : 256 < rom
      · clear h0
        go_enter Tryz.func50, Tryz.ntmps50
        go_wp2
        go_ret
        exact ⟨rfl, (Below.refl _ _).alloc (Nat.le_refl _) _⟩
      · have r1' : rom ≤ 256 := by omega
        have r2 : (8 : Int) < (cs.length : Int) := by omega
        clear h0
        go_enter Tryz.func50, Tryz.ntmps50
        go_wp2
        go_ret
        exact ⟨rfl, (Below.refl _ _).alloc (Nat.le_refl _) _⟩

/-- Bytes put into memory from an address on. -/
def fillB (m : Nat → Int) (at_ : Int) (bs : List UInt8) : Nat → Int := bs.zipIdx.foldl (fun m p => mput m ((at_ + (p.2 : Int)) % 65536).toNat (p.1.toNat : Int)) m
def fillI (m : Nat → Int) (cs : List Chn) : Nat → Int := cs.foldl (fun m c => fillB m c.at_ c.bs) m

theorem fillB_snoc (m : Nat → Int) (at_ : Int) (bs : List UInt8) (k : Nat) (h : k < bs.length) :
    fillB m at_ (bs.take (k + 1)) = mput (fillB m at_ (bs.take k)) ((at_ + (k : Int)) % 65536).toNat (bs[k].toNat : Int) := by
  have e : min k bs.length = k := by omega
  unfold fillB; rw [take_snoc8 bs k h, List.zipIdx_append, List.foldl_append]; simp [e]
theorem fillI_snoc (m : Nat → Int) (cs : List Chn) (k : Nat) (h : k < cs.length) : fillI m (cs.take (k + 1)) = fillB (fillI m (cs.take k)) cs[k].at_ cs[k].bs := by
  unfold fillI; rw [chn_snoc cs k h, List.foldl_append]; rfl
end

/-
  Memory filled.
-/
section
theorem total_le {cs : List Chn} {c : Chn} (h : c ∈ cs) : c.bs.length ≤ total cs := by
  unfold total
  induction cs with
  | nil => cases h
  | cons x l ih =>
    simp only [List.map_cons, List.sum_cons]
    cases h with
    | head => omega
    | tail _ h => have := ih h; omega
theorem u8_r (c : UInt8) : (0 : Int) ≤ (c.toNat : Int) ∧ (c.toNat : Int) < 256 := by have := c.toNat_lt; omega

theorem fill_any {B : Nat} {s : PC} {w0 w : World} (h : Tn B s w0 w) (N : Nat) (hN : N ≤ B) (v : Value) (cs : List Chn) (rom : Int) (hc : CfAt N w v cs) (hv : validI rom cs = true) :
    Calls Tryz.prog 51 #[.pointer (some ⟨B, 0, none⟩), .agg #[v, .int .i64 rom]] w fun e w' => e = .returned (.tuple #[]) ∧ Tn B { s with rom := rom * 256, mem := fillI s.mem cs } w0 w' := by
  have hv' := hv
  unfold validI at hv
  simp only [Bool.and_eq_true, decide_eq_true_eq] at hv
  obtain ⟨⟨r0, r1, r2⟩, hall, htot⟩ := hv
  clear hv'
  obtain ⟨p, cap, rfl, H⟩ := hc
  have HH : Hid (cs ≠ [] → ∃ b off, p = some ⟨b, off, none⟩ ∧ b < N ∧
      ∀ i, (h : i < cs.length) → w.cell? ⟨b, off + i * 2, none⟩ = some (.int .i64 cs[i].at_) ∧ w.cell? ⟨b, off + i * 2 + 1, none⟩ = some cs[i].v ∧ ChV N w cs[i].v cs[i].bs) := H
  have HA : Hid (cs.all okChn = true) := hall
  have HT : Hid (total cs ≤ 4096) := htot
  clear H hall htot
  have hlt := h.c.lt
  have hsz := h.g.size
  have n0 : w.heap.size ≠ B := by omega
  have m0 : B ≠ w.heap.size := by omega
  have fz0 := h.c.free
  have c_rom := h.c.crom
  have Hh : Hid (Tn B s w0 w) := h
  clear h
  go_enter Tryz.func51, Tryz.ntmps51
  go_wp2
  go_loopw [17] (fun i wr => ∃ k : Nat, k ≤ cs.length ∧ i = .int .i64 k ∧ Tn B { s with rom := rom * 256, mem := fillI s.mem (cs.take k) } w0 wr ∧ w.grownBy wr (some B)) (fun i _ => cs.length - (intOf i).toNat)
  case atStart => exact ⟨0, Nat.zero_le _, rfl, (Hh.out.setRom (rom * 256) (by omega)).alloc _, cp_trans (cp_set _ _ _ _) (cp_alloc _ _ _)⟩
  case round =>
    obtain ⟨k, hk, rfl, hT, hG⟩ := hrel
    by_cases hl2 : k < cs.length
    · obtain ⟨b, off, rfl, hbN, HC⟩ := HH.out (by intro e; rw [e] at hl2; simp at hl2)
      obtain ⟨c1, c2, p2, cap2, hv, hB2⟩ := HC k hl2
      have d1 := (grown_cell hG (by omega) (by rw [c1]; simp)).trans c1
      have d2 := (grown_cell hG (by omega) (by rw [c2]; simp)).trans c2
      rw [hv] at d2
      have HF : Hid (fillI s.mem (cs.take (k + 1)) = fillB (fillI s.mem (cs.take k)) cs[k].at_ cs[k].bs) := fillI_snoc s.mem cs k hl2
      have oc := List.all_eq_true.1 HA.out _ (List.getElem_mem hl2)
      unfold okChn at oc
      have oc2 := of_decide_eq_true oc
      obtain ⟨a0, a1⟩ := oc2
      have hL : cs[k].bs.length ≤ 4096 := Nat.le_trans (total_le (List.getElem_mem hl2)) HT.out
      clear oc c1 c2 hv HC
      have HT1 : Hid (Tn B { s with rom := rom * 256, mem := fillI s.mem (cs.take k) } w0 wr ∧ w.grownBy wr (some B)) := ⟨hT, hG⟩
      have bl := hT.c.lt
      have fz := hT.c.free
      have hsr := hG.size
      have hs0 := hT.g.size
      have n1 : wr.heap.size ≠ B := by omega
      have m1 : B ≠ wr.heap.size := by omega
      clear hT hG
      generalize fillI s.mem (cs.take k) = M at *
      generalize cs[k].at_ = A at *
      generalize cs[k].bs = l at *
      have HB2 : Hid (l ≠ [] → ∃ b off, p2 = some ⟨b, off, none⟩ ∧ b < N ∧ BytesAt w b off l) := hB2
      clear hB2
      go_wp2
      go_loopw [24] (fun i wq => ∃ j : Nat, j ≤ l.length ∧ i = .int .i64 j ∧ Tn B { s with rom := rom * 256, mem := fillB M A (l.take j) } w0 wq ∧ w.grownBy wq (some B) ∧ wq.cell? ⟨wr.heap.size, 0, none⟩ = some (.int .i64 A)) (fun i _ => l.length - (intOf i).toNat)
      case atStart => exact ⟨0, Nat.zero_le _, rfl, HT1.out.1.alloc _, cp_trans HT1.out.2 (cp_alloc _ _ _), World.cell?_alloc_at _ _ _ _ rfl⟩
      case round =>
        obtain ⟨j, hj, rfl, hT, hG, hq⟩ := hrel
        by_cases hlj : j < l.length
        · obtain ⟨b2, off2, rfl, hb2, hBy⟩ := HB2.out (by intro e; rw [e] at hlj; simp at hlj)
          have hcell := (grown_cell (o := off2 + j) hG (by omega) (by rw [hBy j hlj]; simp)).trans (hBy j hlj)
          have HS : Hid (fillB M A (l.take (j + 1)) = mput (fillB M A (l.take j)) ((A + (j : Int)) % 65536).toNat (l[j].toNat : Int)) := fillB_snoc M A l j hlj
          have hm := hT.c.mem ((A + (j : Int)) % 65536).toNat (by omega)
          have fq := hT.c.free ((A + (j : Int)) % 65536).toNat
          have qlt := hT.c.lt
          have i0 : 0 ≤ A + (j : Int) := by omega
          have i1 : 0 ≤ (A + (j : Int)) % 65536 := by omega
          have i2 : (A + (j : Int)) % 65536 < 65536 := by omega
          have HT2 : Hid (Tn B { s with rom := rom * 256, mem := fillB M A (l.take j) } w0 wr ∧ w.grownBy wr (some B)) := ⟨hT, hG⟩
          have hu := u8_r l[j]
          clear hT hG hBy
          generalize fillB M A (l.take j) = M2 at *
          generalize l[j] = x at *
          go_wp2
          go_region
          all_goals
            go_wp2
            go_roundw
            case rel => exact ⟨j + 1, by omega, by go_num, by rw [HS.out]; exact (HT2.out.1.setMem _ _ (by omega) hu).drew, cp_trans (cp_trans HT2.out.2 (cp_set _ _ _ _)) (cp_drew _ _), (World.cell?_setCell_other _ _ _ _ (fun e => by injection e with e1 e2; omega)).trans hq⟩
            case measure => simp [intOf]; omega
        · have hke : l.take j = l := List.take_of_length_le (by omega)
          rw [hke] at hT
          rw [← HF.out] at hT
          have HT2 : Hid (Tn B { s with rom := rom * 256, mem := fillI s.mem (cs.take (k + 1)) } w0 wr ∧ w.grownBy wr (some B)) := ⟨hT, hG⟩
          clear hT hG hke
          go_wp2
          go_roundw
          case rel => exact ⟨k + 1, by omega, by go_num, HT2.out.1, HT2.out.2⟩
          case measure => simp [intOf]; omega
    · have hke : cs.take k = cs := List.take_of_length_le (by omega)
      rw [hke] at hT
      have HT1 : Hid (Tn B { s with rom := rom * 256, mem := fillI s.mem cs } w0 wr) := hT
      clear hT hG hke
      go_wp2
      go_end0
      exact ⟨rfl, HT1.out⟩
end
end

/-
  The document's answer, its small parts: cut, digits, sum, hex.
-/
section
set_option maxRecDepth 100000
set_option maxHeartbeats 1000000

theorem ba_eq {h : ByteArray} {l : List UInt8} (e : h.data.toList = l) : h = ⟨l.toArray⟩ := by subst e; cases h; simp
end

/-
  The document's answer: body and packet.
-/
section
set_option maxRecDepth 100000
set_option maxHeartbeats 1000000

/-- A slice of bytes that the call itself has made, or nil. -/
structure OwnsN (base : Nat) (w0 w : World) (v : Value) (l : List UInt8) : Prop where
  own : w.ownsRow base 5 1 v l.length (vals l)
  bel : Below base w0 w
  sz : base ≤ w.heap.size

theorem Owns.n {base : Nat} {w0 w : World} {v : Value} {l : List UInt8} (h : Owns base w0 w v l) : OwnsN base w0 w v l := by
  obtain ⟨g, cap, rfl, h1, h2, h3⟩ := h; exact ⟨h1, h2, h3⟩
end

/-
  The document's answer: Feed of a scan.
-/
section
set_option maxRecDepth 100000
set_option maxHeartbeats 4000000

/-- The document's scan in block R. -/
structure RsCells (w : World) (R : Nat) (raw : List UInt8) (inn : Bool) (tail : Nat) : Prop where
  c0 : w.cell? ⟨R, 0, none⟩ = some (.string ⟨raw.toArray⟩)
  c1 : w.cell? ⟨R, 1, none⟩ = some (.bool inn)
  c2 : w.cell? ⟨R, 2, none⟩ = some (.int .i64 (tail : Int))
  free : ∀ o, w.frozen? ⟨R, o, none⟩ = false

theorem RsCells.lt {w : World} {R : Nat} {raw : List UInt8} {inn : Bool} {tail : Nat} (h : RsCells w R raw inn tail) : R < w.heap.size := World.block_lt_of_cell? w ⟨R, 0, none⟩ h.c0
theorem RsCells.grown {w w' : World} {R : Nat} {raw : List UInt8} {inn : Bool} {tail : Nat} {row : Option Nat} (h : RsCells w R raw inn tail) (hg : w.grownBy w' row) (hne : some R ≠ row) : RsCells w' R raw inn tail := by
  have hb := hg.block R h.lt hne
  have hc : ∀ o, w'.cell? ⟨R, o, none⟩ = w.cell? ⟨R, o, none⟩ := fun o => World.cell?_of_block (a := ⟨R, o, none⟩) hb
  have hf : ∀ o, w'.frozen? ⟨R, o, none⟩ = w.frozen? ⟨R, o, none⟩ := fun o => World.frozen?_of_block (a := ⟨R, o, none⟩) hb
  exact ⟨by rw [hc]; exact h.c0, by rw [hc]; exact h.c1, by rw [hc]; exact h.c2, fun o => by rw [hf]; exact h.free o⟩

def rRaw (s : Sc) : List UInt8 := if s.st = 0 then [] else if s.st = 1 then s.raw else if s.st = 2 then s.raw ++ [35] else s.raw ++ [35, s.sum]
def rTail (s : Sc) : Nat := if s.st = 2 then 1 else if s.st = 3 then 2 else 0
def rIn (s : Sc) : Bool := decide (s.st ≠ 0)

structure RsAt (w : World) (R : Nat) (s : Sc) : Prop where
  st3 : s.st ≤ 3
  len : s.raw.length ≤ 200
  cells : RsCells w R (rRaw s) (rIn s) (rTail s)

/-- The packets' slice of a Feed of the document's, and its scan. -/
structure FedR (R : Nat) (w0 w : World) (v : Value) (s : Sc) (ps : List Pk) : Prop where
  own : w.ownsRow w0.heap.size 152 3 v ps.length (pvals ps)
  nil : ps = [] → v = .slice none 0 0
  sc : RsAt w R s
  grown : w0.grownBy w (some R)
  lt : R < w0.heap.size

/-- The same, with whatever cells its scan has. -/
structure FedC (R : Nat) (w0 w : World) (v : Value) (ps : List Pk) (raw : List UInt8) (inn : Bool) (tail : Nat) : Prop where
  own : w.ownsRow w0.heap.size 152 3 v ps.length (pvals ps)
  nil : ps = [] → v = .slice none 0 0
  cells : RsCells w R raw inn tail
  grown : w0.grownBy w (some R)
  lt : R < w0.heap.size

section
variable {R : Nat} {w0 w : World} {v : Value} {ps : List Pk} {raw : List UInt8} {inn : Bool} {tail : Nat}
theorem FedC.ne (h : FedC R w0 w v ps raw inn tail) : v.ownBlock ≠ some R := fun e => by have h1 := (h.own.lt R e).1; have h2 := h.lt; omega
theorem FedC.set {w1 : World} {raw' : List UInt8} {inn' : Bool} {tail' : Nat} (h : FedC R w0 w v ps raw inn tail) (hg : w.grownBy w1 (some R)) (hc : RsCells w1 R raw' inn' tail') : FedC R w0 w1 v ps raw' inn' tail' :=
  ⟨h.own.kept hg (.inr h.ne), h.nil, hc, grown_trans h.grown hg, h.lt⟩
theorem FedC.append {w3 : World} {p : Pk} {o : Obj} {g cap : Nat} (h : FedC R w0 w v ps raw inn tail)
    (hown : w3.ownsRow w0.heap.size 152 3 (.slice (some ⟨g, 0, none⟩) (ps.length + 1) cap) (ps.length + 1) (pvals ps ++ p.cells)) (hg : (w.alloc o).grownBy w3 v.ownBlock) :
    FedC R w0 w3 (.slice (some ⟨g, 0, none⟩) (ps.length + 1) cap) (ps ++ [p]) raw inn tail := by
  have hlt := h.lt
  have hne : some R ≠ v.ownBlock := fun e => h.ne e.symm
  have hal : RsCells (w.alloc o) R raw inn tail := h.cells.grown (World.grownBy_alloc w o none) (by simp)
  refine ⟨by rw [pvals_snoc]; simpa using hown, by simp, hal.grown hg hne, ?_, h.lt⟩
  have hs := h.grown.size
  have hs3 := hg.size
  simp only [World.size_alloc] at hs3
  refine ⟨hg.os.trans h.grown.os, hg.tape.trans h.grown.tape, hg.output.trans h.grown.output, by omega, ?_⟩
  intro k hk hkB
  have hne' : some k ≠ v.ownBlock := fun e => by have := (h.own.lt k e.symm).1; omega
  exact (hg.block k (by simp; omega) hne').trans ((Below.heap_alloc w o k (by omega)).trans (h.grown.block k hk hkB))
end

theorem FedR.c {R : Nat} {w0 w : World} {v : Value} {s : Sc} {ps : List Pk} (h : FedR R w0 w v s ps) : FedC R w0 w v ps (rRaw s) (rIn s) (rTail s) := ⟨h.own, h.nil, h.sc.cells, h.grown, h.lt⟩
theorem FedC.r {R : Nat} {w0 w : World} {v : Value} {s : Sc} {ps : List Pk} {raw : List UInt8} {inn : Bool} {tail : Nat} (h : FedC R w0 w v ps raw inn tail) (h1 : s.st ≤ 3) (h2 : s.raw.length ≤ 200) (e1 : raw = rRaw s) (e2 : inn = rIn s) (e3 : tail = rTail s) : FedR R w0 w v s ps := by
  subst e1 e2 e3; exact ⟨h.own, h.nil, ⟨h1, h2, h.cells⟩, h.grown, h.lt⟩
end

/-
  The document's Frame; and what both Frames refuse.
-/
section
set_option maxRecDepth 100000
set_option maxHeartbeats 1000000

theorem size_toList (a : ByteArray) : a.size = a.data.toList.length := by simp
end

/-
  Lists of which every entry is one and the same mark: what append does to them.
-/
section
/-- A row of cells of element type e: room for cap elements of size cells each; nothing of it is frozen. -/
def RowAt (w : World) (g : Nat) (e size cap : Nat) : Prop := ∃ cur, w.heap[g]? = some (.cells cur e (0, 0)) ∧ cur.size = cap * size

theorem RowAt.there {w : World} {g e size cap : Nat} (h : RowAt w g e size cap) (i : Nat) (hi : i < cap * size) : ∃ v, w.cell? ⟨g, i, none⟩ = some v := by
  obtain ⟨cur, h1, h2⟩ := h
  exact ⟨cur[i]'(by omega), by rw [cell_of_row w g i cur e (0, 0) h1]; simp⟩
theorem RowAt.free {w : World} {g e size cap : Nat} (h : RowAt w g e size cap) (i : Nat) : w.frozen? ⟨g, i, none⟩ = false := by
  obtain ⟨cur, h1, _⟩ := h
  simp [World.frozen?, h1]
theorem RowAt.lt {w : World} {g e size cap : Nat} (h : RowAt w g e size cap) : g < w.heap.size := by
  obtain ⟨cur, h1, _⟩ := h; exact (Array.getElem?_eq_some_iff.1 h1).1
theorem RowAt.setCell {w : World} {g e size cap : Nat} (h : RowAt w g e size cap) (b o : Nat) (v : Value) : RowAt (w.setCell ⟨b, o, none⟩ v) g e size cap := by
  obtain ⟨cur, h1, h2⟩ := h
  by_cases hb : g = b
  · subst hb
    refine ⟨cur.setIfInBounds o v, ?_, by simpa using h2⟩
    simp only [World.setCell, Array.getElem?_modify, h1]
    simp
  · exact ⟨cur, by rw [Below.heap_setCell _ _ _ _ hb]; exact h1, h2⟩
theorem RowAt.setCells {g e size cap : Nat} (b : Nat) : ∀ (vs : List Value) (o : Nat) (w : World), RowAt w g e size cap → RowAt (w.setCells b o vs) g e size cap
  | [], _, _, h => h
  | v :: r, o, _, h => RowAt.setCells b r (o + 1) _ (h.setCell b o v)

section
variable (e size : Nat) (xf : Nat → Value) (row : Option Nat) (H : Nat)

def Ok (g : Nat) : Prop := some g = row ∨ H ≤ g

/-- v has n entries, each of which is the mark. -/
def AllX (w : World) (v : Value) (n : Nat) : Prop :=
  (v = .slice none 0 0 ∧ n = 0) ∨ ∃ g cap, v = .slice (some ⟨g, 0, none⟩) n cap ∧ Ok row H g ∧ n ≤ cap ∧ RowAt w g e size cap ∧ ∀ i, i < n * size → w.cell? ⟨g, i, none⟩ = some (xf (i % size))

/-- Nothing but marks was written, into the one row or new ones. -/
structure XExt (w w' : World) : Prop where
  os : w'.os = w.os
  tape : w'.tape = w.tape
  output : w'.output = w.output
  sz : w.heap.size ≤ w'.heap.size
  old : ∀ k, k < H → some k ≠ row → w'.heap[k]? = w.heap[k]?
  rows : ∀ g cap, Ok row H g → RowAt w g e size cap → RowAt w' g e size cap
  cells : ∀ g i, Ok row H g → g < w.heap.size → w.cell? ⟨g, i, none⟩ = some (xf (i % size)) → w'.cell? ⟨g, i, none⟩ = some (xf (i % size))
end

section
variable {e size : Nat} {xf : Nat → Value} {row : Option Nat} {H : Nat}

theorem XExt.refl (w : World) : XExt e size xf row H w w := ⟨rfl, rfl, rfl, Nat.le_refl _, fun _ _ _ => rfl, fun _ _ _ h => h, fun _ _ _ _ h => h⟩
theorem XExt.trans {a b c : World} (h : XExt e size xf row H a b) (k : XExt e size xf row H b c) : XExt e size xf row H a c :=
  ⟨k.os.trans h.os, k.tape.trans h.tape, k.output.trans h.output, Nat.le_trans h.sz k.sz, fun i h1 h2 => (k.old i h1 h2).trans (h.old i h1 h2), fun g cap ho hr => k.rows g cap ho (h.rows g cap ho hr),
   fun g i ho hl hc => k.cells g i ho (Nat.lt_of_lt_of_le hl h.sz) (h.cells g i ho hl hc)⟩
theorem XExt.drew {a b : World} (h : XExt e size xf row H a b) : XExt e size xf row H a b.drew := ⟨h.os, h.tape, h.output, h.sz, h.old, h.rows, h.cells⟩
theorem XExt.drewN {a b : World} (h : XExt e size xf row H a b) (n : Nat) : XExt e size xf row H a (b.drewN n) := ⟨h.os, h.tape, h.output, h.sz, h.old, h.rows, h.cells⟩
theorem XExt.ofGrown {w w' : World} (hg : w.grownBy w' none) (hH : H ≤ w.heap.size) : XExt e size xf row H w w' := by
  refine ⟨hg.os, hg.tape, hg.output, hg.size, fun k hk _ => hg.block k (by omega) (by simp), ?_, ?_⟩
  · rintro g cap _ hr
    obtain ⟨cur, h1, h2⟩ := hr
    exact ⟨cur, (hg.block g (Array.getElem?_eq_some_iff.1 h1).1 (by simp)).trans h1, h2⟩
  · intro g i _ hl hc
    rw [World.cell?_of_block (a := ⟨g, i, none⟩) (hg.block g hl (by simp))]; exact hc
theorem AllX.ext {w w' : World} {v : Value} {n : Nat} (h : AllX e size xf row H w v n) (hx : XExt e size xf row H w w') : AllX e size xf row H w' v n := by
  rcases h with h | ⟨g, cap, rfl, ho, hn, hr, hc⟩
  · exact .inl h
  · exact .inr ⟨g, cap, rfl, ho, hn, hx.rows g cap ho hr, fun i hi => hx.cells g i ho hr.lt (hc i hi)⟩
theorem XExt.setCells {w : World} (g o : Nat) (news : List Value) (ho : Ok row H g) (hrow : H ≤ g ∨ some g = row) (hth : ∀ j, j < news.length → (w.cell? ⟨g, o + j, none⟩).isSome = true)
    (hnews : ∀ j u, news[j]? = some u → u = xf ((o + j) % size)) : XExt e size xf row H w (w.setCells g o news) := by
  have hblk : ∀ (vs : List Value) (o : Nat) (w : World) (k : Nat), k ≠ g → (w.setCells g o vs).heap[k]? = w.heap[k]? := by
    intro vs
    induction vs with
    | nil => intros; rfl
    | cons v r ih => intro o w k hk; show ((w.setCell ⟨g, o, none⟩ v).setCells g (o + 1) r).heap[k]? = _; rw [ih _ _ _ hk, Below.heap_setCell _ _ _ _ hk]
  have hmeta : ∀ (vs : List Value) (o : Nat) (w : World), (w.setCells g o vs).os = w.os ∧ (w.setCells g o vs).tape = w.tape ∧ (w.setCells g o vs).output = w.output ∧ (w.setCells g o vs).heap.size = w.heap.size := by
    intro vs
    induction vs with
    | nil => intros; exact ⟨rfl, rfl, rfl, rfl⟩
    | cons v r ih =>
      intro o w
      have := ih (o + 1) (w.setCell ⟨g, o, none⟩ v)
      exact ⟨this.1, this.2.1, this.2.2.1, by rw [show (w.setCells g o (v :: r)).heap.size = ((w.setCell ⟨g, o, none⟩ v).setCells g (o + 1) r).heap.size from rfl, this.2.2.2]; simp⟩
  have hm := hmeta news o w
  refine ⟨hm.1, hm.2.1, hm.2.2.1, by omega, ?_, ?_, ?_⟩
  · intro k hk hne
    exact hblk news o w k (fun e => by subst e; rcases hrow with h | h; omega; exact hne h)
  · intro g' cap' _ hr; exact RowAt.setCells g news o w hr
  · intro g' i _ _ hc
    by_cases hg : g' = g
    · subst hg
      by_cases hi : o ≤ i ∧ i < o + news.length
      · have := World.cell?_setCells_in g' news o w hth (i - o) (by omega)
        rw [show o + (i - o) = i from by omega] at this
        rw [this, hnews (i - o) _ (List.getElem?_eq_getElem (by omega)), show o + (i - o) = i from by omega]
      · rw [World.cell?_setCells_out g' news o w ⟨g', i, none⟩ (fun _ _ => by simp only; omega)]; exact hc
    · rw [World.cell?_setCells_out g news o w ⟨g', i, none⟩ (fun e _ => absurd e hg)]; exact hc

end
end

/-
  Lists of bytes that came out: their owner's marks.
-/
section
set_option maxRecDepth 100000
set_option maxHeartbeats 4000000

def xfB (m : Nat) : Nat → Value := fun _ => .int .u8 ((m % 251 : Nat) : Int)

theorem AllX.alloc {e size : Nat} {xf : Nat → Value} {row : Option Nat} {H : Nat} {w : World} {v : Value} {n : Nat} (h : AllX e size xf row H w v n) (o : Obj) (hH : H ≤ w.heap.size) : AllX e size xf row H (w.alloc o) v n := h.ext (XExt.ofGrown (World.grownBy_alloc w o none) hH)
theorem XExt.alloc {e size : Nat} {xf : Nat → Value} {row : Option Nat} {H : Nat} {a w : World} (h : XExt e size xf row H a w) (o : Obj) (hH : H ≤ w.heap.size) : XExt e size xf row H a (w.alloc o) := h.trans (XExt.ofGrown (World.grownBy_alloc w o none) hH)
theorem XExt.setX {e size : Nat} {xf : Nat → Value} {row : Option Nat} {H : Nat} {a w : World} (h : XExt e size xf row H a w) {g cap : Nat} (hr : RowAt w g e size cap) (ho : Ok row H g) (k : Nat) (hk : k < cap * size) : XExt e size xf row H a (w.setCell ⟨g, k, none⟩ (xf (k % size))) :=
  h.trans (XExt.setCells g k [xf (k % size)] ho (by rcases ho with h | h; exact .inr h; exact .inl h) (fun j hj => by
    have : j = 0 := by simpa using hj
    subst this
    obtain ⟨u, hu⟩ := hr.there k hk
    rw [Nat.add_zero, hu]; rfl) (fun j u hj => by
    match j, hj with
    | 0, hj => simp at hj; subst hj; rfl))

theorem Ok.mono {row : Option Nat} {H H' g : Nat} (h : Ok row H g) (hH : H' ≤ H) : Ok row H' g := by
  rcases h with h | h
  · exact .inl h
  · exact .inr (by omega)
theorem AllX.mono {e size : Nat} {xf : Nat → Value} {row : Option Nat} {H H' : Nat} {w : World} {v : Value} {n : Nat} (h : AllX e size xf row H w v n) (hH : H' ≤ H) : AllX e size xf row H' w v n := by
  rcases h with h | ⟨g, cap, rfl, ho, hn, hr, hc⟩
  · exact .inl h
  · exact .inr ⟨g, cap, rfl, ho.mono hH, hn, hr, hc⟩
theorem XExt.grown {e size : Nat} {xf : Nat → Value} {row : Option Nat} {H : Nat} {w wr : World} (h : XExt e size xf row H w wr) : ∀ k, k < H → some k ≠ row → wr.heap[k]? = w.heap[k]? := h.old
end

/-
  Lists of packets that came out: their owner's marks.
-/
section
set_option maxRecDepth 100000
set_option maxHeartbeats 4000000

def xfP (m : Nat) : Nat → Value := fun i => if i = 0 then .int .i64 (-1000 - (m : Int)) else if i = 1 then .string ⟨#[]⟩ else .bool false
end

/-
  What is lent, and given back: lent, back.
-/
section
set_option maxRecDepth 100000
set_option maxHeartbeats 1000000

theorem wpList_copy_str {P : Program} (w : World) {ops : Array Oper} {rest : List Oper} {o : Oper} {a : Go.Act} {Q : Exit → Go.Act → World → Prop} (hgd : o.guard = none) (d s : Operand) (dT sT : TypeId)
    (ho : o.op = .call { callee := .builtin .copy, args := #[d, s], argTypes := #[dT, sT] }) (elem : TypeId) (i : TypeInfo) (hu : P.underlying dT = some (.slice elem)) (hi : P.info? elem = some i)
    (g dLen dCap : Nat) (hd : a.eval d = .slice (some ⟨g, 0, none⟩) dLen dCap) (x : ByteArray) (hs : a.eval s = .string x) (hle : x.size ≤ dLen)
    (hth : ∀ j, j < x.size → (w.cell? ⟨g, j, none⟩).isSome = true) (hfr : ∀ j, j < x.size → w.frozen? ⟨g, j, none⟩ = false)
    (h : wpList P ops Q rest (a.put o.dst (goInt x.size)) (w.setCells g 0 (vals x.data.toList))) : wpList P ops Q (o :: rest) a w := by
  refine wpList_plain hgd fun K hK => ?_
  have hmin : Nat.min x.size dLen = x.size := Nat.min_eq_left hle
  have hl : (vals x.data.toList).length = x.size := by rw [vals_length]; simp
  have hst := run_storeCells_cells (P := P) g 0 (vals x.data.toList) 0 w (fun j hj => by rw [hl] at hj; simpa using hth j hj) (fun j hj => by rw [hl] at hj; simpa using hfr j hj) (by intro v hv; simp [vals] at hv; obtain ⟨c, _, rfl⟩ := hv; rfl)
  have hrun : (Builtin.copy_ #[dT, sT] o.type #[.slice (some ⟨g, 0, none⟩) dLen dCap, .string x]).run P w = .ok (goInt x.size) (w.setCells g 0 (vals x.data.toList)) := by
    simp [Builtin.copy_, run_underlying hu, Builtin.lenOf, Builtin.firstCells, sizeOf, typeInfo, hi, hmin]
    have e : List.map (fun b : UInt8 => Value.int .u8 (b.toNat : Int)) x.data.toList = vals x.data.toList := rfl
    rw [e, List.take_of_length_le (by rw [hl]; omega), hst]; rfl
  unfold Oper.wp
  simp [execOp, ho, resolve, invoke, builtin, hd, hs, hrun, Result.andThen]
  exact hK _ _ h

structure LentAt (w : World) (g : Nat) (l : List UInt8) : Prop where
  row : RowAt w g 5 1 (l.length + 8)
  bytes : BytesAt w g 0 l
  spare : ∀ j, j < 8 → w.cell? ⟨g, l.length + j, none⟩ = some (.int .u8 77)

theorem copied {w : World} {g : Nat} {l : List UInt8} {cap : Nat} (hr : RowAt w g 5 1 cap) (hl : l.length ≤ cap) : BytesAt (w.setCells g 0 (vals l)) g 0 l := by
  intro i hi
  have := World.cell?_setCells_in g (vals l) 0 w (fun j hj => by rw [vals_length] at hj; obtain ⟨u, hu⟩ := hr.there (0 + j) (by omega); rw [hu]; rfl) i (by rw [vals_length]; exact hi)
  rw [this]; simp [vals]

theorem setCells_grown (g : Nat) : ∀ (vs : List Value) (o : Nat) (w : World), w.grownBy (w.setCells g o vs) (some g) ∧ (w.setCells g o vs).heap.size = w.heap.size
  | [], _, w => ⟨World.grownBy.refl _ _, rfl⟩
  | v :: r, o, w => by
    obtain ⟨h1, h2⟩ := setCells_grown g r (o + 1) (w.setCell ⟨g, o, none⟩ v)
    exact ⟨grown_trans (grown_set w g o v) h1, h2.trans (by simp)⟩

theorem below_of_grown {w0 w w' : World} {g : Nat} (hb : Below w0.heap.size w0 w) (hg : w.grownBy w' (some g)) (hl : w0.heap.size ≤ g) : Below w0.heap.size w0 w' := hb.grown hg hb.size (fun k e => by injection e with e; omega)

theorem bytes_set {w : World} {g o : Nat} {l : List UInt8} {v : Value} (h : BytesAt w g 0 l) (ho : l.length ≤ o) : BytesAt (w.setCell ⟨g, o, none⟩ v) g 0 l := by
  intro i hi
  rw [World.cell?_setCell_other _ _ _ _ (addr_ne _ _ _ (by omega))]; exact h i hi
theorem spare_set {w : World} {g n k : Nat} {u : Value} (h : ∀ j, j < k → w.cell? ⟨g, n + j, none⟩ = some (.int .u8 77)) (hu : w.cell? ⟨g, n + k, none⟩ = some u) :
    ∀ j, j < k + 1 → (w.setCell ⟨g, n + k, none⟩ (.int .u8 77)).cell? ⟨g, n + j, none⟩ = some (.int .u8 77) := by
  intro j hj
  by_cases e : j = k
  · subst e; exact World.cell?_setCell_same _ _ _ hu
  · rw [World.cell?_setCell_other _ _ _ _ (addr_ne _ _ _ (by omega))]; exact h j (by omega)

theorem row_of_own {w : World} {base g n : Nat} {xs : List Value} (h : w.ownsRow base 5 1 (.slice (some ⟨g, 0, none⟩) n n) n xs) : RowAt w g 5 1 n := by
  rcases h.2 with ⟨e, _⟩ | ⟨g', cap, cur, e, _, h1, _, _, h2, _⟩
  · simp at e
  · injection e with e1 e2 e3; injection e1 with e1; injection e1 with e1; subst e1 e3; exact ⟨cur, h1, h2⟩

theorem empty_size {s : ByteArray} (h : s.toList.isEmpty = true) : s.size = 0 := by
  rw [Lib.toList_data] at h
  rw [size_toList, List.isEmpty_iff.1 h]; rfl

theorem lent_any (s : ByteArray) (b : Bool) (w : World) (hs : s.size ≤ 10000000) (hn : ¬ (s.size = 0 ∧ b = true)) :
    Calls Tryz.prog 70 #[.string s, .bool b] w fun e w' => e = .returned (.slice (some ⟨w.heap.size, 0, none⟩) s.size (s.size + 8)) ∧ LentAt w' w.heap.size s.data.toList ∧ Below w.heap.size w w' := by
  obtain ⟨i0, hi, hz0, hz1, hz2⟩ := info_parts inf_u8
  have hm : i0.bytes * (s.size + 8) ≤ 281474976710656 := by rw [hz2]; omega
  have hcase : (s.toList.isEmpty = false) ∨ (s.toList.isEmpty = true ∧ b = false) := by
    cases hq : s.toList.isEmpty with
    | false => exact .inl rfl
    | true => exact .inr ⟨rfl, by cases b with
      | false => rfl
      | true => exact absurd ⟨empty_size hq, rfl⟩ hn⟩
  clear hn
  have hlen : s.data.toList.length = s.size := by simp
  rcases hcase with hq | ⟨hq, rfl⟩
  all_goals
    go_enter Tryz.func70, Tryz.ntmps70
    go_wp2_with (first | (at_make; go_must (refine wpList_make_full _ rfl _ _ 35 rfl w.heap.size 5 i0 (.int .u8 0) 1 und_bytes hi hz0 hz1 .i64 .i64 _ _ (s.size + 8) rfl rfl (by omega) (by omega) hm (by unfold maxLen; omega) (Nat.le_refl _) ?_; intro w1 hown1 hgrow1; have HR : Hid (RowAt w1 w.heap.size 5 1 (s.size + 8) ∧ Below w.heap.size w w1) := ⟨row_of_own hown1, (Below.refl _ _).grown hgrow1 (Nat.le_refl _) (by simp)⟩; clear hown1 hgrow1)) | (refine wpList_copy_str _ rfl (.tmp 16) (.tmp 17) 35 9 rfl 5 i0 und_bytes hi w.heap.size (s.size + 8) (s.size + 8) rfl s rfl (by omega) ?_ ?_ ?_; (intro j hj; obtain ⟨u, hu⟩ := HR.out.1.there j (by omega); rw [hu]; rfl); (intro j hj; exact HR.out.1.free j)))
    have HC : Hid (RowAt (w1.setCells w.heap.size 0 (vals s.data.toList)) w.heap.size 5 1 (s.size + 8) ∧ BytesAt (w1.setCells w.heap.size 0 (vals s.data.toList)) w.heap.size 0 s.data.toList ∧ Below w.heap.size w (w1.setCells w.heap.size 0 (vals s.data.toList))) :=
      ⟨RowAt.setCells _ _ _ _ HR.out.1, copied HR.out.1 (by omega), below_of_grown HR.out.2 (setCells_grown _ _ _ _).1 (Nat.le_refl _)⟩
    generalize w1.setCells w.heap.size 0 (vals s.data.toList) = w2 at *
    clear HR
    go_loopw [6] (fun i wr => ∃ k : Nat, k ≤ 8 ∧ i = .int .i64 ((s.size : Int) + (k : Int)) ∧ RowAt wr w.heap.size 5 1 (s.size + 8) ∧ BytesAt wr w.heap.size 0 s.data.toList ∧ Below w.heap.size w wr ∧ ∀ j, j < k → wr.cell? ⟨w.heap.size, s.size + j, none⟩ = some (.int .u8 77)) (fun i _ => s.size + 8 - (intOf i).toNat)
    case atStart => exact ⟨0, by omega, by go_num, HC.out.1, HC.out.2.1, HC.out.2.2, by simp⟩
    case round =>
      clear HC
      obtain ⟨k, hk, rfl, p0, p1, p2, p3⟩ := hrel
      have HP : Hid (RowAt wr w.heap.size 5 1 (s.size + 8) ∧ BytesAt wr w.heap.size 0 s.data.toList ∧ Below w.heap.size w wr ∧ ∀ j, j < k → wr.cell? ⟨w.heap.size, s.size + j, none⟩ = some (.int .u8 77)) := ⟨p0, p1, p2, p3⟩
      clear p0 p1 p2 p3
      by_cases hlt : k < 8
      · obtain ⟨u, hu⟩ := HP.out.1.there (s.size + k) (by omega)
        have hfu := HP.out.1.free (s.size + k)
        go_wp2
        go_roundw
        case rel => exact ⟨k + 1, by omega, by go_num, HP.out.1.setCell _ _ _, bytes_set HP.out.2.1 (by omega), HP.out.2.2.1.setCell (Nat.le_refl _) _, spare_set HP.out.2.2.2 hu⟩
        case measure => simp [intOf]; omega
      · have hk8 : k = 8 := by omega
        subst hk8
        go_wp2
        go_ret
        exact ⟨rfl, ⟨by rw [hlen]; exact HP.out.1, HP.out.2.1, by rw [hlen]; exact HP.out.2.2.2⟩, HP.out.2.2.1⟩
end

end Go.Proofs.YtcgjliflnnklnaaGreat
