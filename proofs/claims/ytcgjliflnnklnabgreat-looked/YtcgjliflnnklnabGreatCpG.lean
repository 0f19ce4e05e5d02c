/-
  The world in the midst of a mode's cycle: the computer, what was there ahead, and the cell of the result.
-/
import Derived.Test.YtcgjliflnnklnabGreatCpC
namespace Go.Proofs.YtcgjliflnnklnabGreat
open Go.RowKit

/-- The computer in B is s; nothing that was there in w0 has turned but B; the result's cell lies in R, empty yet. -/
structure Ck (w0 : World) (B R : Nat) (s : PC) (W : World) : Prop where
  c : CAt W B s
  g : w0.grownBy W (some B)
  r : W.heap[R]? = some (.cells #[.int .i64 0, .int .i64 0, .bool false, .bool false] 43 (0, 0))
  ne : R ≠ B
  le : w0.heap.size ≤ R

theorem Tn.other {w0 w : World} {B b o : Nat} {v : Value} {s : PC} (h : Tn B s w0 w) (hne : b ≠ B) (hb : w0.heap.size ≤ b) : Tn B s w0 (w.setCell ⟨b, o, none⟩ v) := ⟨h.c.other hne, G.other h.g hb⟩
theorem Ck.t {w0 W : World} {B R : Nat} {s : PC} (k : Ck w0 B R s W) : Tn B s w0 W := ⟨k.c, k.g⟩
theorem Ck.lt {w0 W : World} {B R : Nat} {s : PC} (k : Ck w0 B R s W) : R < W.heap.size := by
  by_cases e : R < W.heap.size
  · exact e
  · have h := k.r; rw [Array.getElem?_eq_none (by omega)] at h; cases h
theorem Ck.mk' {w0 w : World} {B R : Nat} {s : PC} (h : Tn B s w0 w) (hR : w.heap.size = R) : Ck w0 B R s (w.alloc (.cells #[.int .i64 0, .int .i64 0, .bool false, .bool false] 43)) :=
  ⟨h.c.alloc, G.alloc h.g, four_new' hR, by have := h.c.lt; omega, by have := h.g.size; omega⟩
theorem Ck.drew {w0 W : World} {B R : Nat} {s : PC} (k : Ck w0 B R s W) : Ck w0 B R s W.drew := ⟨k.c.drew, G.drew k.g, k.r, k.ne, k.le⟩
theorem Ck.alloc {w0 W : World} {B R : Nat} {s : PC} {o : Obj} (k : Ck w0 B R s W) : Ck w0 B R s (W.alloc o) := ⟨k.c.alloc, G.alloc k.g, four_alloc k.r, k.ne, k.le⟩
theorem Ck.other {w0 W : World} {B R b o : Nat} {v : Value} {s : PC} (k : Ck w0 B R s W) (hne : b ≠ B) (hnr : b ≠ R) (hb : w0.heap.size ≤ b) : Ck w0 B R s (W.setCell ⟨b, o, none⟩ v) :=
  ⟨k.c.other hne, G.other k.g hb, four_set k.r hnr, k.ne, k.le⟩

theorem Ck.setRom {w0 W : World} {B R : Nat} {s : PC} {v : Int} (k : Ck w0 B R s W) (hv : 0 ≤ v ∧ v < 65537) : Ck w0 B R { s with rom := v } (W.setCell ⟨B, 65536, none⟩ (.int .i64 v)) := ⟨k.c.setRom v hv, G.set k.g, four_set k.r (fun e => k.ne e.symm), k.ne, k.le⟩
theorem Ck.setCnt {w0 W : World} {B R : Nat} {s : PC} {v : Int} (k : Ck w0 B R s W) (hv : 0 ≤ v ∧ v < 256) : Ck w0 B R { s with cnt := v } (W.setCell ⟨B, 65537, none⟩ (.int .u8 v)) := ⟨k.c.setCnt v hv, G.set k.g, four_set k.r (fun e => k.ne e.symm), k.ne, k.le⟩
theorem Ck.setCalls {w0 W : World} {B R : Nat} {s : PC} {v : Bool} (k : Ck w0 B R s W) : Ck w0 B R { s with calls := v } (W.setCell ⟨B, 65538, none⟩ (.bool v)) := ⟨k.c.setCalls v, G.set k.g, four_set k.r (fun e => k.ne e.symm), k.ne, k.le⟩
theorem Ck.setA {w0 W : World} {B R : Nat} {s : PC} {v : Int} (k : Ck w0 B R s W) (hv : 0 ≤ v ∧ v < 256) : Ck w0 B R { s with a := v } (W.setCell ⟨B, 65539, none⟩ (.int .u8 v)) := ⟨k.c.setA v hv, G.set k.g, four_set k.r (fun e => k.ne e.symm), k.ne, k.le⟩
theorem Ck.setX {w0 W : World} {B R : Nat} {s : PC} {v : Int} (k : Ck w0 B R s W) (hv : 0 ≤ v ∧ v < 256) : Ck w0 B R { s with x := v } (W.setCell ⟨B, 65540, none⟩ (.int .u8 v)) := ⟨k.c.setX v hv, G.set k.g, four_set k.r (fun e => k.ne e.symm), k.ne, k.le⟩
theorem Ck.setY {w0 W : World} {B R : Nat} {s : PC} {v : Int} (k : Ck w0 B R s W) (hv : 0 ≤ v ∧ v < 256) : Ck w0 B R { s with y := v } (W.setCell ⟨B, 65541, none⟩ (.int .u8 v)) := ⟨k.c.setY v hv, G.set k.g, four_set k.r (fun e => k.ne e.symm), k.ne, k.le⟩
theorem Ck.setS {w0 W : World} {B R : Nat} {s : PC} {v : Int} (k : Ck w0 B R s W) (hv : 0 ≤ v ∧ v < 256) : Ck w0 B R { s with s := v } (W.setCell ⟨B, 65542, none⟩ (.int .u8 v)) := ⟨k.c.setS v hv, G.set k.g, four_set k.r (fun e => k.ne e.symm), k.ne, k.le⟩
theorem Ck.setP {w0 W : World} {B R : Nat} {s : PC} {v : Int} (k : Ck w0 B R s W) (hv : 0 ≤ v ∧ v < 256) : Ck w0 B R { s with p := v } (W.setCell ⟨B, 65543, none⟩ (.int .u8 v)) := ⟨k.c.setP v hv, G.set k.g, four_set k.r (fun e => k.ne e.symm), k.ne, k.le⟩
theorem Ck.setPc {w0 W : World} {B R : Nat} {s : PC} {v : Int} (k : Ck w0 B R s W) (hv : 0 ≤ v ∧ v < 65536) : Ck w0 B R { s with pc := v } (W.setCell ⟨B, 65544, none⟩ (.int .u16 v)) := ⟨k.c.setPc v hv, G.set k.g, four_set k.r (fun e => k.ne e.symm), k.ne, k.le⟩
theorem Ck.setBa {w0 W : World} {B R : Nat} {s : PC} {v : Int} (k : Ck w0 B R s W) (hv : 0 ≤ v ∧ v < 256) : Ck w0 B R { s with ba := v } (W.setCell ⟨B, 65545, none⟩ (.int .u8 v)) := ⟨k.c.setBa v hv, G.set k.g, four_set k.r (fun e => k.ne e.symm), k.ne, k.le⟩
theorem Ck.setBx {w0 W : World} {B R : Nat} {s : PC} {v : Int} (k : Ck w0 B R s W) (hv : 0 ≤ v ∧ v < 256) : Ck w0 B R { s with bx := v } (W.setCell ⟨B, 65546, none⟩ (.int .u8 v)) := ⟨k.c.setBx v hv, G.set k.g, four_set k.r (fun e => k.ne e.symm), k.ne, k.le⟩
theorem Ck.setB_y {w0 W : World} {B R : Nat} {s : PC} {v : Int} (k : Ck w0 B R s W) (hv : 0 ≤ v ∧ v < 256) : Ck w0 B R { s with b_y := v } (W.setCell ⟨B, 65547, none⟩ (.int .u8 v)) := ⟨k.c.setB_y v hv, G.set k.g, four_set k.r (fun e => k.ne e.symm), k.ne, k.le⟩
theorem Ck.setBs {w0 W : World} {B R : Nat} {s : PC} {v : Int} (k : Ck w0 B R s W) (hv : 0 ≤ v ∧ v < 256) : Ck w0 B R { s with bs := v } (W.setCell ⟨B, 65548, none⟩ (.int .u8 v)) := ⟨k.c.setBs v hv, G.set k.g, four_set k.r (fun e => k.ne e.symm), k.ne, k.le⟩
theorem Ck.setBp {w0 W : World} {B R : Nat} {s : PC} {v : Int} (k : Ck w0 B R s W) (hv : 0 ≤ v ∧ v < 256) : Ck w0 B R { s with bp := v } (W.setCell ⟨B, 65549, none⟩ (.int .u8 v)) := ⟨k.c.setBp v hv, G.set k.g, four_set k.r (fun e => k.ne e.symm), k.ne, k.le⟩
theorem Ck.setBpc {w0 W : World} {B R : Nat} {s : PC} {v : Int} (k : Ck w0 B R s W) (hv : 0 ≤ v ∧ v < 65536) : Ck w0 B R { s with bpc := v } (W.setCell ⟨B, 65550, none⟩ (.int .u16 v)) := ⟨k.c.setBpc v hv, G.set k.g, four_set k.r (fun e => k.ne e.symm), k.ne, k.le⟩
theorem Ck.setSt {w0 W : World} {B R : Nat} {s : PC} {v : Int} (k : Ck w0 B R s W) (hv : 0 ≤ v ∧ v < 6) : Ck w0 B R { s with st := v } (W.setCell ⟨B, 65551, none⟩ (.int .u8 v)) := ⟨k.c.setSt v hv, G.set k.g, four_set k.r (fun e => k.ne e.symm), k.ne, k.le⟩
theorem Ck.setIns {w0 W : World} {B R : Nat} {s : PC} {v : Int} (k : Ck w0 B R s W) (hv : 0 ≤ v ∧ v < 56) : Ck w0 B R { s with ins := v } (W.setCell ⟨B, 65552, none⟩ (.int .u8 v)) := ⟨k.c.setIns v hv, G.set k.g, four_set k.r (fun e => k.ne e.symm), k.ne, k.le⟩
theorem Ck.setMd {w0 W : World} {B R : Nat} {s : PC} {v : Int} (k : Ck w0 B R s W) (hv : 0 ≤ v ∧ v < 23) : Ck w0 B R { s with md := v } (W.setCell ⟨B, 65553, none⟩ (.int .u8 v)) := ⟨k.c.setMd v hv, G.set k.g, four_set k.r (fun e => k.ne e.symm), k.ne, k.le⟩
theorem Ck.setStep {w0 W : World} {B R : Nat} {s : PC} {v : Int} (k : Ck w0 B R s W) (hv : -9223372036854775808 ≤ v ∧ v < 9223372036854775808) : Ck w0 B R { s with step := v } (W.setCell ⟨B, 65554, none⟩ (.int .i64 v)) := ⟨k.c.setStep v hv, G.set k.g, four_set k.r (fun e => k.ne e.symm), k.ne, k.le⟩
theorem Ck.setAd {w0 W : World} {B R : Nat} {s : PC} {v : Int} (k : Ck w0 B R s W) (hv : 0 ≤ v ∧ v < 65536) : Ck w0 B R { s with ad := v } (W.setCell ⟨B, 65555, none⟩ (.int .u16 v)) := ⟨k.c.setAd v hv, G.set k.g, four_set k.r (fun e => k.ne e.symm), k.ne, k.le⟩
theorem Ck.setHop {w0 W : World} {B R : Nat} {s : PC} {v : Int} (k : Ck w0 B R s W) (hv : 0 ≤ v ∧ v < 65536) : Ck w0 B R { s with hop := v } (W.setCell ⟨B, 65556, none⟩ (.int .u16 v)) := ⟨k.c.setHop v hv, G.set k.g, four_set k.r (fun e => k.ne e.symm), k.ne, k.le⟩
theorem Ck.setData {w0 W : World} {B R : Nat} {s : PC} {v : Int} (k : Ck w0 B R s W) (hv : 0 ≤ v ∧ v < 256) : Ck w0 B R { s with data := v } (W.setCell ⟨B, 65557, none⟩ (.int .u8 v)) := ⟨k.c.setData v hv, G.set k.g, four_set k.r (fun e => k.ne e.symm), k.ne, k.le⟩
theorem Ck.setTaken {w0 W : World} {B R : Nat} {s : PC} {v : Bool} (k : Ck w0 B R s W) : Ck w0 B R { s with taken := v } (W.setCell ⟨B, 65558, none⟩ (.bool v)) := ⟨k.c.setTaken v, G.set k.g, four_set k.r (fun e => k.ne e.symm), k.ne, k.le⟩
theorem Ck.setNmiOn {w0 W : World} {B R : Nat} {s : PC} {v : Bool} (k : Ck w0 B R s W) : Ck w0 B R { s with nmiOn := v } (W.setCell ⟨B, 65559, none⟩ (.bool v)) := ⟨k.c.setNmiOn v, G.set k.g, four_set k.r (fun e => k.ne e.symm), k.ne, k.le⟩
theorem Ck.setNmiDue {w0 W : World} {B R : Nat} {s : PC} {v : Bool} (k : Ck w0 B R s W) : Ck w0 B R { s with nmiDue := v } (W.setCell ⟨B, 65560, none⟩ (.bool v)) := ⟨k.c.setNmiDue v, G.set k.g, four_set k.r (fun e => k.ne e.symm), k.ne, k.le⟩
theorem Ck.setCyc {w0 W : World} {B R : Nat} {s : PC} {v : Int} (k : Ck w0 B R s W) (hv : -9223372036854775808 ≤ v ∧ v < 9223372036854775808) : Ck w0 B R { s with cyc := v } (W.setCell ⟨B, 65561, none⟩ (.int .i64 v)) := ⟨k.c.setCyc v hv, G.set k.g, four_set k.r (fun e => k.ne e.symm), k.ne, k.le⟩

/-- What the walk wants to know of the world behind a call. -/
theorem Ck.facts {w0 W : World} {B R : Nat} {s : PC} (k : Ck w0 B R s W) :
    (W.cell? ⟨R, 0, none⟩ = some (.int .i64 0) ∧ W.cell? ⟨R, 1, none⟩ = some (.int .i64 0) ∧ W.cell? ⟨R, 2, none⟩ = some (.bool false) ∧ W.cell? ⟨R, 3, none⟩ = some (.bool false)) ∧ (∀ o, W.frozen? ⟨R, o, none⟩ = false) ∧
    R < W.heap.size ∧ W.heap.size ≠ B ∧ W.heap.size + 1 ≠ B ∧ B ≠ W.heap.size ∧ B ≠ W.heap.size + 1 ∧ (∀ o, W.frozen? ⟨B, o, none⟩ = false) ∧ B < W.heap.size ∧ W.heap.size ≠ R ∧ R ≠ W.heap.size := by
  obtain ⟨h1, h2⟩ := cells4 k.r
  have := k.c.lt
  have := k.lt
  exact ⟨h1, h2, k.lt, by omega, by omega, by omega, by omega, k.c.free, k.c.lt, by omega, by omega⟩

theorem Ck.thru {w0 W w1 : World} {B R : Nat} {s s' : PC} (k : Ck w0 B R s W) (h : Tn B s' W w1) : Ck w0 B R s' w1 := ⟨h.c, cp_trans k.g h.g, four_thru h k.ne k.r, k.ne, k.le⟩

/-- A call in the midst of it. -/
theorem Ck.call {P : Program} {f : FuncId} {args : Array Value} {w0 W : World} {B R : Nat} {s s' : PC} {V : Value} (k : Ck w0 B R s W)
    (hc : ∀ {a b : World}, Tn B s a b → Calls P f args b (fun e w' => e = .returned V ∧ Tn B s' a w')) :
    Calls P f args W (fun e w' => e = .returned V ∧ Ck w0 B R s' w' ∧ (∀ b o, b ≠ B → b < W.heap.size → w'.cell? ⟨b, o, none⟩ = W.cell? ⟨b, o, none⟩) ∧ (∀ b o, b ≠ B → b < W.heap.size → w'.frozen? ⟨b, o, none⟩ = W.frozen? ⟨b, o, none⟩) ∧ W.heap.size ≤ w'.heap.size) :=
  (hc (Tn.refl k.c)).mono fun _ _ h => ⟨h.1, k.thru h.2, (kept h.2).1, (kept h.2).2, h.2.g.size⟩

/-- A call that leaves the world as it is. -/
theorem Ck.same {P : Program} {f : FuncId} {args : Array Value} {w0 W : World} {B R : Nat} {s : PC} {V : Value} (k : Ck w0 B R s W)
    (hc : ∀ {a b : World}, Tn B s a b → Calls P f args b (fun e w' => e = .returned V ∧ w' = b)) : Calls P f args W (fun e w' => e = .returned V ∧ w' = W) := hc (Tn.refl k.c)

end Go.Proofs.YtcgjliflnnklnabGreat
