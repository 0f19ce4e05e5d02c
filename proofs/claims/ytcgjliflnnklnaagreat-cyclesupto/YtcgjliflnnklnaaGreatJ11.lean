/-
  Joined texts.
-/
import Derived.Test.YtcgjliflnnklnaaGreatJ10
import Derived.Test.YtcgjliflnnklnaaGreatPBz
namespace Go.Proofs.YtcgjliflnnklnaaGreat
open Go.RowKit

/-
  The world in the midst of a mode's cycle: the computer, what was there ahead, and the cell of the result.
-/
section
/-- The computer in B is s; nothing that was there in w0 has turned but B; the result's cell lies in R, empty yet. -/
structure Ck (w0 : World) (B R : Nat) (s : PC) (W : World) : Prop where
  c : CAt W B s
  g : w0.grownBy W (some B)
  r : W.heap[R]? = some (.cells #[.int .i64 0, .int .i64 0, .bool false, .bool false] 53 (0, 0))
  ne : R ≠ B
  le : w0.heap.size ≤ R

theorem Tn.other {w0 w : World} {B b o : Nat} {v : Value} {s : PC} (h : Tn B s w0 w) (hne : b ≠ B) (hb : w0.heap.size ≤ b) : Tn B s w0 (w.setCell ⟨b, o, none⟩ v) := ⟨h.c.other hne, G.other h.g hb⟩
theorem Ck.t {w0 W : World} {B R : Nat} {s : PC} (k : Ck w0 B R s W) : Tn B s w0 W := ⟨k.c, k.g⟩
theorem Ck.lt {w0 W : World} {B R : Nat} {s : PC} (k : Ck w0 B R s W) : R < W.heap.size := by
  by_cases e : R < W.heap.size
  · exact e
  · have h := k.r; rw [Array.getElem?_eq_none (by omega)] at h; cases h
theorem Ck.mk' {w0 w : World} {B R : Nat} {s : PC} (h : Tn B s w0 w) (hR : w.heap.size = R) : Ck w0 B R s (w.alloc (.cells #[.int .i64 0, .int .i64 0, .bool false, .bool false] 53)) :=
  ⟨h.c.alloc, G.alloc h.g, four_new' hR, by have := h.c.lt; omega, by have := h.g.size; omega⟩
theorem Ck.drew {w0 W : World} {B R : Nat} {s : PC} (k : Ck w0 B R s W) : Ck w0 B R s W.drew := ⟨k.c.drew, G.drew k.g, k.r, k.ne, k.le⟩
theorem Ck.alloc {w0 W : World} {B R : Nat} {s : PC} {o : Obj} (k : Ck w0 B R s W) : Ck w0 B R s (W.alloc o) := ⟨k.c.alloc, G.alloc k.g, four_alloc k.r, k.ne, k.le⟩
theorem Ck.other {w0 W : World} {B R b o : Nat} {v : Value} {s : PC} (k : Ck w0 B R s W) (hne : b ≠ B) (hnr : b ≠ R) (hb : w0.heap.size ≤ b) : Ck w0 B R s (W.setCell ⟨b, o, none⟩ v) :=
  ⟨k.c.other hne, G.other k.g hb, four_set k.r hnr, k.ne, k.le⟩

theorem Ck.setRom {w0 W : World} {B R : Nat} {s : PC} {v : Int} (k : Ck w0 B R s W) (hv : 0 ≤ v ∧ v < 65537) : Ck w0 B R { s with rom := v } (W.setCell ⟨B, 65536, none⟩ (.int .i64 v)) := ⟨k.c.setRom v hv, G.set k.g, four_set k.r (fun e => k.ne e.symm), k.ne, k.le⟩
theorem Ck.setCnt {w0 W : World} {B R : Nat} {s : PC} {v : Int} (k : Ck w0 B R s W) (hv : 0 ≤ v ∧ v < 256) : Ck w0 B R { s with cnt := v } (W.setCell ⟨B, 65537, none⟩ (.int .u8 v)) := ⟨k.c.setCnt v hv, G.set k.g, four_set k.r (fun e => k.ne e.symm), k.ne, k.le⟩
theorem Ck.setCalls {w0 W : World} {B R : Nat} {s : PC} {v : Bool} (k : Ck w0 B R s W) : Ck w0 B R { s with calls := v } (W.setCell ⟨B, 65538, none⟩ (.bool v)) := ⟨k.c.setCalls v, G.set k.g, four_set k.r (fun e => k.ne e.symm), k.ne, k.le⟩
theorem Ck.setA {w0 W : World} {B R : Nat} {s : PC} {v : Int} (k : Ck w0 B R s W) (hv : 0 ≤ v ∧ v < 256) : Ck w0 B R { s with a := v } (W.setCell ⟨B, 65539, none⟩ (.int .u8 v)) := ⟨k.c.setA v hv, G.set k.g, four_set k.r (fun e => k.ne e.symm), k.ne, k.le⟩
theorem Ck.setX {w0 W : World} {B R : Nat} {s : PC} {v : Int} (k : Ck w0 B R s W) (hv : 0 ≤ v ∧ v < 256) : Ck w0 B R { s with x := v } (W.setCell ⟨B, 65540, none⟩ (.int .u8 v)) := ⟨k.c.setX v hv, G.set k.g, four_set k.r (fun e => k.ne e.symm), k.ne, k.le⟩
theorem Ck.setY {w0 W : World} {B R : Nat} {s : PC} {v : Int} (k : Ck w0 B R s W) (hv : 0 ≤ v ∧ v < 256) : Ck w0 B R { s with y := v } (W.setCell ⟨B, 65541, none⟩ (.int .u8 v)) := ⟨k.c.setY v hv, G.set k.g, four_set k.r (fun e => k.ne e.symm), k.ne, k.le⟩
theorem Ck.setS {w0 W : World} {B R : Nat} {s : PC} {v : Int} (k : Ck w0 B R s W) (hv : 0 ≤ v ∧ v < 256) : Ck w0 B R { s with s := v } (W.setCell ⟨B, 65542, none⟩ (.int .u8 v)) := ⟨k.c.setS v hv, G.set k.g, four_set k.r (fun e => k.ne e.symm), k.ne, k.le⟩
theorem Ck.setP {w0 W : World} {B R : Nat} {s : PC} {v : Int} (k : Ck w0 B R s W) (hv : 0 ≤ v ∧ v < 256) : Ck w0 B R { s with p := v } (W.setCell ⟨B, 65543, none⟩ (.int .u8 v)) := ⟨k.c.setP v hv, G.set k.g, four_set k.r (fun e => k.ne e.symm), k.ne, k.le⟩
theorem Ck.setPc {w0 W : World} {B R : Nat} {s : PC} {v : Int} (k : Ck w0 B R s W) (hv : 0 ≤ v ∧ v < 65536) : Ck w0 B R { s with pc := v } (W.setCell ⟨B, 65544, none⟩ (.int .u16 v)) := ⟨k.c.setPc v hv, G.set k.g, four_set k.r (fun e => k.ne e.symm), k.ne, k.le⟩
theorem Ck.setBa {w0 W : World} {B R : Nat} {s : PC} {v : Int} (k : Ck w0 B R s W) (hv : 0 ≤ v ∧ v < 256) : Ck w0 B R { s with ba := v } (W.setCell ⟨B, 65545, none⟩ (.int .u8 v)) := ⟨k.c.setBa v hv, G.set k.g, four_set k.r (fun e => k.ne e.symm), k.ne, k.le⟩
theorem Ck.setBx {w0 W : World} {B R : Nat} {s : PC} {v : Int} (k : Ck w0 B R s W) (hv : 0 ≤ v ∧ v < 256) : Ck w0 B R { s with bx := v } (W.setCell ⟨B, 65546, none⟩ (.int .u8 v)) := ⟨k.c.setBx v hv, G.set k.g, four_set k.r (fun e => k.ne e.symm), k.ne, k.le⟩
theorem Ck.setB_y {w0 W : World} {B R : Nat} {s : PC} {v : Int} (k : Ck w0 B R s W) (hv : 0 ≤ v ∧ v < 256) : Ck w0 B R { s with b_y := v } (W.setCell ⟨B, 65547, none⟩ (.int .u8 v)) := ⟨k.c.setB_y v hv, G.set k.g, four_set k.r (fun e => k.ne e.symm), k.ne, k.le⟩
theorem Ck.setBs {w0 W : World} {B R : Nat} {s : PC} {v : Int} (k : Ck w0 B R s W) (hv : 0 ≤ v ∧ v < 256) : Ck w0 B R { s with bs := v } (W.setCell ⟨B, 65548, none⟩ (.int .u8 v)) := ⟨k.c.setBs v hv, G.set k.g, four_set k.r (fun e => k.ne e.symm), k.ne, k.le⟩
theorem Ck.setBp {w0 W : World} {B R : Nat} {s : PC} {v : Int} (k : Ck w0 B R s W) (hv : 0 ≤ v ∧ v < 256) : Ck w0 B R { s with bp := v } (W.setCell ⟨B, 65549, none⟩ (.int .u8 v)) := ⟨k.c.setBp v hv, G.set k.g, four_set k.r (fun e => k.ne e.symm), k.ne, k.le⟩
theorem Ck.setBpc {w0 W : World} {B R : Nat} {s : PC} {v : Int} (k : Ck w0 B R s W) (hv : 0 ≤ v ∧ v < 65536) : Ck w0 B R { s with bpc := v } (W.setCell ⟨B, 65550, none⟩ (.int .u16 v)) := ⟨k.c.setBpc v hv, G.set k.g, four_set k.r (fun e => k.ne e.symm), k.ne, k.le⟩
theorem Ck.setSt {w0 W : World} {B R : Nat} {s : PC} {v : Int} (k : Ck w0 B R s W) (hv : 0 ≤ v ∧ v < 6) : Ck w0 B R { s with st := v } (W.setCell ⟨B, 65551, none⟩ (.int .u8 v)) := ⟨k.c.setSt v hv, G.set k.g, four_set k.r (fun e => k.ne e.symm), k.ne, k.le⟩
theorem Ck.setIns {w0 W : World} {B R : Nat} {s : PC} {v : Int} (k : Ck w0 B R s W) (hv : 0 ≤ v ∧ v < 56) : Ck w0 B R { s with ins := v } (W.setCell ⟨B, 65552, none⟩ (.int .u8 v)) := ⟨k.c.setIns v hv, G.set k.g, four_set k.r (fun e => k.ne e.symm), k.ne, k.le⟩
theorem Ck.setMd {w0 W : World} {B R : Nat} {s : PC} {v : Int} (k : Ck w0 B R s W) (hv : 0 ≤ v ∧ v < 23) : Ck w0 B R { s with md := v } (W.setCell ⟨B, 65553, none⟩ (.int .u8 v)) := ⟨k.c.setMd v hv, G.set k.g, four_set k.r (fun e => k.ne e.symm), k.ne, k.le⟩
theorem Ck.setStep {w0 W : World} {B R : Nat} {s : PC} {v : Int} (k : Ck w0 B R s W) (hv : -9223372036854775808 ≤ v ∧ v < 9223372036854775808) : Ck w0 B R { s with step := v } (W.setCell ⟨B, 65554, none⟩ (.int .i64 v)) := ⟨k.c.setStep v hv, G.set k.g, four_set k.r (fun e => k.ne e.symm), k.ne, k.le⟩
theorem Ck.setAd {w0 W : World} {B R : Nat} {s : PC} {v : Int} (k : Ck w0 B R s W) (hv : 0 ≤ v ∧ v < 65536) : Ck w0 B R { s with ad := v } (W.setCell ⟨B, 65555, none⟩ (.int .u16 v)) := ⟨k.c.setAd v hv, G.set k.g, four_set k.r (fun e => k.ne e.symm), k.ne, k.le⟩
theorem Ck.setHop {w0 W : World} {B R : Nat} {s : PC} {v : Int} (k : Ck w0 B R s W) (hv : 0 ≤ v ∧ v < 65536) : Ck w0 B R { s with hop := v } (W.setCell ⟨B, 65556, none⟩ (.int .u16 v)) := ⟨k.c.setHop v hv, G.set k.g, four_set k.r (fun e => k.ne e.symm), k.ne, k.le⟩
theorem Ck.setData {w0 W : World} {B R : Nat} {s : PC} {v : Int} (k : Ck w0 B R s W) (hv : 0 ≤ v ∧ v < 256) : Ck w0 B R { s with data := v } (W.setCell ⟨B, 65557, none⟩ (.int .u8 v)) := ⟨k.c.setData v hv, G.set k.g, four_set k.r (fun e => k.ne e.symm), k.ne, k.le⟩
theorem Ck.setTaken {w0 W : World} {B R : Nat} {s : PC} {v : Bool} (k : Ck w0 B R s W) : Ck w0 B R { s with taken := v } (W.setCell ⟨B, 65558, none⟩ (.bool v)) := ⟨k.c.setTaken v, G.set k.g, four_set k.r (fun e => k.ne e.symm), k.ne, k.le⟩
theorem Ck.setNmiOn {w0 W : World} {B R : Nat} {s : PC} {v : Bool} (k : Ck w0 B R s W) : Ck w0 B R { s with nmiOn := v } (W.setCell ⟨B, 65559, none⟩ (.bool v)) := ⟨k.c.setNmiOn v, G.set k.g, four_set k.r (fun e => k.ne e.symm), k.ne, k.le⟩
theorem Ck.setNmiDue {w0 W : World} {B R : Nat} {s : PC} {v : Bool} (k : Ck w0 B R s W) : Ck w0 B R { s with nmiDue := v } (W.setCell ⟨B, 65560, none⟩ (.bool v)) := ⟨k.c.setNmiDue v, G.set k.g, four_set k.r (fun e => k.ne e.symm), k.ne, k.le⟩
theorem Ck.setCyc {w0 W : World} {B R : Nat} {s : PC} {v : Int} (k : Ck w0 B R s W) (hv : -9223372036854775808 ≤ v ∧ v < 9223372036854775808) : Ck w0 B R { s with cyc := v } (W.setCell ⟨B, 65561, none⟩ (.int .i64 v)) := ⟨k.c.setCyc v hv, G.set k.g, four_set k.r (fun e => k.ne e.symm), k.ne, k.le⟩

/-- What the walk wants to know of the world behind a call. -/
theorem Ck.facts {w0 W : World} {B R : Nat} {s : PC} (k : Ck w0 B R s W) :
    (W.cell? ⟨R, 0, none⟩ = some (.int .i64 0) ∧ W.cell? ⟨R, 1, none⟩ = some (.int .i64 0) ∧ W.cell? ⟨R, 2, none⟩ = some (.bool false) ∧ W.cell? ⟨R, 3, none⟩ = some (.bool false)) ∧ (∀ o, W.frozen? ⟨R, o, none⟩ = false) ∧
    R < W.heap.size ∧ W.heap.size ≠ B ∧ W.heap.size + 1 ≠ B ∧ B ≠ W.heap.size ∧ B ≠ W.heap.size + 1 ∧ (∀ o, W.frozen? ⟨B, o, none⟩ = false) ∧ B < W.heap.size ∧ W.heap.size ≠ R ∧ R ≠ W.heap.size := by
  obtain ⟨h1, h2⟩ := cells4 k.r
  have := k.c.lt
  have := k.lt
  exact ⟨h1, h2, k.lt, by omega, by omega, by omega, by omega, k.c.free, k.c.lt, by omega, by omega⟩

theorem Ck.thru {w0 W w1 : World} {B R : Nat} {s s' : PC} (k : Ck w0 B R s W) (h : Tn B s' W w1) : Ck w0 B R s' w1 := ⟨h.c, cp_trans k.g h.g, four_thru h k.ne k.r, k.ne, k.le⟩

/-- A call in the midst of it. -/
theorem Ck.call {P : Program} {f : FuncId} {args : Array Value} {w0 W : World} {B R : Nat} {s s' : PC} {V : Value} (k : Ck w0 B R s W)
    (hc : ∀ {a b : World}, Tn B s a b → Calls P f args b (fun e w' => e = .returned V ∧ Tn B s' a w')) :
    Calls P f args W (fun e w' => e = .returned V ∧ Ck w0 B R s' w' ∧ (∀ b o, b ≠ B → b < W.heap.size → w'.cell? ⟨b, o, none⟩ = W.cell? ⟨b, o, none⟩) ∧ (∀ b o, b ≠ B → b < W.heap.size → w'.frozen? ⟨b, o, none⟩ = W.frozen? ⟨b, o, none⟩) ∧ W.heap.size ≤ w'.heap.size) :=
  (hc (Tn.refl k.c)).mono fun _ _ h => ⟨h.1, k.thru h.2, (kept h.2).1, (kept h.2).2, h.2.g.size⟩

/-- A call that leaves the world as it is. -/
theorem Ck.same {P : Program} {f : FuncId} {args : Array Value} {w0 W : World} {B R : Nat} {s : PC} {V : Value} (k : Ck w0 B R s W)
    (hc : ∀ {a b : World}, Tn B s a b → Calls P f args b (fun e w' => e = .returned V ∧ w' = b)) : Calls P f args W (fun e w' => e = .returned V ∧ w' = W) := hc (Tn.refl k.c)
end

/-
  What is shown at each call, told once: each constant proves what is asked of it in its place.
-/
section
theorem Tn.pre {B : Nat} {s : PC} {w0 w : World} (h : Tn B s w0 w) : B < w.heap.size ∧ w0.heap.size ≤ w.heap.size ∧ w.heap.size ≠ B ∧ B ≠ w.heap.size ∧ (∀ o, w.frozen? ⟨B, o, none⟩ = false) ∧ w.heap.size + 1 ≠ B ∧ B ≠ w.heap.size + 1 :=
  ⟨h.c.lt, h.g.size, by have := h.c.lt; omega, by have := h.c.lt; omega, h.c.free, by have := h.c.lt; omega, by have := h.c.lt; omega⟩
theorem Ck.gq {P : Program} {f : FuncId} {args : Array Value} {W : World} {B : Nat} {s s' : PC} {V : Value} {Q : Ending → World → Prop} (w0 : World) (R : Nat) (k : Ck w0 B R s W)
    (hc : ∀ {a b : World}, Tn B s a b → Calls P f args b (fun e w' => e = .returned V ∧ Tn B s' a w'))
    (K : ∀ W', Ck w0 B R s' W' → (∀ b o, b ≠ B → b < W.heap.size → W'.cell? ⟨b, o, none⟩ = W.cell? ⟨b, o, none⟩) → (∀ b o, b ≠ B → b < W.heap.size → W'.frozen? ⟨b, o, none⟩ = W.frozen? ⟨b, o, none⟩) → W.heap.size ≤ W'.heap.size → W'.cell? ⟨R, 0, none⟩ = some (.int .i64 0) → W'.cell? ⟨R, 1, none⟩ = some (.int .i64 0) → W'.cell? ⟨R, 2, none⟩ = some (.bool false) → W'.cell? ⟨R, 3, none⟩ = some (.bool false) → (∀ o, W'.frozen? ⟨R, o, none⟩ = false) → R < W'.heap.size → W'.heap.size ≠ B → W'.heap.size + 1 ≠ B → B ≠ W'.heap.size → B ≠ W'.heap.size + 1 → (∀ o, W'.frozen? ⟨B, o, none⟩ = false) → B < W'.heap.size → W'.heap.size ≠ R → R ≠ W'.heap.size → Q (.returned V) W') : Calls P f args W Q :=
  (Ck.call k hc).mono fun e W' ⟨he, k', q1, q2, zz⟩ => by
    subst he
    obtain ⟨⟨r0, r1, r2, r3⟩, r4, z0, n1, n2, m1, m2, fz, b1, nr, mr⟩ := k'.facts
    exact K W' k' q1 q2 zz r0 r1 r2 r3 r4 z0 n1 n2 m1 m2 fz b1 nr mr
theorem Ck.go {P : Program} {f : FuncId} {args : Array Value} {W : World} {B : Nat} {s s' : PC} {V : Value} {Q : Ending → World → Prop} (w0 : World) (R : Nat) (k : Ck w0 B R s W)
    (hc : ∀ {a b : World}, Tn B s a b → Calls P f args b (fun e w' => e = .returned V ∧ Tn B s' a w'))
    (K : ∀ W', Ck w0 B R s' W' → W'.cell? ⟨R, 0, none⟩ = some (.int .i64 0) → W'.cell? ⟨R, 1, none⟩ = some (.int .i64 0) → W'.cell? ⟨R, 2, none⟩ = some (.bool false) → W'.cell? ⟨R, 3, none⟩ = some (.bool false) → (∀ o, W'.frozen? ⟨R, o, none⟩ = false) → R < W'.heap.size → W'.heap.size ≠ B → W'.heap.size + 1 ≠ B → B ≠ W'.heap.size → B ≠ W'.heap.size + 1 → (∀ o, W'.frozen? ⟨B, o, none⟩ = false) → B < W'.heap.size → W'.heap.size ≠ R → R ≠ W'.heap.size → Q (.returned V) W') : Calls P f args W Q := Ck.gq w0 R k hc fun W' k' _ _ _ => K W' k'
theorem kq1 {p : Prop} (q : p := by repeat (first | with_reducible exact k | with_reducible apply Ck.drew | ((with_reducible apply Ck.mk'); (case hR => (simp; done)); (case h => (repeat (first | with_reducible exact h | with_reducible apply Tn.drew | with_reducible apply Tn.alloc | ((with_reducible apply Tn.setS); (case hv => (first | omega | exact wr_r _ | exact wr16_r _ | exact within_r _ _ (by omega) (by omega)))) | ((with_reducible apply Tn.other); (case hne => omega); (case hb => omega)))))) | with_reducible apply Ck.alloc | ((with_reducible apply Ck.setS); (case hv => (first | omega | exact wr_r _ | exact wr16_r _ | exact within_r _ _ (by omega) (by omega)))) | ((with_reducible apply Ck.other); (case hne => omega); (case hnr => omega); (case hb => omega)))) : p := q
theorem nq2 {p : Prop} (q : p := by first | assumption | omega | exact (top_r _).1 | exact (top_r _).2 | (unfold PC.stackTop joinI; omega) | (unfold withinI joinI loI hiI; omega) | (unfold joinI loI hiI; omega) | (unfold loI; omega) | (unfold hiI; omega)) : p := q
theorem kq3 {p : Prop} (q : p := by repeat (first | with_reducible exact k | with_reducible apply Ck.drew | ((with_reducible apply Ck.mk'); (case hR => (simp; done)); (case h => (repeat (first | with_reducible exact h | with_reducible apply Tn.drew | with_reducible apply Tn.alloc | ((with_reducible apply Tn.setS); (case hv => (first | omega | exact wr_r _ | exact wr16_r _ | exact within_r _ _ (by omega) (by omega)))) | ((with_reducible apply Tn.other); (case hne => omega); (case hb => omega)))))) | with_reducible apply Ck.alloc | ((with_reducible apply Ck.setS); (case hv => (first | omega | exact wr_r _ | exact wr16_r _ | exact within_r _ _ (by omega) (by omega)))))) : p := q
theorem kq4 {p : Prop} (q : p := by repeat (first | with_reducible exact k | with_reducible apply Ck.drew | ((with_reducible apply Ck.mk'); (case hR => (simp; done)); (case h => (repeat (first | with_reducible exact h | with_reducible apply Tn.drew | with_reducible apply Tn.alloc | ((with_reducible apply Tn.setSt); (case hv => (first | omega | exact wr_r _ | exact wr16_r _ | exact within_r _ _ (by omega) (by omega)))) | ((with_reducible apply Tn.other); (case hne => omega); (case hb => omega)))))) | with_reducible apply Ck.alloc | ((with_reducible apply Ck.setSt); (case hv => (first | omega | exact wr_r _ | exact wr16_r _ | exact within_r _ _ (by omega) (by omega)))))) : p := q
theorem nq5 {p : Prop} (q : p := by first | assumption | omega | exact (top_r _).1 | exact (top_r _).2 | exact (wr16_r _).1 | exact (wr16_r _).2 | (unfold PC.stackTop joinI; omega) | (unfold withinI joinI loI hiI; omega) | (unfold joinI loI hiI; omega) | (unfold loI; omega) | (unfold hiI; omega)) : p := q
theorem kq6 {p : Prop} (q : p := by repeat (first | with_reducible exact k | with_reducible apply Ck.drew | ((with_reducible apply Ck.mk'); (case hR => (simp; done)); (case h => (repeat (first | with_reducible exact h | with_reducible apply Tn.drew | with_reducible apply Tn.alloc | ((with_reducible apply Tn.other); (case hne => omega); (case hb => omega)))))) | with_reducible apply Ck.alloc)) : p := q
theorem kq7 {p : Prop} (q : p := by repeat (first | with_reducible exact k | with_reducible apply Ck.drew | ((with_reducible apply Ck.mk'); (case hR => (simp; done)); (case h => (repeat (first | with_reducible exact h | with_reducible apply Tn.drew | with_reducible apply Tn.alloc | ((with_reducible apply Tn.setSt); (case hv => (first | omega | exact wr_r _ | exact wr16_r _ | exact within_r _ _ (by omega) (by omega)))) | ((with_reducible apply Tn.other); (case hne => omega); (case hb => omega)))))) | with_reducible apply Ck.alloc | ((with_reducible apply Ck.setSt); (case hv => (first | omega | exact wr_r _ | exact wr16_r _ | exact within_r _ _ (by omega) (by omega)))) | ((with_reducible apply Ck.other); (case hne => omega); (case hnr => omega); (case hb => omega)))) : p := q
theorem kq8 {p : Prop} (q : p := by repeat (first | with_reducible exact k | with_reducible apply Ck.drew | ((with_reducible apply Ck.mk'); (case hR => (simp; done)); (case h => (repeat (first | with_reducible exact h | with_reducible apply Tn.drew | with_reducible apply Tn.alloc | ((with_reducible apply Tn.other); (case hne => omega); (case hb => omega)))))) | with_reducible apply Ck.alloc | ((with_reducible apply Ck.other); (case hne => omega); (case hnr => omega); (case hb => omega)))) : p := q
theorem kq9 {p : Prop} (q : p := by repeat (first | with_reducible exact k | with_reducible apply Ck.drew | ((with_reducible apply Ck.mk'); (case hR => (simp; done)); (case h => (repeat (first | with_reducible exact h | with_reducible apply Tn.drew | with_reducible apply Tn.alloc | ((with_reducible apply Tn.setData); (case hv => (first | omega | exact wr_r _ | exact wr16_r _ | exact within_r _ _ (by omega) (by omega)))) | ((with_reducible apply Tn.setA); (case hv => (first | omega | exact wr_r _ | exact wr16_r _ | exact within_r _ _ (by omega) (by omega)))) | ((with_reducible apply Tn.other); (case hne => omega); (case hb => omega)))))) | with_reducible apply Ck.alloc | ((with_reducible apply Ck.setData); (case hv => (first | omega | exact wr_r _ | exact wr16_r _ | exact within_r _ _ (by omega) (by omega)))) | ((with_reducible apply Ck.setA); (case hv => (first | omega | exact wr_r _ | exact wr16_r _ | exact within_r _ _ (by omega) (by omega)))) | ((with_reducible apply Ck.other); (case hne => omega); (case hnr => omega); (case hb => omega)))) : p := q
theorem kq10 {p : Prop} (q : p := by repeat (first | with_reducible exact k | with_reducible apply Ck.drew | ((with_reducible apply Ck.mk'); (case hR => (simp; done)); (case h => (repeat (first | with_reducible exact h | with_reducible apply Tn.drew | with_reducible apply Tn.alloc | ((with_reducible apply Tn.setAd); (case hv => (first | omega | exact wr_r _ | exact wr16_r _ | exact within_r _ _ (by omega) (by omega)))) | ((with_reducible apply Tn.setSt); (case hv => (first | omega | exact wr_r _ | exact wr16_r _ | exact within_r _ _ (by omega) (by omega)))) | ((with_reducible apply Tn.other); (case hne => omega); (case hb => omega)))))) | with_reducible apply Ck.alloc | ((with_reducible apply Ck.setAd); (case hv => (first | omega | exact wr_r _ | exact wr16_r _ | exact within_r _ _ (by omega) (by omega)))) | ((with_reducible apply Ck.setSt); (case hv => (first | omega | exact wr_r _ | exact wr16_r _ | exact within_r _ _ (by omega) (by omega)))))) : p := q
theorem kq11 {p : Prop} (q : p := by repeat (first | with_reducible exact k | with_reducible apply Ck.drew | ((with_reducible apply Ck.mk'); (case hR => (simp; done)); (case h => (repeat (first | with_reducible exact h | with_reducible apply Tn.drew | with_reducible apply Tn.alloc | ((with_reducible apply Tn.setAd); (case hv => (first | omega | exact wr_r _ | exact wr16_r _ | exact within_r _ _ (by omega) (by omega)))) | ((with_reducible apply Tn.setSt); (case hv => (first | omega | exact wr_r _ | exact wr16_r _ | exact within_r _ _ (by omega) (by omega)))) | ((with_reducible apply Tn.other); (case hne => omega); (case hb => omega)))))) | with_reducible apply Ck.alloc | ((with_reducible apply Ck.setAd); (case hv => (first | omega | exact wr_r _ | exact wr16_r _ | exact within_r _ _ (by omega) (by omega)))) | ((with_reducible apply Ck.setSt); (case hv => (first | omega | exact wr_r _ | exact wr16_r _ | exact within_r _ _ (by omega) (by omega)))) | ((with_reducible apply Ck.other); (case hne => omega); (case hnr => omega); (case hb => omega)))) : p := q
theorem kq12 {p : Prop} (q : p := by repeat (first | with_reducible exact k | with_reducible apply Ck.drew | ((with_reducible apply Ck.mk'); (case hR => (simp; done)); (case h => (repeat (first | with_reducible exact h | with_reducible apply Tn.drew | with_reducible apply Tn.alloc | ((with_reducible apply Tn.setHop); (case hv => (first | omega | exact wr_r _ | exact wr16_r _ | exact within_r _ _ (by omega) (by omega)))) | ((with_reducible apply Tn.setSt); (case hv => (first | omega | exact wr_r _ | exact wr16_r _ | exact within_r _ _ (by omega) (by omega)))) | ((with_reducible apply Tn.other); (case hne => omega); (case hb => omega)))))) | with_reducible apply Ck.alloc | ((with_reducible apply Ck.setHop); (case hv => (first | omega | exact wr_r _ | exact wr16_r _ | exact within_r _ _ (by omega) (by omega)))) | ((with_reducible apply Ck.setSt); (case hv => (first | omega | exact wr_r _ | exact wr16_r _ | exact within_r _ _ (by omega) (by omega)))))) : p := q
theorem kq13 {p : Prop} (q : p := by repeat (first | with_reducible exact k | with_reducible apply Ck.drew | ((with_reducible apply Ck.mk'); (case hR => (simp; done)); (case h => (repeat (first | with_reducible exact h | with_reducible apply Tn.drew | with_reducible apply Tn.alloc | ((with_reducible apply Tn.setHop); (case hv => (first | omega | exact wr_r _ | exact wr16_r _ | exact within_r _ _ (by omega) (by omega)))) | ((with_reducible apply Tn.setSt); (case hv => (first | omega | exact wr_r _ | exact wr16_r _ | exact within_r _ _ (by omega) (by omega)))) | ((with_reducible apply Tn.other); (case hne => omega); (case hb => omega)))))) | with_reducible apply Ck.alloc | ((with_reducible apply Ck.setHop); (case hv => (first | omega | exact wr_r _ | exact wr16_r _ | exact within_r _ _ (by omega) (by omega)))) | ((with_reducible apply Ck.setSt); (case hv => (first | omega | exact wr_r _ | exact wr16_r _ | exact within_r _ _ (by omega) (by omega)))) | ((with_reducible apply Ck.other); (case hne => omega); (case hnr => omega); (case hb => omega)))) : p := q
theorem kq14 {p : Prop} (q : p := by repeat (first | with_reducible exact k | with_reducible apply Ck.drew | ((with_reducible apply Ck.mk'); (case hR => (simp; done)); (case h => (repeat (first | with_reducible exact h | with_reducible apply Tn.drew | with_reducible apply Tn.alloc | ((with_reducible apply Tn.setHop); (case hv => (first | omega | exact wr_r _ | exact wr16_r _ | exact within_r _ _ (by omega) (by omega)))) | ((with_reducible apply Tn.other); (case hne => omega); (case hb => omega)))))) | with_reducible apply Ck.alloc | ((with_reducible apply Ck.setHop); (case hv => (first | omega | exact wr_r _ | exact wr16_r _ | exact within_r _ _ (by omega) (by omega)))))) : p := q
theorem kq15 {p : Prop} (q : p := by repeat (first | with_reducible exact k | with_reducible apply Ck.drew | ((with_reducible apply Ck.mk'); (case hR => (simp; done)); (case h => (repeat (first | with_reducible exact h | with_reducible apply Tn.drew | with_reducible apply Tn.alloc | ((with_reducible apply Tn.setHop); (case hv => (first | omega | exact wr_r _ | exact wr16_r _ | exact within_r _ _ (by omega) (by omega)))) | ((with_reducible apply Tn.other); (case hne => omega); (case hb => omega)))))) | with_reducible apply Ck.alloc | ((with_reducible apply Ck.setHop); (case hv => (first | omega | exact wr_r _ | exact wr16_r _ | exact within_r _ _ (by omega) (by omega)))) | ((with_reducible apply Ck.other); (case hne => omega); (case hnr => omega); (case hb => omega)))) : p := q
theorem kq16 {p : Prop} (q : p := by repeat (first | with_reducible exact k | with_reducible apply Ck.drew | ((with_reducible apply Ck.mk'); (case hR => (simp; done)); (case h => (repeat (first | with_reducible exact h | with_reducible apply Tn.drew | with_reducible apply Tn.alloc | ((with_reducible apply Tn.setStep); (case hv => (first | omega | exact wr64_r _))) | ((with_reducible apply Tn.other); (case hne => omega); (case hb => omega)))))) | with_reducible apply Ck.alloc | ((with_reducible apply Ck.setStep); (case hv => (first | omega | exact wr64_r _))))) : p := q

theorem brq {p : Prop} (q : p := by simp [results, go_sem, BusI.val, *] <;> (repeat' (first | rfl | constructor))) : p := q
theorem tq1 {p : Prop} (q : p := by apply Tn.eq; (case h => repeat (first | with_reducible exact k.t | with_reducible exact h | with_reducible apply Tn.drew | with_reducible apply Tn.alloc | ((with_reducible apply Tn.other); (case hne => omega); (case hb => omega)))); (case e => rfl)) : p := q
theorem tq2 {p : Prop} (q : p := by apply Tn.eq; (case h => repeat (first | with_reducible exact k.t | with_reducible exact h | with_reducible apply Tn.drew | with_reducible apply Tn.alloc | ((with_reducible apply Tn.setSt); (case hv => (first | omega | exact wr_r _ | exact wr16_r _ | exact within_r _ _ (by omega) (by omega)))) | ((with_reducible apply Tn.other); (case hne => omega); (case hb => omega)))); (case e => rfl)) : p := q
theorem tq3 {p : Prop} (q : p := by apply Tn.eq; (case h => repeat (first | with_reducible exact K9.k.t | with_reducible apply Tn.drew | with_reducible apply Tn.drewN | with_reducible apply Tn.alloc | ((with_reducible apply Tn.other); (case hne => omega); (case hb => omega)))); (case e => rfl)) : p := q
theorem tq4 {p : Prop} (q : p := by apply Tn.eq; (case h => repeat (first | with_reducible exact k.t | with_reducible exact h | with_reducible apply Tn.drew | with_reducible apply Tn.alloc | ((with_reducible apply Tn.setAd); (case hv => (first | omega | exact wr_r _ | exact wr16_r _ | exact within_r _ _ (by omega) (by omega)))) | ((with_reducible apply Tn.setSt); (case hv => (first | omega | exact wr_r _ | exact wr16_r _ | exact within_r _ _ (by omega) (by omega)))) | ((with_reducible apply Tn.other); (case hne => omega); (case hb => omega)))); (case e => rfl)) : p := q
theorem tq5 {p : Prop} (q : p := by apply Tn.eq; (case h => repeat (first | with_reducible exact k.t | with_reducible exact h | with_reducible apply Tn.drew | with_reducible apply Tn.alloc | ((with_reducible apply Tn.setHop); (case hv => (first | omega | exact wr_r _ | exact wr16_r _ | exact within_r _ _ (by omega) (by omega)))) | ((with_reducible apply Tn.setSt); (case hv => (first | omega | exact wr_r _ | exact wr16_r _ | exact within_r _ _ (by omega) (by omega)))) | ((with_reducible apply Tn.other); (case hne => omega); (case hb => omega)))); (case e => rfl)) : p := q
theorem tq6 {p : Prop} (q : p := by apply Tn.eq; (case h => repeat (first | with_reducible exact k.t | with_reducible exact h | with_reducible apply Tn.drew | with_reducible apply Tn.alloc | ((with_reducible apply Tn.setHop); (case hv => (first | omega | exact wr_r _ | exact wr16_r _ | exact within_r _ _ (by omega) (by omega)))) | ((with_reducible apply Tn.other); (case hne => omega); (case hb => omega)))); (case e => rfl)) : p := q
theorem tq7 {p : Prop} (q : p := by apply Tn.eq; (case h => repeat (first | with_reducible exact k.t | with_reducible exact h | with_reducible apply Tn.drew | with_reducible apply Tn.alloc | ((with_reducible apply Tn.setS); (case hv => (first | omega | exact wr_r _ | exact wr16_r _ | exact within_r _ _ (by omega) (by omega)))) | ((with_reducible apply Tn.other); (case hne => omega); (case hb => omega)))); (case e => rfl)) : p := q
theorem tq8 {p : Prop} (q : p := by apply Tn.eq; (case h => repeat (first | with_reducible exact k.t | with_reducible exact h | with_reducible apply Tn.drew | with_reducible apply Tn.alloc | ((with_reducible apply Tn.setStep); (case hv => (first | omega | exact wr64_r _))) | ((with_reducible apply Tn.other); (case hne => omega); (case hb => omega)))); (case e => rfl)) : p := q
end

/-
  An instruction is performed: through the table.
-/
section
theorem imeth_at (i : Nat) (hi : i < 56) (v : Value) (hv : itab.getD i .nilFunc = v) (w : World) :
    Calls Tryz.prog 205 #[.int .u8 i] w fun e w' => e = .returned v ∧ Below w.heap.size w w' := hv ▸ imeth_any i hi w
theorem mmeth_at (i : Nat) (hi : i < 23) (v : Value) (hv : mtab.getD i .nilFunc = v) (w : World) :
    Calls Tryz.prog 83 #[.int .u8 i] w fun e w' => e = .returned v ∧ Below w.heap.size w w' := hv ▸ mmeth_any i hi w

theorem below_thru {B : Nat} {s : PC} {w0 w w1 : World} (h : Tn B s w0 w) (hb : Below w.heap.size w w1) : Tn B s w0 w1 :=
  ⟨h.c.same (hb.block _ h.c.lt), ⟨hb.os.trans h.g.os, hb.tape.trans h.g.tape, hb.output.trans h.g.output, Nat.le_trans h.g.size hb.size, fun k hk hne => (hb.block k (Nat.lt_of_lt_of_le hk h.g.size)).trans (h.g.block k hk hne)⟩⟩
end

/-
  An instruction is performed, whichever it is; it is finished; the branch's end.
-/
section
set_option maxRecDepth 100000
set_option maxHeartbeats 1000000

theorem perform_f {B : Nat} {s : PC} {w0 w : World} (h : Tn B s w0 w) (n : Nat) (hn : n < 56) (hk : s.ins = n) (F : Nat) (hv : itab.getD n .nilFunc = .func (.func F) #[] #[]) (he : ∀ a w, Sem.run Tryz.prog (callFunc F a) w = .ok (.enter F a) w)
    (hc : ∀ {w1}, Tn B s w0 w1 → Calls Tryz.prog F #[.pointer (some ⟨B, 0, none⟩)] w1 fun e w' => e = .returned (.tuple #[]) ∧ Tn B (s.doIns n) w0 w') :
    Calls Tryz.prog 167 #[.pointer (some ⟨B, 0, none⟩)] w fun e w' => e = .returned (.tuple #[]) ∧ Tn B (s.doIns n) w0 w' := by
  have c_ins := h.c.cins
  rw [hk] at c_ins
  go_enter Tryz.func167, Tryz.ntmps167
  go_wp2_with (go_at_call 205; refine (imeth_at n hn _ hv _).mono ?_; rintro e w1 ⟨rfl, hb⟩; have h1 := below_thru h hb)
  refine (hc h1).mono ?_
  rintro e w2 ⟨rfl, h2⟩
  go_wp2
  go_end0
  exact ⟨rfl, h2⟩

theorem perform_any {B : Nat} {s : PC} {w0 w : World} (h : Tn B s w0 w) :
    Calls Tryz.prog 167 #[.pointer (some ⟨B, 0, none⟩)] w fun e w' => e = .returned (.tuple #[]) ∧ Tn B s.perform w0 w' := by
  obtain ⟨l1, l2⟩ := h.c.rins
  obtain ⟨n, hn⟩ := Int.eq_ofNat_of_zero_le l1
  have e : s.perform = s.doIns n := by unfold PC.perform; rw [hn]; rfl
  rw [e]
  have hlt : n < 56 := by omega
  clear l1 l2 e
  match n, hlt, hn with
  | 0, hn, hk => exact perform_f h _ hn hk _ rfl (fun _ _ => by kernel_rfl) adc_any
  | 1, hn, hk => exact perform_f h _ hn hk _ rfl (fun _ _ => by kernel_rfl) and_any
  | 2, hn, hk => exact perform_f h _ hn hk _ rfl (fun _ _ => by kernel_rfl) asl_any
  | 3, hn, hk => exact perform_f h _ hn hk _ rfl (fun _ _ => by kernel_rfl) bcc_any
  | 4, hn, hk => exact perform_f h _ hn hk _ rfl (fun _ _ => by kernel_rfl) bcs_any
  | 5, hn, hk => exact perform_f h _ hn hk _ rfl (fun _ _ => by kernel_rfl) beq_any
  | 6, hn, hk => exact perform_f h _ hn hk _ rfl (fun _ _ => by kernel_rfl) bmi_any
  | 7, hn, hk => exact perform_f h _ hn hk _ rfl (fun _ _ => by kernel_rfl) bne_any
  | 8, hn, hk => exact perform_f h _ hn hk _ rfl (fun _ _ => by kernel_rfl) bpl_any
  | 9, hn, hk => exact perform_f h _ hn hk _ rfl (fun _ _ => by kernel_rfl) bvc_any
  | 10, hn, hk => exact perform_f h _ hn hk _ rfl (fun _ _ => by kernel_rfl) bvs_any
  | 11, hn, hk => exact perform_f h _ hn hk _ rfl (fun _ _ => by kernel_rfl) bit_any
  | 12, hn, hk => exact perform_f h _ hn hk _ rfl (fun _ _ => by kernel_rfl) brk_any
  | 13, hn, hk => exact perform_f h _ hn hk _ rfl (fun _ _ => by kernel_rfl) clc_any
  | 14, hn, hk => exact perform_f h _ hn hk _ rfl (fun _ _ => by kernel_rfl) cld_any
  | 15, hn, hk => exact perform_f h _ hn hk _ rfl (fun _ _ => by kernel_rfl) cli_any
  | 16, hn, hk => exact perform_f h _ hn hk _ rfl (fun _ _ => by kernel_rfl) clv_any
  | 17, hn, hk => exact perform_f h _ hn hk _ rfl (fun _ _ => by kernel_rfl) cmp_any
  | 18, hn, hk => exact perform_f h _ hn hk _ rfl (fun _ _ => by kernel_rfl) cpx_any
  | 19, hn, hk => exact perform_f h _ hn hk _ rfl (fun _ _ => by kernel_rfl) cpy_any
  | 20, hn, hk => exact perform_f h _ hn hk _ rfl (fun _ _ => by kernel_rfl) dec_any
  | 21, hn, hk => exact perform_f h _ hn hk _ rfl (fun _ _ => by kernel_rfl) dex_any
  | 22, hn, hk => exact perform_f h _ hn hk _ rfl (fun _ _ => by kernel_rfl) dey_any
  | 23, hn, hk => exact perform_f h _ hn hk _ rfl (fun _ _ => by kernel_rfl) eor_any
  | 24, hn, hk => exact perform_f h _ hn hk _ rfl (fun _ _ => by kernel_rfl) inc_any
  | 25, hn, hk => exact perform_f h _ hn hk _ rfl (fun _ _ => by kernel_rfl) inx_any
  | 26, hn, hk => exact perform_f h _ hn hk _ rfl (fun _ _ => by kernel_rfl) iny_any
  | 27, hn, hk => exact perform_f h _ hn hk _ rfl (fun _ _ => by kernel_rfl) jmp_any
  | 28, hn, hk => exact perform_f h _ hn hk _ rfl (fun _ _ => by kernel_rfl) jsr_any
  | 29, hn, hk => exact perform_f h _ hn hk _ rfl (fun _ _ => by kernel_rfl) lda_any
  | 30, hn, hk => exact perform_f h _ hn hk _ rfl (fun _ _ => by kernel_rfl) ldx_any
  | 31, hn, hk => exact perform_f h _ hn hk _ rfl (fun _ _ => by kernel_rfl) ldy_any
  | 32, hn, hk => exact perform_f h _ hn hk _ rfl (fun _ _ => by kernel_rfl) lsr_any
  | 33, hn, hk => exact perform_f h _ hn hk _ rfl (fun _ _ => by kernel_rfl) nop_any
  | 34, hn, hk => exact perform_f h _ hn hk _ rfl (fun _ _ => by kernel_rfl) ora_any
  | 35, hn, hk => exact perform_f h _ hn hk _ rfl (fun _ _ => by kernel_rfl) pha_any
  | 36, hn, hk => exact perform_f h _ hn hk _ rfl (fun _ _ => by kernel_rfl) php_any
  | 37, hn, hk => exact perform_f h _ hn hk _ rfl (fun _ _ => by kernel_rfl) pla_any
  | 38, hn, hk => exact perform_f h _ hn hk _ rfl (fun _ _ => by kernel_rfl) plp_any
  | 39, hn, hk => exact perform_f h _ hn hk _ rfl (fun _ _ => by kernel_rfl) rol_any
  | 40, hn, hk => exact perform_f h _ hn hk _ rfl (fun _ _ => by kernel_rfl) ror_any
  | 41, hn, hk => exact perform_f h _ hn hk _ rfl (fun _ _ => by kernel_rfl) rti_any
  | 42, hn, hk => exact perform_f h _ hn hk _ rfl (fun _ _ => by kernel_rfl) rts_any
  | 43, hn, hk => exact perform_f h _ hn hk _ rfl (fun _ _ => by kernel_rfl) sbc_any
  | 44, hn, hk => exact perform_f h _ hn hk _ rfl (fun _ _ => by kernel_rfl) sec_any
  | 45, hn, hk => exact perform_f h _ hn hk _ rfl (fun _ _ => by kernel_rfl) sed_any
  | 46, hn, hk => exact perform_f h _ hn hk _ rfl (fun _ _ => by kernel_rfl) sei_any
  | 47, hn, hk => exact perform_f h _ hn hk _ rfl (fun _ _ => by kernel_rfl) sta_any
  | 48, hn, hk => exact perform_f h _ hn hk _ rfl (fun _ _ => by kernel_rfl) stx_any
  | 49, hn, hk => exact perform_f h _ hn hk _ rfl (fun _ _ => by kernel_rfl) sty_any
  | 50, hn, hk => exact perform_f h _ hn hk _ rfl (fun _ _ => by kernel_rfl) tax_any
  | 51, hn, hk => exact perform_f h _ hn hk _ rfl (fun _ _ => by kernel_rfl) tay_any
  | 52, hn, hk => exact perform_f h _ hn hk _ rfl (fun _ _ => by kernel_rfl) tsx_any
  | 53, hn, hk => exact perform_f h _ hn hk _ rfl (fun _ _ => by kernel_rfl) txa_any
  | 54, hn, hk => exact perform_f h _ hn hk _ rfl (fun _ _ => by kernel_rfl) txs_any
  | 55, hn, hk => exact perform_f h _ hn hk _ rfl (fun _ _ => by kernel_rfl) tya_any
  | n + 56, hlt, _ => exact absurd hlt (by omega)

theorem performLast_any {B : Nat} {s : PC} {w0 w : World} (h : Tn B s w0 w) :
    Calls Tryz.prog 108 #[.pointer (some ⟨B, 0, none⟩)] w fun e w' => e = .returned (.tuple #[]) ∧ Tn B s.performLast w0 w' := by
  go_enter Tryz.func108, Tryz.ntmps108
  go_wp2_with fail
  refine (perform_any h).mono ?_
  rintro e w1 ⟨rfl, h1⟩
  go_wp2_with fail
  refine (finish_any h1).mono ?_
  rintro e w2 ⟨rfl, h2⟩
  go_wp2
  go_end0
  exact ⟨rfl, h2⟩

theorem branch_any {B : Nat} {s : PC} {w0 w : World} (h : Tn B s w0 w) :
    Calls Tryz.prog 178 #[.pointer (some ⟨B, 0, none⟩)] w fun e w' => e = .returned (.tuple #[]) ∧ Tn B s.branch w0 w' := by
  have c_ad := h.c.cad; obtain ⟨l_ad, u_ad⟩ := h.c.rad; have c_pc := h.c.cpc; obtain ⟨l_pc, u_pc⟩ := h.c.rpc
  have f_pc := h.c.free 65544
  go_enter Tryz.func178, Tryz.ntmps178
  go_wp2_with fail
  refine (finish_any (h.setPc _ ⟨l_ad, u_ad⟩)).mono ?_
  rintro e w2 ⟨rfl, h2⟩
  go_wp2
  go_end0
  exact ⟨rfl, h2⟩
end

/-
  Pushed and pulled, walked.
-/
section
set_option maxRecDepth 100000
set_option maxHeartbeats 1000000
variable {B : Nat} {s : PC} {w0 w : World}

theorem top_r (x : Int) : 0 ≤ joinI (IntKind.u8.wrap x) 1 ∧ joinI (IntKind.u8.wrap x) 1 < 65536 := by have := wr_r x; unfold joinI; omega

theorem pushed_any (h : Tn B s w0 w) (d : Int) (d1 : 0 ≤ d) (d2 : d < 256) :
    Calls Tryz.prog 182 #[.pointer (some ⟨B, 0, none⟩), .int .u8 d] w fun e w' => e = .returned (s.pushed d).2.val ∧ Tn B (s.pushed d).1 w0 w' := by
  have c_s := h.c.cs; obtain ⟨l_s, u_s⟩ := h.c.rs
  obtain ⟨hlt, hsz, n0, m0, fz0, n01, m01⟩ := h.pre
  go_enter Tryz.func182, Tryz.ntmps182
  go_wp2_with (first | (go_at_call 181; refine (Ck.same (w0 := w0) (R := w.heap.size) kq1 (fun h => stackTop_any h)).mono ?_; rintro e w' ⟨rfl, rfl⟩) | (go_at_call 109; refine Ck.gq w0 w.heap.size kq1 (fun h => write_any h _ _ nq2 nq2 nq2 nq2) ?_; intro w1 k q1 q2 zz; intros; (try simp at zz); (try replace zz := Nat.lt_of_succ_le zz); (try have zl : w.heap.size + 1 < w1.heap.size := (by omega)); have c_s := k.c.cs; obtain ⟨l_s, u_s⟩ := k.c.rs; (try simp only [BusI.val])))
  all_goals (try go_region_with (first | (go_at_call 181; refine (Ck.same (w0 := w0) (R := w.heap.size) kq1 (fun h => stackTop_any h)).mono ?_; rintro e w' ⟨rfl, rfl⟩) | (go_at_call 109; refine Ck.gq w0 w.heap.size kq1 (fun h => write_any h _ _ nq2 nq2 nq2 nq2) ?_; intro w1 k q1 q2 zz; intros; (try simp at zz); (try replace zz := Nat.lt_of_succ_le zz); (try have zl : w.heap.size + 1 < w1.heap.size := (by omega)); have c_s := k.c.cs; obtain ⟨l_s, u_s⟩ := k.c.rs; (try simp only [BusI.val]))))
  all_goals (try go_wp2_with (first | (go_at_call 181; refine (Ck.same (w0 := w0) (R := w.heap.size) kq1 (fun h => stackTop_any h)).mono ?_; rintro e w' ⟨rfl, rfl⟩) | (go_at_call 109; refine Ck.gq w0 w.heap.size kq1 (fun h => write_any h _ _ nq2 nq2 nq2 nq2) ?_; intro w1 k q1 q2 zz; intros; (try simp at zz); (try replace zz := Nat.lt_of_succ_le zz); (try have zl : w.heap.size + 1 < w1.heap.size := (by omega)); have c_s := k.c.cs; obtain ⟨l_s, u_s⟩ := k.c.rs; (try simp only [BusI.val]))))
  all_goals (have hr := Tryz.results182; exact bodyPost_ret brq rfl ⟨rfl, tq7⟩)

theorem pulled_any (h : Tn B s w0 w) :
    Calls Tryz.prog 183 #[.pointer (some ⟨B, 0, none⟩)] w fun e w' => e = .returned (s.pulled).2.val ∧ Tn B (s.pulled).1 w0 w' := by
  have c_s := h.c.cs; obtain ⟨l_s, u_s⟩ := h.c.rs
  obtain ⟨hlt, hsz, n0, m0, fz0, -⟩ := h.pre
  go_enter Tryz.func183, Tryz.ntmps183
  go_wp2_with (first | (go_at_call 181; refine (Ck.same (w0 := w0) (R := w.heap.size) kq3 (fun h => stackTop_any h)).mono ?_; rintro e w' ⟨rfl, rfl⟩) | (go_at_call 103; refine Ck.go w0 w.heap.size kq3 (fun h => read_any h _ nq2 nq2) ?_; intro w1 k; intros; have c_s := k.c.cs; obtain ⟨l_s, u_s⟩ := k.c.rs; (try simp only [BusI.val])))
  all_goals (try go_region_with (first | (go_at_call 181; refine (Ck.same (w0 := w0) (R := w.heap.size) kq3 (fun h => stackTop_any h)).mono ?_; rintro e w' ⟨rfl, rfl⟩) | (go_at_call 103; refine Ck.go w0 w.heap.size kq3 (fun h => read_any h _ nq2 nq2) ?_; intro w1 k; intros; have c_s := k.c.cs; obtain ⟨l_s, u_s⟩ := k.c.rs; (try simp only [BusI.val]))))
  all_goals (try go_wp2_with (first | (go_at_call 181; refine (Ck.same (w0 := w0) (R := w.heap.size) kq3 (fun h => stackTop_any h)).mono ?_; rintro e w' ⟨rfl, rfl⟩) | (go_at_call 103; refine Ck.go w0 w.heap.size kq3 (fun h => read_any h _ nq2 nq2) ?_; intro w1 k; intros; have c_s := k.c.cs; obtain ⟨l_s, u_s⟩ := k.c.rs; (try simp only [BusI.val]))))
  all_goals (have hr := Tryz.results183; exact bodyPost_ret brq rfl ⟨rfl, tq7⟩)
end

end Go.Proofs.YtcgjliflnnklnaaGreat
