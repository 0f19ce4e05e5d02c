/-
  A computer started, a machine made.
-/
import Derived.Test.YtcgjliflnnklnaaGreatCpRgx
import Derived.Test.YtcgjliflnnklnaaGreatCpFix
namespace Go.Proofs.YtcgjliflnnklnaaGreat
open Go.RowKit

/-- A zero computer started. -/
def PC.start (s : PC) (rom : Int) (cs : List Chn) : PC :=
  let t : PC := { s with rom := rom * 256, mem := fillI s.mem cs, s := 253, p := 36 }
  let q := joinI (t.look 65532) (t.look 65533)
  { t with pc := q, ba := t.a, bx := t.x, b_y := t.y, bs := 253, bp := 36, bpc := q }

set_option maxRecDepth 100000 in
set_option maxHeartbeats 2000000 in
theorem start_no {B : Nat} {w : World} (N : Nat) (v : Value) (cs : List Chn) (rom : Int) (hc : CfAt N w v cs) (hv : validI rom cs = false)
    (hl : cs.length ≤ 140737488355328) (hb : ∀ c ∈ cs, c.bs.length ≤ 140737488355328) :
    Calls Tryz.prog 34 #[.pointer (some ⟨B, 0, none⟩), .agg #[v, .int .i64 rom]] w fun e w' => e = .returned (.int .i64 1) ∧ Below w.heap.size w w' := by
  have V := fun o => valid_any N v cs rom (w.alloc o) (hc.below (Below.refl _ _ |>.alloc (Nat.le_refl _) _)) hl hb
  rw [hv] at V
  obtain ⟨p, cap, rfl, -⟩ := hc
  go_enter Tryz.func34, Tryz.ntmps34
  go_wp2_with (first | (go_at_call 50; refine (V _).mono ?_; rintro e w1 ⟨rfl, hbl⟩))
  go_ret
  exact ⟨rfl, ((Below.refl _ _).alloc (Nat.le_refl _) _).trans (hbl.mono (by simp))⟩

set_option maxRecDepth 100000 in
set_option maxHeartbeats 4000000 in
theorem start_ok {B : Nat} {s : PC} {w0 w : World} (h : Tn B s w0 w) (N : Nat) (hN : N ≤ B) (v : Value) (cs : List Chn) (rom : Int) (hc : CfAt N w v cs) (hv : validI rom cs = true)
    (hl : cs.length ≤ 140737488355328) (hb : ∀ c ∈ cs, c.bs.length ≤ 140737488355328) :
    Calls Tryz.prog 34 #[.pointer (some ⟨B, 0, none⟩), .agg #[v, .int .i64 rom]] w fun e w' => e = .returned (.int .i64 0) ∧ Tn B (s.start rom cs) w0 w' := by
  have V := fun o => valid_any N v cs rom (w.alloc o) (hc.below (Below.refl _ _ |>.alloc (Nat.le_refl _) _)) hl hb
  rw [hv] at V
  have hlt := h.c.lt
  have hsz := h.g.size
  have n0 : w.heap.size ≠ B := by omega
  have m0 : B ≠ w.heap.size := by omega
  have HC : Hid (CfAt N w v cs) := hc
  have Hh : Hid (Tn B s w0 w) := h
  have HV : Hid (validI rom cs = true) := hv
  obtain ⟨p, cap, rfl, -⟩ := hc
  clear h hv
  go_enter Tryz.func34, Tryz.ntmps34
  go_wp2_with (first | (go_at_call 50; refine (V _).mono ?_; rintro e w1 ⟨rfl, hbl⟩; have e0 := hbl.cell (p := ⟨w.heap.size, 0, none⟩) (by simp); have e1 := hbl.cell (p := ⟨w.heap.size, 1, none⟩) (by simp); have hs1 := hbl.size))
  have T1 : Tn B s w0 w1 := below_thru (Hh.out.alloc _) hbl
  have C1 : CfAt N w1 (.slice p cs.length cap) cs := (HC.out.below ((Below.refl _ _).alloc (Nat.le_refl _) _)).below hbl
  clear V hbl
  rw [World.cell?_alloc_at _ _ _ _ rfl] at e0 e1
  go_region_with (first | (go_at_call 51; refine (fill_any T1.drew N hN _ cs rom C1 HV.out).mono ?_; rintro e w2 ⟨rfl, T2⟩))
  clear T1 C1 e0 e1
  obtain ⟨S1, hS1⟩ : ∃ S1 : PC, Hid (S1 = { s with rom := rom * 256, mem := fillI s.mem cs }) := ⟨_, rfl⟩
  rw [← hS1.out] at T2
  have hst : Hid (s.start rom cs = { ({ S1 with s := 253, p := 36 } : PC) with pc := joinI (({ S1 with s := 253, p := 36 } : PC).look 65532) (({ S1 with s := 253, p := 36 } : PC).look 65533), ba := S1.a, bx := S1.x, b_y := S1.y, bs := 253, bp := 36, bpc := joinI (({ S1 with s := 253, p := 36 } : PC).look 65532) (({ S1 with s := 253, p := 36 } : PC).look 65533) }) := by
    show _ = _
    rw [hS1.out]; rfl
  clear hS1
  have cs_ := T2.c.cs
  have cp_ := T2.c.cp
  have cpc_ := T2.c.cpc
  have ca_ := T2.c.ca
  have cx_ := T2.c.cx
  have cy_ := T2.c.cy
  have d1 := T2.c.cba
  have d2 := T2.c.cbx
  have d3 := T2.c.cb_y
  have d4 := T2.c.cbs
  have d5 := T2.c.cbp
  have d6 := T2.c.cbpc
  have fz := T2.c.free
  have r1 := T2.c.ra
  have r2 := T2.c.rx
  have r3 := T2.c.ry
  have T3 := (T2.setS 253 (by decide)).setP 36 (by decide)
  have HT3 : Hid (Tn B { S1 with s := 253, p := 36 } w0 ((w2.setCell ⟨B, 65542, none⟩ (.int .u8 253)).setCell ⟨B, 65543, none⟩ (.int .u8 36))) := T3
  obtain ⟨l0, l1⟩ := look_r T3.c 65532 (by decide)
  obtain ⟨l2, l3⟩ := look_r T3.c 65533 (by decide)
  obtain ⟨j0, j1⟩ := join_r _ _ l0 l1 l2 l3
  go_wp2_with fail
  go_region_with (first | (go_at_call 49; refine (look_a T3.drew _ (by decide) (by decide)).mono ?_; rintro e w' ⟨rfl, rfl⟩) | (go_at_call 52; refine (join_any _ _ _ l0 l1 l2 l3).mono ?_; rintro e w' ⟨rfl, rfl⟩))
  all_goals (generalize (({ S1 with s := 253, p := 36 } : PC).look 65532) = L0 at *)
  all_goals (generalize (({ S1 with s := 253, p := 36 } : PC).look 65533) = L1 at *)
  all_goals (generalize joinI L0 L1 = J at *)
  all_goals go_wp2
  all_goals go_ret
  all_goals refine ⟨rfl, ?_⟩
  all_goals rw [hst.out]
  all_goals exact (((((((HT3.out.setPc J ⟨j0, j1⟩).setBa _ r1).setBx _ r2).setB_y _ r3).setBs 253 (by decide)).setBp 36 (by decide)).setBpc J ⟨j0, j1⟩).drew

/-- The zero computer. -/
def zeroPC (R : Nat → Option Value) : PC := ⟨fun _ => 0, 0, 0, false, 0, 0, 0, 0, 0, 0, 0, 0, 0, 0, 0, 0, 0, 0, 0, 0, 0, 0, 0, false, false, false, 0, R⟩

def isZ : Value → Bool
  | .int .u8 v => v == 0
  | _ => false
def allZ : List Value → Nat → Bool
  | [], n => n == 0
  | v :: l, n => match n with
    | 0 => true
    | n + 1 => isZ v && allZ l n
theorem isZ_eq {v : Value} (h : isZ v = true) : v = .int .u8 0 := by
  unfold isZ at h
  split at h
  · rw [eq_of_beq h]
  · cases h
theorem allZ_at : ∀ (l : List Value) (n : Nat), allZ l n = true → ∀ i, i < n → l[i]? = some (.int .u8 0)
  | [], n, h, i, hi => by simp [allZ] at h; omega
  | v :: l, 0, h, i, hi => by omega
  | v :: l, n + 1, h, i, hi => by
    simp only [allZ, Bool.and_eq_true] at h
    cases i with
    | zero => simp [isZ_eq h.1]
    | succ i => simpa using allZ_at l n h.2 i (by omega)

/-- What stands behind the memory of a zero computer. -/
def zTail : List Value := [.int .i64 0, .int .u8 0, .bool false, .int .u8 0, .int .u8 0, .int .u8 0, .int .u8 0, .int .u8 0, .int .u16 0, .int .u8 0, .int .u8 0, .int .u8 0, .int .u8 0, .int .u8 0, .int .u16 0, .int .u8 0, .int .u8 0, .int .u8 0, .int .i64 0, .int .u16 0, .int .u16 0, .int .u8 0, .bool false, .bool false, .bool false, .int .i64 0]

theorem cat_zero (w : World) (t : TypeId) (z : Array Value) (h1 : allZ z.toList 65536 = true) (h2 : (z.toList.drop 65536).take 26 = zTail) : CAt (w.alloc (.cells z t)) w.heap.size (zeroPC fun o => z[o]?) := by
  have hc : ∀ i, (w.alloc (.cells z t)).cell? ⟨w.heap.size, i, none⟩ = z[i]? := fun i => World.cell?_alloc_at _ _ _ _ rfl
  have hz : ∀ i, i < 65536 → z[i]? = some (.int .u8 0) := fun i hi => by rw [← Array.getElem?_toList]; exact allZ_at _ _ h1 i hi
  have ht : ∀ k, k < 26 → z[65536 + k]? = zTail[k]? := fun k hk => by rw [← h2, ← Array.getElem?_toList, List.getElem?_take, if_pos hk, List.getElem?_drop]
  exact { mem := fun i hi => (hc i).trans (hz i hi), rmem := fun _ _ => (by decide : (0 : Int) ≤ 0 ∧ (0 : Int) < 256), crom := (hc _).trans (ht 0 (by decide)), ccnt := (hc _).trans (ht 1 (by decide)), ccalls := (hc _).trans (ht 2 (by decide)), ca := (hc _).trans (ht 3 (by decide)), cx := (hc _).trans (ht 4 (by decide)), cy := (hc _).trans (ht 5 (by decide)), cs := (hc _).trans (ht 6 (by decide)), cp := (hc _).trans (ht 7 (by decide)), cpc := (hc _).trans (ht 8 (by decide)), cba := (hc _).trans (ht 9 (by decide)), cbx := (hc _).trans (ht 10 (by decide)), cb_y := (hc _).trans (ht 11 (by decide)), cbs := (hc _).trans (ht 12 (by decide)), cbp := (hc _).trans (ht 13 (by decide)), cbpc := (hc _).trans (ht 14 (by decide)), cst := (hc _).trans (ht 15 (by decide)), cins := (hc _).trans (ht 16 (by decide)), cmd := (hc _).trans (ht 17 (by decide)), cstep := (hc _).trans (ht 18 (by decide)), cad := (hc _).trans (ht 19 (by decide)), chop := (hc _).trans (ht 20 (by decide)), cdata := (hc _).trans (ht 21 (by decide)), ctaken := (hc _).trans (ht 22 (by decide)), cnmiOn := (hc _).trans (ht 23 (by decide)), cnmiDue := (hc _).trans (ht 24 (by decide)), ccyc := (hc _).trans (ht 25 (by decide)), rrom := (by decide : (0 : Int) ≤ 0 ∧ (0 : Int) < 65537), rcnt := (by decide : (0 : Int) ≤ 0 ∧ (0 : Int) < 256), ra := (by decide : (0 : Int) ≤ 0 ∧ (0 : Int) < 256), rx := (by decide : (0 : Int) ≤ 0 ∧ (0 : Int) < 256), ry := (by decide : (0 : Int) ≤ 0 ∧ (0 : Int) < 256), rs := (by decide : (0 : Int) ≤ 0 ∧ (0 : Int) < 256), rp := (by decide : (0 : Int) ≤ 0 ∧ (0 : Int) < 256), rpc := (by decide : (0 : Int) ≤ 0 ∧ (0 : Int) < 65536), rba := (by decide : (0 : Int) ≤ 0 ∧ (0 : Int) < 256), rbx := (by decide : (0 : Int) ≤ 0 ∧ (0 : Int) < 256), rb_y := (by decide : (0 : Int) ≤ 0 ∧ (0 : Int) < 256), rbs := (by decide : (0 : Int) ≤ 0 ∧ (0 : Int) < 256), rbp := (by decide : (0 : Int) ≤ 0 ∧ (0 : Int) < 256), rbpc := (by decide : (0 : Int) ≤ 0 ∧ (0 : Int) < 65536), rst := (by decide : (0 : Int) ≤ 0 ∧ (0 : Int) < 6), rins := (by decide : (0 : Int) ≤ 0 ∧ (0 : Int) < 56), rmd := (by decide : (0 : Int) ≤ 0 ∧ (0 : Int) < 23), rstep := (by decide : (-9223372036854775808 : Int) ≤ 0 ∧ (0 : Int) < 9223372036854775808), rad := (by decide : (0 : Int) ≤ 0 ∧ (0 : Int) < 65536), rhop := (by decide : (0 : Int) ≤ 0 ∧ (0 : Int) < 65536), rdata := (by decide : (0 : Int) ≤ 0 ∧ (0 : Int) < 256), rcyc := (by decide : (-9223372036854775808 : Int) ≤ 0 ∧ (0 : Int) < 9223372036854775808), free := fun o => World.frozen?_alloc_at _ _ _ _ rfl, crest := fun o _ => hc o }

theorem zero_ok : allZ Tryz.zeroCells105.toList 65536 = true := by kernel_rfl
theorem zero_tail : (Tryz.zeroCells105.toList.drop 65536).take 26 = zTail := by kernel_rfl

theorem below_grown {N B : Nat} {w w2 w3 : World} (hb : Below N w w2) (g : w2.grownBy w3 (some B)) (hB : N ≤ B) (hN : N ≤ w2.heap.size) : Below N w w3 :=
  ⟨g.os.trans hb.os, g.tape.trans hb.tape, g.output.trans hb.output, Nat.le_trans hb.size g.size, fun k hk => (g.block k (by omega) (by intro e; injection e with e; omega)).trans (hb.block k hk)⟩

end Go.Proofs.YtcgjliflnnklnaaGreat
