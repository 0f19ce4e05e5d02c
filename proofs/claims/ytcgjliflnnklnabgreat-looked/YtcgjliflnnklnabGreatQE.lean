/-
  Joined texts.
-/
import Derived.Test.YtcgjliflnnklnabGreatCpRg
import Derived.Test.YtcgjliflnnklnabGreatQP
import Derived.Test.YtcgjliflnnklnabGreatQA
namespace Go.Proofs.YtcgjliflnnklnabGreat
open Go.RowKit

/-
  A computer started, a machine made.
-/
section
/-- A zero computer started. -/
def PC.start (s : PC) (rom : Int) (cs : List Chn) : PC :=
  let t : PC := { s with rom := rom * 256, mem := fillI s.mem cs, s := 253, p := 36 }
  let q := joinI (t.look 65532) (t.look 65533)
  { t with pc := q, ba := t.a, bx := t.x, b_y := t.y, bs := 253, bp := 36, bpc := q }

set_option maxRecDepth 100000 in
set_option maxHeartbeats 2000000 in
theorem start_no {B : Nat} {w : World} (N : Nat) (v : Value) (cs : List Chn) (rom : Int) (hc : CfAt N w v cs) (hv : validI rom cs = false)
    (hl : cs.length ≤ 140737488355328) (hb : ∀ c ∈ cs, c.bs.length ≤ 140737488355328) :
    Calls Tryz.prog 18 #[.pointer (some ⟨B, 0, none⟩), .agg #[v, .int .i64 rom]] w fun e w' => e = .returned (.int .i64 1) ∧ Below w.heap.size w w' := by
  have V := fun o => valid_any N v cs rom (w.alloc o) (hc.below (Below.refl _ _ |>.alloc (Nat.le_refl _) _)) hl hb
  rw [hv] at V
  obtain ⟨p, cap, rfl, -⟩ := hc
  go_enter Tryz.func18, Tryz.ntmps18
  go_wp2_with (first | (go_at_call 24; refine (V _).mono ?_; rintro e w1 ⟨rfl, hbl⟩))
  go_ret
  exact ⟨rfl, ((Below.refl _ _).alloc (Nat.le_refl _) _).trans (hbl.mono (by simp))⟩

set_option maxRecDepth 100000 in
set_option maxHeartbeats 4000000 in
theorem start_ok {B : Nat} {s : PC} {w0 w : World} (h : Tn B s w0 w) (N : Nat) (hN : N ≤ B) (v : Value) (cs : List Chn) (rom : Int) (hc : CfAt N w v cs) (hv : validI rom cs = true)
    (hl : cs.length ≤ 140737488355328) (hb : ∀ c ∈ cs, c.bs.length ≤ 140737488355328) :
    Calls Tryz.prog 18 #[.pointer (some ⟨B, 0, none⟩), .agg #[v, .int .i64 rom]] w fun e w' => e = .returned (.int .i64 0) ∧ Tn B (s.start rom cs) w0 w' := by
  have V := fun o => valid_any N v cs rom (w.alloc o) (hc.below (Below.refl _ _ |>.alloc (Nat.le_refl _) _)) hl hb
  rw [hv] at V
  have hlt := h.c.lt
  have hsz := h.g.size
  have n0 : w.heap.size ≠ B := by omega
  have m0 : B ≠ w.heap.size := by omega
  have HC : Hid (CfAt N w v cs) := hc
  have Hh : Hid (Tn B s w0 w) := h
  have HV : Hid (validI rom cs = true) := hv
  obtain ⟨p, cap, rfl, -⟩ := hc
  clear h hv
  go_enter Tryz.func18, Tryz.ntmps18
  go_wp2_with (first | (go_at_call 24; refine (V _).mono ?_; rintro e w1 ⟨rfl, hbl⟩; have e0 := hbl.cell (p := ⟨w.heap.size, 0, none⟩) (by simp); have e1 := hbl.cell (p := ⟨w.heap.size, 1, none⟩) (by simp); have hs1 := hbl.size))
  have T1 : Tn B s w0 w1 := below_thru (Hh.out.alloc _) hbl
  have C1 : CfAt N w1 (.slice p cs.length cap) cs := (HC.out.below ((Below.refl _ _).alloc (Nat.le_refl _) _)).below hbl
  clear V hbl
  rw [World.cell?_alloc_at _ _ _ _ rfl] at e0 e1
  go_region_with (first | (go_at_call 25; refine (fill_any T1.drew N hN _ cs rom C1 HV.out).mono ?_; rintro e w2 ⟨rfl, T2⟩))
  clear T1 C1 e0 e1
  obtain ⟨S1, hS1⟩ : ∃ S1 : PC, Hid (S1 = { s with rom := rom * 256, mem := fillI s.mem cs }) := ⟨_, rfl⟩
  rw [← hS1.out] at T2
  have hst : Hid (s.start rom cs = { ({ S1 with s := 253, p := 36 } : PC) with pc := joinI (({ S1 with s := 253, p := 36 } : PC).look 65532) (({ S1 with s := 253, p := 36 } : PC).look 65533), ba := S1.a, bx := S1.x, b_y := S1.y, bs := 253, bp := 36, bpc := joinI (({ S1 with s := 253, p := 36 } : PC).look 65532) (({ S1 with s := 253, p := 36 } : PC).look 65533) }) := by
    show _ = _
    rw [hS1.out]; rfl
  clear hS1
  have cs_ := T2.c.cs
  have cp_ := T2.c.cp
  have cpc_ := T2.c.cpc
  have ca_ := T2.c.ca
  have cx_ := T2.c.cx
  have cy_ := T2.c.cy
  have d1 := T2.c.cba
  have d2 := T2.c.cbx
  have d3 := T2.c.cb_y
  have d4 := T2.c.cbs
  have d5 := T2.c.cbp
  have d6 := T2.c.cbpc
  have fz := T2.c.free
  have r1 := T2.c.ra
  have r2 := T2.c.rx
  have r3 := T2.c.ry
  have T3 := (T2.setS 253 (by decide)).setP 36 (by decide)
  have HT3 : Hid (Tn B { S1 with s := 253, p := 36 } w0 ((w2.setCell ⟨B, 65542, none⟩ (.int .u8 253)).setCell ⟨B, 65543, none⟩ (.int .u8 36))) := T3
  obtain ⟨l0, l1⟩ := look_r T3.c 65532 (by decide)
  obtain ⟨l2, l3⟩ := look_r T3.c 65533 (by decide)
  obtain ⟨j0, j1⟩ := join_r _ _ l0 l1 l2 l3
  go_wp2_with fail
  go_region_with (first | (go_at_call 27; refine (look_a T3.drew _ (by decide) (by decide)).mono ?_; rintro e w' ⟨rfl, rfl⟩) | (go_at_call 26; refine (join_any _ _ _ l0 l1 l2 l3).mono ?_; rintro e w' ⟨rfl, rfl⟩))
  all_goals (generalize (({ S1 with s := 253, p := 36 } : PC).look 65532) = L0 at *)
  all_goals (generalize (({ S1 with s := 253, p := 36 } : PC).look 65533) = L1 at *)
  all_goals (generalize joinI L0 L1 = J at *)
  all_goals go_wp2
  all_goals go_ret
  all_goals refine ⟨rfl, ?_⟩
  all_goals rw [hst.out]
  all_goals exact (((((((HT3.out.setPc J ⟨j0, j1⟩).setBa _ r1).setBx _ r2).setB_y _ r3).setBs 253 (by decide)).setBp 36 (by decide)).setBpc J ⟨j0, j1⟩).drew

/-- The zero computer. -/
def zeroPC (R : Nat → Option Value) : PC := ⟨fun _ => 0, 0, 0, false, 0, 0, 0, 0, 0, 0, 0, 0, 0, 0, 0, 0, 0, 0, 0, 0, 0, 0, 0, false, false, false, 0, R⟩

def isZ : Value → Bool
  | .int .u8 v => v == 0
  | _ => false
def allZ : List Value → Nat → Bool
  | [], n => n == 0
  | v :: l, n => match n with
    | 0 => true
    | n + 1 => isZ v && allZ l n
theorem isZ_eq {v : Value} (h : isZ v = true) : v = .int .u8 0 := by
  unfold isZ at h
  split at h
  · rw [eq_of_beq h]
  · cases h
theorem allZ_at : ∀ (l : List Value) (n : Nat), allZ l n = true → ∀ i, i < n → l[i]? = some (.int .u8 0)
  | [], n, h, i, hi => by simp [allZ] at h; omega
  | v :: l, 0, h, i, hi => by omega
  | v :: l, n + 1, h, i, hi => by
    simp only [allZ, Bool.and_eq_true] at h
    cases i with
    | zero => simp [isZ_eq h.1]
    | succ i => simpa using allZ_at l n h.2 i (by omega)

/-- What stands behind the memory of a zero computer. -/
def zTail : List Value := [.int .i64 0, .int .u8 0, .bool false, .int .u8 0, .int .u8 0, .int .u8 0, .int .u8 0, .int .u8 0, .int .u16 0, .int .u8 0, .int .u8 0, .int .u8 0, .int .u8 0, .int .u8 0, .int .u16 0, .int .u8 0, .int .u8 0, .int .u8 0, .int .i64 0, .int .u16 0, .int .u16 0, .int .u8 0, .bool false, .bool false, .bool false, .int .i64 0]

theorem cat_zero (w : World) (t : TypeId) (z : Array Value) (h1 : allZ z.toList 65536 = true) (h2 : (z.toList.drop 65536).take 26 = zTail) : CAt (w.alloc (.cells z t)) w.heap.size (zeroPC fun o => z[o]?) := by
  have hc : ∀ i, (w.alloc (.cells z t)).cell? ⟨w.heap.size, i, none⟩ = z[i]? := fun i => World.cell?_alloc_at _ _ _ _ rfl
  have hz : ∀ i, i < 65536 → z[i]? = some (.int .u8 0) := fun i hi => by rw [← Array.getElem?_toList]; exact allZ_at _ _ h1 i hi
  have ht : ∀ k, k < 26 → z[65536 + k]? = zTail[k]? := fun k hk => by rw [← h2, ← Array.getElem?_toList, List.getElem?_take, if_pos hk, List.getElem?_drop]
  exact { mem := fun i hi => (hc i).trans (hz i hi), rmem := fun _ _ => (by decide : (0 : Int) ≤ 0 ∧ (0 : Int) < 256), crom := (hc _).trans (ht 0 (by decide)), ccnt := (hc _).trans (ht 1 (by decide)), ccalls := (hc _).trans (ht 2 (by decide)), ca := (hc _).trans (ht 3 (by decide)), cx := (hc _).trans (ht 4 (by decide)), cy := (hc _).trans (ht 5 (by decide)), cs := (hc _).trans (ht 6 (by decide)), cp := (hc _).trans (ht 7 (by decide)), cpc := (hc _).trans (ht 8 (by decide)), cba := (hc _).trans (ht 9 (by decide)), cbx := (hc _).trans (ht 10 (by decide)), cb_y := (hc _).trans (ht 11 (by decide)), cbs := (hc _).trans (ht 12 (by decide)), cbp := (hc _).trans (ht 13 (by decide)), cbpc := (hc _).trans (ht 14 (by decide)), cst := (hc _).trans (ht 15 (by decide)), cins := (hc _).trans (ht 16 (by decide)), cmd := (hc _).trans (ht 17 (by decide)), cstep := (hc _).trans (ht 18 (by decide)), cad := (hc _).trans (ht 19 (by decide)), chop := (hc _).trans (ht 20 (by decide)), cdata := (hc _).trans (ht 21 (by decide)), ctaken := (hc _).trans (ht 22 (by decide)), cnmiOn := (hc _).trans (ht 23 (by decide)), cnmiDue := (hc _).trans (ht 24 (by decide)), ccyc := (hc _).trans (ht 25 (by decide)), rrom := (by decide : (0 : Int) ≤ 0 ∧ (0 : Int) < 65537), rcnt := (by decide : (0 : Int) ≤ 0 ∧ (0 : Int) < 256), ra := (by decide : (0 : Int) ≤ 0 ∧ (0 : Int) < 256), rx := (by decide : (0 : Int) ≤ 0 ∧ (0 : Int) < 256), ry := (by decide : (0 : Int) ≤ 0 ∧ (0 : Int) < 256), rs := (by decide : (0 : Int) ≤ 0 ∧ (0 : Int) < 256), rp := (by decide : (0 : Int) ≤ 0 ∧ (0 : Int) < 256), rpc := (by decide : (0 : Int) ≤ 0 ∧ (0 : Int) < 65536), rba := (by decide : (0 : Int) ≤ 0 ∧ (0 : Int) < 256), rbx := (by decide : (0 : Int) ≤ 0 ∧ (0 : Int) < 256), rb_y := (by decide : (0 : Int) ≤ 0 ∧ (0 : Int) < 256), rbs := (by decide : (0 : Int) ≤ 0 ∧ (0 : Int) < 256), rbp := (by decide : (0 : Int) ≤ 0 ∧ (0 : Int) < 256), rbpc := (by decide : (0 : Int) ≤ 0 ∧ (0 : Int) < 65536), rst := (by decide : (0 : Int) ≤ 0 ∧ (0 : Int) < 6), rins := (by decide : (0 : Int) ≤ 0 ∧ (0 : Int) < 56), rmd := (by decide : (0 : Int) ≤ 0 ∧ (0 : Int) < 23), rstep := (by decide : (-9223372036854775808 : Int) ≤ 0 ∧ (0 : Int) < 9223372036854775808), rad := (by decide : (0 : Int) ≤ 0 ∧ (0 : Int) < 65536), rhop := (by decide : (0 : Int) ≤ 0 ∧ (0 : Int) < 65536), rdata := (by decide : (0 : Int) ≤ 0 ∧ (0 : Int) < 256), rcyc := (by decide : (-9223372036854775808 : Int) ≤ 0 ∧ (0 : Int) < 9223372036854775808), free := fun o => World.frozen?_alloc_at _ _ _ _ rfl, crest := fun o _ => hc o }

theorem zero_ok : allZ Tryz.zeroCells93.toList 65536 = true := by kernel_rfl
theorem zero_tail : (Tryz.zeroCells93.toList.drop 65536).take 26 = zTail := by kernel_rfl

theorem below_grown {N B : Nat} {w w2 w3 : World} (hb : Below N w w2) (g : w2.grownBy w3 (some B)) (hB : N ≤ B) (hN : N ≤ w2.heap.size) : Below N w w3 :=
  ⟨g.os.trans hb.os, g.tape.trans hb.tape, g.output.trans hb.output, Nat.le_trans hb.size g.size, fun k hk => (g.block k (by omega) (by intro e; injection e with e; omega)).trans (hb.block k hk)⟩
end

/-
  A machine made.
-/
section
/-- A computer fresh from its configuration. -/
def PC.fresh (rom : Int) (cs : List Chn) (R : Nat → Option Value) : PC := (zeroPC R).start rom cs

theorem zero_mach : ∃ (R : Nat → Option Value) (z : Array Value), (∀ w : World, Sem.run Tryz.prog (zeroValue 93) w = .ok (.agg z) w) ∧ z.size = 65562 ∧ ∀ (w : World) (t : TypeId), CAt (w.alloc (.cells z t)) w.heap.size (zeroPC R) :=
  ⟨_, _, Tryz.zeroValue93, Tryz.zeroCells93_size, fun w t => cat_zero w t _ zero_ok zero_tail⟩

set_option maxRecDepth 100000 in
set_option maxHeartbeats 1000000 in
theorem new_ok (N : Nat) (v : Value) (cs : List Chn) (rom : Int) (w : World) (hN : N ≤ w.heap.size) (hc : CfAt N w v cs) (hv : validI rom cs = true)
    (hl : cs.length ≤ 140737488355328) (hb : ∀ c ∈ cs, c.bs.length ≤ 140737488355328) :
    Calls Tryz.prog 7 #[.agg #[v, .int .i64 rom]] w fun e w' => ∃ B R, w.heap.size ≤ B ∧ e = .returned (.tuple #[.pointer (some ⟨B, 0, none⟩), .int .i64 0]) ∧
      CAt w' B (.fresh rom cs R) ∧ Below w.heap.size w w' := by
  obtain ⟨R, zz, hz, hzs, HZ⟩ := zero_mach
  have hne : zz ≠ #[] := by intro e; rw [e] at hzs; cases hzs
  have S : ∀ (o : Obj) (t : TypeId), Calls Tryz.prog 18 #[.pointer (some ⟨w.heap.size + 1, 0, none⟩), .agg #[v, .int .i64 rom]] ((w.alloc o).alloc (.cells zz t)).drew fun e w' => e = .returned (.int .i64 0) ∧ Tn (w.heap.size + 1) (.fresh rom cs R) ((w.alloc o).alloc (.cells zz t)) w' := by
    intro o t
    have q := start_ok (Tn.refl (HZ (w.alloc o) t)).drew N (by simp; omega) v cs rom ((hc.below (((Below.refl _ _).alloc (Nat.le_refl _) o).alloc (by simp) _)).below (bl_drew (Below.refl _ _))) hv hl hb
    rwa [show (w.alloc o).heap.size = w.heap.size + 1 from by simp] at q
  have HH : Hid (∀ (w : World) (t : TypeId), CAt (w.alloc (.cells zz t)) w.heap.size (zeroPC R)) := HZ
  obtain ⟨p, cap, rfl, -⟩ := hc
  clear HZ
  go_enter Tryz.func7, Tryz.ntmps7
  go_wp2_with fail
  go_region_with (first | (go_at_call 18; refine (S _ _).mono ?_; rintro e w2 ⟨rfl, T2⟩; have HT : Hid (CAt w2 (w.heap.size + 1) (.fresh rom cs R) ∧ Below w.heap.size w w2) := ⟨T2.c, below_grown (((Below.refl _ _).alloc (Nat.le_refl _) _).alloc (by simp) _) T2.g (by omega) (by simp; omega)⟩; clear T2 S))
  all_goals go_wp2
  all_goals go_ret2
  all_goals exact ⟨w.heap.size + 1, R, by omega, rfl, HT.out.1, HT.out.2⟩
end

/-
  The command g: registers, told.
-/
section
theorem Hid.mk' {p : Prop} (h : p) : Hid p := h

/-- The first k of the registers' bytes, told. -/
def regPre (s : PC) (k : Nat) : List UInt8 := ([s.ba, s.bx, s.b_y, s.bs, s.bp].take k).flatMap fun n => hexN n.toNat 2
def regText (s : PC) : List UInt8 := regPre s 5 ++ hexN s.bpc.toNat 4 ++ hexN s.cyc.toNat 8

theorem regPre_len (s : PC) (k : Nat) (hk : k ≤ 5) : (regPre s k).length = 2 * k := by
  unfold regPre
  rcases (show k = 0 ∨ k = 1 ∨ k = 2 ∨ k = 3 ∨ k = 4 ∨ k = 5 from by omega) with rfl | rfl | rfl | rfl | rfl | rfl <;> simp [hexN_len]
theorem regText_len (s : PC) : (regText s).length = 22 := by
  unfold regText; simp [regPre_len, hexN_len]
theorem regPre_0 (s : PC) : regPre s 0 ++ hexN s.ba.toNat 2 = regPre s 1 := by simp [regPre]
theorem regPre_1 (s : PC) : regPre s 1 ++ hexN s.bx.toNat 2 = regPre s 2 := by simp [regPre]
theorem regPre_2 (s : PC) : regPre s 2 ++ hexN s.b_y.toNat 2 = regPre s 3 := by simp [regPre]
theorem regPre_3 (s : PC) : regPre s 3 ++ hexN s.bs.toNat 2 = regPre s 4 := by simp [regPre]
theorem regPre_4 (s : PC) : regPre s 4 ++ hexN s.bp.toNat 2 = regPre s 5 := by simp [regPre]

theorem appendHexI (base : Nat) (v : Value) (l : List UInt8) (n : Int) (count : Nat) (w0 w : World) (hv : OwnV base w0 w v l) (hl : l.length ≤ 1000) (h0 : 0 ≤ n) (hn : n < 9223372036854775808) (hc : count ≤ 16) :
    Calls Tryz.prog 37 #[v, .int .i64 n, .int .i64 count] w fun e w' => ∃ v', e = .returned v' ∧ OwnV base w0 w' v' (l ++ hexN n.toNat count) := by
  obtain ⟨m, rfl⟩ := Int.eq_ofNat_of_zero_le h0
  exact appendHexV base v l m count w0 w hv hl (by omega) hc

theorem idx5_0 (a b c d e : Int) (k : Nat) (hk : k = 0) (w : World) : Sem.run Tryz.prog (Instr.index 139 (.agg #[.int .i64 a, .int .i64 b, .int .i64 c, .int .i64 d, .int .i64 e]) (.int .i64 (k : Int))) w = .ok (.int .i64 a) w := by subst hk; kernel_rfl
theorem idx5_1 (a b c d e : Int) (k : Nat) (hk : k = 1) (w : World) : Sem.run Tryz.prog (Instr.index 139 (.agg #[.int .i64 a, .int .i64 b, .int .i64 c, .int .i64 d, .int .i64 e]) (.int .i64 (k : Int))) w = .ok (.int .i64 b) w := by subst hk; kernel_rfl
theorem idx5_2 (a b c d e : Int) (k : Nat) (hk : k = 2) (w : World) : Sem.run Tryz.prog (Instr.index 139 (.agg #[.int .i64 a, .int .i64 b, .int .i64 c, .int .i64 d, .int .i64 e]) (.int .i64 (k : Int))) w = .ok (.int .i64 c) w := by subst hk; kernel_rfl
theorem idx5_3 (a b c d e : Int) (k : Nat) (hk : k = 3) (w : World) : Sem.run Tryz.prog (Instr.index 139 (.agg #[.int .i64 a, .int .i64 b, .int .i64 c, .int .i64 d, .int .i64 e]) (.int .i64 (k : Int))) w = .ok (.int .i64 d) w := by subst hk; kernel_rfl
theorem idx5_4 (a b c d e : Int) (k : Nat) (hk : k = 4) (w : World) : Sem.run Tryz.prog (Instr.index 139 (.agg #[.int .i64 a, .int .i64 b, .int .i64 c, .int .i64 d, .int .i64 e]) (.int .i64 (k : Int))) w = .ok (.int .i64 e) w := by subst hk; kernel_rfl

/-- The world at the head of the loop: the registers lie at C. -/
structure AtR (w W : World) (C : Nat) (s : PC) : Prop where
  b : Below w.heap.size w W
  c5 : W.cell? ⟨C, 5, none⟩ = some (.int .i64 s.bpc)
  c6 : W.cell? ⟨C, 6, none⟩ = some (.int .i64 s.cyc)

set_option maxRecDepth 100000 in
set_option maxHeartbeats 2000000 in
theorem tellRegs_any {B : Nat} {s : PC} {w0 w : World} (h : Tn B s w0 w) (hcy : 0 ≤ s.cyc) :
    Calls Tryz.prog 49 #[.pointer (some ⟨B, 0, none⟩)] w fun e w' => e = .returned (.string ⟨(regText s).toArray⟩) ∧ Below w.heap.size w w' := by
  have R := regs_any h
  obtain ⟨a0, a1⟩ := h.c.rba
  obtain ⟨x0, x1⟩ := h.c.rbx
  obtain ⟨y0, y1⟩ := h.c.rb_y
  obtain ⟨s0, s1⟩ := h.c.rbs
  obtain ⟨p0, p1⟩ := h.c.rbp
  obtain ⟨q0, q1⟩ := h.c.rbpc
  obtain ⟨-, k1⟩ := h.c.rcyc
  have hv : s.regs.val = .agg #[.int .i64 s.ba, .int .i64 s.bx, .int .i64 s.b_y, .int .i64 s.bs, .int .i64 s.bp, .int .i64 s.bpc, .int .i64 s.cyc, .bool (s.st == 5)] := rfl
  rw [hv] at R
  clear h hv
  go_enter Tryz.func49, Tryz.ntmps49
  go_wp2_with (first | (go_at_call 22; refine R.mono ?_; rintro e w1 ⟨rfl, hb⟩; have HB : Hid (Below w.heap.size w w1) := hb; clear hb R))
  go_loopw [4, 22] (fun v i wr => ∃ (k : Nat) (W : World), k ≤ 5 ∧ i = .int .i64 k ∧ AtR w W w1.heap.size s ∧ OwnV W.heap.size W wr v (regPre s k)) (fun _ i _ => 5 - (intOf i).toNat)
  case atStart => exact ⟨0, _, by omega, rfl, ⟨HB.out.alloc HB.out.size _, World.cell?_alloc_at _ _ _ _ rfl, World.cell?_alloc_at _ _ _ _ rfl⟩, ⟨World.ownsRow_nil _ _ _ _, Below.refl _ _, Nat.le_refl _⟩⟩
  case round =>
    obtain ⟨k, W, hk, rfl, hR, hO⟩ := hrel
    have HR : Hid (AtR w W w1.heap.size s) := hR
    have HO : Hid (OwnV W.heap.size W wr u4 (regPre s k)) := hO
    clear hR hO
    rcases (show k = 0 ∨ k = 1 ∨ k = 2 ∨ k = 3 ∨ k = 4 ∨ k = 5 from by omega) with e | e | e | e | e | e
    · have hk5 : k < 5 := by omega
      have hix := fun w => idx5_0 s.ba s.bx s.b_y s.bs s.bp k e w
      have HE : Hid (k = 0) := e
      clear e hk
      go_wp2_with (first | (go_at_call 37; refine (appendHexI _ _ _ _ 2 _ _ HO.out (by rw [regPre_len _ _ (by have := HE.out; omega)]; have := HE.out; omega) a0 (by omega) (by omega)).mono ?_; rintro e w2 ⟨v2, rfl, O2⟩; rw [HE.out, regPre_0] at O2; have HO2 := Hid.mk' O2; clear O2 HO))
      go_roundw
      case rel => exact ⟨k + 1, W, by have := HE.out; omega, by go_num, HR.out, by rw [HE.out]; exact HO2.out⟩
      case measure => have := HE.out; simp [intOf]; omega
    · have hk5 : k < 5 := by omega
      have hix := fun w => idx5_1 s.ba s.bx s.b_y s.bs s.bp k e w
      have HE : Hid (k = 1) := e
      clear e hk
      go_wp2_with (first | (go_at_call 37; refine (appendHexI _ _ _ _ 2 _ _ HO.out (by rw [regPre_len _ _ (by have := HE.out; omega)]; have := HE.out; omega) x0 (by omega) (by omega)).mono ?_; rintro e w2 ⟨v2, rfl, O2⟩; rw [HE.out, regPre_1] at O2; have HO2 := Hid.mk' O2; clear O2 HO))
      go_roundw
      case rel => exact ⟨k + 1, W, by have := HE.out; omega, by go_num, HR.out, by rw [HE.out]; exact HO2.out⟩
      case measure => have := HE.out; simp [intOf]; omega
    · have hk5 : k < 5 := by omega
      have hix := fun w => idx5_2 s.ba s.bx s.b_y s.bs s.bp k e w
      have HE : Hid (k = 2) := e
      clear e hk
      go_wp2_with (first | (go_at_call 37; refine (appendHexI _ _ _ _ 2 _ _ HO.out (by rw [regPre_len _ _ (by have := HE.out; omega)]; have := HE.out; omega) y0 (by omega) (by omega)).mono ?_; rintro e w2 ⟨v2, rfl, O2⟩; rw [HE.out, regPre_2] at O2; have HO2 := Hid.mk' O2; clear O2 HO))
      go_roundw
      case rel => exact ⟨k + 1, W, by have := HE.out; omega, by go_num, HR.out, by rw [HE.out]; exact HO2.out⟩
      case measure => have := HE.out; simp [intOf]; omega
    · have hk5 : k < 5 := by omega
      have hix := fun w => idx5_3 s.ba s.bx s.b_y s.bs s.bp k e w
      have HE : Hid (k = 3) := e
      clear e hk
      go_wp2_with (first | (go_at_call 37; refine (appendHexI _ _ _ _ 2 _ _ HO.out (by rw [regPre_len _ _ (by have := HE.out; omega)]; have := HE.out; omega) s0 (by omega) (by omega)).mono ?_; rintro e w2 ⟨v2, rfl, O2⟩; rw [HE.out, regPre_3] at O2; have HO2 := Hid.mk' O2; clear O2 HO))
      go_roundw
      case rel => exact ⟨k + 1, W, by have := HE.out; omega, by go_num, HR.out, by rw [HE.out]; exact HO2.out⟩
      case measure => have := HE.out; simp [intOf]; omega
    · have hk5 : k < 5 := by omega
      have hix := fun w => idx5_4 s.ba s.bx s.b_y s.bs s.bp k e w
      have HE : Hid (k = 4) := e
      clear e hk
      go_wp2_with (first | (go_at_call 37; refine (appendHexI _ _ _ _ 2 _ _ HO.out (by rw [regPre_len _ _ (by have := HE.out; omega)]; have := HE.out; omega) p0 (by omega) (by omega)).mono ?_; rintro e w2 ⟨v2, rfl, O2⟩; rw [HE.out, regPre_4] at O2; have HO2 := Hid.mk' O2; clear O2 HO))
      go_roundw
      case rel => exact ⟨k + 1, W, by have := HE.out; omega, by go_num, HR.out, by rw [HE.out]; exact HO2.out⟩
      case measure => have := HE.out; simp [intOf]; omega
    · have hki : (k : Int) = 5 := by omega
      rw [e] at HO
      clear e hk
      have c5 := (HO.out.2.1.cell (p := ⟨w1.heap.size, 5, none⟩) (lt_of_cell (by rw [HR.out.c5]; simp))).trans HR.out.c5
      have c6 := (HO.out.2.1.cell (p := ⟨w1.heap.size, 6, none⟩) (lt_of_cell (by rw [HR.out.c6]; simp))).trans HR.out.c6
      go_wp2_with fail
      refine (appendHexI _ _ _ _ 4 _ _ HO.out (by rw [regPre_len _ _ (by omega)]; omega) q0 (by omega) (by omega)).mono ?_
      rintro e w2 ⟨v2, rfl, O2⟩
      have c6 := (O2.2.1.cell (p := ⟨w1.heap.size, 6, none⟩) (lt_of_cell (by rw [HR.out.c6]; simp))).trans HR.out.c6
      have HO2 := Hid.mk' O2
      clear O2 HO c5
      go_wp2_with fail
      refine (appendHexI _ _ _ _ 8 _ _ HO2.out (by rw [List.length_append, regPre_len _ _ (by omega), hexN_len]; omega) hcy (by omega) (by omega)).mono ?_
      rintro e w3 ⟨v3, rfl, O3⟩
      obtain ⟨g, cap, rfl, o1, o2, o3⟩ := O3.form (by simp [regPre_len, hexN_len])
      have hcv := to_string o1
      have HF : Hid (Below w.heap.size w w3) := HR.out.b.trans (o2.mono (HR.out.b.size))
      have HT : Hid (regPre s 5 ++ hexN s.bpc.toNat 4 ++ hexN s.cyc.toNat 8 = regText s) := rfl
      rw [HT.out] at hcv
      rw [HT.out]
      clear O3 o1 o2 o3 HO2
      go_wp2
      go_ret
      exact ⟨rfl, HF.out⟩
end

/-
  The command g, answered.
-/
section
set_option maxRecDepth 100000 in
set_option maxHeartbeats 1000000 in
theorem doG_any {B : Nat} {s : PC} {w0 w : World} (h : Tn B s w0 w) (hcy : 0 ≤ s.cyc) :
    Calls Tryz.prog 36 #[.pointer (some ⟨B, 0, none⟩), .string ⟨#[103]⟩] w fun e w' => e = .returned (.string ⟨(regText s).toArray⟩) ∧ Below w.heap.size w w' := by
  have R := tellRegs_any h hcy
  generalize regText s = t at *
  clear h
  go_enter Tryz.func36, Tryz.ntmps36
  go_wp2_with (first | (go_at_call 49; refine R.mono ?_; rintro e w1 ⟨rfl, hb⟩; have HB : Hid (Below w.heap.size w w1) := hb; clear hb R))
  go_ret
  exact ⟨rfl, HB.out⟩

theorem cell_al {w : World} {o : Obj} {b i : Nat} {v : Value} (h : w.cell? ⟨b, i, none⟩ = some v) : (w.alloc o).cell? ⟨b, i, none⟩ = some v :=
  (World.cell?_of_block (a := ⟨b, i, none⟩) (Below.heap_alloc _ _ _ (World.block_lt_of_cell? w ⟨b, i, none⟩ h))).trans h
theorem bytes_news {w : World} {g : Nat} {l : List UInt8} (h : BytesAt w g 0 l) : ∀ j u, (vals l)[j]? = some u → w.cell? ((⟨g, 0, none⟩ : Addr).add j) = some u := by
  intro j u hu
  unfold vals at hu
  rw [List.getElem?_map] at hu
  cases e : l[j]? with
  | none => rw [e] at hu; cases hu
  | some c =>
    rw [e] at hu
    obtain ⟨hj, ec⟩ := List.getElem?_eq_some_iff.1 e
    have := h j hj
    rw [show (⟨g, 0, none⟩ : Addr).add j = ⟨g, j, none⟩ from by unfold Addr.add; split <;> simp_all]
    rw [Nat.zero_add] at this
    rw [this, ec]
    simpa using hu
theorem vals_one (l : List UInt8) : ∀ u ∈ vals l, u.oneCell' = true := by
  intro u hu
  unfold vals at hu
  obtain ⟨c, -, rfl⟩ := List.mem_map.1 hu
  rfl

theorem G.bel {w x y : World} {B : Nat} (h : w.grownBy x (some B)) (b : Below x.heap.size x y) : w.grownBy y (some B) :=
  ⟨b.os.trans h.os, b.tape.trans h.tape, b.output.trans h.output, Nat.le_trans h.size b.size, fun k hk hne => (b.block k (Nat.lt_of_lt_of_le hk h.size)).trans (h.block k hk hne)⟩
theorem G.row {w x y : World} {B : Nat} {r : Option Nat} (h : w.grownBy x (some B)) (b : x.grownBy y r) (hr : ∀ k, r = some k → w.heap.size ≤ k) : w.grownBy y (some B) :=
  ⟨b.os.trans h.os, b.tape.trans h.tape, b.output.trans h.output, Nat.le_trans h.size b.size, fun k hk hne => (b.block k (Nat.lt_of_lt_of_le hk h.size) (fun e => by have := hr k e.symm; omega)).trans (h.block k hk hne)⟩

/-- What a stub has beside its computer and its scanner, as far as an answer asks. -/
structure StC (w : World) (B : Nat) (d : Nat) (bg : Bool) (rp : List UInt8) : Prop where
  cd : w.cell? ⟨B, 65765, none⟩ = some (.int .u8 (d : Int))
  cb : w.cell? ⟨B, 65766, none⟩ = some (.bool bg)
  cr : w.cell? ⟨B, 65767, none⟩ = some (.string ⟨rp.toArray⟩)
  free : ∀ o, w.frozen? ⟨B, o, none⟩ = false

set_option maxRecDepth 100000 in
set_option maxHeartbeats 2000000 in
theorem answerG_any {B : Nat} {s : PC} {w : World} (hc : CAt w B s) (hcy : 0 ≤ s.cyc) (d : UInt8) (bg : Bool) (rp : List UInt8) (hs : StC w B d.toNat bg rp) :
    Calls Tryz.prog 29 #[.pointer (some ⟨B, 0, none⟩), Pk.val ⟨d.toNat, [103], false⟩] w fun e w' => ∃ g cap, e = .returned (.slice (some ⟨g, 0, none⟩) (1 + (frameOf d (regText s)).length) cap) ∧
      BytesAt w' g 0 ([43] ++ frameOf d (regText s)) ∧ w.heap.size ≤ g ∧ w.grownBy w' (some B) := by
  have hlt := hc.lt
  have n0 : w.heap.size ≠ B := by omega
  have m0 : B ≠ w.heap.size := by omega
  have cd := hs.cd
  have cb := hs.cb
  have cr := hs.cr
  have fz := hs.free
  have hd := u8_r d
  have hw : IntKind.i64.wrap (d.toNat : Int) = (d.toNat : Int) := wrap_id8 _ hd.1 hd.2
  rw [pk_val]
  have D := fun o => doG_any (Tn.refl hc |>.alloc o).drew hcy
  have hlen := regText_len s
  generalize regText s = t at *
  go_enter Tryz.func29, Tryz.ntmps29
  go_wp2_with fail
  go_region_held3 (fun w' => w'.cell? ⟨w.heap.size, 0, none⟩ = some (.int .i64 (d.toNat : Int)) ∧ w'.cell? ⟨B, 65765, none⟩ = some (.int .u8 (d.toNat : Int))) (go_keep) (fail)
  go_wp2_with fail
  refine (D _).mono ?_
  rintro e w1 ⟨rfl, hb⟩
  obtain ⟨hcc, hff⟩ := bcellR hb
  have e1 := (hcc B 65765 (by simp; omega)).trans (cell_al cd)
  have e2 := (hcc B 65766 (by simp; omega)).trans (cell_al cb)
  have e3 := (hcc B 65767 (by simp; omega)).trans (cell_al cr)
  have e4 := (hcc w.heap.size 0 (by simp)).trans (World.cell?_alloc_at _ _ _ _ rfl)
  have e5 : ∀ o, w1.frozen? ⟨B, o, none⟩ = false := fun o => (hff B o (by simp; omega)).trans ((World.frozen?_of_block (a := ⟨B, o, none⟩) (Below.heap_alloc _ _ _ hlt)).trans (fz o))
  have hs1 : w.heap.size < w1.heap.size := by have := hb.size; simp at this; omega
  have HB : Hid (Below w.heap.size w w1) := ((Below.refl _ _).alloc (Nat.le_refl _) _).trans (below_undrew (hb.mono (by simp)))
  clear hcc hff hb D cd cb cr fz hc hs
  obtain ⟨i0, hi, hz0, hz1, hz2⟩ := info_parts inf_u8
  go_wp2_with fail
  have x3 : (((w1.setCell ⟨B, 65767, none⟩ (.string ⟨t.toArray⟩)).setCell ⟨B, 65766, none⟩ (.bool true)).setCell ⟨B, 65765, none⟩ (.int .u8 (((d.toNat : Int) + 1) % 256))).drew.cell? ⟨B, 65767, none⟩ = some (.string ⟨t.toArray⟩) := by
    show World.cell? (((w1.setCell _ _).setCell _ _).setCell _ _) _ = _
    rw [World.cell?_setCell_other _ _ _ _ (cp_addr _ _ _ (by decide)), World.cell?_setCell_other _ _ _ _ (cp_addr _ _ _ (by decide))]
    exact World.cell?_setCell_same _ _ _ e3
  have x0 : (((w1.setCell ⟨B, 65767, none⟩ (.string ⟨t.toArray⟩)).setCell ⟨B, 65766, none⟩ (.bool true)).setCell ⟨B, 65765, none⟩ (.int .u8 (((d.toNat : Int) + 1) % 256))).drew.cell? ⟨w.heap.size, 0, none⟩ = some (.int .i64 (d.toNat : Int)) := by
    have ne : ∀ i, (⟨B, i, none⟩ : Addr) ≠ ⟨w.heap.size, 0, none⟩ := fun i e => by injection e with e1 e2; exact m0 e1
    show World.cell? (((w1.setCell _ _).setCell _ _).setCell _ _) _ = _
    rw [World.cell?_setCell_other _ _ _ _ (ne _), World.cell?_setCell_other _ _ _ _ (ne _), World.cell?_setCell_other _ _ _ _ (ne _)]
    exact e4
  go_region_held3 (fun w' => w'.cell? ⟨w.heap.size, 0, none⟩ = some (.int .i64 (d.toNat : Int)) ∧ w'.cell? ⟨B, 65767, none⟩ = some (.string ⟨t.toArray⟩)) (go_keep) (first | (go_at_call 30; refine (wireFrame_any d ⟨t.toArray⟩ _ (by simp [ByteArray.size]; omega)).mono ?_; rintro e w3 ⟨v, rfl, O⟩; obtain ⟨g, cap, rfl, o1, o2, o3⟩ := O; have y0 := (o2.cell (p := ⟨w.heap.size, 0, none⟩) (by simp; omega)).trans x0; have y3 := (o2.cell (p := ⟨B, 65767, none⟩) (by simp; omega)).trans x3))
  have HN : Hid (BytesAt w3 g 0 (frameOf d t)) := owns_bytes o1
  have hfl : (frameOf d t).length ≤ 200 := by have := esc_len t; simp [frameOf, hex2]; omega
  have hfp : 0 < (frameOf d t).length := by simp [frameOf]
  have hgl := (o1.lt g rfl)
  have HG : Hid (w.grownBy w3 (some B)) := G.bel (G.drew (G.set (G.set (G.set (G.bel (cp_refl _ _) HB.out))))) o2
  clear o1 o2 o3 e1 e2 e3 e4 e5 x0 x3 y0 y3 HB
  generalize hF : frameOf d t = F at *
  have HF : Hid (frameOf d t = F) := hF
  clear hF
  have hs3 : w.heap.size ≤ w3.heap.size := HG.out.size
  have hg3 : g < w3.heap.size := hgl.2
  clear hgl
  go_wp2_with (first | (at_builtin; go_must (refine wpList_append_lies _ rfl (.tmp 65) (.tmp 66) 22 rfl w3.heap.size 5 i0 (.int .u8 0) 1 1 und_bytes hi hz0 hz1 hz2 rfl (by decide) (.slice (some ⟨w3.heap.size, 0, none⟩) 1 1) 1 [.int .u8 43] rfl (World.ownsRow_lit w3 #[.int .u8 43] 1 (Nat.le_refl _) (by decide) rfl) ⟨g, 0, none⟩ F.length cap (vals F) rfl (by rw [vals_length]; simp) (bytes_news (bytes_alloc HN.out hg3 _)) (vals_one F) hfp (by unfold maxLen; omega) (by omega) (by simp) _ rfl ?_; intro g' cap' w4 hown' hgrow hat hlt'; have H4 : Hid (BytesAt w4 g' 0 (43 :: F) ∧ w.heap.size ≤ g' ∧ w.grownBy w4 (some B)) := ⟨owns_bytes (l := 43 :: F) (by rw [List.length_cons, Nat.add_comm]; exact hown'), Nat.le_trans hs3 (hown'.lt g' rfl).1, G.row (G.alloc HG.out) hgrow (fun k e => by simp [Value.ownBlock] at e; omega)⟩; clear hown' hgrow hat hlt')))
  go_ret
  have hF := HF.out
  subst hF
  exact ⟨g', cap', rfl, H4.out⟩
end

/-
  A stub fed with the command g.
-/
section
theorem hexd_plain (n : Nat) : esc1 (hexd n) = [hexd n] := by
  by_cases h : n < 16
  · have : ∀ n : Fin 16, esc1 (hexd n.1) = [hexd n.1] := by decide
    exact this ⟨n, h⟩
  · have e : hexd n = 0 := by unfold hexd; rw [List.getD_eq_getElem?_getD, List.getElem?_eq_none (by simp [digits]; omega)]; rfl
    rw [e]; decide
theorem esc_hexN (n : Nat) : ∀ k, esc (hexN n k) = hexN n k
  | 0 => rfl
  | k + 1 => by
    show esc (_ :: hexN n k) = _ :: hexN n k
    unfold esc at *
    rw [List.flatMap_cons, hexd_plain]
    have := esc_hexN n k
    unfold esc at this
    rw [this]; rfl
theorem esc_append (a b : List UInt8) : esc (a ++ b) = esc a ++ esc b := by simp [esc]
theorem esc_regs (s : PC) : esc (regText s) = regText s := by
  have e : regText s = hexN s.ba.toNat 2 ++ (hexN s.bx.toNat 2 ++ (hexN s.b_y.toNat 2 ++ (hexN s.bs.toNat 2 ++ (hexN s.bp.toNat 2 ++ (hexN s.bpc.toNat 4 ++ hexN s.cyc.toNat 8))))) := by simp [regText, regPre]
  rw [e]; simp only [esc_append, esc_hexN]
theorem frameG_len (d : UInt8) (s : PC) : (frameOf d (regText s)).length = 28 := by
  unfold frameOf; rw [esc_regs]; simp [hex2, regText_len]

theorem CAt.scanned {w w' : World} {B : Nat} {s : PC} (h : CAt w B s) (hk : ∀ o, o < 65562 → w'.cell? ⟨B, o, none⟩ = w.cell? ⟨B, o, none⟩) (hf : ∀ o, w'.frozen? ⟨B, o, none⟩ = false) : CAt w' B { s with rest := fun o => w'.cell? ⟨B, o, none⟩ } :=
  { h with mem := fun i hi => (hk i (by omega)).trans (h.mem i hi), crom := (hk _ (by decide)).trans h.crom, ccnt := (hk _ (by decide)).trans h.ccnt, ccalls := (hk _ (by decide)).trans h.ccalls, ca := (hk _ (by decide)).trans h.ca, cx := (hk _ (by decide)).trans h.cx, cy := (hk _ (by decide)).trans h.cy, cs := (hk _ (by decide)).trans h.cs, cp := (hk _ (by decide)).trans h.cp, cpc := (hk _ (by decide)).trans h.cpc, cba := (hk _ (by decide)).trans h.cba, cbx := (hk _ (by decide)).trans h.cbx, cb_y := (hk _ (by decide)).trans h.cb_y, cbs := (hk _ (by decide)).trans h.cbs, cbp := (hk _ (by decide)).trans h.cbp, cbpc := (hk _ (by decide)).trans h.cbpc, cst := (hk _ (by decide)).trans h.cst, cins := (hk _ (by decide)).trans h.cins, cmd := (hk _ (by decide)).trans h.cmd, cstep := (hk _ (by decide)).trans h.cstep, cad := (hk _ (by decide)).trans h.cad, chop := (hk _ (by decide)).trans h.chop, cdata := (hk _ (by decide)).trans h.cdata, ctaken := (hk _ (by decide)).trans h.ctaken, cnmiOn := (hk _ (by decide)).trans h.cnmiOn, cnmiDue := (hk _ (by decide)).trans h.cnmiDue, ccyc := (hk _ (by decide)).trans h.ccyc, free := hf, crest := fun _ _ => rfl }

def gBytes : List UInt8 := [36, 48, 48, 103, 35, 99, 55]
theorem feedP_g : feedP ⟨0, [], 0⟩ gBytes = [⟨0, [103], false⟩] := by kernel_rfl

set_option maxRecDepth 100000 in
set_option maxHeartbeats 2000000 in
theorem stubFeedG_any {B : Nat} {s : PC} {w : World} (hc : CAt w B s) (hcy : 0 ≤ s.cyc) (bg : Bool) (rp : List UInt8) (hst : StC w B 0 bg rp) (hsc : ScS (fun o => w.cell? ⟨B, o, none⟩) w B ⟨0, [], 0⟩)
    (bb off cap : Nat) (hB : BytesAt w bb off gBytes) (hne : bb ≠ B) :
    Calls Tryz.prog 19 #[.pointer (some ⟨B, 0, none⟩), .slice (some ⟨bb, off, none⟩) 7 cap] w fun e w' => ∃ g cap, e = .returned (.slice (some ⟨g, 0, none⟩) 29 cap) ∧
      BytesAt w' g 0 (43 :: frameOf 0 (regText s)) ∧ w.heap.size ≤ g ∧ w.grownBy w' (some B) := by
  obtain ⟨i0, hi, hz0, hz1, hz2⟩ := info_parts inf_u8
  have hlt := hc.lt
  have SF := scannerFeedS_any B bb off cap ⟨0, [], 0⟩ gBytes w hsc (by decide) hB hne (by rw [feedP_g]; decide)
  rw [feedP_g] at SF
  have HC : Hid (CAt w B s ∧ StC w B 0 bg rp) := ⟨hc, hst⟩
  have hfl := frameG_len 0 s
  clear hc hst hsc hB
  go_enter Tryz.func19, Tryz.ntmps19
  go_wp2_with fail
  refine SF.mono ?_
  rintro e w1 ⟨v, rfl, F1⟩
  have hC1 : CAt w1 B { s with rest := fun o => w1.cell? ⟨B, o, none⟩ } := HC.out.1.scanned (fun o ho => F1.sc.keep o (.inl ho)) F1.sc.free
  have hS1 : StC w1 B 0 bg rp := ⟨(F1.sc.keep _ (.inr (by decide))).trans HC.out.2.cd, (F1.sc.keep _ (.inr (by decide))).trans HC.out.2.cb, (F1.sc.keep _ (.inr (by decide))).trans HC.out.2.cr, F1.sc.free⟩
  obtain ⟨pg, pcap, rfl⟩ : ∃ g cap, v = .slice (some ⟨g, 0, none⟩) 1 cap := by
    rcases F1.own.2 with ⟨-, e⟩ | ⟨g, cap, cur, e, -⟩
    · cases e
    · exact ⟨g, cap, e⟩
  have p0 : w1.cell? ⟨pg, 0, none⟩ = some (.int .i64 0) := F1.own.cellAt 0 (by decide)
  have p1 : w1.cell? ⟨pg, 1, none⟩ = some (.string ⟨#[103]⟩) := F1.own.cellAt 1 (by decide)
  have p2 : w1.cell? ⟨pg, 2, none⟩ = some (.bool false) := F1.own.cellAt 2 (by decide)
  have HG : Hid (w.grownBy w1 (some B)) := F1.grown
  have A : ∀ o, Calls Tryz.prog 29 #[.pointer (some ⟨B, 0, none⟩), .agg #[.int .i64 0, .string ⟨#[103]⟩, .bool false]] (w1.alloc o) fun e w' => ∃ g cap, e = .returned (.slice (some ⟨g, 0, none⟩) (1 + (frameOf 0 (regText s)).length) cap) ∧
      BytesAt w' g 0 ([43] ++ frameOf 0 (regText s)) ∧ (w1.alloc o).heap.size ≤ g ∧ (w1.alloc o).grownBy w' (some B) :=
    fun o => answerG_any (s := { s with rest := fun o => w1.cell? ⟨B, o, none⟩ }) (w := w1.alloc o) (hC1.same (Below.heap_alloc _ _ _ hC1.lt)) hcy 0 bg rp ⟨cell_al hS1.cd, cell_al hS1.cb, cell_al hS1.cr, fun o' => (World.frozen?_of_block (a := ⟨B, o', none⟩) (Below.heap_alloc _ _ _ hC1.lt)).trans (hS1.free o')⟩
  rw [hfl] at A
  have hF : Hid ((frameOf 0 (regText s)).length = 28) := hfl
  have hs1 := HG.out.size
  clear hC1 hS1 F1 SF HC hfl
  obtain ⟨L, HL⟩ : ∃ L, Hid (L = 43 :: frameOf 0 (regText s)) := ⟨_, rfl⟩
  have hLl : L.length = 29 := by rw [HL.out, List.length_cons, hF.out]
  go_wp2_with fail
  go_loopw [5, 14] (fun v i wr => ∃ k : Nat, k ≤ 1 ∧ i = .int .i64 k ∧ (k = 0 → v = .slice none 0 0 ∧ wr = w1) ∧ (k = 1 → ∃ g cap, v = .slice (some ⟨g, 0, none⟩) 29 cap ∧ BytesAt wr g 0 L ∧ w.heap.size ≤ g ∧ w.grownBy wr (some B))) (fun _ i _ => 1 - (intOf i).toNat)
  case atStart => exact ⟨0, by omega, rfl, fun _ => ⟨rfl, rfl⟩, fun e => by omega⟩
  case round =>
    obtain ⟨k, hk, rfl, h0, h1⟩ := hrel
    by_cases hlt1 : k < 1
    · obtain ⟨rfl, rfl⟩ := h0 (by omega)
      have e0 : k = 0 := by omega
      clear h0 h1 hk
      have HE : Hid (k = 0) := e0
      have q0 : wr.cell? ⟨pg, k * 3, none⟩ = some (.int .i64 0) := by rw [e0]; exact p0
      have q1 : wr.cell? ⟨pg, k * 3 + 1, none⟩ = some (.string ⟨#[103]⟩) := by rw [e0]; exact p1
      have q2 : wr.cell? ⟨pg, k * 3 + 2, none⟩ = some (.bool false) := by rw [e0]; exact p2
      clear e0 p0 p1 p2
      go_wp2_with (first | (go_at_call 29; refine (A _).mono ?_; rintro e w2 ⟨g2, cap2, rfl, B2, s2, G2⟩; have hB2 : BytesAt w2 g2 0 L := (by rw [HL.out]; exact B2); have hs2 : wr.heap.size ≤ w2.heap.size := (by have := G2.size; simp at this; omega); have HG2 : Hid (w.grownBy w2 (some B)) := cp_trans (cp_trans HG.out (cp_alloc _ _ _)) G2; have HB2 : Hid (BytesAt w2 g2 0 L) := hB2; clear B2 hB2 G2 s2 A) | (at_builtin; go_must (refine wpList_append_lies _ rfl (.tmp 18) (.tmp 21) 22 rfl w2.heap.size 5 i0 (.int .u8 0) 1 1 und_bytes hi hz0 hz1 hz2 rfl (by decide) (.slice none 0 0) 0 [] rfl (World.ownsRow_nil _ _ _ _) ⟨g2, 0, none⟩ 29 cap2 (vals L) rfl (by rw [vals_length, hLl]) (bytes_news HB2.out) (vals_one L) (by decide) (by decide) (by decide) (Nat.le_refl _) _ rfl ?_; intro g' cap' w4 hown' hgrow hat hlt'; have H4 : Hid (BytesAt w4 g' 0 L ∧ w.heap.size ≤ g' ∧ w.grownBy w4 (some B)) := ⟨owns_bytes (l := L) (by rw [hLl]; exact hown'), Nat.le_trans (Nat.le_trans hs1 hs2) (hown'.lt g' rfl).1, G.row HG2.out hgrow (fun k e => by simp [Value.ownBlock] at e)⟩; clear hown' hgrow hat hlt')))
      go_roundw
      case rel => exact ⟨k + 1, by omega, by go_num, fun e => by omega, fun _ => ⟨g', cap', rfl, H4.out⟩⟩
      case measure => simp [intOf]; omega
    · obtain ⟨g, cap, rfl, H⟩ := h1 (by omega)
      have HH : Hid (BytesAt wr g 0 L ∧ w.heap.size ≤ g ∧ w.grownBy wr (some B)) := H
      rw [HL.out] at HH
      clear H h0 h1
      go_wp2
      go_ret
      exact ⟨g, cap, rfl, HH.out⟩
end

/-
  A stub made.
-/
section
/-- What stands behind the computer of a zero stub, as far as it is asked. -/
def zStub : List Value := [.int .u8 0] ++ (List.replicate 200 (.int .u8 0) ++ [.int .i64 0, .int .u8 0, .int .u8 0, .bool false, .string ⟨#[]⟩])

theorem zstub_ok : allZ Tryz.zeroCells88.toList 65536 = true := by kernel_rfl
theorem zstub_tail : (Tryz.zeroCells88.toList.drop 65536).take 26 = zTail := by kernel_rfl
theorem zstub_rest : (Tryz.zeroCells88.toList.drop 65562).take 206 = zStub := by kernel_rfl

def ZRest (R : Nat → Option Value) : Prop := ∀ k, k < 206 → R (65562 + k) = zStub[k]?

theorem zero_stub : ∃ (R : Nat → Option Value) (z : Array Value), (∀ w : World, Sem.run Tryz.prog (zeroValue 88) w = .ok (.agg z) w) ∧ z.size = 66084 ∧ ZRest R ∧ ∀ (w : World) (t : TypeId), CAt (w.alloc (.cells z t)) w.heap.size (zeroPC R) :=
  ⟨_, _, Tryz.zeroValue88, Tryz.zeroCells88_size, fun k hk => by rw [← Array.getElem?_toList, ← zstub_rest, List.getElem?_take, if_pos hk, List.getElem?_drop], fun w t => cat_zero w t _ zstub_ok zstub_tail⟩

theorem zstub_scan {w : World} {B : Nat} {s : PC} (h : CAt w B s) (hR : ZRest s.rest) : ScS (fun o => w.cell? ⟨B, o, none⟩) w B ⟨0, [], 0⟩ ∧ StC w B 0 false [] := by
  have hc : ∀ k, k < 206 → w.cell? ⟨B, 65562 + k, none⟩ = zStub[k]? := fun k hk => (h.crest _ (by omega)).trans (hR k hk)
  refine ⟨⟨by decide, by decide, hc 0 (by decide), hc 201 (by decide), hc 202 (by decide), fun i hi => by simp at hi, fun i hi => ?_, h.free, fun o _ => rfl⟩, ⟨hc 203 (by decide), hc 204 (by decide), hc 205 (by decide), h.free⟩⟩
  have e := hc (1 + i) (by omega)
  rw [show 65562 + (1 + i) = 65563 + i from by omega] at e
  refine ⟨.int .u8 0, e.trans ?_⟩
  unfold zStub
  rw [List.getElem?_append_right (by simp only [List.length_singleton]; omega), List.getElem?_append_left (by rw [List.length_replicate]; simp only [List.length_singleton]; omega), List.getElem?_replicate, if_pos (by simp only [List.length_singleton]; omega)]

set_option maxRecDepth 100000 in
set_option maxHeartbeats 1000000 in
theorem stubStart_ok {B : Nat} {s : PC} {w0 w : World} (h : Tn B s w0 w) (N : Nat) (hN : N ≤ B) (v : Value) (cs : List Chn) (rom : Int) (hc : CfAt N w v cs) (hv : validI rom cs = true)
    (hl : cs.length ≤ 140737488355328) (hb : ∀ c ∈ cs, c.bs.length ≤ 140737488355328) :
    Calls Tryz.prog 17 #[.pointer (some ⟨B, 0, none⟩), .agg #[v, .int .i64 rom]] w fun e w' => e = .returned (.int .i64 0) ∧ Tn B (s.start rom cs) w0 w' := by
  have S := fun o => start_ok (h.alloc o).drew N hN v cs rom ((hc.below ((Below.refl _ _).alloc (Nat.le_refl _) o)).below (bl_drew (Below.refl _ _))) hv hl hb
  obtain ⟨p, cap, rfl, -⟩ := hc
  clear h
  go_enter Tryz.func17, Tryz.ntmps17
  go_wp2_with fail
  go_region_with (first | (go_at_call 18; refine (S _).mono ?_; rintro e w2 ⟨rfl, T2⟩; have HT := Hid.mk' T2; clear T2 S))
  all_goals go_wp2
  all_goals go_ret
  all_goals exact ⟨rfl, HT.out⟩

set_option maxRecDepth 100000 in
set_option maxHeartbeats 1000000 in
theorem newStub_ok (N : Nat) (v : Value) (cs : List Chn) (rom : Int) (w : World) (hN : N ≤ w.heap.size) (hc : CfAt N w v cs) (hv : validI rom cs = true)
    (hl : cs.length ≤ 140737488355328) (hb : ∀ c ∈ cs, c.bs.length ≤ 140737488355328) :
    Calls Tryz.prog 5 #[.agg #[v, .int .i64 rom]] w fun e w' => ∃ B R, w.heap.size ≤ B ∧ e = .returned (.tuple #[.pointer (some ⟨B, 0, none⟩), .int .i64 0]) ∧
      CAt w' B (.fresh rom cs R) ∧ ZRest R ∧ Below w.heap.size w w' := by
  obtain ⟨R, zz, hz, hzs, hR, HZ⟩ := zero_stub
  have hne : zz ≠ #[] := by intro e; rw [e] at hzs; cases hzs
  have S : ∀ (o : Obj) (t : TypeId), Calls Tryz.prog 17 #[.pointer (some ⟨w.heap.size + 1, 0, none⟩), .agg #[v, .int .i64 rom]] ((w.alloc o).alloc (.cells zz t)).drew fun e w' => e = .returned (.int .i64 0) ∧ Tn (w.heap.size + 1) (.fresh rom cs R) ((w.alloc o).alloc (.cells zz t)) w' := by
    intro o t
    have q := stubStart_ok (Tn.refl (HZ (w.alloc o) t)).drew N (by simp; omega) v cs rom ((hc.below (((Below.refl _ _).alloc (Nat.le_refl _) o).alloc (by simp) _)).below (bl_drew (Below.refl _ _))) hv hl hb
    rwa [show (w.alloc o).heap.size = w.heap.size + 1 from by simp] at q
  have HH : Hid (ZRest R) := hR
  obtain ⟨p, cap, rfl, -⟩ := hc
  clear HZ hR
  go_enter Tryz.func5, Tryz.ntmps5
  go_wp2_with fail
  go_region_with (first | (go_at_call 17; refine (S _ _).mono ?_; rintro e w2 ⟨rfl, T2⟩; have HT : Hid (CAt w2 (w.heap.size + 1) (.fresh rom cs R) ∧ Below w.heap.size w w2) := ⟨T2.c, below_grown (((Below.refl _ _).alloc (Nat.le_refl _) _).alloc (by simp) _) T2.g (by omega) (by simp; omega)⟩; clear T2 S))
  all_goals go_wp2
  all_goals go_ret2
  all_goals exact ⟨w.heap.size + 1, R, by omega, rfl, HT.out.1, HH.out, HT.out.2⟩

set_option maxRecDepth 100000 in
set_option maxHeartbeats 1000000 in
theorem sFeedG_any {B : Nat} {s : PC} {w : World} (hc : CAt w B s) (hcy : 0 ≤ s.cyc) (hR : ZRest s.rest) (bb off cap : Nat) (hB : BytesAt w bb off gBytes) (hne : bb ≠ B) :
    Calls Tryz.prog 9 #[.pointer (some ⟨B, 0, none⟩), .slice (some ⟨bb, off, none⟩) 7 cap] w fun e w' => ∃ g cap, e = .returned (.slice (some ⟨g, 0, none⟩) 29 cap) ∧
      BytesAt w' g 0 (43 :: frameOf 0 (regText s)) ∧ w.heap.size ≤ g ∧ w.grownBy w' (some B) := by
  obtain ⟨h1, h2⟩ := zstub_scan hc hR
  have F := stubFeedG_any hc hcy false [] h2 h1 bb off cap hB hne
  generalize frameOf 0 (regText s) = L at *
  clear h1 h2 hc hB
  go_enter Tryz.func9, Tryz.ntmps9
  go_wp2_with (first | (go_at_call 19; refine F.mono ?_; rintro e w2 ⟨g, cap2, rfl, H⟩; have HH := Hid.mk' H; clear H F))
  go_ret
  exact ⟨g, cap2, rfl, HH.out⟩
end

end Go.Proofs.YtcgjliflnnklnabGreat
