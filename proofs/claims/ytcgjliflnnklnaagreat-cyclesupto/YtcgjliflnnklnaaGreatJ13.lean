/-
  Joined texts.
-/
import Derived.Test.YtcgjliflnnklnaaGreatJ10
import Derived.Test.YtcgjliflnnklnaaGreatJ11
import Derived.Test.YtcgjliflnnklnaaGreatCpXz
import Derived.Test.YtcgjliflnnklnaaGreatCpHz
import Derived.Test.YtcgjliflnnklnaaGreatCpRz
import Derived.Test.YtcgjliflnnklnaaGreatCpSz
import Derived.Test.YtcgjliflnnklnaaGreatCpWz
namespace Go.Proofs.YtcgjliflnnklnaaGreat
open Go.RowKit

/-
  The table of opcodes, walked.
-/
section
set_option maxRecDepth 100000
set_option maxHeartbeats 4000000

def dtab : List Value := (List.range 256).flatMap fun c => [.int .u8 (decodeI c).1, .int .u8 (decodeI c).2]
theorem dtab_one : dtab.toArray.all (·.oneCell') = true := all_oneCell_toArray (by
  intro v hv
  simp only [dtab, List.mem_flatMap] at hv
  obtain ⟨c, -, hc⟩ := hv
  simp only [List.mem_cons, List.not_mem_nil, or_false] at hc
  rcases hc with rfl | rfl <;> rfl)

theorem pairs_at {α : Type} (f g : Nat → α) : ∀ (n i : Nat), i < n → ((List.range n).flatMap fun c => [f c, g c])[i * 2]? = some (f i) ∧ ((List.range n).flatMap fun c => [f c, g c])[i * 2 + 1]? = some (g i)
  | 0, i, h => absurd h (Nat.not_lt_zero _)
  | n + 1, i, h => by
    have hl : ((List.range n).flatMap fun c => [f c, g c]).length = n * 2 := by
      rw [List.length_flatMap]; simp [List.map_const', List.sum_replicate_nat]
    rw [List.range_succ, List.flatMap_append]
    by_cases e : i < n
    · rw [List.getElem?_append_left (by omega), List.getElem?_append_left (by omega)]; exact pairs_at f g n i e
    · have e : i = n := by omega
      subst e
      rw [List.getElem?_append_right (by omega), List.getElem?_append_right (by omega), hl]
      simp

theorem wpList_val {P : Program} {ops : Array Oper} {rest : List Oper} {op : Oper} {a : Go.Act} {w : World} {Q : Exit → Go.Act → World → Prop} (V : Value) (hgd : op.guard = none)
    (hv : (execOp a.eval op).run P w = .ok (.value V) w) (h : wpList P ops Q rest (a.put op.dst V) w) : wpList P ops Q (op :: rest) a w :=
  wpList_plain hgd fun K hK => by
    unfold Oper.wp
    rw [hv]
    exact hK _ _ h

theorem wpList_run {P : Program} {ops : Array Oper} {rest : List Oper} {op : Oper} {a : Go.Act} {w w' : World} {Q : Exit → Go.Act → World → Prop} (V : Value) (hgd : op.guard = none)
    (hv : (execOp a.eval op).run P w = .ok (.value V) w') (h : wpList P ops Q rest (a.put op.dst V) w') : wpList P ops Q (op :: rest) a w :=
  wpList_plain hgd fun K hK => by
    unfold Oper.wp
    rw [hv]
    exact hK _ _ h

def mk2 (d : Nat × Int × Int) : Oper := ⟨some d.1, .build 101 #[(0, .const (.int .u8 d.2.1)), (1, .const (.int .u8 d.2.2))], 101, "opcodes.go:10", #[], none⟩
def step2 (a : Go.Act) (d : Nat × Int × Int) : Go.Act := a.put (some d.1) (.agg #[.int .u8 d.2.1, .int .u8 d.2.2])

theorem mk2_run (d : Nat × Int × Int) (a : Go.Act) (w : World) : (execOp a.eval (mk2 d)).run Tryz.prog w = .ok (.value (.agg #[.int .u8 d.2.1, .int .u8 d.2.2])) w := by
  obtain ⟨k, m, n⟩ := d
  kernel_rfl

theorem wpList_all2 {ops : Array Oper} {Q : Exit → Go.Act → World → Prop} {w : World} (rest : List Oper) : ∀ (l : List (Nat × Int × Int)) (a : Go.Act),
    wpList Tryz.prog ops Q rest (l.foldl step2 a) w → wpList Tryz.prog ops Q (l.map mk2 ++ rest) a w
  | [], _, h => h
  | d :: l, a, h => wpList_val (op := mk2 d) (.agg #[.int .u8 d.2.1, .int .u8 d.2.2]) rfl (mk2_run d a w) (wpList_all2 rest l (step2 a d) h)

def ddata : List (Nat × Int × Int) := [(4, 0, 3), (5, 0, 4), (6, 0, 5), (7, 0, 7), (8, 0, 8), (9, 0, 9), (10, 0, 10), (11, 0, 11), (12, 1, 3), (13, 1, 4), (14, 1, 5), (15, 1, 7), (16, 1, 8), (17, 1, 9), (18, 1, 10), (19, 1, 11), (20, 2, 2), (21, 2, 4), (22, 2, 5), (23, 2, 7), (24, 2, 8), (25, 11, 4), (26, 11, 7), (27, 17, 3), (28, 17, 4), (29, 17, 5), (30, 17, 7), (31, 17, 8), (32, 17, 9), (33, 17, 10), (34, 17, 11), (35, 18, 3), (36, 18, 4), (37, 18, 7), (38, 19, 3), (39, 19, 4), (40, 19, 7), (41, 20, 4), (42, 20, 5), (43, 20, 7), (44, 20, 8), (45, 23, 3), (46, 23, 4), (47, 23, 5), (48, 23, 7), (49, 23, 8), (50, 23, 9), (51, 23, 10), (52, 23, 11), (53, 24, 4), (54, 24, 5), (55, 24, 7), (56, 24, 8), (57, 27, 13), (58, 27, 14), (59, 29, 3), (60, 29, 4), (61, 29, 5), (62, 29, 7), (63, 29, 8), (64, 29, 9), (65, 29, 10), (66, 29, 11), (67, 30, 3), (68, 30, 4), (69, 30, 6), (70, 30, 7), (71, 30, 9), (72, 31, 3), (73, 31, 4), (74, 31, 5), (75, 31, 7), (76, 31, 8), (77, 32, 2), (78, 32, 4), (79, 32, 5), (80, 32, 7), (81, 32, 8), (82, 34, 3), (83, 34, 4), (84, 34, 5), (85, 34, 7), (86, 34, 8), (87, 34, 9), (88, 34, 10), (89, 34, 11), (90, 39, 2), (91, 39, 4), (92, 39, 5), (93, 39, 7), (94, 39, 8), (95, 40, 2), (96, 40, 4), (97, 40, 5), (98, 40, 7), (99, 40, 8), (100, 43, 3), (101, 43, 4), (102, 43, 5), (103, 43, 7), (104, 43, 8), (105, 43, 9), (106, 43, 10), (107, 43, 11), (108, 47, 4), (109, 47, 5), (110, 47, 7), (111, 47, 8), (112, 47, 9), (113, 47, 10), (114, 47, 11), (115, 48, 4), (116, 48, 6), (117, 48, 7), (118, 49, 4), (119, 49, 5), (120, 49, 7), (121, 3, 12), (122, 4, 12), (123, 5, 12), (124, 6, 12), (125, 7, 12), (126, 8, 12), (127, 9, 12), (128, 10, 12), (129, 12, 19), (130, 13, 1), (131, 14, 1), (132, 15, 1), (133, 16, 1), (134, 21, 1), (135, 22, 1), (136, 25, 1), (137, 26, 1), (138, 28, 15), (139, 33, 1), (140, 35, 17), (141, 36, 17), (142, 37, 18), (143, 38, 18), (144, 41, 22), (145, 42, 16), (146, 44, 1), (147, 45, 1), (148, 46, 1), (149, 50, 1), (150, 51, 1), (151, 52, 1), (152, 53, 1), (153, 54, 1), (154, 55, 1)]

theorem wpList_split {ops : Array Oper} {Q : Exit → Go.Act → World → Prop} {w : World} {full : List Oper} {a : Go.Act} (l : List (Nat × Int × Int)) (e : full = l.map mk2 ++ full.drop 151)
    (h : wpList Tryz.prog ops Q (full.drop 151) (l.foldl step2 a) w) : wpList Tryz.prog ops Q full a w := by
  rw [e]; exact wpList_all2 _ l a h

theorem wpList_three {P : Program} {ops : Array Oper} {r : List Oper} {a : Go.Act} {w : World} {Q : Exit → Go.Act → World → Prop} (d : Oper) (e : r = [r.getD 0 d, r.getD 1 d, r.getD 2 d])
    (h : wpList P ops Q [r.getD 0 d, r.getD 1 d, r.getD 2 d] a w) : wpList P ops Q r a w := by
  rw [e]; exact h

/-- The region that builds the table, at once. -/
theorem wp_table {id : Nat} {ops : Array Oper} {Q : Exit → Go.Act → World → Prop} {a a1 a2 : Go.Act} {w w1 : World} {p V : Value} {z : Array Value} {tt : TypeId} (d : Oper)
    (e : ops.toList = ddata.map mk2 ++ ops.toList.drop 151) (e3 : ops.toList.drop 151 = [(ops.toList.drop 151).getD 0 d, (ops.toList.drop 151).getD 1 d, (ops.toList.drop 151).getD 2 d])
    (g1 : ((ops.toList.drop 151).getD 0 d).guard = none) (v1 : (execOp (ddata.foldl step2 a).eval ((ops.toList.drop 151).getD 0 d)).run Tryz.prog w = .ok (.value V) w)
    (s1 : (ddata.foldl step2 a).put ((ops.toList.drop 151).getD 0 d).dst V = a1)
    (g2 : ((ops.toList.drop 151).getD 1 d).guard = none) (v2 : (execOp a1.eval ((ops.toList.drop 151).getD 1 d)).run Tryz.prog w = .ok (.value p) (w.alloc (.cells z tt)))
    (s2 : a1.put ((ops.toList.drop 151).getD 1 d).dst p = a2)
    (g3 : ((ops.toList.drop 151).getD 2 d).guard = none) (ty : TypeId) (x y : Operand) (o3 : ((ops.toList.drop 151).getD 2 d).op = .store ty x y)
    (hx : a2.eval x = .pointer (some ⟨w.heap.size, 0, none⟩)) (hy : a2.eval y = .agg dtab.toArray) (hz : z.size = dtab.length) (hi : (Tryz.prog.info? ty).map (·.size) = some dtab.toArray.size)
    (s3 : a2.put ((ops.toList.drop 151).getD 2 d).dst undef = a2) (_ : w1 = w)
    (h : ∀ w2, w2.rangeAt w.heap.size 0 dtab → Below w.heap.size w w2 → Q .normal a2 w2) : (Code.region id ops false).wp Tryz.prog Q a w := by
  refine wp_region_list (wpList_split ddata e ?_)
  refine wpList_three d e3 ?_
  refine wpList_val V g1 v1 ?_
  rw [s1]
  refine wpList_run p g2 v2 ?_
  rw [s2]
  refine wpList_fresh g3 ty x y o3 z tt dtab hx hy hz hi dtab_one ?_
  intro w2 h1 h2
  rw [s3]
  exact h w2 h1 h2

theorem decode_any (i : Nat) (hi : i < 256) (w : World) :
    Calls Tryz.prog 106 #[.int .u8 i] w fun e w' => e = .returned (.agg #[.int .u8 (decodeI i).1, .int .u8 (decodeI i).2]) ∧ Below w.heap.size w w' := by
  have hi' : (i : Int) < 256 := by omega
  have hp := pairs_at (fun c => Value.int .u8 (decodeI c).1) (fun c => Value.int .u8 (decodeI c).2) 256 i hi
  have hp' : Hid (dtab[i * 2]? = some (.int .u8 (decodeI i).1) ∧ dtab[i * 2 + 1]? = some (.int .u8 (decodeI i).2)) := hp
  clear hp
  generalize (decodeI i).1 = x at *
  generalize (decodeI i).2 = y at *
  go_enter Tryz.func106, Tryz.ntmps106
  iterate 10 go_step
  refine wp_table (w1 := _) (V := .agg dtab.toArray) (p := .pointer (some ⟨(w.alloc (.cells #[.int .u8 0, .int .u8 0] 101)).heap.size, 0, none⟩)) (z := (List.replicate 512 (Value.int .u8 0)).toArray) (tt := 250) (a1 := (⟨#[.int .u8 i, undef, .pointer (some ⟨w.heap.size, 0, none⟩), undef, .agg #[.int .u8 0, .int .u8 3], .agg #[.int .u8 0, .int .u8 4], .agg #[.int .u8 0, .int .u8 5], .agg #[.int .u8 0, .int .u8 7], .agg #[.int .u8 0, .int .u8 8], .agg #[.int .u8 0, .int .u8 9], .agg #[.int .u8 0, .int .u8 10], .agg #[.int .u8 0, .int .u8 11], .agg #[.int .u8 1, .int .u8 3], .agg #[.int .u8 1, .int .u8 4], .agg #[.int .u8 1, .int .u8 5], .agg #[.int .u8 1, .int .u8 7], .agg #[.int .u8 1, .int .u8 8], .agg #[.int .u8 1, .int .u8 9], .agg #[.int .u8 1, .int .u8 10], .agg #[.int .u8 1, .int .u8 11], .agg #[.int .u8 2, .int .u8 2], .agg #[.int .u8 2, .int .u8 4], .agg #[.int .u8 2, .int .u8 5], .agg #[.int .u8 2, .int .u8 7], .agg #[.int .u8 2, .int .u8 8], .agg #[.int .u8 11, .int .u8 4], .agg #[.int .u8 11, .int .u8 7], .agg #[.int .u8 17, .int .u8 3], .agg #[.int .u8 17, .int .u8 4], .agg #[.int .u8 17, .int .u8 5], .agg #[.int .u8 17, .int .u8 7], .agg #[.int .u8 17, .int .u8 8], .agg #[.int .u8 17, .int .u8 9], .agg #[.int .u8 17, .int .u8 10], .agg #[.int .u8 17, .int .u8 11], .agg #[.int .u8 18, .int .u8 3], .agg #[.int .u8 18, .int .u8 4], .agg #[.int .u8 18, .int .u8 7], .agg #[.int .u8 19, .int .u8 3], .agg #[.int .u8 19, .int .u8 4], .agg #[.int .u8 19, .int .u8 7], .agg #[.int .u8 20, .int .u8 4], .agg #[.int .u8 20, .int .u8 5], .agg #[.int .u8 20, .int .u8 7], .agg #[.int .u8 20, .int .u8 8], .agg #[.int .u8 23, .int .u8 3], .agg #[.int .u8 23, .int .u8 4], .agg #[.int .u8 23, .int .u8 5], .agg #[.int .u8 23, .int .u8 7], .agg #[.int .u8 23, .int .u8 8], .agg #[.int .u8 23, .int .u8 9], .agg #[.int .u8 23, .int .u8 10], .agg #[.int .u8 23, .int .u8 11], .agg #[.int .u8 24, .int .u8 4], .agg #[.int .u8 24, .int .u8 5], .agg #[.int .u8 24, .int .u8 7], .agg #[.int .u8 24, .int .u8 8], .agg #[.int .u8 27, .int .u8 13], .agg #[.int .u8 27, .int .u8 14], .agg #[.int .u8 29, .int .u8 3], .agg #[.int .u8 29, .int .u8 4], .agg #[.int .u8 29, .int .u8 5], .agg #[.int .u8 29, .int .u8 7], .agg #[.int .u8 29, .int .u8 8], .agg #[.int .u8 29, .int .u8 9], .agg #[.int .u8 29, .int .u8 10], .agg #[.int .u8 29, .int .u8 11], .agg #[.int .u8 30, .int .u8 3], .agg #[.int .u8 30, .int .u8 4], .agg #[.int .u8 30, .int .u8 6], .agg #[.int .u8 30, .int .u8 7], .agg #[.int .u8 30, .int .u8 9], .agg #[.int .u8 31, .int .u8 3], .agg #[.int .u8 31, .int .u8 4], .agg #[.int .u8 31, .int .u8 5], .agg #[.int .u8 31, .int .u8 7], .agg #[.int .u8 31, .int .u8 8], .agg #[.int .u8 32, .int .u8 2], .agg #[.int .u8 32, .int .u8 4], .agg #[.int .u8 32, .int .u8 5], .agg #[.int .u8 32, .int .u8 7], .agg #[.int .u8 32, .int .u8 8], .agg #[.int .u8 34, .int .u8 3], .agg #[.int .u8 34, .int .u8 4], .agg #[.int .u8 34, .int .u8 5], .agg #[.int .u8 34, .int .u8 7], .agg #[.int .u8 34, .int .u8 8], .agg #[.int .u8 34, .int .u8 9], .agg #[.int .u8 34, .int .u8 10], .agg #[.int .u8 34, .int .u8 11], .agg #[.int .u8 39, .int .u8 2], .agg #[.int .u8 39, .int .u8 4], .agg #[.int .u8 39, .int .u8 5], .agg #[.int .u8 39, .int .u8 7], .agg #[.int .u8 39, .int .u8 8], .agg #[.int .u8 40, .int .u8 2], .agg #[.int .u8 40, .int .u8 4], .agg #[.int .u8 40, .int .u8 5], .agg #[.int .u8 40, .int .u8 7], .agg #[.int .u8 40, .int .u8 8], .agg #[.int .u8 43, .int .u8 3], .agg #[.int .u8 43, .int .u8 4], .agg #[.int .u8 43, .int .u8 5], .agg #[.int .u8 43, .int .u8 7], .agg #[.int .u8 43, .int .u8 8], .agg #[.int .u8 43, .int .u8 9], .agg #[.int .u8 43, .int .u8 10], .agg #[.int .u8 43, .int .u8 11], .agg #[.int .u8 47, .int .u8 4], .agg #[.int .u8 47, .int .u8 5], .agg #[.int .u8 47, .int .u8 7], .agg #[.int .u8 47, .int .u8 8], .agg #[.int .u8 47, .int .u8 9], .agg #[.int .u8 47, .int .u8 10], .agg #[.int .u8 47, .int .u8 11], .agg #[.int .u8 48, .int .u8 4], .agg #[.int .u8 48, .int .u8 6], .agg #[.int .u8 48, .int .u8 7], .agg #[.int .u8 49, .int .u8 4], .agg #[.int .u8 49, .int .u8 5], .agg #[.int .u8 49, .int .u8 7], .agg #[.int .u8 3, .int .u8 12], .agg #[.int .u8 4, .int .u8 12], .agg #[.int .u8 5, .int .u8 12], .agg #[.int .u8 6, .int .u8 12], .agg #[.int .u8 7, .int .u8 12], .agg #[.int .u8 8, .int .u8 12], .agg #[.int .u8 9, .int .u8 12], .agg #[.int .u8 10, .int .u8 12], .agg #[.int .u8 12, .int .u8 19], .agg #[.int .u8 13, .int .u8 1], .agg #[.int .u8 14, .int .u8 1], .agg #[.int .u8 15, .int .u8 1], .agg #[.int .u8 16, .int .u8 1], .agg #[.int .u8 21, .int .u8 1], .agg #[.int .u8 22, .int .u8 1], .agg #[.int .u8 25, .int .u8 1], .agg #[.int .u8 26, .int .u8 1], .agg #[.int .u8 28, .int .u8 15], .agg #[.int .u8 33, .int .u8 1], .agg #[.int .u8 35, .int .u8 17], .agg #[.int .u8 36, .int .u8 17], .agg #[.int .u8 37, .int .u8 18], .agg #[.int .u8 38, .int .u8 18], .agg #[.int .u8 41, .int .u8 22], .agg #[.int .u8 42, .int .u8 16], .agg #[.int .u8 44, .int .u8 1], .agg #[.int .u8 45, .int .u8 1], .agg #[.int .u8 46, .int .u8 1], .agg #[.int .u8 50, .int .u8 1], .agg #[.int .u8 51, .int .u8 1], .agg #[.int .u8 52, .int .u8 1], .agg #[.int .u8 53, .int .u8 1], .agg #[.int .u8 54, .int .u8 1], .agg #[.int .u8 55, .int .u8 1], .agg dtab.toArray, undef, undef, undef], []⟩)) (a2 := (⟨#[.int .u8 i, undef, .pointer (some ⟨w.heap.size, 0, none⟩), .pointer (some ⟨(w.alloc (.cells #[.int .u8 0, .int .u8 0] 101)).heap.size, 0, none⟩), .agg #[.int .u8 0, .int .u8 3], .agg #[.int .u8 0, .int .u8 4], .agg #[.int .u8 0, .int .u8 5], .agg #[.int .u8 0, .int .u8 7], .agg #[.int .u8 0, .int .u8 8], .agg #[.int .u8 0, .int .u8 9], .agg #[.int .u8 0, .int .u8 10], .agg #[.int .u8 0, .int .u8 11], .agg #[.int .u8 1, .int .u8 3], .agg #[.int .u8 1, .int .u8 4], .agg #[.int .u8 1, .int .u8 5], .agg #[.int .u8 1, .int .u8 7], .agg #[.int .u8 1, .int .u8 8], .agg #[.int .u8 1, .int .u8 9], .agg #[.int .u8 1, .int .u8 10], .agg #[.int .u8 1, .int .u8 11], .agg #[.int .u8 2, .int .u8 2], .agg #[.int .u8 2, .int .u8 4], .agg #[.int .u8 2, .int .u8 5], .agg #[.int .u8 2, .int .u8 7], .agg #[.int .u8 2, .int .u8 8], .agg #[.int .u8 11, .int .u8 4], .agg #[.int .u8 11, .int .u8 7], .agg #[.int .u8 17, .int .u8 3], .agg #[.int .u8 17, .int .u8 4], .agg #[.int .u8 17, .int .u8 5], .agg #[.int .u8 17, .int .u8 7], .agg #[.int .u8 17, .int .u8 8], .agg #[.int .u8 17, .int .u8 9], .agg #[.int .u8 17, .int .u8 10], .agg #[.int .u8 17, .int .u8 11], .agg #[.int .u8 18, .int .u8 3], .agg #[.int .u8 18, .int .u8 4], .agg #[.int .u8 18, .int .u8 7], .agg #[.int .u8 19, .int .u8 3], .agg #[.int .u8 19, .int .u8 4], .agg #[.int .u8 19, .int .u8 7], .agg #[.int .u8 20, .int .u8 4], .agg #[.int .u8 20, .int .u8 5], .agg #[.int .u8 20, .int .u8 7], .agg #[.int .u8 20, .int .u8 8], .agg #[.int .u8 23, .int .u8 3], .agg #[.int .u8 23, .int .u8 4], .agg #[.int .u8 23, .int .u8 5], .agg #[.int .u8 23, .int .u8 7], .agg #[.int .u8 23, .int .u8 8], .agg #[.int .u8 23, .int .u8 9], .agg #[.int .u8 23, .int .u8 10], .agg #[.int .u8 23, .int .u8 11], .agg #[.int .u8 24, .int .u8 4], .agg #[.int .u8 24, .int .u8 5], .agg #[.int .u8 24, .int .u8 7], .agg #[.int .u8 24, .int .u8 8], .agg #[.int .u8 27, .int .u8 13], .agg #[.int .u8 27, .int .u8 14], .agg #[.int .u8 29, .int .u8 3], .agg #[.int .u8 29, .int .u8 4], .agg #[.int .u8 29, .int .u8 5], .agg #[.int .u8 29, .int .u8 7], .agg #[.int .u8 29, .int .u8 8], .agg #[.int .u8 29, .int .u8 9], .agg #[.int .u8 29, .int .u8 10], .agg #[.int .u8 29, .int .u8 11], .agg #[.int .u8 30, .int .u8 3], .agg #[.int .u8 30, .int .u8 4], .agg #[.int .u8 30, .int .u8 6], .agg #[.int .u8 30, .int .u8 7], .agg #[.int .u8 30, .int .u8 9], .agg #[.int .u8 31, .int .u8 3], .agg #[.int .u8 31, .int .u8 4], .agg #[.int .u8 31, .int .u8 5], .agg #[.int .u8 31, .int .u8 7], .agg #[.int .u8 31, .int .u8 8], .agg #[.int .u8 32, .int .u8 2], .agg #[.int .u8 32, .int .u8 4], .agg #[.int .u8 32, .int .u8 5], .agg #[.int .u8 32, .int .u8 7], .agg #[.int .u8 32, .int .u8 8], .agg #[.int .u8 34, .int .u8 3], .agg #[.int .u8 34, .int .u8 4], .agg #[.int .u8 34, .int .u8 5], .agg #[.int .u8 34, .int .u8 7], .agg #[.int .u8 34, .int .u8 8], .agg #[.int .u8 34, .int .u8 9], .agg #[.int .u8 34, .int .u8 10], .agg #[.int .u8 34, .int .u8 11], .agg #[.int .u8 39, .int .u8 2], .agg #[.int .u8 39, .int .u8 4], .agg #[.int .u8 39, .int .u8 5], .agg #[.int .u8 39, .int .u8 7], .agg #[.int .u8 39, .int .u8 8], .agg #[.int .u8 40, .int .u8 2], .agg #[.int .u8 40, .int .u8 4], .agg #[.int .u8 40, .int .u8 5], .agg #[.int .u8 40, .int .u8 7], .agg #[.int .u8 40, .int .u8 8], .agg #[.int .u8 43, .int .u8 3], .agg #[.int .u8 43, .int .u8 4], .agg #[.int .u8 43, .int .u8 5], .agg #[.int .u8 43, .int .u8 7], .agg #[.int .u8 43, .int .u8 8], .agg #[.int .u8 43, .int .u8 9], .agg #[.int .u8 43, .int .u8 10], .agg #[.int .u8 43, .int .u8 11], .agg #[.int .u8 47, .int .u8 4], .agg #[.int .u8 47, .int .u8 5], .agg #[.int .u8 47, .int .u8 7], .agg #[.int .u8 47, .int .u8 8], .agg #[.int .u8 47, .int .u8 9], .agg #[.int .u8 47, .int .u8 10], .agg #[.int .u8 47, .int .u8 11], .agg #[.int .u8 48, .int .u8 4], .agg #[.int .u8 48, .int .u8 6], .agg #[.int .u8 48, .int .u8 7], .agg #[.int .u8 49, .int .u8 4], .agg #[.int .u8 49, .int .u8 5], .agg #[.int .u8 49, .int .u8 7], .agg #[.int .u8 3, .int .u8 12], .agg #[.int .u8 4, .int .u8 12], .agg #[.int .u8 5, .int .u8 12], .agg #[.int .u8 6, .int .u8 12], .agg #[.int .u8 7, .int .u8 12], .agg #[.int .u8 8, .int .u8 12], .agg #[.int .u8 9, .int .u8 12], .agg #[.int .u8 10, .int .u8 12], .agg #[.int .u8 12, .int .u8 19], .agg #[.int .u8 13, .int .u8 1], .agg #[.int .u8 14, .int .u8 1], .agg #[.int .u8 15, .int .u8 1], .agg #[.int .u8 16, .int .u8 1], .agg #[.int .u8 21, .int .u8 1], .agg #[.int .u8 22, .int .u8 1], .agg #[.int .u8 25, .int .u8 1], .agg #[.int .u8 26, .int .u8 1], .agg #[.int .u8 28, .int .u8 15], .agg #[.int .u8 33, .int .u8 1], .agg #[.int .u8 35, .int .u8 17], .agg #[.int .u8 36, .int .u8 17], .agg #[.int .u8 37, .int .u8 18], .agg #[.int .u8 38, .int .u8 18], .agg #[.int .u8 41, .int .u8 22], .agg #[.int .u8 42, .int .u8 16], .agg #[.int .u8 44, .int .u8 1], .agg #[.int .u8 45, .int .u8 1], .agg #[.int .u8 46, .int .u8 1], .agg #[.int .u8 50, .int .u8 1], .agg #[.int .u8 51, .int .u8 1], .agg #[.int .u8 52, .int .u8 1], .agg #[.int .u8 53, .int .u8 1], .agg #[.int .u8 54, .int .u8 1], .agg #[.int .u8 55, .int .u8 1], .agg dtab.toArray, undef, undef, undef], []⟩)) ⟨none, .alloc 0, 0, "", #[], none⟩ (by kernel_rfl) (by kernel_rfl) (by kernel_rfl) (by kernel_rfl) (by kernel_rfl) (by kernel_rfl) (by kernel_rfl) (by kernel_rfl) (by kernel_rfl) 250 (.tmp 3) (.tmp 155) (by kernel_rfl) (by kernel_rfl) (by kernel_rfl) (by kernel_rfl) (by kernel_rfl) (by kernel_rfl) rfl ?_
  intro w2 hr hB
  have k1 := hr _ _ hp'.out.1
  have k2 := hr _ _ hp'.out.2
  have z1 := hB.cell (p := ⟨w.heap.size, 0, none⟩) (by simp)
  have z2 := hB.cell (p := ⟨w.heap.size, 1, none⟩) (by simp)
  have z3 := hB.frozen (p := ⟨w.heap.size, 0, none⟩) (by simp)
  have z4 := hB.frozen (p := ⟨w.heap.size, 1, none⟩) (by simp)
  have zs : w.heap.size + 1 ≤ w2.heap.size := by have := hB.size; simp at this; omega
  simp at k1 k2 z1 z2 z3 z4
  have hB' : Below w.heap.size w w2 := ((Below.refl _ _).alloc (Nat.le_refl _) _).trans (hB.mono (by simp))
  go_wp2
  refine bodyPost_ret (v := .agg #[.int .u8 x, .int .u8 y]) (by simp [results, Tryz.results106, go_sem, z1, z2]) rfl ⟨rfl, ?_⟩
  exact (hB'.setCell (Nat.le_refl _) _).setCell (Nat.le_refl _) _
end

/-
  Ways into an interrupt: walked.
-/
section
set_option maxRecDepth 100000
set_option maxHeartbeats 1000000
variable {B : Nat} {s : PC} {w0 w : World}

theorem enterByBreak_1 (h : Tn B s w0 w) (hk : s.step = 1) :
    Calls Tryz.prog 129 #[.pointer (some ⟨B, 0, none⟩)] w fun e w' => e = .returned (s.enterByBreak).2.val ∧ Tn B (s.enterByBreak).1 w0 w' := by
  have c_step := h.c.cstep; obtain ⟨l_step, u_step⟩ := h.c.rstep; have c_pc := h.c.cpc; obtain ⟨l_pc, u_pc⟩ := h.c.rpc; have c_p := h.c.cp; obtain ⟨l_p, u_p⟩ := h.c.rp
  have hu : Hid (s.enterByBreak = s.readNext) := by show _ = _; unfold PC.enterByBreak; rw [if_pos hk]
  rw [hu.out]
  rw [hk] at c_step
  obtain ⟨hlt, hsz, n0, m0, fz0, -⟩ := h.pre
  go_enter Tryz.func129, Tryz.ntmps129
  go_wp2_with (first | (go_at_call 169; refine Ck.go w0 w.heap.size kq6 (fun h => readNext_any h) ?_; intro w1 k; intros; have c_pc := k.c.cpc; obtain ⟨l_pc, u_pc⟩ := k.c.rpc; (try simp only [BusI.val])))
  all_goals (have hr := Tryz.results129; exact bodyPost_ret brq rfl ⟨rfl, tq1⟩)

theorem enterByBreak_d (h : Tn B s w0 w) (hk1 : (s.step == 1) = false) :
    Calls Tryz.prog 129 #[.pointer (some ⟨B, 0, none⟩)] w fun e w' => e = .returned (s.enterByBreak).2.val ∧ Tn B (s.enterByBreak).1 w0 w' := by
  have c_step := h.c.cstep; obtain ⟨l_step, u_step⟩ := h.c.rstep; have c_pc := h.c.cpc; obtain ⟨l_pc, u_pc⟩ := h.c.rpc; have c_p := h.c.cp; obtain ⟨l_p, u_p⟩ := h.c.rp
  have hu : Hid (s.enterByBreak = s.enter 65534 (bits .or .u8 s.p 16)) := by show _ = _; unfold PC.enterByBreak; rw [if_neg (by simpa using hk1)]
  rw [hu.out]
  obtain ⟨hlt, hsz, n0, m0, fz0, -⟩ := h.pre
  go_enter Tryz.func129, Tryz.ntmps129
  go_wp2_with (first | (go_at_call 184; refine Ck.go w0 w.heap.size kq6 (fun h => enter_any h _ _ nq5 nq5 (by first | assumption | omega | exact (bit_r _ _ _).1) (by first | assumption | omega | exact (bit_r _ _ _).2)) ?_; intro w1 k; intros; have c_pc := k.c.cpc; obtain ⟨l_pc, u_pc⟩ := k.c.rpc; (try simp only [BusI.val])))
  all_goals (have hr := Tryz.results129; exact bodyPost_ret brq rfl ⟨rfl, tq1⟩)

theorem enterByBreak_any (h : Tn B s w0 w) :
    Calls Tryz.prog 129 #[.pointer (some ⟨B, 0, none⟩)] w fun e w' => e = .returned (s.enterByBreak).2.val ∧ Tn B (s.enterByBreak).1 w0 w' := by
  by_cases e1 : s.step = 1
  · exact enterByBreak_1 h  e1
  exact enterByBreak_d h  (by simpa using e1)

theorem enterByIRQ_1 (h : Tn B s w0 w) (hk : s.step = 1) :
    Calls Tryz.prog 131 #[.pointer (some ⟨B, 0, none⟩)] w fun e w' => e = .returned (s.enterByIRQ).2.val ∧ Tn B (s.enterByIRQ).1 w0 w' := by
  have c_step := h.c.cstep; obtain ⟨l_step, u_step⟩ := h.c.rstep; have c_pc := h.c.cpc; obtain ⟨l_pc, u_pc⟩ := h.c.rpc; have c_p := h.c.cp; obtain ⟨l_p, u_p⟩ := h.c.rp
  have hu : Hid (s.enterByIRQ = s.read s.pc) := by show _ = _; unfold PC.enterByIRQ; rw [if_pos hk]
  rw [hu.out]
  rw [hk] at c_step
  obtain ⟨hlt, hsz, n0, m0, fz0, -⟩ := h.pre
  go_enter Tryz.func131, Tryz.ntmps131
  go_wp2_with (first | (go_at_call 103; refine Ck.go w0 w.heap.size kq6 (fun h => read_any h _ nq5 nq5) ?_; intro w1 k; intros; have c_pc := k.c.cpc; obtain ⟨l_pc, u_pc⟩ := k.c.rpc; (try simp only [BusI.val])))
  all_goals (try go_region_with (first | (go_at_call 103; refine Ck.go w0 w.heap.size kq6 (fun h => read_any h _ nq5 nq5) ?_; intro w1 k; intros; have c_pc := k.c.cpc; obtain ⟨l_pc, u_pc⟩ := k.c.rpc; (try simp only [BusI.val]))))
  all_goals (try go_wp2_with (first | (go_at_call 103; refine Ck.go w0 w.heap.size kq6 (fun h => read_any h _ nq5 nq5) ?_; intro w1 k; intros; have c_pc := k.c.cpc; obtain ⟨l_pc, u_pc⟩ := k.c.rpc; (try simp only [BusI.val]))))
  all_goals (have hr := Tryz.results131; exact bodyPost_ret brq rfl ⟨rfl, tq1⟩)

theorem enterByIRQ_d (h : Tn B s w0 w) (hk1 : (s.step == 1) = false) :
    Calls Tryz.prog 131 #[.pointer (some ⟨B, 0, none⟩)] w fun e w' => e = .returned (s.enterByIRQ).2.val ∧ Tn B (s.enterByIRQ).1 w0 w' := by
  have c_step := h.c.cstep; obtain ⟨l_step, u_step⟩ := h.c.rstep; have c_pc := h.c.cpc; obtain ⟨l_pc, u_pc⟩ := h.c.rpc; have c_p := h.c.cp; obtain ⟨l_p, u_p⟩ := h.c.rp
  have hu : Hid (s.enterByIRQ = s.enter 65534 (s.p)) := by show _ = _; unfold PC.enterByIRQ; rw [if_neg (by simpa using hk1)]
  rw [hu.out]
  obtain ⟨hlt, hsz, n0, m0, fz0, -⟩ := h.pre
  go_enter Tryz.func131, Tryz.ntmps131
  go_wp2_with (first | (go_at_call 184; refine Ck.go w0 w.heap.size kq6 (fun h => enter_any h _ _ nq5 nq5 (by first | assumption | omega | exact (bit_r _ _ _).1) (by first | assumption | omega | exact (bit_r _ _ _).2)) ?_; intro w1 k; intros; have c_pc := k.c.cpc; obtain ⟨l_pc, u_pc⟩ := k.c.rpc; (try simp only [BusI.val])))
  all_goals (have hr := Tryz.results131; exact bodyPost_ret brq rfl ⟨rfl, tq1⟩)

theorem enterByIRQ_any (h : Tn B s w0 w) :
    Calls Tryz.prog 131 #[.pointer (some ⟨B, 0, none⟩)] w fun e w' => e = .returned (s.enterByIRQ).2.val ∧ Tn B (s.enterByIRQ).1 w0 w' := by
  by_cases e1 : s.step = 1
  · exact enterByIRQ_1 h  e1
  exact enterByIRQ_d h  (by simpa using e1)

theorem enterByNMI_1 (h : Tn B s w0 w) (hk : s.step = 1) :
    Calls Tryz.prog 130 #[.pointer (some ⟨B, 0, none⟩)] w fun e w' => e = .returned (s.enterByNMI).2.val ∧ Tn B (s.enterByNMI).1 w0 w' := by
  have c_step := h.c.cstep; obtain ⟨l_step, u_step⟩ := h.c.rstep; have c_pc := h.c.cpc; obtain ⟨l_pc, u_pc⟩ := h.c.rpc; have c_p := h.c.cp; obtain ⟨l_p, u_p⟩ := h.c.rp
  have hu : Hid (s.enterByNMI = s.read s.pc) := by show _ = _; unfold PC.enterByNMI; rw [if_pos hk]
  rw [hu.out]
  rw [hk] at c_step
  obtain ⟨hlt, hsz, n0, m0, fz0, -⟩ := h.pre
  go_enter Tryz.func130, Tryz.ntmps130
  go_wp2_with (first | (go_at_call 103; refine Ck.go w0 w.heap.size kq6 (fun h => read_any h _ nq5 nq5) ?_; intro w1 k; intros; have c_pc := k.c.cpc; obtain ⟨l_pc, u_pc⟩ := k.c.rpc; (try simp only [BusI.val])))
  all_goals (try go_region_with (first | (go_at_call 103; refine Ck.go w0 w.heap.size kq6 (fun h => read_any h _ nq5 nq5) ?_; intro w1 k; intros; have c_pc := k.c.cpc; obtain ⟨l_pc, u_pc⟩ := k.c.rpc; (try simp only [BusI.val]))))
  all_goals (try go_wp2_with (first | (go_at_call 103; refine Ck.go w0 w.heap.size kq6 (fun h => read_any h _ nq5 nq5) ?_; intro w1 k; intros; have c_pc := k.c.cpc; obtain ⟨l_pc, u_pc⟩ := k.c.rpc; (try simp only [BusI.val]))))
  all_goals (have hr := Tryz.results130; exact bodyPost_ret brq rfl ⟨rfl, tq1⟩)

theorem enterByNMI_d (h : Tn B s w0 w) (hk1 : (s.step == 1) = false) :
    Calls Tryz.prog 130 #[.pointer (some ⟨B, 0, none⟩)] w fun e w' => e = .returned (s.enterByNMI).2.val ∧ Tn B (s.enterByNMI).1 w0 w' := by
  have c_step := h.c.cstep; obtain ⟨l_step, u_step⟩ := h.c.rstep; have c_pc := h.c.cpc; obtain ⟨l_pc, u_pc⟩ := h.c.rpc; have c_p := h.c.cp; obtain ⟨l_p, u_p⟩ := h.c.rp
  have hu : Hid (s.enterByNMI = s.enter 65530 (s.p)) := by show _ = _; unfold PC.enterByNMI; rw [if_neg (by simpa using hk1)]
  rw [hu.out]
  obtain ⟨hlt, hsz, n0, m0, fz0, -⟩ := h.pre
  go_enter Tryz.func130, Tryz.ntmps130
  go_wp2_with (first | (go_at_call 184; refine Ck.go w0 w.heap.size kq6 (fun h => enter_any h _ _ nq5 nq5 (by first | assumption | omega | exact (bit_r _ _ _).1) (by first | assumption | omega | exact (bit_r _ _ _).2)) ?_; intro w1 k; intros; have c_pc := k.c.cpc; obtain ⟨l_pc, u_pc⟩ := k.c.rpc; (try simp only [BusI.val])))
  all_goals (have hr := Tryz.results130; exact bodyPost_ret brq rfl ⟨rfl, tq1⟩)

theorem enterByNMI_any (h : Tn B s w0 w) :
    Calls Tryz.prog 130 #[.pointer (some ⟨B, 0, none⟩)] w fun e w' => e = .returned (s.enterByNMI).2.val ∧ Tn B (s.enterByNMI).1 w0 w' := by
  by_cases e1 : s.step = 1
  · exact enterByNMI_1 h  e1
  exact enterByNMI_d h  (by simpa using e1)
end

/-
  A turn: the state says what is done.
-/
section
set_option maxRecDepth 100000
set_option maxHeartbeats 1000000
variable {B : Nat} {s : PC} {w0 w : World}

theorem Ck.below {w0 W w1 : World} {B R : Nat} {s : PC} (k : Ck w0 B R s W) (hb : Below W.heap.size W w1) : Ck w0 B R s w1 :=
  ⟨(below_thru k.t hb).c, (below_thru k.t hb).g, by rw [hb.block _ k.lt]; exact k.r, k.ne, k.le⟩
theorem wr64_r (x : Int) : -9223372036854775808 ≤ wrap64 x ∧ wrap64 x < 9223372036854775808 := by
  simp only [wrap64]; omega
theorem wrap64_eq (x : Int) : IntKind.wrap .i64 x = wrap64 x := by simp only [wrap64, IntKind.wrap_i64]

theorem turn_s2 (h : Tn B s w0 w) (irq : Bool) (hs : s.st = 2) :
    Calls Tryz.prog 54 #[.pointer (some ⟨B, 0, none⟩), .bool irq] w fun e w' => e = .returned (s.turn irq).2.val ∧ Tn B (s.turn irq).1 w0 w' := by
  have c_st := h.c.cst; obtain ⟨l_st, u_st⟩ := h.c.rst
  have hu : Hid (s.turn irq = s.access) := by show _ = _; unfold PC.turn; rw [if_neg (by rw [hs]; decide), if_pos hs]
  rw [hu.out]
  rw [hs] at c_st
  obtain ⟨hlt, hsz, n0, m0, fz0, -⟩ := h.pre
  go_enter Tryz.func54, Tryz.ntmps54
  go_wp2_with (first | (go_at_call 80; refine Ck.go w0 w.heap.size kq6 (fun h => access_any h) ?_; intro w1 k; intros; (try simp only [BusI.val])))
  all_goals (try go_region_with (first | (go_at_call 80; refine Ck.go w0 w.heap.size kq6 (fun h => access_any h) ?_; intro w1 k; intros; (try simp only [BusI.val]))))
  all_goals (try go_wp2_with (first | (go_at_call 80; refine Ck.go w0 w.heap.size kq6 (fun h => access_any h) ?_; intro w1 k; intros; (try simp only [BusI.val]))))
  all_goals (have hr := Tryz.results54; exact bodyPost_ret brq rfl ⟨rfl, tq1⟩)

theorem turn_s3 (h : Tn B s w0 w) (irq : Bool) (hs : s.st = 3) :
    Calls Tryz.prog 54 #[.pointer (some ⟨B, 0, none⟩), .bool irq] w fun e w' => e = .returned (s.turn irq).2.val ∧ Tn B (s.turn irq).1 w0 w' := by
  have c_st := h.c.cst; obtain ⟨l_st, u_st⟩ := h.c.rst
  have hu : Hid (s.turn irq = s.restore) := by show _ = _; unfold PC.turn; rw [if_neg (by rw [hs]; decide), if_neg (by rw [hs]; decide), if_pos hs]
  rw [hu.out]
  rw [hs] at c_st
  obtain ⟨hlt, hsz, n0, m0, fz0, -⟩ := h.pre
  go_enter Tryz.func54, Tryz.ntmps54
  go_wp2_with (first | (go_at_call 81; refine Ck.go w0 w.heap.size kq6 (fun h => restore_any h) ?_; intro w1 k; intros; (try simp only [BusI.val])))
  all_goals (try go_region_with (first | (go_at_call 81; refine Ck.go w0 w.heap.size kq6 (fun h => restore_any h) ?_; intro w1 k; intros; (try simp only [BusI.val]))))
  all_goals (try go_wp2_with (first | (go_at_call 81; refine Ck.go w0 w.heap.size kq6 (fun h => restore_any h) ?_; intro w1 k; intros; (try simp only [BusI.val]))))
  all_goals (have hr := Tryz.results54; exact bodyPost_ret brq rfl ⟨rfl, tq1⟩)

theorem turn_s4 (h : Tn B s w0 w) (irq : Bool) (hs : s.st = 4) :
    Calls Tryz.prog 54 #[.pointer (some ⟨B, 0, none⟩), .bool irq] w fun e w' => e = .returned (s.turn irq).2.val ∧ Tn B (s.turn irq).1 w0 w' := by
  have c_st := h.c.cst; obtain ⟨l_st, u_st⟩ := h.c.rst
  have hu : Hid (s.turn irq = s.change) := by show _ = _; unfold PC.turn; rw [if_neg (by rw [hs]; decide), if_neg (by rw [hs]; decide), if_neg (by rw [hs]; decide), if_pos hs]
  rw [hu.out]
  rw [hs] at c_st
  obtain ⟨hlt, hsz, n0, m0, fz0, -⟩ := h.pre
  go_enter Tryz.func54, Tryz.ntmps54
  go_wp2_with (first | (go_at_call 82; refine Ck.go w0 w.heap.size kq6 (fun h => change_any h) ?_; intro w1 k; intros; (try simp only [BusI.val])))
  all_goals (try go_region_with (first | (go_at_call 82; refine Ck.go w0 w.heap.size kq6 (fun h => change_any h) ?_; intro w1 k; intros; (try simp only [BusI.val]))))
  all_goals (try go_wp2_with (first | (go_at_call 82; refine Ck.go w0 w.heap.size kq6 (fun h => change_any h) ?_; intro w1 k; intros; (try simp only [BusI.val]))))
  all_goals (have hr := Tryz.results54; exact bodyPost_ret brq rfl ⟨rfl, tq1⟩)
end

end Go.Proofs.YtcgjliflnnklnaaGreat
