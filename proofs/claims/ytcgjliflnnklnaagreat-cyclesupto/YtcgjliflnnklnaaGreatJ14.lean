/-
  Joined texts.
-/
import Derived.Handy
import Derived.Test.YtcgjliflnnklnaaGreatJ04
import Derived.Test.YtcgjliflnnklnaaGreatRwGz
namespace Go.Proofs.YtcgjliflnnklnaaGreat
open Go.RowKit

/-
  The document's computer, walked: its table of opcodes.
-/
section
set_option maxRecDepth 100000
set_option maxHeartbeats 4000000

def lineV (e : Nat × BA × BA) : Value := .agg #[.int .i64 (e.1 : Nat), .string e.2.1, .string e.2.2]
def mk3 (d : Nat × Nat × BA × BA) : Oper := ⟨some (d.1 + 1), .build 267 #[(0, .const (.int .i64 (d.2.1 : Nat))), (1, .const (.string d.2.2.1)), (2, .const (.string d.2.2.2))], 267, "table.go:29", #[], none⟩
def step3 (a : Go.Act) (d : Nat × Nat × BA × BA) : Go.Act := a.put (some (d.1 + 1)) (lineV d.2)
def rdata : List (Nat × Nat × BA × BA) := (List.range 151).zip refTable
def rtabL : List Value := refTable.flatMap fun e => [.int .i64 (e.1 : Nat), .string e.2.1, .string e.2.2]
def rtabO : Obj := .cells rtabL.toArray 267 (0, 0)

theorem mk3_run (d : Nat × Nat × BA × BA) (a : Go.Act) (w : World) : (execOp a.eval (mk3 d)).run Tryz.prog w = .ok (.value (lineV d.2)) w := by
  obtain ⟨k, m, n, q⟩ := d
  kernel_rfl

theorem wpList_run3 {P : Program} {ops : Array Oper} {rest : List Oper} {op : Oper} {a : Go.Act} {w w' : World} {Q : Exit → Go.Act → World → Prop} (V : Value) (hgd : op.guard = none)
    (hv : (execOp a.eval op).run P w = .ok (.value V) w') (h : wpList P ops Q rest (a.put op.dst V) w') : wpList P ops Q (op :: rest) a w :=
  wpList_plain hgd fun K hK => by
    unfold Oper.wp
    rw [hv]
    exact hK _ _ h

theorem wpList_all3 {ops : Array Oper} {Q : Exit → Go.Act → World → Prop} {w : World} (rest : List Oper) : ∀ (l : List (Nat × Nat × BA × BA)) (a : Go.Act),
    wpList Tryz.prog ops Q rest (l.foldl step3 a) w → wpList Tryz.prog ops Q (l.map mk3 ++ rest) a w
  | [], _, h => h
  | d :: l, a, h => wpList_run3 (op := mk3 d) (lineV d.2) rfl (mk3_run d a w) (wpList_all3 rest l (step3 a d) h)

theorem wp_table3 {id : Nat} {ops : Array Oper} {Q : Exit → Go.Act → World → Prop} {a : Go.Act} {w : World} {V : Value} {o : Obj} (d : Oper)
    (e : ops.toList = rdata.map mk3 ++ [ops.toList.getD 151 d, ops.toList.getD 152 d])
    (g1 : (ops.toList.getD 151 d).guard = none) (v1 : (execOp (rdata.foldl step3 a).eval (ops.toList.getD 151 d)).run Tryz.prog w = .ok (.value V) (w.alloc o))
    (g2 : (ops.toList.getD 152 d).guard = none) (v2 : ∀ w, (execOp ((rdata.foldl step3 a).put (ops.toList.getD 151 d).dst V).eval (ops.toList.getD 152 d)).run Tryz.prog w = .ok (.value V) w)
    (h : Q .normal (((rdata.foldl step3 a).put (ops.toList.getD 151 d).dst V).put (ops.toList.getD 152 d).dst V) (w.alloc o)) : (Code.region id ops false).wp Tryz.prog Q a w := by
  refine wp_region_list ?_
  rw [e]
  refine wpList_all3 _ rdata a ?_
  refine wpList_run3 V g1 v1 ?_
  refine wpList_run3 V g2 (v2 _) ?_
  exact h

theorem rtable (w : World) : Calls Tryz.prog 195 #[] w fun e w' => e = .returned (.slice (some ⟨w.heap.size, 0, none⟩) 151 151) ∧ w' = w.alloc rtabO := by
  go_enter Tryz.func195, Tryz.ntmps195
  iterate 10 go_step
  refine wp_table3 (V := .slice (some ⟨w.heap.size, 0, none⟩) 151 151) (o := rtabO) ⟨none, .alloc 0, 0, "", #[], none⟩ ?e ?g1 ?v1 ?g2 ?v2 ?_
  case e => kernel_rfl
  case g1 => kernel_rfl
  case v1 => kernel_rfl
  case g2 => kernel_rfl
  case v2 => intro w; kernel_rfl
  generalize hA : (((rdata.foldl step3 _).put _ _).put _ _ : Go.Act) = A9
  have hr : A9.tmps[0]?.getD undef = .slice (some ⟨w.heap.size, 0, none⟩) 151 151 := by rw [← hA]; kernel_rfl
  have hd : A9.defers = [] := by rw [← hA]; kernel_rfl
  clear hA
  rename_i Q' K ha
  refine ha _ _ ?_
  go_step
  exact bodyPost_ret (v := .slice (some ⟨w.heap.size, 0, none⟩) 151 151) (by simp [results, Tryz.results195, go_sem, hr]) (by simp [hd]) ⟨rfl, rfl⟩
end

/-
  The document's computer, walked: the registers behind an instruction that goes elsewhere.
-/
section
set_option maxRecDepth 100000
set_option maxHeartbeats 20000000

theorem HdAt.later' {w w' : World} {b : Nat} {h : List Int} (H : HdAt w b h) (hb : Below w.heap.size w w') : HdAt w' b h :=
  ⟨Nat.lt_of_lt_of_le H.lt hb.size, fun i hi => (hb.cell (p := ⟨b, i, none⟩) H.lt).trans (H.c i hi), H.r⟩
def lFar : List BA := [b3 74 83 82, b3 82 84 83, b3 82 84 73, b3 74 77 80]
theorem ramong4 (op : BA) (q : Bool) (hq : (lFar.any fun s => decide (s = op)) = q) (w : World) (t : TypeId) (b : Nat) (hb : b = w.heap.size) :
    Calls Tryz.prog 151 #[.slice (some ⟨b, 0, none⟩) 4 4, .string op] (w.alloc (.cells #[.string ⟨#[74, 83, 82]⟩, .string ⟨#[82, 84, 83]⟩, .string ⟨#[82, 84, 73]⟩, .string ⟨#[74, 77, 80]⟩] t)) fun e w' => e = .returned (.bool q) ∧ w' = w.alloc (.cells #[.string ⟨#[74, 83, 82]⟩, .string ⟨#[82, 84, 83]⟩, .string ⟨#[82, 84, 73]⟩, .string ⟨#[74, 77, 80]⟩] t) := by
  subst hb; subst hq; exact ramong w.heap.size 4 4 lFar op _ rfl (by decide) (strs_new w lFar t)

theorem done_seq (op md : BA) (hop : op = b3 78 77 73 ∨ op = b3 73 82 81 ∨ op = b3 66 82 75) (r : RG) (hr : RgR r) (b cap : Nat) (h : List Int) (hl : h.length ≤ 100) (hk : FlOk op h.length) (w : World) (H : HdAt w b h) :
    Calls Tryz.prog 96 #[cdV op md, r.val, hdV b h cap] w fun e w' => e = .returned (doneR op md r h).val ∧ Below w.heap.size w w' := by
  have hf : farR op = true := by rcases hop with rfl | rfl | rfl <;> rfl
  rw [show doneR op md r h = flowsR op r h from by unfold doneR; rw [if_pos hf]]
  have FL := fun w' (hb : Below w.heap.size w w') => rflows op r hr b cap h hl hk w' (H.later' hb)
  generalize flowsR op r h = R at *
  obtain ⟨A, X, Y, S, P, PC, cyc, jam⟩ := r
  obtain ⟨A', X', Y', S', P', PC', cyc', jam'⟩ := R
  unfold RG.val cdV hdV at *
  clear hf hk H hr
  have AM := fun hq => ramong4 op true hq
  dsimp only at FL ⊢
  rcases hop with rfl | rfl | rfl
  all_goals
    unfold b3 at *
    go_enter Tryz.func96, Tryz.ntmps96
    go_wp2_with (first | (go_at_call 151; refine (AM (by first | decide | rfl) _ _ _ (by simp)).mono ?_; rintro e w1 ⟨rfl, rfl⟩) | (go_at_call 152; refine (FL _ ?fl).mono ?_; (case fl => go_grown); rintro e w1 ⟨rfl, hb⟩; obtain ⟨-, -, g2, lt9, hB⟩ := own3 hb; obtain ⟨k0, k1, k2, k3, k4, k5, k6, k7, kf⟩ := row8 g2; clear hb g2))
    all_goals (try (go_region_with (first | (go_at_call 151; refine (AM (by first | decide | rfl) _ _ _ (by simp)).mono ?_; rintro e w1 ⟨rfl, rfl⟩))))
    all_goals (try (go_wp2_with (go_at_call 152; refine (FL _ ?fl).mono ?_; (case fl => go_grown); rintro e w1 ⟨rfl, hb⟩; obtain ⟨-, -, g2, lt9, hB⟩ := own3 hb; obtain ⟨k0, k1, k2, k3, k4, k5, k6, k7, kf⟩ := row8 g2; clear hb g2)))
    all_goals refine bodyPost_ret (v := RG.val ⟨A', X', Y', S', P', PC', cyc', jam'⟩) (by simp [results, Tryz.results96, go_sem, RG.val, k0, k1, k2, k3, k4, k5, k6, k7]) rfl ⟨rfl, by go_grown⟩
theorem done_far4 (op md : BA) (hop : op = b3 74 83 82 ∨ op = b3 82 84 83 ∨ op = b3 82 84 73 ∨ op = b3 74 77 80) (r : RG) (hr : RgR r) (b cap : Nat) (h : List Int) (hl : h.length ≤ 100) (hk : FlOk op h.length) (w : World) (H : HdAt w b h) :
    Calls Tryz.prog 96 #[cdV op md, r.val, hdV b h cap] w fun e w' => e = .returned (doneR op md r h).val ∧ Below w.heap.size w w' := by
  have hf : farR op = true := by rcases hop with rfl | rfl | rfl | rfl <;> rfl
  rw [show doneR op md r h = flowsR op r h from by unfold doneR; rw [if_pos hf]]
  have FL := fun w' (hb : Below w.heap.size w w') => rflows op r hr b cap h hl hk w' (H.later' hb)
  generalize flowsR op r h = R at *
  obtain ⟨A, X, Y, S, P, PC, cyc, jam⟩ := r
  obtain ⟨A', X', Y', S', P', PC', cyc', jam'⟩ := R
  unfold RG.val cdV hdV at *
  clear hf hk H hr
  have AM := fun hq => ramong4 op true hq
  dsimp only at FL ⊢
  rcases hop with rfl | rfl | rfl | rfl
  all_goals
    unfold b3 at *
    go_enter Tryz.func96, Tryz.ntmps96
    go_wp2_with (first | (go_at_call 151; refine (AM (by first | decide | rfl) _ _ _ (by simp)).mono ?_; rintro e w1 ⟨rfl, rfl⟩) | (go_at_call 152; refine (FL _ ?fl).mono ?_; (case fl => go_grown); rintro e w1 ⟨rfl, hb⟩; obtain ⟨-, -, g2, -, lt9, hB⟩ := own4 hb; obtain ⟨k0, k1, k2, k3, k4, k5, k6, k7, kf⟩ := row8 g2; clear hb g2))
    all_goals (try (go_region_with (first | (go_at_call 151; refine (AM (by first | decide | rfl) _ _ _ (by simp)).mono ?_; rintro e w1 ⟨rfl, rfl⟩))))
    all_goals (try (go_wp2_with (go_at_call 152; refine (FL _ ?fl).mono ?_; (case fl => go_grown); rintro e w1 ⟨rfl, hb⟩; obtain ⟨-, -, g2, -, lt9, hB⟩ := own4 hb; obtain ⟨k0, k1, k2, k3, k4, k5, k6, k7, kf⟩ := row8 g2; clear hb g2)))
    all_goals refine bodyPost_ret (v := RG.val ⟨A', X', Y', S', P', PC', cyc', jam'⟩) (by simp [results, Tryz.results96, go_sem, RG.val, k0, k1, k2, k3, k4, k5, k6, k7]) rfl ⟨rfl, by go_grown⟩
end

end Go.Proofs.YtcgjliflnnklnaaGreat
