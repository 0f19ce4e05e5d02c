/-
  Proved: styletlaw.Frames answers true at every script whose bulk is at most 1048576, and the script reads afterwards as it read before.
  Conditions: the bound of the second form alone (the first form is false by size: REPORT.md).
-/
import Derived.Test.YtcgjliflnnklnaaGreatFramesW
import Derived.Test.YtcgjliflnnklnaaGreatRows
import Derived.WalkKit
import Derived.ProofKit
import Derived.OpenShut
import Derived.JoinedCond
import Derived.Carry
import Derived.Deep.Slices
namespace Go.Proofs.YtcgjliflnnklnaaGreat.frames
open Go.ChangeShapes Go.WideShapes Go.ChangeAt Go.RowKit Go.Deep

theorem own : ownKnob Tryz.prog.godebug = none := by kernel_rfl
theorem laid : laidOutB Tryz.prog = true := by kernel_rfl
theorem cOp : Tryz.prog.cellsOf 29 = 8 := by kernel_rfl
theorem cCfg : Tryz.prog.cellsOf 26 = 2 := by kernel_rfl
theorem cChunks : Tryz.prog.cellsOf 24 = 1 := by kernel_rfl
theorem cInt : Tryz.prog.cellsOf 3 = 1 := by kernel_rfl
theorem cBool : Tryz.prog.cellsOf 4 = 1 := by kernel_rfl
theorem cStr : Tryz.prog.cellsOf 9 = 1 := by kernel_rfl

theorem one_le {H : Type} (d : DataW H) : 1 ≤ Rows.uptoBulk d := by
  cases d with
  | lit l => cases l <;> simp [Rows.uptoBulk]
  | _ => simp [Rows.uptoBulk]
theorem in_le {H : Type} {d : DataW H} : ∀ {l : List (DataW H)}, d ∈ l → Rows.uptoBulk d ≤ Rows.uptoBulkAll l
  | [], h => by cases h
  | x :: r, h => by
    rw [Rows.uptoBulkAll]
    rcases List.mem_cons.1 h with e | e
    · rw [e]; omega
    · have := in_le e; omega
theorem len_le {H : Type} : ∀ l : List (DataW H), l.length ≤ Rows.uptoBulkAll l
  | [] => by simp
  | x :: r => by have h1 := one_le x; have h2 := len_le r; rw [Rows.uptoBulkAll]; simp only [List.length_cons]; omega

section
variable {H : Type} {enc : TypeId × Value → H}

set_option maxRecDepth 100000 in
theorem open_op {W : World} {sp : Nat → Bool} {fuel sb so : Nat} {cs : List Value} {x : DataW H × List MemPlace} (h : DataW.trod enc Tryz.prog W 0 sp true fuel 29 cs = some x)
    (hc : ∀ i, i < 8 → W.cell? ⟨sb, so + i, none⟩ = cs[i]?) (hb : Rows.uptoBulk x.1 ≤ 1048576) : OpAt (fun _ => True) W sb so := by
  obtain ⟨xs, n, _, rfl, hlen, hxl, hf⟩ := DataW.trod_struct Tryz.underlying29 h
  rw [cOp] at hlen
  match cs, hlen, xs, hxl with
  | [v0, v1, v2, v3, v4, v5, v6, v7], _, [y0, y1, y2, y3, y4, y5, y6], _ =>
    have f0 : DataW.trod enc Tryz.prog W 0 sp true n 3 (([v0, v1, v2, v3, v4, v5, v6, v7].drop 0).take (Tryz.prog.cellsOf 3)) = some y0 := hf 0 _ rfl
    have f1 : DataW.trod enc Tryz.prog W 0 sp true n 3 (([v0, v1, v2, v3, v4, v5, v6, v7].drop 1).take (Tryz.prog.cellsOf 3)) = some y1 := hf 1 _ rfl
    have f2 : DataW.trod enc Tryz.prog W 0 sp true n 3 (([v0, v1, v2, v3, v4, v5, v6, v7].drop 2).take (Tryz.prog.cellsOf 3)) = some y2 := hf 2 _ rfl
    have f3 : DataW.trod enc Tryz.prog W 0 sp true n 9 (([v0, v1, v2, v3, v4, v5, v6, v7].drop 3).take (Tryz.prog.cellsOf 9)) = some y3 := hf 3 _ rfl
    have f4 : DataW.trod enc Tryz.prog W 0 sp true n 4 (([v0, v1, v2, v3, v4, v5, v6, v7].drop 4).take (Tryz.prog.cellsOf 4)) = some y4 := hf 4 _ rfl
    have f5 : DataW.trod enc Tryz.prog W 0 sp true n 4 (([v0, v1, v2, v3, v4, v5, v6, v7].drop 5).take (Tryz.prog.cellsOf 4)) = some y5 := hf 5 _ rfl
    have f6 : DataW.trod enc Tryz.prog W 0 sp true n 26 (([v0, v1, v2, v3, v4, v5, v6, v7].drop 6).take (Tryz.prog.cellsOf 26)) = some y6 := hf 6 _ rfl
    rw [cInt] at f0
    rw [cInt] at f1
    rw [cInt] at f2
    rw [cStr] at f3
    rw [cBool] at f4
    rw [cBool] at f5
    rw [cCfg] at f6
    simp only [List.drop, List.take] at f0 f1 f2 f3 f4 f5 f6
    obtain ⟨k, e0, _, _⟩ := DataW.trod_int Tryz.underlying3 f0
    obtain ⟨a, e1, _, wa⟩ := DataW.trod_int Tryz.underlying3 f1
    obtain ⟨b, e2, _, _⟩ := DataW.trod_int Tryz.underlying3 f2
    obtain ⟨S, e3, g3, _⟩ := DataW.trod_string Tryz.underlying9 f3
    obtain ⟨p, e4, _⟩ := DataW.trod_bool Tryz.underlying4 f4
    obtain ⟨q, e5, _⟩ := DataW.trod_bool Tryz.underlying4 f5
    obtain ⟨z0, z1, n2, _, _, u0, u1⟩ := trod_struct2 Tryz.underlying26 f6
    simp only [cInt, cChunks, List.drop, List.take] at u0 u1
    obtain ⟨rom, e7, _, _⟩ := DataW.trod_int Tryz.underlying3 u1
    have e6 : ∃ ca cl cc, v6 = .slice ca cl cc := by
      rcases open_slice Tryz.underlying24 u0 with ⟨e, _⟩ | ⟨ad, l, c, _, _, _, _, e, _⟩
      · simp only [List.cons.injEq, and_true] at e; exact ⟨_, _, _, e⟩
      · simp only [List.cons.injEq, and_true] at e; exact ⟨_, _, _, e⟩
    obtain ⟨ca, cl, cc, rfl⟩ := e6
    simp only [List.cons.injEq, and_true] at e0 e1 e2 e3 e4 e5 e7
    subst e0; subst e1; subst e2; subst e3; subst e4; subst e5; subst e7
    have wb := bounds_i64 wa
    have g3' : y3.1 = .lit (.string S.data.toList) := by rw [g3]
    have hS : S.size ≤ 4000000 := by
      have h1 : Rows.uptoBulk y3.1 ≤ Rows.uptoBulkAll (List.map (·.1) [y0, y1, y2, y3, y4, y5, y6]) := in_le (by simp)
      rw [g3'] at h1
      have e : S.data.toList.length = S.size := by rw [Array.length_toList]; rfl
      simp only [Rows.uptoBulk] at h1 hb
      omega
    exact ⟨k, a, b, S, p, q, ca, cl, cc, rom, hc 0 (by omega), hc 1 (by omega), hc 2 (by omega), hc 3 (by omega), hc 4 (by omega), hc 5 (by omega), hc 6 (by omega), hc 7 (by omega), hS, by omega, by omega, trivial⟩

theorem open_ops {W : World} {fuel : Nat} {v : Value} {x : DataW H × List MemPlace} (h : DataW.trod enc Tryz.prog W 0 (fun _ => true) true fuel 22 [v] = some x) (hb : Rows.uptoBulk x.1 ≤ 1048576) :
    ∃ sa sb so len cap, v = .slice sa len cap ∧ len ≤ 1048576 ∧ (len = 0 ∨ (sa = some ⟨sb, so, none⟩ ∧ ∀ i, i < len → OpAt (fun _ => True) W sb (so + i * 8))) := by
  rcases open_slice Tryz.underlying22 h with ⟨e, _⟩ | ⟨a, len, cap, m, n, D, Pl, e, _, hl, _, hmm, rfl, hx⟩
  · simp only [List.cons.injEq, and_true] at e
    exact ⟨none, 0, 0, 0, 0, e, by omega, .inl rfl⟩
  · simp only [List.cons.injEq, and_true] at e
    subst e
    simp only [if_true] at hmm
    subst hmm
    simp only [Rows.uptoBulk] at hb
    have hlen : len ≤ 1048576 := by
      have h1 := len_le ((List.range len).map D)
      simp only [List.length_map, List.length_range] at h1
      omega
    have one : ∀ i, i < len → W.cell? (a.add (i * 8)) ≠ none ∧ (∀ sb so, a = ⟨sb, so, none⟩ → OpAt (fun _ => True) W sb (so + i * 8)) := by
      intro i hi
      obtain ⟨cs', h1, h2⟩ := hx i (by omega)
      rw [cOp] at h1
      obtain ⟨_, hlen8, hcell⟩ := World.cells?_some h1
      refine ⟨?_, ?_⟩
      · have h0 := hcell 0 (by omega)
        rw [add_add, Nat.add_zero] at h0
        rw [h0]
        simp [hlen8]
      · rintro sb so rfl
        refine open_op h2 (fun j hj => ?_) ?_
        · have := hcell j hj
          rw [add_add, add_plain] at this
          rw [← this, Nat.add_assoc]
        · show Rows.uptoBulk (D i) ≤ 1048576
          have h3 : Rows.uptoBulk (D i) ≤ Rows.uptoBulkAll ((List.range len).map D) := in_le (List.mem_map.2 ⟨i, List.mem_range.2 hi, rfl⟩)
          omega
    by_cases h0 : len = 0
    · exact ⟨some a, 0, 0, len, _, rfl, hlen, .inl h0⟩
    · obtain ⟨sb, so, spot⟩ := a
      have hspot : spot = none := by
        have h1 := (one 0 (by omega)).1
        rcases hq : W.cell? ((⟨sb, so, spot⟩ : Addr).add (0 * 8)) with _ | u
        · exact absurd hq h1
        · simpa [Addr.add] using World.cell?_spot hq
      subst hspot
      exact ⟨_, sb, so, len, _, rfl, hlen, .inr ⟨rfl, fun i hi => (one i hi).2 sb so rfl⟩⟩
end

set_option maxRecDepth 100000 in
theorem lifted (os : Os) (started : os.Started) (H : Type) (enc : TypeId × Value → H) (F : Stop.Interp) :
    ReturnsInHanded {} Tryz.checked os 4 .any ((Rows.OpenSpec.upto Rows.framesSpec).pre6 enc Tryz.prog Tryz.f4 Rows.framesUptoRow.domain false) (((Rows.OpenSpec.upto Rows.framesSpec).at F).post enc Tryz.prog Tryz.f4 false true false false) := by
  refine returnsInHanded_of_cond (C := Tryz.checked) (s := Rows.OpenSpec.upto Rows.framesSpec) (k := Rows.uptoSmall) rfl own started (by kernel_rfl) Tryz.func4
    (OpenSpec.witness (enc := enc) (C := Tryz.checked) (s := Rows.OpenSpec.upto Rows.framesSpec) (k := Rows.uptoSmall) rfl false ⟨#[], #[.slice none 0 0], []⟩ 8 (by kernel_rfl) (by kernel_rfl) (by kernel_rfl)
      (x := ([.nil], [], [])) (by kernel_rfl) rfl (by kernel_rfl)) ?_
  intro W base args ds gs before hval0 hW _ hk _
  have hval : ∀ (j : Nat) t v, Tryz.f4.params[j]? = some t → args[j]? = some v → Value.okWide Tryz.prog W .any base t v := hval0
  have hW' := hW
  obtain ⟨p, q, hA0, hV, rfl, hfz, hnd⟩ := hW
  have hA : DataW.TrodAll enc Tryz.prog W 0 (fun _ => true) true Tryz.f4.params.toList args.toList ds p := hA0
  rw [Tryz.params4] at hA hval
  obtain ⟨v0, d0, rfl, rfl, h0⟩ := trodAll_one hA
  obtain ⟨rfl, rfl⟩ := trodVars_none hV
  clear hA0 hval0
  simp only [List.append_nil] at hW' hk
  have hlt : ∀ x ∈ p, x.block < W.heap.size := fun x hx => hW'.lt x hx
  have hargs : ∀ (W' : World), Below W.heap.size W W' → DataW.Trod enc Tryz.prog W' 0 (fun b => decide (b < W.heap.size)) true 22 v0 d0 p :=
    fun W' hn => Below.trod laid (by kernel_rfl) (of_decide_eq_true (by kernel_rfl)) h0 hn hlt
  have hbulk : Rows.uptoBulk d0 ≤ 1048576 := by
    have h : Rows.uptoBulkAll [d0] ≤ 1048576 := of_decide_eq_true hk
    simp only [Rows.uptoBulkAll] at h
    omega
  obtain ⟨a0, l0, c0, rfl⟩ := okWide_slice Tryz.underlying22 (hval 0 22 v0 rfl rfl)
  obtain ⟨fuel, hf⟩ := h0
  obtain ⟨sa, sb, so, len, cap, e, hlen, hops⟩ := open_ops (v := .slice a0 l0 c0) (x := (d0, p)) (by simpa [Value.cells] using hf) hbulk
  injection e with e1 e2 e3
  subst e1; subst e2; subst e3
  refine (frames_any W a0 sb so l0 c0 hops hlen).mono fun e W' ⟨he, bel⟩ => ?_
  subst he
  exact ⟨_, rfl, _, _, _, [], p, [], hW', trodAll_mk1 (shut_bool Tryz.underlying4 _), trodAll_mk1 (hargs W' bel), rfl, bel.frame _, fun h => by cases h⟩

theorem over : Rows.framesUptoRow.holds Tryz.pinned (Rows.OpenSpec.upto Rows.framesSpec) :=
  OpenClaim.holds_of_cond 4 Tryz.f4 rfl rfl rfl rfl rfl rfl rfl ⟨rfl, rfl, rfl, rfl, rfl⟩ rfl rfl rfl rfl rfl (by kernel_rfl) Tryz.func4 (by kernel_rfl)
    (of_decide_eq_true (by kernel_rfl)) (by unfold Func.isWrapper; first | (rw [if_pos (by decide +kernel)]; kernel_rfl) | (rw [if_neg (by decide +kernel)]; exact ⟨rfl, rfl⟩))
    (fun os started H enc _ F => lifted os started H enc F)

end Go.Proofs.YtcgjliflnnklnaaGreat.frames
namespace Go.Proofs.YtcgjliflnnklnaaGreat

theorem framesUpto_holds : Rows.FramesUptoSaid := frames.over

#print axioms framesUpto_holds

end Go.Proofs.YtcgjliflnnklnaaGreat
