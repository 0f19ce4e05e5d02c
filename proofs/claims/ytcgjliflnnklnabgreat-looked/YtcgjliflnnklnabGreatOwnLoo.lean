/-
  Proved: styletkeep.Looked answers true at every input, and each argument reads afterwards as it read before.
  Conditions: none beyond the row's own.
-/
import Derived.Test.YtcgjliflnnklnabGreatRows
import Derived.Test.YtcgjliflnnklnabGreatLkD
import Derived.ProofKit
import Derived.OpenShut
import Derived.SizedLaws
import Derived.Carry
import Derived.Deep.Slices
namespace Go.Proofs.YtcgjliflnnklnabGreat.looked
open Go.ChangeShapes Go.WideShapes Go.ChangeAt Go.RowKit Go.Deep

theorem own : ownKnob Tryz.prog.godebug = none := by kernel_rfl
theorem laid : laidOutB Tryz.prog = true := by kernel_rfl
theorem cByte : Tryz.prog.cellsOf 5 = 1 := by kernel_rfl
theorem cInt : Tryz.prog.cellsOf 3 = 1 := by kernel_rfl
theorem cWord : Tryz.prog.cellsOf 39 = 3 := by kernel_rfl
theorem bByte : Tryz.prog.bytesOf 5 = 1 := by kernel_rfl
theorem bWord : Tryz.prog.bytesOf 39 = 24 := by kernel_rfl

theorem u8_is {a : Int} (h : (Lit.int .u8 a).wf = true) : ((UInt8.ofNat a.toNat).toNat : Int) = a := by
  have := bounds_u8 h
  simp; omega

theorem lt_of {W : World} {b o : Nat} {v : Value} (h : W.cell? ⟨b, o, none⟩ = some v) : b < W.heap.size := World.block_lt_of_cell? W ⟨b, o, none⟩ h

section
variable {H : Type} {enc : TypeId × Value → H}

theorem bytes_of {W : World} {fuel : Nat} {v : Value} {x : DataW H × List MemPlace} (h : DataW.trod enc Tryz.prog W 0 (fun _ => true) true fuel 22 [v] = some x) :
    ∃ (p : Option Addr) (bs : List UInt8) (cap : Nat), v = .slice p bs.length cap ∧ bs.length ≤ cap ∧ ChV W.heap.size W v bs ∧ (cap = 0 ∨ ∃ es sp : List (DataW H), x.1 = .slice es sp ∧ es.length + sp.length = cap) := by
  rcases open_ints Tryz.underlying22 Tryz.underlying5 cByte h with ⟨e, _⟩ | ⟨a, len, cap, zs, e, _, hl, hm, hz, rfl, hcell, hwf⟩
  · simp only [List.cons.injEq, and_true] at e
    subst e
    exact ⟨none, [], 0, rfl, Nat.le_refl _, ⟨none, 0, rfl, fun h => absurd rfl h⟩, .inl rfl⟩
  · simp only [List.cons.injEq, and_true] at e
    subst e
    simp only [if_true] at hz
    have ln : ((zs.take len).map fun z => UInt8.ofNat z.toNat).length = len := by simp; omega
    refine ⟨some a, (zs.take len).map fun z => UInt8.ofNat z.toNat, cap, by rw [ln], by omega, ⟨some a, cap, by rw [ln], fun hne => ?_⟩, .inr ⟨_, _, rfl, ?_⟩⟩
    · have h0 : 0 < len := by
        rcases Nat.eq_zero_or_pos len with h | h
        · subst h; simp at hne
        · exact h
      obtain ⟨b, off, spot⟩ := a
      have h1 := hcell 0 (by omega)
      have hs : spot = none := by simpa [Addr.add] using World.cell?_spot h1
      subst hs
      refine ⟨b, off, rfl, ?_, fun i hi => ?_⟩
      · exact lt_of (by simpa [Addr.add] using h1)
      · rw [ln] at hi
        have h2 := hcell i (by omega)
        have ea : (⟨b, off, none⟩ : Addr).add i = ⟨b, off + i, none⟩ := by simp [Addr.add]
        rw [ea] at h2
        rw [h2]
        have hg : zs.getD i 0 = zs[i]'(by omega) := by simp [List.getD, List.getElem?_eq_getElem (show i < zs.length by omega)]
        rw [hg]
        simp only [List.getElem_map, List.getElem_take]
        rw [u8_is (hwf _ (List.getElem_mem _))]
    · simp [lits]; omega

set_option maxRecDepth 100000 in
theorem words_of {W : World} {fuel : Nat} {v : Value} {x : DataW H × List MemPlace} (h : DataW.trod enc Tryz.prog W 0 (fun _ => true) true fuel 23 [v] = some x) :
    ∃ (q : Option Addr) (m : Nat) (cap : Nat), v = .slice q m cap ∧ (∀ i, i < m → WdAt W q i) ∧ (m = 0 ∨ ∃ es sp : List (DataW H), x.1 = .slice es sp ∧ m ≤ es.length + sp.length) := by
  rcases open_slice Tryz.underlying23 h with ⟨e, _⟩ | ⟨a, len, cap, m, n, D, Pl, e, _, hl, hm, hz, rfl, hcell⟩
  · simp only [List.cons.injEq, and_true] at e
    subst e
    exact ⟨none, 0, 0, rfl, fun i h => by omega, .inl rfl⟩
  · simp only [List.cons.injEq, and_true] at e
    subst e
    simp only [if_true] at hz
    subst hz
    refine ⟨some a, len, m, rfl, fun i hi => ?_, .inr ⟨_, _, rfl, by simp⟩⟩
    obtain ⟨cs', h1, h2⟩ := hcell i (by omega)
    rw [cWord] at h1
    obtain ⟨_, hlen, hcs⟩ := World.cells?_some h1
    obtain ⟨xs, n2, _, _, hlen2, hxl, hf⟩ := DataW.trod_struct Tryz.underlying39 h2
    match cs', hlen, xs, hxl with
    | [v0, v1, v2], _, [y0, y1, y2], _ =>
      have f0 : DataW.trod enc Tryz.prog W 0 (fun _ => true) true n2 3 (([v0, v1, v2].drop 0).take (Tryz.prog.cellsOf 3)) = some y0 := hf 0 _ rfl
      have f1 : DataW.trod enc Tryz.prog W 0 (fun _ => true) true n2 3 (([v0, v1, v2].drop 1).take (Tryz.prog.cellsOf 3)) = some y1 := hf 1 _ rfl
      have f2 : DataW.trod enc Tryz.prog W 0 (fun _ => true) true n2 3 (([v0, v1, v2].drop 2).take (Tryz.prog.cellsOf 3)) = some y2 := hf 2 _ rfl
      rw [cInt] at f0 f1 f2
      simp only [List.drop, List.take] at f0 f1 f2
      obtain ⟨kd, e0, _, w0⟩ := DataW.trod_int Tryz.underlying3 f0
      obtain ⟨nn, e1, _, w1⟩ := DataW.trod_int Tryz.underlying3 f1
      obtain ⟨wy, e2, _, w2⟩ := DataW.trod_int Tryz.underlying3 f2
      simp only [List.cons.injEq, and_true] at e0 e1 e2
      subst e0 e1 e2
      have c0 := hcs 0 (by decide)
      have c1 := hcs 1 (by decide)
      have c2 := hcs 2 (by decide)
      obtain ⟨b, off, spot⟩ := a
      have hs : spot = none := by
        obtain ⟨cs0, g1, _⟩ := hcell 0 (by omega)
        rw [cWord] at g1
        obtain ⟨_, hl0, hc0⟩ := World.cells?_some g1
        match cs0, hl0, hc0 with
        | [u0, u1, u2], _, hc0 =>
          have q : W.cell? (((⟨b, off, spot⟩ : Addr).add (0 * 3)).add 0) = some u0 := hc0 0 (by decide)
          simpa [Addr.add] using World.cell?_spot q
      subst hs
      have ea : ∀ j, ((⟨b, off, none⟩ : Addr).add (i * 3)).add j = ⟨b, off + i * 3 + j, none⟩ := fun j => by rw [Go.Deep.add_add]; unfold Addr.add; split <;> simp_all [Nat.add_assoc]
      rw [ea] at c0 c1 c2
      have b0 := bounds_i64 w0
      have b1 := bounds_i64 w1
      have b2 := bounds_i64 w2
      exact ⟨b, off, kd, nn, wy, rfl, lt_of c1, c0, c1, c2, by omega, by omega, by omega, by omega, by omega, by omega⟩

end

set_option maxRecDepth 100000 in
theorem lifted (os : Os) (started : os.Started) (H : Type) (enc : TypeId × Value → H) :
    ReturnsInHanded {} Tryz.checked os 3 .any (Rows.lookedSpec.pre6 enc Tryz.prog Tryz.f3 Rows.lookedRow.domain false) (Rows.lookedSpec.post enc Tryz.prog Tryz.f3 false true false false) := by
  refine returnsInHanded_of_change_sized (C := Tryz.checked) own started (by kernel_rfl) Tryz.func3
    (ChangeSpec.witness6 (enc := enc) (C := Tryz.checked) false ⟨#[], #[.slice none 0 0, .slice none 0 0], []⟩ 8 (by kernel_rfl) (by kernel_rfl) (by kernel_rfl) (by kernel_rfl)) ?_
  intro W base args ds gs before hval0 hW hcnd hsz0 _
  have hval : ∀ (j : Nat) t v, Tryz.f3.params[j]? = some t → args[j]? = some v → Value.okWide Tryz.prog W .any base t v := hval0
  have hsz : (DataW.weightsEach Tryz.prog (Tryz.f3.params.toList ++ Rows.lookedSpec.plain.varTypes Tryz.prog) (ds ++ gs)).all (· ≤ reachBytes) = true := hsz0
  have hW' := hW
  obtain ⟨p, q, hA0, hV, rfl, hfz, hnd⟩ := hW
  have hA : DataW.TrodAll enc Tryz.prog W 0 (fun _ => true) true Tryz.f3.params.toList args.toList ds p := hA0
  rw [Tryz.params3] at hA hval hsz
  obtain ⟨v0, vs0, d0, ds0, p0, q0, hargs, rfl, rfl, h0, r0⟩ := trodAll_cons hA
  obtain ⟨v1, vs1, d1, ds1, p1, q1, rfl, rfl, rfl, h1, r1⟩ := trodAll_cons r0
  obtain ⟨rfl, rfl, rfl⟩ := trodAll_nil r1
  obtain rfl : args = #[v0, v1] := by cases args; simp_all
  obtain ⟨rfl, rfl⟩ := trodVars_none hV
  clear hA0 hval0 hsz0
  have hlt : ∀ x ∈ p0 ++ (p1 ++ []), x.block < W.heap.size := fun x hx => hW'.lt x (by simpa using hx)
  have hargs0 : ∀ (W' : World), Below W.heap.size W W' → DataW.Trod enc Tryz.prog W' 0 (fun b => decide (b < W.heap.size)) true 22 v0 d0 p0 :=
    fun W' hn => Below.trod laid (by kernel_rfl) (of_decide_eq_true (by kernel_rfl)) h0 hn (fun x hx => hlt x (by simp [hx]))
  have hargs1 : ∀ (W' : World), Below W.heap.size W W' → DataW.Trod enc Tryz.prog W' 0 (fun b => decide (b < W.heap.size)) true 23 v1 d1 p1 :=
    fun W' hn => Below.trod laid (by kernel_rfl) (of_decide_eq_true (by kernel_rfl)) h1 hn (fun x hx => hlt x (by simp [hx]))
  obtain ⟨a0, l0, c0, rfl⟩ := okWide_slice Tryz.underlying22 (hval 0 22 v0 rfl rfl)
  obtain ⟨a1, l1, c1, rfl⟩ := okWide_slice Tryz.underlying23 (hval 1 23 v1 rfl rfl)
  obtain ⟨fuel, hf⟩ := h0
  obtain ⟨fuel1, hf1⟩ := h1
  obtain ⟨pp, bs, cap, e, hc, hch, hs0⟩ := bytes_of (v := .slice a0 l0 c0) (x := (d0, p0)) (by simpa [Value.cells] using hf)
  injection e with e1 e2 e3
  subst e1; subst e2; subst e3
  obtain ⟨qq, m, qcap, e, hP, hs1⟩ := words_of (v := .slice a1 l1 c1) (x := (d1, p1)) (by simpa [Value.cells] using hf1)
  injection e with e1 e2 e3
  subst e1; subst e2; subst e3
  have hc2 : c0 ≤ 140737488355328 := by
    rcases hs0 with h | ⟨es, sp, h, h2⟩
    · omega
    · have h' : d0 = .slice es sp := h
      subst h'
      have := sized_slice hsz (j := 0) (t := 22) (e := 5) rfl rfl Tryz.underlying22
      rw [bByte] at this
      simp only [reachBytes] at this
      omega
  have hm : l1 ≤ 140737488355328 := by
    rcases hs1 with h | ⟨es, sp, h, h2⟩
    · omega
    · have h' : d1 = .slice es sp := h
      subst h'
      have := sized_slice hsz (j := 1) (t := 23) (e := 39) rfl rfl Tryz.underlying23
      rw [bWord] at this
      simp only [reachBytes] at this
      omega
  refine (looked_any W a0 a1 c0 c1 bs l1 hch hc hc2 hP hm).mono fun e W' ⟨he, bel⟩ => ?_
  subst he
  exact ⟨_, rfl, _, _, _, [], p0 ++ (p1 ++ []), [], hW', trodAll_mk1 (shut_bool Tryz.underlying4 _), trodAll_cons_mk (hargs0 W' bel) (trodAll_cons_mk (hargs1 W' bel) trodAll_mk0), rfl, bel.frame _, fun h => by cases h⟩

theorem over : Rows.lookedRow.holds Tryz.pinned (OpenSpec.ofChange Rows.lookedSpec) :=
  OpenClaim.holds_of_wide 3 Tryz.f3 rfl rfl rfl rfl rfl rfl rfl ⟨rfl, rfl, rfl, rfl, rfl⟩ rfl rfl rfl rfl rfl (by kernel_rfl) Tryz.func3 (by kernel_rfl)
    (of_decide_eq_true (by kernel_rfl)) (by unfold Func.isWrapper; first | (rw [if_pos (by decide +kernel)]; kernel_rfl) | (rw [if_neg (by decide +kernel)]; exact ⟨rfl, rfl⟩))
    (fun os started H enc _ => lifted os started H enc)

end Go.Proofs.YtcgjliflnnklnabGreat.looked
namespace Go.Proofs.YtcgjliflnnklnabGreat

theorem looked_holds : Rows.LookedSaid := looked.over

#print axioms looked_holds

end Go.Proofs.YtcgjliflnnklnabGreat
