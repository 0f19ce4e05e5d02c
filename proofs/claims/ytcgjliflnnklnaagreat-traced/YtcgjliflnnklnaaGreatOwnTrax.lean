/-
  Proved: styletkeep.Traced answers true at every input, and each argument reads afterwards as it read before.
  Conditions: none beyond the row's own.
-/
import Derived.Test.YtcgjliflnnklnaaGreatTrFx
import Derived.ProofKit
import Derived.OpenShut
import Derived.SizedLaws
import Derived.Carry
import Derived.Deep.Slices
namespace Go.Proofs.YtcgjliflnnklnaaGreat.traced
open Go.ChangeShapes Go.WideShapes Go.ChangeAt Go.RowKit Go.Deep

theorem own : ownKnob Tryz.prog.godebug = none := by kernel_rfl
theorem laid : laidOutB Tryz.prog = true := by kernel_rfl
theorem cByte : Tryz.prog.cellsOf 5 = 1 := by kernel_rfl
theorem cBool : Tryz.prog.cellsOf 4 = 1 := by kernel_rfl
theorem bByte : Tryz.prog.bytesOf 5 = 1 := by kernel_rfl
theorem bBool : Tryz.prog.bytesOf 4 = 1 := by kernel_rfl

theorem u8_is {a : Int} (h : (Lit.int .u8 a).wf = true) : ((UInt8.ofNat a.toNat).toNat : Int) = a := by
  have := bounds_u8 h
  simp; omega

theorem lt_of {W : World} {b o : Nat} {v : Value} (h : W.cell? ⟨b, o, none⟩ = some v) : b < W.heap.size := World.block_lt_of_cell? W ⟨b, o, none⟩ h

section
variable {H : Type} {enc : TypeId × Value → H}

theorem bytes_of {W : World} {fuel : Nat} {v : Value} {x : DataW H × List MemPlace} (h : DataW.trod enc Tryz.prog W 0 (fun _ => true) true fuel 35 [v] = some x) :
    ∃ (p : Option Addr) (bs : List UInt8) (cap : Nat), v = .slice p bs.length cap ∧ bs.length ≤ cap ∧ ChV W.heap.size W v bs ∧ (cap = 0 ∨ ∃ es sp : List (DataW H), x.1 = .slice es sp ∧ es.length + sp.length = cap) := by
  rcases open_ints Tryz.underlying35 Tryz.underlying5 cByte h with ⟨e, _⟩ | ⟨a, len, cap, zs, e, _, hl, hm, hz, rfl, hcell, hwf⟩
  · simp only [List.cons.injEq, and_true] at e
    subst e
    exact ⟨none, [], 0, rfl, Nat.le_refl _, ⟨none, 0, rfl, fun h => absurd rfl h⟩, .inl rfl⟩
  · simp only [List.cons.injEq, and_true] at e
    subst e
    simp only [if_true] at hz
    have ln : ((zs.take len).map fun z => UInt8.ofNat z.toNat).length = len := by simp; omega
    refine ⟨some a, (zs.take len).map fun z => UInt8.ofNat z.toNat, cap, by rw [ln], by omega, ⟨some a, cap, by rw [ln], fun hne => ?_⟩, .inr ⟨_, _, rfl, ?_⟩⟩
    · have h0 : 0 < len := by
        rcases Nat.eq_zero_or_pos len with h | h
        · subst h; simp at hne
        · exact h
      obtain ⟨b, off, spot⟩ := a
      have h1 := hcell 0 (by omega)
      have hs : spot = none := by simpa [Addr.add] using World.cell?_spot h1
      subst hs
      refine ⟨b, off, rfl, ?_, fun i hi => ?_⟩
      · exact lt_of (by simpa [Addr.add] using h1)
      · rw [ln] at hi
        have h2 := hcell i (by omega)
        have ea : (⟨b, off, none⟩ : Addr).add i = ⟨b, off + i, none⟩ := by simp [Addr.add]
        rw [ea] at h2
        rw [h2]
        have hg : zs.getD i 0 = zs[i]'(by omega) := by simp [List.getD, List.getElem?_eq_getElem (show i < zs.length by omega)]
        rw [hg]
        simp only [List.getElem_map, List.getElem_take]
        rw [u8_is (hwf _ (List.getElem_mem _))]
    · simp [lits]; omega

theorem bools_of {W : World} {fuel : Nat} {v : Value} {x : DataW H × List MemPlace} (h : DataW.trod enc Tryz.prog W 0 (fun _ => true) true fuel 58 [v] = some x) :
    ∃ (q : Option Addr) (bs : List Bool) (cap : Nat), v = .slice q bs.length cap ∧ (∀ i, (h : i < bs.length) → ∃ b off, q = some ⟨b, off, none⟩ ∧ b < W.heap.size ∧ W.cell? ⟨b, off + i, none⟩ = some (.bool bs[i])) ∧
      (bs.length = 0 ∨ ∃ es sp : List (DataW H), x.1 = .slice es sp ∧ bs.length ≤ es.length + sp.length) := by
  rcases open_slice1 Tryz.underlying58 cBool h with ⟨e, _⟩ | ⟨a, len, cap, m, n, V, D, Pl, e, _, hl, hm, hz, rfl, hcell⟩
  · simp only [List.cons.injEq, and_true] at e
    subst e
    exact ⟨none, [], 0, rfl, fun i h => by simp at h, .inl rfl⟩
  · simp only [List.cons.injEq, and_true] at e
    subst e
    simp only [if_true] at hz
    subst hz
    obtain ⟨B, hB⟩ := choose_lt (α := Bool) (p := fun i b => V i = .bool b) (n := m) (fun i hi => by
      obtain ⟨b, e, _⟩ := DataW.trod_bool Tryz.underlying4 (hcell i hi).2
      simp only [List.cons.injEq, and_true] at e
      exact ⟨b, e⟩)
    refine ⟨some a, (List.range len).map B, m, by simp, fun i hi => ?_, .inr ⟨_, _, rfl, by simp⟩⟩
    simp only [List.length_map, List.length_range] at hi
    have h2 := (hcell i (by omega)).1
    rw [hB i (by omega)] at h2
    obtain ⟨b, off, spot⟩ := a
    have hs : spot = none := by
      have h1 := (hcell 0 (by omega)).1
      simpa [Addr.add] using World.cell?_spot h1
    subst hs
    have ea : (⟨b, off, none⟩ : Addr).add i = ⟨b, off + i, none⟩ := by simp [Addr.add]
    rw [ea] at h2
    refine ⟨b, off, rfl, lt_of h2, ?_⟩
    rw [h2]
    simp
end

set_option maxRecDepth 100000 in
theorem lifted (os : Os) (started : os.Started) (H : Type) (enc : TypeId × Value → H) :
    ReturnsInHanded {} Tryz.checked os 11 .any (Rows.tracedSpec.pre6 enc Tryz.prog Tryz.f11 Rows.tracedRow.domain false) (Rows.tracedSpec.post enc Tryz.prog Tryz.f11 false true false false) := by
  refine returnsInHanded_of_change_sized (C := Tryz.checked) own started (by kernel_rfl) Tryz.func11
    (ChangeSpec.witness6 (enc := enc) (C := Tryz.checked) false ⟨#[], #[.slice none 0 0, .slice none 0 0], []⟩ 8 (by kernel_rfl) (by kernel_rfl) (by kernel_rfl) (by kernel_rfl)) ?_
  intro W base args ds gs before hval0 hW hcnd hsz0 _
  have hval : ∀ (j : Nat) t v, Tryz.f11.params[j]? = some t → args[j]? = some v → Value.okWide Tryz.prog W .any base t v := hval0
  have hsz : (DataW.weightsEach Tryz.prog (Tryz.f11.params.toList ++ Rows.tracedSpec.plain.varTypes Tryz.prog) (ds ++ gs)).all (· ≤ reachBytes) = true := hsz0
  have hW' := hW
  obtain ⟨p, q, hA0, hV, rfl, hfz, hnd⟩ := hW
  have hA : DataW.TrodAll enc Tryz.prog W 0 (fun _ => true) true Tryz.f11.params.toList args.toList ds p := hA0
  rw [Tryz.params11] at hA hval hsz
  obtain ⟨v0, vs0, d0, ds0, p0, q0, hargs, rfl, rfl, h0, r0⟩ := trodAll_cons hA
  obtain ⟨v1, vs1, d1, ds1, p1, q1, rfl, rfl, rfl, h1, r1⟩ := trodAll_cons r0
  obtain ⟨rfl, rfl, rfl⟩ := trodAll_nil r1
  obtain rfl : args = #[v0, v1] := by cases args; simp_all
  obtain ⟨rfl, rfl⟩ := trodVars_none hV
  clear hA0 hval0 hsz0
  have hlt : ∀ x ∈ p0 ++ (p1 ++ []), x.block < W.heap.size := fun x hx => hW'.lt x (by simpa using hx)
  have hargs0 : ∀ (W' : World), Below W.heap.size W W' → DataW.Trod enc Tryz.prog W' 0 (fun b => decide (b < W.heap.size)) true 35 v0 d0 p0 :=
    fun W' hn => Below.trod laid (by kernel_rfl) (of_decide_eq_true (by kernel_rfl)) h0 hn (fun x hx => hlt x (by simp [hx]))
  have hargs1 : ∀ (W' : World), Below W.heap.size W W' → DataW.Trod enc Tryz.prog W' 0 (fun b => decide (b < W.heap.size)) true 58 v1 d1 p1 :=
    fun W' hn => Below.trod laid (by kernel_rfl) (of_decide_eq_true (by kernel_rfl)) h1 hn (fun x hx => hlt x (by simp [hx]))
  obtain ⟨a0, l0, c0, rfl⟩ := okWide_slice Tryz.underlying35 (hval 0 35 v0 rfl rfl)
  obtain ⟨a1, l1, c1, rfl⟩ := okWide_slice Tryz.underlying58 (hval 1 58 v1 rfl rfl)
  obtain ⟨fuel, hf⟩ := h0
  obtain ⟨fuel1, hf1⟩ := h1
  obtain ⟨pp, bs, cap, e, hc, hch, hs0⟩ := bytes_of (v := .slice a0 l0 c0) (x := (d0, p0)) (by simpa [Value.cells] using hf)
  injection e with e1 e2 e3
  subst e1; subst e2; subst e3
  obtain ⟨qq, pins, pcap, e, hP, hs1⟩ := bools_of (v := .slice a1 l1 c1) (x := (d1, p1)) (by simpa [Value.cells] using hf1)
  injection e with e1 e2 e3
  subst e1; subst e2; subst e3
  have hc2 : c0 ≤ 140737488355328 := by
    rcases hs0 with h | ⟨es, sp, h, h2⟩
    · omega
    · have h' : d0 = .slice es sp := h
      subst h'
      have := sized_slice hsz (j := 0) (t := 35) (e := 5) rfl rfl Tryz.underlying35
      rw [bByte] at this
      simp only [reachBytes] at this
      omega
  have hpl : pins.length ≤ 140737488355328 := by
    rcases hs1 with h | ⟨es, sp, h, h2⟩
    · omega
    · have h' : d1 = .slice es sp := h
      subst h'
      have := sized_slice hsz (j := 1) (t := 58) (e := 4) rfl rfl Tryz.underlying58
      rw [bBool] at this
      simp only [reachBytes] at this
      omega
  refine (traced_any W a0 a1 c0 c1 bs pins hch hc hc2 hP hpl).mono fun e W' ⟨he, bel⟩ => ?_
  subst he
  exact ⟨_, rfl, _, _, _, [], p0 ++ (p1 ++ []), [], hW', trodAll_mk1 (shut_bool Tryz.underlying4 _), trodAll_cons_mk (hargs0 W' bel) (trodAll_cons_mk (hargs1 W' bel) trodAll_mk0), rfl, bel.frame _, fun h => by cases h⟩

theorem over : Rows.tracedRow.holds Tryz.pinned (OpenSpec.ofChange Rows.tracedSpec) :=
  OpenClaim.holds_of_wide 11 Tryz.f11 rfl rfl rfl rfl rfl rfl rfl ⟨rfl, rfl, rfl, rfl, rfl⟩ rfl rfl rfl rfl rfl (by kernel_rfl) Tryz.func11 (by kernel_rfl)
    (of_decide_eq_true (by kernel_rfl)) (by unfold Func.isWrapper; first | (rw [if_pos (by decide +kernel)]; kernel_rfl) | (rw [if_neg (by decide +kernel)]; exact ⟨rfl, rfl⟩))
    (fun os started H enc _ => lifted os started H enc)

end Go.Proofs.YtcgjliflnnklnaaGreat.traced
namespace Go.Proofs.YtcgjliflnnklnaaGreat

theorem traced_holds : Rows.TracedSaid := traced.over

#print axioms traced_holds

end Go.Proofs.YtcgjliflnnklnaaGreat
