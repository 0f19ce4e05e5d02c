/-
  Proved: styletkeep.Pieces answers true at every input, and each argument reads afterwards as it read before.
  Conditions: none beyond the row's own.
-/
import Derived.Test.YtcgjliflnnklnaaGreatRows
import Derived.Test.YtcgjliflnnklnaaGreatSxE
import Derived.ProofKit
import Derived.OpenShut
import Derived.SizedLaws
import Derived.Carry
import Derived.Deep.Slices
namespace Go.Proofs.YtcgjliflnnklnaaGreat.pieces
open Go.ChangeShapes Go.WideShapes Go.ChangeAt Go.RowKit Go.Deep

theorem own : ownKnob Tryz.prog.godebug = none := by kernel_rfl
theorem laid : laidOutB Tryz.prog = true := by kernel_rfl
theorem cByte : Tryz.prog.cellsOf 5 = 1 := by kernel_rfl
theorem cInt : Tryz.prog.cellsOf 3 = 1 := by kernel_rfl
theorem cWord : Tryz.prog.cellsOf 67 = 3 := by kernel_rfl
theorem bByte : Tryz.prog.bytesOf 5 = 1 := by kernel_rfl
theorem bInt : Tryz.prog.bytesOf 3 = 8 := by kernel_rfl
theorem bWord : Tryz.prog.bytesOf 67 = 24 := by kernel_rfl

theorem u8_is {a : Int} (h : (Lit.int .u8 a).wf = true) : ((UInt8.ofNat a.toNat).toNat : Int) = a := by
  have := bounds_u8 h
  simp; omega

theorem lt_of {W : World} {b o : Nat} {v : Value} (h : W.cell? ⟨b, o, none⟩ = some v) : b < W.heap.size := World.block_lt_of_cell? W ⟨b, o, none⟩ h

section
variable {H : Type} {enc : TypeId × Value → H}

theorem bytes_of {W : World} {fuel : Nat} {v : Value} {x : DataW H × List MemPlace} (h : DataW.trod enc Tryz.prog W 0 (fun _ => true) true fuel 35 [v] = some x) :
    ∃ (p : Option Addr) (bs : List UInt8) (cap : Nat), v = .slice p bs.length cap ∧ bs.length ≤ cap ∧ ChV W.heap.size W v bs ∧ (cap = 0 ∨ ∃ es sp : List (DataW H), x.1 = .slice es sp ∧ es.length + sp.length = cap) := by
  rcases open_ints Tryz.underlying35 Tryz.underlying5 cByte h with ⟨e, _⟩ | ⟨a, len, cap, zs, e, _, hl, hm, hz, rfl, hcell, hwf⟩
  · simp only [List.cons.injEq, and_true] at e
    subst e
    exact ⟨none, [], 0, rfl, Nat.le_refl _, ⟨none, 0, rfl, fun h => absurd rfl h⟩, .inl rfl⟩
  · simp only [List.cons.injEq, and_true] at e
    subst e
    simp only [if_true] at hz
    have ln : ((zs.take len).map fun z => UInt8.ofNat z.toNat).length = len := by simp; omega
    refine ⟨some a, (zs.take len).map fun z => UInt8.ofNat z.toNat, cap, by rw [ln], by omega, ⟨some a, cap, by rw [ln], fun hne => ?_⟩, .inr ⟨_, _, rfl, ?_⟩⟩
    · have h0 : 0 < len := by
        rcases Nat.eq_zero_or_pos len with h | h
        · subst h; simp at hne
        · exact h
      obtain ⟨b, off, spot⟩ := a
      have h1 := hcell 0 (by omega)
      have hs : spot = none := by simpa [Addr.add] using World.cell?_spot h1
      subst hs
      refine ⟨b, off, rfl, ?_, fun i hi => ?_⟩
      · exact lt_of (by simpa [Addr.add] using h1)
      · rw [ln] at hi
        have h2 := hcell i (by omega)
        have ea : (⟨b, off, none⟩ : Addr).add i = ⟨b, off + i, none⟩ := by simp [Addr.add]
        rw [ea] at h2
        rw [h2]
        have hg : zs.getD i 0 = zs[i]'(by omega) := by simp [List.getD, List.getElem?_eq_getElem (show i < zs.length by omega)]
        rw [hg]
        simp only [List.getElem_map, List.getElem_take]
        rw [u8_is (hwf _ (List.getElem_mem _))]
    · simp [lits]; omega

set_option maxRecDepth 100000 in
theorem words_of {W : World} {fuel : Nat} {v : Value} {x : DataW H × List MemPlace} (h : DataW.trod enc Tryz.prog W 0 (fun _ => true) true fuel 61 [v] = some x) :
    ∃ (q : Option Addr) (m : Nat) (cap : Nat), v = .slice q m cap ∧ (∀ i, i < m → WdAt W q i) ∧ (m = 0 ∨ ∃ es sp : List (DataW H), x.1 = .slice es sp ∧ m ≤ es.length + sp.length) := by
  rcases open_slice Tryz.underlying61 h with ⟨e, _⟩ | ⟨a, len, cap, m, n, D, Pl, e, _, hl, hm, hz, rfl, hcell⟩
  · simp only [List.cons.injEq, and_true] at e
    subst e
    exact ⟨none, 0, 0, rfl, fun i h => by omega, .inl rfl⟩
  · simp only [List.cons.injEq, and_true] at e
    subst e
    simp only [if_true] at hz
    subst hz
    refine ⟨some a, len, m, rfl, fun i hi => ?_, .inr ⟨_, _, rfl, by simp⟩⟩
    obtain ⟨cs', h1, h2⟩ := hcell i (by omega)
    rw [cWord] at h1
    obtain ⟨_, hlen, hcs⟩ := World.cells?_some h1
    obtain ⟨xs, n2, _, _, hlen2, hxl, hf⟩ := DataW.trod_struct Tryz.underlying67 h2
    match cs', hlen, xs, hxl with
    | [v0, v1, v2], _, [y0, y1, y2], _ =>
      have f0 : DataW.trod enc Tryz.prog W 0 (fun _ => true) true n2 3 (([v0, v1, v2].drop 0).take (Tryz.prog.cellsOf 3)) = some y0 := hf 0 _ rfl
      have f1 : DataW.trod enc Tryz.prog W 0 (fun _ => true) true n2 3 (([v0, v1, v2].drop 1).take (Tryz.prog.cellsOf 3)) = some y1 := hf 1 _ rfl
      have f2 : DataW.trod enc Tryz.prog W 0 (fun _ => true) true n2 3 (([v0, v1, v2].drop 2).take (Tryz.prog.cellsOf 3)) = some y2 := hf 2 _ rfl
      rw [cInt] at f0 f1 f2
      simp only [List.drop, List.take] at f0 f1 f2
      obtain ⟨kd, e0, _, w0⟩ := DataW.trod_int Tryz.underlying3 f0
      obtain ⟨nn, e1, _, w1⟩ := DataW.trod_int Tryz.underlying3 f1
      obtain ⟨wy, e2, _, w2⟩ := DataW.trod_int Tryz.underlying3 f2
      simp only [List.cons.injEq, and_true] at e0 e1 e2
      subst e0 e1 e2
      have c0 := hcs 0 (by decide)
      have c1 := hcs 1 (by decide)
      have c2 := hcs 2 (by decide)
      obtain ⟨b, off, spot⟩ := a
      have hs : spot = none := by
        obtain ⟨cs0, g1, _⟩ := hcell 0 (by omega)
        rw [cWord] at g1
        obtain ⟨_, hl0, hc0⟩ := World.cells?_some g1
        match cs0, hl0, hc0 with
        | [u0, u1, u2], _, hc0 =>
          have q : W.cell? (((⟨b, off, spot⟩ : Addr).add (0 * 3)).add 0) = some u0 := hc0 0 (by decide)
          simpa [Addr.add] using World.cell?_spot q
      subst hs
      have ea : ∀ j, ((⟨b, off, none⟩ : Addr).add (i * 3)).add j = ⟨b, off + i * 3 + j, none⟩ := fun j => by rw [Go.Deep.add_add]; unfold Addr.add; split <;> simp_all [Nat.add_assoc]
      rw [ea] at c0 c1 c2
      have b0 := bounds_i64 w0
      have b1 := bounds_i64 w1
      have b2 := bounds_i64 w2
      exact ⟨b, off, kd, nn, wy, rfl, lt_of c1, c0, c1, c2, by omega, by omega, by omega, by omega, by omega, by omega⟩

theorem ints_of {W : World} {fuel : Nat} {v : Value} {x : DataW H × List MemPlace} (h : DataW.trod enc Tryz.prog W 0 (fun _ => true) true fuel 30 [v] = some x) :
    ∃ (q : Option Addr) (cuts : Nat → Int) (n cap : Nat), v = .slice q n cap ∧ (∀ i, i < n → -9223372036854775808 ≤ cuts i ∧ cuts i ≤ 9223372036854775807 ∧ ∃ b off, q = some ⟨b, off, none⟩ ∧ b < W.heap.size ∧ W.cell? ⟨b, off + i, none⟩ = some (.int .i64 (cuts i))) ∧
      (n = 0 ∨ ∃ es sp : List (DataW H), x.1 = .slice es sp ∧ n ≤ es.length + sp.length) := by
  rcases open_ints Tryz.underlying30 Tryz.underlying3 cInt h with ⟨e, _⟩ | ⟨a, len, cap, zs, e, _, hl, hm, hz, rfl, hcell, hwf⟩
  · simp only [List.cons.injEq, and_true] at e
    subst e
    exact ⟨none, fun _ => 0, 0, 0, rfl, fun i h => by omega, .inl rfl⟩
  · simp only [List.cons.injEq, and_true] at e
    subst e
    simp only [if_true] at hz
    refine ⟨some a, fun i => zs.getD i 0, len, cap, rfl, fun i hi => ?_, .inr ⟨_, _, rfl, by simp [lits]; omega⟩⟩
    have h2 := hcell i (by omega)
    have hb := bounds_i64 (hwf (zs.getD i 0) (by rw [List.getD_eq_getElem?_getD, List.getElem?_eq_getElem (show i < zs.length by omega)]; exact List.getElem_mem _))
    have hb' : -9223372036854775808 ≤ zs.getD i 0 ∧ zs.getD i 0 ≤ 9223372036854775807 := by omega
    obtain ⟨b, off, spot⟩ := a
    have hs : spot = none := by simpa [Addr.add] using World.cell?_spot (hcell 0 (by omega))
    subst hs
    have ea : (⟨b, off, none⟩ : Addr).add i = ⟨b, off + i, none⟩ := by simp [Addr.add]
    rw [ea] at h2
    exact ⟨hb'.1, hb'.2, b, off, rfl, lt_of h2, h2⟩
end

set_option maxRecDepth 100000 in
theorem lifted (os : Os) (started : os.Started) (H : Type) (enc : TypeId × Value → H) :
    ReturnsInHanded {} Tryz.checked os 13 .any (Rows.piecesSpec.pre6 enc Tryz.prog Tryz.f13 Rows.piecesRow.domain false) (Rows.piecesSpec.post enc Tryz.prog Tryz.f13 false true false false) := by
  refine returnsInHanded_of_change_sized (C := Tryz.checked) own started (by kernel_rfl) Tryz.func13
    (ChangeSpec.witness6 (enc := enc) (C := Tryz.checked) false ⟨#[], #[.slice none 0 0, .slice none 0 0, .slice none 0 0], []⟩ 8 (by kernel_rfl) (by kernel_rfl) (by kernel_rfl) (by kernel_rfl)) ?_
  intro W base args ds gs before hval0 hW hcnd hsz0 _
  have hval : ∀ (j : Nat) t v, Tryz.f13.params[j]? = some t → args[j]? = some v → Value.okWide Tryz.prog W .any base t v := hval0
  have hsz : (DataW.weightsEach Tryz.prog (Tryz.f13.params.toList ++ Rows.piecesSpec.plain.varTypes Tryz.prog) (ds ++ gs)).all (· ≤ reachBytes) = true := hsz0
  have hW' := hW
  obtain ⟨p, q, hA0, hV, rfl, hfz, hnd⟩ := hW
  have hA : DataW.TrodAll enc Tryz.prog W 0 (fun _ => true) true Tryz.f13.params.toList args.toList ds p := hA0
  rw [Tryz.params13] at hA hval hsz
  obtain ⟨v0, vs0, d0, ds0, p0, q0, hargs, rfl, rfl, h0, r0⟩ := trodAll_cons hA
  obtain ⟨v1, vs1, d1, ds1, p1, q1, rfl, rfl, rfl, h1, r1⟩ := trodAll_cons r0
  obtain ⟨v2, vs2, d2, ds2, p2, q2, rfl, rfl, rfl, h2, r2⟩ := trodAll_cons r1
  obtain ⟨rfl, rfl, rfl⟩ := trodAll_nil r2
  obtain rfl : args = #[v0, v1, v2] := by cases args; simp_all
  obtain ⟨rfl, rfl⟩ := trodVars_none hV
  clear hA0 hval0 hsz0
  have hlt : ∀ x ∈ p0 ++ (p1 ++ (p2 ++ [])), x.block < W.heap.size := fun x hx => hW'.lt x (by simpa using hx)
  have hargs0 : ∀ (W' : World), Below W.heap.size W W' → DataW.Trod enc Tryz.prog W' 0 (fun b => decide (b < W.heap.size)) true 35 v0 d0 p0 :=
    fun W' hn => Below.trod laid (by kernel_rfl) (of_decide_eq_true (by kernel_rfl)) h0 hn (fun x hx => hlt x (by simp [hx]))
  have hargs1 : ∀ (W' : World), Below W.heap.size W W' → DataW.Trod enc Tryz.prog W' 0 (fun b => decide (b < W.heap.size)) true 61 v1 d1 p1 :=
    fun W' hn => Below.trod laid (by kernel_rfl) (of_decide_eq_true (by kernel_rfl)) h1 hn (fun x hx => hlt x (by simp [hx]))
  have hargs2 : ∀ (W' : World), Below W.heap.size W W' → DataW.Trod enc Tryz.prog W' 0 (fun b => decide (b < W.heap.size)) true 30 v2 d2 p2 :=
    fun W' hn => Below.trod laid (by kernel_rfl) (of_decide_eq_true (by kernel_rfl)) h2 hn (fun x hx => hlt x (by simp [hx]))
  obtain ⟨a0, l0, c0, rfl⟩ := okWide_slice Tryz.underlying35 (hval 0 35 v0 rfl rfl)
  obtain ⟨a1, l1, c1, rfl⟩ := okWide_slice Tryz.underlying61 (hval 1 61 v1 rfl rfl)
  obtain ⟨a2, l2, c2, rfl⟩ := okWide_slice Tryz.underlying30 (hval 2 30 v2 rfl rfl)
  obtain ⟨fuel, hf⟩ := h0
  obtain ⟨fuel1, hf1⟩ := h1
  obtain ⟨fuel2, hf2⟩ := h2
  obtain ⟨pp, bs, cap, e, hc, hch, hs0⟩ := bytes_of (v := .slice a0 l0 c0) (x := (d0, p0)) (by simpa [Value.cells] using hf)
  injection e with e1 e2 e3
  subst e1; subst e2; subst e3
  obtain ⟨qq, m, qcap, e, hP, hs1⟩ := words_of (v := .slice a1 l1 c1) (x := (d1, p1)) (by simpa [Value.cells] using hf1)
  injection e with e1 e2 e3
  subst e1; subst e2; subst e3
  obtain ⟨rr, cuts, nc, rcap, e, hQ, hs2⟩ := ints_of (v := .slice a2 l2 c2) (x := (d2, p2)) (by simpa [Value.cells] using hf2)
  injection e with e1 e2 e3
  subst e1; subst e2; subst e3
  have hc2 : c0 ≤ 140737488355328 := by
    rcases hs0 with h | ⟨es, sp, h, h2⟩
    · omega
    · have h' : d0 = .slice es sp := h
      subst h'
      have := sized_slice hsz (j := 0) (t := 35) (e := 5) rfl rfl Tryz.underlying35
      rw [bByte] at this
      simp only [reachBytes] at this
      omega
  have hm : l1 ≤ 140737488355328 := by
    rcases hs1 with h | ⟨es, sp, h, h2⟩
    · omega
    · have h' : d1 = .slice es sp := h
      subst h'
      have := sized_slice hsz (j := 1) (t := 61) (e := 67) rfl rfl Tryz.underlying61
      rw [bWord] at this
      simp only [reachBytes] at this
      omega
  have hn : l2 ≤ 140737488355328 := by
    rcases hs2 with h | ⟨es, sp, h, h2⟩
    · omega
    · have h' : d2 = .slice es sp := h
      subst h'
      have := sized_slice hsz (j := 2) (t := 30) (e := 3) rfl rfl Tryz.underlying30
      rw [bInt] at this
      simp only [reachBytes] at this
      omega
  refine (pieces_any W a0 a1 a2 c0 c1 c2 bs l1 l2 cuts hch hc hc2 hP hm hQ hn).mono fun e W' ⟨he, bel⟩ => ?_
  subst he
  exact ⟨_, rfl, _, _, _, [], p0 ++ (p1 ++ (p2 ++ [])), [], hW', trodAll_mk1 (shut_bool Tryz.underlying4 _), trodAll_cons_mk (hargs0 W' bel) (trodAll_cons_mk (hargs1 W' bel) (trodAll_cons_mk (hargs2 W' bel) trodAll_mk0)), rfl, bel.frame _, fun h => by cases h⟩

theorem over : Rows.piecesRow.holds Tryz.pinned (OpenSpec.ofChange Rows.piecesSpec) :=
  OpenClaim.holds_of_wide 13 Tryz.f13 rfl rfl rfl rfl rfl rfl rfl ⟨rfl, rfl, rfl, rfl, rfl⟩ rfl rfl rfl rfl rfl (by kernel_rfl) Tryz.func13 (by kernel_rfl)
    (of_decide_eq_true (by kernel_rfl)) (by unfold Func.isWrapper; first | (rw [if_pos (by decide +kernel)]; kernel_rfl) | (rw [if_neg (by decide +kernel)]; exact ⟨rfl, rfl⟩))
    (fun os started H enc _ => lifted os started H enc)

end Go.Proofs.YtcgjliflnnklnaaGreat.pieces
namespace Go.Proofs.YtcgjliflnnklnaaGreat

theorem pieces_holds : Rows.PiecesSaid := pieces.over

#print axioms pieces_holds

end Go.Proofs.YtcgjliflnnklnaaGreat
