/-
  What is lent, and given back: lent, back.
-/
import Derived.Test.YtcgjliflnnklnaaGreatOwnP
import Derived.Lib.Strings
namespace Go.Proofs.YtcgjliflnnklnaaGreat
open Go.RowKit

theorem wpList_copy_str {P : Program} (w : World) {ops : Array Oper} {rest : List Oper} {o : Oper} {a : Act} {Q : Exit → Act → World → Prop} (hgd : o.guard = none) (d s : Operand) (dT sT : TypeId)
    (ho : o.op = .call { callee := .builtin .copy, args := #[d, s], argTypes := #[dT, sT] }) (elem : TypeId) (i : TypeInfo) (hu : P.underlying dT = some (.slice elem)) (hi : P.info? elem = some i)
    (g dLen dCap : Nat) (hd : a.eval d = .slice (some ⟨g, 0, none⟩) dLen dCap) (x : ByteArray) (hs : a.eval s = .string x) (hle : x.size ≤ dLen)
    (hth : ∀ j, j < x.size → (w.cell? ⟨g, j, none⟩).isSome = true) (hfr : ∀ j, j < x.size → w.frozen? ⟨g, j, none⟩ = false)
    (h : wpList P ops Q rest (a.put o.dst (goInt x.size)) (w.setCells g 0 (vals x.data.toList))) : wpList P ops Q (o :: rest) a w := by
  refine wpList_plain hgd fun K hK => ?_
  have hmin : Nat.min x.size dLen = x.size := Nat.min_eq_left hle
  have hl : (vals x.data.toList).length = x.size := by rw [vals_length]; simp
  have hst := run_storeCells_cells (P := P) g 0 (vals x.data.toList) 0 w (fun j hj => by rw [hl] at hj; simpa using hth j hj) (fun j hj => by rw [hl] at hj; simpa using hfr j hj) (by intro v hv; simp [vals] at hv; obtain ⟨c, _, rfl⟩ := hv; rfl)
  have hrun : (Builtin.copy_ #[dT, sT] o.type #[.slice (some ⟨g, 0, none⟩) dLen dCap, .string x]).run P w = .ok (goInt x.size) (w.setCells g 0 (vals x.data.toList)) := by
    simp [Builtin.copy_, run_underlying hu, Builtin.lenOf, Builtin.firstCells, sizeOf, typeInfo, hi, hmin]
    have e : List.map (fun b : UInt8 => Value.int .u8 (b.toNat : Int)) x.data.toList = vals x.data.toList := rfl
    rw [e, List.take_of_length_le (by rw [hl]; omega), hst]; rfl
  unfold Oper.wp
  simp [execOp, ho, resolve, invoke, builtin, hd, hs, hrun, Result.andThen]
  exact hK _ _ h

structure LentAt (w : World) (g : Nat) (l : List UInt8) : Prop where
  row : RowAt w g 5 1 (l.length + 8)
  bytes : BytesAt w g 0 l
  spare : ∀ j, j < 8 → w.cell? ⟨g, l.length + j, none⟩ = some (.int .u8 77)

theorem copied {w : World} {g : Nat} {l : List UInt8} {cap : Nat} (hr : RowAt w g 5 1 cap) (hl : l.length ≤ cap) : BytesAt (w.setCells g 0 (vals l)) g 0 l := by
  intro i hi
  have := World.cell?_setCells_in g (vals l) 0 w (fun j hj => by rw [vals_length] at hj; obtain ⟨u, hu⟩ := hr.there (0 + j) (by omega); rw [hu]; rfl) i (by rw [vals_length]; exact hi)
  rw [this]; simp [vals]

theorem setCells_grown (g : Nat) : ∀ (vs : List Value) (o : Nat) (w : World), w.grownBy (w.setCells g o vs) (some g) ∧ (w.setCells g o vs).heap.size = w.heap.size
  | [], _, w => ⟨World.grownBy.refl _ _, rfl⟩
  | v :: r, o, w => by
    obtain ⟨h1, h2⟩ := setCells_grown g r (o + 1) (w.setCell ⟨g, o, none⟩ v)
    exact ⟨grown_trans (grown_set w g o v) h1, h2.trans (by simp)⟩

theorem below_of_grown {w0 w w' : World} {g : Nat} (hb : Below w0.heap.size w0 w) (hg : w.grownBy w' (some g)) (hl : w0.heap.size ≤ g) : Below w0.heap.size w0 w' := hb.grown hg hb.size (fun k e => by injection e with e; omega)

theorem bytes_set {w : World} {g o : Nat} {l : List UInt8} {v : Value} (h : BytesAt w g 0 l) (ho : l.length ≤ o) : BytesAt (w.setCell ⟨g, o, none⟩ v) g 0 l := by
  intro i hi
  rw [World.cell?_setCell_other _ _ _ _ (addr_ne _ _ _ (by omega))]; exact h i hi
theorem spare_set {w : World} {g n k : Nat} {u : Value} (h : ∀ j, j < k → w.cell? ⟨g, n + j, none⟩ = some (.int .u8 77)) (hu : w.cell? ⟨g, n + k, none⟩ = some u) :
    ∀ j, j < k + 1 → (w.setCell ⟨g, n + k, none⟩ (.int .u8 77)).cell? ⟨g, n + j, none⟩ = some (.int .u8 77) := by
  intro j hj
  by_cases e : j = k
  · subst e; exact World.cell?_setCell_same _ _ _ hu
  · rw [World.cell?_setCell_other _ _ _ _ (addr_ne _ _ _ (by omega))]; exact h j (by omega)

theorem row_of_own {w : World} {base g n : Nat} {xs : List Value} (h : w.ownsRow base 5 1 (.slice (some ⟨g, 0, none⟩) n n) n xs) : RowAt w g 5 1 n := by
  rcases h.2 with ⟨e, _⟩ | ⟨g', cap, cur, e, _, h1, _, _, h2, _⟩
  · simp at e
  · injection e with e1 e2 e3; injection e1 with e1; injection e1 with e1; subst e1 e3; exact ⟨cur, h1, h2⟩

theorem empty_size {s : ByteArray} (h : s.toList.isEmpty = true) : s.size = 0 := by
  rw [Lib.toList_data] at h
  rw [size_toList, List.isEmpty_iff.1 h]; rfl

set_option maxRecDepth 100000 in
set_option maxHeartbeats 1000000 in
theorem lent_any (s : ByteArray) (b : Bool) (w : World) (hs : s.size ≤ 10000000) (hn : ¬ (s.size = 0 ∧ b = true)) :
    Calls Tryz.prog 70 #[.string s, .bool b] w fun e w' => e = .returned (.slice (some ⟨w.heap.size, 0, none⟩) s.size (s.size + 8)) ∧ LentAt w' w.heap.size s.data.toList ∧ Below w.heap.size w w' := by
  obtain ⟨i0, hi, hz0, hz1, hz2⟩ := info_parts inf_u8
  have hm : i0.bytes * (s.size + 8) ≤ 281474976710656 := by rw [hz2]; omega
  have hcase : (s.toList.isEmpty = false) ∨ (s.toList.isEmpty = true ∧ b = false) := by
    cases hq : s.toList.isEmpty with
    | false => exact .inl rfl
    | true => exact .inr ⟨rfl, by cases b with
      | false => rfl
      | true => exact absurd ⟨empty_size hq, rfl⟩ hn⟩
  clear hn
  have hlen : s.data.toList.length = s.size := by simp
  rcases hcase with hq | ⟨hq, rfl⟩
  all_goals
    go_enter Tryz.func70, Tryz.ntmps70
    go_wp2_with (first | (at_make; go_must (refine wpList_make_full _ rfl _ _ 35 rfl w.heap.size 5 i0 (.int .u8 0) 1 und_bytes hi hz0 hz1 .i64 .i64 _ _ (s.size + 8) rfl rfl (by omega) (by omega) hm (by unfold maxLen; omega) (Nat.le_refl _) ?_; intro w1 hown1 hgrow1; have HR : Hid (RowAt w1 w.heap.size 5 1 (s.size + 8) ∧ Below w.heap.size w w1) := ⟨row_of_own hown1, (Below.refl _ _).grown hgrow1 (Nat.le_refl _) (by simp)⟩; clear hown1 hgrow1)) | (refine wpList_copy_str _ rfl (.tmp 16) (.tmp 17) 35 9 rfl 5 i0 und_bytes hi w.heap.size (s.size + 8) (s.size + 8) rfl s rfl (by omega) ?_ ?_ ?_; (intro j hj; obtain ⟨u, hu⟩ := HR.out.1.there j (by omega); rw [hu]; rfl); (intro j hj; exact HR.out.1.free j)))
    have HC : Hid (RowAt (w1.setCells w.heap.size 0 (vals s.data.toList)) w.heap.size 5 1 (s.size + 8) ∧ BytesAt (w1.setCells w.heap.size 0 (vals s.data.toList)) w.heap.size 0 s.data.toList ∧ Below w.heap.size w (w1.setCells w.heap.size 0 (vals s.data.toList))) :=
      ⟨RowAt.setCells _ _ _ _ HR.out.1, copied HR.out.1 (by omega), below_of_grown HR.out.2 (setCells_grown _ _ _ _).1 (Nat.le_refl _)⟩
    generalize w1.setCells w.heap.size 0 (vals s.data.toList) = w2 at *
    clear HR
    go_loopw [6] (fun i wr => ∃ k : Nat, k ≤ 8 ∧ i = .int .i64 ((s.size : Int) + (k : Int)) ∧ RowAt wr w.heap.size 5 1 (s.size + 8) ∧ BytesAt wr w.heap.size 0 s.data.toList ∧ Below w.heap.size w wr ∧ ∀ j, j < k → wr.cell? ⟨w.heap.size, s.size + j, none⟩ = some (.int .u8 77)) (fun i _ => s.size + 8 - (intOf i).toNat)
    case atStart => exact ⟨0, by omega, by go_num, HC.out.1, HC.out.2.1, HC.out.2.2, by simp⟩
    case round =>
      clear HC
      obtain ⟨k, hk, rfl, p0, p1, p2, p3⟩ := hrel
      have HP : Hid (RowAt wr w.heap.size 5 1 (s.size + 8) ∧ BytesAt wr w.heap.size 0 s.data.toList ∧ Below w.heap.size w wr ∧ ∀ j, j < k → wr.cell? ⟨w.heap.size, s.size + j, none⟩ = some (.int .u8 77)) := ⟨p0, p1, p2, p3⟩
      clear p0 p1 p2 p3
      by_cases hlt : k < 8
      · obtain ⟨u, hu⟩ := HP.out.1.there (s.size + k) (by omega)
        have hfu := HP.out.1.free (s.size + k)
        go_wp2
        go_roundw
        case rel => exact ⟨k + 1, by omega, by go_num, HP.out.1.setCell _ _ _, bytes_set HP.out.2.1 (by omega), HP.out.2.2.1.setCell (Nat.le_refl _) _, spare_set HP.out.2.2.2 hu⟩
        case measure => simp [intOf]; omega
      · have hk8 : k = 8 := by omega
        subst hk8
        go_wp2
        go_ret
        exact ⟨rfl, ⟨by rw [hlen]; exact HP.out.1, HP.out.2.1, by rw [hlen]; exact HP.out.2.2.2⟩, HP.out.2.2.1⟩

end Go.Proofs.YtcgjliflnnklnaaGreat
