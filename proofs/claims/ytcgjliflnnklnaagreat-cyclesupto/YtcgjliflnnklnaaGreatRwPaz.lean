/-
  The two computers side by side: what a cycle of the document's wants of its state.
-/
import Derived.Test.YtcgjliflnnklnaaGreatJ07
import Derived.Test.YtcgjliflnnklnaaGreatJ08
import Derived.Test.YtcgjliflnnklnaaGreatJ15
namespace Go.Proofs.YtcgjliflnnklnaaGreat
open Go.RowKit

theorem rn_cat {w : World} {B : Nat} {s : PC} (h : CAt w B s) : Rn s :=
  ⟨⟨h.rmem, h.rcnt⟩, h.rdata, h.rba, h.rbx, h.rb_y, h.rbs, h.rbp, h.rbpc⟩

theorem pair_all : ((List.range 56).all fun i => (List.range 23).all fun m => !okPair i m || (m == 20) || (m == 21) || cdB (opName i m) (modeName m)) = true := by kernel_rfl
theorem pair_lt {i m : Nat} (h : okPair i m = true) : m < 23 := by
  unfold okPair at h
  simp only [Bool.or_eq_true, Bool.and_eq_true, beq_iff_eq] at h
  rcases h with h | ⟨_, h⟩
  · obtain ⟨e, he, q⟩ := List.any_eq_true.1 h
    have : ∀ e ∈ opTable, e.2.2 < 23 := by
      intro e he
      have := List.all_eq_true.1 (show (opTable.all fun e => decide (e.2.2 < 23)) = true from by kernel_rfl) e he
      exact of_decide_eq_true this
    have h1 := this e he
    simp only [Bool.and_eq_true, beq_iff_eq] at q
    omega
  · omega
theorem cd_pair {i m : Nat} (hi : i < 56) (h : okPair i m = true) : Cd (opName i m) (modeName m) := by
  have hm := pair_lt h
  have := List.all_eq_true.1 (List.all_eq_true.1 pair_all i (List.mem_range.2 hi)) m (List.mem_range.2 hm)
  rw [h] at this
  simp only [Bool.not_true, Bool.false_or, Bool.or_eq_true, beq_iff_eq] at this
  rcases this with (q | q) | q
  · subst q; exact .seq (.inl rfl)
  · subst q; exact .seq (.inr (.inl rfl))
  · exact cdB_ok q

theorem place_five (op md : BA) (r : RG) (h : List Int) : (placeR op md r h).2.1 ≤ 5 := by
  unfold placeR indexedR
  dsimp only
  generalize (if md = (b3 122 112 121) ∨ md = (b3 97 98 121) ∨ md = (b3 105 122 121) then r.Y else r.X) = ix
  generalize (if (h.length : Int) = 2 then hd h 1 else if (h.length : Int) = 3 then hd h 1 + r.X else hd h 1 + r.X + 1) = iz
  repeat' split
  all_goals (dsimp only; decide)
theorem mid_len {s : PC} {r : RG} {i m : Nat} {h : List Int} (q : Midst s r i m h) : h.length ≤ 7 := by
  cases q with
  | one b0 e => rw [e]; simp
  | plc _ _ q =>
    cases q with
    | acc a fr _ _ _ p w =>
      have h5 := place_five (insName i) (modeName m) r (h ++ [])
      rw [p []] at h5
      have h6 : (fr : Int) ≤ 5 := h5
      cases w with
      | due e => omega
      | was _ e => omega
      | new _ e => omega
    | _ => simp
  | rel _ q => cases q <;> simp
  | jmp _ q => cases q <;> simp
  | jsr _ q => cases q <;> simp
  | back _ q => cases q <;> simp
  | push _ q => cases q <;> simp
  | pull _ q => cases q <;> simp
  | int _ q => cases q <;> simp

theorem jmp_mode : ((List.range 56).all fun i => (List.range 23).all fun m => !okPair i m || !(decide (opName i m = b3 74 77 80)) || (m == 13) || (m == 14)) = true := by kernel_rfl
theorem mid_jmp {s : PC} {r : RG} {i m : Nat} {h : List Int} (hi : i < 56) (hok : okPair i m = true) (q : Midst s r i m h) (e : opName i m = b3 74 77 80) : h.length ≤ 4 := by
  have := List.all_eq_true.1 (List.all_eq_true.1 jmp_mode i (List.mem_range.2 hi)) m (List.mem_range.2 (pair_lt hok))
  rw [hok, e] at this
  simp only [Bool.not_true, Bool.false_or, decide_true, Bool.or_eq_true, beq_iff_eq] at this
  cases q with
  | one b0 e => rw [e]; simp
  | jmp _ q => cases q <;> simp
  | plc h1 h2 _ => omega
  | rel h1 _ => omega
  | jsr h1 _ => omega
  | back h1 _ => omega
  | push h1 _ => omega
  | pull h1 _ => omega
  | int h1 _ => omega

/-- What a cycle of the document's computer wants of its state. -/
theorem mid_want {s : PC} {t : RS} (H : Alike s t) (hj : t.r.jam = false) : (t.h ≠ [] → Cd t.op t.md) ∧ t.h.length ≤ 90 ∧ (t.op = b3 74 77 80 → t.h.length ≤ 4) ∧ Byt t.h := by
  cases H.way with
  | idle e _ _ => exact ⟨fun q => absurd e q, by rw [e]; simp, fun _ => by rw [e]; simp, by rw [e]; intro b hb; cases hb⟩
  | midst i m _ _ hi hok hop hmd _ hB _ hM => exact ⟨fun _ => by rw [hop, hmd]; exact cd_pair hi hok, by have := mid_len hM; omega, fun e => mid_jmp hi hok hM (hop.symm.trans e), hB⟩
  | jam e _ _ => rw [hj] at e; cases e

theorem peek_byte {t : RS} (hm : ∀ i, i < 65536 → 0 ≤ t.mem i ∧ t.mem i < 256) (k0 : 0 ≤ t.cnt ∧ t.cnt < 256) {a : Int} (ha : 0 ≤ a ∧ a < 65536) : 0 ≤ t.peek a ∧ t.peek a < 256 := by
  unfold RS.peek
  split
  · exact k0
  · split
    · split <;> decide
    · exact hm _ (by omega)

/-- The bus of a cycle is in its bounds. -/
theorem cycle_range {t : RS} (nmi irq : Bool) (rg : Rg t.r) (hB : Byt t.h) (hm : ∀ i, i < 65536 → 0 ≤ t.mem i ∧ t.mem i < 256) (k0 : 0 ≤ t.cnt ∧ t.cnt < 256) :
    (0 ≤ (t.cycle nmi irq).2.data ∧ (t.cycle nmi irq).2.data < 256) ∧ 0 ≤ (t.cycle nmi irq).2.addr ∧ (t.cycle nmi irq).2.addr < 65536 := by
  obtain ⟨a, ea⟩ : ∃ a, (if (t.pins nmi).h.length > 0 then (nextR (t.pins nmi).op (t.pins nmi).md (t.pins nmi).r (t.pins nmi).h).1 else ⟨(t.pins nmi).r.PC, false, 0, true⟩) = a := ⟨_, rfl⟩
  have rg1 : Rg (t.pins nmi).r := ⟨rg.A, rg.X, rg.Y, rg.S, rg.P, rg.PC⟩
  have oa : (a.wr = true → 0 ≤ a.data ∧ a.data < 256) ∧ a.addr < 65536 ∧ 0 ≤ a.addr := by
    rw [← ea]
    split
    · exact (ok_next _ _ _ _ rg1 hB).2
    · exact ⟨fun q => (by cases q), rg1.PC.2, rg1.PC.1⟩
  obtain ⟨tb, b, eb⟩ : ∃ tb b, (t.pins nmi).bus a = (tb, b) := ⟨_, _, rfl⟩
  have e : (t.cycle nmi irq).2 = b := by rw [cycle_turnR]; exact turn_bus ea eb
  rw [e]
  have e2 : ((t.pins nmi).bus a).2 = b := by rw [eb]
  rw [← e2]
  refine ⟨?_, by rw [bus_addr]; exact ⟨oa.2.2, oa.2.1⟩⟩
  unfold RS.bus
  by_cases q : a.wr = false
  · rw [if_pos q]; exact peek_byte (t := t.pins nmi) hm k0 ⟨oa.2.2, oa.2.1⟩
  · have q2 : a.wr = true := by cases h : a.wr; exact absurd h q; rfl
    rw [if_neg q]
    split
    · exact oa.1 q2
    · split <;> exact oa.1 q2

end Go.Proofs.YtcgjliflnnklnaaGreat
