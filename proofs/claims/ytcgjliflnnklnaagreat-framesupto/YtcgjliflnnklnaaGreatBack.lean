/-
  What is given back: back; and lists that are nil.
-/
import Derived.Test.YtcgjliflnnklnaaGreatLent
import Derived.Deep.QuietTactic
import Derived.BigQuiet
import Derived.Lib.SliceRun
namespace Go.Proofs.YtcgjliflnnklnaaGreat
open Go.RowKit

set_option maxRecDepth 100000 in
set_option maxHeartbeats 400000 in
theorem lent_nil (w : World) :
    Calls Tryz.prog 70 #[.string ⟨#[]⟩, .bool true] w fun e w' => e = .returned (.slice none 0 0) ∧ w' = w := by
  go_enter Tryz.func70, Tryz.ntmps70
  go_wp2
  go_ret
  exact ⟨rfl, rfl⟩

set_option maxRecDepth 100000 in
set_option maxHeartbeats 400000 in
theorem back_nil (w : World) :
    Calls Tryz.prog 72 #[.slice none 0 0, .string ⟨#[]⟩] w fun e w' => e = .returned (.bool true) ∧ w' = w := by
  have hnil := fun (w : World) (a : Option Addr) (n c : Nat) => Lib.run_eql_slice_nil (P := Tryz.prog) w 35 5 a n c 0 0 und_bytes
  go_enter Tryz.func72, Tryz.ntmps72
  go_wp2
  go_ret
  exact ⟨rfl, rfl⟩

set_option maxRecDepth 100000 in
set_option maxHeartbeats 400000 in
theorem scannerFeed_nil (B : Nat) (w : World) :
    Calls Tryz.prog 57 #[.pointer (some ⟨B, 0, none⟩), .slice none 0 0] w fun e w' => e = .returned (.slice none 0 0) ∧ w' = w := by
  go_enter Tryz.func57, Tryz.ntmps57
  go_wp2
  go_loop [5, 10] (fun v i => v = .slice none 0 0 ∧ i = .int .i64 0) (fun _ _ => 0)
  case atStart => exact ⟨rfl, rfl⟩
  case round =>
    obtain ⟨rfl, rfl⟩ := hrel
    go_wp2
    go_ret
    exact ⟨rfl, rfl⟩

set_option maxRecDepth 100000 in
set_option maxHeartbeats 400000 in
theorem scanFeed_nil (B : Nat) (w : World) :
    Calls Tryz.prog 71 #[.pointer (some ⟨B, 0, none⟩), .slice none 0 0] w fun e w' => e = .returned (.slice none 0 0) ∧ w' = w := by
  go_enter Tryz.func71, Tryz.ntmps71
  go_wp2_with fail
  refine (scannerFeed_nil B _).mono ?_
  rintro e w1 ⟨rfl, rfl⟩
  go_wp2
  go_ret
  exact ⟨rfl, rfl⟩

theorem lent_str {w : World} {g c : Nat} {s : ByteArray} (h : LentAt w g s.data.toList) : (convert 35 9 (.slice (some ⟨g, 0, none⟩) s.size c)).run Tryz.prog w = .ok (.string s) w := by
  have hl : s.data.toList.length = s.size := by simp
  have := run_convert_bytes_back (P := Tryz.prog) w 35 9 5 ⟨g, 0, none⟩ c s.data.toList und_bytes und_u8 und_str
    (fun j hj => by
      have hb := h.bytes j hj
      rw [Nat.zero_add] at hb
      rw [show (⟨g, 0, none⟩ : Addr).add j = ⟨g, j, none⟩ from by unfold Addr.add; split <;> simp_all]; exact hb)
  rw [hl] at this
  rw [this, ← ba_eq (h := s) rfl]

set_option maxRecDepth 100000 in
set_option maxHeartbeats 1000000 in
theorem back_any (s : ByteArray) (g : Nat) (w : World) (hs : s.size ≤ 10000000) (h : LentAt w g s.data.toList) :
    Calls Tryz.prog 72 #[.slice (some ⟨g, 0, none⟩) s.size (s.size + 8), .string s] w fun e w' => e = .returned (.bool true) ∧ w.grownBy w' (some g) ∧ w'.heap.size = w.heap.size := by
  have hconv := lent_str (c := s.size + 8) h
  have hlen : s.data.toList.length = s.size := by simp
  have HR : Hid (RowAt w g 5 1 (s.size + 8) ∧ ∀ j, j < 8 → w.cell? ⟨g, s.size + j, none⟩ = some (.int .u8 77)) := by have := h.row; have h2 := h.spare; rw [hlen] at this h2; exact ⟨this, h2⟩
  clear h
  have hnil := fun (w : World) (a : Option Addr) (n c : Nat) => Lib.run_eql_slice_nil (P := Tryz.prog) w 35 5 a n c 0 0 und_bytes
  go_enter Tryz.func72, Tryz.ntmps72
  go_wp2
  go_loopw [5, 7] (fun b i wr => ∃ k : Nat, k ≤ s.size + 8 ∧ b = .bool true ∧ i = .int .i64 k ∧ RowAt wr g 5 1 (s.size + 8) ∧ (∀ j, k ≤ s.size + j → j < 8 → wr.cell? ⟨g, s.size + j, none⟩ = some (.int .u8 77)) ∧ w.grownBy wr (some g) ∧ wr.heap.size = w.heap.size) (fun _ i _ => s.size + 8 - (intOf i).toNat)
  case atStart => exact ⟨0, by omega, by simp, rfl, HR.out.1, fun j _ hj => HR.out.2 j hj, World.grownBy.refl _ _, rfl⟩
  case round =>
    obtain ⟨k, hk, rfl, rfl, p0, p1, p2, p3⟩ := hrel
    have HP : Hid (RowAt wr g 5 1 (s.size + 8) ∧ (∀ j, k ≤ s.size + j → j < 8 → wr.cell? ⟨g, s.size + j, none⟩ = some (.int .u8 77)) ∧ w.grownBy wr (some g) ∧ wr.heap.size = w.heap.size) := ⟨p0, p1, p2, p3⟩
    clear p0 p1 p2 p3 HR hconv
    by_cases hlt : k < s.size + 8
    · obtain ⟨u, hu⟩ := HP.out.1.there k (by omega)
      have hfu := HP.out.1.free k
      have HN : Hid (RowAt (wr.setCell ⟨g, k, none⟩ (.int .u8 78)) g 5 1 (s.size + 8) ∧ (∀ j, k + 1 ≤ s.size + j → j < 8 → (wr.setCell ⟨g, k, none⟩ (.int .u8 78)).cell? ⟨g, s.size + j, none⟩ = some (.int .u8 77)) ∧ w.grownBy (wr.setCell ⟨g, k, none⟩ (.int .u8 78)) (some g) ∧ (wr.setCell ⟨g, k, none⟩ (.int .u8 78)).heap.size = w.heap.size) :=
        ⟨HP.out.1.setCell _ _ _, fun j h1 h2 => by rw [World.cell?_setCell_other _ _ _ _ (addr_ne _ _ _ (by omega))]; exact HP.out.2.1 j (by omega) h2, grown_trans HP.out.2.2.1 (grown_set _ _ _ _), by simpa using HP.out.2.2.2⟩
      by_cases hin : k < s.size
      · have hin' : (k : Int) < (s.size : Int) := by omega
        clear HP
        go_wp2
        go_roundw
        case rel => exact ⟨k + 1, by omega, rfl, by go_num, HN.out⟩
        case measure => simp [intOf]; omega
      · have hcell : wr.cell? ⟨g, k, none⟩ = some (.int .u8 77) := by
          have := HP.out.2.1 (k - s.size) (by omega) (by omega); rw [show s.size + (k - s.size) = k from by omega] at this; exact this
        have hd : decide ((k : Int) < (s.size : Int)) = false := by rw [decide_eq_false_iff_not]; omega
        clear HP hu
        go_wp2
        go_roundw
        case rel => exact ⟨k + 1, by omega, rfl, by go_num, HN.out⟩
        case measure => simp [intOf]; omega
    · go_wp2
      go_ret
      exact ⟨rfl, HP.out.2.2⟩

theorem pv_get (ps : List Pk) (k : Nat) (h : k < ps.length) : (pvals ps)[k * 3]? = some (.int .i64 (ps[k].seq : Int)) ∧ (pvals ps)[k * 3 + 1]? = some (.string ⟨ps[k].body.toArray⟩) ∧ (pvals ps)[k * 3 + 2]? = some (.bool ps[k].bad) := by
  induction ps generalizing k with
  | nil => simp at h
  | cons p r ih =>
    cases k with
    | zero => exact ⟨rfl, rfl, rfl⟩
    | succ k =>
      have hk : k < r.length := by simpa using h
      have := ih k hk
      have e : pvals (p :: r) = p.cells ++ pvals r := by simp [pvals]
      have hc : p.cells.length = 3 := rfl
      rw [e, List.getElem?_append_right (by rw [hc]; omega), List.getElem?_append_right (by rw [hc]; omega), List.getElem?_append_right (by rw [hc]; omega), hc]
      rw [show (k + 1) * 3 - 3 = k * 3 from by omega, show (k + 1) * 3 + 1 - 3 = k * 3 + 1 from by omega, show (k + 1) * 3 + 2 - 3 = k * 3 + 2 from by omega]
      simpa using this

theorem own3_cases {w : World} {base n : Nat} {v : Value} {xs : List Value} (h : w.ownsRow base 152 3 v n xs) : (n = 0 ∧ v = .slice none 0 0) ∨ ∃ g c, v = .slice (some ⟨g, 0, none⟩) n c := by
  rcases h.2 with ⟨e, e2⟩ | ⟨g, cap, _, e, _⟩
  · exact .inl ⟨e2, e⟩
  · exact .inr ⟨g, cap, e⟩

set_option maxRecDepth 100000 in
set_option maxHeartbeats 2000000 in
theorem same_any (ba bb : Nat) (va vb : Value) (ps : List Pk) (w : World) (hl : ps.length ≤ 4194304) (ha : w.ownsRow ba 152 3 va ps.length (pvals ps)) (hb : w.ownsRow bb 152 3 vb ps.length (pvals ps)) (hna : ps = [] → va = .slice none 0 0) (hnb : ps = [] → vb = .slice none 0 0) :
    Calls Tryz.prog 74 #[va, vb] w fun e w' => e = .returned (.bool true) ∧ ∃ n, w' = w.drewN n := by
  by_cases hp : ps = []
  · obtain rfl := hna hp
    obtain rfl := hnb hp
    clear ha hb hna hnb hp hl
    go_enter Tryz.func74, Tryz.ntmps74
    go_wp2
    go_loop [5] (fun i => i = .int .i64 0) (fun _ => 0)
    case atStart => exact rfl
    case round =>
      subst hrel
      go_wp2
      go_ret
      exact ⟨rfl, 0, rfl⟩
  · have hpos : 0 < ps.length := by cases ps with | nil => exact absurd rfl hp | cons _ _ => simp
    rcases own3_cases ha with ⟨h0, _⟩ | ⟨ga, ca, rfl⟩
    · omega
    rcases own3_cases hb with ⟨h0, _⟩ | ⟨gb, cb, rfl⟩
    · omega
    have HC : Hid (∀ k (h : k < ps.length), (w.cell? ⟨ga, k * 3, none⟩ = some (.int .i64 (ps[k].seq : Int)) ∧ w.cell? ⟨ga, k * 3 + 1, none⟩ = some (.string ⟨ps[k].body.toArray⟩) ∧ w.cell? ⟨ga, k * 3 + 2, none⟩ = some (.bool ps[k].bad)) ∧ (w.cell? ⟨gb, k * 3, none⟩ = some (.int .i64 (ps[k].seq : Int)) ∧ w.cell? ⟨gb, k * 3 + 1, none⟩ = some (.string ⟨ps[k].body.toArray⟩) ∧ w.cell? ⟨gb, k * 3 + 2, none⟩ = some (.bool ps[k].bad))) := by
      intro k h
      obtain ⟨q0, q1, q2⟩ := pv_get ps k h
      exact ⟨⟨(ha.cellAt _ (by omega)).trans q0, (ha.cellAt _ (by omega)).trans q1, (ha.cellAt _ (by omega)).trans q2⟩, ⟨(hb.cellAt _ (by omega)).trans q0, (hb.cellAt _ (by omega)).trans q1, (hb.cellAt _ (by omega)).trans q2⟩⟩
    clear ha hb hna hnb hp
    go_enter Tryz.func74, Tryz.ntmps74
    go_wp2
    go_loopw [5] (fun i wr => ∃ k : Nat, k ≤ ps.length ∧ i = .int .i64 k ∧ ∃ n, wr = w.drewN n) (fun i _ => ps.length - (intOf i).toNat)
    case atStart => exact ⟨0, Nat.zero_le _, rfl, 0, rfl⟩
    case round =>
      obtain ⟨k, hk, rfl, n, hwr⟩ := hrel
      by_cases hlt : k < ps.length
      · obtain ⟨⟨a0, a1, a2⟩, b0, b1, b2⟩ := HC.out k hlt
        generalize ps[k] = p at *
        obtain ⟨sq, bd, ba⟩ := p
        simp only at a0 a1 a2 b0 b1 b2
        generalize (⟨bd.toArray⟩ : ByteArray) = bdy at *
        have hx0 : wr.cell? ⟨ga, k * 3, none⟩ = some (.int .i64 (sq : Int)) := by rw [hwr]; exact a0
        have hx1 : wr.cell? ⟨ga, k * 3 + 1, none⟩ = some (.string bdy) := by rw [hwr]; exact a1
        have hx2 : wr.cell? ⟨ga, k * 3 + 2, none⟩ = some (.bool ba) := by rw [hwr]; exact a2
        have hy0 : wr.cell? ⟨gb, k * 3, none⟩ = some (.int .i64 (sq : Int)) := by rw [hwr]; exact b0
        have hy1 : wr.cell? ⟨gb, k * 3 + 1, none⟩ = some (.string bdy) := by rw [hwr]; exact b1
        have hy2 : wr.cell? ⟨gb, k * 3 + 2, none⟩ = some (.bool ba) := by rw [hwr]; exact b2
        have HW : Hid (wr = w.drewN n) := hwr
        clear hwr a0 a1 a2 b0 b1 b2
        have hkI : (k : Int) < (ps.length : Int) := by omega
        go_wp2_with fail
        go_quiet (fail)
        go_wp2
        go_roundw
        case rel => exact ⟨k + 1, by omega, by go_num, n + nq, by rw [HW.out, World.drewN_drewN]⟩
        case measure => simp [intOf]; omega
      · have HW : Hid (wr = w.drewN n) := hwr
        clear hwr
        go_wp2
        go_ret
        exact ⟨rfl, n, HW.out⟩

end Go.Proofs.YtcgjliflnnklnaaGreat
