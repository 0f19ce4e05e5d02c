/-
  Shifted holds.
-/
import Derived.Test.YtcgjliflnnklnaaGreatKpGx
import Derived.Test.YtcgjliflnnklnaaGreatGA
import Derived.Deep.DeepCutAuto
import Derived.Deep.QuietTactic
import Derived.BigQuiet
namespace Go.Proofs.YtcgjliflnnklnaaGreat
open Go.RowKit

theorem news_vals (w : World) (l : List UInt8) (t : TypeId) : ∀ j u, (vals l)[j]? = some u → (w.alloc (.cells (vals l).toArray t)).cell? ((⟨w.heap.size, 0, none⟩ : Addr).add j) = some u := bytes_news (bytes_lit w l t)

theorem third4 (w : World) (o1 o2 : Obj) (cs : Array Value) (t : TypeId) (i : Nat) : (((w.alloc o1).alloc o2).alloc (.cells cs t)).cell? ⟨w.heap.size + 1 + 1, i, none⟩ = cs[i]? := by
  have hs : ((w.alloc o1).alloc o2).heap.size = w.heap.size + 1 + 1 := by simp
  rw [← hs]; exact World.cell?_alloc_at _ _ _ _ rfl

def shExt (b : UInt8) (way : Nat) : List UInt8 := match way with
  | 0 => [169, b, 10, 106, 74, 42]
  | 1 => [6, 128, 102, 128, 70, 128, 38, 128]
  | 2 => [22, 128, 118, 128, 86, 128, 54, 128]
  | 3 => [14, 0, 3, 110, 0, 3, 78, 0, 3, 46, 0, 3]
  | _ => [30, 0, 3, 126, 0, 3, 94, 0, 3, 62, 0, 3]
theorem shCode_eq (c : Bool) (k b : UInt8) (way : Nat) : shCode c k b way = [flagB c, 162, k] ++ shExt b way ++ [2] := by
  unfold shCode shExt; rfl
theorem shExt_len (b : UInt8) (way : Nat) : 6 ≤ (shExt b way).length ∧ (shExt b way).length ≤ 12 := by
  unfold shExt; split <;> simp

/-- Where the byte is to be looked for. -/
def AdAt (w : World) (N gl : Nat) (va : Value) (way kn : Nat) : Prop :=
  (way = 0 ∧ va = .slice none 0 0) ∨
  (∃ g, N ≤ g ∧ g ≠ gl ∧ (way = 1 ∨ way = 2) ∧ va = .slice (some ⟨g, 0, none⟩) 1 1 ∧ w.cell? ⟨g, 0, none⟩ = some (.int .u8 (shAt way kn))) ∨
  (∃ g, N ≤ g ∧ g ≠ gl ∧ (way = 3 ∨ way = 4) ∧ va = .slice (some ⟨g, 0, none⟩) 2 2 ∧ w.cell? ⟨g, 0, none⟩ = some (.int .u8 (shAt way kn - 768)) ∧ w.cell? ⟨g, 1, none⟩ = some (.int .u8 3))

theorem AdAt.kept {w w' : World} {N gl gl' : Nat} {va : Value} {way kn : Nat} (h : AdAt w N gl va way kn) (hc : ∀ g o, g ≠ gl → w.cell? ⟨g, o, none⟩ ≠ none → w'.cell? ⟨g, o, none⟩ = w.cell? ⟨g, o, none⟩) (hg : gl' = gl ∨ w.heap.size ≤ gl') : AdAt w' N gl' va way kn := by
  rcases h with h | ⟨g, h1, h2, h3, h4, h5⟩ | ⟨g, h1, h2, h3, h4, h5, h6⟩
  · exact .inl h
  · exact .inr (.inl ⟨g, h1, by have := lt_of_cell (w := w) (b := g) (o := 0) (by rw [h5]; simp); omega, h3, h4, by rw [hc g 0 h2 (by rw [h5]; simp)]; exact h5⟩)
  · exact .inr (.inr ⟨g, h1, by have := lt_of_cell (w := w) (b := g) (o := 0) (by rw [h5]; simp); omega, h3, h4, by rw [hc g 0 h2 (by rw [h5]; simp)]; exact h5, by rw [hc g 1 h2 (by rw [h6]; simp)]; exact h6⟩)
theorem AdAt.below {w w' : World} {N gl : Nat} {va : Value} {way kn : Nat} (h : AdAt w N gl va way kn) (b : Below w.heap.size w w') : AdAt w' N gl va way kn :=
  h.kept (fun g o _ hn => b.cell (p := ⟨g, o, none⟩) (lt_of_cell hn)) (.inl rfl)

/-- A row of 32 bytes, of which the first k are b. -/
structure Fl (b : UInt8) (w : World) (L k : Nat) : Prop where
  c : ∀ j, j < 32 → w.cell? ⟨L, j, none⟩ = some (.int .u8 (if j < k then (b.toNat : Int) else 0))
  f : ∀ j, w.frozen? ⟨L, j, none⟩ = false
theorem Fl.set {b : UInt8} {w : World} {L k : Nat} (h : Fl b w L k) (hk : k < 32) : Fl b (w.setCell ⟨L, k, none⟩ (.int .u8 (b.toNat : Int))) L (k + 1) := by
  refine ⟨fun j hj => ?_, fun j => by rw [World.frozen?_setCell]; exact h.f j⟩
  by_cases e : j = k
  · subst e; rw [World.cell?_setCell_same _ _ _ (h.c j hj), if_pos (by omega)]
  · rw [World.cell?_setCell_other _ _ _ _ (cp_addr _ _ _ (fun x => e x.symm)), h.c j hj]
    by_cases q : j < k
    · rw [if_pos q, if_pos (by omega)]
    · rw [if_neg q, if_neg (by omega)]
theorem Fl.other {b : UInt8} {w : World} {L k M o : Nat} {v : Value} (h : Fl b w L k) (hne : M ≠ L) : Fl b (w.setCell ⟨M, o, none⟩ v) L k :=
  ⟨fun j hj => by rw [World.cell?_setCell_other _ _ _ _ (fun e => by injection e with e1 e2; exact hne e1)]; exact h.c j hj, fun j => by rw [World.frozen?_setCell]; exact h.f j⟩
theorem Fl.bytes {b : UInt8} {w : World} {L : Nat} (h : Fl b w L 32) : BytesAt w L 0 (List.replicate 32 b) := by
  intro i hi
  have hi' : i < 32 := by simpa using hi
  rw [Nat.zero_add, h.c i hi', if_pos hi', List.getElem_replicate]
theorem mk32 (w : World) : (Instr.makeSlice 35 (.int .i64 32) (.int .i64 32)).run Tryz.prog w = .ok (.slice (some ⟨w.heap.size, 0, none⟩) 32 32) (w.alloc (.cells (Array.replicate 32 (.int .u8 0)) 5)) := by kernel_rfl
theorem Fl.new (b : UInt8) (w : World) : Fl b (w.alloc (.cells (Array.replicate 32 (.int .u8 0)) 5)) w.heap.size 0 :=
  ⟨fun j hj => by rw [World.cell?_alloc_at _ _ _ _ rfl, if_neg (by omega)]; simp [hj], fun j => World.frozen?_alloc_at _ _ _ _ rfl⟩
theorem Fl.alloc {b : UInt8} {w : World} {L k : Nat} {o : Obj} (h : Fl b w L k) : Fl b (w.alloc o) L k := by
  have hl : L < w.heap.size := lt_of_cell (o := 0) (by rw [h.c 0 (by decide)]; simp)
  have e : (w.alloc o).heap[L]? = w.heap[L]? := Below.heap_alloc _ _ _ hl
  exact ⟨fun j hj => (World.cell?_of_block (a := ⟨L, j, none⟩) e).trans (h.c j hj), fun j => (World.frozen?_of_block (a := ⟨L, j, none⟩) e).trans (h.f j)⟩

theorem sh_says (way : Nat) (hw : way < 5) (c : Bool) (b k : UInt8) (hk : k.toNat < 16) (v1 v2 v3 v4 : Value) (R : Nat → Option Value) :
    ∃ r : RegI, runR (shN way) (shPC c k b way v1 v2 v3 v4 R) = some r ∧ bits .and .i64 r.P 1 = 0 ∧ (way = 0 → r.A = (b.toNat : Int)) ∧ (way ≠ 0 → ((shPC c k b way v1 v2 v3 v4 R).runN (shN way)).peek (shAt way k.toNat) = (b.toNat : Int)) := by
  have e := by_range (sh_all way hw c b v1 v2 v3 v4 R) k.toNat hk
  have ek : UInt8.ofNat k.toNat = k := by simp
  obtain ⟨a1, a2⟩ := shAcc_says ⟨b.toNat, b.toNat_lt⟩ c ((k.toNat : Int) == 0)
  obtain ⟨m1, m2⟩ := shMem_says ⟨b.toNat, b.toNat_lt⟩ c ((k.toNat : Int) == 0)
  rcases (show way = 0 ∨ way = 1 ∨ way = 2 ∨ way = 3 ∨ way = 4 from by omega) with rfl | rfl | rfl | rfl | rfl
  · unfold shRun shEnd at e
    rw [ek] at e
    injection e with e1 e2
    exact ⟨_, e1, a2, fun _ => a1, fun h => absurd rfl h⟩
  all_goals
    unfold shRun shEnd at e
    rw [ek] at e
    injection e with e1 e2
    exact ⟨_, e1, m2, fun h => by omega, fun _ => e2.trans m1⟩
theorem bel_drewN {N : Nat} {a b : World} (h : Below N a b) (n : Nat) : Below N a (b.drewN n) := by
  induction n with
  | zero => exact h
  | succ n ih => exact ⟨ih.os, ih.tape, ih.output, ih.size, ih.block⟩
theorem shN_lt (way : Nat) : shN way < 80 := by unfold shN; split <;> decide

set_option maxRecDepth 100000 in
set_option maxHeartbeats 4000000 in
theorem shifted_any (b x : UInt8) (wh : Int) (h1 : -9223372036854775808 ≤ wh) (h2 : wh ≤ 9223372036854775807) (c : Bool) (w : World) :
    Calls Tryz.prog 8 #[.int .u8 (b.toNat : Int), .int .u8 (x.toNat : Int), .int .i64 wh, .bool c] w fun e w' => e = .returned (.bool true) ∧ Below w.heap.size w w' := by
  have KN := known_any w
  have PK := fun w => pick_any wh 5 w (by decide) (by decide) h1 h2
  obtain ⟨i0, hi, hz0, hz1, hz2⟩ := info_parts inf_u8
  obtain ⟨fI, hfI, hfc⟩ : ∃ fI : Int, ((flagB c).toNat : Int) = fI ∧ Hid (fI = if c then 56 else 24) := ⟨_, rfl, by cases c <;> rfl⟩
  obtain ⟨k, hk, hkn⟩ : ∃ k : UInt8, bits .and .u8 (x.toNat : Int) 15 = (k.toNat : Int) ∧ Hid (k.toNat < 16) := by
    refine ⟨UInt8.ofNat (x.toNat % 16), ?_, ?_⟩
    · rw [and15]; simp; omega
    · show _ < _; simp; omega
  have HF := Hid.mk' hfI
  have k16 : (k.toNat : Int) < 16 := by have := hkn.out; omega
  clear hfI
  have hcc : (c = true ∧ fI = 56) ∨ (c = false ∧ fI = 24) := by have := hfc.out; cases c <;> simp_all
  rcases hcc with ⟨rfl, rfl⟩ | ⟨rfl, rfl⟩
  · go_enter Tryz.func8, Tryz.ntmps8
    go_upto_region 8 with (first | (go_at_call 16; refine KN.mono ?_; rintro e w1 ⟨rfl, hb1⟩; have HB1 := Hid.mk' hb1; have l1 := hb1.size; clear hb1 KN))
    have hown0 : Hid (∀ A, ((w1.alloc A).alloc (.cells #[.int .u8 56, .int .u8 162, .int .u8 (k.toNat : Int)] 5)).ownsRow w1.heap.size 5 1 (.slice (some ⟨w1.heap.size + 1, 0, none⟩) 3 3) 3 [.int .u8 56, .int .u8 162, .int .u8 (k.toNat : Int)]) := by
      intro A
      have q := World.ownsRow_lit (base := w1.heap.size) (e := 5) (size := 1) (w1.alloc A) #[.int .u8 56, .int .u8 162, .int .u8 (k.toNat : Int)] 3 (by simp) (by decide) rfl
      rwa [World.size_alloc] at q
    go_cut [30] from 29 to 29 (fun v wc => ∃ r : Nat, r < 5 ∧ v = .int .i64 r ∧ wc = (w1.alloc (.cells #[.int .u8 169] 5)).alloc (.cells #[.int .u8 56, .int .u8 162, .int .u8 (k.toNat : Int)] 5))
    case first =>
      go_wp2_with (first | (go_at_call 20; refine (PK _).mono ?_; rintro e w' ⟨⟨r, hr, rfl⟩, rfl⟩))
      go_meet
      exact ⟨r, by omega, rfl, rfl⟩
    case rest =>
    obtain ⟨r, hr5, rfl, rfl⟩ := hcut
    rename_i hK
    refine hK _ _ ?_
    clear hK
    go_cut [12, 13] from 30 to 61 (fun va vl wc => ∃ way g n cap, way < 5 ∧ vl = .slice (some ⟨g, 0, none⟩) n cap ∧ n = 3 + (shExt b way).length ∧ wc.ownsRow w1.heap.size 5 1 vl n (vals ([flagB true, 162, k] ++ shExt b way)) ∧ Below w1.heap.size w1 wc ∧ AdAt wc w1.heap.size g va way k.toNat)
    case first =>
      rcases (show r = 0 ∨ r = 1 ∨ r = 2 ∨ r = 3 ∨ r = 4 from by omega) with e | e | e | e | e
      · have hri : (r : Int) = 0 := by omega
        clear e
        have hnews0 : Hid (∀ A L, ∀ j u, (vals [169, b, 10, 106, 74, 42])[j]? = some u → (((w1.alloc A).alloc L).alloc (.cells (vals [169, b, 10, 106, 74, 42]).toArray 5)).cell? ((⟨w1.heap.size + 1 + 1, 0, none⟩ : Addr).add j) = some u) := by
          intro A L
          have q := news_vals ((w1.alloc A).alloc L) [169, b, 10, 106, 74, 42] 5
          simpa only [World.size_alloc] using q
        go_wp2_with (first | (at_builtin; refine wpList_append_lies _ rfl (.tmp 38) (.tmp 40) 35 rfl w1.heap.size 5 i0 (.int .u8 0) 1 1 und_bytes hi hz0 hz1 hz2 rfl (by decide) (.slice (some ⟨w1.heap.size + 1, 0, none⟩) 3 3) 3 [.int .u8 56, .int .u8 162, .int .u8 (k.toNat : Int)] rfl ((hown0.out _).alloc _) ⟨w1.heap.size + 1 + 1, 0, none⟩ 6 6 (vals [169, b, 10, 106, 74, 42]) rfl (by rfl) (hnews0.out _ _) (vals_one _) (by decide) (by decide) (by decide) (by simp; omega) _ rfl ?_; intro g1 cap1 w4 hown1 hgrow1 hat1 hlt1))
        go_meet
        case rel =>
        have hg1 : g1 = w1.heap.size + 1 ∨ w1.heap.size + 1 + 1 + 1 ≤ g1 := by
          rcases hat1 with q | q
          · left; simpa [Value.ownBlock] using q.symm
          · right; simp at q; omega
        refine ⟨0, g1, _, cap1, by decide, rfl, rfl, ?_, ?_, ?_⟩
        · have q := hown1
          rw [show vals ([flagB true, 162, k] ++ shExt b 0) = [.int .u8 56, .int .u8 162, .int .u8 (k.toNat : Int)] ++ vals [169, b, 10, 106, 74, 42] from rfl]
          exact q
        · exact (((((Below.refl _ _).alloc (Nat.le_refl _) _).alloc (by simp) _).alloc (by simp; omega) _).grown hgrow1 (by simp; omega) (fun j q => by simp [Value.ownBlock] at q; omega))
        · exact .inl ⟨rfl, rfl⟩
      · have hri : (r : Int) = 1 := by omega
        clear e
        have hnews0 : Hid (∀ A L C, ∀ j u, (vals [6, 128, 102, 128, 70, 128, 38, 128])[j]? = some u → ((((w1.alloc A).alloc L).alloc C).alloc (.cells (vals [6, 128, 102, 128, 70, 128, 38, 128]).toArray 5)).cell? ((⟨w1.heap.size + 1 + 1 + 1, 0, none⟩ : Addr).add j) = some u) := by
          intro A L C
          have q := news_vals (((w1.alloc A).alloc L).alloc C) [6, 128, 102, 128, 70, 128, 38, 128] 5
          simpa only [World.size_alloc] using q
        go_wp2_with (first | (at_builtin; refine wpList_append_lies _ rfl (.tmp 45) (.tmp 46) 35 rfl w1.heap.size 5 i0 (.int .u8 0) 1 1 und_bytes hi hz0 hz1 hz2 rfl (by decide) (.slice (some ⟨w1.heap.size + 1, 0, none⟩) 3 3) 3 [.int .u8 56, .int .u8 162, .int .u8 (k.toNat : Int)] rfl (((hown0.out _).alloc _).alloc _) ⟨w1.heap.size + 1 + 1 + 1, 0, none⟩ 8 8 (vals [6, 128, 102, 128, 70, 128, 38, 128]) rfl (by rfl) (hnews0.out _ _ _) (vals_one _) (by decide) (by decide) (by decide) (by simp; omega) _ rfl ?_; intro g1 cap1 w4 hown1 hgrow1 hat1 hlt1))
        go_meet
        case rel =>
        have hg1 : g1 = w1.heap.size + 1 ∨ w1.heap.size + 1 + 1 + 1 ≤ g1 := by
          rcases hat1 with q | q
          · left; simpa [Value.ownBlock] using q.symm
          · right; simp at q; omega
        refine ⟨1, g1, _, cap1, by decide, rfl, rfl, ?_, ?_, ?_⟩
        · have q := hown1
          rw [show vals ([flagB true, 162, k] ++ shExt b 1) = [.int .u8 56, .int .u8 162, .int .u8 (k.toNat : Int)] ++ vals [6, 128, 102, 128, 70, 128, 38, 128] from rfl]
          exact q
        · exact ((((((Below.refl _ _).alloc (Nat.le_refl _) _).alloc (by simp) _).alloc (by simp; omega) _).alloc (by simp; omega) _).grown hgrow1 (by simp; omega) (fun j q => by simp [Value.ownBlock] at q; omega))
        · have hcell : ∀ j, w4.cell? ⟨w1.heap.size + 1 + 1, j, none⟩ = (#[.int .u8 128] : Array Value)[j]? := fun j => (World.cell?_of_block (a := ⟨w1.heap.size + 1 + 1, j, none⟩) (hgrow1.block _ (by simp) (by simp [Value.ownBlock]))).trans ((World.cell?_of_block (a := ⟨w1.heap.size + 1 + 1, j, none⟩) (Below.heap_alloc _ _ _ (by simp))).trans (third4 _ _ _ _ _ j))
          exact .inr (.inl ⟨w1.heap.size + 1 + 1, by omega, by omega, by decide, rfl, hcell 0⟩)
      · have hri : (r : Int) = 2 := by omega
        clear e
        have hnews0 : Hid (∀ A L C, ∀ j u, (vals [22, 128, 118, 128, 86, 128, 54, 128])[j]? = some u → ((((w1.alloc A).alloc L).alloc C).alloc (.cells (vals [22, 128, 118, 128, 86, 128, 54, 128]).toArray 5)).cell? ((⟨w1.heap.size + 1 + 1 + 1, 0, none⟩ : Addr).add j) = some u) := by
          intro A L C
          have q := news_vals (((w1.alloc A).alloc L).alloc C) [22, 128, 118, 128, 86, 128, 54, 128] 5
          simpa only [World.size_alloc] using q
        go_wp2_with (first | (at_builtin; refine wpList_append_lies _ rfl (.tmp 53) (.tmp 54) 35 rfl w1.heap.size 5 i0 (.int .u8 0) 1 1 und_bytes hi hz0 hz1 hz2 rfl (by decide) (.slice (some ⟨w1.heap.size + 1, 0, none⟩) 3 3) 3 [.int .u8 56, .int .u8 162, .int .u8 (k.toNat : Int)] rfl (((hown0.out _).alloc _).alloc _) ⟨w1.heap.size + 1 + 1 + 1, 0, none⟩ 8 8 (vals [22, 128, 118, 128, 86, 128, 54, 128]) rfl (by rfl) (hnews0.out _ _ _) (vals_one _) (by decide) (by decide) (by decide) (by simp; omega) _ rfl ?_; intro g1 cap1 w4 hown1 hgrow1 hat1 hlt1))
        go_meet
        case rel =>
        have hg1 : g1 = w1.heap.size + 1 ∨ w1.heap.size + 1 + 1 + 1 ≤ g1 := by
          rcases hat1 with q | q
          · left; simpa [Value.ownBlock] using q.symm
          · right; simp at q; omega
        refine ⟨2, g1, _, cap1, by decide, rfl, rfl, ?_, ?_, ?_⟩
        · have q := hown1
          rw [show vals ([flagB true, 162, k] ++ shExt b 2) = [.int .u8 56, .int .u8 162, .int .u8 (k.toNat : Int)] ++ vals [22, 128, 118, 128, 86, 128, 54, 128] from rfl]
          exact q
        · exact ((((((Below.refl _ _).alloc (Nat.le_refl _) _).alloc (by simp) _).alloc (by simp; omega) _).alloc (by simp; omega) _).grown hgrow1 (by simp; omega) (fun j q => by simp [Value.ownBlock] at q; omega))
        · have hcell : ∀ j, w4.cell? ⟨w1.heap.size + 1 + 1, j, none⟩ = (#[.int .u8 (128 + (k.toNat : Int))] : Array Value)[j]? := fun j => (World.cell?_of_block (a := ⟨w1.heap.size + 1 + 1, j, none⟩) (hgrow1.block _ (by simp) (by simp [Value.ownBlock]))).trans ((World.cell?_of_block (a := ⟨w1.heap.size + 1 + 1, j, none⟩) (Below.heap_alloc _ _ _ (by simp))).trans (third4 _ _ _ _ _ j))
          exact .inr (.inl ⟨w1.heap.size + 1 + 1, by omega, by omega, by decide, rfl, hcell 0⟩)
      · have hri : (r : Int) = 3 := by omega
        clear e
        have hnews0 : Hid (∀ A L C, ∀ j u, (vals [14, 0, 3, 110, 0, 3, 78, 0, 3, 46, 0, 3])[j]? = some u → ((((w1.alloc A).alloc L).alloc C).alloc (.cells (vals [14, 0, 3, 110, 0, 3, 78, 0, 3, 46, 0, 3]).toArray 5)).cell? ((⟨w1.heap.size + 1 + 1 + 1, 0, none⟩ : Addr).add j) = some u) := by
          intro A L C
          have q := news_vals (((w1.alloc A).alloc L).alloc C) [14, 0, 3, 110, 0, 3, 78, 0, 3, 46, 0, 3] 5
          simpa only [World.size_alloc] using q
        go_wp2_with (first | (at_builtin; refine wpList_append_lies _ rfl (.tmp 59) (.tmp 60) 35 rfl w1.heap.size 5 i0 (.int .u8 0) 1 1 und_bytes hi hz0 hz1 hz2 rfl (by decide) (.slice (some ⟨w1.heap.size + 1, 0, none⟩) 3 3) 3 [.int .u8 56, .int .u8 162, .int .u8 (k.toNat : Int)] rfl (((hown0.out _).alloc _).alloc _) ⟨w1.heap.size + 1 + 1 + 1, 0, none⟩ 12 12 (vals [14, 0, 3, 110, 0, 3, 78, 0, 3, 46, 0, 3]) rfl (by rfl) (hnews0.out _ _ _) (vals_one _) (by decide) (by decide) (by decide) (by simp; omega) _ rfl ?_; intro g1 cap1 w4 hown1 hgrow1 hat1 hlt1))
        go_meet
        case rel =>
        have hg1 : g1 = w1.heap.size + 1 ∨ w1.heap.size + 1 + 1 + 1 ≤ g1 := by
          rcases hat1 with q | q
          · left; simpa [Value.ownBlock] using q.symm
          · right; simp at q; omega
        refine ⟨3, g1, _, cap1, by decide, rfl, rfl, ?_, ?_, ?_⟩
        · have q := hown1
          rw [show vals ([flagB true, 162, k] ++ shExt b 3) = [.int .u8 56, .int .u8 162, .int .u8 (k.toNat : Int)] ++ vals [14, 0, 3, 110, 0, 3, 78, 0, 3, 46, 0, 3] from rfl]
          exact q
        · exact ((((((Below.refl _ _).alloc (Nat.le_refl _) _).alloc (by simp) _).alloc (by simp; omega) _).alloc (by simp; omega) _).grown hgrow1 (by simp; omega) (fun j q => by simp [Value.ownBlock] at q; omega))
        · have hcell : ∀ j, w4.cell? ⟨w1.heap.size + 1 + 1, j, none⟩ = (#[.int .u8 0, .int .u8 3] : Array Value)[j]? := fun j => (World.cell?_of_block (a := ⟨w1.heap.size + 1 + 1, j, none⟩) (hgrow1.block _ (by simp) (by simp [Value.ownBlock]))).trans ((World.cell?_of_block (a := ⟨w1.heap.size + 1 + 1, j, none⟩) (Below.heap_alloc _ _ _ (by simp))).trans (third4 _ _ _ _ _ j))
          exact .inr (.inr ⟨w1.heap.size + 1 + 1, by omega, by omega, by decide, rfl, hcell 0, hcell 1⟩)
      · have hri : (r : Int) = 4 := by omega
        clear e
        have hnews0 : Hid (∀ A L C, ∀ j u, (vals [30, 0, 3, 126, 0, 3, 94, 0, 3, 62, 0, 3])[j]? = some u → ((((w1.alloc A).alloc L).alloc C).alloc (.cells (vals [30, 0, 3, 126, 0, 3, 94, 0, 3, 62, 0, 3]).toArray 5)).cell? ((⟨w1.heap.size + 1 + 1 + 1, 0, none⟩ : Addr).add j) = some u) := by
          intro A L C
          have q := news_vals (((w1.alloc A).alloc L).alloc C) [30, 0, 3, 126, 0, 3, 94, 0, 3, 62, 0, 3] 5
          simpa only [World.size_alloc] using q
        go_wp2_with (first | (at_builtin; refine wpList_append_lies _ rfl (.tmp 33) (.tmp 34) 35 rfl w1.heap.size 5 i0 (.int .u8 0) 1 1 und_bytes hi hz0 hz1 hz2 rfl (by decide) (.slice (some ⟨w1.heap.size + 1, 0, none⟩) 3 3) 3 [.int .u8 56, .int .u8 162, .int .u8 (k.toNat : Int)] rfl (((hown0.out _).alloc _).alloc _) ⟨w1.heap.size + 1 + 1 + 1, 0, none⟩ 12 12 (vals [30, 0, 3, 126, 0, 3, 94, 0, 3, 62, 0, 3]) rfl (by rfl) (hnews0.out _ _ _) (vals_one _) (by decide) (by decide) (by decide) (by simp; omega) _ rfl ?_; intro g1 cap1 w4 hown1 hgrow1 hat1 hlt1))
        go_meet
        case rel =>
        have hg1 : g1 = w1.heap.size + 1 ∨ w1.heap.size + 1 + 1 + 1 ≤ g1 := by
          rcases hat1 with q | q
          · left; simpa [Value.ownBlock] using q.symm
          · right; simp at q; omega
        refine ⟨4, g1, _, cap1, by decide, rfl, rfl, ?_, ?_, ?_⟩
        · have q := hown1
          rw [show vals ([flagB true, 162, k] ++ shExt b 4) = [.int .u8 56, .int .u8 162, .int .u8 (k.toNat : Int)] ++ vals [30, 0, 3, 126, 0, 3, 94, 0, 3, 62, 0, 3] from rfl]
          exact q
        · exact ((((((Below.refl _ _).alloc (Nat.le_refl _) _).alloc (by simp) _).alloc (by simp; omega) _).alloc (by simp; omega) _).grown hgrow1 (by simp; omega) (fun j q => by simp [Value.ownBlock] at q; omega))
        · have hcell : ∀ j, w4.cell? ⟨w1.heap.size + 1 + 1, j, none⟩ = (#[.int .u8 (k.toNat : Int), .int .u8 3] : Array Value)[j]? := fun j => (World.cell?_of_block (a := ⟨w1.heap.size + 1 + 1, j, none⟩) (hgrow1.block _ (by simp) (by simp [Value.ownBlock]))).trans ((World.cell?_of_block (a := ⟨w1.heap.size + 1 + 1, j, none⟩) (Below.heap_alloc _ _ _ (by simp))).trans (third4 _ _ _ _ _ j))
          exact .inr (.inr ⟨w1.heap.size + 1 + 1, by omega, by omega, by decide, rfl, (hcell 0).trans (by show some (Value.int .u8 (k.toNat : Int)) = some (.int .u8 (768 + (k.toNat : Int) - 768)); rw [show (768 + (k.toNat : Int) - 768) = (k.toNat : Int) from by omega]), hcell 1⟩)

    case rest =>
    obtain ⟨way, g, n, cap, hw5, rfl, hn, hOw, hBw, hAd⟩ := hcut
    have hxl := shExt_len b way
    generalize hX : shExt b way = X at *
    subst hn
    have HX := Hid.mk' hX
    have HOw := Hid.mk' hOw
    have HBw := Hid.mk' hBw
    have HAd := Hid.mk' hAd
    have lw := hBw.size
    clear hX hOw hBw hAd
    have mk := mk32
    go_wp2_with (first | (at_builtin; refine wpList_append_lies _ rfl (.tmp 62) (.tmp 63) 35 rfl w1.heap.size 5 i0 (.int .u8 0) 1 1 und_bytes hi hz0 hz1 hz2 rfl (by decide) (.slice (some ⟨g, 0, none⟩) (3 + X.length) cap) (3 + X.length) (vals ([flagB true, 162, k] ++ X)) rfl (HOw.out.alloc _) ⟨wc.heap.size, 0, none⟩ 1 1 [.int .u8 2] rfl rfl (one_new' _ _ _) (one_one _) (by decide) (by unfold maxLen; omega) (by omega) (by simp; omega) _ rfl ?_; intro g2 cap2 w5 hown2 hgrow2 hat2 hlt2; have HO2 := Hid.mk' hown2; have HG2 := Hid.mk' hgrow2; have HA2 := Hid.mk' hat2; clear hown2 hgrow2 hat2 hlt2))
    go_loopw [16] (fun i wr => ∃ kk : Nat, kk ≤ 32 ∧ i = .int .i64 kk ∧ Fl b wr w5.heap.size kk ∧ Fl b wr (w5.heap.size + 1) kk ∧ Below w5.heap.size w5 wr) (fun i _ => 32 - (intOf i).toNat)
    case atStart =>
      refine ⟨0, by omega, rfl, (Fl.new b w5).alloc, ?_, ((Below.refl _ _).alloc (Nat.le_refl _) _).alloc (by simp) _⟩
      have q := Fl.new b (w5.alloc (.cells (Array.replicate 32 (.int .u8 0)) 5))
      rwa [World.size_alloc] at q
    case round =>
      obtain ⟨kk, hkk, rfl, hL, hD, hB⟩ := hrel
      by_cases hl32 : kk < 32
      · have cL := hL.c kk hl32
        have cD := hD.c kk hl32
        rw [if_neg (Nat.lt_irrefl _)] at cL cD
        have fL := hL.f kk
        have fD := hD.f kk
        have HL := Hid.mk' hL
        have HD := Hid.mk' hD
        have HB := Hid.mk' hB
        clear hL hD hB
        go_wp2
        go_roundw
        case rel => exact ⟨kk + 1, by omega, by go_num, (HL.out.set hl32).other (by omega), (HD.out.other (by omega)).set hl32, (HB.out.setCell (Nat.le_refl _) _).setCell (by show w5.heap.size ≤ w5.heap.size + 1; omega) _⟩
        case measure => simp [intOf]; omega
      · have e32 : kk = 32 := by omega
        subst e32
        have HL := Hid.mk' hL.bytes
        have HD := Hid.mk' hD.bytes
        have HB := Hid.mk' hB
        have lr : w5.heap.size + 1 < wr.heap.size := lt_of_cell (o := 0) (by rw [hD.c 0 (by decide)]; simp)
        clear hL hD hB
        have hg2 := (HO2.out.lt g2 rfl)
        have HC2 := Hid.mk' (show BytesAt w5 g2 0 (shCode true k b way) from by
          rw [shCode_eq, HX.out]
          refine owns_bytes (base := w1.heap.size) (cap := cap2) (l := [flagB true, 162, k] ++ X ++ [2]) ?_
          have q := HO2.out
          have hlen : ([flagB true, 162, k] ++ X ++ [2]).length = 3 + X.length + 1 := by simp; omega
          rw [hlen, vals_append]
          exact q)
        have hgg : g2 = g ∨ (wc.alloc (.cells #[.int .u8 2] 5)).heap.size ≤ g2 := by
          rcases HA2.out with q | q
          · left; simpa [Value.ownBlock] using q.symm
          · right; rw [q]; exact Nat.le_refl _
        have AD5 := Hid.mk' (show AdAt w5 w1.heap.size g2 u12 way k.toNat from (HAd.out.below ((Below.refl _ _).alloc (Nat.le_refl _) (.cells #[.int .u8 2] 5))).kept (fun gg o hn hne => World.cell?_of_block (a := ⟨gg, o, none⟩) (HG2.out.block gg (lt_of_cell hne) (by intro q; simp [Value.ownBlock] at q; omega))) hgg)
        have ADr := Hid.mk' (AD5.out.below HB.out)
        have HBr := Hid.mk' (show Below w.heap.size w wr from (HB1.out.trans (((HBw.out.alloc lw _).grown HG2.out (by simp; omega) (fun k e => (HOw.out.lt k e).1)).mono l1)).trans (HB.out.mono (by have := HG2.out.size; simp at this; omega)))
        have lg2 : g2 < w5.heap.size := hg2.2
        have hlC : (shCode true k b way).length = 3 + X.length + 1 := by rw [shCode_eq, HX.out]; simp; omega
        have CM := computer_ok wr (.slice (some ⟨g2, 0, none⟩) (3 + X.length + 1) cap2) (.slice (some ⟨w5.heap.size, 0, none⟩) 32 32) (.slice (some ⟨w5.heap.size + 1, 0, none⟩) 32 32) (shCode true k b way) (List.replicate 32 b) (List.replicate 32 b)
          ⟨_, _, by rw [hlC], fun _ => ⟨g2, 0, rfl, by omega, bytes_below HC2.out HB.out lg2⟩⟩ ⟨_, _, rfl, fun _ => ⟨w5.heap.size, 0, rfl, by omega, HL.out⟩⟩ ⟨_, _, rfl, fun _ => ⟨w5.heap.size + 1, 0, rfl, by omega, HD.out⟩⟩ (by rw [hlC]; simp; omega)
        have HSY := Hid.mk' (sh_says way hw5 true b k hkn.out)
        have HSN := Hid.mk' (shN_lt way)
        clear hlC
        go_wp2_with fail
        refine CM.mono ?_
        rintro e w6 ⟨B, R, v4, hBB, rfl, hC, hb6⟩
        obtain ⟨rg, hrg, hP, hA0, hPk⟩ := HSY.out (.slice (some ⟨g2, 0, none⟩) (3 + X.length + 1) cap2) (.slice (some ⟨w5.heap.size, 0, none⟩) 32 32) (.slice (some ⟨w5.heap.size + 1, 0, none⟩) 32 32) v4 R
        have RN := runs_R (Tn.refl hC) 80 (shN way) HSN.out (by decide) rg hrg
        have HK6 := Hid.mk' hb6
        have HB6 := Hid.mk' (HBr.out.trans (hb6.mono HBr.out.size))
        have l6 := hb6.size
        have HP := Hid.mk' hP
        have HA0 := Hid.mk' hA0
        have HPk := Hid.mk' hPk
        clear CM hC hb6 HSY hrg hP hA0 hPk
        go_wp2_with fail
        refine RN.mono ?_
        rintro e w7 ⟨rfl, T7'⟩
        have T7 : Tn B ((shPC true k b way (.slice (some ⟨g2, 0, none⟩) (3 + X.length + 1) cap2) (.slice (some ⟨w5.heap.size, 0, none⟩) 32 32) (.slice (some ⟨w5.heap.size + 1, 0, none⟩) 32 32) v4 R).runN (shN way)) w6 w7 := T7'
        clear T7'
        have l7 := T7.g.size
        have lB := T7.c.lt
        have HB7 := Hid.mk' (below_grown HB6.out T7.g (by omega) (by omega))
        have HK : Hid (∀ gg o v, wr.cell? ⟨gg, o, none⟩ = some v → w7.cell? ⟨gg, o, none⟩ = some v) := by
          intro gg o v hv
          have lg := lt_of_cell (w := wr) (b := gg) (o := o) (by rw [hv]; simp)
          have q : w6.cell? ⟨gg, o, none⟩ = some v := (HK6.out.cell (p := ⟨gg, o, none⟩) lg).trans hv
          exact (grown_cell T7.g (by omega) (by rw [q]; simp)).trans q
        have PKK := fun o => mPeek_any (T7.alloc o) (shAt way k.toNat)
        have PKQ := fun (o : Obj) (n : Nat) => mPeek_any ((T7.alloc o).drewN n) (shAt way k.toNat)
        clear T7 RN
        simp only [RegI.val]
        have hP := HP.out
        rcases ADr.out with ⟨ew, rfl⟩ | ⟨ga, h1', h2', h3', rfl, c0⟩ | ⟨ga, h1', h2', h3', rfl, c0, c1⟩
        · have hA := HA0.out ew
          have hwb : IntKind.i64.wrap (b.toNat : Int) = (b.toNat : Int) := wrap_id8 _ (u8_r b).1 (u8_r b).2
          go_wp2
          go_ret
          exact ⟨rfl, HB7.out.alloc (by omega) _⟩
        · have c0 := HK.out _ _ _ c0
          have hpk := HPk.out (by omega)
          rw [hpk] at PKK
          have hwb : IntKind.i64.wrap (b.toNat : Int) = (b.toNat : Int) := wrap_id8 _ (u8_r b).1 (u8_r b).2
          have hsa : 0 ≤ shAt way k.toNat ∧ shAt way k.toNat < 256 := by rcases h3' with q | q <;> (subst q; show 0 ≤ (_ : Int) ∧ (_ : Int) < 256; simp only [shAt]; omega)
          have lga := lt_of_cell (w := w7) (b := ga) (o := 0) (by rw [c0]; simp)
          have nga : ga ≠ w7.heap.size := by omega
          generalize shAt way k.toNat = AT at *
          obtain ⟨s0, s1⟩ := hsa
          clear hpk
          go_wp2_with (first | (go_at_call 21; refine (PKK _).mono ?_; rintro e w' ⟨rfl, rfl⟩))
          go_ret
          exact ⟨rfl, HB7.out.alloc (by omega) _⟩
        · have c0 := HK.out _ _ _ c0
          have c1 := HK.out _ _ _ c1
          have hpk := HPk.out (by omega)
          have hwb : IntKind.i64.wrap (b.toNat : Int) = (b.toNat : Int) := wrap_id8 _ (u8_r b).1 (u8_r b).2
          have hsa : 768 ≤ shAt way k.toNat ∧ shAt way k.toNat < 1024 := by rcases h3' with q | q <;> (subst q; show 768 ≤ (_ : Int) ∧ (_ : Int) < 1024; simp only [shAt]; omega)
          have lga := lt_of_cell (w := w7) (b := ga) (o := 0) (by rw [c0]; simp)
          have nga : ga ≠ w7.heap.size := by omega
          obtain ⟨AT, hAT⟩ : ∃ AT : Int, AT = shAt way k.toNat - 768 := ⟨_, rfl⟩
          have eAT : shAt way k.toNat = AT + 768 := by omega
          rw [← hAT] at c0
          rw [hpk, eAT] at PKQ
          rw [eAT] at hsa
          obtain ⟨s0, s1⟩ := hsa
          have s0' : 0 ≤ AT := by omega
          have s1' : AT < 256 := by omega
          clear hpk hAT eAT PKK
          go_wp2_with fail
          go_quiet ((go_at_call 21; exact Calls.quiet_of_same (PKQ _ _)))
          go_wp2
          go_ret
          exact ⟨rfl, bel_drewN (HB7.out.alloc (by omega) _) _⟩
  · go_enter Tryz.func8, Tryz.ntmps8
    go_upto_region 8 with (first | (go_at_call 16; refine KN.mono ?_; rintro e w1 ⟨rfl, hb1⟩; have HB1 := Hid.mk' hb1; have l1 := hb1.size; clear hb1 KN))
    have hown0 : Hid (∀ A, ((w1.alloc A).alloc (.cells #[.int .u8 24, .int .u8 162, .int .u8 (k.toNat : Int)] 5)).ownsRow w1.heap.size 5 1 (.slice (some ⟨w1.heap.size + 1, 0, none⟩) 3 3) 3 [.int .u8 24, .int .u8 162, .int .u8 (k.toNat : Int)]) := by
      intro A
      have q := World.ownsRow_lit (base := w1.heap.size) (e := 5) (size := 1) (w1.alloc A) #[.int .u8 24, .int .u8 162, .int .u8 (k.toNat : Int)] 3 (by simp) (by decide) rfl
      rwa [World.size_alloc] at q
    go_cut [30] from 29 to 29 (fun v wc => ∃ r : Nat, r < 5 ∧ v = .int .i64 r ∧ wc = (w1.alloc (.cells #[.int .u8 169] 5)).alloc (.cells #[.int .u8 24, .int .u8 162, .int .u8 (k.toNat : Int)] 5))
    case first =>
      go_wp2_with (first | (go_at_call 20; refine (PK _).mono ?_; rintro e w' ⟨⟨r, hr, rfl⟩, rfl⟩))
      go_meet
      exact ⟨r, by omega, rfl, rfl⟩
    case rest =>
    obtain ⟨r, hr5, rfl, rfl⟩ := hcut
    rename_i hK
    refine hK _ _ ?_
    clear hK
    go_cut [12, 13] from 30 to 61 (fun va vl wc => ∃ way g n cap, way < 5 ∧ vl = .slice (some ⟨g, 0, none⟩) n cap ∧ n = 3 + (shExt b way).length ∧ wc.ownsRow w1.heap.size 5 1 vl n (vals ([flagB false, 162, k] ++ shExt b way)) ∧ Below w1.heap.size w1 wc ∧ AdAt wc w1.heap.size g va way k.toNat)
    case first =>
      rcases (show r = 0 ∨ r = 1 ∨ r = 2 ∨ r = 3 ∨ r = 4 from by omega) with e | e | e | e | e
      · have hri : (r : Int) = 0 := by omega
        clear e
        have hnews0 : Hid (∀ A L, ∀ j u, (vals [169, b, 10, 106, 74, 42])[j]? = some u → (((w1.alloc A).alloc L).alloc (.cells (vals [169, b, 10, 106, 74, 42]).toArray 5)).cell? ((⟨w1.heap.size + 1 + 1, 0, none⟩ : Addr).add j) = some u) := by
          intro A L
          have q := news_vals ((w1.alloc A).alloc L) [169, b, 10, 106, 74, 42] 5
          simpa only [World.size_alloc] using q
        go_wp2_with (first | (at_builtin; refine wpList_append_lies _ rfl (.tmp 38) (.tmp 40) 35 rfl w1.heap.size 5 i0 (.int .u8 0) 1 1 und_bytes hi hz0 hz1 hz2 rfl (by decide) (.slice (some ⟨w1.heap.size + 1, 0, none⟩) 3 3) 3 [.int .u8 24, .int .u8 162, .int .u8 (k.toNat : Int)] rfl ((hown0.out _).alloc _) ⟨w1.heap.size + 1 + 1, 0, none⟩ 6 6 (vals [169, b, 10, 106, 74, 42]) rfl (by rfl) (hnews0.out _ _) (vals_one _) (by decide) (by decide) (by decide) (by simp; omega) _ rfl ?_; intro g1 cap1 w4 hown1 hgrow1 hat1 hlt1))
        go_meet
        case rel =>
        have hg1 : g1 = w1.heap.size + 1 ∨ w1.heap.size + 1 + 1 + 1 ≤ g1 := by
          rcases hat1 with q | q
          · left; simpa [Value.ownBlock] using q.symm
          · right; simp at q; omega
        refine ⟨0, g1, _, cap1, by decide, rfl, rfl, ?_, ?_, ?_⟩
        · have q := hown1
          rw [show vals ([flagB false, 162, k] ++ shExt b 0) = [.int .u8 24, .int .u8 162, .int .u8 (k.toNat : Int)] ++ vals [169, b, 10, 106, 74, 42] from rfl]
          exact q
        · exact (((((Below.refl _ _).alloc (Nat.le_refl _) _).alloc (by simp) _).alloc (by simp; omega) _).grown hgrow1 (by simp; omega) (fun j q => by simp [Value.ownBlock] at q; omega))
        · exact .inl ⟨rfl, rfl⟩
      · have hri : (r : Int) = 1 := by omega
        clear e
        have hnews0 : Hid (∀ A L C, ∀ j u, (vals [6, 128, 102, 128, 70, 128, 38, 128])[j]? = some u → ((((w1.alloc A).alloc L).alloc C).alloc (.cells (vals [6, 128, 102, 128, 70, 128, 38, 128]).toArray 5)).cell? ((⟨w1.heap.size + 1 + 1 + 1, 0, none⟩ : Addr).add j) = some u) := by
          intro A L C
          have q := news_vals (((w1.alloc A).alloc L).alloc C) [6, 128, 102, 128, 70, 128, 38, 128] 5
          simpa only [World.size_alloc] using q
        go_wp2_with (first | (at_builtin; refine wpList_append_lies _ rfl (.tmp 45) (.tmp 46) 35 rfl w1.heap.size 5 i0 (.int .u8 0) 1 1 und_bytes hi hz0 hz1 hz2 rfl (by decide) (.slice (some ⟨w1.heap.size + 1, 0, none⟩) 3 3) 3 [.int .u8 24, .int .u8 162, .int .u8 (k.toNat : Int)] rfl (((hown0.out _).alloc _).alloc _) ⟨w1.heap.size + 1 + 1 + 1, 0, none⟩ 8 8 (vals [6, 128, 102, 128, 70, 128, 38, 128]) rfl (by rfl) (hnews0.out _ _ _) (vals_one _) (by decide) (by decide) (by decide) (by simp; omega) _ rfl ?_; intro g1 cap1 w4 hown1 hgrow1 hat1 hlt1))
        go_meet
        case rel =>
        have hg1 : g1 = w1.heap.size + 1 ∨ w1.heap.size + 1 + 1 + 1 ≤ g1 := by
          rcases hat1 with q | q
          · left; simpa [Value.ownBlock] using q.symm
          · right; simp at q; omega
        refine ⟨1, g1, _, cap1, by decide, rfl, rfl, ?_, ?_, ?_⟩
        · have q := hown1
          rw [show vals ([flagB false, 162, k] ++ shExt b 1) = [.int .u8 24, .int .u8 162, .int .u8 (k.toNat : Int)] ++ vals [6, 128, 102, 128, 70, 128, 38, 128] from rfl]
          exact q
        · exact ((((((Below.refl _ _).alloc (Nat.le_refl _) _).alloc (by simp) _).alloc (by simp; omega) _).alloc (by simp; omega) _).grown hgrow1 (by simp; omega) (fun j q => by simp [Value.ownBlock] at q; omega))
        · have hcell : ∀ j, w4.cell? ⟨w1.heap.size + 1 + 1, j, none⟩ = (#[.int .u8 128] : Array Value)[j]? := fun j => (World.cell?_of_block (a := ⟨w1.heap.size + 1 + 1, j, none⟩) (hgrow1.block _ (by simp) (by simp [Value.ownBlock]))).trans ((World.cell?_of_block (a := ⟨w1.heap.size + 1 + 1, j, none⟩) (Below.heap_alloc _ _ _ (by simp))).trans (third4 _ _ _ _ _ j))
          exact .inr (.inl ⟨w1.heap.size + 1 + 1, by omega, by omega, by decide, rfl, hcell 0⟩)
      · have hri : (r : Int) = 2 := by omega
        clear e
        have hnews0 : Hid (∀ A L C, ∀ j u, (vals [22, 128, 118, 128, 86, 128, 54, 128])[j]? = some u → ((((w1.alloc A).alloc L).alloc C).alloc (.cells (vals [22, 128, 118, 128, 86, 128, 54, 128]).toArray 5)).cell? ((⟨w1.heap.size + 1 + 1 + 1, 0, none⟩ : Addr).add j) = some u) := by
          intro A L C
          have q := news_vals (((w1.alloc A).alloc L).alloc C) [22, 128, 118, 128, 86, 128, 54, 128] 5
          simpa only [World.size_alloc] using q
        go_wp2_with (first | (at_builtin; refine wpList_append_lies _ rfl (.tmp 53) (.tmp 54) 35 rfl w1.heap.size 5 i0 (.int .u8 0) 1 1 und_bytes hi hz0 hz1 hz2 rfl (by decide) (.slice (some ⟨w1.heap.size + 1, 0, none⟩) 3 3) 3 [.int .u8 24, .int .u8 162, .int .u8 (k.toNat : Int)] rfl (((hown0.out _).alloc _).alloc _) ⟨w1.heap.size + 1 + 1 + 1, 0, none⟩ 8 8 (vals [22, 128, 118, 128, 86, 128, 54, 128]) rfl (by rfl) (hnews0.out _ _ _) (vals_one _) (by decide) (by decide) (by decide) (by simp; omega) _ rfl ?_; intro g1 cap1 w4 hown1 hgrow1 hat1 hlt1))
        go_meet
        case rel =>
        have hg1 : g1 = w1.heap.size + 1 ∨ w1.heap.size + 1 + 1 + 1 ≤ g1 := by
          rcases hat1 with q | q
          · left; simpa [Value.ownBlock] using q.symm
          · right; simp at q; omega
        refine ⟨2, g1, _, cap1, by decide, rfl, rfl, ?_, ?_, ?_⟩
        · have q := hown1
          rw [show vals ([flagB false, 162, k] ++ shExt b 2) = [.int .u8 24, .int .u8 162, .int .u8 (k.toNat : Int)] ++ vals [22, 128, 118, 128, 86, 128, 54, 128] from rfl]
          exact q
        · exact ((((((Below.refl _ _).alloc (Nat.le_refl _) _).alloc (by simp) _).alloc (by simp; omega) _).alloc (by simp; omega) _).grown hgrow1 (by simp; omega) (fun j q => by simp [Value.ownBlock] at q; omega))
        · have hcell : ∀ j, w4.cell? ⟨w1.heap.size + 1 + 1, j, none⟩ = (#[.int .u8 (128 + (k.toNat : Int))] : Array Value)[j]? := fun j => (World.cell?_of_block (a := ⟨w1.heap.size + 1 + 1, j, none⟩) (hgrow1.block _ (by simp) (by simp [Value.ownBlock]))).trans ((World.cell?_of_block (a := ⟨w1.heap.size + 1 + 1, j, none⟩) (Below.heap_alloc _ _ _ (by simp))).trans (third4 _ _ _ _ _ j))
          exact .inr (.inl ⟨w1.heap.size + 1 + 1, by omega, by omega, by decide, rfl, hcell 0⟩)
      · have hri : (r : Int) = 3 := by omega
        clear e
        have hnews0 : Hid (∀ A L C, ∀ j u, (vals [14, 0, 3, 110, 0, 3, 78, 0, 3, 46, 0, 3])[j]? = some u → ((((w1.alloc A).alloc L).alloc C).alloc (.cells (vals [14, 0, 3, 110, 0, 3, 78, 0, 3, 46, 0, 3]).toArray 5)).cell? ((⟨w1.heap.size + 1 + 1 + 1, 0, none⟩ : Addr).add j) = some u) := by
          intro A L C
          have q := news_vals (((w1.alloc A).alloc L).alloc C) [14, 0, 3, 110, 0, 3, 78, 0, 3, 46, 0, 3] 5
          simpa only [World.size_alloc] using q
        go_wp2_with (first | (at_builtin; refine wpList_append_lies _ rfl (.tmp 59) (.tmp 60) 35 rfl w1.heap.size 5 i0 (.int .u8 0) 1 1 und_bytes hi hz0 hz1 hz2 rfl (by decide) (.slice (some ⟨w1.heap.size + 1, 0, none⟩) 3 3) 3 [.int .u8 24, .int .u8 162, .int .u8 (k.toNat : Int)] rfl (((hown0.out _).alloc _).alloc _) ⟨w1.heap.size + 1 + 1 + 1, 0, none⟩ 12 12 (vals [14, 0, 3, 110, 0, 3, 78, 0, 3, 46, 0, 3]) rfl (by rfl) (hnews0.out _ _ _) (vals_one _) (by decide) (by decide) (by decide) (by simp; omega) _ rfl ?_; intro g1 cap1 w4 hown1 hgrow1 hat1 hlt1))
        go_meet
        case rel =>
        have hg1 : g1 = w1.heap.size + 1 ∨ w1.heap.size + 1 + 1 + 1 ≤ g1 := by
          rcases hat1 with q | q
          · left; simpa [Value.ownBlock] using q.symm
          · right; simp at q; omega
        refine ⟨3, g1, _, cap1, by decide, rfl, rfl, ?_, ?_, ?_⟩
        · have q := hown1
          rw [show vals ([flagB false, 162, k] ++ shExt b 3) = [.int .u8 24, .int .u8 162, .int .u8 (k.toNat : Int)] ++ vals [14, 0, 3, 110, 0, 3, 78, 0, 3, 46, 0, 3] from rfl]
          exact q
        · exact ((((((Below.refl _ _).alloc (Nat.le_refl _) _).alloc (by simp) _).alloc (by simp; omega) _).alloc (by simp; omega) _).grown hgrow1 (by simp; omega) (fun j q => by simp [Value.ownBlock] at q; omega))
        · have hcell : ∀ j, w4.cell? ⟨w1.heap.size + 1 + 1, j, none⟩ = (#[.int .u8 0, .int .u8 3] : Array Value)[j]? := fun j => (World.cell?_of_block (a := ⟨w1.heap.size + 1 + 1, j, none⟩) (hgrow1.block _ (by simp) (by simp [Value.ownBlock]))).trans ((World.cell?_of_block (a := ⟨w1.heap.size + 1 + 1, j, none⟩) (Below.heap_alloc _ _ _ (by simp))).trans (third4 _ _ _ _ _ j))
          exact .inr (.inr ⟨w1.heap.size + 1 + 1, by omega, by omega, by decide, rfl, hcell 0, hcell 1⟩)
      · have hri : (r : Int) = 4 := by omega
        clear e
        have hnews0 : Hid (∀ A L C, ∀ j u, (vals [30, 0, 3, 126, 0, 3, 94, 0, 3, 62, 0, 3])[j]? = some u → ((((w1.alloc A).alloc L).alloc C).alloc (.cells (vals [30, 0, 3, 126, 0, 3, 94, 0, 3, 62, 0, 3]).toArray 5)).cell? ((⟨w1.heap.size + 1 + 1 + 1, 0, none⟩ : Addr).add j) = some u) := by
          intro A L C
          have q := news_vals (((w1.alloc A).alloc L).alloc C) [30, 0, 3, 126, 0, 3, 94, 0, 3, 62, 0, 3] 5
          simpa only [World.size_alloc] using q
        go_wp2_with (first | (at_builtin; refine wpList_append_lies _ rfl (.tmp 33) (.tmp 34) 35 rfl w1.heap.size 5 i0 (.int .u8 0) 1 1 und_bytes hi hz0 hz1 hz2 rfl (by decide) (.slice (some ⟨w1.heap.size + 1, 0, none⟩) 3 3) 3 [.int .u8 24, .int .u8 162, .int .u8 (k.toNat : Int)] rfl (((hown0.out _).alloc _).alloc _) ⟨w1.heap.size + 1 + 1 + 1, 0, none⟩ 12 12 (vals [30, 0, 3, 126, 0, 3, 94, 0, 3, 62, 0, 3]) rfl (by rfl) (hnews0.out _ _ _) (vals_one _) (by decide) (by decide) (by decide) (by simp; omega) _ rfl ?_; intro g1 cap1 w4 hown1 hgrow1 hat1 hlt1))
        go_meet
        case rel =>
        have hg1 : g1 = w1.heap.size + 1 ∨ w1.heap.size + 1 + 1 + 1 ≤ g1 := by
          rcases hat1 with q | q
          · left; simpa [Value.ownBlock] using q.symm
          · right; simp at q; omega
        refine ⟨4, g1, _, cap1, by decide, rfl, rfl, ?_, ?_, ?_⟩
        · have q := hown1
          rw [show vals ([flagB false, 162, k] ++ shExt b 4) = [.int .u8 24, .int .u8 162, .int .u8 (k.toNat : Int)] ++ vals [30, 0, 3, 126, 0, 3, 94, 0, 3, 62, 0, 3] from rfl]
          exact q
        · exact ((((((Below.refl _ _).alloc (Nat.le_refl _) _).alloc (by simp) _).alloc (by simp; omega) _).alloc (by simp; omega) _).grown hgrow1 (by simp; omega) (fun j q => by simp [Value.ownBlock] at q; omega))
        · have hcell : ∀ j, w4.cell? ⟨w1.heap.size + 1 + 1, j, none⟩ = (#[.int .u8 (k.toNat : Int), .int .u8 3] : Array Value)[j]? := fun j => (World.cell?_of_block (a := ⟨w1.heap.size + 1 + 1, j, none⟩) (hgrow1.block _ (by simp) (by simp [Value.ownBlock]))).trans ((World.cell?_of_block (a := ⟨w1.heap.size + 1 + 1, j, none⟩) (Below.heap_alloc _ _ _ (by simp))).trans (third4 _ _ _ _ _ j))
          exact .inr (.inr ⟨w1.heap.size + 1 + 1, by omega, by omega, by decide, rfl, (hcell 0).trans (by show some (Value.int .u8 (k.toNat : Int)) = some (.int .u8 (768 + (k.toNat : Int) - 768)); rw [show (768 + (k.toNat : Int) - 768) = (k.toNat : Int) from by omega]), hcell 1⟩)

    case rest =>
    obtain ⟨way, g, n, cap, hw5, rfl, hn, hOw, hBw, hAd⟩ := hcut
    have hxl := shExt_len b way
    generalize hX : shExt b way = X at *
    subst hn
    have HX := Hid.mk' hX
    have HOw := Hid.mk' hOw
    have HBw := Hid.mk' hBw
    have HAd := Hid.mk' hAd
    have lw := hBw.size
    clear hX hOw hBw hAd
    have mk := mk32
    go_wp2_with (first | (at_builtin; refine wpList_append_lies _ rfl (.tmp 62) (.tmp 63) 35 rfl w1.heap.size 5 i0 (.int .u8 0) 1 1 und_bytes hi hz0 hz1 hz2 rfl (by decide) (.slice (some ⟨g, 0, none⟩) (3 + X.length) cap) (3 + X.length) (vals ([flagB false, 162, k] ++ X)) rfl (HOw.out.alloc _) ⟨wc.heap.size, 0, none⟩ 1 1 [.int .u8 2] rfl rfl (one_new' _ _ _) (one_one _) (by decide) (by unfold maxLen; omega) (by omega) (by simp; omega) _ rfl ?_; intro g2 cap2 w5 hown2 hgrow2 hat2 hlt2; have HO2 := Hid.mk' hown2; have HG2 := Hid.mk' hgrow2; have HA2 := Hid.mk' hat2; clear hown2 hgrow2 hat2 hlt2))
    go_loopw [16] (fun i wr => ∃ kk : Nat, kk ≤ 32 ∧ i = .int .i64 kk ∧ Fl b wr w5.heap.size kk ∧ Fl b wr (w5.heap.size + 1) kk ∧ Below w5.heap.size w5 wr) (fun i _ => 32 - (intOf i).toNat)
    case atStart =>
      refine ⟨0, by omega, rfl, (Fl.new b w5).alloc, ?_, ((Below.refl _ _).alloc (Nat.le_refl _) _).alloc (by simp) _⟩
      have q := Fl.new b (w5.alloc (.cells (Array.replicate 32 (.int .u8 0)) 5))
      rwa [World.size_alloc] at q
    case round =>
      obtain ⟨kk, hkk, rfl, hL, hD, hB⟩ := hrel
      by_cases hl32 : kk < 32
      · have cL := hL.c kk hl32
        have cD := hD.c kk hl32
        rw [if_neg (Nat.lt_irrefl _)] at cL cD
        have fL := hL.f kk
        have fD := hD.f kk
        have HL := Hid.mk' hL
        have HD := Hid.mk' hD
        have HB := Hid.mk' hB
        clear hL hD hB
        go_wp2
        go_roundw
        case rel => exact ⟨kk + 1, by omega, by go_num, (HL.out.set hl32).other (by omega), (HD.out.other (by omega)).set hl32, (HB.out.setCell (Nat.le_refl _) _).setCell (by show w5.heap.size ≤ w5.heap.size + 1; omega) _⟩
        case measure => simp [intOf]; omega
      · have e32 : kk = 32 := by omega
        subst e32
        have HL := Hid.mk' hL.bytes
        have HD := Hid.mk' hD.bytes
        have HB := Hid.mk' hB
        have lr : w5.heap.size + 1 < wr.heap.size := lt_of_cell (o := 0) (by rw [hD.c 0 (by decide)]; simp)
        clear hL hD hB
        have hg2 := (HO2.out.lt g2 rfl)
        have HC2 := Hid.mk' (show BytesAt w5 g2 0 (shCode false k b way) from by
          rw [shCode_eq, HX.out]
          refine owns_bytes (base := w1.heap.size) (cap := cap2) (l := [flagB false, 162, k] ++ X ++ [2]) ?_
          have q := HO2.out
          have hlen : ([flagB false, 162, k] ++ X ++ [2]).length = 3 + X.length + 1 := by simp; omega
          rw [hlen, vals_append]
          exact q)
        have hgg : g2 = g ∨ (wc.alloc (.cells #[.int .u8 2] 5)).heap.size ≤ g2 := by
          rcases HA2.out with q | q
          · left; simpa [Value.ownBlock] using q.symm
          · right; rw [q]; exact Nat.le_refl _
        have AD5 := Hid.mk' (show AdAt w5 w1.heap.size g2 u12 way k.toNat from (HAd.out.below ((Below.refl _ _).alloc (Nat.le_refl _) (.cells #[.int .u8 2] 5))).kept (fun gg o hn hne => World.cell?_of_block (a := ⟨gg, o, none⟩) (HG2.out.block gg (lt_of_cell hne) (by intro q; simp [Value.ownBlock] at q; omega))) hgg)
        have ADr := Hid.mk' (AD5.out.below HB.out)
        have HBr := Hid.mk' (show Below w.heap.size w wr from (HB1.out.trans (((HBw.out.alloc lw _).grown HG2.out (by simp; omega) (fun k e => (HOw.out.lt k e).1)).mono l1)).trans (HB.out.mono (by have := HG2.out.size; simp at this; omega)))
        have lg2 : g2 < w5.heap.size := hg2.2
        have hlC : (shCode false k b way).length = 3 + X.length + 1 := by rw [shCode_eq, HX.out]; simp; omega
        have CM := computer_ok wr (.slice (some ⟨g2, 0, none⟩) (3 + X.length + 1) cap2) (.slice (some ⟨w5.heap.size, 0, none⟩) 32 32) (.slice (some ⟨w5.heap.size + 1, 0, none⟩) 32 32) (shCode false k b way) (List.replicate 32 b) (List.replicate 32 b)
          ⟨_, _, by rw [hlC], fun _ => ⟨g2, 0, rfl, by omega, bytes_below HC2.out HB.out lg2⟩⟩ ⟨_, _, rfl, fun _ => ⟨w5.heap.size, 0, rfl, by omega, HL.out⟩⟩ ⟨_, _, rfl, fun _ => ⟨w5.heap.size + 1, 0, rfl, by omega, HD.out⟩⟩ (by rw [hlC]; simp; omega)
        have HSY := Hid.mk' (sh_says way hw5 false b k hkn.out)
        have HSN := Hid.mk' (shN_lt way)
        clear hlC
        go_wp2_with fail
        refine CM.mono ?_
        rintro e w6 ⟨B, R, v4, hBB, rfl, hC, hb6⟩
        obtain ⟨rg, hrg, hP, hA0, hPk⟩ := HSY.out (.slice (some ⟨g2, 0, none⟩) (3 + X.length + 1) cap2) (.slice (some ⟨w5.heap.size, 0, none⟩) 32 32) (.slice (some ⟨w5.heap.size + 1, 0, none⟩) 32 32) v4 R
        have RN := runs_R (Tn.refl hC) 80 (shN way) HSN.out (by decide) rg hrg
        have HK6 := Hid.mk' hb6
        have HB6 := Hid.mk' (HBr.out.trans (hb6.mono HBr.out.size))
        have l6 := hb6.size
        have HP := Hid.mk' hP
        have HA0 := Hid.mk' hA0
        have HPk := Hid.mk' hPk
        clear CM hC hb6 HSY hrg hP hA0 hPk
        go_wp2_with fail
        refine RN.mono ?_
        rintro e w7 ⟨rfl, T7'⟩
        have T7 : Tn B ((shPC false k b way (.slice (some ⟨g2, 0, none⟩) (3 + X.length + 1) cap2) (.slice (some ⟨w5.heap.size, 0, none⟩) 32 32) (.slice (some ⟨w5.heap.size + 1, 0, none⟩) 32 32) v4 R).runN (shN way)) w6 w7 := T7'
        clear T7'
        have l7 := T7.g.size
        have lB := T7.c.lt
        have HB7 := Hid.mk' (below_grown HB6.out T7.g (by omega) (by omega))
        have HK : Hid (∀ gg o v, wr.cell? ⟨gg, o, none⟩ = some v → w7.cell? ⟨gg, o, none⟩ = some v) := by
          intro gg o v hv
          have lg := lt_of_cell (w := wr) (b := gg) (o := o) (by rw [hv]; simp)
          have q : w6.cell? ⟨gg, o, none⟩ = some v := (HK6.out.cell (p := ⟨gg, o, none⟩) lg).trans hv
          exact (grown_cell T7.g (by omega) (by rw [q]; simp)).trans q
        have PKK := fun o => mPeek_any (T7.alloc o) (shAt way k.toNat)
        have PKQ := fun (o : Obj) (n : Nat) => mPeek_any ((T7.alloc o).drewN n) (shAt way k.toNat)
        clear T7 RN
        simp only [RegI.val]
        have hP := HP.out
        rcases ADr.out with ⟨ew, rfl⟩ | ⟨ga, h1', h2', h3', rfl, c0⟩ | ⟨ga, h1', h2', h3', rfl, c0, c1⟩
        · have hA := HA0.out ew
          have hwb : IntKind.i64.wrap (b.toNat : Int) = (b.toNat : Int) := wrap_id8 _ (u8_r b).1 (u8_r b).2
          go_wp2
          go_ret
          exact ⟨rfl, HB7.out.alloc (by omega) _⟩
        · have c0 := HK.out _ _ _ c0
          have hpk := HPk.out (by omega)
          rw [hpk] at PKK
          have hwb : IntKind.i64.wrap (b.toNat : Int) = (b.toNat : Int) := wrap_id8 _ (u8_r b).1 (u8_r b).2
          have hsa : 0 ≤ shAt way k.toNat ∧ shAt way k.toNat < 256 := by rcases h3' with q | q <;> (subst q; show 0 ≤ (_ : Int) ∧ (_ : Int) < 256; simp only [shAt]; omega)
          have lga := lt_of_cell (w := w7) (b := ga) (o := 0) (by rw [c0]; simp)
          have nga : ga ≠ w7.heap.size := by omega
          generalize shAt way k.toNat = AT at *
          obtain ⟨s0, s1⟩ := hsa
          clear hpk
          go_wp2_with (first | (go_at_call 21; refine (PKK _).mono ?_; rintro e w' ⟨rfl, rfl⟩))
          go_ret
          exact ⟨rfl, HB7.out.alloc (by omega) _⟩
        · have c0 := HK.out _ _ _ c0
          have c1 := HK.out _ _ _ c1
          have hpk := HPk.out (by omega)
          have hwb : IntKind.i64.wrap (b.toNat : Int) = (b.toNat : Int) := wrap_id8 _ (u8_r b).1 (u8_r b).2
          have hsa : 768 ≤ shAt way k.toNat ∧ shAt way k.toNat < 1024 := by rcases h3' with q | q <;> (subst q; show 768 ≤ (_ : Int) ∧ (_ : Int) < 1024; simp only [shAt]; omega)
          have lga := lt_of_cell (w := w7) (b := ga) (o := 0) (by rw [c0]; simp)
          have nga : ga ≠ w7.heap.size := by omega
          obtain ⟨AT, hAT⟩ : ∃ AT : Int, AT = shAt way k.toNat - 768 := ⟨_, rfl⟩
          have eAT : shAt way k.toNat = AT + 768 := by omega
          rw [← hAT] at c0
          rw [hpk, eAT] at PKQ
          rw [eAT] at hsa
          obtain ⟨s0, s1⟩ := hsa
          have s0' : 0 ≤ AT := by omega
          have s1' : AT < 256 := by omega
          clear hpk hAT eAT PKK
          go_wp2_with fail
          go_quiet ((go_at_call 21; exact Calls.quiet_of_same (PKQ _ _)))
          go_wp2
          go_ret
          exact ⟨rfl, bel_drewN (HB7.out.alloc (by omega) _) _⟩

end Go.Proofs.YtcgjliflnnklnaaGreat
