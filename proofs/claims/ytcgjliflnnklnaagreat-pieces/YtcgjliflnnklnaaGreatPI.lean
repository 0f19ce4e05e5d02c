/-
  Joined texts.
-/
import Derived.Test.YtcgjliflnnklnaaGreatPH
import Derived.Test.YtcgjliflnnklnaaGreatPD
import Derived.Test.YtcgjliflnnklnaaGreatPF
namespace Go.Proofs.YtcgjliflnnklnaaGreat
open Go.RowKit

/-
  Scanner.Feed and Scan.Feed.
-/
section
def feedS (s : Sc) (l : List UInt8) : Sc := l.foldl Sc.step s
def feedP : Sc → List UInt8 → List Pk
  | _, [] => []
  | s, c :: r => (if s.st = 3 then [readPk s.raw s.sum c] else []) ++ feedP (s.step c) r

theorem feedS_append (s : Sc) (a b : List UInt8) : feedS s (a ++ b) = feedS (feedS s a) b := by simp [feedS]
theorem feedP_append (s : Sc) (a b : List UInt8) : feedP s (a ++ b) = feedP s a ++ feedP (feedS s a) b := by
  induction a generalizing s with
  | nil => simp [feedP, feedS]
  | cons c r ih => simp only [List.cons_append, feedP, ih, List.append_assoc]; rfl

def Pk.cells (p : Pk) : List Value := [.int .i64 (p.seq : Int), .string ⟨p.body.toArray⟩, .bool p.bad]
def pvals (ps : List Pk) : List Value := ps.flatMap Pk.cells

theorem pvals_snoc (ps : List Pk) (p : Pk) : pvals (ps ++ [p]) = pvals ps ++ p.cells := by simp [pvals]

theorem inf_pk : (Tryz.prog.info? 152).map (fun i => (i.zero, i.size, i.bytes)) = some (some (.agg #[.int .i64 0, .string ⟨#[]⟩, .bool false]), 3, 32) := by kernel_rfl
theorem und_pks : Tryz.prog.underlying 140 = some (.slice 152) := by kernel_rfl

theorem feed_step (s : Sc) (l : List UInt8) (k : Nat) (h : k < l.length) : feedS s (l.take (k + 1)) = (feedS s (l.take k)).step l[k] := by
  rw [take_snoc8 l k h, feedS_append]; rfl
theorem feedP_step0 (s : Sc) (l : List UInt8) (k : Nat) (h : k < l.length) (h3 : (feedS s (l.take k)).st ≠ 3) : feedP s (l.take (k + 1)) = feedP s (l.take k) := by
  rw [take_snoc8 l k h, feedP_append]; simp [feedP, h3]
theorem feedP_step3 (s : Sc) (l : List UInt8) (k : Nat) (h : k < l.length) (h3 : (feedS s (l.take k)).st = 3) :
    feedP s (l.take (k + 1)) = feedP s (l.take k) ++ [readPk (feedS s (l.take k)).raw (feedS s (l.take k)).sum l[k]] := by
  rw [take_snoc8 l k h, feedP_append]; simp [feedP, h3]
theorem feedP_take_len (s : Sc) (l : List UInt8) (k : Nat) : (feedP s (l.take k)).length ≤ (feedP s l).length := by
  have : feedP s l = feedP s (l.take k) ++ feedP (feedS s (l.take k)) (l.drop k) := by rw [← feedP_append, List.take_append_drop]
  rw [this]; simp

theorem ScAt.lt {w : World} {B : Nat} {s : Sc} (h : ScAt w B s) : B < w.heap.size := World.block_lt_of_cell? w ⟨B, 0, none⟩ h.cst

theorem und_arr : Tryz.prog.underlying 108 = some (.array 200 5) := by kernel_rfl

theorem slice_raw (B n : Nat) (h : n ≤ 200) (w : World) : Sem.run Tryz.prog (Instr.sliceAt 108 (.pointer (some ⟨B, 1, none⟩)) none (some (.int .i64 (n : Int))) none) w = .ok (.slice (some ⟨B, 1, none⟩) n 200) w := by
  have hal : Tryz.prog.arrayLen 108 = 200 := by kernel_rfl
  have hel : Tryz.prog.elem 108 = 5 := by kernel_rfl
  rw [run_sliceAt_array_h (P := Tryz.prog) w 108 ⟨B, 1, none⟩ (by rw [hal, hel]; exact und_arr) .i64 (n : Int) (by omega) (by rw [hal]; omega), hal, hel]
  simp [sizeOf, go_sem, slicedAt, Addr.add]

/-- The packets' slice of a Feed, and the scanner. -/
structure Fed (B : Nat) (w0 w : World) (v : Value) (s : Sc) (ps : List Pk) : Prop where
  own : w.ownsRow w0.heap.size 152 3 v ps.length (pvals ps)
  nil : ps = [] → v = .slice none 0 0
  sc : ScAt w B s
  grown : w0.grownBy w (some B)
  lt : B < w0.heap.size

theorem Fed.turned {B : Nat} {w0 w w1 : World} {v : Value} {s s' : Sc} {ps : List Pk} (h : Fed B w0 w v s ps) (ht : Turned B s' w w1) : Fed B w0 w1 v s' ps := by
  refine ⟨h.own.kept ht.2.1 ?_, h.nil, ht.1, grown_trans h.grown ht.2.1, h.lt⟩
  cases hv : v.ownBlock with
  | none => exact .inl rfl
  | some g =>
    refine .inr ?_
    have h1 := (h.own.lt g hv).1
    have h2 := h.lt
    intro e; injection e with e; omega

theorem own_below {w w' : World} {base : Nat} {e : TypeId} {size : Nat} {v : Value} {n : Nat} {xs : List Value} (h : w.ownsRow base e size v n xs) (hb : Below w.heap.size w w') : w'.ownsRow base e size v n xs :=
  h.kept ⟨hb.os, hb.tape, hb.output, hb.size, fun k hk _ => hb.block k hk⟩ (row := none) (by cases v.ownBlock <;> simp)

theorem ScAt.below {w w' : World} {B : Nat} {s : Sc} (h : ScAt w B s) (hb : Below w.heap.size w w') : ScAt w' B s := by
  have hc : ∀ o, w'.cell? ⟨B, o, none⟩ = w.cell? ⟨B, o, none⟩ := fun o => hb.cell (p := ⟨B, o, none⟩) h.lt
  have hf : ∀ o, w'.frozen? ⟨B, o, none⟩ = w.frozen? ⟨B, o, none⟩ := fun o => hb.frozen (p := ⟨B, o, none⟩) h.lt
  exact ⟨h.st3, h.len, by rw [hc]; exact h.cst, by rw [hc]; exact h.cnt, by rw [hc]; exact h.csum, fun i hi => by rw [hc]; exact h.bytes i hi, fun i hi => by rw [hc]; exact h.there i hi, fun o => by rw [hf]; exact h.free o⟩

theorem grown_below {w w' : World} (hb : Below w.heap.size w w') (row : Option Nat) : w.grownBy w' row := ⟨hb.os, hb.tape, hb.output, hb.size, fun k hk _ => hb.block k hk⟩

theorem Fed.below {B : Nat} {w0 w w1 : World} {v : Value} {s : Sc} {ps : List Pk} (h : Fed B w0 w v s ps) (hb : Below w.heap.size w w1) : Fed B w0 w1 v s ps :=
  ⟨own_below h.own hb, h.nil, h.sc.below hb, grown_trans h.grown (grown_below hb _), h.lt⟩

theorem below_undrew {B : Nat} {w w' : World} (h : Below B w.drew w') : Below B w w' := ⟨h.os, h.tape, h.output, h.size, h.block⟩

theorem ScAt.grown {w w' : World} {B : Nat} {s : Sc} {row : Option Nat} (h : ScAt w B s) (hg : w.grownBy w' row) (hne : some B ≠ row) : ScAt w' B s := by
  have hb := hg.block B h.lt hne
  have hc : ∀ o, w'.cell? ⟨B, o, none⟩ = w.cell? ⟨B, o, none⟩ := fun o => World.cell?_of_block (a := ⟨B, o, none⟩) hb
  have hf : ∀ o, w'.frozen? ⟨B, o, none⟩ = w.frozen? ⟨B, o, none⟩ := fun o => World.frozen?_of_block (a := ⟨B, o, none⟩) hb
  exact ⟨h.st3, h.len, by rw [hc]; exact h.cst, by rw [hc]; exact h.cnt, by rw [hc]; exact h.csum, fun i hi => by rw [hc]; exact h.bytes i hi, fun i hi => by rw [hc]; exact h.there i hi, fun o => by rw [hf]; exact h.free o⟩

theorem Fed.append {B : Nat} {w0 w w3 : World} {v : Value} {s : Sc} {ps : List Pk} {p : Pk} {o : Obj} {g cap : Nat} (h : Fed B w0 w v s ps)
    (hown : w3.ownsRow w0.heap.size 152 3 (.slice (some ⟨g, 0, none⟩) (ps.length + 1) cap) (ps.length + 1) (pvals ps ++ p.cells)) (hg : (w.alloc o).grownBy w3 v.ownBlock) :
    Fed B w0 w3 (.slice (some ⟨g, 0, none⟩) (ps.length + 1) cap) s (ps ++ [p]) := by
  have hlt := h.lt
  have hne : some B ≠ v.ownBlock := fun e => by have := (h.own.lt B e.symm).1; omega
  have hal : ScAt (w.alloc o) B s := h.sc.grown (World.grownBy_alloc w o none) (by simp)
  refine ⟨by rw [pvals_snoc]; simpa using hown, by simp, hal.grown hg hne, ?_, h.lt⟩
  have hs := h.grown.size
  have hs3 := hg.size
  simp only [World.size_alloc] at hs3
  refine ⟨hg.os.trans h.grown.os, hg.tape.trans h.grown.tape, hg.output.trans h.grown.output, by omega, ?_⟩
  intro k hk hkB
  have hne' : some k ≠ v.ownBlock := fun e => by have := (h.own.lt k e.symm).1; omega
  exact (hg.block k (by simp; omega) hne').trans ((Below.heap_alloc w o k (by omega)).trans (h.grown.block k hk hkB))

theorem pk_val (p : Pk) : p.val = .agg #[.int .i64 (p.seq : Int), .string ⟨p.body.toArray⟩, .bool p.bad] := rfl

theorem three_new (w : World) (p : Pk) (t : TypeId) :
    ∀ j u, p.cells[j]? = some u → (w.alloc (.cells #[.int .i64 (p.seq : Int), .string ⟨p.body.toArray⟩, .bool p.bad] t)).cell? ((⟨w.heap.size, 0, none⟩ : Addr).add j) = some u :=
  World.news_of_block (w := w.alloc (.cells #[.int .i64 (p.seq : Int), .string ⟨p.body.toArray⟩, .bool p.bad] t)) (cs := #[.int .i64 (p.seq : Int), .string ⟨p.body.toArray⟩, .bool p.bad]) (t := t) (fr := (0, 0)) (heap_alloc_new w _)

theorem three_one (p : Pk) : ∀ u ∈ p.cells, u.oneCell' = true := by
  intro u hu; simp [Pk.cells] at hu; rcases hu with rfl | rfl | rfl <;> rfl

set_option maxRecDepth 100000 in
set_option maxHeartbeats 2000000 in
theorem scannerFeed_any (B bb off cap : Nat) (s : Sc) (l : List UInt8) (w : World) (hs : ScAt w B s) (hl : l.length ≤ 140737488355328) (hB : BytesAt w bb off l) (hne : bb ≠ B)
    (hmax : (feedP s l).length ≤ 4194304) :
    Calls Tryz.prog 57 #[.pointer (some ⟨B, 0, none⟩), .slice (some ⟨bb, off, none⟩) l.length cap] w fun e w' => ∃ v, e = .returned v ∧ Fed B w w' v (feedS s l) (feedP s l) := by
  obtain ⟨i0, hi, hz0, hz1, hz2⟩ := info_parts inf_pk
  have HB : Hid (BytesAt w bb off l) := hB
  have HF : Hid (Fed B w w (.slice none 0 0) (feedS s (l.take 0)) (feedP s (l.take 0))) := ⟨World.ownsRow_nil _ _ _ _, fun _ => rfl, hs, World.grownBy.refl _ _, hs.lt⟩
  have HM : Hid ((feedP s l).length ≤ 4194304) := hmax
  have hBs := hs.lt
  clear hB hs hmax
  go_enter Tryz.func57, Tryz.ntmps57
  go_wp2
  go_loopw [5, 10] (fun v i wr => ∃ k : Nat, k ≤ l.length ∧ i = .int .i64 k ∧ Fed B w wr v (feedS s (l.take k)) (feedP s (l.take k))) (fun _ i _ => l.length - (intOf i).toNat)
  case atStart => exact ⟨0, Nat.zero_le _, rfl, HF.out⟩
  case round =>
    obtain ⟨k, hk, rfl, hF⟩ := hrel
    clear HF
    by_cases hlt : k < l.length
    · have hcell : wr.cell? ⟨bb, off + k, none⟩ = some (.int .u8 (l[k].toNat : Int)) := hF.grown.cell (HB.out k hlt) (by simpa using hne)
      have hst := Hid.out (p := feedS s (l.take (k + 1)) = (feedS s (l.take k)).step l[k]) (feed_step s l k hlt)
      have HST : Hid (feedS s (l.take (k + 1)) = (feedS s (l.take k)).step l[k]) := hst
      have hlen : (feedP s (l.take k)).length ≤ 4194304 := Nat.le_trans (feedP_take_len s l k) HM.out
      have H3 : Hid (feedP s (l.take (k + 1)) = if (feedS s (l.take k)).st = 3 then feedP s (l.take k) ++ [readPk (feedS s (l.take k)).raw (feedS s (l.take k)).sum l[k]] else feedP s (l.take k)) := by
        show _ = _
        split
        · exact feedP_step3 s l k hlt ‹_›
        · exact feedP_step0 s l k hlt ‹_›
      clear hst
      have HF : Hid (Fed B w wr u5 (feedS s (l.take k)) (feedP s (l.take k))) := hF
      generalize feedP s (l.take k) = ps at *
      generalize feedS s (l.take k) = t at *
      clear hF
      go_wp2_with fail
      refine (take_any B t _ HF.out.sc l[k]).mono ?_
      rintro e w1 ⟨rfl, hT⟩
      have HT : Hid (Fed B w w1 u5 (t.step l[k]) ps) := HF.out.turned hT
      clear hT HF hcell
      by_cases h3 : t.st = 3
      · have e1 : Hid (t.step l[k] = ⟨0, t.raw, t.sum⟩) := by show _ = _; simp [Sc.step, h3]
        rw [e1.out] at HT HST
        have H3' : Hid (feedP s (l.take (k + 1)) = ps ++ [readPk t.raw t.sum l[k]]) := by show _ = _; rw [H3.out, if_pos h3]
        rw [decide_eq_true h3]
        have hc1 := HT.out.sc.cnt
        have hc2 := HT.out.sc.csum
        have hrl : t.raw.length ≤ 200 := HT.out.sc.len
        have hsl := slice_raw B t.raw.length hrl
        clear h3 H3
        go_wp2_with fail
        go_region_held3 (fun w' => w'.cell? ⟨B, 201, none⟩ = some (.int .i64 (t.raw.length : Int)) ∧ w'.cell? ⟨B, 202, none⟩ = some (.int .u8 (t.sum.toNat : Int))) (go_keep) (first | (go_at_call 88; go_must (refine (readPacket_any B 1 t.raw t.sum l[k] _ hrl ?_ ?_).mono ?_; exact HT.out.sc.drew.bytes; exact HT.out.sc.lt; rintro e w2 ⟨rfl, hbel⟩; have k1 := cell_later hbel hc1; have k2 := cell_later hbel hc2; have HF2 : Hid (Fed B w w2 u5 ⟨0, t.raw, t.sum⟩ ps) := HT.out.below (below_undrew hbel); have hn := World.new_ne w2 ⟨B, 201, none⟩ k1; have hn2 := World.new_ne w2 ⟨B, 202, none⟩ k2; rw [pk_val])) | (refine step_append_lies _ rfl (.tmp 17) (.tmp 32) 140 rfl w.heap.size 152 i0 _ 3 32 und_pks hi hz0 hz1 hz2 rfl (by decide) u5 ps.length (pvals ps) rfl ?_ ⟨_, 0, none⟩ 1 1 (Pk.cells (readPk t.raw t.sum l[k])) rfl rfl ?_ ?_ (by decide) ?_ ?_ ?_ _ rfl ?_; go_must (exact HF2.out.own.alloc _; exact (three_new _ _ _); exact (three_one _); (unfold maxLen; omega); omega; (have := HF2.out.grown.size; simp; omega);  intro g' cap' w3 hown' hgrow hat hlt'; have HF3 : Hid (Fed B w w3 (.slice (some ⟨g', 0, none⟩) (ps.length + 1) cap') ⟨0, t.raw, t.sum⟩ (ps ++ [readPk t.raw t.sum l[k]])) := HF2.out.append hown' hgrow; have k3 := HF3.out.sc.cnt; have k4 := HF3.out.sc.csum; clear hown' hgrow hat hlt' HF2)))
        all_goals
          go_wp2
          go_roundw
          case rel => exact ⟨k + 1, by omega, by go_num, by rw [HST.out, H3'.out]; exact HF3.out⟩
          case measure => simp [intOf]; omega
      · have H3' : Hid (feedP s (l.take (k + 1)) = ps) := by show _ = _; rw [H3.out, if_neg h3]
        rw [decide_eq_false h3]
        clear h3 H3
        go_wp2
        go_roundw
        case rel => exact ⟨k + 1, by omega, by go_num, by rw [HST.out, H3'.out]; exact HT.out⟩
        case measure => simp [intOf]; omega
    · have hke : l.take k = l := List.take_of_length_le (by omega)
      rw [hke] at hF
      have HF : Hid (Fed B w wr u5 (feedS s l) (feedP s l)) := hF
      clear hF hke
      go_wp2
      go_ret
      exact ⟨_, rfl, HF.out⟩

set_option maxRecDepth 100000 in
set_option maxHeartbeats 400000 in
theorem scanFeed_any (B bb off cap : Nat) (s : Sc) (l : List UInt8) (w : World) (hs : ScAt w B s) (hl : l.length ≤ 140737488355328) (hB : BytesAt w bb off l) (hne : bb ≠ B)
    (hmax : (feedP s l).length ≤ 4194304) :
    Calls Tryz.prog 71 #[.pointer (some ⟨B, 0, none⟩), .slice (some ⟨bb, off, none⟩) l.length cap] w fun e w' => ∃ v, e = .returned v ∧ Fed B w w' v (feedS s l) (feedP s l) := by
  have HS : Hid (ScAt w B s ∧ BytesAt w bb off l ∧ (feedP s l).length ≤ 4194304) := ⟨hs, hB, hmax⟩
  clear hs hB hmax
  go_enter Tryz.func71, Tryz.ntmps71
  go_wp2_with fail
  refine (scannerFeed_any B bb off cap s l _ HS.out.1 hl HS.out.2.1 hne HS.out.2.2).mono ?_
  rintro e w1 ⟨v, rfl, O⟩
  have H : Hid (Fed B w w1 v (feedS s l) (feedP s l)) := O
  clear O
  go_wp2
  go_ret
  exact ⟨v, rfl, H.out⟩
end

/-
  A stub's scanner fed.
-/
section
variable {Q : Nat → Option Value}

theorem ScS.lt {w : World} {B : Nat} {s : Sc} (h : ScS Q w B s) : B < w.heap.size := World.block_lt_of_cell? w ⟨B, 65562, none⟩ h.cst


theorem sliceS_raw (B n : Nat) (h : n ≤ 200) (w : World) : Sem.run Tryz.prog (Instr.sliceAt 108 (.pointer (some ⟨B, 65563, none⟩)) none (some (.int .i64 (n : Int))) none) w = .ok (.slice (some ⟨B, 65563, none⟩) n 200) w := by
  have hal : Tryz.prog.arrayLen 108 = 200 := by kernel_rfl
  have hel : Tryz.prog.elem 108 = 5 := by kernel_rfl
  rw [run_sliceAt_array_h (P := Tryz.prog) w 108 ⟨B, 65563, none⟩ (by rw [hal, hel]; exact und_arr) .i64 (n : Int) (by omega) (by rw [hal]; omega), hal, hel]
  simp [sizeOf, go_sem, slicedAt, Addr.add]

/-- The packets' slice of a Feed, and the scanner. -/
structure FedS (Q : Nat → Option Value) (B : Nat) (w0 w : World) (v : Value) (s : Sc) (ps : List Pk) : Prop where
  own : w.ownsRow w0.heap.size 152 3 v ps.length (pvals ps)
  nil : ps = [] → v = .slice none 0 0
  sc : ScS Q w B s
  grown : w0.grownBy w (some B)
  lt : B < w0.heap.size

theorem FedS.turned {B : Nat} {w0 w w1 : World} {v : Value} {s s' : Sc} {ps : List Pk} (h : FedS Q B w0 w v s ps) (ht : TurnedS Q B s' w w1) : FedS Q B w0 w1 v s' ps := by
  refine ⟨h.own.kept ht.2.1 ?_, h.nil, ht.1, grown_trans h.grown ht.2.1, h.lt⟩
  cases hv : v.ownBlock with
  | none => exact .inl rfl
  | some g =>
    refine .inr ?_
    have h1 := (h.own.lt g hv).1
    have h2 := h.lt
    intro e; injection e with e; omega


theorem ScS.below {w w' : World} {B : Nat} {s : Sc} (h : ScS Q w B s) (hb : Below w.heap.size w w') : ScS Q w' B s := by
  have hc : ∀ o, w'.cell? ⟨B, o, none⟩ = w.cell? ⟨B, o, none⟩ := fun o => hb.cell (p := ⟨B, o, none⟩) h.lt
  have hf : ∀ o, w'.frozen? ⟨B, o, none⟩ = w.frozen? ⟨B, o, none⟩ := fun o => hb.frozen (p := ⟨B, o, none⟩) h.lt
  exact ⟨h.st3, h.len, by rw [hc]; exact h.cst, by rw [hc]; exact h.cnt, by rw [hc]; exact h.csum, fun i hi => by rw [hc]; exact h.bytes i hi, fun i hi => by rw [hc]; exact h.there i hi, fun o => by rw [hf]; exact h.free o, fun o ho => by rw [hc]; exact h.keep o ho⟩


theorem FedS.below {B : Nat} {w0 w w1 : World} {v : Value} {s : Sc} {ps : List Pk} (h : FedS Q B w0 w v s ps) (hb : Below w.heap.size w w1) : FedS Q B w0 w1 v s ps :=
  ⟨own_below h.own hb, h.nil, h.sc.below hb, grown_trans h.grown (grown_below hb _), h.lt⟩


theorem ScS.grown {w w' : World} {B : Nat} {s : Sc} {row : Option Nat} (h : ScS Q w B s) (hg : w.grownBy w' row) (hne : some B ≠ row) : ScS Q w' B s := by
  have hb := hg.block B h.lt hne
  have hc : ∀ o, w'.cell? ⟨B, o, none⟩ = w.cell? ⟨B, o, none⟩ := fun o => World.cell?_of_block (a := ⟨B, o, none⟩) hb
  have hf : ∀ o, w'.frozen? ⟨B, o, none⟩ = w.frozen? ⟨B, o, none⟩ := fun o => World.frozen?_of_block (a := ⟨B, o, none⟩) hb
  exact ⟨h.st3, h.len, by rw [hc]; exact h.cst, by rw [hc]; exact h.cnt, by rw [hc]; exact h.csum, fun i hi => by rw [hc]; exact h.bytes i hi, fun i hi => by rw [hc]; exact h.there i hi, fun o => by rw [hf]; exact h.free o, fun o ho => by rw [hc]; exact h.keep o ho⟩

theorem FedS.append {B : Nat} {w0 w w3 : World} {v : Value} {s : Sc} {ps : List Pk} {p : Pk} {o : Obj} {g cap : Nat} (h : FedS Q B w0 w v s ps)
    (hown : w3.ownsRow w0.heap.size 152 3 (.slice (some ⟨g, 0, none⟩) (ps.length + 1) cap) (ps.length + 1) (pvals ps ++ p.cells)) (hg : (w.alloc o).grownBy w3 v.ownBlock) :
    FedS Q B w0 w3 (.slice (some ⟨g, 0, none⟩) (ps.length + 1) cap) s (ps ++ [p]) := by
  have hlt := h.lt
  have hne : some B ≠ v.ownBlock := fun e => by have := (h.own.lt B e.symm).1; omega
  have hal : ScS Q (w.alloc o) B s := h.sc.grown (World.grownBy_alloc w o none) (by simp)
  refine ⟨by rw [pvals_snoc]; simpa using hown, by simp, hal.grown hg hne, ?_, h.lt⟩
  have hs := h.grown.size
  have hs3 := hg.size
  simp only [World.size_alloc] at hs3
  refine ⟨hg.os.trans h.grown.os, hg.tape.trans h.grown.tape, hg.output.trans h.grown.output, by omega, ?_⟩
  intro k hk hkB
  have hne' : some k ≠ v.ownBlock := fun e => by have := (h.own.lt k e.symm).1; omega
  exact (hg.block k (by simp; omega) hne').trans ((Below.heap_alloc w o k (by omega)).trans (h.grown.block k hk hkB))




set_option maxRecDepth 100000 in
set_option maxHeartbeats 2000000 in
theorem scannerFeedS_any (B bb off cap : Nat) (s : Sc) (l : List UInt8) (w : World) (hs : ScS Q w B s) (hl : l.length ≤ 140737488355328) (hB : BytesAt w bb off l) (hne : bb ≠ B)
    (hmax : (feedP s l).length ≤ 4194304) :
    Calls Tryz.prog 57 #[.pointer (some ⟨B, 65562, none⟩), .slice (some ⟨bb, off, none⟩) l.length cap] w fun e w' => ∃ v, e = .returned v ∧ FedS Q B w w' v (feedS s l) (feedP s l) := by
  obtain ⟨i0, hi, hz0, hz1, hz2⟩ := info_parts inf_pk
  have HB : Hid (BytesAt w bb off l) := hB
  have HF : Hid (FedS Q B w w (.slice none 0 0) (feedS s (l.take 0)) (feedP s (l.take 0))) := ⟨World.ownsRow_nil _ _ _ _, fun _ => rfl, hs, World.grownBy.refl _ _, hs.lt⟩
  have HM : Hid ((feedP s l).length ≤ 4194304) := hmax
  have hBs := hs.lt
  clear hB hs hmax
  go_enter Tryz.func57, Tryz.ntmps57
  go_wp2
  go_loopw [5, 10] (fun v i wr => ∃ k : Nat, k ≤ l.length ∧ i = .int .i64 k ∧ FedS Q B w wr v (feedS s (l.take k)) (feedP s (l.take k))) (fun _ i _ => l.length - (intOf i).toNat)
  case atStart => exact ⟨0, Nat.zero_le _, rfl, HF.out⟩
  case round =>
    obtain ⟨k, hk, rfl, hF⟩ := hrel
    clear HF
    by_cases hlt : k < l.length
    · have hcell : wr.cell? ⟨bb, off + k, none⟩ = some (.int .u8 (l[k].toNat : Int)) := hF.grown.cell (HB.out k hlt) (by simpa using hne)
      have hst := Hid.out (p := feedS s (l.take (k + 1)) = (feedS s (l.take k)).step l[k]) (feed_step s l k hlt)
      have HST : Hid (feedS s (l.take (k + 1)) = (feedS s (l.take k)).step l[k]) := hst
      have hlen : (feedP s (l.take k)).length ≤ 4194304 := Nat.le_trans (feedP_take_len s l k) HM.out
      have H3 : Hid (feedP s (l.take (k + 1)) = if (feedS s (l.take k)).st = 3 then feedP s (l.take k) ++ [readPk (feedS s (l.take k)).raw (feedS s (l.take k)).sum l[k]] else feedP s (l.take k)) := by
        show _ = _
        split
        · exact feedP_step3 s l k hlt ‹_›
        · exact feedP_step0 s l k hlt ‹_›
      clear hst
      have HF : Hid (FedS Q B w wr u5 (feedS s (l.take k)) (feedP s (l.take k))) := hF
      generalize feedP s (l.take k) = ps at *
      generalize feedS s (l.take k) = t at *
      clear hF
      go_wp2_with fail
      refine (takeS_any B t _ HF.out.sc l[k]).mono ?_
      rintro e w1 ⟨rfl, hT⟩
      have HT : Hid (FedS Q B w w1 u5 (t.step l[k]) ps) := HF.out.turned hT
      clear hT HF hcell
      by_cases h3 : t.st = 3
      · have e1 : Hid (t.step l[k] = ⟨0, t.raw, t.sum⟩) := by show _ = _; simp [Sc.step, h3]
        rw [e1.out] at HT HST
        have H3' : Hid (feedP s (l.take (k + 1)) = ps ++ [readPk t.raw t.sum l[k]]) := by show _ = _; rw [H3.out, if_pos h3]
        rw [decide_eq_true h3]
        have hc1 := HT.out.sc.cnt
        have hc2 := HT.out.sc.csum
        have hrl : t.raw.length ≤ 200 := HT.out.sc.len
        have hsl := sliceS_raw B t.raw.length hrl
        clear h3 H3
        go_wp2_with fail
        go_region_held3 (fun w' => w'.cell? ⟨B, 65763, none⟩ = some (.int .i64 (t.raw.length : Int)) ∧ w'.cell? ⟨B, 65764, none⟩ = some (.int .u8 (t.sum.toNat : Int))) (go_keep) (first | (go_at_call 88; go_must (refine (readPacket_any B 65563 t.raw t.sum l[k] _ hrl ?_ ?_).mono ?_; exact HT.out.sc.drew.bytes; exact HT.out.sc.lt; rintro e w2 ⟨rfl, hbel⟩; have k1 := cell_later hbel hc1; have k2 := cell_later hbel hc2; have HF2 : Hid (FedS Q B w w2 u5 ⟨0, t.raw, t.sum⟩ ps) := HT.out.below (below_undrew hbel); have hn := World.new_ne w2 ⟨B, 65763, none⟩ k1; have hn2 := World.new_ne w2 ⟨B, 65764, none⟩ k2; rw [pk_val])) | (refine step_append_lies _ rfl (.tmp 17) (.tmp 32) 140 rfl w.heap.size 152 i0 _ 3 32 und_pks hi hz0 hz1 hz2 rfl (by decide) u5 ps.length (pvals ps) rfl ?_ ⟨_, 0, none⟩ 1 1 (Pk.cells (readPk t.raw t.sum l[k])) rfl rfl ?_ ?_ (by decide) ?_ ?_ ?_ _ rfl ?_; go_must (exact HF2.out.own.alloc _; exact (three_new _ _ _); exact (three_one _); (unfold maxLen; omega); omega; (have := HF2.out.grown.size; simp; omega);  intro g' cap' w3 hown' hgrow hat hlt'; have HF3 : Hid (FedS Q B w w3 (.slice (some ⟨g', 0, none⟩) (ps.length + 1) cap') ⟨0, t.raw, t.sum⟩ (ps ++ [readPk t.raw t.sum l[k]])) := HF2.out.append hown' hgrow; have k3 := HF3.out.sc.cnt; have k4 := HF3.out.sc.csum; clear hown' hgrow hat hlt' HF2)))
        all_goals
          go_wp2
          go_roundw
          case rel => exact ⟨k + 1, by omega, by go_num, by rw [HST.out, H3'.out]; exact HF3.out⟩
          case measure => simp [intOf]; omega
      · have H3' : Hid (feedP s (l.take (k + 1)) = ps) := by show _ = _; rw [H3.out, if_neg h3]
        rw [decide_eq_false h3]
        clear h3 H3
        go_wp2
        go_roundw
        case rel => exact ⟨k + 1, by omega, by go_num, by rw [HST.out, H3'.out]; exact HT.out⟩
        case measure => simp [intOf]; omega
    · have hke : l.take k = l := List.take_of_length_le (by omega)
      rw [hke] at hF
      have HF : Hid (FedS Q B w wr u5 (feedS s l) (feedP s l)) := hF
      clear hF hke
      go_wp2
      go_ret
      exact ⟨_, rfl, HF.out⟩
end

/-
  The command g, answered.
-/
section
set_option maxRecDepth 100000 in
set_option maxHeartbeats 1000000 in
theorem doG_any {B : Nat} {s : PC} {w0 w : World} (h : Tn B s w0 w) (hcy : 0 ≤ s.cyc) :
    Calls Tryz.prog 89 #[.pointer (some ⟨B, 0, none⟩), .string ⟨#[103]⟩] w fun e w' => e = .returned (.string ⟨(regText s).toArray⟩) ∧ Below w.heap.size w w' := by
  have R := tellRegs_any h hcy
  generalize regText s = t at *
  clear h
  go_enter Tryz.func89, Tryz.ntmps89
  go_wp2_with (first | (go_at_call 137; refine R.mono ?_; rintro e w1 ⟨rfl, hb⟩; have HB : Hid (Below w.heap.size w w1) := hb; clear hb R))
  go_ret
  exact ⟨rfl, HB.out⟩

theorem cell_al {w : World} {o : Obj} {b i : Nat} {v : Value} (h : w.cell? ⟨b, i, none⟩ = some v) : (w.alloc o).cell? ⟨b, i, none⟩ = some v :=
  (World.cell?_of_block (a := ⟨b, i, none⟩) (Below.heap_alloc _ _ _ (World.block_lt_of_cell? w ⟨b, i, none⟩ h))).trans h
theorem bytes_news {w : World} {g : Nat} {l : List UInt8} (h : BytesAt w g 0 l) : ∀ j u, (vals l)[j]? = some u → w.cell? ((⟨g, 0, none⟩ : Addr).add j) = some u := by
  intro j u hu
  unfold vals at hu
  rw [List.getElem?_map] at hu
  cases e : l[j]? with
  | none => rw [e] at hu; cases hu
  | some c =>
    rw [e] at hu
    obtain ⟨hj, ec⟩ := List.getElem?_eq_some_iff.1 e
    have := h j hj
    rw [show (⟨g, 0, none⟩ : Addr).add j = ⟨g, j, none⟩ from by unfold Addr.add; split <;> simp_all]
    rw [Nat.zero_add] at this
    rw [this, ec]
    simpa using hu
theorem vals_one (l : List UInt8) : ∀ u ∈ vals l, u.oneCell' = true := by
  intro u hu
  unfold vals at hu
  obtain ⟨c, -, rfl⟩ := List.mem_map.1 hu
  rfl

theorem G.bel {w x y : World} {B : Nat} (h : w.grownBy x (some B)) (b : Below x.heap.size x y) : w.grownBy y (some B) :=
  ⟨b.os.trans h.os, b.tape.trans h.tape, b.output.trans h.output, Nat.le_trans h.size b.size, fun k hk hne => (b.block k (Nat.lt_of_lt_of_le hk h.size)).trans (h.block k hk hne)⟩
theorem G.row {w x y : World} {B : Nat} {r : Option Nat} (h : w.grownBy x (some B)) (b : x.grownBy y r) (hr : ∀ k, r = some k → w.heap.size ≤ k) : w.grownBy y (some B) :=
  ⟨b.os.trans h.os, b.tape.trans h.tape, b.output.trans h.output, Nat.le_trans h.size b.size, fun k hk hne => (b.block k (Nat.lt_of_lt_of_le hk h.size) (fun e => by have := hr k e.symm; omega)).trans (h.block k hk hne)⟩

/-- What a stub has beside its computer and its scanner, as far as an answer asks. -/
structure StC (w : World) (B : Nat) (d : Nat) (bg : Bool) (rp : List UInt8) : Prop where
  cd : w.cell? ⟨B, 65765, none⟩ = some (.int .u8 (d : Int))
  cb : w.cell? ⟨B, 65766, none⟩ = some (.bool bg)
  cr : w.cell? ⟨B, 65767, none⟩ = some (.string ⟨rp.toArray⟩)
  free : ∀ o, w.frozen? ⟨B, o, none⟩ = false

set_option maxRecDepth 100000 in
set_option maxHeartbeats 2000000 in
theorem answerG_any {B : Nat} {s : PC} {w : World} (hc : CAt w B s) (hcy : 0 ≤ s.cyc) (d : UInt8) (bg : Bool) (rp : List UInt8) (hs : StC w B d.toNat bg rp) :
    Calls Tryz.prog 58 #[.pointer (some ⟨B, 0, none⟩), Pk.val ⟨d.toNat, [103], false⟩] w fun e w' => ∃ g cap, e = .returned (.slice (some ⟨g, 0, none⟩) (1 + (frameOf d (regText s)).length) cap) ∧
      BytesAt w' g 0 ([43] ++ frameOf d (regText s)) ∧ w.heap.size ≤ g ∧ w.grownBy w' (some B) := by
  have hlt := hc.lt
  have n0 : w.heap.size ≠ B := by omega
  have m0 : B ≠ w.heap.size := by omega
  have cd := hs.cd
  have cb := hs.cb
  have cr := hs.cr
  have fz := hs.free
  have hd := u8_r d
  have hw : IntKind.i64.wrap (d.toNat : Int) = (d.toNat : Int) := wrap_id8 _ hd.1 hd.2
  rw [pk_val]
  have D := fun o => doG_any (Tn.refl hc |>.alloc o).drew hcy
  have hlen := regText_len s
  generalize regText s = t at *
  go_enter Tryz.func58, Tryz.ntmps58
  go_wp2_with fail
  go_region_held3 (fun w' => w'.cell? ⟨w.heap.size, 0, none⟩ = some (.int .i64 (d.toNat : Int)) ∧ w'.cell? ⟨B, 65765, none⟩ = some (.int .u8 (d.toNat : Int))) (go_keep) (fail)
  go_wp2_with fail
  refine (D _).mono ?_
  rintro e w1 ⟨rfl, hb⟩
  obtain ⟨hcc, hff⟩ := bcellR hb
  have e1 := (hcc B 65765 (by simp; omega)).trans (cell_al cd)
  have e2 := (hcc B 65766 (by simp; omega)).trans (cell_al cb)
  have e3 := (hcc B 65767 (by simp; omega)).trans (cell_al cr)
  have e4 := (hcc w.heap.size 0 (by simp)).trans (World.cell?_alloc_at _ _ _ _ rfl)
  have e5 : ∀ o, w1.frozen? ⟨B, o, none⟩ = false := fun o => (hff B o (by simp; omega)).trans ((World.frozen?_of_block (a := ⟨B, o, none⟩) (Below.heap_alloc _ _ _ hlt)).trans (fz o))
  have hs1 : w.heap.size < w1.heap.size := by have := hb.size; simp at this; omega
  have HB : Hid (Below w.heap.size w w1) := ((Below.refl _ _).alloc (Nat.le_refl _) _).trans (below_undrew (hb.mono (by simp)))
  clear hcc hff hb D cd cb cr fz hc hs
  obtain ⟨i0, hi, hz0, hz1, hz2⟩ := info_parts inf_u8
  go_wp2_with fail
  have x3 : (((w1.setCell ⟨B, 65767, none⟩ (.string ⟨t.toArray⟩)).setCell ⟨B, 65766, none⟩ (.bool true)).setCell ⟨B, 65765, none⟩ (.int .u8 (((d.toNat : Int) + 1) % 256))).drew.cell? ⟨B, 65767, none⟩ = some (.string ⟨t.toArray⟩) := by
    show World.cell? (((w1.setCell _ _).setCell _ _).setCell _ _) _ = _
    rw [World.cell?_setCell_other _ _ _ _ (cp_addr _ _ _ (by decide)), World.cell?_setCell_other _ _ _ _ (cp_addr _ _ _ (by decide))]
    exact World.cell?_setCell_same _ _ _ e3
  have x0 : (((w1.setCell ⟨B, 65767, none⟩ (.string ⟨t.toArray⟩)).setCell ⟨B, 65766, none⟩ (.bool true)).setCell ⟨B, 65765, none⟩ (.int .u8 (((d.toNat : Int) + 1) % 256))).drew.cell? ⟨w.heap.size, 0, none⟩ = some (.int .i64 (d.toNat : Int)) := by
    have ne : ∀ i, (⟨B, i, none⟩ : Addr) ≠ ⟨w.heap.size, 0, none⟩ := fun i e => by injection e with e1 e2; exact m0 e1
    show World.cell? (((w1.setCell _ _).setCell _ _).setCell _ _) _ = _
    rw [World.cell?_setCell_other _ _ _ _ (ne _), World.cell?_setCell_other _ _ _ _ (ne _), World.cell?_setCell_other _ _ _ _ (ne _)]
    exact e4
  go_region_held3 (fun w' => w'.cell? ⟨w.heap.size, 0, none⟩ = some (.int .i64 (d.toNat : Int)) ∧ w'.cell? ⟨B, 65767, none⟩ = some (.string ⟨t.toArray⟩)) (go_keep) (first | (go_at_call 56; refine (wireFrame_any d ⟨t.toArray⟩ _ (by simp [ByteArray.size]; omega)).mono ?_; rintro e w3 ⟨v, rfl, O⟩; obtain ⟨g, cap, rfl, o1, o2, o3⟩ := O; have y0 := (o2.cell (p := ⟨w.heap.size, 0, none⟩) (by simp; omega)).trans x0; have y3 := (o2.cell (p := ⟨B, 65767, none⟩) (by simp; omega)).trans x3))
  have HN : Hid (BytesAt w3 g 0 (frameOf d t)) := owns_bytes o1
  have hfl : (frameOf d t).length ≤ 200 := by have := esc_len t; simp [frameOf, hex2]; omega
  have hfp : 0 < (frameOf d t).length := by simp [frameOf]
  have hgl := (o1.lt g rfl)
  have HG : Hid (w.grownBy w3 (some B)) := G.bel (G.drew (G.set (G.set (G.set (G.bel (cp_refl _ _) HB.out))))) o2
  clear o1 o2 o3 e1 e2 e3 e4 e5 x0 x3 y0 y3 HB
  generalize hF : frameOf d t = F at *
  have HF : Hid (frameOf d t = F) := hF
  clear hF
  have hs3 : w.heap.size ≤ w3.heap.size := HG.out.size
  have hg3 : g < w3.heap.size := hgl.2
  clear hgl
  go_wp2_with (first | (at_builtin; go_must (refine wpList_append_lies _ rfl (.tmp 65) (.tmp 66) 35 rfl w3.heap.size 5 i0 (.int .u8 0) 1 1 und_bytes hi hz0 hz1 hz2 rfl (by decide) (.slice (some ⟨w3.heap.size, 0, none⟩) 1 1) 1 [.int .u8 43] rfl (World.ownsRow_lit w3 #[.int .u8 43] 1 (Nat.le_refl _) (by decide) rfl) ⟨g, 0, none⟩ F.length cap (vals F) rfl (by rw [vals_length]; simp) (bytes_news (bytes_alloc HN.out hg3 _)) (vals_one F) hfp (by unfold maxLen; omega) (by omega) (by simp) _ rfl ?_; intro g' cap' w4 hown' hgrow hat hlt'; have H4 : Hid (BytesAt w4 g' 0 (43 :: F) ∧ w.heap.size ≤ g' ∧ w.grownBy w4 (some B)) := ⟨owns_bytes (l := 43 :: F) (by rw [List.length_cons, Nat.add_comm]; exact hown'), Nat.le_trans hs3 (hown'.lt g' rfl).1, G.row (G.alloc HG.out) hgrow (fun k e => by simp [Value.ownBlock] at e; omega)⟩; clear hown' hgrow hat hlt')))
  go_ret
  have hF := HF.out
  subst hF
  exact ⟨g', cap', rfl, H4.out⟩
end

/-
  A packet answered.
-/
section
/-- A packet answered. -/
def SB.ans (S : SB) (p : Pk) : SB × List UInt8 :=
  if p.bad = true then (S, [45])
  else if p.seq = S.due.toNat then
    ({ (S.doI p.body).1 with rp := (S.doI p.body).2, bg := true, due := (S.doI p.body).1.due + 1 }, 43 :: frameOf S.due (S.doI p.body).2)
  else if S.bg = true ∧ p.seq = (S.due - 1).toNat then (S, 43 :: frameOf (S.due - 1) S.rp)
  else (S, [63])

/-- What an answer leaves. -/
def AnsR (B : Nat) (N : Int) (w0 w w' : World) (S : SB) (L : List UInt8) (e : Ending) : Prop :=
  ∃ g cap s', e = .returned (.slice (some ⟨g, 0, none⟩) L.length cap) ∧ BytesAt w' g 0 L ∧ w.heap.size ≤ g ∧ g < w'.heap.size ∧ Tn B s' w0 w' ∧ SV S s' ∧ SI S (N + 1000000)
theorem tn_row {w0 w w' : World} {B : Nat} {s : PC} {r : Option Nat} (h : Tn B s w0 w) (g : w.grownBy w' r) (hr : ∀ k, r = some k → k ≠ B ∧ w0.heap.size ≤ k) : Tn B s w0 w' :=
  ⟨h.c.same (g.block B h.c.lt (fun e => (hr B e.symm).1 rfl)), ⟨g.os.trans h.g.os, g.tape.trans h.g.tape, g.output.trans h.g.output, Nat.le_trans h.g.size g.size, fun k hk hne => (g.block k (Nat.lt_of_lt_of_le hk h.g.size) (fun e => by have := (hr k e.symm).2; omega)).trans (h.g.block k hk hne)⟩⟩
theorem one_at (w : World) (x : UInt8) (t : TypeId) : BytesAt (w.alloc (.cells #[.int .u8 (x.toNat : Int)] t)) w.heap.size 0 [x] := by
  intro i hi
  have e : i = 0 := by simp at hi; exact hi
  subst e
  exact World.cell?_alloc_at _ _ _ _ rfl

theorem one_atN (w : World) (o : Obj) (k : Nat) (x : UInt8) (t : TypeId) : BytesAt (((w.alloc o).drewN k).alloc (.cells #[.int .u8 (x.toNat : Int)] t)) (w.heap.size + 1) 0 [x] := by
  have q := one_at ((w.alloc o).drewN k) x t
  rw [drewN_size, World.size_alloc] at q
  exact q

set_option maxRecDepth 100000 in
set_option maxHeartbeats 4000000 in
theorem answer_any {B : Nat} {s : PC} {w0 w : World} {S : SB} {N : Int} (h : Tn B s w0 w) (hS : SV S s) (hI : SI S N) (hN0 : 0 ≤ N) (hN : N < 1000000000000000) (p : Pk) (hl : p.body.length ≤ 200) (hrp : S.rp.length ≤ 80) :
    Calls Tryz.prog 58 #[.pointer (some ⟨B, 0, none⟩), p.val] w fun e w' => AnsR B N w0 w w' (S.ans p).1 (S.ans p).2 e := by
  obtain ⟨i0, hi, hz0, hz1, hz2⟩ := info_parts inf_u8
  obtain ⟨sq, body, bad⟩ := p
  have hlt := h.c.lt
  have hsz := h.g.size
  have n0 : w.heap.size ≠ B := by omega
  have m0 : B ≠ w.heap.size := by omega
  have cd : w.cell? ⟨B, 65765, none⟩ = some (.int .u8 (S.due.toNat : Int)) := h.rest (by decide) hS.cd
  have cb : w.cell? ⟨B, 65766, none⟩ = some (.bool S.bg) := h.rest (by decide) hS.cb
  have cr : w.cell? ⟨B, 65767, none⟩ = some (.string ⟨S.rp.toArray⟩) := h.rest (by decide) hS.cr
  have fz := h.c.free
  have hd := u8_r S.due
  have hw : IntKind.i64.wrap (S.due.toNat : Int) = (S.due.toNat : Int) := wrap_id8 _ hd.1 hd.2
  have hl : body.length ≤ 200 := hl
  have HT := hid h
  have HS := hid hS
  have HI := hid (hI.mono (show N ≤ N + 1000000 by omega))
  unfold SB.ans
  rw [pk_val]
  cases bad
  · rw [if_neg (by simp)]
    by_cases hq : sq = S.due.toNat
    · rw [if_pos hq]
      show Calls _ _ _ _ fun e w' => AnsR B N w0 w w' { (S.doI body).1 with rp := (S.doI body).2, bg := true, due := (S.doI body).1.due + 1 } (43 :: frameOf S.due (S.doI body).2) e
      have D := fun {x w : World} (h : Tn B s x w) => do_any h hS hI hN0 hN body hl
      have htl := doI_len S body
      subst hq
      generalize hG : S.doI body = G0 at *
      obtain ⟨S2, t⟩ := G0
      have htl : t.length ≤ 80 := htl
      obtain ⟨d, hdd⟩ : ∃ d, S.due = d := ⟨_, rfl⟩
      rw [hdd] at cd hw hd ⊢
      clear h hG cb cr
      go_enter Tryz.func58, Tryz.ntmps58
      go_wp2_with fail
      go_region_held3 (fun w' => w'.cell? ⟨w.heap.size, 0, none⟩ = some (.int .i64 (d.toNat : Int)) ∧ w'.cell? ⟨B, 65765, none⟩ = some (.int .u8 (d.toNat : Int))) (go_keep) (fail)
      go_wp2_with fail
      refine (D (Tn.refl (HT.out.alloc _).drew.c)).mono ?_
      rintro e w1 ⟨rfl, s2, T2, V2, I2⟩
      have K := kept T2
      have e4 := (K.1 w.heap.size 0 n0 (by simp)).trans (World.cell?_alloc_at _ _ _ _ rfl)
      have e1 : w1.cell? ⟨B, 65765, none⟩ = some (.int .u8 (S2.due.toNat : Int)) := T2.rest (by decide) V2.cd
      have e2 : w1.cell? ⟨B, 65766, none⟩ = some (.bool S2.bg) := T2.rest (by decide) V2.cb
      have e3 : w1.cell? ⟨B, 65767, none⟩ = some (.string ⟨S2.rp.toArray⟩) := T2.rest (by decide) V2.cr
      have fz1 := T2.c.free
      have hs1 : w.heap.size < w1.heap.size := by have := T2.g.size; simp at this; omega
      have HT2 := hid ((HT.out.alloc _).drew.trans T2)
      have HV2 := hid V2
      have HI3 : Hid (SI { S2 with rp := t, bg := true, due := S2.due + 1 } (N + 1000000)) := I2.like rfl rfl
      clear K T2 V2 I2 D cd fz
      have ed : ((S2.due.toNat : Int) + 1) % 256 = ((S2.due + 1).toNat : Int) := by rw [UInt8.toNat_add]; show _ = (((S2.due.toNat + 1) % 256 : Nat) : Int); omega
      have HTX : Hid (Tn B (((s2.put 65767 (.string ⟨t.toArray⟩)).put 65766 (.bool true)).put 65765 (.int .u8 ((S2.due + 1).toNat : Int))) w0 (((w1.setCell ⟨B, 65767, none⟩ (.string ⟨t.toArray⟩)).setCell ⟨B, 65766, none⟩ (.bool true)).setCell ⟨B, 65765, none⟩ (.int .u8 (((S2.due.toNat : Int) + 1) % 256)))) := by
        rw [ed]
        exact ((HT2.out.put _ _ _ (by decide) HV2.out.cr).put _ _ _ (by decide) ((put_other _ _ _ _ (by decide)).trans HV2.out.cb)).put _ _ _ (by decide) ((put_other _ _ _ _ (by decide)).trans ((put_other _ _ _ _ (by decide)).trans HV2.out.cd))
      have HV3 : Hid (SV { S2 with rp := t, bg := true, due := S2.due + 1 } (((s2.put 65767 (.string ⟨t.toArray⟩)).put 65766 (.bool true)).put 65765 (.int .u8 ((S2.due + 1).toNat : Int)))) :=
        HV2.out.hd (((RsO.put s2 65767 _ _ _ (by decide) (by decide)).trans (RsO.put _ 65766 _ _ _ (by decide) (by decide))).trans (RsO.put _ 65765 _ _ _ (by decide) (by decide))) (HV2.out.sc.keep fun k _ _ => by rw [put_other _ _ _ _ (by omega), put_other _ _ _ _ (by omega), put_other _ _ _ _ (by omega)]) (put_same _ _ _) ((put_other _ _ _ _ (by decide)).trans (put_same _ _ _)) ((put_other _ _ _ _ (by decide)).trans ((put_other _ _ _ _ (by decide)).trans (put_same _ _ _)))
      clear ed
      go_wp2_with fail
      have x0 : (((w1.setCell ⟨B, 65767, none⟩ (.string ⟨t.toArray⟩)).setCell ⟨B, 65766, none⟩ (.bool true)).setCell ⟨B, 65765, none⟩ (.int .u8 (((S2.due.toNat : Int) + 1) % 256))).cell? ⟨w.heap.size, 0, none⟩ = some (.int .i64 (d.toNat : Int)) := by
        have ne : ∀ i, (⟨B, i, none⟩ : Addr) ≠ ⟨w.heap.size, 0, none⟩ := fun i e => by injection e with e1 e2; exact m0 e1
        rw [World.cell?_setCell_other _ _ _ _ (ne _), World.cell?_setCell_other _ _ _ _ (ne _), World.cell?_setCell_other _ _ _ _ (ne _)]
        exact e4
      have x3 := HTX.out.rest (o := 65767) (by decide) ((put_other _ _ _ _ (by decide)).trans ((put_other _ _ _ _ (by decide)).trans (put_same _ _ _)))
      have zW : w.heap.size < (((w1.setCell ⟨B, 65767, none⟩ (.string ⟨t.toArray⟩)).setCell ⟨B, 65766, none⟩ (.bool true)).setCell ⟨B, 65765, none⟩ (.int .u8 (((S2.due.toNat : Int) + 1) % 256))).heap.size := by simpa using hs1
      generalize ((s2.put 65767 (.string ⟨t.toArray⟩)).put 65766 (.bool true)).put 65765 (.int .u8 ((S2.due + 1).toNat : Int)) = s3 at *
      generalize (((w1.setCell ⟨B, 65767, none⟩ (.string ⟨t.toArray⟩)).setCell ⟨B, 65766, none⟩ (.bool true)).setCell ⟨B, 65765, none⟩ (.int .u8 (((S2.due.toNat : Int) + 1) % 256))) = W at *
      have HTW := HTX
      have bW : B < W.heap.size := HTX.out.c.lt
      clear e1 e2 e3 e4 fz1 HT2 HV2 HTX
      go_region_held3 (fun w' => w'.cell? ⟨w.heap.size, 0, none⟩ = some (.int .i64 (d.toNat : Int)) ∧ w'.cell? ⟨B, 65767, none⟩ = some (.string ⟨t.toArray⟩)) (go_keep) (first | (go_at_call 56; refine (wireFrame_any d ⟨t.toArray⟩ _ (by show t.toArray.size ≤ 80; simpa using htl)).mono ?_; rintro e w3 ⟨v, rfl, O⟩; obtain ⟨g, cap, rfl, o1, o2, o3⟩ := O; have y0 := (o2.cell (p := ⟨w.heap.size, 0, none⟩) zW).trans x0; have y3 := (o2.cell (p := ⟨B, 65767, none⟩) bW).trans x3))
      have HN : Hid (BytesAt w3 g 0 (frameOf d t)) := owns_bytes o1
      have hfl : (frameOf d t).length ≤ 200 := by have := esc_len t; simp [frameOf, hex2]; omega
      have hfp : 0 < (frameOf d t).length := by simp [frameOf]
      have hgl := (o1.lt g rfl)
      have HT3 : Hid (Tn B s3 w0 w3) := below_thru HTW.out.drew o2
      have hs3 : W.heap.size ≤ w3.heap.size := o2.size
      clear o1 o2 o3 x0 x3 y0 y3 HTW
      obtain ⟨F, HF⟩ : ∃ F, Hid (frameOf d t = F) := ⟨_, rfl⟩
      rw [HF.out] at HN hfl hfp
      rw [HF.out]
      have hg3 : g < w3.heap.size := hgl.2
      clear hgl
      have hB3 : B < w3.heap.size := HT3.out.c.lt
      go_wp2_with (first | (at_builtin; go_must (refine wpList_append_lies _ rfl (.tmp 65) (.tmp 66) 35 rfl w3.heap.size 5 i0 (.int .u8 0) 1 1 und_bytes hi hz0 hz1 hz2 rfl (by decide) (.slice (some ⟨w3.heap.size, 0, none⟩) 1 1) 1 [.int .u8 43] rfl (World.ownsRow_lit w3 #[.int .u8 43] 1 (Nat.le_refl _) (by decide) rfl) ⟨g, 0, none⟩ F.length cap (vals F) rfl (by rw [vals_length]; simp) (bytes_news (bytes_alloc HN.out hg3 _)) (vals_one F) hfp (by unfold maxLen; omega) (by omega) (by simp) _ rfl ?_; intro g' cap' w4 hown' hgrow hat hlt'; have H4 : Hid (BytesAt w4 g' 0 (43 :: F) ∧ w.heap.size ≤ g' ∧ g' < w4.heap.size ∧ Tn B s3 w0 w4) := ⟨owns_bytes (l := 43 :: F) (by rw [List.length_cons, Nat.add_comm]; exact hown'), (by have := (hown'.lt g' rfl).1; omega), hlt', tn_row (HT3.out.alloc _) hgrow (fun k e => by simp [Value.ownBlock] at e; omega)⟩; clear hown' hgrow hat hlt')))
      go_ret
      obtain ⟨b1, b2, b3, b4⟩ := H4.out
      exact ⟨g', cap', s3, by rw [HF.out, List.length_cons, Nat.add_comm]; rfl, by rw [HF.out]; exact b1, b2, b3, b4, HV3.out, HI3.out⟩
    · rw [if_neg hq]
      have hq' : ((sq : Int) == (S.due.toNat : Int)) = false := by rw [beq_eq_false_iff_ne]; omega
      cases hbg : S.bg
      · rw [if_neg (by simp)]
        rw [hbg] at cb
        clear h hS
        go_enter Tryz.func58, Tryz.ntmps58
        go_wp2_with fail
        go_quiet (fail)
        rename_i nq1
        go_wp2_with fail
        go_quiet (fail)
        go_wp2
        go_ret
        refine ⟨w.heap.size + 1, 1, s, rfl, ?_, by omega, by simp, ((HT.out.alloc _).drewN _).alloc _, HS.out, HI.out⟩
        exact one_atN w _ _ 63 5
      · rw [hbg] at cb
        obtain ⟨d, hd1⟩ : ∃ d, Hid (S.due - 1 = d) := ⟨_, rfl⟩
        rw [hd1.out]
        have ed : ((S.due.toNat : Int) - 1) % 256 = (d.toNat : Int) := by
          rw [← hd1.out, UInt8.toNat_sub]
          have := S.due.toNat_lt
          show _ = (((256 - 1 + S.due.toNat) % 256 : Nat) : Int)
          omega
        have hd2 := u8_r d
        have hwd : IntKind.i64.wrap (d.toNat : Int) = (d.toNat : Int) := wrap_id8 _ hd2.1 hd2.2
        have ed2 : IntKind.u8.wrap ((S.due.toNat : Int) - 1) = (d.toNat : Int) := by rw [IntKind.wrap_u8]; exact ed
        by_cases hq2 : sq = d.toNat
        · rw [if_pos ⟨rfl, hq2⟩]
          subst hq2
          clear h hS
          have htl := hrp
          have HV3 := HS
          go_enter Tryz.func58, Tryz.ntmps58
          go_wp2_with fail
          go_quiet (fail)
          have HT1 := hid ((HT.out.alloc (.cells #[.int .i64 (d.toNat : Int), .string ⟨body.toArray⟩, .bool false] 152)).drewN nq)
          have z0 : ((w.alloc (.cells #[.int .i64 (d.toNat : Int), .string ⟨body.toArray⟩, .bool false] 152)).drewN nq).cell? ⟨w.heap.size, 0, none⟩ = some (.int .i64 (d.toNat : Int)) := (drewN_cell _ _ _).trans (World.cell?_alloc_at _ _ _ _ rfl)
          have zs : w.heap.size < ((w.alloc (.cells #[.int .i64 (d.toNat : Int), .string ⟨body.toArray⟩, .bool false] 152)).drewN nq).heap.size := by rw [drewN_size]; simp
          generalize (w.alloc (.cells #[.int .i64 (d.toNat : Int), .string ⟨body.toArray⟩, .bool false] 152)).drewN nq = W1 at *
          have cd := HT1.out.rest (by decide) HS.out.cd
          have cb : W1.cell? ⟨B, 65766, none⟩ = some (.bool true) := by rw [← hbg]; exact HT1.out.rest (by decide) HS.out.cb
          go_wp2_with fail
          go_quiet (fail)
          have HTW := hid (HT1.out.drewN nq)
          have x0 := (drewN_cell W1 nq _).trans z0
          have x3 : (W1.drewN nq).cell? ⟨B, 65767, none⟩ = some (.string ⟨S.rp.toArray⟩) := HTW.out.rest (by decide) HS.out.cr
          have zW : w.heap.size < (W1.drewN nq).heap.size := by rw [drewN_size]; exact zs
          have bW : B < (W1.drewN nq).heap.size := HTW.out.c.lt
          generalize W1.drewN nq = W at *
          clear z0 zs HT1 cd cb cr fz
          go_wp2_with fail
          go_region_held3 (fun w' => w'.cell? ⟨w.heap.size, 0, none⟩ = some (.int .i64 (d.toNat : Int)) ∧ w'.cell? ⟨B, 65767, none⟩ = some (.string ⟨S.rp.toArray⟩)) (go_keep) (first | (go_at_call 56; refine (wireFrame_any d ⟨S.rp.toArray⟩ _ (by show S.rp.toArray.size ≤ 80; simpa using htl)).mono ?_; rintro e w3 ⟨v, rfl, O⟩; obtain ⟨g, cap, rfl, o1, o2, o3⟩ := O; have y0 := (o2.cell (p := ⟨w.heap.size, 0, none⟩) zW).trans x0; have y3 := (o2.cell (p := ⟨B, 65767, none⟩) bW).trans x3))
          have HN : Hid (BytesAt w3 g 0 (frameOf d S.rp)) := owns_bytes o1
          have hfl : (frameOf d S.rp).length ≤ 200 := by have := esc_len S.rp; simp [frameOf, hex2]; omega
          have hfp : 0 < (frameOf d S.rp).length := by simp [frameOf]
          have hgl := (o1.lt g rfl)
          have HT3 : Hid (Tn B s w0 w3) := below_thru HTW.out.drew o2
          have hs3 : W.heap.size ≤ w3.heap.size := o2.size
          clear o1 o2 o3 x0 x3 y0 y3 HTW
          obtain ⟨F, HF⟩ : ∃ F, Hid (frameOf d S.rp = F) := ⟨_, rfl⟩
          rw [HF.out] at HN hfl hfp
          rw [HF.out]
          have hg3 : g < w3.heap.size := hgl.2
          clear hgl
          have hB3 : B < w3.heap.size := HT3.out.c.lt
          go_wp2_with (first | (at_builtin; go_must (refine wpList_append_lies _ rfl (.tmp 65) (.tmp 66) 35 rfl w3.heap.size 5 i0 (.int .u8 0) 1 1 und_bytes hi hz0 hz1 hz2 rfl (by decide) (.slice (some ⟨w3.heap.size, 0, none⟩) 1 1) 1 [.int .u8 43] rfl (World.ownsRow_lit w3 #[.int .u8 43] 1 (Nat.le_refl _) (by decide) rfl) ⟨g, 0, none⟩ F.length cap (vals F) rfl (by rw [vals_length]; simp) (bytes_news (bytes_alloc HN.out hg3 _)) (vals_one F) hfp (by unfold maxLen; omega) (by omega) (by simp) _ rfl ?_; intro g' cap' w4 hown' hgrow hat hlt'; have H4 : Hid (BytesAt w4 g' 0 (43 :: F) ∧ w.heap.size ≤ g' ∧ g' < w4.heap.size ∧ Tn B s w0 w4) := ⟨owns_bytes (l := 43 :: F) (by rw [List.length_cons, Nat.add_comm]; exact hown'), (by have := (hown'.lt g' rfl).1; omega), hlt', tn_row (HT3.out.alloc _) hgrow (fun k e => by simp [Value.ownBlock] at e; omega)⟩; clear hown' hgrow hat hlt')))
          go_ret
          obtain ⟨b1, b2, b3, b4⟩ := H4.out
          exact ⟨g', cap', s, by rw [HF.out, List.length_cons, Nat.add_comm]; rfl, by rw [HF.out]; exact b1, b2, b3, b4, HV3.out, HI.out⟩
        · rw [if_neg (fun q => hq2 q.2)]
          have hq3 : ((sq : Int) == (d.toNat : Int)) = false := by rw [beq_eq_false_iff_ne]; omega
          have hq4 : ((sq : Int) != (d.toNat : Int)) = true := by rw [bne, hq3]; rfl
          clear h hS
          go_enter Tryz.func58, Tryz.ntmps58
          go_wp2_with fail
          go_quiet (fail)
          go_wp2_with fail
          go_quiet (fail)
          go_wp2
          go_ret
          refine ⟨w.heap.size + 1, 1, s, rfl, ?_, by omega, by simp, ((HT.out.alloc _).drewN _).alloc _, HS.out, HI.out⟩
          exact one_atN w _ _ 63 5
  · rw [if_pos rfl]
    clear h hS
    go_enter Tryz.func58, Tryz.ntmps58
    go_wp2
    go_ret
    refine ⟨w.heap.size + 1, 1, s, rfl, ?_, by omega, by simp, (HT.out.alloc _).alloc _, HS.out, HI.out⟩
    have q := one_at (w.alloc (.cells #[.int .i64 (sq : Int), .string ⟨body.toArray⟩, .bool true] 152)) 45 5
    simpa using q
end

/-
  A stub fed with the command g.
-/
section
theorem hexd_plain (n : Nat) : esc1 (hexd n) = [hexd n] := by
  by_cases h : n < 16
  · have : ∀ n : Fin 16, esc1 (hexd n.1) = [hexd n.1] := by decide
    exact this ⟨n, h⟩
  · have e : hexd n = 0 := by unfold hexd; rw [List.getD_eq_getElem?_getD, List.getElem?_eq_none (by simp [digits]; omega)]; rfl
    rw [e]; decide
theorem esc_hexN (n : Nat) : ∀ k, esc (hexN n k) = hexN n k
  | 0 => rfl
  | k + 1 => by
    show esc (_ :: hexN n k) = _ :: hexN n k
    unfold esc at *
    rw [List.flatMap_cons, hexd_plain]
    have := esc_hexN n k
    unfold esc at this
    rw [this]; rfl
theorem esc_append (a b : List UInt8) : esc (a ++ b) = esc a ++ esc b := by simp [esc]
theorem esc_regs (s : PC) : esc (regText s) = regText s := by
  have e : regText s = hexN s.ba.toNat 2 ++ (hexN s.bx.toNat 2 ++ (hexN s.b_y.toNat 2 ++ (hexN s.bs.toNat 2 ++ (hexN s.bp.toNat 2 ++ (hexN s.bpc.toNat 4 ++ hexN s.cyc.toNat 8))))) := by simp [regText, regPre]
  rw [e]; simp only [esc_append, esc_hexN]
theorem frameG_len (d : UInt8) (s : PC) : (frameOf d (regText s)).length = 28 := by
  unfold frameOf; rw [esc_regs]; simp [hex2, regText_len]

theorem CAt.scanned {w w' : World} {B : Nat} {s : PC} (h : CAt w B s) (hk : ∀ o, o < 65562 → w'.cell? ⟨B, o, none⟩ = w.cell? ⟨B, o, none⟩) (hf : ∀ o, w'.frozen? ⟨B, o, none⟩ = false) : CAt w' B { s with rest := fun o => w'.cell? ⟨B, o, none⟩ } :=
  { h with mem := fun i hi => (hk i (by omega)).trans (h.mem i hi), crom := (hk _ (by decide)).trans h.crom, ccnt := (hk _ (by decide)).trans h.ccnt, ccalls := (hk _ (by decide)).trans h.ccalls, ca := (hk _ (by decide)).trans h.ca, cx := (hk _ (by decide)).trans h.cx, cy := (hk _ (by decide)).trans h.cy, cs := (hk _ (by decide)).trans h.cs, cp := (hk _ (by decide)).trans h.cp, cpc := (hk _ (by decide)).trans h.cpc, cba := (hk _ (by decide)).trans h.cba, cbx := (hk _ (by decide)).trans h.cbx, cb_y := (hk _ (by decide)).trans h.cb_y, cbs := (hk _ (by decide)).trans h.cbs, cbp := (hk _ (by decide)).trans h.cbp, cbpc := (hk _ (by decide)).trans h.cbpc, cst := (hk _ (by decide)).trans h.cst, cins := (hk _ (by decide)).trans h.cins, cmd := (hk _ (by decide)).trans h.cmd, cstep := (hk _ (by decide)).trans h.cstep, cad := (hk _ (by decide)).trans h.cad, chop := (hk _ (by decide)).trans h.chop, cdata := (hk _ (by decide)).trans h.cdata, ctaken := (hk _ (by decide)).trans h.ctaken, cnmiOn := (hk _ (by decide)).trans h.cnmiOn, cnmiDue := (hk _ (by decide)).trans h.cnmiDue, ccyc := (hk _ (by decide)).trans h.ccyc, free := hf, crest := fun _ _ => rfl }

def gBytes : List UInt8 := [36, 48, 48, 103, 35, 99, 55]
theorem feedP_g : feedP ⟨0, [], 0⟩ gBytes = [⟨0, [103], false⟩] := by kernel_rfl

set_option maxRecDepth 100000 in
set_option maxHeartbeats 2000000 in
theorem stubFeedG_any {B : Nat} {s : PC} {w : World} (hc : CAt w B s) (hcy : 0 ≤ s.cyc) (bg : Bool) (rp : List UInt8) (hst : StC w B 0 bg rp) (hsc : ScS (fun o => w.cell? ⟨B, o, none⟩) w B ⟨0, [], 0⟩)
    (bb off cap : Nat) (hB : BytesAt w bb off gBytes) (hne : bb ≠ B) :
    Calls Tryz.prog 40 #[.pointer (some ⟨B, 0, none⟩), .slice (some ⟨bb, off, none⟩) 7 cap] w fun e w' => ∃ g cap, e = .returned (.slice (some ⟨g, 0, none⟩) 29 cap) ∧
      BytesAt w' g 0 (43 :: frameOf 0 (regText s)) ∧ w.heap.size ≤ g ∧ w.grownBy w' (some B) := by
  obtain ⟨i0, hi, hz0, hz1, hz2⟩ := info_parts inf_u8
  have hlt := hc.lt
  have SF := scannerFeedS_any B bb off cap ⟨0, [], 0⟩ gBytes w hsc (by decide) hB hne (by rw [feedP_g]; decide)
  rw [feedP_g] at SF
  have HC : Hid (CAt w B s ∧ StC w B 0 bg rp) := ⟨hc, hst⟩
  have hfl := frameG_len 0 s
  clear hc hst hsc hB
  go_enter Tryz.func40, Tryz.ntmps40
  go_wp2_with fail
  refine SF.mono ?_
  rintro e w1 ⟨v, rfl, F1⟩
  have hC1 : CAt w1 B { s with rest := fun o => w1.cell? ⟨B, o, none⟩ } := HC.out.1.scanned (fun o ho => F1.sc.keep o (.inl ho)) F1.sc.free
  have hS1 : StC w1 B 0 bg rp := ⟨(F1.sc.keep _ (.inr (by decide))).trans HC.out.2.cd, (F1.sc.keep _ (.inr (by decide))).trans HC.out.2.cb, (F1.sc.keep _ (.inr (by decide))).trans HC.out.2.cr, F1.sc.free⟩
  obtain ⟨pg, pcap, rfl⟩ : ∃ g cap, v = .slice (some ⟨g, 0, none⟩) 1 cap := by
    rcases F1.own.2 with ⟨-, e⟩ | ⟨g, cap, cur, e, -⟩
    · cases e
    · exact ⟨g, cap, e⟩
  have p0 : w1.cell? ⟨pg, 0, none⟩ = some (.int .i64 0) := F1.own.cellAt 0 (by decide)
  have p1 : w1.cell? ⟨pg, 1, none⟩ = some (.string ⟨#[103]⟩) := F1.own.cellAt 1 (by decide)
  have p2 : w1.cell? ⟨pg, 2, none⟩ = some (.bool false) := F1.own.cellAt 2 (by decide)
  have HG : Hid (w.grownBy w1 (some B)) := F1.grown
  have A : ∀ o, Calls Tryz.prog 58 #[.pointer (some ⟨B, 0, none⟩), .agg #[.int .i64 0, .string ⟨#[103]⟩, .bool false]] (w1.alloc o) fun e w' => ∃ g cap, e = .returned (.slice (some ⟨g, 0, none⟩) (1 + (frameOf 0 (regText s)).length) cap) ∧
      BytesAt w' g 0 ([43] ++ frameOf 0 (regText s)) ∧ (w1.alloc o).heap.size ≤ g ∧ (w1.alloc o).grownBy w' (some B) :=
    fun o => answerG_any (s := { s with rest := fun o => w1.cell? ⟨B, o, none⟩ }) (w := w1.alloc o) (hC1.same (Below.heap_alloc _ _ _ hC1.lt)) hcy 0 bg rp ⟨cell_al hS1.cd, cell_al hS1.cb, cell_al hS1.cr, fun o' => (World.frozen?_of_block (a := ⟨B, o', none⟩) (Below.heap_alloc _ _ _ hC1.lt)).trans (hS1.free o')⟩
  rw [hfl] at A
  have hF : Hid ((frameOf 0 (regText s)).length = 28) := hfl
  have hs1 := HG.out.size
  clear hC1 hS1 F1 SF HC hfl
  obtain ⟨L, HL⟩ : ∃ L, Hid (L = 43 :: frameOf 0 (regText s)) := ⟨_, rfl⟩
  have hLl : L.length = 29 := by rw [HL.out, List.length_cons, hF.out]
  go_wp2_with fail
  go_loopw [5, 14] (fun v i wr => ∃ k : Nat, k ≤ 1 ∧ i = .int .i64 k ∧ (k = 0 → v = .slice none 0 0 ∧ wr = w1) ∧ (k = 1 → ∃ g cap, v = .slice (some ⟨g, 0, none⟩) 29 cap ∧ BytesAt wr g 0 L ∧ w.heap.size ≤ g ∧ w.grownBy wr (some B))) (fun _ i _ => 1 - (intOf i).toNat)
  case atStart => exact ⟨0, by omega, rfl, fun _ => ⟨rfl, rfl⟩, fun e => by omega⟩
  case round =>
    obtain ⟨k, hk, rfl, h0, h1⟩ := hrel
    by_cases hlt1 : k < 1
    · obtain ⟨rfl, rfl⟩ := h0 (by omega)
      have e0 : k = 0 := by omega
      clear h0 h1 hk
      have HE : Hid (k = 0) := e0
      have q0 : wr.cell? ⟨pg, k * 3, none⟩ = some (.int .i64 0) := by rw [e0]; exact p0
      have q1 : wr.cell? ⟨pg, k * 3 + 1, none⟩ = some (.string ⟨#[103]⟩) := by rw [e0]; exact p1
      have q2 : wr.cell? ⟨pg, k * 3 + 2, none⟩ = some (.bool false) := by rw [e0]; exact p2
      clear e0 p0 p1 p2
      go_wp2_with (first | (go_at_call 58; refine (A _).mono ?_; rintro e w2 ⟨g2, cap2, rfl, B2, s2, G2⟩; have hB2 : BytesAt w2 g2 0 L := (by rw [HL.out]; exact B2); have hs2 : wr.heap.size ≤ w2.heap.size := (by have := G2.size; simp at this; omega); have HG2 : Hid (w.grownBy w2 (some B)) := cp_trans (cp_trans HG.out (cp_alloc _ _ _)) G2; have HB2 : Hid (BytesAt w2 g2 0 L) := hB2; clear B2 hB2 G2 s2 A) | (at_builtin; go_must (refine wpList_append_lies _ rfl (.tmp 18) (.tmp 21) 35 rfl w2.heap.size 5 i0 (.int .u8 0) 1 1 und_bytes hi hz0 hz1 hz2 rfl (by decide) (.slice none 0 0) 0 [] rfl (World.ownsRow_nil _ _ _ _) ⟨g2, 0, none⟩ 29 cap2 (vals L) rfl (by rw [vals_length, hLl]) (bytes_news HB2.out) (vals_one L) (by decide) (by decide) (by decide) (Nat.le_refl _) _ rfl ?_; intro g' cap' w4 hown' hgrow hat hlt'; have H4 : Hid (BytesAt w4 g' 0 L ∧ w.heap.size ≤ g' ∧ w.grownBy w4 (some B)) := ⟨owns_bytes (l := L) (by rw [hLl]; exact hown'), Nat.le_trans (Nat.le_trans hs1 hs2) (hown'.lt g' rfl).1, G.row HG2.out hgrow (fun k e => by simp [Value.ownBlock] at e)⟩; clear hown' hgrow hat hlt')))
      go_roundw
      case rel => exact ⟨k + 1, by omega, by go_num, fun e => by omega, fun _ => ⟨g', cap', rfl, H4.out⟩⟩
      case measure => simp [intOf]; omega
    · obtain ⟨g, cap, rfl, H⟩ := h1 (by omega)
      have HH : Hid (BytesAt wr g 0 L ∧ w.heap.size ≤ g ∧ w.grownBy wr (some B)) := H
      rw [HL.out] at HH
      clear H h0 h1
      go_wp2
      go_ret
      exact ⟨g, cap, rfl, HH.out⟩
end

/-
  A stub fed.
-/
section
def SB.answers : SB → List Pk → SB × List UInt8
  | S, [] => (S, [])
  | S, p :: r => (((S.ans p).1.answers r).1, (S.ans p).2 ++ ((S.ans p).1.answers r).2)
theorem answers_snoc (S : SB) (l : List Pk) (p : Pk) : S.answers (l ++ [p]) = (((S.answers l).1.ans p).1, (S.answers l).2 ++ ((S.answers l).1.ans p).2) := by
  induction l generalizing S with
  | nil => simp [SB.answers]
  | cons q r ih => simp only [List.cons_append, SB.answers, ih, List.append_assoc]
/-- A stub fed with bytes: as it is then, and its answers. -/
def SB.feed (S : SB) (l : List UInt8) : SB × List UInt8 := ({ S with sc := feedS S.sc l } : SB).answers (feedP S.sc l)

theorem frame_len (d : UInt8) (t : List UInt8) (h : t.length ≤ 80) : (frameOf d t).length ≤ 200 := by have := esc_len t; simp [frameOf, hex2]; omega
theorem ans_len (S : SB) (p : Pk) (h : S.rp.length ≤ 80) : 0 < (S.ans p).2.length ∧ (S.ans p).2.length ≤ 201 := by
  unfold SB.ans
  split
  · simp
  · split
    · have := frame_len S.due (S.doI p.body).2 (doI_len S p.body)
      simp only [List.length_cons]; omega
    · split
      · have := frame_len (S.due - 1) S.rp h
        simp only [List.length_cons]; omega
      · simp
theorem ans_rp (S : SB) (p : Pk) (h : S.rp.length ≤ 80) : (S.ans p).1.rp.length ≤ 80 := by
  unfold SB.ans
  split
  · exact h
  · split
    · exact doI_len S p.body
    · split <;> exact h
theorem readPk_body (l : List UInt8) (a b : UInt8) : (readPk l a b).body.length ≤ 200 := by
  unfold readPk tailPk
  repeat' split
  all_goals first
    | (simp [badPk]; done)
    | (dsimp only; omega)
theorem feedP_body : ∀ (l : List UInt8) (s : Sc), ∀ p ∈ feedP s l, p.body.length ≤ 200
  | [], _, p, h => by simp [feedP] at h
  | c :: r, s, p, h => by
    rw [feedP] at h
    rcases List.mem_append.1 h with h | h
    · split at h
      · simp at h; subst h; exact readPk_body _ _ _
      · simp at h
    · exact feedP_body r _ p h
theorem feedP_len : ∀ (l : List UInt8) (s : Sc), (feedP s l).length ≤ l.length
  | [], _ => by simp [feedP]
  | c :: r, s => by
    rw [feedP, List.length_append]
    have := feedP_len r (s.step c)
    split
    · simp only [List.length_cons, List.length_nil]; omega
    · simp only [List.length_cons, List.length_nil]; omega

theorem CAt.re {w : World} {B : Nat} {s : PC} (h : CAt w B s) (R : Nat → Option Value) (e : ∀ o, 65562 ≤ o → R o = s.rest o) : CAt w B (s.rr R) :=
  { h with crest := fun o ho => (h.crest o ho).trans (e o ho).symm }
theorem SV.scs {S : SB} {s : PC} {w0 w : World} {B : Nat} (h : Tn B s w0 w) (hS : SV S s) : ScS (fun o => w.cell? ⟨B, o, none⟩) w B S.sc :=
  ⟨hS.sc.st3, hS.sc.len, h.rest (by decide) hS.sc.cst, h.rest (by decide) hS.sc.cnt, h.rest (by decide) hS.sc.csum, fun i hi => h.rest (by omega) (hS.sc.bytes i hi), fun i hi => by obtain ⟨v, hv⟩ := hS.sc.there i hi; exact ⟨v, h.rest (by omega) hv⟩, h.c.free, fun o _ => rfl⟩

/-- The stub behind the scan. -/
theorem scanned {S : SB} {s : PC} {w0 w w1 : World} {B : Nat} {v : Value} {c : Sc} {ps : List Pk} (h : Tn B s w0 w) (hS : SV S s) (F : FedS (fun o => w.cell? ⟨B, o, none⟩) B w w1 v c ps) : ∃ s1, Tn B s1 w0 w1 ∧ SV { S with sc := c } s1 := by
  have C1 := h.c.scanned (w' := w1) (fun o ho => F.sc.keep o (.inl ho)) F.sc.free
  have C2 := C1.re (fun o => if o < 65562 then s.rest o else w1.cell? ⟨B, o, none⟩) (fun o ho => if_neg (by omega))
  have k : ∀ o, 65562 ≤ o → (if o < 65562 then s.rest o else w1.cell? ⟨B, o, none⟩) = w1.cell? ⟨B, o, none⟩ := fun o ho => if_neg (by omega)
  have kk : ∀ o, 65765 ≤ o → (if o < 65562 then s.rest o else w1.cell? ⟨B, o, none⟩) = s.rest o := fun o ho => (k o (by omega)).trans ((F.sc.keep o (.inr ho)).trans (h.c.crest o (by omega)))
  refine ⟨s.rr (fun o => if o < 65562 then s.rest o else w1.cell? ⟨B, o, none⟩), ⟨C2, cp_trans h.g F.grown⟩, ?_⟩
  refine hS.hd (c := c) (d := S.due) (b := S.bg) (r := S.rp) ⟨rfl, fun o ho => ?_⟩ ?_ ((kk _ (by decide)).trans hS.cd) ((kk _ (by decide)).trans hS.cb) ((kk _ (by decide)).trans hS.cr)
  · rcases ho with ho | ho
    · exact if_pos ho
    · exact kk o (by omega)
  · exact ⟨F.sc.st3, F.sc.len, (k _ (by decide)).trans F.sc.cst, (k _ (by decide)).trans F.sc.cnt, (k _ (by decide)).trans F.sc.csum, fun i hi => (k _ (by omega)).trans (F.sc.bytes i hi), fun i hi => by obtain ⟨v, hv⟩ := F.sc.there i hi; exact ⟨v, (k _ (by omega)).trans hv⟩⟩

theorem pvals_get (ps : List Pk) (k j : Nat) (hk : k < ps.length) (hj : j < 3) : (pvals ps)[k * 3 + j]? = (ps[k].cells)[j]? := by
  induction ps generalizing k with
  | nil => simp at hk
  | cons p r ih =>
    have e : pvals (p :: r) = p.cells ++ pvals r := by simp [pvals]
    have hc : p.cells.length = 3 := rfl
    rw [e]
    cases k with
    | zero => rw [List.getElem?_append_left (by omega)]; simp
    | succ k => rw [List.getElem?_append_right (by omega), hc, show (k + 1) * 3 + j - 3 = k * 3 + j from by omega, ih k (by simpa using hk)]; simp
end

end Go.Proofs.YtcgjliflnnklnaaGreat
