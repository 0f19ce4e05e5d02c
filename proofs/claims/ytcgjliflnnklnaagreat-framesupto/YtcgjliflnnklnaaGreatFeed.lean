/-
  Scanner.Feed and Scan.Feed.
-/
import Derived.Test.YtcgjliflnnklnaaGreatRead
namespace Go.Proofs.YtcgjliflnnklnaaGreat
open Go.RowKit

def feedS (s : Sc) (l : List UInt8) : Sc := l.foldl Sc.step s
def feedP : Sc → List UInt8 → List Pk
  | _, [] => []
  | s, c :: r => (if s.st = 3 then [readPk s.raw s.sum c] else []) ++ feedP (s.step c) r

theorem feedS_append (s : Sc) (a b : List UInt8) : feedS s (a ++ b) = feedS (feedS s a) b := by simp [feedS]
theorem feedP_append (s : Sc) (a b : List UInt8) : feedP s (a ++ b) = feedP s a ++ feedP (feedS s a) b := by
  induction a generalizing s with
  | nil => simp [feedP, feedS]
  | cons c r ih => simp only [List.cons_append, feedP, ih, List.append_assoc]; rfl

def Pk.cells (p : Pk) : List Value := [.int .i64 (p.seq : Int), .string ⟨p.body.toArray⟩, .bool p.bad]
def pvals (ps : List Pk) : List Value := ps.flatMap Pk.cells

theorem pvals_snoc (ps : List Pk) (p : Pk) : pvals (ps ++ [p]) = pvals ps ++ p.cells := by simp [pvals]

theorem inf_pk : (Tryz.prog.info? 152).map (fun i => (i.zero, i.size, i.bytes)) = some (some (.agg #[.int .i64 0, .string ⟨#[]⟩, .bool false]), 3, 32) := by kernel_rfl
theorem und_pks : Tryz.prog.underlying 140 = some (.slice 152) := by kernel_rfl

theorem feed_step (s : Sc) (l : List UInt8) (k : Nat) (h : k < l.length) : feedS s (l.take (k + 1)) = (feedS s (l.take k)).step l[k] := by
  rw [take_snoc8 l k h, feedS_append]; rfl
theorem feedP_step0 (s : Sc) (l : List UInt8) (k : Nat) (h : k < l.length) (h3 : (feedS s (l.take k)).st ≠ 3) : feedP s (l.take (k + 1)) = feedP s (l.take k) := by
  rw [take_snoc8 l k h, feedP_append]; simp [feedP, h3]
theorem feedP_step3 (s : Sc) (l : List UInt8) (k : Nat) (h : k < l.length) (h3 : (feedS s (l.take k)).st = 3) :
    feedP s (l.take (k + 1)) = feedP s (l.take k) ++ [readPk (feedS s (l.take k)).raw (feedS s (l.take k)).sum l[k]] := by
  rw [take_snoc8 l k h, feedP_append]; simp [feedP, h3]
theorem feedP_take_len (s : Sc) (l : List UInt8) (k : Nat) : (feedP s (l.take k)).length ≤ (feedP s l).length := by
  have : feedP s l = feedP s (l.take k) ++ feedP (feedS s (l.take k)) (l.drop k) := by rw [← feedP_append, List.take_append_drop]
  rw [this]; simp

theorem ScAt.lt {w : World} {B : Nat} {s : Sc} (h : ScAt w B s) : B < w.heap.size := World.block_lt_of_cell? w ⟨B, 0, none⟩ h.cst

theorem und_arr : Tryz.prog.underlying 108 = some (.array 200 5) := by kernel_rfl

theorem slice_raw (B n : Nat) (h : n ≤ 200) (w : World) : Sem.run Tryz.prog (Instr.sliceAt 108 (.pointer (some ⟨B, 1, none⟩)) none (some (.int .i64 (n : Int))) none) w = .ok (.slice (some ⟨B, 1, none⟩) n 200) w := by
  have hal : Tryz.prog.arrayLen 108 = 200 := by kernel_rfl
  have hel : Tryz.prog.elem 108 = 5 := by kernel_rfl
  rw [run_sliceAt_array_h (P := Tryz.prog) w 108 ⟨B, 1, none⟩ (by rw [hal, hel]; exact und_arr) .i64 (n : Int) (by omega) (by rw [hal]; omega), hal, hel]
  simp [sizeOf, go_sem, slicedAt, Addr.add]

/-- The packets' slice of a Feed, and the scanner. -/
structure Fed (B : Nat) (w0 w : World) (v : Value) (s : Sc) (ps : List Pk) : Prop where
  own : w.ownsRow w0.heap.size 152 3 v ps.length (pvals ps)
  nil : ps = [] → v = .slice none 0 0
  sc : ScAt w B s
  grown : w0.grownBy w (some B)
  lt : B < w0.heap.size

theorem Fed.turned {B : Nat} {w0 w w1 : World} {v : Value} {s s' : Sc} {ps : List Pk} (h : Fed B w0 w v s ps) (ht : Turned B s' w w1) : Fed B w0 w1 v s' ps := by
  refine ⟨h.own.kept ht.2.1 ?_, h.nil, ht.1, grown_trans h.grown ht.2.1, h.lt⟩
  cases hv : v.ownBlock with
  | none => exact .inl rfl
  | some g =>
    refine .inr ?_
    have h1 := (h.own.lt g hv).1
    have h2 := h.lt
    intro e; injection e with e; omega

theorem own_below {w w' : World} {base : Nat} {e : TypeId} {size : Nat} {v : Value} {n : Nat} {xs : List Value} (h : w.ownsRow base e size v n xs) (hb : Below w.heap.size w w') : w'.ownsRow base e size v n xs :=
  h.kept ⟨hb.os, hb.tape, hb.output, hb.size, fun k hk _ => hb.block k hk⟩ (row := none) (by cases v.ownBlock <;> simp)

theorem ScAt.below {w w' : World} {B : Nat} {s : Sc} (h : ScAt w B s) (hb : Below w.heap.size w w') : ScAt w' B s := by
  have hc : ∀ o, w'.cell? ⟨B, o, none⟩ = w.cell? ⟨B, o, none⟩ := fun o => hb.cell (p := ⟨B, o, none⟩) h.lt
  have hf : ∀ o, w'.frozen? ⟨B, o, none⟩ = w.frozen? ⟨B, o, none⟩ := fun o => hb.frozen (p := ⟨B, o, none⟩) h.lt
  exact ⟨h.st3, h.len, by rw [hc]; exact h.cst, by rw [hc]; exact h.cnt, by rw [hc]; exact h.csum, fun i hi => by rw [hc]; exact h.bytes i hi, fun i hi => by rw [hc]; exact h.there i hi, fun o => by rw [hf]; exact h.free o⟩

theorem grown_below {w w' : World} (hb : Below w.heap.size w w') (row : Option Nat) : w.grownBy w' row := ⟨hb.os, hb.tape, hb.output, hb.size, fun k hk _ => hb.block k hk⟩

theorem Fed.below {B : Nat} {w0 w w1 : World} {v : Value} {s : Sc} {ps : List Pk} (h : Fed B w0 w v s ps) (hb : Below w.heap.size w w1) : Fed B w0 w1 v s ps :=
  ⟨own_below h.own hb, h.nil, h.sc.below hb, grown_trans h.grown (grown_below hb _), h.lt⟩

theorem below_undrew {B : Nat} {w w' : World} (h : Below B w.drew w') : Below B w w' := ⟨h.os, h.tape, h.output, h.size, h.block⟩

theorem ScAt.grown {w w' : World} {B : Nat} {s : Sc} {row : Option Nat} (h : ScAt w B s) (hg : w.grownBy w' row) (hne : some B ≠ row) : ScAt w' B s := by
  have hb := hg.block B h.lt hne
  have hc : ∀ o, w'.cell? ⟨B, o, none⟩ = w.cell? ⟨B, o, none⟩ := fun o => World.cell?_of_block (a := ⟨B, o, none⟩) hb
  have hf : ∀ o, w'.frozen? ⟨B, o, none⟩ = w.frozen? ⟨B, o, none⟩ := fun o => World.frozen?_of_block (a := ⟨B, o, none⟩) hb
  exact ⟨h.st3, h.len, by rw [hc]; exact h.cst, by rw [hc]; exact h.cnt, by rw [hc]; exact h.csum, fun i hi => by rw [hc]; exact h.bytes i hi, fun i hi => by rw [hc]; exact h.there i hi, fun o => by rw [hf]; exact h.free o⟩

theorem Fed.append {B : Nat} {w0 w w3 : World} {v : Value} {s : Sc} {ps : List Pk} {p : Pk} {o : Obj} {g cap : Nat} (h : Fed B w0 w v s ps)
    (hown : w3.ownsRow w0.heap.size 152 3 (.slice (some ⟨g, 0, none⟩) (ps.length + 1) cap) (ps.length + 1) (pvals ps ++ p.cells)) (hg : (w.alloc o).grownBy w3 v.ownBlock) :
    Fed B w0 w3 (.slice (some ⟨g, 0, none⟩) (ps.length + 1) cap) s (ps ++ [p]) := by
  have hlt := h.lt
  have hne : some B ≠ v.ownBlock := fun e => by have := (h.own.lt B e.symm).1; omega
  have hal : ScAt (w.alloc o) B s := h.sc.grown (World.grownBy_alloc w o none) (by simp)
  refine ⟨by rw [pvals_snoc]; simpa using hown, by simp, hal.grown hg hne, ?_, h.lt⟩
  have hs := h.grown.size
  have hs3 := hg.size
  simp only [World.size_alloc] at hs3
  refine ⟨hg.os.trans h.grown.os, hg.tape.trans h.grown.tape, hg.output.trans h.grown.output, by omega, ?_⟩
  intro k hk hkB
  have hne' : some k ≠ v.ownBlock := fun e => by have := (h.own.lt k e.symm).1; omega
  exact (hg.block k (by simp; omega) hne').trans ((Below.heap_alloc w o k (by omega)).trans (h.grown.block k hk hkB))

theorem pk_val (p : Pk) : p.val = .agg #[.int .i64 (p.seq : Int), .string ⟨p.body.toArray⟩, .bool p.bad] := rfl

theorem three_new (w : World) (p : Pk) (t : TypeId) :
    ∀ j u, p.cells[j]? = some u → (w.alloc (.cells #[.int .i64 (p.seq : Int), .string ⟨p.body.toArray⟩, .bool p.bad] t)).cell? ((⟨w.heap.size, 0, none⟩ : Addr).add j) = some u :=
  World.news_of_block (w := w.alloc (.cells #[.int .i64 (p.seq : Int), .string ⟨p.body.toArray⟩, .bool p.bad] t)) (cs := #[.int .i64 (p.seq : Int), .string ⟨p.body.toArray⟩, .bool p.bad]) (t := t) (fr := (0, 0)) (heap_alloc_new w _)

theorem three_one (p : Pk) : ∀ u ∈ p.cells, u.oneCell' = true := by
  intro u hu; simp [Pk.cells] at hu; rcases hu with rfl | rfl | rfl <;> rfl

set_option maxRecDepth 100000 in
set_option maxHeartbeats 2000000 in
theorem scannerFeed_any (B bb off cap : Nat) (s : Sc) (l : List UInt8) (w : World) (hs : ScAt w B s) (hl : l.length ≤ 140737488355328) (hB : BytesAt w bb off l) (hne : bb ≠ B)
    (hmax : (feedP s l).length ≤ 4194304) :
    Calls Tryz.prog 57 #[.pointer (some ⟨B, 0, none⟩), .slice (some ⟨bb, off, none⟩) l.length cap] w fun e w' => ∃ v, e = .returned v ∧ Fed B w w' v (feedS s l) (feedP s l) := by
  obtain ⟨i0, hi, hz0, hz1, hz2⟩ := info_parts inf_pk
  have HB : Hid (BytesAt w bb off l) := hB
  have HF : Hid (Fed B w w (.slice none 0 0) (feedS s (l.take 0)) (feedP s (l.take 0))) := ⟨World.ownsRow_nil _ _ _ _, fun _ => rfl, hs, World.grownBy.refl _ _, hs.lt⟩
  have HM : Hid ((feedP s l).length ≤ 4194304) := hmax
  have hBs := hs.lt
  clear hB hs hmax
  go_enter Tryz.func57, Tryz.ntmps57
  go_wp2
  go_loopw [5, 10] (fun v i wr => ∃ k : Nat, k ≤ l.length ∧ i = .int .i64 k ∧ Fed B w wr v (feedS s (l.take k)) (feedP s (l.take k))) (fun _ i _ => l.length - (intOf i).toNat)
  case atStart => exact ⟨0, Nat.zero_le _, rfl, HF.out⟩
  case round =>
    obtain ⟨k, hk, rfl, hF⟩ := hrel
    clear HF
    by_cases hlt : k < l.length
    · have hcell : wr.cell? ⟨bb, off + k, none⟩ = some (.int .u8 (l[k].toNat : Int)) := hF.grown.cell (HB.out k hlt) (by simpa using hne)
      have hst := Hid.out (p := feedS s (l.take (k + 1)) = (feedS s (l.take k)).step l[k]) (feed_step s l k hlt)
      have HST : Hid (feedS s (l.take (k + 1)) = (feedS s (l.take k)).step l[k]) := hst
      have hlen : (feedP s (l.take k)).length ≤ 4194304 := Nat.le_trans (feedP_take_len s l k) HM.out
      have H3 : Hid (feedP s (l.take (k + 1)) = if (feedS s (l.take k)).st = 3 then feedP s (l.take k) ++ [readPk (feedS s (l.take k)).raw (feedS s (l.take k)).sum l[k]] else feedP s (l.take k)) := by
        show _ = _
        split
        · exact feedP_step3 s l k hlt ‹_›
        · exact feedP_step0 s l k hlt ‹_›
      clear hst
      have HF : Hid (Fed B w wr u5 (feedS s (l.take k)) (feedP s (l.take k))) := hF
      generalize feedP s (l.take k) = ps at *
      generalize feedS s (l.take k) = t at *
      clear hF
      go_wp2_with fail
      refine (take_any B t _ HF.out.sc l[k]).mono ?_
      rintro e w1 ⟨rfl, hT⟩
      have HT : Hid (Fed B w w1 u5 (t.step l[k]) ps) := HF.out.turned hT
      clear hT HF hcell
      by_cases h3 : t.st = 3
      · have e1 : Hid (t.step l[k] = ⟨0, t.raw, t.sum⟩) := by show _ = _; simp [Sc.step, h3]
        rw [e1.out] at HT HST
        have H3' : Hid (feedP s (l.take (k + 1)) = ps ++ [readPk t.raw t.sum l[k]]) := by show _ = _; rw [H3.out, if_pos h3]
        rw [decide_eq_true h3]
        have hc1 := HT.out.sc.cnt
        have hc2 := HT.out.sc.csum
        have hrl : t.raw.length ≤ 200 := HT.out.sc.len
        have hsl := slice_raw B t.raw.length hrl
        clear h3 H3
        go_wp2_with fail
        go_region_held3 (fun w' => w'.cell? ⟨B, 201, none⟩ = some (.int .i64 (t.raw.length : Int)) ∧ w'.cell? ⟨B, 202, none⟩ = some (.int .u8 (t.sum.toNat : Int))) (go_keep) (first | (go_at_call 88; go_must (refine (readPacket_any B 1 t.raw t.sum l[k] _ hrl ?_ ?_).mono ?_; exact HT.out.sc.drew.bytes; exact HT.out.sc.lt; rintro e w2 ⟨rfl, hbel⟩; have k1 := cell_later hbel hc1; have k2 := cell_later hbel hc2; have HF2 : Hid (Fed B w w2 u5 ⟨0, t.raw, t.sum⟩ ps) := HT.out.below (below_undrew hbel); have hn := World.new_ne w2 ⟨B, 201, none⟩ k1; have hn2 := World.new_ne w2 ⟨B, 202, none⟩ k2; rw [pk_val])) | (refine step_append_lies _ rfl (.tmp 17) (.tmp 32) 140 rfl w.heap.size 152 i0 _ 3 32 und_pks hi hz0 hz1 hz2 rfl (by decide) u5 ps.length (pvals ps) rfl ?_ ⟨_, 0, none⟩ 1 1 (Pk.cells (readPk t.raw t.sum l[k])) rfl rfl ?_ ?_ (by decide) ?_ ?_ ?_ _ rfl ?_; go_must (exact HF2.out.own.alloc _; exact (three_new _ _ _); exact (three_one _); (unfold maxLen; omega); omega; (have := HF2.out.grown.size; simp; omega);  intro g' cap' w3 hown' hgrow hat hlt'; have HF3 : Hid (Fed B w w3 (.slice (some ⟨g', 0, none⟩) (ps.length + 1) cap') ⟨0, t.raw, t.sum⟩ (ps ++ [readPk t.raw t.sum l[k]])) := HF2.out.append hown' hgrow; have k3 := HF3.out.sc.cnt; have k4 := HF3.out.sc.csum; clear hown' hgrow hat hlt' HF2)))
        all_goals
          go_wp2
          go_roundw
          case rel => exact ⟨k + 1, by omega, by go_num, by rw [HST.out, H3'.out]; exact HF3.out⟩
          case measure => simp [intOf]; omega
      · have H3' : Hid (feedP s (l.take (k + 1)) = ps) := by show _ = _; rw [H3.out, if_neg h3]
        rw [decide_eq_false h3]
        clear h3 H3
        go_wp2
        go_roundw
        case rel => exact ⟨k + 1, by omega, by go_num, by rw [HST.out, H3'.out]; exact HT.out⟩
        case measure => simp [intOf]; omega
    · have hke : l.take k = l := List.take_of_length_le (by omega)
      rw [hke] at hF
      have HF : Hid (Fed B w wr u5 (feedS s l) (feedP s l)) := hF
      clear hF hke
      go_wp2
      go_ret
      exact ⟨_, rfl, HF.out⟩

set_option maxRecDepth 100000 in
set_option maxHeartbeats 400000 in
theorem scanFeed_any (B bb off cap : Nat) (s : Sc) (l : List UInt8) (w : World) (hs : ScAt w B s) (hl : l.length ≤ 140737488355328) (hB : BytesAt w bb off l) (hne : bb ≠ B)
    (hmax : (feedP s l).length ≤ 4194304) :
    Calls Tryz.prog 71 #[.pointer (some ⟨B, 0, none⟩), .slice (some ⟨bb, off, none⟩) l.length cap] w fun e w' => ∃ v, e = .returned v ∧ Fed B w w' v (feedS s l) (feedP s l) := by
  have HS : Hid (ScAt w B s ∧ BytesAt w bb off l ∧ (feedP s l).length ≤ 4194304) := ⟨hs, hB, hmax⟩
  clear hs hB hmax
  go_enter Tryz.func71, Tryz.ntmps71
  go_wp2_with fail
  refine (scannerFeed_any B bb off cap s l _ HS.out.1 hl HS.out.2.1 hne HS.out.2.2).mono ?_
  rintro e w1 ⟨v, rfl, O⟩
  have H : Hid (Fed B w w1 v (feedS s l) (feedP s l)) := O
  clear O
  go_wp2
  go_ret
  exact ⟨v, rfl, H.out⟩

end Go.Proofs.YtcgjliflnnklnaaGreat
