/-
  Joined texts.
-/
import Derived.Test.YtcgjliflnnklnaaGreatGW
import Derived.Deep.QuietTactic
import Derived.BigQuiet
import Derived.Test.YtcgjliflnnklnaaGreatScan
namespace Go.Proofs.YtcgjliflnnklnaaGreat
open Go.RowKit

/-
  readPacket.
-/
section
structure Pk where
  seq : Nat
  body : List UInt8
  bad : Bool

def badPk : Pk := ⟨0, [], true⟩

def Pk.val (p : Pk) : Value := .agg #[.int .i64 (p.seq : Int), .string ⟨p.body.toArray⟩, .bool p.bad]

def tailPk (l : List UInt8) (c0 c1 : UInt8) : Pk :=
  if (hb c0 c1).2 = true then
    (match unesc (l.drop 2) with
    | some out => if out.length ≤ 80 then ⟨(hb c0 c1).1.toNat, out, false⟩ else badPk
    | none => badPk)
  else badPk

def readPk (l : List UInt8) (h lo : UInt8) : Pk :=
  if (hb h lo).2 = true ∧ (hb h lo).1 = sum8 l ∧ 2 ≤ l.length then tailPk l (l.getD 0 0) (l.getD 1 0) else badPk

theorem below2 (w : World) (o p : Obj) : Below w.heap.size w ((w.alloc o).alloc p) := ((Below.refl _ _).alloc (Nat.le_refl _) _).alloc (by simp) _

set_option maxRecDepth 100000 in
set_option maxHeartbeats 1000000 in
theorem readPacket_a (b off cap : Nat) (l : List UInt8) (h lo : UInt8) (w : World) (hbad : (hb h lo).2 = false) :
    Calls Tryz.prog 88 #[.slice (some ⟨b, off, none⟩) l.length cap, .int .u8 h.toNat, .int .u8 lo.toNat] w fun e w' => e = .returned badPk.val ∧ Below w.heap.size w w' := by
  go_enter Tryz.func88, Tryz.ntmps88
  go_wp2_with fail
  refine (hexByte_any h lo _).mono ?_
  rintro e w1 ⟨rfl, rfl⟩
  rw [hbad]
  go_wp2
  exact bodyPost_ret (v := .agg #[.int .i64 0, .string ⟨#[]⟩, .bool true]) (by simp [results, Tryz.results88, go_sem]) rfl ⟨rfl, below2 _ _ _⟩

theorem ne_u8 {a b : UInt8} (h : a ≠ b) : ((a.toNat : Int) != (b.toNat : Int)) = true := by
  rw [bne_iff_ne]; intro e; apply h; exact UInt8.toNat_inj.1 (by omega)
theorem eq_u8 (a : UInt8) : ((a.toNat : Int) != (a.toNat : Int)) = false := by simp

theorem bytes_alloc {w : World} {b off : Nat} {l : List UInt8} (h : BytesAt w b off l) (hb : b < w.heap.size) (o : Obj) : BytesAt (w.alloc o) b off l := by
  intro i hi; rw [World.cell?_alloc_past _ _ _ hb]; exact h i hi

theorem bytes_below {w w' : World} {b off B : Nat} {l : List UInt8} (h : BytesAt w b off l) (hw : Below B w w') (hb : b < B) : BytesAt w' b off l := by
  intro i hi; rw [hw.cell (by exact hb)]; exact h i hi

set_option maxRecDepth 100000 in
set_option maxHeartbeats 1000000 in
theorem readPacket_b (b off cap : Nat) (l : List UInt8) (h lo : UInt8) (w : World) (hgood : (hb h lo).2 = true) (hsum : (hb h lo).1 ≠ sum8 l) (hl : l.length ≤ 1000) (hB : BytesAt w b off l) (hbs : b < w.heap.size) :
    Calls Tryz.prog 88 #[.slice (some ⟨b, off, none⟩) l.length cap, .int .u8 h.toNat, .int .u8 lo.toNat] w fun e w' => e = .returned badPk.val ∧ Below w.heap.size w w' := by
  have HB : Hid (BytesAt w b off l) := hB
  clear hB
  have hne := ne_u8 hsum
  clear hsum
  go_enter Tryz.func88, Tryz.ntmps88
  go_wp2_with fail
  refine (hexByte_any h lo _).mono ?_
  rintro e w1 ⟨rfl, rfl⟩
  rw [hgood]
  go_wp2_with fail
  refine (sum_any b off cap l _ (by omega) (bytes_alloc (bytes_alloc HB.out hbs _) (by simp; omega) _)).mono ?_
  rintro e w1 ⟨rfl, rfl⟩
  go_wp2
  exact bodyPost_ret (v := .agg #[.int .i64 0, .string ⟨#[]⟩, .bool true]) (by simp [results, Tryz.results88, go_sem]) rfl ⟨rfl, below2 _ _ _⟩

set_option maxRecDepth 100000 in
set_option maxHeartbeats 1000000 in
theorem readPacket_c (b off cap : Nat) (l : List UInt8) (h lo : UInt8) (w : World) (hgood : (hb h lo).2 = true) (hsum : (hb h lo).1 = sum8 l) (hl : l.length < 2) (hB : BytesAt w b off l) (hbs : b < w.heap.size) :
    Calls Tryz.prog 88 #[.slice (some ⟨b, off, none⟩) l.length cap, .int .u8 h.toNat, .int .u8 lo.toNat] w fun e w' => e = .returned badPk.val ∧ Below w.heap.size w w' := by
  have HB : Hid (BytesAt w b off l) := hB
  clear hB
  have hne := eq_u8 (sum8 l)
  have HS : Hid ((hb h lo).1 = sum8 l) := hsum
  clear hsum
  go_enter Tryz.func88, Tryz.ntmps88
  go_wp2_with fail
  refine (hexByte_any h lo _).mono ?_
  rintro e w1 ⟨rfl, rfl⟩
  rw [hgood, HS.out]
  go_wp2_with fail
  refine (sum_any b off cap l _ (by omega) (bytes_alloc (bytes_alloc HB.out hbs _) (by simp; omega) _)).mono ?_
  rintro e w1 ⟨rfl, rfl⟩
  go_wp2
  exact bodyPost_ret (v := .agg #[.int .i64 0, .string ⟨#[]⟩, .bool true]) (by simp [results, Tryz.results88, go_sem]) rfl ⟨rfl, below2 _ _ _⟩

theorem unescape_len (b off cap n : Nat) (l : List UInt8) (w : World) (hn : l.length = n) (hl : l.length ≤ 1000) (h : BytesAt w b off l) (hb : b < w.heap.size) :
    Calls Tryz.prog 136 #[.slice (some ⟨b, off, none⟩) n cap] w fun e w' => e = .returned (.tuple #[(unescRes l).1, .bool (unescRes l).2]) ∧ Below w.heap.size w w' := by
  subst hn; exact unescape_any b off cap l w hl h hb

theorem bytes_drop {w : World} {b off : Nat} {l : List UInt8} (h : BytesAt w b off l) (k : Nat) : BytesAt w b (off + k) (l.drop k) := by
  intro i hi
  have hi' : k + i < l.length := by simp at hi; omega
  have := h (k + i) hi'
  rw [Nat.add_assoc, this]; simp

theorem bytes_drewN {w : World} {b off : Nat} {l : List UInt8} (h : BytesAt w b off l) (n : Nat) : BytesAt (w.drewN n) b off l := h

theorem bcell {W w1 : World} (hb : Below W.heap.size W w1) : (∀ b o, b < W.heap.size → w1.cell? ⟨b, o, none⟩ = W.cell? ⟨b, o, none⟩) ∧ (∀ b o, b < W.heap.size → w1.frozen? ⟨b, o, none⟩ = W.frozen? ⟨b, o, none⟩) :=
  ⟨fun b o h => hb.cell (p := ⟨b, o, none⟩) h, fun b o h => hb.frozen (p := ⟨b, o, none⟩) h⟩

theorem after_cells {w w2 : World} {a0 a1 a2 b0 b1 b2 : Value} {t t' : TypeId} {n : Nat}
    (h : Below (((w.alloc (.cells #[a0, a1, a2] t)).alloc (.cells #[b0, b1, b2] t')).drewN n).heap.size (((w.alloc (.cells #[a0, a1, a2] t)).alloc (.cells #[b0, b1, b2] t')).drewN n) w2) :
    w2.cell? ⟨w.heap.size, 0, none⟩ = some a0 ∧ w2.cell? ⟨w.heap.size, 1, none⟩ = some a1 ∧ w2.cell? ⟨w.heap.size, 2, none⟩ = some a2 ∧
    w2.frozen? ⟨w.heap.size, 0, none⟩ = false ∧ w2.frozen? ⟨w.heap.size, 1, none⟩ = false ∧ w2.frozen? ⟨w.heap.size, 2, none⟩ = false ∧
    w2.cell? ⟨w.heap.size + 1, 0, none⟩ = some b0 ∧ w2.cell? ⟨w.heap.size + 1, 1, none⟩ = some b1 ∧ w2.cell? ⟨w.heap.size + 1, 2, none⟩ = some b2 := by
  obtain ⟨hc, hf⟩ := bcell h
  have c0 : ∀ o, w2.cell? ⟨w.heap.size, o, none⟩ = #[a0, a1, a2][o]? := fun o => by
    rw [hc _ _ (by simp; omega), World.cell?_drewN, World.cell?_alloc_past _ _ _ (by simp), World.cell?_alloc_at _ _ _ _ rfl]
  have c1 : ∀ o, w2.cell? ⟨w.heap.size + 1, o, none⟩ = #[b0, b1, b2][o]? := fun o => by
    rw [hc _ _ (by simp), World.cell?_drewN, World.cell?_alloc_at _ _ _ _ (by simp)]
  have f0 : ∀ o, w2.frozen? ⟨w.heap.size, o, none⟩ = false := fun o => by
    rw [hf _ _ (by simp; omega), World.frozen?_drewN, World.frozen?_alloc_past _ _ _ (by simp), World.frozen?_alloc_at _ _ _ _ rfl]
  exact ⟨c0 0, c0 1, c0 2, f0 0, f0 1, f0 2, c1 0, c1 1, c1 2⟩

theorem below_after {w w2 : World} {o p : Obj} {n : Nat} (h : Below (((w.alloc o).alloc p).drewN n).heap.size (((w.alloc o).alloc p).drewN n) w2) : Below w.heap.size w w2 :=
  (below_drewN (below2 w o p) n).trans (h.mono (by simp; omega))

set_option maxRecDepth 100000 in
set_option maxHeartbeats 1000000 in
theorem readPacket_d (b off : Nat) (l : List UInt8) (c0 c1 h lo : UInt8) (w : World) (hgood : (hb h lo).2 = true) (hsum : (hb h lo).1 = sum8 l) (hl : 2 ≤ l.length) (hl2 : l.length ≤ 200) (hB : BytesAt w b off l) (hbs : b < w.heap.size)
    (hc0 : w.cell? ⟨b, off, none⟩ = some (.int .u8 (c0.toNat : Int))) (hc1 : w.cell? ⟨b, off + 1, none⟩ = some (.int .u8 (c1.toNat : Int))) :
    Calls Tryz.prog 88 #[.slice (some ⟨b, off, none⟩) l.length 200, .int .u8 h.toNat, .int .u8 lo.toNat] w fun e w' => e = .returned (tailPk l c0 c1).val ∧ Below w.heap.size w w' := by
  have HB : Hid (BytesAt w b off l) := hB
  clear hB
  have hne := eq_u8 (sum8 l)
  have HS : Hid ((hb h lo).1 = sum8 l) := hsum
  clear hsum
  go_enter Tryz.func88, Tryz.ntmps88
  go_wp2_with fail
  refine (hexByte_any h lo _).mono ?_
  rintro e w1 ⟨rfl, rfl⟩
  rw [hgood, HS.out]
  go_wp2_with fail
  refine (sum_any b off 200 l _ (by omega) (bytes_alloc (bytes_alloc HB.out hbs _) (by simp; omega) _)).mono ?_
  rintro e w1 ⟨rfl, rfl⟩
  have b1 : (1 : Int) < (l.length : Int) := by omega
  have b0 : (0 : Int) < (l.length : Int) := by omega
  go_wp2_with fail
  go_quiet ((go_at_call 135; exact Calls.quiet_of_same (hexByte_any _ _ _)))
  cases hq : (hb c0 c1).snd
  · have hT : Hid (tailPk l c0 c1 = badPk) := by show _ = _; simp [tailPk, hq]
    go_wp2
    exact bodyPost_ret (v := .agg #[.int .i64 0, .string ⟨#[]⟩, .bool true]) (by simp [results, Tryz.results88, go_sem]) rfl ⟨by rw [hT.out]; rfl, (((below_drewN (below2 _ _ _) _).setCell (Nat.le_refl _) _).setCell (Nat.le_refl _) _).setCell (Nat.le_refl _) _⟩
  · have HQ : Hid ((hb c0 c1).snd = true) := hq
    clear hq
    go_wp2_with fail
    refine (unescape_len b (off + 2) 198 (l.length - 2) (l.drop 2) _ (by simp) (by simp; omega) (bytes_drewN (bytes_alloc (bytes_alloc (bytes_drop HB.out 2) hbs _) (by simp; omega) _) _) (by simp; omega)).mono ?_
    rintro e w2 ⟨rfl, hbel⟩
    have HF : Hid (Below w.heap.size w w2) := below_after hbel
    obtain ⟨d0, d1, d2, f0, f1, f2, g0, g1, g2⟩ := after_cells hbel
    clear hbel
    cases hu : unesc (l.drop 2) with
    | none =>
      have hT : Hid (tailPk l c0 c1 = badPk) := by show _ = _; simp [tailPk, HQ.out, hu]
      have hr : unescRes (l.drop 2) = (.string ⟨#[]⟩, false) := by simp [unescRes, hu]
      rw [hr]
      clear hr hu
      go_wp2
      exact bodyPost_ret (v := .agg #[.int .i64 0, .string ⟨#[]⟩, .bool true]) (by simp [results, Tryz.results88, go_sem, d0, d1, d2]) rfl ⟨by rw [hT.out]; rfl, ((HF.out.setCell (Nat.le_refl _) _).setCell (Nat.le_refl _) _).setCell (Nat.le_refl _) _⟩
    | some out =>
      have hr : unescRes (l.drop 2) = (.string ⟨out.toArray⟩, true) := by simp [unescRes, hu]
      rw [hr]
      clear hr
      by_cases h80 : out.length ≤ 80
      · have hT : Hid (tailPk l c0 c1 = ⟨(hb c0 c1).1.toNat, out, false⟩) := by show _ = _; simp [tailPk, HQ.out, hu, h80]
        have h81 : (out.length : Int) ≤ 80 := by omega
        have hc3 : ((hb c0 c1).1.toNat : Int) < 256 := by have := (hb c0 c1).1.toNat_lt; omega
        clear hu
        go_wp2
        exact bodyPost_ret (v := .agg #[.int .i64 (hb c0 c1).1.toNat, .string ⟨out.toArray⟩, .bool false]) (by simp [results, Tryz.results88, go_sem, d0, d1, d2]) rfl ⟨by rw [hT.out]; rfl, ((HF.out.setCell (Nat.le_refl _) _).setCell (Nat.le_refl _) _).setCell (Nat.le_refl _) _⟩
      · have hT : Hid (tailPk l c0 c1 = badPk) := by show _ = _; simp [tailPk, HQ.out, hu, h80]
        have h81 : (80 : Int) < (out.length : Int) := by omega
        clear hu h80
        go_wp2
        exact bodyPost_ret (v := .agg #[.int .i64 0, .string ⟨#[]⟩, .bool true]) (by simp [results, Tryz.results88, go_sem, d0, d1, d2]) rfl ⟨by rw [hT.out]; rfl, ((HF.out.setCell (Nat.le_refl _) _).setCell (Nat.le_refl _) _).setCell (Nat.le_refl _) _⟩

theorem readPacket_any (b off : Nat) (l : List UInt8) (h lo : UInt8) (w : World) (hl : l.length ≤ 200) (hB : BytesAt w b off l) (hbs : b < w.heap.size) :
    Calls Tryz.prog 88 #[.slice (some ⟨b, off, none⟩) l.length 200, .int .u8 h.toNat, .int .u8 lo.toNat] w fun e w' => e = .returned (readPk l h lo).val ∧ Below w.heap.size w w' := by
  cases h1 : (hb h lo).2 with
  | false => rw [show readPk l h lo = badPk from by simp [readPk, h1]]; exact readPacket_a b off 200 l h lo w h1
  | true =>
    by_cases h2 : (hb h lo).1 = sum8 l
    · by_cases h3 : 2 ≤ l.length
      · rw [show readPk l h lo = tailPk l (l.getD 0 0) (l.getD 1 0) from by unfold readPk; rw [if_pos ⟨h1, h2, h3⟩]]
        have e0 := hB 0 (by omega)
        have e1 := hB 1 (by omega)
        exact readPacket_d b off l _ _ h lo w h1 h2 h3 hl hB hbs (by rw [Nat.add_zero] at e0; rw [e0]; simp [List.getD, List.getElem?_eq_getElem (show 0 < l.length by omega)]) (by rw [e1]; simp [List.getD, List.getElem?_eq_getElem (show 1 < l.length by omega)])
      · rw [show readPk l h lo = badPk from by simp [readPk, h3]]; exact readPacket_c b off 200 l h lo w h1 h2 (by omega) hB hbs
    · rw [show readPk l h lo = badPk from by simp [readPk, h2]]; exact readPacket_b b off 200 l h lo w h1 h2 (by omega) hB hbs
end

/-
  Scanner.Feed and Scan.Feed.
-/
section
def feedS (s : Sc) (l : List UInt8) : Sc := l.foldl Sc.step s
def feedP : Sc → List UInt8 → List Pk
  | _, [] => []
  | s, c :: r => (if s.st = 3 then [readPk s.raw s.sum c] else []) ++ feedP (s.step c) r

theorem feedS_append (s : Sc) (a b : List UInt8) : feedS s (a ++ b) = feedS (feedS s a) b := by simp [feedS]
theorem feedP_append (s : Sc) (a b : List UInt8) : feedP s (a ++ b) = feedP s a ++ feedP (feedS s a) b := by
  induction a generalizing s with
  | nil => simp [feedP, feedS]
  | cons c r ih => simp only [List.cons_append, feedP, ih, List.append_assoc]; rfl

def Pk.cells (p : Pk) : List Value := [.int .i64 (p.seq : Int), .string ⟨p.body.toArray⟩, .bool p.bad]
def pvals (ps : List Pk) : List Value := ps.flatMap Pk.cells

theorem pvals_snoc (ps : List Pk) (p : Pk) : pvals (ps ++ [p]) = pvals ps ++ p.cells := by simp [pvals]

theorem inf_pk : (Tryz.prog.info? 152).map (fun i => (i.zero, i.size, i.bytes)) = some (some (.agg #[.int .i64 0, .string ⟨#[]⟩, .bool false]), 3, 32) := by kernel_rfl
theorem und_pks : Tryz.prog.underlying 140 = some (.slice 152) := by kernel_rfl

theorem feed_step (s : Sc) (l : List UInt8) (k : Nat) (h : k < l.length) : feedS s (l.take (k + 1)) = (feedS s (l.take k)).step l[k] := by
  rw [take_snoc8 l k h, feedS_append]; rfl
theorem feedP_step0 (s : Sc) (l : List UInt8) (k : Nat) (h : k < l.length) (h3 : (feedS s (l.take k)).st ≠ 3) : feedP s (l.take (k + 1)) = feedP s (l.take k) := by
  rw [take_snoc8 l k h, feedP_append]; simp [feedP, h3]
theorem feedP_step3 (s : Sc) (l : List UInt8) (k : Nat) (h : k < l.length) (h3 : (feedS s (l.take k)).st = 3) :
    feedP s (l.take (k + 1)) = feedP s (l.take k) ++ [readPk (feedS s (l.take k)).raw (feedS s (l.take k)).sum l[k]] := by
  rw [take_snoc8 l k h, feedP_append]; simp [feedP, h3]
theorem feedP_take_len (s : Sc) (l : List UInt8) (k : Nat) : (feedP s (l.take k)).length ≤ (feedP s l).length := by
  have : feedP s l = feedP s (l.take k) ++ feedP (feedS s (l.take k)) (l.drop k) := by rw [← feedP_append, List.take_append_drop]
  rw [this]; simp

theorem ScAt.lt {w : World} {B : Nat} {s : Sc} (h : ScAt w B s) : B < w.heap.size := World.block_lt_of_cell? w ⟨B, 0, none⟩ h.cst

theorem und_arr : Tryz.prog.underlying 108 = some (.array 200 5) := by kernel_rfl

theorem slice_raw (B n : Nat) (h : n ≤ 200) (w : World) : Sem.run Tryz.prog (Instr.sliceAt 108 (.pointer (some ⟨B, 1, none⟩)) none (some (.int .i64 (n : Int))) none) w = .ok (.slice (some ⟨B, 1, none⟩) n 200) w := by
  have hal : Tryz.prog.arrayLen 108 = 200 := by kernel_rfl
  have hel : Tryz.prog.elem 108 = 5 := by kernel_rfl
  rw [run_sliceAt_array_h (P := Tryz.prog) w 108 ⟨B, 1, none⟩ (by rw [hal, hel]; exact und_arr) .i64 (n : Int) (by omega) (by rw [hal]; omega), hal, hel]
  simp [sizeOf, go_sem, slicedAt, Addr.add]

/-- The packets' slice of a Feed, and the scanner. -/
structure Fed (B : Nat) (w0 w : World) (v : Value) (s : Sc) (ps : List Pk) : Prop where
  own : w.ownsRow w0.heap.size 152 3 v ps.length (pvals ps)
  nil : ps = [] → v = .slice none 0 0
  sc : ScAt w B s
  grown : w0.grownBy w (some B)
  lt : B < w0.heap.size

theorem Fed.turned {B : Nat} {w0 w w1 : World} {v : Value} {s s' : Sc} {ps : List Pk} (h : Fed B w0 w v s ps) (ht : Turned B s' w w1) : Fed B w0 w1 v s' ps := by
  refine ⟨h.own.kept ht.2.1 ?_, h.nil, ht.1, grown_trans h.grown ht.2.1, h.lt⟩
  cases hv : v.ownBlock with
  | none => exact .inl rfl
  | some g =>
    refine .inr ?_
    have h1 := (h.own.lt g hv).1
    have h2 := h.lt
    intro e; injection e with e; omega

theorem own_below {w w' : World} {base : Nat} {e : TypeId} {size : Nat} {v : Value} {n : Nat} {xs : List Value} (h : w.ownsRow base e size v n xs) (hb : Below w.heap.size w w') : w'.ownsRow base e size v n xs :=
  h.kept ⟨hb.os, hb.tape, hb.output, hb.size, fun k hk _ => hb.block k hk⟩ (row := none) (by cases v.ownBlock <;> simp)

theorem ScAt.below {w w' : World} {B : Nat} {s : Sc} (h : ScAt w B s) (hb : Below w.heap.size w w') : ScAt w' B s := by
  have hc : ∀ o, w'.cell? ⟨B, o, none⟩ = w.cell? ⟨B, o, none⟩ := fun o => hb.cell (p := ⟨B, o, none⟩) h.lt
  have hf : ∀ o, w'.frozen? ⟨B, o, none⟩ = w.frozen? ⟨B, o, none⟩ := fun o => hb.frozen (p := ⟨B, o, none⟩) h.lt
  exact ⟨h.st3, h.len, by rw [hc]; exact h.cst, by rw [hc]; exact h.cnt, by rw [hc]; exact h.csum, fun i hi => by rw [hc]; exact h.bytes i hi, fun i hi => by rw [hc]; exact h.there i hi, fun o => by rw [hf]; exact h.free o⟩

theorem grown_below {w w' : World} (hb : Below w.heap.size w w') (row : Option Nat) : w.grownBy w' row := ⟨hb.os, hb.tape, hb.output, hb.size, fun k hk _ => hb.block k hk⟩

theorem Fed.below {B : Nat} {w0 w w1 : World} {v : Value} {s : Sc} {ps : List Pk} (h : Fed B w0 w v s ps) (hb : Below w.heap.size w w1) : Fed B w0 w1 v s ps :=
  ⟨own_below h.own hb, h.nil, h.sc.below hb, grown_trans h.grown (grown_below hb _), h.lt⟩

theorem below_undrew {B : Nat} {w w' : World} (h : Below B w.drew w') : Below B w w' := ⟨h.os, h.tape, h.output, h.size, h.block⟩

theorem ScAt.grown {w w' : World} {B : Nat} {s : Sc} {row : Option Nat} (h : ScAt w B s) (hg : w.grownBy w' row) (hne : some B ≠ row) : ScAt w' B s := by
  have hb := hg.block B h.lt hne
  have hc : ∀ o, w'.cell? ⟨B, o, none⟩ = w.cell? ⟨B, o, none⟩ := fun o => World.cell?_of_block (a := ⟨B, o, none⟩) hb
  have hf : ∀ o, w'.frozen? ⟨B, o, none⟩ = w.frozen? ⟨B, o, none⟩ := fun o => World.frozen?_of_block (a := ⟨B, o, none⟩) hb
  exact ⟨h.st3, h.len, by rw [hc]; exact h.cst, by rw [hc]; exact h.cnt, by rw [hc]; exact h.csum, fun i hi => by rw [hc]; exact h.bytes i hi, fun i hi => by rw [hc]; exact h.there i hi, fun o => by rw [hf]; exact h.free o⟩

theorem Fed.append {B : Nat} {w0 w w3 : World} {v : Value} {s : Sc} {ps : List Pk} {p : Pk} {o : Obj} {g cap : Nat} (h : Fed B w0 w v s ps)
    (hown : w3.ownsRow w0.heap.size 152 3 (.slice (some ⟨g, 0, none⟩) (ps.length + 1) cap) (ps.length + 1) (pvals ps ++ p.cells)) (hg : (w.alloc o).grownBy w3 v.ownBlock) :
    Fed B w0 w3 (.slice (some ⟨g, 0, none⟩) (ps.length + 1) cap) s (ps ++ [p]) := by
  have hlt := h.lt
  have hne : some B ≠ v.ownBlock := fun e => by have := (h.own.lt B e.symm).1; omega
  have hal : ScAt (w.alloc o) B s := h.sc.grown (World.grownBy_alloc w o none) (by simp)
  refine ⟨by rw [pvals_snoc]; simpa using hown, by simp, hal.grown hg hne, ?_, h.lt⟩
  have hs := h.grown.size
  have hs3 := hg.size
  simp only [World.size_alloc] at hs3
  refine ⟨hg.os.trans h.grown.os, hg.tape.trans h.grown.tape, hg.output.trans h.grown.output, by omega, ?_⟩
  intro k hk hkB
  have hne' : some k ≠ v.ownBlock := fun e => by have := (h.own.lt k e.symm).1; omega
  exact (hg.block k (by simp; omega) hne').trans ((Below.heap_alloc w o k (by omega)).trans (h.grown.block k hk hkB))

theorem pk_val (p : Pk) : p.val = .agg #[.int .i64 (p.seq : Int), .string ⟨p.body.toArray⟩, .bool p.bad] := rfl

theorem three_new (w : World) (p : Pk) (t : TypeId) :
    ∀ j u, p.cells[j]? = some u → (w.alloc (.cells #[.int .i64 (p.seq : Int), .string ⟨p.body.toArray⟩, .bool p.bad] t)).cell? ((⟨w.heap.size, 0, none⟩ : Addr).add j) = some u :=
  World.news_of_block (w := w.alloc (.cells #[.int .i64 (p.seq : Int), .string ⟨p.body.toArray⟩, .bool p.bad] t)) (cs := #[.int .i64 (p.seq : Int), .string ⟨p.body.toArray⟩, .bool p.bad]) (t := t) (fr := (0, 0)) (heap_alloc_new w _)

theorem three_one (p : Pk) : ∀ u ∈ p.cells, u.oneCell' = true := by
  intro u hu; simp [Pk.cells] at hu; rcases hu with rfl | rfl | rfl <;> rfl

set_option maxRecDepth 100000 in
set_option maxHeartbeats 2000000 in
theorem scannerFeed_any (B bb off cap : Nat) (s : Sc) (l : List UInt8) (w : World) (hs : ScAt w B s) (hl : l.length ≤ 140737488355328) (hB : BytesAt w bb off l) (hne : bb ≠ B)
    (hmax : (feedP s l).length ≤ 4194304) :
    Calls Tryz.prog 57 #[.pointer (some ⟨B, 0, none⟩), .slice (some ⟨bb, off, none⟩) l.length cap] w fun e w' => ∃ v, e = .returned v ∧ Fed B w w' v (feedS s l) (feedP s l) := by
  obtain ⟨i0, hi, hz0, hz1, hz2⟩ := info_parts inf_pk
  have HB : Hid (BytesAt w bb off l) := hB
  have HF : Hid (Fed B w w (.slice none 0 0) (feedS s (l.take 0)) (feedP s (l.take 0))) := ⟨World.ownsRow_nil _ _ _ _, fun _ => rfl, hs, World.grownBy.refl _ _, hs.lt⟩
  have HM : Hid ((feedP s l).length ≤ 4194304) := hmax
  have hBs := hs.lt
  clear hB hs hmax
  go_enter Tryz.func57, Tryz.ntmps57
  go_wp2
  go_loopw [5, 10] (fun v i wr => ∃ k : Nat, k ≤ l.length ∧ i = .int .i64 k ∧ Fed B w wr v (feedS s (l.take k)) (feedP s (l.take k))) (fun _ i _ => l.length - (intOf i).toNat)
  case atStart => exact ⟨0, Nat.zero_le _, rfl, HF.out⟩
  case round =>
    obtain ⟨k, hk, rfl, hF⟩ := hrel
    clear HF
    by_cases hlt : k < l.length
    · have hcell : wr.cell? ⟨bb, off + k, none⟩ = some (.int .u8 (l[k].toNat : Int)) := hF.grown.cell (HB.out k hlt) (by simpa using hne)
      have hst := Hid.out (p := feedS s (l.take (k + 1)) = (feedS s (l.take k)).step l[k]) (feed_step s l k hlt)
      have HST : Hid (feedS s (l.take (k + 1)) = (feedS s (l.take k)).step l[k]) := hst
      have hlen : (feedP s (l.take k)).length ≤ 4194304 := Nat.le_trans (feedP_take_len s l k) HM.out
      have H3 : Hid (feedP s (l.take (k + 1)) = if (feedS s (l.take k)).st = 3 then feedP s (l.take k) ++ [readPk (feedS s (l.take k)).raw (feedS s (l.take k)).sum l[k]] else feedP s (l.take k)) := by
        show _ = _
        split
        · exact feedP_step3 s l k hlt ‹_›
        · exact feedP_step0 s l k hlt ‹_›
      clear hst
      have HF : Hid (Fed B w wr u5 (feedS s (l.take k)) (feedP s (l.take k))) := hF
      generalize feedP s (l.take k) = ps at *
      generalize feedS s (l.take k) = t at *
      clear hF
      go_wp2_with fail
      refine (take_any B t _ HF.out.sc l[k]).mono ?_
      rintro e w1 ⟨rfl, hT⟩
      have HT : Hid (Fed B w w1 u5 (t.step l[k]) ps) := HF.out.turned hT
      clear hT HF hcell
      by_cases h3 : t.st = 3
      · have e1 : Hid (t.step l[k] = ⟨0, t.raw, t.sum⟩) := by show _ = _; simp [Sc.step, h3]
        rw [e1.out] at HT HST
        have H3' : Hid (feedP s (l.take (k + 1)) = ps ++ [readPk t.raw t.sum l[k]]) := by show _ = _; rw [H3.out, if_pos h3]
        rw [decide_eq_true h3]
        have hc1 := HT.out.sc.cnt
        have hc2 := HT.out.sc.csum
        have hrl : t.raw.length ≤ 200 := HT.out.sc.len
        have hsl := slice_raw B t.raw.length hrl
        clear h3 H3
        go_wp2_with fail
        go_region_held3 (fun w' => w'.cell? ⟨B, 201, none⟩ = some (.int .i64 (t.raw.length : Int)) ∧ w'.cell? ⟨B, 202, none⟩ = some (.int .u8 (t.sum.toNat : Int))) (go_keep) (first | (go_at_call 88; go_must (refine (readPacket_any B 1 t.raw t.sum l[k] _ hrl ?_ ?_).mono ?_; exact HT.out.sc.drew.bytes; exact HT.out.sc.lt; rintro e w2 ⟨rfl, hbel⟩; have k1 := cell_later hbel hc1; have k2 := cell_later hbel hc2; have HF2 : Hid (Fed B w w2 u5 ⟨0, t.raw, t.sum⟩ ps) := HT.out.below (below_undrew hbel); have hn := World.new_ne w2 ⟨B, 201, none⟩ k1; have hn2 := World.new_ne w2 ⟨B, 202, none⟩ k2; rw [pk_val])) | (refine step_append_lies _ rfl (.tmp 17) (.tmp 32) 140 rfl w.heap.size 152 i0 _ 3 32 und_pks hi hz0 hz1 hz2 rfl (by decide) u5 ps.length (pvals ps) rfl ?_ ⟨_, 0, none⟩ 1 1 (Pk.cells (readPk t.raw t.sum l[k])) rfl rfl ?_ ?_ (by decide) ?_ ?_ ?_ _ rfl ?_; go_must (exact HF2.out.own.alloc _; exact (three_new _ _ _); exact (three_one _); (unfold maxLen; omega); omega; (have := HF2.out.grown.size; simp; omega);  intro g' cap' w3 hown' hgrow hat hlt'; have HF3 : Hid (Fed B w w3 (.slice (some ⟨g', 0, none⟩) (ps.length + 1) cap') ⟨0, t.raw, t.sum⟩ (ps ++ [readPk t.raw t.sum l[k]])) := HF2.out.append hown' hgrow; have k3 := HF3.out.sc.cnt; have k4 := HF3.out.sc.csum; clear hown' hgrow hat hlt' HF2)))
        all_goals
          go_wp2
          go_roundw
          case rel => exact ⟨k + 1, by omega, by go_num, by rw [HST.out, H3'.out]; exact HF3.out⟩
          case measure => simp [intOf]; omega
      · have H3' : Hid (feedP s (l.take (k + 1)) = ps) := by show _ = _; rw [H3.out, if_neg h3]
        rw [decide_eq_false h3]
        clear h3 H3
        go_wp2
        go_roundw
        case rel => exact ⟨k + 1, by omega, by go_num, by rw [HST.out, H3'.out]; exact HT.out⟩
        case measure => simp [intOf]; omega
    · have hke : l.take k = l := List.take_of_length_le (by omega)
      rw [hke] at hF
      have HF : Hid (Fed B w wr u5 (feedS s l) (feedP s l)) := hF
      clear hF hke
      go_wp2
      go_ret
      exact ⟨_, rfl, HF.out⟩

set_option maxRecDepth 100000 in
set_option maxHeartbeats 400000 in
theorem scanFeed_any (B bb off cap : Nat) (s : Sc) (l : List UInt8) (w : World) (hs : ScAt w B s) (hl : l.length ≤ 140737488355328) (hB : BytesAt w bb off l) (hne : bb ≠ B)
    (hmax : (feedP s l).length ≤ 4194304) :
    Calls Tryz.prog 71 #[.pointer (some ⟨B, 0, none⟩), .slice (some ⟨bb, off, none⟩) l.length cap] w fun e w' => ∃ v, e = .returned v ∧ Fed B w w' v (feedS s l) (feedP s l) := by
  have HS : Hid (ScAt w B s ∧ BytesAt w bb off l ∧ (feedP s l).length ≤ 4194304) := ⟨hs, hB, hmax⟩
  clear hs hB hmax
  go_enter Tryz.func71, Tryz.ntmps71
  go_wp2_with fail
  refine (scannerFeed_any B bb off cap s l _ HS.out.1 hl HS.out.2.1 hne HS.out.2.2).mono ?_
  rintro e w1 ⟨v, rfl, O⟩
  have H : Hid (Fed B w w1 v (feedS s l) (feedP s l)) := O
  clear O
  go_wp2
  go_ret
  exact ⟨v, rfl, H.out⟩
end

/-
  A stub's scanner: the same walks, where it lies within the stub.
-/
section
variable {Q : Nat → Option Value}

/-- A scanner lies in block B. -/
structure ScS (Q : Nat → Option Value) (w : World) (B : Nat) (s : Sc) : Prop where
  st3 : s.st ≤ 3
  len : s.raw.length ≤ 200
  cst : w.cell? ⟨B, 65562, none⟩ = some (.int .u8 (s.st : Int))
  cnt : w.cell? ⟨B, 65763, none⟩ = some (.int .i64 (s.raw.length : Int))
  csum : w.cell? ⟨B, 65764, none⟩ = some (.int .u8 (s.sum.toNat : Int))
  bytes : BytesAt w B 65563 s.raw
  there : ∀ i, i < 200 → ∃ v, w.cell? ⟨B, 65563 + i, none⟩ = some v
  free : ∀ o, w.frozen? ⟨B, o, none⟩ = false
  keep : ∀ o, o < 65562 ∨ 65765 ≤ o → w.cell? ⟨B, o, none⟩ = Q o


theorem ScS.setSt {w : World} {B : Nat} {s : Sc} (h : ScS Q w B s) (n : Nat) (hn : n ≤ 3) : ScS Q (w.setCell ⟨B, 65562, none⟩ (.int .u8 (n : Int))) B ⟨n, s.raw, s.sum⟩ := by
  refine ⟨hn, h.len, World.cell?_setCell_same _ _ _ h.cst, ?_, ?_, ?_, ?_, ?_, ?_⟩
  · rw [World.cell?_setCell_other _ _ _ _ (addr_ne _ _ _ (by omega))]; exact h.cnt
  · rw [World.cell?_setCell_other _ _ _ _ (addr_ne _ _ _ (by omega))]; exact h.csum
  · intro i hi; rw [World.cell?_setCell_other _ _ _ _ (addr_ne _ _ _ (by omega))]; exact h.bytes i hi
  · intro i hi; rw [World.cell?_setCell_other _ _ _ _ (addr_ne _ _ _ (by omega))]; exact h.there i hi
  · intro o; rw [World.frozen?_setCell]; exact h.free o
  · intro o ho; rw [World.cell?_setCell_other _ _ _ _ (addr_ne _ _ _ (by omega))]; exact h.keep o ho

theorem ScS.clear {w : World} {B : Nat} {s : Sc} (h : ScS Q w B s) : ScS Q (w.setCell ⟨B, 65763, none⟩ (.int .i64 0)) B ⟨s.st, [], s.sum⟩ := by
  refine ⟨h.st3, by simp, ?_, ?_, ?_, ?_, ?_, ?_, ?_⟩
  · rw [World.cell?_setCell_other _ _ _ _ (addr_ne _ _ _ (by omega))]; exact h.cst
  · exact World.cell?_setCell_same _ _ _ h.cnt
  · rw [World.cell?_setCell_other _ _ _ _ (addr_ne _ _ _ (by omega))]; exact h.csum
  · intro i hi; simp at hi
  · intro i hi; rw [World.cell?_setCell_other _ _ _ _ (addr_ne _ _ _ (by omega))]; exact h.there i hi
  · intro o; rw [World.frozen?_setCell]; exact h.free o
  · intro o ho; rw [World.cell?_setCell_other _ _ _ _ (addr_ne _ _ _ (by omega))]; exact h.keep o ho

theorem ScS.setSum {w : World} {B : Nat} {s : Sc} (h : ScS Q w B s) (c : UInt8) : ScS Q (w.setCell ⟨B, 65764, none⟩ (.int .u8 (c.toNat : Int))) B ⟨s.st, s.raw, c⟩ := by
  refine ⟨h.st3, h.len, ?_, ?_, World.cell?_setCell_same _ _ _ h.csum, ?_, ?_, ?_, ?_⟩
  · rw [World.cell?_setCell_other _ _ _ _ (addr_ne _ _ _ (by omega))]; exact h.cst
  · rw [World.cell?_setCell_other _ _ _ _ (addr_ne _ _ _ (by omega))]; exact h.cnt
  · intro i hi; have := h.len; have hi' : i < s.raw.length := hi; rw [World.cell?_setCell_other _ _ _ _ (addr_ne _ _ _ (by omega))]; exact h.bytes i hi
  · intro i hi; rw [World.cell?_setCell_other _ _ _ _ (addr_ne _ _ _ (by omega))]; exact h.there i hi
  · intro o; rw [World.frozen?_setCell]; exact h.free o
  · intro o ho; rw [World.cell?_setCell_other _ _ _ _ (addr_ne _ _ _ (by omega))]; exact h.keep o ho

theorem ScS.push {w : World} {B : Nat} {s : Sc} (h : ScS Q w B s) (c : UInt8) (hl : s.raw.length < 200) :
    ScS Q ((w.setCell ⟨B, 65563 + s.raw.length, none⟩ (.int .u8 (c.toNat : Int))).setCell ⟨B, 65763, none⟩ (.int .i64 ((s.raw.length : Int) + 1))) B ⟨s.st, s.raw ++ [c], s.sum⟩ := by
  obtain ⟨v, hv⟩ := h.there _ hl
  refine ⟨h.st3, by simp; omega, ?_, ?_, ?_, ?_, ?_, ?_, ?_⟩
  · rw [World.cell?_setCell_other _ _ _ _ (addr_ne _ _ _ (by omega)), World.cell?_setCell_other _ _ _ _ (addr_ne _ _ _ (by omega))]; exact h.cst
  · have e : w.cell? ⟨B, 65763, none⟩ = some (.int .i64 (s.raw.length : Int)) := h.cnt
    rw [← World.cell?_setCell_other w ⟨B, 65563 + s.raw.length, none⟩ _ (.int .u8 (c.toNat : Int)) (addr_ne _ _ _ (by omega))] at e
    rw [World.cell?_setCell_same _ _ _ e]; simp
  · rw [World.cell?_setCell_other _ _ _ _ (addr_ne _ _ _ (by omega)), World.cell?_setCell_other _ _ _ _ (addr_ne _ _ _ (by omega))]; exact h.csum
  · intro i hi
    simp at hi
    rw [World.cell?_setCell_other _ _ _ _ (addr_ne _ _ _ (by omega))]
    by_cases e : i = s.raw.length
    · subst e; rw [World.cell?_setCell_same _ _ _ hv]; simp
    · rw [World.cell?_setCell_other _ _ _ _ (addr_ne _ _ _ (by omega)), h.bytes i (by omega)]; simp [List.getElem_append_left (show i < s.raw.length by omega)]
  · intro i hi
    rw [World.cell?_setCell_other _ _ _ _ (addr_ne _ _ _ (by omega))]
    by_cases e : i = s.raw.length
    · subst e; exact ⟨_, World.cell?_setCell_same _ _ _ hv⟩
    · rw [World.cell?_setCell_other _ _ _ _ (addr_ne _ _ _ (by omega))]; exact h.there i hi
  · intro o; rw [World.frozen?_setCell, World.frozen?_setCell]; exact h.free o
  · intro o ho; rw [World.cell?_setCell_other _ _ _ _ (addr_ne _ _ _ (by omega)), World.cell?_setCell_other _ _ _ _ (addr_ne _ _ _ (by omega))]; exact h.keep o ho

set_option maxRecDepth 100000 in
set_option maxHeartbeats 400000 in
theorem beginS_any (B : Nat) (s : Sc) (w : World) (h : ScS Q w B s) :
    Calls Tryz.prog 133 #[.pointer (some ⟨B, 65562, none⟩)] w fun e w' => e = .returned (.tuple #[]) ∧ w' = (w.setCell ⟨B, 65562, none⟩ (.int .u8 1)).setCell ⟨B, 65763, none⟩ (.int .i64 0) := by
  have h1 := h.cst
  have h2 := h.cnt
  have f1 := h.free 65562
  have f2 := h.free 65763
  clear h
  go_enter Tryz.func133, Tryz.ntmps133
  go_wp2
  go_end0
  exact ⟨rfl, rfl⟩

/-- A call that turns scanner B from s to s' and nothing else. -/
def TurnedS (Q : Nat → Option Value) (B : Nat) (s' : Sc) (w w' : World) : Prop := ScS Q w' B s' ∧ w.grownBy w' (some B) ∧ w'.heap.size = w.heap.size




theorem ScS.drew {w : World} {B : Nat} {s : Sc} (h : ScS Q w B s) : ScS Q w.drew B s :=
  ⟨h.st3, h.len, h.cst, h.cnt, h.csum, h.bytes, h.there, h.free, h.keep⟩


set_option maxRecDepth 100000 in
set_option maxHeartbeats 400000 in
theorem gatherS_start (B : Nat) (s : Sc) (w : World) (h : ScS Q w B s) :
    Calls Tryz.prog 134 #[.pointer (some ⟨B, 65562, none⟩), .int .u8 36] w fun e w' => e = .returned (.tuple #[]) ∧ w' = (w.setCell ⟨B, 65562, none⟩ (.int .u8 1)).setCell ⟨B, 65763, none⟩ (.int .i64 0) := by
  have H : Hid (ScS Q w B s) := h
  clear h
  go_enter Tryz.func134, Tryz.ntmps134
  go_wp2_with fail
  refine (beginS_any B s _ H.out).mono ?_
  rintro e w' ⟨rfl, rfl⟩
  go_wp2
  go_end0
  exact ⟨rfl, rfl⟩

set_option maxRecDepth 100000 in
set_option maxHeartbeats 400000 in
theorem gatherS_end (B : Nat) (s : Sc) (w : World) (h : ScS Q w B s) :
    Calls Tryz.prog 134 #[.pointer (some ⟨B, 65562, none⟩), .int .u8 35] w fun e w' => e = .returned (.tuple #[]) ∧ w' = w.setCell ⟨B, 65562, none⟩ (.int .u8 2) := by
  have h1 := h.cst
  have f1 := h.free 65562
  clear h
  go_enter Tryz.func134, Tryz.ntmps134
  go_wp2
  go_end0
  exact ⟨rfl, rfl⟩

set_option maxRecDepth 100000 in
set_option maxHeartbeats 400000 in
theorem gatherS_full (B : Nat) (s : Sc) (w : World) (h : ScS Q w B s) (c : UInt8) (h36 : ((c.toNat : Int) == 36) = false) (h35 : ((c.toNat : Int) == 35) = false) (hl : s.raw.length = 200) :
    Calls Tryz.prog 134 #[.pointer (some ⟨B, 65562, none⟩), .int .u8 c.toNat] w fun e w' => e = .returned (.tuple #[]) ∧ w' = w.setCell ⟨B, 65562, none⟩ (.int .u8 0) := by
  have h1 := h.cst
  have h2 := h.cnt
  rw [hl] at h2
  have f1 := h.free 65562
  clear h hl
  go_enter Tryz.func134, Tryz.ntmps134
  go_wp2
  go_end0
  exact ⟨rfl, rfl⟩

set_option maxRecDepth 100000 in
set_option maxHeartbeats 400000 in
theorem gatherS_push (B : Nat) (s : Sc) (w : World) (h : ScS Q w B s) (c : UInt8) (h36 : ((c.toNat : Int) == 36) = false) (h35 : ((c.toNat : Int) == 35) = false) (hl : s.raw.length < 200) :
    Calls Tryz.prog 134 #[.pointer (some ⟨B, 65562, none⟩), .int .u8 c.toNat] w fun e w' => e = .returned (.tuple #[]) ∧
      w' = ((w.setCell ⟨B, 65563 + s.raw.length, none⟩ (.int .u8 (c.toNat : Int))).setCell ⟨B, 65763, none⟩ (.int .i64 ((s.raw.length : Int) + 1))).drew := by
  have h2 := h.cnt
  obtain ⟨v, hv⟩ := h.there _ hl
  have f1 := h.free 65763
  have f2 := h.free (65563 + s.raw.length)
  have hn : ((s.raw.length : Int) == 200) = false := by rw [beq_eq_false_iff_ne]; omega
  generalize s.raw.length = n at *
  clear h
  go_enter Tryz.func134, Tryz.ntmps134
  go_wp2
  go_region
  go_wp2
  go_end0
  exact ⟨rfl, rfl⟩


theorem turnedS_begin {B : Nat} {s : Sc} {w : World} (h : ScS Q w B s) : TurnedS Q B ⟨1, [], s.sum⟩ w ((w.setCell ⟨B, 65562, none⟩ (.int .u8 1)).setCell ⟨B, 65763, none⟩ (.int .i64 0)) :=
  ⟨(h.setSt 1 (by omega)).clear, grown_trans (grown_set _ _ _ _) (grown_set _ _ _ _), by simp⟩

theorem gatherS_any (B : Nat) (s : Sc) (w : World) (h : ScS Q w B s) (hs : s.st = 1) (c : UInt8) :
    Calls Tryz.prog 134 #[.pointer (some ⟨B, 65562, none⟩), .int .u8 c.toNat] w fun e w' => e = .returned (.tuple #[]) ∧ TurnedS Q B (s.step c) w w' := by
  by_cases h36 : c = 36
  · subst h36
    refine (gatherS_start B s w h).mono ?_
    rintro e w' ⟨rfl, rfl⟩
    refine ⟨rfl, ?_⟩
    have e : s.step 36 = ⟨1, [], s.sum⟩ := by simp [Sc.step, hs]
    rw [e]; exact turnedS_begin h
  · by_cases h35 : c = 35
    · subst h35
      refine (gatherS_end B s w h).mono ?_
      rintro e w' ⟨rfl, rfl⟩
      have e : s.step 35 = ⟨2, s.raw, s.sum⟩ := by simp [Sc.step, hs]
      rw [e]; exact ⟨rfl, h.setSt 2 (by omega), grown_set _ _ _ _, by simp⟩
    · by_cases hl : s.raw.length = 200
      · refine (gatherS_full B s w h c (c_ne (n := 36) h36) (c_ne (n := 35) h35) hl).mono ?_
        rintro e w' ⟨rfl, rfl⟩
        have e : s.step c = ⟨0, s.raw, s.sum⟩ := by simp [Sc.step, hs, h36, h35, hl]
        rw [e]; exact ⟨rfl, h.setSt 0 (by omega), grown_set _ _ _ _, by simp⟩
      · have hlt : s.raw.length < 200 := by have := h.len; omega
        refine (gatherS_push B s w h c (c_ne (n := 36) h36) (c_ne (n := 35) h35) hlt).mono ?_
        rintro e w' ⟨rfl, rfl⟩
        have e : s.step c = ⟨s.st, s.raw ++ [c], s.sum⟩ := by simp [Sc.step, hs, h36, h35, hl]
        rw [e]
        exact ⟨rfl, (h.push c hlt).drew, grown_trans (grown_trans (grown_set _ _ _ _) (grown_set _ _ _ _)) (grown_drew _ _), by simp⟩

set_option maxRecDepth 100000 in
set_option maxHeartbeats 400000 in
theorem takeS_0 (B : Nat) (s : Sc) (w : World) (h : ScS Q w B s) (hs : s.st = 0) (c : UInt8) :
    Calls Tryz.prog 87 #[.pointer (some ⟨B, 65562, none⟩), .int .u8 c.toNat] w fun e w' => e = .returned (.bool false) ∧ TurnedS Q B (s.step c) w w' := by
  have h1 := h.cst
  rw [hs] at h1
  by_cases h36 : c = 36
  · subst h36
    have e : s.step 36 = ⟨1, [], s.sum⟩ := by simp [Sc.step, hs]
    rw [e]
    have H : Hid (ScS Q w B s) := h
    clear h hs e
    go_enter Tryz.func87, Tryz.ntmps87
    go_wp2_with fail
    refine (beginS_any B s _ H.out).mono ?_
    rintro e w' ⟨rfl, rfl⟩
    go_wp2
    go_ret
    exact ⟨rfl, turnedS_begin H.out⟩
  · have hc := c_ne (n := 36) h36
    have e : s.step c = s := by simp [Sc.step, hs, h36]
    rw [e]
    have H : Hid (ScS Q w B s) := h
    clear h hs e
    go_enter Tryz.func87, Tryz.ntmps87
    go_wp2
    go_ret
    exact ⟨rfl, H.out, World.grownBy.refl _ _, rfl⟩

set_option maxRecDepth 100000 in
set_option maxHeartbeats 400000 in
theorem takeS_1 (B : Nat) (s : Sc) (w : World) (h : ScS Q w B s) (hs : s.st = 1) (c : UInt8) :
    Calls Tryz.prog 87 #[.pointer (some ⟨B, 65562, none⟩), .int .u8 c.toNat] w fun e w' => e = .returned (.bool false) ∧ TurnedS Q B (s.step c) w w' := by
  have h1 := h.cst
  rw [hs] at h1
  have H : Hid (ScS Q w B s) := h
  have HS : Hid (s.st = 1) := hs
  clear h hs
  go_enter Tryz.func87, Tryz.ntmps87
  go_wp2_with fail
  refine (gatherS_any B s _ H.out HS.out c).mono ?_
  rintro e w' ⟨rfl, hT⟩
  have HT : Hid (TurnedS Q B (s.step c) w w') := hT
  clear hT
  go_wp2
  go_ret
  exact ⟨rfl, HT.out⟩

set_option maxRecDepth 100000 in
set_option maxHeartbeats 400000 in
theorem takeS_2 (B : Nat) (s : Sc) (w : World) (h : ScS Q w B s) (hs : s.st = 2) (c : UInt8) :
    Calls Tryz.prog 87 #[.pointer (some ⟨B, 65562, none⟩), .int .u8 c.toNat] w fun e w' => e = .returned (.bool false) ∧ TurnedS Q B (s.step c) w w' := by
  have h1 := h.cst
  rw [hs] at h1
  have h2 := h.csum
  have f1 := h.free 65562
  have f2 := h.free 65764
  have e : s.step c = ⟨3, s.raw, c⟩ := by simp [Sc.step, hs]
  rw [e]
  have H : Hid (ScS Q w B s) := h
  clear h hs e
  go_enter Tryz.func87, Tryz.ntmps87
  go_wp2
  go_ret
  exact ⟨rfl, (H.out.setSum c).setSt 3 (by omega), grown_trans (grown_set _ _ _ _) (grown_set _ _ _ _), by simp⟩

set_option maxRecDepth 100000 in
set_option maxHeartbeats 400000 in
theorem takeS_3 (B : Nat) (s : Sc) (w : World) (h : ScS Q w B s) (hs : s.st = 3) (c : UInt8) :
    Calls Tryz.prog 87 #[.pointer (some ⟨B, 65562, none⟩), .int .u8 c.toNat] w fun e w' => e = .returned (.bool true) ∧ TurnedS Q B (s.step c) w w' := by
  have h1 := h.cst
  rw [hs] at h1
  have f1 := h.free 65562
  have e : s.step c = ⟨0, s.raw, s.sum⟩ := by simp [Sc.step, hs]
  rw [e]
  have H : Hid (ScS Q w B s) := h
  clear h hs e
  go_enter Tryz.func87, Tryz.ntmps87
  go_wp2
  go_ret
  exact ⟨rfl, H.out.setSt 0 (by omega), grown_set _ _ _ _, by simp⟩

theorem takeS_any (B : Nat) (s : Sc) (w : World) (h : ScS Q w B s) (c : UInt8) :
    Calls Tryz.prog 87 #[.pointer (some ⟨B, 65562, none⟩), .int .u8 c.toNat] w fun e w' => e = .returned (.bool (decide (s.st = 3))) ∧ TurnedS Q B (s.step c) w w' := by
  have h3 := h.st3
  rcases (show s.st = 0 ∨ s.st = 1 ∨ s.st = 2 ∨ s.st = 3 from by omega) with e | e | e | e
  · rw [e]; exact takeS_0 B s w h e c
  · rw [e]; exact takeS_1 B s w h e c
  · rw [e]; exact takeS_2 B s w h e c
  · rw [e]; exact takeS_3 B s w h e c
end

/-
  A stub's scanner fed.
-/
section
variable {Q : Nat → Option Value}

theorem ScS.lt {w : World} {B : Nat} {s : Sc} (h : ScS Q w B s) : B < w.heap.size := World.block_lt_of_cell? w ⟨B, 65562, none⟩ h.cst


theorem sliceS_raw (B n : Nat) (h : n ≤ 200) (w : World) : Sem.run Tryz.prog (Instr.sliceAt 108 (.pointer (some ⟨B, 65563, none⟩)) none (some (.int .i64 (n : Int))) none) w = .ok (.slice (some ⟨B, 65563, none⟩) n 200) w := by
  have hal : Tryz.prog.arrayLen 108 = 200 := by kernel_rfl
  have hel : Tryz.prog.elem 108 = 5 := by kernel_rfl
  rw [run_sliceAt_array_h (P := Tryz.prog) w 108 ⟨B, 65563, none⟩ (by rw [hal, hel]; exact und_arr) .i64 (n : Int) (by omega) (by rw [hal]; omega), hal, hel]
  simp [sizeOf, go_sem, slicedAt, Addr.add]

/-- The packets' slice of a Feed, and the scanner. -/
structure FedS (Q : Nat → Option Value) (B : Nat) (w0 w : World) (v : Value) (s : Sc) (ps : List Pk) : Prop where
  own : w.ownsRow w0.heap.size 152 3 v ps.length (pvals ps)
  nil : ps = [] → v = .slice none 0 0
  sc : ScS Q w B s
  grown : w0.grownBy w (some B)
  lt : B < w0.heap.size

theorem FedS.turned {B : Nat} {w0 w w1 : World} {v : Value} {s s' : Sc} {ps : List Pk} (h : FedS Q B w0 w v s ps) (ht : TurnedS Q B s' w w1) : FedS Q B w0 w1 v s' ps := by
  refine ⟨h.own.kept ht.2.1 ?_, h.nil, ht.1, grown_trans h.grown ht.2.1, h.lt⟩
  cases hv : v.ownBlock with
  | none => exact .inl rfl
  | some g =>
    refine .inr ?_
    have h1 := (h.own.lt g hv).1
    have h2 := h.lt
    intro e; injection e with e; omega


theorem ScS.below {w w' : World} {B : Nat} {s : Sc} (h : ScS Q w B s) (hb : Below w.heap.size w w') : ScS Q w' B s := by
  have hc : ∀ o, w'.cell? ⟨B, o, none⟩ = w.cell? ⟨B, o, none⟩ := fun o => hb.cell (p := ⟨B, o, none⟩) h.lt
  have hf : ∀ o, w'.frozen? ⟨B, o, none⟩ = w.frozen? ⟨B, o, none⟩ := fun o => hb.frozen (p := ⟨B, o, none⟩) h.lt
  exact ⟨h.st3, h.len, by rw [hc]; exact h.cst, by rw [hc]; exact h.cnt, by rw [hc]; exact h.csum, fun i hi => by rw [hc]; exact h.bytes i hi, fun i hi => by rw [hc]; exact h.there i hi, fun o => by rw [hf]; exact h.free o, fun o ho => by rw [hc]; exact h.keep o ho⟩


theorem FedS.below {B : Nat} {w0 w w1 : World} {v : Value} {s : Sc} {ps : List Pk} (h : FedS Q B w0 w v s ps) (hb : Below w.heap.size w w1) : FedS Q B w0 w1 v s ps :=
  ⟨own_below h.own hb, h.nil, h.sc.below hb, grown_trans h.grown (grown_below hb _), h.lt⟩


theorem ScS.grown {w w' : World} {B : Nat} {s : Sc} {row : Option Nat} (h : ScS Q w B s) (hg : w.grownBy w' row) (hne : some B ≠ row) : ScS Q w' B s := by
  have hb := hg.block B h.lt hne
  have hc : ∀ o, w'.cell? ⟨B, o, none⟩ = w.cell? ⟨B, o, none⟩ := fun o => World.cell?_of_block (a := ⟨B, o, none⟩) hb
  have hf : ∀ o, w'.frozen? ⟨B, o, none⟩ = w.frozen? ⟨B, o, none⟩ := fun o => World.frozen?_of_block (a := ⟨B, o, none⟩) hb
  exact ⟨h.st3, h.len, by rw [hc]; exact h.cst, by rw [hc]; exact h.cnt, by rw [hc]; exact h.csum, fun i hi => by rw [hc]; exact h.bytes i hi, fun i hi => by rw [hc]; exact h.there i hi, fun o => by rw [hf]; exact h.free o, fun o ho => by rw [hc]; exact h.keep o ho⟩

theorem FedS.append {B : Nat} {w0 w w3 : World} {v : Value} {s : Sc} {ps : List Pk} {p : Pk} {o : Obj} {g cap : Nat} (h : FedS Q B w0 w v s ps)
    (hown : w3.ownsRow w0.heap.size 152 3 (.slice (some ⟨g, 0, none⟩) (ps.length + 1) cap) (ps.length + 1) (pvals ps ++ p.cells)) (hg : (w.alloc o).grownBy w3 v.ownBlock) :
    FedS Q B w0 w3 (.slice (some ⟨g, 0, none⟩) (ps.length + 1) cap) s (ps ++ [p]) := by
  have hlt := h.lt
  have hne : some B ≠ v.ownBlock := fun e => by have := (h.own.lt B e.symm).1; omega
  have hal : ScS Q (w.alloc o) B s := h.sc.grown (World.grownBy_alloc w o none) (by simp)
  refine ⟨by rw [pvals_snoc]; simpa using hown, by simp, hal.grown hg hne, ?_, h.lt⟩
  have hs := h.grown.size
  have hs3 := hg.size
  simp only [World.size_alloc] at hs3
  refine ⟨hg.os.trans h.grown.os, hg.tape.trans h.grown.tape, hg.output.trans h.grown.output, by omega, ?_⟩
  intro k hk hkB
  have hne' : some k ≠ v.ownBlock := fun e => by have := (h.own.lt k e.symm).1; omega
  exact (hg.block k (by simp; omega) hne').trans ((Below.heap_alloc w o k (by omega)).trans (h.grown.block k hk hkB))




set_option maxRecDepth 100000 in
set_option maxHeartbeats 2000000 in
theorem scannerFeedS_any (B bb off cap : Nat) (s : Sc) (l : List UInt8) (w : World) (hs : ScS Q w B s) (hl : l.length ≤ 140737488355328) (hB : BytesAt w bb off l) (hne : bb ≠ B)
    (hmax : (feedP s l).length ≤ 4194304) :
    Calls Tryz.prog 57 #[.pointer (some ⟨B, 65562, none⟩), .slice (some ⟨bb, off, none⟩) l.length cap] w fun e w' => ∃ v, e = .returned v ∧ FedS Q B w w' v (feedS s l) (feedP s l) := by
  obtain ⟨i0, hi, hz0, hz1, hz2⟩ := info_parts inf_pk
  have HB : Hid (BytesAt w bb off l) := hB
  have HF : Hid (FedS Q B w w (.slice none 0 0) (feedS s (l.take 0)) (feedP s (l.take 0))) := ⟨World.ownsRow_nil _ _ _ _, fun _ => rfl, hs, World.grownBy.refl _ _, hs.lt⟩
  have HM : Hid ((feedP s l).length ≤ 4194304) := hmax
  have hBs := hs.lt
  clear hB hs hmax
  go_enter Tryz.func57, Tryz.ntmps57
  go_wp2
  go_loopw [5, 10] (fun v i wr => ∃ k : Nat, k ≤ l.length ∧ i = .int .i64 k ∧ FedS Q B w wr v (feedS s (l.take k)) (feedP s (l.take k))) (fun _ i _ => l.length - (intOf i).toNat)
  case atStart => exact ⟨0, Nat.zero_le _, rfl, HF.out⟩
  case round =>
    obtain ⟨k, hk, rfl, hF⟩ := hrel
    clear HF
    by_cases hlt : k < l.length
    · have hcell : wr.cell? ⟨bb, off + k, none⟩ = some (.int .u8 (l[k].toNat : Int)) := hF.grown.cell (HB.out k hlt) (by simpa using hne)
      have hst := Hid.out (p := feedS s (l.take (k + 1)) = (feedS s (l.take k)).step l[k]) (feed_step s l k hlt)
      have HST : Hid (feedS s (l.take (k + 1)) = (feedS s (l.take k)).step l[k]) := hst
      have hlen : (feedP s (l.take k)).length ≤ 4194304 := Nat.le_trans (feedP_take_len s l k) HM.out
      have H3 : Hid (feedP s (l.take (k + 1)) = if (feedS s (l.take k)).st = 3 then feedP s (l.take k) ++ [readPk (feedS s (l.take k)).raw (feedS s (l.take k)).sum l[k]] else feedP s (l.take k)) := by
        show _ = _
        split
        · exact feedP_step3 s l k hlt ‹_›
        · exact feedP_step0 s l k hlt ‹_›
      clear hst
      have HF : Hid (FedS Q B w wr u5 (feedS s (l.take k)) (feedP s (l.take k))) := hF
      generalize feedP s (l.take k) = ps at *
      generalize feedS s (l.take k) = t at *
      clear hF
      go_wp2_with fail
      refine (takeS_any B t _ HF.out.sc l[k]).mono ?_
      rintro e w1 ⟨rfl, hT⟩
      have HT : Hid (FedS Q B w w1 u5 (t.step l[k]) ps) := HF.out.turned hT
      clear hT HF hcell
      by_cases h3 : t.st = 3
      · have e1 : Hid (t.step l[k] = ⟨0, t.raw, t.sum⟩) := by show _ = _; simp [Sc.step, h3]
        rw [e1.out] at HT HST
        have H3' : Hid (feedP s (l.take (k + 1)) = ps ++ [readPk t.raw t.sum l[k]]) := by show _ = _; rw [H3.out, if_pos h3]
        rw [decide_eq_true h3]
        have hc1 := HT.out.sc.cnt
        have hc2 := HT.out.sc.csum
        have hrl : t.raw.length ≤ 200 := HT.out.sc.len
        have hsl := sliceS_raw B t.raw.length hrl
        clear h3 H3
        go_wp2_with fail
        go_region_held3 (fun w' => w'.cell? ⟨B, 65763, none⟩ = some (.int .i64 (t.raw.length : Int)) ∧ w'.cell? ⟨B, 65764, none⟩ = some (.int .u8 (t.sum.toNat : Int))) (go_keep) (first | (go_at_call 88; go_must (refine (readPacket_any B 65563 t.raw t.sum l[k] _ hrl ?_ ?_).mono ?_; exact HT.out.sc.drew.bytes; exact HT.out.sc.lt; rintro e w2 ⟨rfl, hbel⟩; have k1 := cell_later hbel hc1; have k2 := cell_later hbel hc2; have HF2 : Hid (FedS Q B w w2 u5 ⟨0, t.raw, t.sum⟩ ps) := HT.out.below (below_undrew hbel); have hn := World.new_ne w2 ⟨B, 65763, none⟩ k1; have hn2 := World.new_ne w2 ⟨B, 65764, none⟩ k2; rw [pk_val])) | (refine step_append_lies _ rfl (.tmp 17) (.tmp 32) 140 rfl w.heap.size 152 i0 _ 3 32 und_pks hi hz0 hz1 hz2 rfl (by decide) u5 ps.length (pvals ps) rfl ?_ ⟨_, 0, none⟩ 1 1 (Pk.cells (readPk t.raw t.sum l[k])) rfl rfl ?_ ?_ (by decide) ?_ ?_ ?_ _ rfl ?_; go_must (exact HF2.out.own.alloc _; exact (three_new _ _ _); exact (three_one _); (unfold maxLen; omega); omega; (have := HF2.out.grown.size; simp; omega);  intro g' cap' w3 hown' hgrow hat hlt'; have HF3 : Hid (FedS Q B w w3 (.slice (some ⟨g', 0, none⟩) (ps.length + 1) cap') ⟨0, t.raw, t.sum⟩ (ps ++ [readPk t.raw t.sum l[k]])) := HF2.out.append hown' hgrow; have k3 := HF3.out.sc.cnt; have k4 := HF3.out.sc.csum; clear hown' hgrow hat hlt' HF2)))
        all_goals
          go_wp2
          go_roundw
          case rel => exact ⟨k + 1, by omega, by go_num, by rw [HST.out, H3'.out]; exact HF3.out⟩
          case measure => simp [intOf]; omega
      · have H3' : Hid (feedP s (l.take (k + 1)) = ps) := by show _ = _; rw [H3.out, if_neg h3]
        rw [decide_eq_false h3]
        clear h3 H3
        go_wp2
        go_roundw
        case rel => exact ⟨k + 1, by omega, by go_num, by rw [HST.out, H3'.out]; exact HT.out⟩
        case measure => simp [intOf]; omega
    · have hke : l.take k = l := List.take_of_length_le (by omega)
      rw [hke] at hF
      have HF : Hid (FedS Q B w wr u5 (feedS s l) (feedP s l)) := hF
      clear hF hke
      go_wp2
      go_ret
      exact ⟨_, rfl, HF.out⟩
end

end Go.Proofs.YtcgjliflnnklnaaGreat
