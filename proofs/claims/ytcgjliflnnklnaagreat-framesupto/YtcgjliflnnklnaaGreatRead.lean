/-
  readPacket.
-/
import Derived.Test.YtcgjliflnnklnaaGreatUnesc
import Derived.Deep.QuietTactic
import Derived.BigQuiet
namespace Go.Proofs.YtcgjliflnnklnaaGreat
open Go.RowKit

structure Pk where
  seq : Nat
  body : List UInt8
  bad : Bool

def badPk : Pk := ⟨0, [], true⟩

def Pk.val (p : Pk) : Value := .agg #[.int .i64 (p.seq : Int), .string ⟨p.body.toArray⟩, .bool p.bad]

def tailPk (l : List UInt8) (c0 c1 : UInt8) : Pk :=
  if (hb c0 c1).2 = true then
    (match unesc (l.drop 2) with
    | some out => if out.length ≤ 80 then ⟨(hb c0 c1).1.toNat, out, false⟩ else badPk
    | none => badPk)
  else badPk

def readPk (l : List UInt8) (h lo : UInt8) : Pk :=
  if (hb h lo).2 = true ∧ (hb h lo).1 = sum8 l ∧ 2 ≤ l.length then tailPk l (l.getD 0 0) (l.getD 1 0) else badPk

theorem below2 (w : World) (o p : Obj) : Below w.heap.size w ((w.alloc o).alloc p) := ((Below.refl _ _).alloc (Nat.le_refl _) _).alloc (by simp) _

set_option maxRecDepth 100000 in
set_option maxHeartbeats 1000000 in
theorem readPacket_a (b off cap : Nat) (l : List UInt8) (h lo : UInt8) (w : World) (hbad : (hb h lo).2 = false) :
    Calls Tryz.prog 88 #[.slice (some ⟨b, off, none⟩) l.length cap, .int .u8 h.toNat, .int .u8 lo.toNat] w fun e w' => e = .returned badPk.val ∧ Below w.heap.size w w' := by
  go_enter Tryz.func88, Tryz.ntmps88
  go_wp2_with fail
  refine (hexByte_any h lo _).mono ?_
  rintro e w1 ⟨rfl, rfl⟩
  rw [hbad]
  go_wp2
  exact bodyPost_ret (v := .agg #[.int .i64 0, .string ⟨#[]⟩, .bool true]) (by simp [results, Tryz.results88, go_sem]) rfl ⟨rfl, below2 _ _ _⟩

theorem ne_u8 {a b : UInt8} (h : a ≠ b) : ((a.toNat : Int) != (b.toNat : Int)) = true := by
  rw [bne_iff_ne]; intro e; apply h; exact UInt8.toNat_inj.1 (by omega)
theorem eq_u8 (a : UInt8) : ((a.toNat : Int) != (a.toNat : Int)) = false := by simp

theorem bytes_alloc {w : World} {b off : Nat} {l : List UInt8} (h : BytesAt w b off l) (hb : b < w.heap.size) (o : Obj) : BytesAt (w.alloc o) b off l := by
  intro i hi; rw [World.cell?_alloc_past _ _ _ hb]; exact h i hi

theorem bytes_below {w w' : World} {b off B : Nat} {l : List UInt8} (h : BytesAt w b off l) (hw : Below B w w') (hb : b < B) : BytesAt w' b off l := by
  intro i hi; rw [hw.cell (by exact hb)]; exact h i hi

set_option maxRecDepth 100000 in
set_option maxHeartbeats 1000000 in
theorem readPacket_b (b off cap : Nat) (l : List UInt8) (h lo : UInt8) (w : World) (hgood : (hb h lo).2 = true) (hsum : (hb h lo).1 ≠ sum8 l) (hl : l.length ≤ 1000) (hB : BytesAt w b off l) (hbs : b < w.heap.size) :
    Calls Tryz.prog 88 #[.slice (some ⟨b, off, none⟩) l.length cap, .int .u8 h.toNat, .int .u8 lo.toNat] w fun e w' => e = .returned badPk.val ∧ Below w.heap.size w w' := by
  have HB : Hid (BytesAt w b off l) := hB
  clear hB
  have hne := ne_u8 hsum
  clear hsum
  go_enter Tryz.func88, Tryz.ntmps88
  go_wp2_with fail
  refine (hexByte_any h lo _).mono ?_
  rintro e w1 ⟨rfl, rfl⟩
  rw [hgood]
  go_wp2_with fail
  refine (sum_any b off cap l _ (by omega) (bytes_alloc (bytes_alloc HB.out hbs _) (by simp; omega) _)).mono ?_
  rintro e w1 ⟨rfl, rfl⟩
  go_wp2
  exact bodyPost_ret (v := .agg #[.int .i64 0, .string ⟨#[]⟩, .bool true]) (by simp [results, Tryz.results88, go_sem]) rfl ⟨rfl, below2 _ _ _⟩

set_option maxRecDepth 100000 in
set_option maxHeartbeats 1000000 in
theorem readPacket_c (b off cap : Nat) (l : List UInt8) (h lo : UInt8) (w : World) (hgood : (hb h lo).2 = true) (hsum : (hb h lo).1 = sum8 l) (hl : l.length < 2) (hB : BytesAt w b off l) (hbs : b < w.heap.size) :
    Calls Tryz.prog 88 #[.slice (some ⟨b, off, none⟩) l.length cap, .int .u8 h.toNat, .int .u8 lo.toNat] w fun e w' => e = .returned badPk.val ∧ Below w.heap.size w w' := by
  have HB : Hid (BytesAt w b off l) := hB
  clear hB
  have hne := eq_u8 (sum8 l)
  have HS : Hid ((hb h lo).1 = sum8 l) := hsum
  clear hsum
  go_enter Tryz.func88, Tryz.ntmps88
  go_wp2_with fail
  refine (hexByte_any h lo _).mono ?_
  rintro e w1 ⟨rfl, rfl⟩
  rw [hgood, HS.out]
  go_wp2_with fail
  refine (sum_any b off cap l _ (by omega) (bytes_alloc (bytes_alloc HB.out hbs _) (by simp; omega) _)).mono ?_
  rintro e w1 ⟨rfl, rfl⟩
  go_wp2
  exact bodyPost_ret (v := .agg #[.int .i64 0, .string ⟨#[]⟩, .bool true]) (by simp [results, Tryz.results88, go_sem]) rfl ⟨rfl, below2 _ _ _⟩

theorem unescape_len (b off cap n : Nat) (l : List UInt8) (w : World) (hn : l.length = n) (hl : l.length ≤ 1000) (h : BytesAt w b off l) (hb : b < w.heap.size) :
    Calls Tryz.prog 136 #[.slice (some ⟨b, off, none⟩) n cap] w fun e w' => e = .returned (.tuple #[(unescRes l).1, .bool (unescRes l).2]) ∧ Below w.heap.size w w' := by
  subst hn; exact unescape_any b off cap l w hl h hb

theorem bytes_drop {w : World} {b off : Nat} {l : List UInt8} (h : BytesAt w b off l) (k : Nat) : BytesAt w b (off + k) (l.drop k) := by
  intro i hi
  have hi' : k + i < l.length := by simp at hi; omega
  have := h (k + i) hi'
  rw [Nat.add_assoc, this]; simp

theorem bytes_drewN {w : World} {b off : Nat} {l : List UInt8} (h : BytesAt w b off l) (n : Nat) : BytesAt (w.drewN n) b off l := h

theorem bcell {W w1 : World} (hb : Below W.heap.size W w1) : (∀ b o, b < W.heap.size → w1.cell? ⟨b, o, none⟩ = W.cell? ⟨b, o, none⟩) ∧ (∀ b o, b < W.heap.size → w1.frozen? ⟨b, o, none⟩ = W.frozen? ⟨b, o, none⟩) :=
  ⟨fun b o h => hb.cell (p := ⟨b, o, none⟩) h, fun b o h => hb.frozen (p := ⟨b, o, none⟩) h⟩

theorem after_cells {w w2 : World} {a0 a1 a2 b0 b1 b2 : Value} {t t' : TypeId} {n : Nat}
    (h : Below (((w.alloc (.cells #[a0, a1, a2] t)).alloc (.cells #[b0, b1, b2] t')).drewN n).heap.size (((w.alloc (.cells #[a0, a1, a2] t)).alloc (.cells #[b0, b1, b2] t')).drewN n) w2) :
    w2.cell? ⟨w.heap.size, 0, none⟩ = some a0 ∧ w2.cell? ⟨w.heap.size, 1, none⟩ = some a1 ∧ w2.cell? ⟨w.heap.size, 2, none⟩ = some a2 ∧
    w2.frozen? ⟨w.heap.size, 0, none⟩ = false ∧ w2.frozen? ⟨w.heap.size, 1, none⟩ = false ∧ w2.frozen? ⟨w.heap.size, 2, none⟩ = false ∧
    w2.cell? ⟨w.heap.size + 1, 0, none⟩ = some b0 ∧ w2.cell? ⟨w.heap.size + 1, 1, none⟩ = some b1 ∧ w2.cell? ⟨w.heap.size + 1, 2, none⟩ = some b2 := by
  obtain ⟨hc, hf⟩ := bcell h
  have c0 : ∀ o, w2.cell? ⟨w.heap.size, o, none⟩ = #[a0, a1, a2][o]? := fun o => by
    rw [hc _ _ (by simp; omega), World.cell?_drewN, World.cell?_alloc_past _ _ _ (by simp), World.cell?_alloc_at _ _ _ _ rfl]
  have c1 : ∀ o, w2.cell? ⟨w.heap.size + 1, o, none⟩ = #[b0, b1, b2][o]? := fun o => by
    rw [hc _ _ (by simp), World.cell?_drewN, World.cell?_alloc_at _ _ _ _ (by simp)]
  have f0 : ∀ o, w2.frozen? ⟨w.heap.size, o, none⟩ = false := fun o => by
    rw [hf _ _ (by simp; omega), World.frozen?_drewN, World.frozen?_alloc_past _ _ _ (by simp), World.frozen?_alloc_at _ _ _ _ rfl]
  exact ⟨c0 0, c0 1, c0 2, f0 0, f0 1, f0 2, c1 0, c1 1, c1 2⟩

theorem below_after {w w2 : World} {o p : Obj} {n : Nat} (h : Below (((w.alloc o).alloc p).drewN n).heap.size (((w.alloc o).alloc p).drewN n) w2) : Below w.heap.size w w2 :=
  (below_drewN (below2 w o p) n).trans (h.mono (by simp; omega))

set_option maxRecDepth 100000 in
set_option maxHeartbeats 1000000 in
theorem readPacket_d (b off : Nat) (l : List UInt8) (c0 c1 h lo : UInt8) (w : World) (hgood : (hb h lo).2 = true) (hsum : (hb h lo).1 = sum8 l) (hl : 2 ≤ l.length) (hl2 : l.length ≤ 200) (hB : BytesAt w b off l) (hbs : b < w.heap.size)
    (hc0 : w.cell? ⟨b, off, none⟩ = some (.int .u8 (c0.toNat : Int))) (hc1 : w.cell? ⟨b, off + 1, none⟩ = some (.int .u8 (c1.toNat : Int))) :
    Calls Tryz.prog 88 #[.slice (some ⟨b, off, none⟩) l.length 200, .int .u8 h.toNat, .int .u8 lo.toNat] w fun e w' => e = .returned (tailPk l c0 c1).val ∧ Below w.heap.size w w' := by
  have HB : Hid (BytesAt w b off l) := hB
  clear hB
  have hne := eq_u8 (sum8 l)
  have HS : Hid ((hb h lo).1 = sum8 l) := hsum
  clear hsum
  go_enter Tryz.func88, Tryz.ntmps88
  go_wp2_with fail
  refine (hexByte_any h lo _).mono ?_
  rintro e w1 ⟨rfl, rfl⟩
  rw [hgood, HS.out]
  go_wp2_with fail
  refine (sum_any b off 200 l _ (by omega) (bytes_alloc (bytes_alloc HB.out hbs _) (by simp; omega) _)).mono ?_
  rintro e w1 ⟨rfl, rfl⟩
  have b1 : (1 : Int) < (l.length : Int) := by omega
  have b0 : (0 : Int) < (l.length : Int) := by omega
  go_wp2_with fail
  go_quiet ((go_at_call 135; exact Calls.quiet_of_same (hexByte_any _ _ _)))
  cases hq : (hb c0 c1).snd
  · have hT : Hid (tailPk l c0 c1 = badPk) := by show _ = _; simp [tailPk, hq]
    go_wp2
    exact bodyPost_ret (v := .agg #[.int .i64 0, .string ⟨#[]⟩, .bool true]) (by simp [results, Tryz.results88, go_sem]) rfl ⟨by rw [hT.out]; rfl, (((below_drewN (below2 _ _ _) _).setCell (Nat.le_refl _) _).setCell (Nat.le_refl _) _).setCell (Nat.le_refl _) _⟩
  · have HQ : Hid ((hb c0 c1).snd = true) := hq
    clear hq
    go_wp2_with fail
    refine (unescape_len b (off + 2) 198 (l.length - 2) (l.drop 2) _ (by simp) (by simp; omega) (bytes_drewN (bytes_alloc (bytes_alloc (bytes_drop HB.out 2) hbs _) (by simp; omega) _) _) (by simp; omega)).mono ?_
    rintro e w2 ⟨rfl, hbel⟩
    have HF : Hid (Below w.heap.size w w2) := below_after hbel
    obtain ⟨d0, d1, d2, f0, f1, f2, g0, g1, g2⟩ := after_cells hbel
    clear hbel
    cases hu : unesc (l.drop 2) with
    | none =>
      have hT : Hid (tailPk l c0 c1 = badPk) := by show _ = _; simp [tailPk, HQ.out, hu]
      have hr : unescRes (l.drop 2) = (.string ⟨#[]⟩, false) := by simp [unescRes, hu]
      rw [hr]
      clear hr hu
      go_wp2
      exact bodyPost_ret (v := .agg #[.int .i64 0, .string ⟨#[]⟩, .bool true]) (by simp [results, Tryz.results88, go_sem, d0, d1, d2]) rfl ⟨by rw [hT.out]; rfl, ((HF.out.setCell (Nat.le_refl _) _).setCell (Nat.le_refl _) _).setCell (Nat.le_refl _) _⟩
    | some out =>
      have hr : unescRes (l.drop 2) = (.string ⟨out.toArray⟩, true) := by simp [unescRes, hu]
      rw [hr]
      clear hr
      by_cases h80 : out.length ≤ 80
      · have hT : Hid (tailPk l c0 c1 = ⟨(hb c0 c1).1.toNat, out, false⟩) := by show _ = _; simp [tailPk, HQ.out, hu, h80]
        have h81 : (out.length : Int) ≤ 80 := by omega
        have hc3 : ((hb c0 c1).1.toNat : Int) < 256 := by have := (hb c0 c1).1.toNat_lt; omega
        clear hu
        go_wp2
        exact bodyPost_ret (v := .agg #[.int .i64 (hb c0 c1).1.toNat, .string ⟨out.toArray⟩, .bool false]) (by simp [results, Tryz.results88, go_sem, d0, d1, d2]) rfl ⟨by rw [hT.out]; rfl, ((HF.out.setCell (Nat.le_refl _) _).setCell (Nat.le_refl _) _).setCell (Nat.le_refl _) _⟩
      · have hT : Hid (tailPk l c0 c1 = badPk) := by show _ = _; simp [tailPk, HQ.out, hu, h80]
        have h81 : (80 : Int) < (out.length : Int) := by omega
        clear hu h80
        go_wp2
        exact bodyPost_ret (v := .agg #[.int .i64 0, .string ⟨#[]⟩, .bool true]) (by simp [results, Tryz.results88, go_sem, d0, d1, d2]) rfl ⟨by rw [hT.out]; rfl, ((HF.out.setCell (Nat.le_refl _) _).setCell (Nat.le_refl _) _).setCell (Nat.le_refl _) _⟩

theorem readPacket_any (b off : Nat) (l : List UInt8) (h lo : UInt8) (w : World) (hl : l.length ≤ 200) (hB : BytesAt w b off l) (hbs : b < w.heap.size) :
    Calls Tryz.prog 88 #[.slice (some ⟨b, off, none⟩) l.length 200, .int .u8 h.toNat, .int .u8 lo.toNat] w fun e w' => e = .returned (readPk l h lo).val ∧ Below w.heap.size w w' := by
  cases h1 : (hb h lo).2 with
  | false => rw [show readPk l h lo = badPk from by simp [readPk, h1]]; exact readPacket_a b off 200 l h lo w h1
  | true =>
    by_cases h2 : (hb h lo).1 = sum8 l
    · by_cases h3 : 2 ≤ l.length
      · rw [show readPk l h lo = tailPk l (l.getD 0 0) (l.getD 1 0) from by unfold readPk; rw [if_pos ⟨h1, h2, h3⟩]]
        have e0 := hB 0 (by omega)
        have e1 := hB 1 (by omega)
        exact readPacket_d b off l _ _ h lo w h1 h2 h3 hl hB hbs (by rw [Nat.add_zero] at e0; rw [e0]; simp [List.getD, List.getElem?_eq_getElem (show 0 < l.length by omega)]) (by rw [e1]; simp [List.getD, List.getElem?_eq_getElem (show 1 < l.length by omega)])
      · rw [show readPk l h lo = badPk from by simp [readPk, h3]]; exact readPacket_c b off 200 l h lo w h1 h2 (by omega) hB hbs
    · rw [show readPk l h lo = badPk from by simp [readPk, h2]]; exact readPacket_b b off 200 l h lo w h1 h2 (by omega) hB hbs

end Go.Proofs.YtcgjliflnnklnaaGreat
