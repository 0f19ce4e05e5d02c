/-
  The document's answer: body and packet.
-/
import Derived.Test.YtcgjliflnnklnaaGreatRefA
namespace Go.Proofs.YtcgjliflnnklnaaGreat
open Go.RowKit

/-- A slice of bytes that the call itself has made, or nil. -/
structure OwnsN (base : Nat) (w0 w : World) (v : Value) (l : List UInt8) : Prop where
  own : w.ownsRow base 5 1 v l.length (vals l)
  bel : Below base w0 w
  sz : base ≤ w.heap.size

theorem Owns.n {base : Nat} {w0 w : World} {v : Value} {l : List UInt8} (h : Owns base w0 w v l) : OwnsN base w0 w v l := by
  obtain ⟨g, cap, rfl, h1, h2, h3⟩ := h; exact ⟨h1, h2, h3⟩
theorem ownsN_nil (w : World) : OwnsN w.heap.size w w (.slice none 0 0) [] := ⟨World.ownsRow_nil _ _ _ _, Below.refl _ _, Nat.le_refl _⟩
theorem own_cases {w : World} {base n : Nat} {v : Value} {l : List UInt8} (h : w.ownsRow base 5 1 v n (vals l)) (hn : l.length = n) : (l = [] ∧ v = .slice none 0 0) ∨ ∃ g c, v = .slice (some ⟨g, 0, none⟩) l.length c := by
  rcases h.2 with ⟨e, e2⟩ | ⟨g, cap, _, e, _⟩
  · exact .inl ⟨List.eq_nil_of_length_eq_zero (by omega), e⟩
  · exact .inr ⟨g, cap, by rw [hn]; exact e⟩

theorem to_string_n {w : World} {base : Nat} {v : Value} {l : List UInt8} (h : w.ownsRow base 5 1 v l.length (vals l)) :
    (convert 35 9 v).run Tryz.prog w = .ok (.string ⟨l.toArray⟩) w := by
  rcases own_cases h rfl with ⟨rfl, rfl⟩ | ⟨g, c, rfl⟩
  · exact run_convert_bytes_nil (P := Tryz.prog) w 35 5 und_bytes und_u8 0 0 9 und_str
  · exact to_string h

def bodyRes (l : List UInt8) : List UInt8 × Bool := match unesc l with
  | some out => (out, decide (out.length ≤ 80))
  | none => ([], false)

set_option maxRecDepth 100000 in
set_option maxHeartbeats 1000000 in
theorem body_any (s : ByteArray) (w : World) (hs : s.size ≤ 1000) :
    Calls Tryz.prog 160 #[.string s] w fun e w' => e = .returned (.tuple #[.string ⟨(bodyRes s.data.toList).1.toArray⟩, .bool (bodyRes s.data.toList).2]) ∧ Below w.heap.size w w' := by
  obtain ⟨i0, hi, hz0, hz1, hz2⟩ := info_parts inf_u8
  go_enter Tryz.func160, Tryz.ntmps160
  go_wp2
  go_loopw [4, 5] (fun v i wr => ∃ (k : Nat) (out : List UInt8), k ≤ s.size ∧ i = .int .i64 k ∧ Hid (Part s.data.toList k out) ∧ OwnsN w.heap.size w wr v out) (fun _ i _ => s.size - (intOf i).toNat)
  case atStart => exact ⟨0, [], Nat.zero_le _, rfl, part_0 _, ownsN_nil w⟩
  case round =>
    obtain ⟨k, out, hk, rfl, hP, hO⟩ := hrel
    obtain ⟨hown, hbel, hsz⟩ := hO
    have hol : out.length ≤ 1000 := by have := hP.out.2; omega
    by_cases hlt : k < s.size
    · have hlt' : k < s.data.toList.length := by simpa using hlt
      by_cases h125 : s[k] = 125
      · by_cases hk1 : k + 1 < s.size
        · have hP' : Hid (Part s.data.toList (k + 2) (out ++ [s[k + 1] ^^^ 32])) := part_two hP.out (by simpa using hk1) h125
          have t1 : ((s[k].toNat : Int) == 125) = true := by rw [h125]; rfl
          have hx : bits .xor .u8 (s[k + 1].toNat : Int) 32 = ((s[k + 1] ^^^ 32).toNat : Int) := xor32 _
          clear h125 hP
          have tz : ((k : Int) + 1 == (s.size : Int)) = false := by rw [beq_eq_false_iff_ne]; omega
          go_wp2_with (first | (at_builtin; go_must (refine wpList_append_lies _ rfl (.tmp 28) (.tmp 30) 35 rfl w.heap.size 5 i0 (.int .u8 0) 1 1 und_bytes hi hz0 hz1 hz2 rfl (by decide) u4 out.length (vals out) rfl (by exact (hown.alloc _)) ⟨wr.heap.size, 0, none⟩ 1 1 [.int .u8 (s[k + 1] ^^^ 32).toNat] rfl rfl (one_new' _ _ _) (one_one _) (by decide) (by unfold maxLen; omega) (by omega) (by simp; omega) _ rfl ?_; intro g' cap' w1 hown' hgrow hat hlt')))
          have HO := (owns_more (m := [s[k + 1] ^^^ 32]) hown hbel hsz hown' hgrow).n
          clear hown hbel hsz hown' hgrow hat hlt'
          go_roundw
          case rel => exact ⟨k + 2, out ++ [s[k + 1] ^^^ 32], by omega, by go_num, hP', HO⟩
          case measure => simp [intOf]; omega
        · have hn : Hid (unesc s.data.toList = none) := part_none hP.out hlt' (by simp; omega) h125
          have t1 : ((s[k].toNat : Int) == 125) = true := by rw [h125]; rfl
          have tz : ((k : Int) + 1 == (s.size : Int)) = true := by rw [beq_iff_eq]; omega
          clear h125 hP
          go_wp2
          go_ret2
          refine ⟨by simp only [bodyRes, hn.out]; rfl, hbel⟩
      · have hP' : Hid (Part s.data.toList (k + 1) (out ++ [s[k]])) := part_plain hP.out hlt' h125
        have t1 : ((s[k].toNat : Int) == 125) = false := c_ne (n := 125) h125
        clear h125 hP
        go_wp2_with (first | (at_builtin; go_must (refine wpList_append_lies _ rfl (.tmp 28) (.tmp 30) 35 rfl w.heap.size 5 i0 (.int .u8 0) 1 1 und_bytes hi hz0 hz1 hz2 rfl (by decide) u4 out.length (vals out) rfl (by exact (hown.alloc _)) ⟨wr.heap.size, 0, none⟩ 1 1 [.int .u8 s[k].toNat] rfl rfl (one_new' _ _ _) (one_one _) (by decide) (by unfold maxLen; omega) (by omega) (by simp; omega) _ rfl ?_; intro g' cap' w1 hown' hgrow hat hlt')))
        have HO := (owns_more (m := [s[k]]) hown hbel hsz hown' hgrow).n
        clear hown hbel hsz hown' hgrow hat hlt'
        go_roundw
        case rel => exact ⟨k + 1, out ++ [s[k]], by omega, by go_num, hP', HO⟩
        case measure => simp [intOf]; omega
    · have hn : Hid (unesc s.data.toList = some out) := part_end hP.out (by simp; omega)
      have hconv := to_string_n hown
      have hd : Hid (decide (out.length ≤ 80) = decide ((out.length : Int) ≤ 80)) := by show _ = _; rw [decide_eq_decide]; omega
      rcases own_cases hown rfl with ⟨rfl, rfl⟩ | ⟨g, c, rfl⟩
      · clear hP hown
        go_wp2
        go_ret2
        refine ⟨by simp only [bodyRes, hn.out]; rfl, hbel⟩
      · clear hP hown
        go_wp2
        go_ret2
        refine ⟨by simp only [bodyRes, hn.out]; rw [hd.out]; rfl, hbel⟩

theorem pk_ext0 (raw : List UInt8) (x y z : UInt8) : (⟨(raw ++ [x, y, z]).toArray⟩ : ByteArray).extract 0 raw.length = ⟨raw.toArray⟩ := by
  rw [ba_extract]; simp
theorem pk_ext1 (raw : List UInt8) (x y z : UInt8) : (⟨(raw ++ [x, y, z]).toArray⟩ : ByteArray).extract (raw.length + 1) (raw.length + 3) = ⟨#[y, z]⟩ := by
  rw [ba_extract, List.drop_append, List.drop_of_length_le (by omega)]; simp
theorem pk_size (raw : List UInt8) (x y z : UInt8) : (⟨(raw ++ [x, y, z]).toArray⟩ : ByteArray).size = raw.length + 3 := by rw [ba_size]; simp

theorem hexOf_eq (c d x : UInt8) : hexOf c d = (x.toNat : Int) ↔ (hb c d).2 = true ∧ (hb c d).1 = x := by
  unfold hexOf
  constructor
  · intro h
    by_cases e : (hb c d).2 = true
    · rw [if_pos e] at h; exact ⟨e, UInt8.toNat_inj.1 (by omega)⟩
    · rw [if_neg e] at h; omega
  · rintro ⟨e, rfl⟩; rw [if_pos e]

theorem below2' (w : World) (o p : Obj) : Below w.heap.size w ((w.alloc o).alloc p) := below2 w o p

theorem after_cells2 {w w2 : World} {a0 a1 a2 b0 b1 b2 : Value} {t t' : TypeId}
    (h : Below ((w.alloc (.cells #[a0, a1, a2] t)).alloc (.cells #[b0, b1, b2] t')).heap.size ((w.alloc (.cells #[a0, a1, a2] t)).alloc (.cells #[b0, b1, b2] t')) w2) :
    w2.cell? ⟨w.heap.size, 0, none⟩ = some a0 ∧ w2.cell? ⟨w.heap.size, 1, none⟩ = some a1 ∧ w2.cell? ⟨w.heap.size, 2, none⟩ = some a2 ∧
    w2.frozen? ⟨w.heap.size, 0, none⟩ = false ∧ w2.frozen? ⟨w.heap.size, 1, none⟩ = false ∧ w2.frozen? ⟨w.heap.size, 2, none⟩ = false ∧
    w2.cell? ⟨w.heap.size + 1, 0, none⟩ = some b0 ∧ w2.cell? ⟨w.heap.size + 1, 1, none⟩ = some b1 ∧ w2.cell? ⟨w.heap.size + 1, 2, none⟩ = some b2 :=
  after_cells (n := 0) h

set_option maxRecDepth 100000 in
set_option maxHeartbeats 1000000 in
theorem packet_a (raw : List UInt8) (x h lo : UInt8) (w : World) (hl : raw.length < 2) :
    Calls Tryz.prog 100 #[.string ⟨(raw ++ [x, h, lo]).toArray⟩] w fun e w' => e = .returned badPk.val ∧ Below w.heap.size w w' := by
  have hsz := pk_size raw x h lo
  have hx0 := pk_ext0 raw x h lo
  have hx1 := pk_ext1 raw x h lo
  have hl' : (raw.length : Int) < 2 := by omega
  generalize (⟨(raw ++ [x, h, lo]).toArray⟩ : ByteArray) = s at *
  go_enter Tryz.func100, Tryz.ntmps100
  go_wp2_with fail
  refine (hex_any h lo _).mono ?_
  rintro e w1 ⟨rfl, rfl⟩
  go_wp2
  exact bodyPost_ret (v := .agg #[.int .i64 0, .string ⟨#[]⟩, .bool true]) (by simp [results, Tryz.results100, go_sem]) rfl ⟨rfl, below2 _ _ _⟩

set_option maxRecDepth 100000 in
set_option maxHeartbeats 1000000 in
theorem packet_b (raw : List UInt8) (x h lo : UInt8) (w : World) (hl : 2 ≤ raw.length) (hl2 : raw.length ≤ 1000) (hne : (hexOf h lo != ((sum8 raw).toNat : Int)) = true) :
    Calls Tryz.prog 100 #[.string ⟨(raw ++ [x, h, lo]).toArray⟩] w fun e w' => e = .returned badPk.val ∧ Below w.heap.size w w' := by
  have hsz := pk_size raw x h lo
  have hx0 := pk_ext0 raw x h lo
  have hx1 := pk_ext1 raw x h lo
  have hl' : (2 : Int) ≤ (raw.length : Int) := by omega
  generalize (⟨(raw ++ [x, h, lo]).toArray⟩ : ByteArray) = s at *
  go_enter Tryz.func100, Tryz.ntmps100
  go_wp2_with fail
  refine (hex_any h lo _).mono ?_
  rintro e w1 ⟨rfl, rfl⟩
  go_wp2_with fail
  refine (rsum_any ⟨raw.toArray⟩ _ (by rw [ba_size]; omega)).mono ?_
  rintro e w1 ⟨rfl, rfl⟩
  go_wp2
  exact bodyPost_ret (v := .agg #[.int .i64 0, .string ⟨#[]⟩, .bool true]) (by simp [results, Tryz.results100, go_sem]) rfl ⟨rfl, below2 _ _ _⟩

theorem tail_body (c0 c1 : UInt8) (r : List UInt8) (h : (hb c0 c1).2 = true) : tailPk (c0 :: c1 :: r) c0 c1 = if (bodyRes r).2 = true then ⟨(hb c0 c1).1.toNat, (bodyRes r).1, false⟩ else badPk := by
  unfold tailPk bodyRes
  rw [if_pos h]
  show (match unesc r with | some out => if out.length ≤ 80 then (⟨(hb c0 c1).1.toNat, out, false⟩ : Pk) else badPk | none => badPk) = _
  cases unesc r with
  | none => simp
  | some out => by_cases h80 : out.length ≤ 80 <;> simp [h80]

set_option maxRecDepth 100000 in
set_option maxHeartbeats 1000000 in
theorem packet_c (c0 c1 : UInt8) (r : List UInt8) (x h lo : UInt8) (w : World) (hl2 : r.length ≤ 900) (hne : (hexOf h lo != ((sum8 (c0 :: c1 :: r)).toNat : Int)) = false) :
    Calls Tryz.prog 100 #[.string ⟨((c0 :: c1 :: r) ++ [x, h, lo]).toArray⟩] w fun e w' => e = .returned (tailPk (c0 :: c1 :: r) c0 c1).val ∧ Below w.heap.size w w' := by
  have hsz := pk_size (c0 :: c1 :: r) x h lo
  have hx0 := pk_ext0 (c0 :: c1 :: r) x h lo
  have hx1 := pk_ext1 (c0 :: c1 :: r) x h lo
  have hrs := ba_size (c0 :: c1 :: r)
  have hr0 : (⟨(c0 :: c1 :: r).toArray⟩ : ByteArray).extract 0 2 = ⟨#[c0, c1]⟩ := by rw [ba_extract]; rfl
  have hr1 : (⟨(c0 :: c1 :: r).toArray⟩ : ByteArray).extract 2 (r.length + 2) = ⟨r.toArray⟩ := by rw [ba_extract]; simp
  have hdl : (⟨(c0 :: c1 :: r).toArray⟩ : ByteArray).data.toList = c0 :: c1 :: r := by simp
  have hrl : (c0 :: c1 :: r).length = r.length + 2 := rfl
  have HB : Hid ((⟨(c0 :: c1 :: r).toArray⟩ : ByteArray).data.toList = c0 :: c1 :: r) := hdl
  clear hdl
  generalize (⟨((c0 :: c1 :: r) ++ [x, h, lo]).toArray⟩ : ByteArray) = s at *
  generalize (⟨(c0 :: c1 :: r).toArray⟩ : ByteArray) = rb at *
  rw [hrl] at *
  go_enter Tryz.func100, Tryz.ntmps100
  go_wp2_with fail
  refine (hex_any h lo _).mono ?_
  rintro e w1 ⟨rfl, rfl⟩
  go_wp2_with fail
  refine (rsum_any rb _ (by omega)).mono ?_
  rintro e w1 ⟨rfl, rfl⟩
  rw [HB.out]
  go_wp2_with fail
  refine (hex_any c0 c1 _).mono ?_
  rintro e w1 ⟨rfl, rfl⟩
  go_wp2_with fail
  refine (body_any ⟨r.toArray⟩ _ (by rw [ba_size]; omega)).mono ?_
  rintro e w2 ⟨rfl, hbel⟩
  have HF : Hid (Below w.heap.size w w2) := (below2 _ _ _).trans (hbel.mono (by simp; omega))
  obtain ⟨d0, d1, d2, f0, f1, f2, g0, g1, g2⟩ := after_cells2 hbel
  clear hbel HB
  rw [show (⟨r.toArray⟩ : ByteArray).data.toList = r from by simp]
  cases hq : (hb c0 c1).2 with
  | false =>
    have hx : hexOf c0 c1 = -1 := by simp [hexOf, hq]
    have hT : Hid (tailPk (c0 :: c1 :: r) c0 c1 = badPk) := by show _ = _; simp [tailPk, hq]
    rw [hx]
    clear hx hq
    generalize (bodyRes r).1 = bl at *
    generalize (bodyRes r).2 = bo at *
    go_wp2
    exact bodyPost_ret (v := .agg #[.int .i64 0, .string ⟨#[]⟩, .bool true]) (by simp [results, Tryz.results100, go_sem, d0, d1, d2]) rfl ⟨by rw [hT.out]; rfl, ((HF.out.setCell (Nat.le_refl _) _).setCell (Nat.le_refl _) _).setCell (Nat.le_refl _) _⟩
  | true =>
    have hx : hexOf c0 c1 = ((hb c0 c1).1.toNat : Int) := by simp [hexOf, hq]
    have hT := tail_body c0 c1 r hq
    rw [hx]
    clear hx hq
    generalize (hb c0 c1).1 = sq at *
    have hsq : (0 : Int) ≤ (sq.toNat : Int) := by omega
    generalize (bodyRes r).1 = bl at *
    cases hbo : (bodyRes r).2 with
    | false =>
      have HT : Hid (tailPk (c0 :: c1 :: r) c0 c1 = badPk) := by show _ = _; rw [hT, hbo]; rfl
      clear hT hbo
      go_wp2
      exact bodyPost_ret (v := .agg #[.int .i64 0, .string ⟨#[]⟩, .bool true]) (by simp [results, Tryz.results100, go_sem, d0, d1, d2]) rfl ⟨by rw [HT.out]; rfl, ((HF.out.setCell (Nat.le_refl _) _).setCell (Nat.le_refl _) _).setCell (Nat.le_refl _) _⟩
    | true =>
      have HT : Hid (tailPk (c0 :: c1 :: r) c0 c1 = ⟨sq.toNat, bl, false⟩) := by show _ = _; rw [hT, hbo]; rfl
      clear hT hbo
      go_wp2
      exact bodyPost_ret (v := .agg #[.int .i64 sq.toNat, .string ⟨bl.toArray⟩, .bool false]) (by simp [results, Tryz.results100, go_sem, d0, d1, d2]) rfl ⟨by rw [HT.out]; rfl, ((HF.out.setCell (Nat.le_refl _) _).setCell (Nat.le_refl _) _).setCell (Nat.le_refl _) _⟩

theorem packet_any (raw : List UInt8) (x h lo : UInt8) (w : World) (hl : raw.length ≤ 200) :
    Calls Tryz.prog 100 #[.string ⟨(raw ++ [x, h, lo]).toArray⟩] w fun e w' => e = .returned (readPk raw h lo).val ∧ Below w.heap.size w w' := by
  by_cases h2 : 2 ≤ raw.length
  · by_cases he : hexOf h lo = ((sum8 raw).toNat : Int)
    · match raw, h2 with
      | c0 :: c1 :: r, _ =>
        simp only [List.length_cons] at hl
        have hq := (hexOf_eq _ _ _).1 he
        rw [show readPk (c0 :: c1 :: r) h lo = tailPk (c0 :: c1 :: r) c0 c1 from by unfold readPk; rw [if_pos ⟨hq.1, hq.2, by simp⟩]; rfl]
        exact packet_c c0 c1 r x h lo w (by omega) (by rw [he]; simp)
    · rw [show readPk raw h lo = badPk from by unfold readPk; rw [if_neg]; rintro ⟨a, b, _⟩; exact he ((hexOf_eq _ _ _).2 ⟨a, b⟩)]
      exact packet_b raw x h lo w h2 (by omega) (by rw [bne_iff_ne]; exact he)
  · rw [show readPk raw h lo = badPk from by unfold readPk; rw [if_neg]; rintro ⟨_, _, c⟩; exact h2 c]
    exact packet_a raw x h lo w (by omega)

end Go.Proofs.YtcgjliflnnklnaaGreat
