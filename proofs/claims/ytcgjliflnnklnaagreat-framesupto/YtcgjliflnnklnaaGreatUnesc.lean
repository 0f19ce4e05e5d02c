/-
  unescape.
-/
import Derived.Test.YtcgjliflnnklnaaGreatFrame
namespace Go.Proofs.YtcgjliflnnklnaaGreat
open Go.RowKit

def unesc : List UInt8 → Option (List UInt8)
  | [] => some []
  | [c] => if c = 125 then none else some [c]
  | c :: d :: r => if c = 125 then (unesc r).map ((d ^^^ 32) :: ·) else (unesc (d :: r)).map (c :: ·)

theorem unesc_plain (c : UInt8) (r : List UInt8) (h : c ≠ 125) : unesc (c :: r) = (unesc r).map (c :: ·) := by
  cases r with
  | nil => simp [unesc, h]
  | cons d r => simp [unesc, h]

theorem unesc_two (d : UInt8) (r : List UInt8) : unesc (125 :: d :: r) = (unesc r).map ((d ^^^ 32) :: ·) := by simp [unesc]

/-- What stands when k bytes of l are done: out has come. -/
def Part (l : List UInt8) (k : Nat) (out : List UInt8) : Prop := unesc l = (unesc (l.drop k)).map (out ++ ·) ∧ out.length ≤ k

theorem part_0 (l : List UInt8) : Part l 0 [] := ⟨by rw [List.drop_zero]; cases unesc l <;> simp, by simp⟩
theorem part_plain {l : List UInt8} {k : Nat} {out : List UInt8} (h : Part l k out) (hk : k < l.length) (hc : l[k] ≠ 125) : Part l (k + 1) (out ++ [l[k]]) := by
  refine ⟨?_, by have := h.2; simp; omega⟩
  rw [h.1, List.drop_eq_getElem_cons hk, unesc_plain _ _ hc]
  cases unesc (l.drop (k + 1)) <;> simp
theorem part_two {l : List UInt8} {k : Nat} {out : List UInt8} (h : Part l k out) (hk : k + 1 < l.length) (hc : l[k] = 125) : Part l (k + 2) (out ++ [l[k + 1] ^^^ 32]) := by
  refine ⟨?_, by have := h.2; simp; omega⟩
  rw [h.1, List.drop_eq_getElem_cons (show k < l.length by omega), hc, List.drop_eq_getElem_cons hk, unesc_two]
  cases unesc (l.drop (k + 1 + 1)) <;> simp
theorem part_none {l : List UInt8} {k : Nat} {out : List UInt8} (h : Part l k out) (hk : k < l.length) (hk' : k + 1 = l.length) (hc : l[k] = 125) : unesc l = none := by
  rw [h.1, List.drop_eq_getElem_cons hk, hc, List.drop_of_length_le (by omega)]; rfl
theorem part_end {l : List UInt8} {k : Nat} {out : List UInt8} (h : Part l k out) (hk : k = l.length) : unesc l = some out := by
  rw [h.1, List.drop_of_length_le (by omega)]; simp [unesc]

def unescRes (l : List UInt8) : Value × Bool := match unesc l with
  | some out => (.string ⟨out.toArray⟩, true)
  | none => (.string ⟨#[]⟩, false)

theorem und_u8 : Tryz.prog.underlying 5 = some (.int .u8) := by kernel_rfl
theorem und_str : Tryz.prog.underlying 9 = some .string := by kernel_rfl

theorem to_string {w : World} {base g cap : Nat} {l : List UInt8} (h : w.ownsRow base 5 1 (.slice (some ⟨g, 0, none⟩) l.length cap) l.length (vals l)) :
    (convert 35 9 (.slice (some ⟨g, 0, none⟩) l.length cap)).run Tryz.prog w = .ok (.string ⟨l.toArray⟩) w := by
  have := run_convert_bytes_back (P := Tryz.prog) w 35 9 5 ⟨g, 0, none⟩ cap l und_bytes und_u8 und_str
    (fun j hj => by
      have hb := owns_bytes h j hj
      rw [Nat.zero_add] at hb
      rw [show (⟨g, 0, none⟩ : Addr).add j = ⟨g, j, none⟩ from by unfold Addr.add; split <;> simp_all]; exact hb)
  exact this

set_option maxRecDepth 100000 in
set_option maxHeartbeats 1000000 in
theorem unescape_any (b off cap : Nat) (l : List UInt8) (w : World) (hl : l.length ≤ 1000) (h : BytesAt w b off l) (hb : b < w.heap.size) :
    Calls Tryz.prog 136 #[.slice (some ⟨b, off, none⟩) l.length cap] w fun e w' => e = .returned (.tuple #[(unescRes l).1, .bool (unescRes l).2]) ∧ Below w.heap.size w w' := by
  obtain ⟨i0, hi, hz0, hz1, hz2⟩ := info_parts inf_u8
  have HB : Hid (BytesAt w b off l) := h
  clear h
  have hm : i0.bytes * l.length ≤ 281474976710656 := by rw [hz2]; omega
  go_enter Tryz.func136, Tryz.ntmps136
  go_wp2_with (first | (at_make; go_must (refine wpList_make_own _ rfl _ _ 35 rfl w.heap.size 5 i0 (.int .u8 0) 1 und_bytes hi hz0 hz1 .i64 .i64 _ l.length rfl rfl rfl hm (by unfold maxLen; omega) (Nat.le_refl _) ?_; intro w1 hown1 hgrow1)))
  have HO : Hid (Owns w.heap.size w w1 (.slice (some ⟨w.heap.size, 0, none⟩) 0 l.length) []) := ⟨w.heap.size, l.length, rfl, hown1, (Below.refl _ _).grown hgrow1 (Nat.le_refl _) (by simp), hgrow1.size⟩
  clear hown1 hgrow1 hm
  go_loopw [4, 5] (fun v i wr => ∃ (k : Nat) (out : List UInt8), k ≤ l.length ∧ i = .int .i64 k ∧ Hid (Part l k out) ∧ Owns w.heap.size w wr v out) (fun _ i _ => l.length - (intOf i).toNat)
  case atStart => exact ⟨0, [], Nat.zero_le _, rfl, part_0 l, HO.out⟩
  case round =>
    obtain ⟨k, out, hk, rfl, hP, hO⟩ := hrel
    clear HO
    obtain ⟨g1, cap1, rfl, hown, hbel, hsz⟩ := hO
    have hol : out.length ≤ 1000 := by have := hP.out.2; omega
    by_cases hlt : k < l.length
    · have hc0 : wr.cell? ⟨b, off + k, none⟩ = some (.int .u8 (l[k].toNat : Int)) := (hbel.cell (by exact hb)).trans (HB.out k hlt)
      by_cases h125 : l[k] = 125
      · by_cases hk1 : k + 1 < l.length
        · have hc1 : wr.cell? ⟨b, off + (k + 1), none⟩ = some (.int .u8 (l[k + 1].toNat : Int)) := (hbel.cell (by exact hb)).trans (HB.out (k + 1) hk1)
          have hP' : Hid (Part l (k + 2) (out ++ [l[k + 1] ^^^ 32])) := part_two hP.out hk1 h125
          have t1 : ((l[k].toNat : Int) == 125) = true := by rw [h125]; rfl
          have hx : bits .xor .u8 (l[k + 1].toNat : Int) 32 = ((l[k + 1] ^^^ 32).toNat : Int) := xor32 _
          clear h125 hP
          have tz : ((k : Int) + 1 == (l.length : Int)) = false := by rw [beq_eq_false_iff_ne]; omega
          go_wp2_with (first | (at_builtin; go_must (refine wpList_append_lies _ rfl (.tmp 33) (.tmp 35) 35 rfl w.heap.size 5 i0 (.int .u8 0) 1 1 und_bytes hi hz0 hz1 hz2 rfl (by decide) (.slice (some ⟨g1, 0, none⟩) out.length cap1) out.length (vals out) rfl (by exact (hown.alloc _)) ⟨wr.heap.size, 0, none⟩ 1 1 [.int .u8 (l[k + 1] ^^^ 32).toNat] rfl rfl (one_new' _ _ _) (one_one _) (by decide) (by unfold maxLen; omega) (by omega) (by simp; omega) _ rfl ?_; intro g' cap' w1 hown' hgrow hat hlt')))
          have HO := owns_more (m := [l[k + 1] ^^^ 32]) hown hbel hsz hown' hgrow
          clear hown hbel hsz hown' hgrow hat hlt'
          go_roundw
          case rel => exact ⟨k + 2, out ++ [l[k + 1] ^^^ 32], by omega, by go_num, hP', HO⟩
          case measure => simp [intOf]; omega
        · have hn : Hid (unesc l = none) := part_none hP.out hlt (by omega) h125
          have t1 : ((l[k].toNat : Int) == 125) = true := by rw [h125]; rfl
          have tz : ((k : Int) + 1 == (l.length : Int)) = true := by rw [beq_iff_eq]; omega
          clear h125 hP
          go_wp2
          go_ret2
          refine ⟨by simp only [unescRes, hn.out]; rfl, hbel⟩
      · have hP' : Hid (Part l (k + 1) (out ++ [l[k]])) := part_plain hP.out hlt h125
        have t1 : ((l[k].toNat : Int) == 125) = false := c_ne (n := 125) h125
        clear h125 hP
        go_wp2_with (first | (at_builtin; go_must (refine wpList_append_lies _ rfl (.tmp 33) (.tmp 35) 35 rfl w.heap.size 5 i0 (.int .u8 0) 1 1 und_bytes hi hz0 hz1 hz2 rfl (by decide) (.slice (some ⟨g1, 0, none⟩) out.length cap1) out.length (vals out) rfl (by exact (hown.alloc _)) ⟨wr.heap.size, 0, none⟩ 1 1 [.int .u8 l[k].toNat] rfl rfl (one_new' _ _ _) (one_one _) (by decide) (by unfold maxLen; omega) (by omega) (by simp; omega) _ rfl ?_; intro g' cap' w1 hown' hgrow hat hlt')))
        have HO := owns_more (m := [l[k]]) hown hbel hsz hown' hgrow
        clear hown hbel hsz hown' hgrow hat hlt'
        go_roundw
        case rel => exact ⟨k + 1, out ++ [l[k]], by omega, by go_num, hP', HO⟩
        case measure => simp [intOf]; omega
    · have hn : Hid (unesc l = some out) := part_end hP.out (by omega)
      have hconv := to_string hown
      clear hP hown
      go_wp2
      go_ret2
      refine ⟨by simp only [unescRes, hn.out]; rfl, hbel⟩

end Go.Proofs.YtcgjliflnnklnaaGreat
