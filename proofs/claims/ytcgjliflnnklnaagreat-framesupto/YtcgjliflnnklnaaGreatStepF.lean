/-
  A step of the script: Frame.
-/
import Derived.Test.YtcgjliflnnklnaaGreatLooks
namespace Go.Proofs.YtcgjliflnnklnaaGreat
open Go.RowKit

def No : Nat → Prop := fun _ => False

theorem nil_str (w : World) : (convert 35 9 (.slice none 0 0)).run Tryz.prog w = .ok (.string ⟨#[]⟩) w :=
  run_convert_bytes_nil (P := Tryz.prog) w 35 5 und_bytes und_u8 0 0 9 und_str

theorem Inv.lessNo {w0 : World} {f : Fix} {X : Nat → Prop} {s t : Nat → Sc} {vb vp : Value} {nb np : Nat} {w : World} (h : Inv w0 f X s t vb vp nb np w) : Inv w0 f No s t vb vp nb np w := h.lessX (fun _ q => q.elim)

/-- An Op's value. -/
def opV (k a b : Int) (S : ByteArray) (n q : Bool) (ch : Value) (rom : Int) : Value := .agg #[.int .i64 k, .int .i64 a, .int .i64 b, .string S, .bool n, .bool q, ch, .int .i64 rom]

set_option maxRecDepth 100000 in
set_option maxHeartbeats 1000000 in
theorem frame_bad (w0 : World) (f : Fix) (s : Nat → Sc) (vb vp : Value) (nb np : Nat) (w : World) (k a b : Int) (S : ByteArray) (n q : Bool) (ca : Option Addr) (cl cc : Nat) (rom : Int) (E : Int)
    (h : Inv w0 f No s s vb vp nb np w) (hnb : nb ≤ 9000000)
    (hf : ∀ w : World, Calls Tryz.prog 38 #[.int .i64 a, .string S] w fun e w' => e = .returned (.tuple #[.slice none 0 0, .int .i64 E]) ∧ w' = w)
    (hr : ∀ w : World, Calls Tryz.prog 68 #[.int .i64 a, .string S] w fun e w' => e = .returned (.tuple #[.slice none 0 0, .int .i64 E]) ∧ w' = w) :
    Calls Tryz.prog 44 #[.pointer (some ⟨f.W, 0, none⟩), .agg #[.int .i64 k, .int .i64 a, .int .i64 b, .string S, .bool n, .bool q, .slice ca cl cc, .int .i64 rom]] w fun e w' => e = .returned (.bool true) ∧ ∃ vb', Inv w0 f No s s vb' vp (nb + 2) np w' := by
  have HF : Hid (∀ w : World, Calls Tryz.prog 38 #[.int .i64 a, .string S] w fun e w' => e = .returned (.tuple #[.slice none 0 0, .int .i64 E]) ∧ w' = w) := hf
  have HR : Hid (∀ w : World, Calls Tryz.prog 68 #[.int .i64 a, .string S] w fun e w' => e = .returned (.tuple #[.slice none 0 0, .int .i64 E]) ∧ w' = w) := hr
  have HI : Hid (Inv w0 f No s s vb vp nb np w) := h
  have hconv := nil_str
  clear h hf hr
  go_enter Tryz.func44, Tryz.ntmps44
  go_wp2_with fail
  refine (HF.out _).mono ?_
  rintro e wx ⟨rfl, hw⟩
  subst wx
  go_wp2_with fail
  refine (HF.out _).mono ?_
  rintro e wx ⟨rfl, hw⟩
  subst wx
  go_wp2_with fail
  refine (HR.out _).mono ?_
  rintro e wx ⟨rfl, hw⟩
  subst wx
  go_wp2_with fail
  refine (byte_any w0 f No s s vb vp nb np 0 (.slice none 0 0) _ (HI.out.below ((Below.refl _ _).alloc (Nat.le_refl _) _)) (fun _ q => q.elim) (.inl ⟨rfl, rfl⟩) (by omega) (by omega)).mono ?_
  rintro e w1 ⟨rfl, vb1, hI1, _⟩
  have HI1 : Hid (Inv w0 f No s s vb1 vp (nb + 1) np w1) := hI1.lessNo
  clear hI1
  go_wp2_with fail
  refine (byte_any w0 f No s s vb1 vp (nb + 1) np 0 (.slice none 0 0) _ HI1.out (fun _ q => q.elim) (.inl ⟨rfl, rfl⟩) (by omega) (by omega)).mono ?_
  rintro e w2 ⟨rfl, vb2, hI2, _⟩
  have HI2 : Hid (Inv w0 f No s s vb2 vp (nb + 2) np w2) := hI2.lessNo
  clear hI2
  go_wp2
  go_ret
  exact ⟨by simp, vb2, HI2.out⟩

theorem row_own {e base g n cap size : Nat} {w : World} {xs : List Value} (h : w.ownsRow base e size (.slice (some ⟨g, 0, none⟩) n cap) n xs) : RowAt w g e size cap ∧ n ≤ cap ∧ base ≤ g := by
  rcases h.2 with ⟨q, _⟩ | ⟨g', c', cur, q, hb, h1, h2, _, h3, _⟩
  · simp at q
  · injection q with q1 q2 q3; injection q1 with q1; injection q1 with q1; subst q1 q3; exact ⟨⟨cur, h1, h3⟩, h2, hb⟩

theorem newBytes_str {w0 w : World} {v : Value} {l : List UInt8} (h : NewBytes w0 w v l) : (convert 35 9 v).run Tryz.prog w = .ok (.string ⟨l.toArray⟩) w := by
  obtain ⟨g, cap, rfl, _, hb, _⟩ := h
  exact run_convert_bytes_back (P := Tryz.prog) w 35 9 5 ⟨g, 0, none⟩ cap l und_bytes und_u8 und_str (fun j hj => by
    have q := hb j hj
    rw [Nat.zero_add] at q
    rw [show (⟨g, 0, none⟩ : Addr).add j = ⟨g, j, none⟩ from by unfold Addr.add; split <;> simp_all]; exact q)

set_option maxRecDepth 100000 in
set_option maxHeartbeats 1000000 in
theorem frame_good (w0 : World) (f : Fix) (s : Nat → Sc) (vb vp : Value) (nb np : Nat) (w : World) (k b : Int) (c : UInt8) (S : ByteArray) (n q : Bool) (ca : Option Addr) (cl cc : Nat) (rom : Int)
    (h : Inv w0 f No s s vb vp nb np w) (hnb : nb ≤ 9000000) (hS : S.size ≤ 80) :
    Calls Tryz.prog 44 #[.pointer (some ⟨f.W, 0, none⟩), .agg #[.int .i64 k, .int .i64 c.toNat, .int .i64 b, .string S, .bool n, .bool q, .slice ca cl cc, .int .i64 rom]] w fun e w' => e = .returned (.bool true) ∧ ∃ vb', Inv w0 f No s s vb' vp (nb + 2) np w' := by
  have HI : Hid (Inv w0 f No s s vb vp nb np w) := h
  clear h
  have hfl : (frameOf c S.data.toList).length ≤ 1000 := by
    have := esc_len S.data.toList
    have h2 : S.data.toList.length = S.size := by simp
    simp [frameOf, hex2]; omega
  go_enter Tryz.func44, Tryz.ntmps44
  go_wp2_with fail
  have HW : Hid (Below w.heap.size w (w.alloc (.cells #[.int .i64 k, .int .i64 c.toNat, .int .i64 b, .string S, .bool n, .bool q, .slice ca cl cc, .int .i64 rom] 29))) := (Below.refl _ _).alloc (Nat.le_refl _) _
  have x1 : (w.alloc (.cells #[.int .i64 k, .int .i64 c.toNat, .int .i64 b, .string S, .bool n, .bool q, .slice ca cl cc, .int .i64 rom] 29)).cell? ⟨w.heap.size, 1, none⟩ = some (.int .i64 c.toNat) := World.cell?_alloc_at _ _ _ _ rfl
  have x3 : (w.alloc (.cells #[.int .i64 k, .int .i64 c.toNat, .int .i64 b, .string S, .bool n, .bool q, .slice ca cl cc, .int .i64 rom] 29)).cell? ⟨w.heap.size, 3, none⟩ = some (.string S) := World.cell?_alloc_at _ _ _ _ rfl
  have hwl : w.heap.size < (w.alloc (.cells #[.int .i64 k, .int .i64 c.toNat, .int .i64 b, .string S, .bool n, .bool q, .slice ca cl cc, .int .i64 rom] 29)).heap.size := by simp
  generalize w.alloc (.cells #[.int .i64 k, .int .i64 c.toNat, .int .i64 b, .string S, .bool n, .bool q, .slice ca cl cc, .int .i64 rom] 29) = w1 at *
  refine (frame_any c S _ hS).mono ?_
  rintro e w2 ⟨va, rfl, hO1⟩
  obtain ⟨ga, cpa, rfl, o1, b1, z1⟩ := hO1
  have y1 := cell_later b1 x1
  have y3 := cell_later b1 x3
  have HO1 : Hid (w2.ownsRow w1.heap.size 5 1 (.slice (some ⟨ga, 0, none⟩) (frameOf c S.data.toList).length cpa) (frameOf c S.data.toList).length (vals (frameOf c S.data.toList)) ∧ Below w1.heap.size w1 w2) := ⟨o1, b1⟩
  clear o1 b1
  go_wp2_with fail
  refine (frame_any c S _ hS).mono ?_
  rintro e w3 ⟨vc, rfl, hO2⟩
  obtain ⟨gc, cpc, rfl, o2, b2, z2⟩ := hO2
  have u1 := cell_later b2 y1
  have u3 := cell_later b2 y3
  have HO2 : Hid (w3.ownsRow w2.heap.size 5 1 (.slice (some ⟨gc, 0, none⟩) (frameOf c S.data.toList).length cpc) (frameOf c S.data.toList).length (vals (frameOf c S.data.toList)) ∧ Below w2.heap.size w2 w3) := ⟨o2, b2⟩
  clear o2 b2
  go_wp2_with fail
  refine (refFrame_any c S _ hS).mono ?_
  rintro e w4 ⟨vr, rfl, hN⟩
  have hcr := newBytes_str hN
  obtain ⟨gr, cpr, rfl, _, _, _, _, b3⟩ := hN
  have HO3 : Hid (w4.ownsRow w1.heap.size 5 1 (.slice (some ⟨ga, 0, none⟩) (frameOf c S.data.toList).length cpa) (frameOf c S.data.toList).length (vals (frameOf c S.data.toList)) ∧ w4.ownsRow w2.heap.size 5 1 (.slice (some ⟨gc, 0, none⟩) (frameOf c S.data.toList).length cpc) (frameOf c S.data.toList).length (vals (frameOf c S.data.toList)) ∧ Below w.heap.size w w4 ∧ w1.heap.size ≤ w2.heap.size ∧ ga < w2.heap.size) :=
    ⟨own_below (own_below HO1.out.1 HO2.out.2) b3, own_below HO2.out.1 b3, HW.out.trans ((HO1.out.2.trans ((HO2.out.2.trans (b3.mono z2)).mono z1)).mono HW.out.size), z1, (HO1.out.1.lt ga rfl).2⟩
  have hca := to_string HO3.out.1
  have hcc := to_string HO3.out.2.1
  clear b3 HO1 HO2 x1 x3 y1 y3 u1 u3
  have HX : Hid (Inv w0 f (fun g => w.heap.size ≤ g ∧ g < w4.heap.size) s s vb vp nb np w4) := (HI.out.fresh HO3.out.2.2.1).lessX (fun g q => .inr q.1)
  have HV : Hid (Out 5 1 w4 (fun g => w.heap.size ≤ g ∧ g < w4.heap.size) (.slice (some ⟨ga, 0, none⟩) (frameOf c S.data.toList).length cpa) (frameOf c S.data.toList).length) := by
    obtain ⟨r1, r2, r3⟩ := row_own HO3.out.1
    exact .inr ⟨ga, cpa, rfl, r2, r1, by omega, r1.lt⟩
  have HV2 : Hid (RowAt w4 gc 5 1 cpc ∧ (frameOf c S.data.toList).length ≤ cpc ∧ w.heap.size ≤ gc ∧ gc < w4.heap.size ∧ gc ≠ ga) := by
    obtain ⟨r1, r2, r3⟩ := row_own HO3.out.2.1
    have := HO3.out.2.2.2
    exact ⟨r1, r2, by omega, r1.lt, by omega⟩
  clear HO3 HI HW
  generalize hfr : frameOf c S.data.toList = fr at *
  clear hfr
  go_wp2_with fail
  refine (byte_any w0 f _ s s vb vp nb np fr.length _ _ HX.out (fun g q => q.2) HV.out (by omega) (by omega)).mono ?_
  rintro e w5 ⟨rfl, vb1, hI1, hk1⟩
  have HV3 : Hid (Inv w0 f (fun g => (w.heap.size ≤ g ∧ g < w4.heap.size) ∧ (Value.slice (some ⟨ga, 0, none⟩) fr.length cpa).ownBlock ≠ some g) s s vb1 vp (nb + 1) np w5 ∧ Out 5 1 w5 (fun g => (w.heap.size ≤ g ∧ g < w4.heap.size) ∧ (Value.slice (some ⟨ga, 0, none⟩) fr.length cpa).ownBlock ≠ some g) (.slice (some ⟨gc, 0, none⟩) fr.length cpc) fr.length ∧ ∀ g, ((w.heap.size ≤ g ∧ g < w4.heap.size) ∧ (Value.slice (some ⟨ga, 0, none⟩) fr.length cpa).ownBlock ≠ some g) → g < w5.heap.size) := by
    have hne : (Value.slice (some ⟨ga, 0, none⟩) fr.length cpa).ownBlock ≠ some gc := by simp [Value.ownBlock]; have := HV2.out.2.2.2.2; omega
    obtain ⟨⟨cur, r1, r2⟩, r3, r4, r5, _⟩ := HV2.out
    refine ⟨hI1, .inr ⟨gc, cpc, rfl, r3, ⟨cur, (hk1 gc ⟨r4, r5⟩ hne).trans r1, r2⟩, ⟨r4, r5⟩, hne⟩, ?_⟩
    intro g hg
    have hs := hk1 g hg.1 hg.2
    rw [Array.getElem?_eq_getElem hg.1.2] at hs
    exact (Array.getElem?_eq_some_iff.1 hs).1
  clear hI1 hk1 HX HV HV2
  go_wp2_with fail
  refine (byte_any w0 f _ s s vb1 vp (nb + 1) np fr.length _ _ HV3.out.1 HV3.out.2.2 HV3.out.2.1 (by omega) (by omega)).mono ?_
  rintro e w6 ⟨rfl, vb2, hI2, _⟩
  have HI2 : Hid (Inv w0 f No s s vb2 vp (nb + 2) np w6) := hI2.lessNo
  clear hI2 HV3
  go_wp2
  go_ret
  exact ⟨by simp, vb2, HI2.out⟩

end Go.Proofs.YtcgjliflnnklnaaGreat
