/-
  Joined texts.
-/
import Derived.Test.YtcgjliflnnklnaaGreatCpNw
import Derived.Test.YtcgjliflnnklnaaGreatGK
import Derived.Test.YtcgjliflnnklnaaGreatGX
namespace Go.Proofs.YtcgjliflnnklnaaGreat
open Go.RowKit

/-
  Two computers of one configuration are alike to the last cell; config's contract.
-/
section
theorem CAt.bare {w : World} {B : Nat} {s : PC} (h : CAt w B s) (R : Nat → Option Value) (e : ∀ o, 65562 ≤ o → s.rest o = R o) : CAt w B { s with rest := R } :=
  { h with crest := fun o ho => (h.crest o ho).trans (e o ho) }

theorem zero_mach2 : ∃ (z : Array Value), (∀ w : World, Sem.run Tryz.prog (zeroValue 105) w = .ok (.agg z) w) ∧ z.size = 65562 ∧ ∀ (w : World) (t : TypeId), CAt (w.alloc (.cells z t)) w.heap.size (zeroPC fun _ => none) := by
  obtain ⟨R, z, h1, h2, h3⟩ := zero_mach
  refine ⟨z, h1, h2, fun w t => (h3 w t).bare _ fun o ho => ?_⟩
  have q := (h3 w t).crest o ho
  rw [World.cell?_alloc_at _ _ _ _ rfl] at q
  rw [← q]
  simp [h2, ho]

set_option maxRecDepth 100000 in
set_option maxHeartbeats 1000000 in
theorem new_bare (N : Nat) (v : Value) (cs : List Chn) (rom : Int) (w : World) (hN : N ≤ w.heap.size) (hc : CfAt N w v cs) (hv : validI rom cs = true)
    (hl : cs.length ≤ 140737488355328) (hb : ∀ c ∈ cs, c.bs.length ≤ 140737488355328) :
    Calls Tryz.prog 22 #[.agg #[v, .int .i64 rom]] w fun e w' => ∃ B, w.heap.size ≤ B ∧ e = .returned (.tuple #[.pointer (some ⟨B, 0, none⟩), .int .i64 0]) ∧
      CAt w' B (.fresh rom cs fun _ => none) ∧ Below w.heap.size w w' := by
  obtain ⟨zz, hz, hzs, HZ⟩ := zero_mach2
  have hne : zz ≠ #[] := by intro e; rw [e] at hzs; cases hzs
  have S : ∀ (o : Obj) (t : TypeId), Calls Tryz.prog 34 #[.pointer (some ⟨w.heap.size + 1, 0, none⟩), .agg #[v, .int .i64 rom]] ((w.alloc o).alloc (.cells zz t)).drew fun e w' => e = .returned (.int .i64 0) ∧ Tn (w.heap.size + 1) (.fresh rom cs fun _ => none) ((w.alloc o).alloc (.cells zz t)) w' := by
    intro o t
    have q := start_ok (Tn.refl (HZ (w.alloc o) t)).drew N (by simp; omega) v cs rom ((hc.below (((Below.refl _ _).alloc (Nat.le_refl _) o).alloc (by simp) _)).below (bl_drew (Below.refl _ _))) hv hl hb
    rwa [show (w.alloc o).heap.size = w.heap.size + 1 from by simp] at q
  have HH : Hid (∀ (w : World) (t : TypeId), CAt (w.alloc (.cells zz t)) w.heap.size (zeroPC fun _ => none)) := HZ
  obtain ⟨p, cap, rfl, -⟩ := hc
  clear HZ
  go_enter Tryz.func22, Tryz.ntmps22
  go_wp2_with fail
  go_region_with (first | (go_at_call 34; refine (S _ _).mono ?_; rintro e w2 ⟨rfl, T2⟩; have HT : Hid (CAt w2 (w.heap.size + 1) (.fresh rom cs fun _ => none) ∧ Below w.heap.size w w2) := ⟨T2.c, below_grown (((Below.refl _ _).alloc (Nat.le_refl _) _).alloc (by simp) _) T2.g (by omega) (by simp; omega)⟩; clear T2 S))
  all_goals go_wp2
  all_goals go_ret2
  all_goals exact ⟨w.heap.size + 1, by omega, rfl, HT.out.1, HT.out.2⟩

/-- Traced's configuration. -/
def trCs (bs : List UInt8) (v1 v2 : Value) : List Chn := [⟨1024, v1, bs⟩, ⟨65530, v2, [128, 4, 0, 4, 192, 4]⟩]
def trPC (bs : List UInt8) : PC := .fresh 250 (trCs bs (.slice none 0 0) (.slice none 0 0)) fun _ => none
theorem trPC_eq (bs : List UInt8) (v1 v2 : Value) : PC.fresh 250 (trCs bs v1 v2) (fun _ => none) = trPC bs := rfl
theorem trPC_tr (bs : List UInt8) : TrI (trPC bs) 0 ∧ (trPC bs).rom = 64000 := ⟨.idle rfl rfl (by decide), rfl⟩
theorem tr_valid (bs : List UInt8) (h : bs.length ≤ 200) (v1 v2 : Value) : validI 250 (trCs bs v1 v2) = true := by
  unfold validI trCs total okChn
  simp
  omega

theorem ChV.take {N : Nat} {w : World} {p : Option Addr} {cap : Nat} {bs : List UInt8} (h : ChV N w (.slice p bs.length cap) bs) (hl : 200 ≤ bs.length) (cap' : Nat) : ChV N w (.slice p 200 cap') (bs.take 200) := by
  obtain ⟨p', c', e, H⟩ := h
  injection e with e1 e2 e3
  subst e1
  refine ⟨p, cap', by rw [List.length_take, Nat.min_eq_left hl], fun _ => ?_⟩
  obtain ⟨b, off, e4, hb, hB⟩ := H (by intro e; rw [e] at hl; exact absurd hl (by decide))
  refine ⟨b, off, e4, hb, fun i hi => ?_⟩
  rw [List.length_take] at hi
  rw [List.getElem_take]
  exact hB i (by omega)
end

/-
  config's contract.
-/
section
/-- Traced's configuration, as it lies when it is built. -/
theorem tr_cf (w : World) (v1 : Value) (bs : List UInt8) (hv : ChV w.heap.size w v1 bs) (o : Obj) (t : TypeId) :
    CfAt (w.heap.size + 3) (((w.alloc o).alloc (.cells #[.int .u8 128, .int .u8 4, .int .u8 0, .int .u8 4, .int .u8 192, .int .u8 4] 5)).alloc (.cells #[.int .i64 1024, v1, .int .i64 65530, .slice (some ⟨w.heap.size + 1, 0, none⟩) 6 6] t)) (.slice (some ⟨w.heap.size + 1 + 1, 0, none⟩) 2 2) (trCs bs v1 (.slice (some ⟨w.heap.size + 1, 0, none⟩) 6 6)) := by
  have hb3 : ∀ o1 o2 o3, Below w.heap.size w (((w.alloc o1).alloc o2).alloc o3) := fun o1 o2 o3 => (((Below.refl _ _).alloc (Nat.le_refl _) _).alloc (by simp) _).alloc (by simp; omega) _
  refine ⟨_, _, rfl, fun _ => ⟨w.heap.size + 1 + 1, 0, rfl, by omega, fun i hi => ?_⟩⟩
  have hc : ∀ (o1 o2 : Obj) (cs : Array Value) (t : TypeId) j, (((w.alloc o1).alloc o2).alloc (.cells cs t)).cell? ⟨w.heap.size + 1 + 1, j, none⟩ = cs[j]? := fun o1 o2 cs t j => by
    have hs : ((w.alloc o1).alloc o2).heap.size = w.heap.size + 1 + 1 := by simp
    rw [← hs]; exact World.cell?_alloc_at _ _ _ _ rfl
  have hi2 : i < 2 := hi
  rcases (show i = 0 ∨ i = 1 from by omega) with rfl | rfl
  · exact ⟨hc _ _ _ _ _, hc _ _ _ _ _, (hv.below (hb3 _ _ _)).mono (by omega)⟩
  · refine ⟨hc _ _ _ _ _, hc _ _ _ _ _, ⟨_, _, rfl, fun _ => ⟨w.heap.size + 1, 0, rfl, by omega, ?_⟩⟩⟩
    have q := bytes_lit (w.alloc o) [128, 4, 0, 4, 192, 4] 5
    rw [World.size_alloc] at q
    exact bytes_alloc q (by simp) _

set_option maxRecDepth 100000 in
set_option maxHeartbeats 1000000 in
theorem config_any (w : World) (p : Option Addr) (cap : Nat) (bs : List UInt8) (hV : ChV w.heap.size w (.slice p bs.length cap) bs) (hcap : bs.length ≤ cap) (hc2 : cap ≤ 140737488355328) :
    Calls Tryz.prog 25 #[.slice p bs.length cap] w fun e w' => ∃ b v1 v2, e = .returned (.agg #[.slice (some ⟨b, 0, none⟩) 2 2, .int .i64 250]) ∧ CfAt w'.heap.size w' (.slice (some ⟨b, 0, none⟩) 2 2) (trCs (bs.take 200) v1 v2) ∧ Below w.heap.size w w' := by
  by_cases h : 200 < bs.length
  · obtain ⟨p', c', e, H⟩ := id hV
    injection e with e1 e2 e3
    subst e1
    obtain ⟨b, off, rfl, hb, hB⟩ := H (by intro e; rw [e] at h; exact absurd h (by decide))
    have HV := Hid.mk' (hV.take (by omega) cap)
    clear H hB hV e2 e3
    go_enter Tryz.func25, Tryz.ntmps25
    go_wp2
    refine bodyPost_ret (v := .agg #[.slice (some ⟨w.heap.size + 1 + 1, 0, none⟩) 2 2, .int .i64 250]) (by simp [results, Tryz.results25, go_sem, *]) rfl ?_
    exact ⟨_, _, _, rfl, by have q := tr_cf w _ _ HV.out (.cells #[.slice (some ⟨w.heap.size + 1 + 1, 0, none⟩) 2 2, .int .i64 250] 26) 51; simpa only [World.size_alloc] using q, (((Below.refl _ _).alloc (Nat.le_refl _) _).alloc (by simp) _).alloc (by simp; omega) _⟩
  · have HV := Hid.mk' hV
    clear hV
    go_enter Tryz.func25, Tryz.ntmps25
    go_wp2
    refine bodyPost_ret (v := .agg #[.slice (some ⟨w.heap.size + 1 + 1, 0, none⟩) 2 2, .int .i64 250]) (by simp [results, Tryz.results25, go_sem, *]) rfl ?_
    exact ⟨_, _, _, rfl, by have q := tr_cf w _ _ HV.out (.cells #[.slice (some ⟨w.heap.size + 1 + 1, 0, none⟩) 2 2, .int .i64 250] 26) 51; rw [List.take_of_length_le (by omega)]; simpa only [World.size_alloc] using q, (((Below.refl _ _).alloc (Nat.le_refl _) _).alloc (by simp) _).alloc (by simp; omega) _⟩
end

end Go.Proofs.YtcgjliflnnklnaaGreat
