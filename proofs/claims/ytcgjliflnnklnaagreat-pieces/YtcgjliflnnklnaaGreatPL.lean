/-
  Joined texts.
-/
import Derived.Test.YtcgjliflnnklnaaGreatCpNwx
import Derived.Test.YtcgjliflnnklnaaGreatPK
import Derived.Test.YtcgjliflnnklnaaGreatPD
namespace Go.Proofs.YtcgjliflnnklnaaGreat
open Go.RowKit

/-
  Two computers of one configuration are alike to the last cell; config's contract.
-/
section
theorem CAt.bare {w : World} {B : Nat} {s : PC} (h : CAt w B s) (R : Nat → Option Value) (e : ∀ o, 65562 ≤ o → s.rest o = R o) : CAt w B { s with rest := R } :=
  { h with crest := fun o ho => (h.crest o ho).trans (e o ho) }

theorem zero_mach2 : ∃ (z : Array Value), (∀ w : World, Sem.run Tryz.prog (zeroValue 105) w = .ok (.agg z) w) ∧ z.size = 65562 ∧ ∀ (w : World) (t : TypeId), CAt (w.alloc (.cells z t)) w.heap.size (zeroPC fun _ => none) := by
  obtain ⟨R, z, h1, h2, h3⟩ := zero_mach
  refine ⟨z, h1, h2, fun w t => (h3 w t).bare _ fun o ho => ?_⟩
  have q := (h3 w t).crest o ho
  rw [World.cell?_alloc_at _ _ _ _ rfl] at q
  rw [← q]
  simp [h2, ho]

set_option maxRecDepth 100000 in
set_option maxHeartbeats 1000000 in
theorem new_bare (N : Nat) (v : Value) (cs : List Chn) (rom : Int) (w : World) (hN : N ≤ w.heap.size) (hc : CfAt N w v cs) (hv : validI rom cs = true)
    (hl : cs.length ≤ 140737488355328) (hb : ∀ c ∈ cs, c.bs.length ≤ 140737488355328) :
    Calls Tryz.prog 22 #[.agg #[v, .int .i64 rom]] w fun e w' => ∃ B, w.heap.size ≤ B ∧ e = .returned (.tuple #[.pointer (some ⟨B, 0, none⟩), .int .i64 0]) ∧
      CAt w' B (.fresh rom cs fun _ => none) ∧ Below w.heap.size w w' := by
  obtain ⟨zz, hz, hzs, HZ⟩ := zero_mach2
  have hne : zz ≠ #[] := by intro e; rw [e] at hzs; cases hzs
  have S : ∀ (o : Obj) (t : TypeId), Calls Tryz.prog 34 #[.pointer (some ⟨w.heap.size + 1, 0, none⟩), .agg #[v, .int .i64 rom]] ((w.alloc o).alloc (.cells zz t)).drew fun e w' => e = .returned (.int .i64 0) ∧ Tn (w.heap.size + 1) (.fresh rom cs fun _ => none) ((w.alloc o).alloc (.cells zz t)) w' := by
    intro o t
    have q := start_ok (Tn.refl (HZ (w.alloc o) t)).drew N (by simp; omega) v cs rom ((hc.below (((Below.refl _ _).alloc (Nat.le_refl _) o).alloc (by simp) _)).below (bl_drew (Below.refl _ _))) hv hl hb
    rwa [show (w.alloc o).heap.size = w.heap.size + 1 from by simp] at q
  have HH : Hid (∀ (w : World) (t : TypeId), CAt (w.alloc (.cells zz t)) w.heap.size (zeroPC fun _ => none)) := HZ
  obtain ⟨p, cap, rfl, -⟩ := hc
  clear HZ
  go_enter Tryz.func22, Tryz.ntmps22
  go_wp2_with fail
  go_region_with (first | (go_at_call 34; refine (S _ _).mono ?_; rintro e w2 ⟨rfl, T2⟩; have HT : Hid (CAt w2 (w.heap.size + 1) (.fresh rom cs fun _ => none) ∧ Below w.heap.size w w2) := ⟨T2.c, below_grown (((Below.refl _ _).alloc (Nat.le_refl _) _).alloc (by simp) _) T2.g (by omega) (by simp; omega)⟩; clear T2 S))
  all_goals go_wp2
  all_goals go_ret2
  all_goals exact ⟨w.heap.size + 1, by omega, rfl, HT.out.1, HT.out.2⟩

/-- Traced's configuration. -/
def trCs (bs : List UInt8) (v1 v2 : Value) : List Chn := [⟨1024, v1, bs⟩, ⟨65530, v2, [128, 4, 0, 4, 192, 4]⟩]
def trPC (bs : List UInt8) : PC := .fresh 250 (trCs bs (.slice none 0 0) (.slice none 0 0)) fun _ => none
theorem trPC_eq (bs : List UInt8) (v1 v2 : Value) : PC.fresh 250 (trCs bs v1 v2) (fun _ => none) = trPC bs := rfl
theorem trPC_tr (bs : List UInt8) : TrI (trPC bs) 0 ∧ (trPC bs).rom = 64000 := ⟨.idle rfl rfl (by decide), rfl⟩
theorem tr_valid (bs : List UInt8) (h : bs.length ≤ 200) (v1 v2 : Value) : validI 250 (trCs bs v1 v2) = true := by
  unfold validI trCs total okChn
  simp
  omega

theorem ChV.take {N : Nat} {w : World} {p : Option Addr} {cap : Nat} {bs : List UInt8} (h : ChV N w (.slice p bs.length cap) bs) (hl : 200 ≤ bs.length) (cap' : Nat) : ChV N w (.slice p 200 cap') (bs.take 200) := by
  obtain ⟨p', c', e, H⟩ := h
  injection e with e1 e2 e3
  subst e1
  refine ⟨p, cap', by rw [List.length_take, Nat.min_eq_left hl], fun _ => ?_⟩
  obtain ⟨b, off, e4, hb, hB⟩ := H (by intro e; rw [e] at hl; exact absurd hl (by decide))
  refine ⟨b, off, e4, hb, fun i hi => ?_⟩
  rw [List.length_take] at hi
  rw [List.getElem_take]
  exact hB i (by omega)
end

/-
  A fresh stub, whole.
-/
section
/-- What stands behind the computer of a zero stub. -/
def zAll : List Value := [.int .u8 0] ++ (List.replicate 200 (.int .u8 0) ++ ([.int .i64 0, .int .u8 0, .int .u8 0, .bool false, .string ⟨#[]⟩] ++
  ([.int .u16 0, .int .u16 0, .int .u16 0, .int .u16 0, .int .i64 0, .int .u16 0, .int .u16 0, .int .u16 0, .int .u16 0, .int .i64 0] ++
  ((List.replicate 4 [.int .i64 0, .int .u16 0, .int .u8 0, .int .u8 0, .int .u8 0, .int .u8 0, .int .u8 0, .int .u8 0, .int .u8 0, .int .u8 0, .int .i64 0]).flatten ++ ([.int .i64 0] ++
  ((List.replicate 64 [.int .i64 0, .int .i64 0, .bool false, .bool false]).flatten ++ [.int .i64 0, .int .i64 0, .bool false, .bool false, .bool false]))))))
theorem zall_rest : (Tryz.zeroCells126.toList.drop 65562).take 522 = zAll := by kernel_rfl
def ZAll (R : Nat → Option Value) : Prop := ∀ k, k < 522 → R (65562 + k) = zAll[k]?
theorem zero_stubA : ∃ (R : Nat → Option Value) (z : Array Value), (∀ w : World, Sem.run Tryz.prog (zeroValue 126) w = .ok (.agg z) w) ∧ z.size = 66084 ∧ ZAll R ∧ ∀ (w : World) (t : TypeId), CAt (w.alloc (.cells z t)) w.heap.size (zeroPC R) :=
  ⟨_, _, Tryz.zeroValue126, Tryz.zeroCells126_size, fun k hk => by rw [← Array.getElem?_toList, ← zall_rest, List.getElem?_take, if_pos hk, List.getElem?_drop], fun w t => cat_zero w t _ zstub_ok zstub_tail⟩
theorem zring : ((List.range 64).map fun i => (zAll[261 + i * 4]?, zAll[261 + i * 4 + 1]?, zAll[261 + i * 4 + 2]?, zAll[261 + i * 4 + 3]?)) = List.replicate 64 (some (.int .i64 0), some (.int .i64 0), some (.bool false), some (.bool false)) := by kernel_rfl
theorem zraw : ((List.range 200).map fun i => zAll[1 + i]?) = List.replicate 200 (some (.int .u8 0)) := by kernel_rfl
theorem zpats : ((List.range 4).map fun i => ((zAll[216 + i * 11]?, zAll[216 + i * 11 + 1]?, zAll[216 + i * 11 + 10]?), (List.range 8).map fun j => zAll[216 + i * 11 + 2 + j]?)) = List.replicate 4 ((some (.int .i64 0), some (.int .u16 0), some (.int .i64 0)), List.replicate 8 (some (.int .u8 0))) := by kernel_rfl
theorem of_map {α : Type} {n : Nat} {f : Nat → α} {a : α} (h : (List.range n).map f = List.replicate n a) (i : Nat) (hi : i < n) : f i = a := by
  have q := congrArg (fun l => l[i]?) h
  simpa [hi] using q

def bus0 : BusI := ⟨0, 0, false, false⟩
/-- A stub as it comes out of NewStub. -/
def SB.fresh (rom : Int) (cs : List Chn) : SB := ⟨.fresh rom cs (fun _ => none), ⟨0, [], 0⟩, 0, false, [], ⟨fun _ => 0, 0⟩, ⟨fun _ => 0, 0⟩, [], ⟨fun _ => bus0, 0, 0⟩, false, false, false⟩
theorem fresh_core (rom : Int) (cs : List Chn) (R : Nat → Option Value) : PC.fresh rom cs R = (PC.fresh rom cs (fun _ => none)).rr (PC.fresh rom cs R).rest := rfl
theorem fresh_rest (rom : Int) (cs : List Chn) (R : Nat → Option Value) : (PC.fresh rom cs R).rest = R := rfl
set_option maxRecDepth 100000 in
theorem fresh_sv (rom : Int) (cs : List Chn) (R : Nat → Option Value) (h : ZAll R) : SV (SB.fresh rom cs) (.fresh rom cs R) where
  core := fresh_core rom cs R
  sc := ⟨Nat.zero_le _, Nat.zero_le _, h 0 (by decide), h 201 (by decide), h 202 (by decide), fun i hi => by simp [SB.fresh] at hi, fun i hi => ⟨_, (show R (65563 + i) = _ by rw [show 65563 + i = 65562 + (1 + i) from by omega]; exact (h (1 + i) (by omega)).trans (of_map zraw i hi))⟩⟩
  cd := h 203 (by decide)
  cb := h 204 (by decide)
  cr := h 205 (by decide)
  bp := ⟨Nat.zero_le _, h 210 (by decide), fun i hi => by
    rcases (show i = 0 ∨ i = 1 ∨ i = 2 ∨ i = 3 from by omega) with rfl | rfl | rfl | rfl
    · exact h 206 (by decide)
    · exact h 207 (by decide)
    · exact h 208 (by decide)
    · exact h 209 (by decide)⟩
  wp := ⟨Nat.zero_le _, h 215 (by decide), fun i hi => by
    rcases (show i = 0 ∨ i = 1 ∨ i = 2 ∨ i = 3 from by omega) with rfl | rfl | rfl | rfl
    · exact h 211 (by decide)
    · exact h 212 (by decide)
    · exact h 213 (by decide)
    · exact h 214 (by decide)⟩
  pa := ⟨⟨fun _ => pat0, ⟨Nat.zero_le _, h 260 (by decide), fun i hi => by
      have q := of_map zpats i hi
      have q1 := congrArg (fun x => x.1.1) q
      have q2 := congrArg (fun x => x.1.2.1) q
      have q3 := congrArg (fun x => x.1.2.2) q
      have q4 := congrArg (fun x => x.2) q
      refine ⟨?_, ?_, fun j hj => ?_, ?_⟩
      · show R (65778 + i * 11) = _
        rw [show 65778 + i * 11 = 65562 + (216 + i * 11) from by omega]; exact (h _ (by omega)).trans q1
      · show R (65778 + i * 11 + 1) = _
        rw [show 65778 + i * 11 + 1 = 65562 + (216 + i * 11 + 1) from by omega]; exact (h _ (by omega)).trans q2
      · show R (65778 + i * 11 + 2 + j) = _
        rw [show 65778 + i * 11 + 2 + j = 65562 + (216 + i * 11 + 2 + j) from by omega]; exact (h _ (by omega)).trans (of_map q4 j hj)
      · show R (65778 + i * 11 + 10) = _
        rw [show 65778 + i * 11 + 10 = 65562 + (216 + i * 11 + 10) from by omega]; exact (h _ (by omega)).trans q3⟩, fun i hi => by simp [SB.fresh] at hi⟩, fun i hi => by simp [SB.fresh] at hi, fun p hp => by simp [SB.fresh] at hp⟩
  rc := ⟨(show 0 < 64 from by decide), Nat.zero_le _, h 517 (by decide), h 518 (by decide), fun i hi => by
    have q := of_map zring i hi
    have q1 := congrArg (fun x => x.1) q
    have q2 := congrArg (fun x => x.2.1) q
    have q3 := congrArg (fun x => x.2.2.1) q
    have q4 := congrArg (fun x => x.2.2.2) q
    refine ⟨?_, ?_, ?_, ?_⟩
    · show R (65823 + i * 4) = _
      rw [show 65823 + i * 4 = 65562 + (261 + i * 4) from by omega]; exact (h _ (by omega)).trans q1
    · show R (65823 + i * 4 + 1) = _
      rw [show 65823 + i * 4 + 1 = 65562 + (261 + i * 4 + 1) from by omega]; exact (h _ (by omega)).trans q2
    · show R (65823 + i * 4 + 2) = _
      rw [show 65823 + i * 4 + 2 = 65562 + (261 + i * 4 + 2) from by omega]; exact (h _ (by omega)).trans q3
    · show R (65823 + i * 4 + 3) = _
      rw [show 65823 + i * 4 + 3 = 65562 + (261 + i * 4 + 3) from by omega]; exact (h _ (by omega)).trans q4⟩
  re := h 519 (by decide)
  nm := h 520 (by decide)
  iq := h 521 (by decide)

set_option maxRecDepth 100000 in
set_option maxHeartbeats 1000000 in
theorem newStub_all (N : Nat) (v : Value) (cs : List Chn) (rom : Int) (w : World) (hN : N ≤ w.heap.size) (hc : CfAt N w v cs) (hv : validI rom cs = true)
    (hl : cs.length ≤ 140737488355328) (hb : ∀ c ∈ cs, c.bs.length ≤ 140737488355328) :
    Calls Tryz.prog 26 #[.agg #[v, .int .i64 rom]] w fun e w' => ∃ B R, w.heap.size ≤ B ∧ e = .returned (.tuple #[.pointer (some ⟨B, 0, none⟩), .int .i64 0]) ∧
      CAt w' B (.fresh rom cs R) ∧ ZAll R ∧ Below w.heap.size w w' := by
  obtain ⟨R, zz, hz, hzs, hR, HZ⟩ := zero_stubA
  have hne : zz ≠ #[] := by intro e; rw [e] at hzs; cases hzs
  have S : ∀ (o : Obj) (t : TypeId), Calls Tryz.prog 37 #[.pointer (some ⟨w.heap.size + 1, 0, none⟩), .agg #[v, .int .i64 rom]] ((w.alloc o).alloc (.cells zz t)).drew fun e w' => e = .returned (.int .i64 0) ∧ Tn (w.heap.size + 1) (.fresh rom cs R) ((w.alloc o).alloc (.cells zz t)) w' := by
    intro o t
    have q := stubStart_ok (Tn.refl (HZ (w.alloc o) t)).drew N (by simp; omega) v cs rom ((hc.below (((Below.refl _ _).alloc (Nat.le_refl _) o).alloc (by simp) _)).below (bl_drew (Below.refl _ _))) hv hl hb
    rwa [show (w.alloc o).heap.size = w.heap.size + 1 from by simp] at q
  have HH : Hid (ZAll R) := hR
  obtain ⟨p, cap, rfl, -⟩ := hc
  clear HZ hR
  go_enter Tryz.func26, Tryz.ntmps26
  go_wp2_with fail
  go_region_with (first | (go_at_call 37; refine (S _ _).mono ?_; rintro e w2 ⟨rfl, T2⟩; have HT : Hid (CAt w2 (w.heap.size + 1) (.fresh rom cs R) ∧ Below w.heap.size w w2) := ⟨T2.c, below_grown (((Below.refl _ _).alloc (Nat.le_refl _) _).alloc (by simp) _) T2.g (by omega) (by simp; omega)⟩; clear T2 S))
  all_goals go_wp2
  all_goals go_ret2
  all_goals exact ⟨w.heap.size + 1, R, by omega, rfl, HT.out.1, HH.out, HT.out.2⟩


/-- The stub of a program. -/
def trSB (bs : List UInt8) : SB := SB.fresh 250 (trCs bs (.slice none 0 0) (.slice none 0 0))
theorem trSB_eq (bs : List UInt8) (v1 v2 : Value) : SB.fresh 250 (trCs bs v1 v2) = trSB bs := rfl
theorem trSB_si (bs : List UInt8) : SI (trSB bs) 0 := ⟨⟨0, (trPC_tr bs).1⟩, by show (0 : Int) ≤ 0; omega, by show (0 : Int) ≤ 0; omega, fun i => by show (0 : Int) ≤ 0 ∧ (0 : Int) < 65536 ∧ (0 : Int) ≤ 0 ∧ (0 : Int) < 256; omega⟩

set_option maxRecDepth 100000 in
set_option maxHeartbeats 1000000 in
theorem mFeed_any {B : Nat} {s : PC} {w0 w : World} {S : SB} {N : Int} (h : Tn B s w0 w) (hS : SV S s) (hI : SI S N) (hN0 : 0 ≤ N) (hN : N ≤ 100000000000000) (hrp : S.rp.length ≤ 80) (bb off cap : Nat) (l : List UInt8) (hl : l.length ≤ 1000000) (hB : BytesAt w bb off l) (hne : bb ≠ B) :
    Calls Tryz.prog 29 #[.pointer (some ⟨B, 0, none⟩), .slice (some ⟨bb, off, none⟩) l.length cap] w fun e w' => FeedR B N w0 w w' (S.feed l) (feedP S.sc l).length e := by
  have F := feed_any h hS hI hN0 hN hrp bb off cap l hl hB hne
  generalize S.feed l = R at *
  clear h hS hI hB
  go_enter Tryz.func29, Tryz.ntmps29
  go_wp2_with (first | (go_at_call 40; refine F.mono ?_; rintro e w2 ⟨v, s2, rfl, H⟩; have HH := hid H; clear H F))
  go_ret
  exact ⟨v, s2, rfl, HH.out⟩

set_option maxRecDepth 100000 in
set_option maxHeartbeats 1000000 in
theorem packet_any (b : UInt8) (s : ByteArray) (w : World) (hs : s.size ≤ 80) :
    Calls Tryz.prog 27 #[.int .i64 b.toNat, .string s] w fun e w' => e = .returned (.string ⟨(frameOf b s.data.toList).toArray⟩) ∧ Below w.heap.size w w' := by
  have F := frame_any b s w hs
  go_enter Tryz.func27, Tryz.ntmps27
  go_wp2_with fail
  refine F.mono ?_
  rintro e w1 ⟨v, rfl, O⟩
  obtain ⟨g, cap, rfl, o1, o2, o3⟩ := O
  have hcv := to_string o1
  have HB := hid o2
  clear o1 o2 o3 F
  go_wp2
  go_ret
  exact ⟨rfl, HB.out⟩
end

/-
  config's contract.
-/
section
/-- Traced's configuration, as it lies when it is built. -/
theorem tr_cf (w : World) (v1 : Value) (bs : List UInt8) (hv : ChV w.heap.size w v1 bs) (o : Obj) (t : TypeId) :
    CfAt (w.heap.size + 3) (((w.alloc o).alloc (.cells #[.int .u8 128, .int .u8 4, .int .u8 0, .int .u8 4, .int .u8 192, .int .u8 4] 5)).alloc (.cells #[.int .i64 1024, v1, .int .i64 65530, .slice (some ⟨w.heap.size + 1, 0, none⟩) 6 6] t)) (.slice (some ⟨w.heap.size + 1 + 1, 0, none⟩) 2 2) (trCs bs v1 (.slice (some ⟨w.heap.size + 1, 0, none⟩) 6 6)) := by
  have hb3 : ∀ o1 o2 o3, Below w.heap.size w (((w.alloc o1).alloc o2).alloc o3) := fun o1 o2 o3 => (((Below.refl _ _).alloc (Nat.le_refl _) _).alloc (by simp) _).alloc (by simp; omega) _
  refine ⟨_, _, rfl, fun _ => ⟨w.heap.size + 1 + 1, 0, rfl, by omega, fun i hi => ?_⟩⟩
  have hc : ∀ (o1 o2 : Obj) (cs : Array Value) (t : TypeId) j, (((w.alloc o1).alloc o2).alloc (.cells cs t)).cell? ⟨w.heap.size + 1 + 1, j, none⟩ = cs[j]? := fun o1 o2 cs t j => by
    have hs : ((w.alloc o1).alloc o2).heap.size = w.heap.size + 1 + 1 := by simp
    rw [← hs]; exact World.cell?_alloc_at _ _ _ _ rfl
  have hi2 : i < 2 := hi
  rcases (show i = 0 ∨ i = 1 from by omega) with rfl | rfl
  · exact ⟨hc _ _ _ _ _, hc _ _ _ _ _, (hv.below (hb3 _ _ _)).mono (by omega)⟩
  · refine ⟨hc _ _ _ _ _, hc _ _ _ _ _, ⟨_, _, rfl, fun _ => ⟨w.heap.size + 1, 0, rfl, by omega, ?_⟩⟩⟩
    have q := bytes_lit (w.alloc o) [128, 4, 0, 4, 192, 4] 5
    rw [World.size_alloc] at q
    exact bytes_alloc q (by simp) _

set_option maxRecDepth 100000 in
set_option maxHeartbeats 1000000 in
theorem config_any (w : World) (p : Option Addr) (cap : Nat) (bs : List UInt8) (hV : ChV w.heap.size w (.slice p bs.length cap) bs) (hcap : bs.length ≤ cap) (hc2 : cap ≤ 140737488355328) :
    Calls Tryz.prog 25 #[.slice p bs.length cap] w fun e w' => ∃ b v1 v2, e = .returned (.agg #[.slice (some ⟨b, 0, none⟩) 2 2, .int .i64 250]) ∧ CfAt w'.heap.size w' (.slice (some ⟨b, 0, none⟩) 2 2) (trCs (bs.take 200) v1 v2) ∧ Below w.heap.size w w' := by
  by_cases h : 200 < bs.length
  · obtain ⟨p', c', e, H⟩ := id hV
    injection e with e1 e2 e3
    subst e1
    obtain ⟨b, off, rfl, hb, hB⟩ := H (by intro e; rw [e] at h; exact absurd h (by decide))
    have HV := Hid.mk' (hV.take (by omega) cap)
    clear H hB hV e2 e3
    go_enter Tryz.func25, Tryz.ntmps25
    go_wp2
    refine bodyPost_ret (v := .agg #[.slice (some ⟨w.heap.size + 1 + 1, 0, none⟩) 2 2, .int .i64 250]) (by simp [results, Tryz.results25, go_sem, *]) rfl ?_
    exact ⟨_, _, _, rfl, by have q := tr_cf w _ _ HV.out (.cells #[.slice (some ⟨w.heap.size + 1 + 1, 0, none⟩) 2 2, .int .i64 250] 26) 51; simpa only [World.size_alloc] using q, (((Below.refl _ _).alloc (Nat.le_refl _) _).alloc (by simp) _).alloc (by simp; omega) _⟩
  · have HV := Hid.mk' hV
    clear hV
    go_enter Tryz.func25, Tryz.ntmps25
    go_wp2
    refine bodyPost_ret (v := .agg #[.slice (some ⟨w.heap.size + 1 + 1, 0, none⟩) 2 2, .int .i64 250]) (by simp [results, Tryz.results25, go_sem, *]) rfl ?_
    exact ⟨_, _, _, rfl, by have q := tr_cf w _ _ HV.out (.cells #[.slice (some ⟨w.heap.size + 1 + 1, 0, none⟩) 2 2, .int .i64 250] 26) 51; rw [List.take_of_length_le (by omega)]; simpa only [World.size_alloc] using q, (((Below.refl _ _).alloc (Nat.le_refl _) _).alloc (by simp) _).alloc (by simp; omega) _⟩
end

end Go.Proofs.YtcgjliflnnklnaaGreat
