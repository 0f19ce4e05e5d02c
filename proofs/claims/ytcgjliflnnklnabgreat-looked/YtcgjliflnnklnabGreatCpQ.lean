/-
  Modes with an index: walked.
-/
import Derived.Test.YtcgjliflnnklnabGreatCpE
import Derived.Test.YtcgjliflnnklnabGreatCpF
namespace Go.Proofs.YtcgjliflnnklnabGreat
open Go.RowKit

set_option maxRecDepth 100000 in
set_option maxHeartbeats 1000000 in
theorem indexed_e {B : Nat} {s : PC} {w0 w : World} (h : Tn B s w0 w) (i : Int) (i1 : 0 ≤ i) (i2 : i < 256) (e1 : ((s.ad + i) % 65536 == withinI s.ad i) = true) (e2 : kindI s.ins = 0) :
    Calls Tryz.prog 101 #[.pointer (some ⟨B, 0, none⟩), .int .u8 i] w fun e w' => e = .returned (s.indexed i).2.val ∧ Tn B (s.indexed i).1 w0 w' := by
  have c_ad := h.c.cad; obtain ⟨l_ad, u_ad⟩ := h.c.rad; have c_st := h.c.cst; obtain ⟨l_st, u_st⟩ := h.c.rst; have c_ins := h.c.cins; obtain ⟨l_ins, u_ins⟩ := h.c.rins
  have near : Hid (s.indexed i = ({ s with ad := (s.ad + i) % 65536, st := 2 } : PC).access) := by show _ = _; unfold PC.indexed; simp only []; rw [if_pos ⟨by simpa using e1, e2⟩]
  rw [near.out]
  have wn := within_r s.ad i l_ad u_ad
  obtain ⟨v1, v2⟩ := wn
  have sm : IntKind.u16.wrap (s.ad + i) = (s.ad + i) % 65536 := IntKind.wrap_u16 _
  have hlt := h.c.lt
  have hsz := h.g.size
  have n0 : w.heap.size ≠ B := by omega
  have m0 : B ≠ w.heap.size := by omega
  have fz0 := h.c.free
  go_enter Tryz.func101, Tryz.ntmps101
  go_wp2_with (first | (go_at_call 100; refine (within_any _ _ _ (by first | assumption | omega | exact (top_r _).1 | exact (top_r _).2 | exact (wr16_r _).1 | exact (wr16_r _).2 | (unfold PC.stackTop joinI; omega) | (unfold withinI joinI loI hiI; omega) | (unfold joinI loI hiI; omega) | (unfold loI; omega) | (unfold hiI; omega)) (by first | assumption | omega | exact (top_r _).1 | exact (top_r _).2 | exact (wr16_r _).1 | exact (wr16_r _).2 | (unfold PC.stackTop joinI; omega) | (unfold withinI joinI loI hiI; omega) | (unfold joinI loI hiI; omega) | (unfold loI; omega) | (unfold hiI; omega))).mono ?_; rintro e w' ⟨rfl, rfl⟩) | (go_at_call 57; refine (kind_any _ _).mono ?_; rintro e w' ⟨rfl, rfl⟩) | (go_at_call 41; refine (Ck.call (w0 := w0) (R := w.heap.size) (by repeat (first | with_reducible exact k | with_reducible apply Ck.drew | ((with_reducible apply Ck.mk'); (case hR => (simp; done)); (case h => (repeat (first | with_reducible exact h | with_reducible apply Tn.drew | with_reducible apply Tn.alloc | ((with_reducible apply Tn.setAd); (case hv => (first | omega | exact wr_r _ | exact wr16_r _ | exact within_r _ _ (by omega) (by omega)))) | ((with_reducible apply Tn.setSt); (case hv => (first | omega | exact wr_r _ | exact wr16_r _ | exact within_r _ _ (by omega) (by omega)))) | ((with_reducible apply Tn.other); (case hne => omega); (case hb => omega)))))) | with_reducible apply Ck.alloc | ((with_reducible apply Ck.setAd); (case hv => (first | omega | exact wr_r _ | exact wr16_r _ | exact within_r _ _ (by omega) (by omega)))) | ((with_reducible apply Ck.setSt); (case hv => (first | omega | exact wr_r _ | exact wr16_r _ | exact within_r _ _ (by omega) (by omega)))))) (fun h => access_any h)).mono ?_; rintro e w1 ⟨rfl, k, -, -, -⟩; obtain ⟨⟨r0, r1, r2, r3⟩, r4, z0, n1, n2, m1, m2, fz, b1, nr, mr⟩ := k.facts; have c_ad := k.c.cad; obtain ⟨l_ad, u_ad⟩ := k.c.rad; (try simp only [BusI.val])))
  all_goals (refine bodyPost_ret (v := BusI.val (({ s with ad := (s.ad + i) % 65536, st := 2 } : PC).access).2) (by simp [results, Tryz.results101, go_sem, BusI.val, *] <;> (repeat' (first | rfl | constructor))) rfl (And.intro rfl ?_))
  all_goals (apply Tn.eq; (case h => repeat (first | with_reducible exact k.t | with_reducible exact h | with_reducible apply Tn.drew | with_reducible apply Tn.alloc | ((with_reducible apply Tn.setAd); (case hv => (first | omega | exact wr_r _ | exact wr16_r _ | exact within_r _ _ (by omega) (by omega)))) | ((with_reducible apply Tn.setSt); (case hv => (first | omega | exact wr_r _ | exact wr16_r _ | exact within_r _ _ (by omega) (by omega)))) | ((with_reducible apply Tn.other); (case hne => omega); (case hb => omega)))); (case e => rfl))

set_option maxRecDepth 100000 in
set_option maxHeartbeats 1000000 in
theorem indexed_k {B : Nat} {s : PC} {w0 w : World} (h : Tn B s w0 w) (i : Int) (i1 : 0 ≤ i) (i2 : i < 256) (e1 : ((s.ad + i) % 65536 == withinI s.ad i) = true) (e2 : (kindI s.ins == 0) = false) :
    Calls Tryz.prog 101 #[.pointer (some ⟨B, 0, none⟩), .int .u8 i] w fun e w' => e = .returned (s.indexed i).2.val ∧ Tn B (s.indexed i).1 w0 w' := by
  have c_ad := h.c.cad; obtain ⟨l_ad, u_ad⟩ := h.c.rad; have c_st := h.c.cst; obtain ⟨l_st, u_st⟩ := h.c.rst; have c_ins := h.c.cins; obtain ⟨l_ins, u_ins⟩ := h.c.rins
  have near : Hid (s.indexed i = ({ s with ad := (s.ad + i) % 65536, st := 2 } : PC).read (withinI s.ad i)) := by show _ = _; unfold PC.indexed; simp only []; rw [if_neg (fun q => by have := q.2; simp [this] at e2)]
  rw [near.out]
  have wn := within_r s.ad i l_ad u_ad
  obtain ⟨v1, v2⟩ := wn
  have sm : IntKind.u16.wrap (s.ad + i) = (s.ad + i) % 65536 := IntKind.wrap_u16 _
  have hlt := h.c.lt
  have hsz := h.g.size
  have n0 : w.heap.size ≠ B := by omega
  have m0 : B ≠ w.heap.size := by omega
  have fz0 := h.c.free
  go_enter Tryz.func101, Tryz.ntmps101
  go_wp2_with (first | (go_at_call 100; refine (within_any _ _ _ (by first | assumption | omega | exact (top_r _).1 | exact (top_r _).2 | exact (wr16_r _).1 | exact (wr16_r _).2 | (unfold PC.stackTop joinI; omega) | (unfold withinI joinI loI hiI; omega) | (unfold joinI loI hiI; omega) | (unfold loI; omega) | (unfold hiI; omega)) (by first | assumption | omega | exact (top_r _).1 | exact (top_r _).2 | exact (wr16_r _).1 | exact (wr16_r _).2 | (unfold PC.stackTop joinI; omega) | (unfold withinI joinI loI hiI; omega) | (unfold joinI loI hiI; omega) | (unfold loI; omega) | (unfold hiI; omega))).mono ?_; rintro e w' ⟨rfl, rfl⟩) | (go_at_call 57; refine (kind_any _ _).mono ?_; rintro e w' ⟨rfl, rfl⟩) | (go_at_call 53; refine (Ck.call (w0 := w0) (R := w.heap.size) (by repeat (first | with_reducible exact k | with_reducible apply Ck.drew | ((with_reducible apply Ck.mk'); (case hR => (simp; done)); (case h => (repeat (first | with_reducible exact h | with_reducible apply Tn.drew | with_reducible apply Tn.alloc | ((with_reducible apply Tn.setAd); (case hv => (first | omega | exact wr_r _ | exact wr16_r _ | exact within_r _ _ (by omega) (by omega)))) | ((with_reducible apply Tn.setSt); (case hv => (first | omega | exact wr_r _ | exact wr16_r _ | exact within_r _ _ (by omega) (by omega)))) | ((with_reducible apply Tn.other); (case hne => omega); (case hb => omega)))))) | with_reducible apply Ck.alloc | ((with_reducible apply Ck.setAd); (case hv => (first | omega | exact wr_r _ | exact wr16_r _ | exact within_r _ _ (by omega) (by omega)))) | ((with_reducible apply Ck.setSt); (case hv => (first | omega | exact wr_r _ | exact wr16_r _ | exact within_r _ _ (by omega) (by omega)))))) (fun h => read_any h _ (by first | assumption | omega | exact (top_r _).1 | exact (top_r _).2 | exact (wr16_r _).1 | exact (wr16_r _).2 | (unfold PC.stackTop joinI; omega) | (unfold withinI joinI loI hiI; omega) | (unfold joinI loI hiI; omega) | (unfold loI; omega) | (unfold hiI; omega)) (by first | assumption | omega | exact (top_r _).1 | exact (top_r _).2 | exact (wr16_r _).1 | exact (wr16_r _).2 | (unfold PC.stackTop joinI; omega) | (unfold withinI joinI loI hiI; omega) | (unfold joinI loI hiI; omega) | (unfold loI; omega) | (unfold hiI; omega)))).mono ?_; rintro e w1 ⟨rfl, k, -, -, -⟩; obtain ⟨⟨r0, r1, r2, r3⟩, r4, z0, n1, n2, m1, m2, fz, b1, nr, mr⟩ := k.facts; have c_ad := k.c.cad; obtain ⟨l_ad, u_ad⟩ := k.c.rad; (try simp only [BusI.val])))
  all_goals (refine bodyPost_ret (v := BusI.val (({ s with ad := (s.ad + i) % 65536, st := 2 } : PC).read (withinI s.ad i)).2) (by simp [results, Tryz.results101, go_sem, BusI.val, *] <;> (repeat' (first | rfl | constructor))) rfl (And.intro rfl ?_))
  all_goals (apply Tn.eq; (case h => repeat (first | with_reducible exact k.t | with_reducible exact h | with_reducible apply Tn.drew | with_reducible apply Tn.alloc | ((with_reducible apply Tn.setAd); (case hv => (first | omega | exact wr_r _ | exact wr16_r _ | exact within_r _ _ (by omega) (by omega)))) | ((with_reducible apply Tn.setSt); (case hv => (first | omega | exact wr_r _ | exact wr16_r _ | exact within_r _ _ (by omega) (by omega)))) | ((with_reducible apply Tn.other); (case hne => omega); (case hb => omega)))); (case e => rfl))

set_option maxRecDepth 100000 in
set_option maxHeartbeats 1000000 in
theorem indexed_n {B : Nat} {s : PC} {w0 w : World} (h : Tn B s w0 w) (i : Int) (i1 : 0 ≤ i) (i2 : i < 256) (e1 : ((s.ad + i) % 65536 == withinI s.ad i) = false) :
    Calls Tryz.prog 101 #[.pointer (some ⟨B, 0, none⟩), .int .u8 i] w fun e w' => e = .returned (s.indexed i).2.val ∧ Tn B (s.indexed i).1 w0 w' := by
  have c_ad := h.c.cad; obtain ⟨l_ad, u_ad⟩ := h.c.rad; have c_st := h.c.cst; obtain ⟨l_st, u_st⟩ := h.c.rst; have c_ins := h.c.cins; obtain ⟨l_ins, u_ins⟩ := h.c.rins
  have near : Hid (s.indexed i = ({ s with ad := (s.ad + i) % 65536, st := 2 } : PC).read (withinI s.ad i)) := by show _ = _; unfold PC.indexed; simp only []; rw [if_neg (fun q => by have := q.1; simp [this] at e1)]
  rw [near.out]
  have wn := within_r s.ad i l_ad u_ad
  obtain ⟨v1, v2⟩ := wn
  have sm : IntKind.u16.wrap (s.ad + i) = (s.ad + i) % 65536 := IntKind.wrap_u16 _
  have hlt := h.c.lt
  have hsz := h.g.size
  have n0 : w.heap.size ≠ B := by omega
  have m0 : B ≠ w.heap.size := by omega
  have fz0 := h.c.free
  go_enter Tryz.func101, Tryz.ntmps101
  go_wp2_with (first | (go_at_call 100; refine (within_any _ _ _ (by first | assumption | omega | exact (top_r _).1 | exact (top_r _).2 | exact (wr16_r _).1 | exact (wr16_r _).2 | (unfold PC.stackTop joinI; omega) | (unfold withinI joinI loI hiI; omega) | (unfold joinI loI hiI; omega) | (unfold loI; omega) | (unfold hiI; omega)) (by first | assumption | omega | exact (top_r _).1 | exact (top_r _).2 | exact (wr16_r _).1 | exact (wr16_r _).2 | (unfold PC.stackTop joinI; omega) | (unfold withinI joinI loI hiI; omega) | (unfold joinI loI hiI; omega) | (unfold loI; omega) | (unfold hiI; omega))).mono ?_; rintro e w' ⟨rfl, rfl⟩) | (go_at_call 57; refine (kind_any _ _).mono ?_; rintro e w' ⟨rfl, rfl⟩) | (go_at_call 53; refine (Ck.call (w0 := w0) (R := w.heap.size) (by repeat (first | with_reducible exact k | with_reducible apply Ck.drew | ((with_reducible apply Ck.mk'); (case hR => (simp; done)); (case h => (repeat (first | with_reducible exact h | with_reducible apply Tn.drew | with_reducible apply Tn.alloc | ((with_reducible apply Tn.setAd); (case hv => (first | omega | exact wr_r _ | exact wr16_r _ | exact within_r _ _ (by omega) (by omega)))) | ((with_reducible apply Tn.setSt); (case hv => (first | omega | exact wr_r _ | exact wr16_r _ | exact within_r _ _ (by omega) (by omega)))) | ((with_reducible apply Tn.other); (case hne => omega); (case hb => omega)))))) | with_reducible apply Ck.alloc | ((with_reducible apply Ck.setAd); (case hv => (first | omega | exact wr_r _ | exact wr16_r _ | exact within_r _ _ (by omega) (by omega)))) | ((with_reducible apply Ck.setSt); (case hv => (first | omega | exact wr_r _ | exact wr16_r _ | exact within_r _ _ (by omega) (by omega)))))) (fun h => read_any h _ (by first | assumption | omega | exact (top_r _).1 | exact (top_r _).2 | exact (wr16_r _).1 | exact (wr16_r _).2 | (unfold PC.stackTop joinI; omega) | (unfold withinI joinI loI hiI; omega) | (unfold joinI loI hiI; omega) | (unfold loI; omega) | (unfold hiI; omega)) (by first | assumption | omega | exact (top_r _).1 | exact (top_r _).2 | exact (wr16_r _).1 | exact (wr16_r _).2 | (unfold PC.stackTop joinI; omega) | (unfold withinI joinI loI hiI; omega) | (unfold joinI loI hiI; omega) | (unfold loI; omega) | (unfold hiI; omega)))).mono ?_; rintro e w1 ⟨rfl, k, -, -, -⟩; obtain ⟨⟨r0, r1, r2, r3⟩, r4, z0, n1, n2, m1, m2, fz, b1, nr, mr⟩ := k.facts; have c_ad := k.c.cad; obtain ⟨l_ad, u_ad⟩ := k.c.rad; (try simp only [BusI.val])))
  all_goals (refine bodyPost_ret (v := BusI.val (({ s with ad := (s.ad + i) % 65536, st := 2 } : PC).read (withinI s.ad i)).2) (by simp [results, Tryz.results101, go_sem, BusI.val, *] <;> (repeat' (first | rfl | constructor))) rfl (And.intro rfl ?_))
  all_goals (apply Tn.eq; (case h => repeat (first | with_reducible exact k.t | with_reducible exact h | with_reducible apply Tn.drew | with_reducible apply Tn.alloc | ((with_reducible apply Tn.setAd); (case hv => (first | omega | exact wr_r _ | exact wr16_r _ | exact within_r _ _ (by omega) (by omega)))) | ((with_reducible apply Tn.setSt); (case hv => (first | omega | exact wr_r _ | exact wr16_r _ | exact within_r _ _ (by omega) (by omega)))) | ((with_reducible apply Tn.other); (case hne => omega); (case hb => omega)))); (case e => rfl))

theorem indexed_any {B : Nat} {s : PC} {w0 w : World} (h : Tn B s w0 w) (i : Int) (i1 : 0 ≤ i) (i2 : i < 256) :
    Calls Tryz.prog 101 #[.pointer (some ⟨B, 0, none⟩), .int .u8 i] w fun e w' => e = .returned (s.indexed i).2.val ∧ Tn B (s.indexed i).1 w0 w' := by
  by_cases e1 : (s.ad + i) % 65536 = withinI s.ad i
  · by_cases e2 : kindI s.ins = 0
    · exact indexed_e h i i1 i2 (by simpa using e1) e2
    · exact indexed_k h i i1 i2 (by simpa using e1) (by simpa using e2)
  · exact indexed_n h i i1 i2 (by simpa using e1)

set_option maxRecDepth 100000 in
set_option maxHeartbeats 1000000 in
theorem absoluteBy_1 {B : Nat} {s : PC} {w0 w : World} (h : Tn B s w0 w) (i : Int) (i1 : 0 ≤ i) (i2 : i < 256) (hk : s.step = 1) :
    Calls Tryz.prog 98 #[.pointer (some ⟨B, 0, none⟩), .int .u8 i] w fun e w' => e = .returned (s.absoluteBy i).2.val ∧ Tn B (s.absoluteBy i).1 w0 w' := by
  have c_step := h.c.cstep; obtain ⟨l_step, u_step⟩ := h.c.rstep; have c_pc := h.c.cpc; obtain ⟨l_pc, u_pc⟩ := h.c.rpc
  have hu : Hid (s.absoluteBy i = takeLow s.readNext) := by show _ = _; unfold PC.absoluteBy; rw [if_pos hk]
  rw [hu.out]
  rw [hk] at c_step
  have _ := i1
  have _ := i2
  have hlt := h.c.lt
  have hsz := h.g.size
  have n0 : w.heap.size ≠ B := by omega
  have m0 : B ≠ w.heap.size := by omega
  have fz0 := h.c.free
  go_enter Tryz.func98, Tryz.ntmps98
  go_wp2_with (first | (go_at_call 94; refine (Ck.call (w0 := w0) (R := w.heap.size) (by repeat (first | with_reducible exact k | with_reducible apply Ck.drew | ((with_reducible apply Ck.mk'); (case hR => (simp; done)); (case h => (repeat (first | with_reducible exact h | with_reducible apply Tn.drew | with_reducible apply Tn.alloc | ((with_reducible apply Tn.other); (case hne => omega); (case hb => omega)))))) | with_reducible apply Ck.alloc)) (fun h => readNext_any h)).mono ?_; rintro e w1 ⟨rfl, k, -, -, -⟩; obtain ⟨⟨r0, r1, r2, r3⟩, r4, z0, n1, n2, m1, m2, fz, b1, nr, mr⟩ := k.facts; have c_pc := k.c.cpc; obtain ⟨l_pc, u_pc⟩ := k.c.rpc; (try simp only [BusI.val])) | (go_at_call 95; refine (Ck.call (w0 := w0) (R := w.heap.size) (by repeat (first | with_reducible exact k | with_reducible apply Ck.drew | ((with_reducible apply Ck.mk'); (case hR => (simp; done)); (case h => (repeat (first | with_reducible exact h | with_reducible apply Tn.drew | with_reducible apply Tn.alloc | ((with_reducible apply Tn.other); (case hne => omega); (case hb => omega)))))) | with_reducible apply Ck.alloc)) (fun h => takeLow_any h ⟨_, _, _, _⟩)).mono ?_; rintro e w1 ⟨rfl, k, -, -, -⟩; obtain ⟨⟨r0, r1, r2, r3⟩, r4, z0, n1, n2, m1, m2, fz, b1, nr, mr⟩ := k.facts; have c_pc := k.c.cpc; obtain ⟨l_pc, u_pc⟩ := k.c.rpc; (try simp only [BusI.val])))
  all_goals (refine bodyPost_ret (v := BusI.val (takeLow s.readNext).2) (by simp [results, Tryz.results98, go_sem, BusI.val, *] <;> (repeat' (first | rfl | constructor))) rfl (And.intro rfl ?_))
  all_goals (apply Tn.eq; (case h => repeat (first | with_reducible exact k.t | with_reducible exact h | with_reducible apply Tn.drew | with_reducible apply Tn.alloc | ((with_reducible apply Tn.other); (case hne => omega); (case hb => omega)))); (case e => rfl))

set_option maxRecDepth 100000 in
set_option maxHeartbeats 1000000 in
theorem absoluteBy_2 {B : Nat} {s : PC} {w0 w : World} (h : Tn B s w0 w) (i : Int) (i1 : 0 ≤ i) (i2 : i < 256) (hk : s.step = 2) :
    Calls Tryz.prog 98 #[.pointer (some ⟨B, 0, none⟩), .int .u8 i] w fun e w' => e = .returned (s.absoluteBy i).2.val ∧ Tn B (s.absoluteBy i).1 w0 w' := by
  have c_step := h.c.cstep; obtain ⟨l_step, u_step⟩ := h.c.rstep; have c_pc := h.c.cpc; obtain ⟨l_pc, u_pc⟩ := h.c.rpc
  have hu : Hid (s.absoluteBy i = takeHigh s.readNext) := by show _ = _; unfold PC.absoluteBy; rw [if_neg (by rw [hk]; decide), if_pos hk]
  rw [hu.out]
  rw [hk] at c_step
  have _ := i1
  have _ := i2
  have hlt := h.c.lt
  have hsz := h.g.size
  have n0 : w.heap.size ≠ B := by omega
  have m0 : B ≠ w.heap.size := by omega
  have fz0 := h.c.free
  go_enter Tryz.func98, Tryz.ntmps98
  go_wp2_with (first | (go_at_call 94; refine (Ck.call (w0 := w0) (R := w.heap.size) (by repeat (first | with_reducible exact k | with_reducible apply Ck.drew | ((with_reducible apply Ck.mk'); (case hR => (simp; done)); (case h => (repeat (first | with_reducible exact h | with_reducible apply Tn.drew | with_reducible apply Tn.alloc | ((with_reducible apply Tn.other); (case hne => omega); (case hb => omega)))))) | with_reducible apply Ck.alloc)) (fun h => readNext_any h)).mono ?_; rintro e w1 ⟨rfl, k, -, -, -⟩; obtain ⟨⟨r0, r1, r2, r3⟩, r4, z0, n1, n2, m1, m2, fz, b1, nr, mr⟩ := k.facts; have c_pc := k.c.cpc; obtain ⟨l_pc, u_pc⟩ := k.c.rpc; (try simp only [BusI.val])) | (go_at_call 97; refine (Ck.call (w0 := w0) (R := w.heap.size) (by repeat (first | with_reducible exact k | with_reducible apply Ck.drew | ((with_reducible apply Ck.mk'); (case hR => (simp; done)); (case h => (repeat (first | with_reducible exact h | with_reducible apply Tn.drew | with_reducible apply Tn.alloc | ((with_reducible apply Tn.other); (case hne => omega); (case hb => omega)))))) | with_reducible apply Ck.alloc)) (fun h => takeHigh_any h ⟨_, _, _, _⟩)).mono ?_; rintro e w1 ⟨rfl, k, -, -, -⟩; obtain ⟨⟨r0, r1, r2, r3⟩, r4, z0, n1, n2, m1, m2, fz, b1, nr, mr⟩ := k.facts; have c_pc := k.c.cpc; obtain ⟨l_pc, u_pc⟩ := k.c.rpc; (try simp only [BusI.val])))
  all_goals (refine bodyPost_ret (v := BusI.val (takeHigh s.readNext).2) (by simp [results, Tryz.results98, go_sem, BusI.val, *] <;> (repeat' (first | rfl | constructor))) rfl (And.intro rfl ?_))
  all_goals (apply Tn.eq; (case h => repeat (first | with_reducible exact k.t | with_reducible exact h | with_reducible apply Tn.drew | with_reducible apply Tn.alloc | ((with_reducible apply Tn.other); (case hne => omega); (case hb => omega)))); (case e => rfl))

set_option maxRecDepth 100000 in
set_option maxHeartbeats 1000000 in
theorem absoluteBy_d {B : Nat} {s : PC} {w0 w : World} (h : Tn B s w0 w) (i : Int) (i1 : 0 ≤ i) (i2 : i < 256) (hk1 : (s.step == 1) = false) (hk2 : (s.step == 2) = false) :
    Calls Tryz.prog 98 #[.pointer (some ⟨B, 0, none⟩), .int .u8 i] w fun e w' => e = .returned (s.absoluteBy i).2.val ∧ Tn B (s.absoluteBy i).1 w0 w' := by
  have c_step := h.c.cstep; obtain ⟨l_step, u_step⟩ := h.c.rstep; have c_pc := h.c.cpc; obtain ⟨l_pc, u_pc⟩ := h.c.rpc
  have hu : Hid (s.absoluteBy i = s.indexed i) := by show _ = _; unfold PC.absoluteBy; rw [if_neg (by simpa using hk1), if_neg (by simpa using hk2)]
  rw [hu.out]
  have _ := i1
  have _ := i2
  have hlt := h.c.lt
  have hsz := h.g.size
  have n0 : w.heap.size ≠ B := by omega
  have m0 : B ≠ w.heap.size := by omega
  have fz0 := h.c.free
  go_enter Tryz.func98, Tryz.ntmps98
  go_wp2_with (first | (go_at_call 101; refine (Ck.call (w0 := w0) (R := w.heap.size) (by repeat (first | with_reducible exact k | with_reducible apply Ck.drew | ((with_reducible apply Ck.mk'); (case hR => (simp; done)); (case h => (repeat (first | with_reducible exact h | with_reducible apply Tn.drew | with_reducible apply Tn.alloc | ((with_reducible apply Tn.other); (case hne => omega); (case hb => omega)))))) | with_reducible apply Ck.alloc)) (fun h => indexed_any h _ (by first | assumption | omega | exact (top_r _).1 | exact (top_r _).2 | exact (wr16_r _).1 | exact (wr16_r _).2 | (unfold PC.stackTop joinI; omega) | (unfold withinI joinI loI hiI; omega) | (unfold joinI loI hiI; omega) | (unfold loI; omega) | (unfold hiI; omega)) (by first | assumption | omega | exact (top_r _).1 | exact (top_r _).2 | exact (wr16_r _).1 | exact (wr16_r _).2 | (unfold PC.stackTop joinI; omega) | (unfold withinI joinI loI hiI; omega) | (unfold joinI loI hiI; omega) | (unfold loI; omega) | (unfold hiI; omega)))).mono ?_; rintro e w1 ⟨rfl, k, -, -, -⟩; obtain ⟨⟨r0, r1, r2, r3⟩, r4, z0, n1, n2, m1, m2, fz, b1, nr, mr⟩ := k.facts; have c_pc := k.c.cpc; obtain ⟨l_pc, u_pc⟩ := k.c.rpc; (try simp only [BusI.val])))
  all_goals (refine bodyPost_ret (v := BusI.val (s.indexed i).2) (by simp [results, Tryz.results98, go_sem, BusI.val, *] <;> (repeat' (first | rfl | constructor))) rfl (And.intro rfl ?_))
  all_goals (apply Tn.eq; (case h => repeat (first | with_reducible exact k.t | with_reducible exact h | with_reducible apply Tn.drew | with_reducible apply Tn.alloc | ((with_reducible apply Tn.other); (case hne => omega); (case hb => omega)))); (case e => rfl))

theorem absoluteBy_any {B : Nat} {s : PC} {w0 w : World} (h : Tn B s w0 w) (i : Int) (i1 : 0 ≤ i) (i2 : i < 256) :
    Calls Tryz.prog 98 #[.pointer (some ⟨B, 0, none⟩), .int .u8 i] w fun e w' => e = .returned (s.absoluteBy i).2.val ∧ Tn B (s.absoluteBy i).1 w0 w' := by
  by_cases e1 : s.step = 1
  · exact absoluteBy_1 h i i1 i2 e1
  by_cases e2 : s.step = 2
  · exact absoluteBy_2 h i i1 i2 e2
  exact absoluteBy_d h i i1 i2 (by simpa using e1) (by simpa using e2)

set_option maxRecDepth 100000 in
set_option maxHeartbeats 1000000 in
theorem absoluteX_any {B : Nat} {s : PC} {w0 w : World} (h : Tn B s w0 w) :
    Calls Tryz.prog 68 #[.pointer (some ⟨B, 0, none⟩)] w fun e w' => e = .returned (s.absoluteBy s.x).2.val ∧ Tn B (s.absoluteBy s.x).1 w0 w' := by
  have c_x := h.c.cx; obtain ⟨l_x, u_x⟩ := h.c.rx
  have hlt := h.c.lt
  have hsz := h.g.size
  have n0 : w.heap.size ≠ B := by omega
  have m0 : B ≠ w.heap.size := by omega
  have fz0 := h.c.free
  go_enter Tryz.func68, Tryz.ntmps68
  go_wp2_with (first | (go_at_call 98; refine (Ck.call (w0 := w0) (R := w.heap.size) (by repeat (first | with_reducible exact k | with_reducible apply Ck.drew | ((with_reducible apply Ck.mk'); (case hR => (simp; done)); (case h => (repeat (first | with_reducible exact h | with_reducible apply Tn.drew | with_reducible apply Tn.alloc | ((with_reducible apply Tn.other); (case hne => omega); (case hb => omega)))))) | with_reducible apply Ck.alloc)) (fun h => absoluteBy_any h _ (by first | assumption | omega | exact (top_r _).1 | exact (top_r _).2 | exact (wr16_r _).1 | exact (wr16_r _).2 | (unfold PC.stackTop joinI; omega) | (unfold withinI joinI loI hiI; omega) | (unfold joinI loI hiI; omega) | (unfold loI; omega) | (unfold hiI; omega)) (by first | assumption | omega | exact (top_r _).1 | exact (top_r _).2 | exact (wr16_r _).1 | exact (wr16_r _).2 | (unfold PC.stackTop joinI; omega) | (unfold withinI joinI loI hiI; omega) | (unfold joinI loI hiI; omega) | (unfold loI; omega) | (unfold hiI; omega)))).mono ?_; rintro e w1 ⟨rfl, k, -, -, -⟩; obtain ⟨⟨r0, r1, r2, r3⟩, r4, z0, n1, n2, m1, m2, fz, b1, nr, mr⟩ := k.facts; (try simp only [BusI.val])))
  all_goals (refine bodyPost_ret (v := BusI.val (s.absoluteBy s.x).2) (by simp [results, Tryz.results68, go_sem, BusI.val, *] <;> (repeat' (first | rfl | constructor))) rfl (And.intro rfl ?_))
  all_goals (apply Tn.eq; (case h => repeat (first | with_reducible exact k.t | with_reducible exact h | with_reducible apply Tn.drew | with_reducible apply Tn.alloc | ((with_reducible apply Tn.other); (case hne => omega); (case hb => omega)))); (case e => rfl))

set_option maxRecDepth 100000 in
set_option maxHeartbeats 1000000 in
theorem absoluteY_any {B : Nat} {s : PC} {w0 w : World} (h : Tn B s w0 w) :
    Calls Tryz.prog 69 #[.pointer (some ⟨B, 0, none⟩)] w fun e w' => e = .returned (s.absoluteBy s.y).2.val ∧ Tn B (s.absoluteBy s.y).1 w0 w' := by
  have c_y := h.c.cy; obtain ⟨l_y, u_y⟩ := h.c.ry
  have hlt := h.c.lt
  have hsz := h.g.size
  have n0 : w.heap.size ≠ B := by omega
  have m0 : B ≠ w.heap.size := by omega
  have fz0 := h.c.free
  go_enter Tryz.func69, Tryz.ntmps69
  go_wp2_with (first | (go_at_call 98; refine (Ck.call (w0 := w0) (R := w.heap.size) (by repeat (first | with_reducible exact k | with_reducible apply Ck.drew | ((with_reducible apply Ck.mk'); (case hR => (simp; done)); (case h => (repeat (first | with_reducible exact h | with_reducible apply Tn.drew | with_reducible apply Tn.alloc | ((with_reducible apply Tn.other); (case hne => omega); (case hb => omega)))))) | with_reducible apply Ck.alloc)) (fun h => absoluteBy_any h _ (by first | assumption | omega | exact (top_r _).1 | exact (top_r _).2 | exact (wr16_r _).1 | exact (wr16_r _).2 | (unfold PC.stackTop joinI; omega) | (unfold withinI joinI loI hiI; omega) | (unfold joinI loI hiI; omega) | (unfold loI; omega) | (unfold hiI; omega)) (by first | assumption | omega | exact (top_r _).1 | exact (top_r _).2 | exact (wr16_r _).1 | exact (wr16_r _).2 | (unfold PC.stackTop joinI; omega) | (unfold withinI joinI loI hiI; omega) | (unfold joinI loI hiI; omega) | (unfold loI; omega) | (unfold hiI; omega)))).mono ?_; rintro e w1 ⟨rfl, k, -, -, -⟩; obtain ⟨⟨r0, r1, r2, r3⟩, r4, z0, n1, n2, m1, m2, fz, b1, nr, mr⟩ := k.facts; (try simp only [BusI.val])))
  all_goals (refine bodyPost_ret (v := BusI.val (s.absoluteBy s.y).2) (by simp [results, Tryz.results69, go_sem, BusI.val, *] <;> (repeat' (first | rfl | constructor))) rfl (And.intro rfl ?_))
  all_goals (apply Tn.eq; (case h => repeat (first | with_reducible exact k.t | with_reducible exact h | with_reducible apply Tn.drew | with_reducible apply Tn.alloc | ((with_reducible apply Tn.other); (case hne => omega); (case hb => omega)))); (case e => rfl))

end Go.Proofs.YtcgjliflnnklnabGreat
