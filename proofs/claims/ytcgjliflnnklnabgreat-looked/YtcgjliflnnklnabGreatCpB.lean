/-
  The bus, the timer, and what the modes are made of, walked.
-/
import Derived.Test.YtcgjliflnnklnabGreatCpI
namespace Go.Proofs.YtcgjliflnnklnabGreat
open Go.RowKit

theorem CAt.cast {w : World} {B : Nat} {s1 s2 : PC} (h : CAt w B s1) (e : s1 = s2) : CAt w B s2 := e ▸ h
theorem CAt.drew {w : World} {B : Nat} {s : PC} (h : CAt w B s) : CAt w.drew B s := h.same rfl
theorem CAt.alloc {w : World} {B : Nat} {s : PC} {o : Obj} (h : CAt w B s) : CAt (w.alloc o) B s := h.same (Below.heap_alloc _ _ _ h.lt)
theorem G.drew {w0 w : World} {B : Nat} (h : w0.grownBy w (some B)) : w0.grownBy w.drew (some B) := cp_trans h (cp_drew _ _)
theorem G.alloc {w0 w : World} {B : Nat} {o : Obj} (h : w0.grownBy w (some B)) : w0.grownBy (w.alloc o) (some B) := cp_trans h (cp_alloc _ _ _)
theorem G.set {w0 w : World} {B o : Nat} {v : Value} (h : w0.grownBy w (some B)) : w0.grownBy (w.setCell ⟨B, o, none⟩ v) (some B) := cp_trans h (cp_set _ _ _ _)
theorem G.thru {w0 W w1 : World} {B : Nat} {s1 : PC} (h1 : Tn B s1 W w1) (h : w0.grownBy W (some B)) : w0.grownBy w1 (some B) := cp_trans h h1.g
theorem CAt.other {w : World} {B b o : Nat} {v : Value} {s : PC} (h : CAt w B s) (hne : b ≠ B) : CAt (w.setCell ⟨b, o, none⟩ v) B s := h.same (Below.heap_setCell _ _ _ _ (fun e => hne e.symm))
theorem G.other {w0 w : World} {B b o : Nat} {v : Value} (h : w0.grownBy w (some B)) (hb : w0.heap.size ≤ b) : w0.grownBy (w.setCell ⟨b, o, none⟩ v) (some B) :=
  ⟨h.os, h.tape, h.output, by simpa using h.size, fun k hk hne => (Below.heap_setCell _ _ _ _ (fun e => by simp at e; omega)).trans (h.block k hk hne)⟩
/-- A block that is not the computer's is as it was. -/
theorem kept {B : Nat} {s1 : PC} {W w1 : World} (h1 : Tn B s1 W w1) :
    (∀ b o, b ≠ B → b < W.heap.size → w1.cell? ⟨b, o, none⟩ = W.cell? ⟨b, o, none⟩) ∧ (∀ b o, b ≠ B → b < W.heap.size → w1.frozen? ⟨b, o, none⟩ = W.frozen? ⟨b, o, none⟩) :=
  ⟨fun b o hne hb => World.cell?_of_block (a := ⟨b, o, none⟩) (h1.g.block b hb (fun q => hne (by injection q))), fun b o hne hb => World.frozen?_of_block (a := ⟨b, o, none⟩) (h1.g.block b hb (fun q => hne (by injection q)))⟩

theorem four_new (w : World) (a b c d : Value) (t : TypeId) : (w.alloc (.cells #[a, b, c, d] t)).heap[w.heap.size]? = some (.cells #[a, b, c, d] t (0, 0)) := heap_alloc_new w _
theorem four_new' {w : World} {R : Nat} {a b c d : Value} {t : TypeId} (hR : w.heap.size = R) : (w.alloc (.cells #[a, b, c, d] t)).heap[R]? = some (.cells #[a, b, c, d] t (0, 0)) := hR ▸ four_new w a b c d t
theorem four_drew {w : World} {R : Nat} {o : Obj} (h : w.heap[R]? = some o) : w.drew.heap[R]? = some o := h
theorem four_alloc {w : World} {R : Nat} {o p : Obj} (h : w.heap[R]? = some o) : (w.alloc p).heap[R]? = some o := by
  have hl : R < w.heap.size := by
    by_cases e : R < w.heap.size
    · exact e
    · rw [Array.getElem?_eq_none (by omega)] at h; cases h
  rw [Below.heap_alloc _ _ _ hl]; exact h
theorem four_set {w : World} {R b o : Nat} {v : Value} {p : Obj} (h : w.heap[R]? = some p) (hne : b ≠ R) : (w.setCell ⟨b, o, none⟩ v).heap[R]? = some p := by
  rw [Below.heap_setCell _ _ _ _ (fun e => hne e.symm)]; exact h
theorem four_thru {B : Nat} {s1 : PC} {W w1 : World} {R : Nat} {p : Obj} (h1 : Tn B s1 W w1) (hne : R ≠ B) (h : W.heap[R]? = some p) : w1.heap[R]? = some p := by
  have hl : R < W.heap.size := by
    by_cases e : R < W.heap.size
    · exact e
    · rw [Array.getElem?_eq_none (by omega)] at h; cases h
  rw [h1.g.block R hl (fun q => hne (by injection q))]; exact h
theorem cells4 {w : World} {R : Nat} {a b c d : Value} {t : TypeId} (h : w.heap[R]? = some (.cells #[a, b, c, d] t (0, 0))) :
    (w.cell? ⟨R, 0, none⟩ = some a ∧ w.cell? ⟨R, 1, none⟩ = some b ∧ w.cell? ⟨R, 2, none⟩ = some c ∧ w.cell? ⟨R, 3, none⟩ = some d) ∧ (∀ o, w.frozen? ⟨R, o, none⟩ = false) := by
  refine ⟨⟨?_, ?_, ?_, ?_⟩, ?_⟩
  · rw [cell_of_row _ _ _ _ _ _ h]; rfl
  · rw [cell_of_row _ _ _ _ _ _ h]; rfl
  · rw [cell_of_row _ _ _ _ _ _ h]; rfl
  · rw [cell_of_row _ _ _ _ _ _ h]; rfl
  · intro o; unfold World.frozen?; rw [h]; simp

set_option maxRecDepth 100000 in
set_option maxHeartbeats 1000000 in
theorem look_a {B : Nat} {s : PC} {w0 w : World} (h : Tn B s w0 w) (a : Int) (h1 : 0 ≤ a) (h2 : a < 65536) :
    Calls Tryz.prog 27 #[.pointer (some ⟨B, 0, none⟩), .int .u16 a] w fun e w' => e = .returned (.int .u8 (s.look a)) ∧ w' = w := by
  by_cases e1 : a = 53248
  · subst e1
    have c_cnt := h.c.ccnt; obtain ⟨l_cnt, u_cnt⟩ := h.c.rcnt
    go_enter Tryz.func27, Tryz.ntmps27
    go_wp2
    go_ret
    exact ⟨cp_int (by simp [PC.look]), rfl⟩
  · by_cases e2 : a = 53249
    · subst e2
      have c1 := h.c.ccalls
      cases hc : s.calls
      all_goals
        rw [hc] at c1
        go_enter Tryz.func27, Tryz.ntmps27
        go_wp2
        go_ret
        exact ⟨cp_int (by simp [PC.look, hc]), rfl⟩
    · obtain ⟨n, rfl⟩ := Int.eq_ofNat_of_zero_le h1
      have q1 : ((n : Int) == 53248) = false := by rw [beq_eq_false_iff_ne]; exact e1
      have q2 : ((n : Int) == 53249) = false := by rw [beq_eq_false_iff_ne]; exact e2
      have hm := h.c.mem n (by omega)
      have hr : Hid (s.look n = s.mem n) := by show _ = _; rw [PC.look, if_neg e1, if_neg e2, Int.toNat_natCast]
      clear e1 e2
      go_enter Tryz.func27, Tryz.ntmps27
      go_wp2
      go_ret
      exact ⟨cp_int hr.out.symm, rfl⟩

theorem look_r {B : Nat} {s : PC} {w : World} (h : CAt w B s) (a : Int) (h2 : a < 65536) : 0 ≤ s.look a ∧ s.look a < 256 := by
  unfold PC.look
  split
  · exact h.rcnt
  · split
    · split <;> decide
    · exact h.rmem _ (by omega)

set_option maxRecDepth 100000 in
set_option maxHeartbeats 1000000 in
theorem tick_any {B : Nat} {s : PC} {w0 w : World} (h : Tn B s w0 w) :
    Calls Tryz.prog 33 #[.pointer (some ⟨B, 65537, none⟩)] w fun e w' => e = .returned (.tuple #[]) ∧ Tn B s.tick w0 w' := by
  have c_cnt := h.c.ccnt; obtain ⟨l_cnt, u_cnt⟩ := h.c.rcnt; have c_calls := h.c.ccalls
  have f_cnt := h.c.free 65537; have f_calls := h.c.free 65538
  by_cases e0 : s.cnt = 0
  · have e1 : (s.cnt == 0) = true := by rw [e0]; rfl
    go_enter Tryz.func33, Tryz.ntmps33
    go_wp2
    exact bodyPost_ret (v := .tuple #[]) (by simp [results, Tryz.results33, go_sem]) rfl ⟨rfl, h.eq (by unfold PC.tick; rw [if_pos e0])⟩
  · have e1 : (s.cnt == 0) = false := by rw [beq_eq_false_iff_ne]; exact e0
    have q : IntKind.u8.wrap (s.cnt - 1) = s.cnt - 1 := by rw [IntKind.wrap_u8']; omega
    have q2 : (s.cnt - 1) % 256 = s.cnt - 1 := by omega
    have l0 : 1 ≤ s.cnt := by omega
    by_cases e2 : s.cnt - 1 = 0
    · have e3 : (s.cnt - 1 == 0) = true := by rw [e2]; rfl
      have H : Hid (s.tick = { s with cnt := s.cnt - 1, calls := true }) := by show _ = _; unfold PC.tick; rw [if_neg e0, q2, if_pos e2]
      clear q2 e2 e0
      go_enter Tryz.func33, Tryz.ntmps33
      go_wp2
      go_end0
      refine ⟨rfl, ?_⟩
      apply Tn.eq
      · repeat (first | with_reducible exact h | with_reducible apply Tn.drew | with_reducible apply Tn.alloc | (with_reducible apply Tn.setCnt; case hv => (first | assumption | exact ⟨by assumption, by assumption⟩ | exact wr_r _ | exact wr16_r _ | omega | exact bit_r _ _ _ | exact nz_r _ _ | exact setf_r _ _ _ | exact setp_r _ | (unfold loI; omega) | (unfold joinI; omega) | (unfold joinI loI; omega) | (unfold withinI joinI loI hiI; omega))) | with_reducible apply Tn.setCalls)
      · exact H.out.symm
    · have e3 : (s.cnt - 1 == 0) = false := by rw [beq_eq_false_iff_ne]; exact e2
      have H : Hid (s.tick = { s with cnt := s.cnt - 1 }) := by show _ = _; unfold PC.tick; rw [if_neg e0, q2, if_neg e2]
      clear q2 e2 e0
      go_enter Tryz.func33, Tryz.ntmps33
      go_wp2
      go_end0
      refine ⟨rfl, ?_⟩
      apply Tn.eq
      · repeat (first | with_reducible exact h | with_reducible apply Tn.drew | with_reducible apply Tn.alloc | (with_reducible apply Tn.setCnt; case hv => (first | assumption | exact ⟨by assumption, by assumption⟩ | exact wr_r _ | exact wr16_r _ | omega | exact bit_r _ _ _ | exact nz_r _ _ | exact setf_r _ _ _ | exact setp_r _ | (unfold loI; omega) | (unfold joinI; omega) | (unfold joinI loI; omega) | (unfold withinI joinI loI hiI; omega))) | with_reducible apply Tn.setCalls)
      · exact H.out.symm

set_option maxRecDepth 100000 in
set_option maxHeartbeats 1000000 in
theorem read_any {B : Nat} {s : PC} {w0 w : World} (h : Tn B s w0 w) (a : Int) (h1 : 0 ≤ a) (h2 : a < 65536) :
    Calls Tryz.prog 53 #[.pointer (some ⟨B, 0, none⟩), .int .u16 a] w fun e w' => e = .returned (s.read a).2.val ∧ Tn B (s.read a).1 w0 w' := by
  have c_calls := h.c.ccalls
  have f_calls := h.c.free 65538
  obtain ⟨l1, l2⟩ := look_r h.c a h2
  have hlt := h.c.lt
  by_cases e1 : a = 53249
  · subst e1
    go_enter Tryz.func53, Tryz.ntmps53
    go_wp2_with (first | (go_at_call 27; refine (look_a (h.alloc _) _ (by omega) (by omega)).mono ?_; rintro e w' ⟨rfl, rfl⟩))
    refine bodyPost_ret (v := BusI.val ⟨53249, s.look 53249, false, false⟩) (by simp [results, Tryz.results53, go_sem, BusI.val]) rfl ⟨rfl, ?_⟩
    apply Tn.eq
    · repeat (first | with_reducible exact h | with_reducible apply Tn.drew | with_reducible apply Tn.alloc | with_reducible apply Tn.setCalls)
    · rfl
  · have q2 : (a == 53249) = false := by rw [beq_eq_false_iff_ne]; exact e1
    go_enter Tryz.func53, Tryz.ntmps53
    go_wp2_with (first | (go_at_call 27; refine (look_a (h.alloc _) _ (by omega) (by omega)).mono ?_; rintro e w' ⟨rfl, rfl⟩))
    refine bodyPost_ret (v := BusI.val ⟨a, s.look a, false, false⟩) (by simp [results, Tryz.results53, go_sem, BusI.val]) rfl ⟨rfl, ?_⟩
    apply Tn.eq
    · repeat (first | with_reducible exact h | with_reducible apply Tn.drew | with_reducible apply Tn.alloc | with_reducible apply Tn.setCalls)
    · simp only [PC.read, PC.read1]; rw [if_neg e1]

set_option maxRecDepth 100000 in
set_option maxHeartbeats 1000000 in
theorem write_any {B : Nat} {s : PC} {w0 w : World} (h : Tn B s w0 w) (a d : Int) (h1 : 0 ≤ a) (h2 : a < 65536) (d1 : 0 ≤ d) (d2 : d < 256) :
    Calls Tryz.prog 59 #[.pointer (some ⟨B, 0, none⟩), .int .u16 a, .int .u8 d] w fun e w' => e = .returned (s.write a d).2.val ∧ Tn B (s.write a d).1 w0 w' := by
  have c_rom := h.c.crom; obtain ⟨l_rom, u_rom⟩ := h.c.rrom; have c_cnt := h.c.ccnt; obtain ⟨l_cnt, u_cnt⟩ := h.c.rcnt
  have hlt := h.c.lt
  by_cases e1 : a = 53248
  · subst e1
    have f_cnt := h.c.free 65537
    go_enter Tryz.func59, Tryz.ntmps59
    go_wp2
    refine bodyPost_ret (v := BusI.val ⟨53248, d, true, false⟩) (by simp [results, Tryz.results59, go_sem, BusI.val]) rfl ⟨rfl, ?_⟩
    apply Tn.eq
    · repeat (first | with_reducible exact h | with_reducible apply Tn.drew | with_reducible apply Tn.alloc | (with_reducible apply Tn.setCnt; case hv => (first | assumption | exact ⟨by assumption, by assumption⟩ | exact wr_r _ | exact wr16_r _ | omega | exact bit_r _ _ _ | exact nz_r _ _ | exact setf_r _ _ _ | exact setp_r _ | (unfold loI; omega) | (unfold joinI; omega) | (unfold joinI loI; omega) | (unfold withinI joinI loI hiI; omega))))
    · rfl
  · have q1 : (a == 53248) = false := by rw [beq_eq_false_iff_ne]; exact e1
    by_cases e2 : a = 53249
    · subst e2
      go_enter Tryz.func59, Tryz.ntmps59
      go_wp2
      refine bodyPost_ret (v := BusI.val ⟨53249, d, true, false⟩) (by simp [results, Tryz.results59, go_sem, BusI.val]) rfl ⟨rfl, ?_⟩
      apply Tn.eq
      · repeat (first | with_reducible exact h | with_reducible apply Tn.drew | with_reducible apply Tn.alloc | (with_reducible apply Tn.setCnt; case hv => (first | assumption | exact ⟨by assumption, by assumption⟩ | exact wr_r _ | exact wr16_r _ | omega | exact bit_r _ _ _ | exact nz_r _ _ | exact setf_r _ _ _ | exact setp_r _ | (unfold loI; omega) | (unfold joinI; omega) | (unfold joinI loI; omega) | (unfold withinI joinI loI hiI; omega))))
      · rfl
    · have q2 : (a != 53249) = true := by rw [bne_iff_ne]; exact e2
      by_cases e3 : a < s.rom
      · obtain ⟨n, rfl⟩ := Int.eq_ofNat_of_zero_le h1
        have hm := h.c.mem n (by omega)
        have hf := h.c.free n
        have H : Hid ((s.write n d).1 = { s with mem := mput s.mem n d }) := by show _ = _; simp only [PC.write, PC.write1]; rw [if_neg e1, if_pos ⟨e2, e3⟩, Int.toNat_natCast]
        clear e1 e2
        go_enter Tryz.func59, Tryz.ntmps59
        go_wp2
        refine bodyPost_ret (v := BusI.val ⟨n, d, true, false⟩) (by simp [results, Tryz.results59, go_sem, BusI.val]) rfl ⟨rfl, ?_⟩
        exact ((h.setMem n d (by omega) ⟨d1, d2⟩).alloc _).eq H.out.symm
      · have H : Hid ((s.write a d).1 = s) := by show _ = _; simp only [PC.write, PC.write1]; rw [if_neg e1, if_neg (fun q => e3 q.2)]
        have e4 : s.rom ≤ a := by omega
        clear e1 e2
        go_enter Tryz.func59, Tryz.ntmps59
        go_wp2
        refine bodyPost_ret (v := BusI.val ⟨a, d, true, false⟩) (by simp [results, Tryz.results59, go_sem, BusI.val]) rfl ⟨rfl, ?_⟩
        apply Tn.eq
        · repeat (first | with_reducible exact h | with_reducible apply Tn.drew | with_reducible apply Tn.alloc | (with_reducible apply Tn.setCnt; case hv => (first | assumption | exact ⟨by assumption, by assumption⟩ | exact wr_r _ | exact wr16_r _ | omega | exact bit_r _ _ _ | exact nz_r _ _ | exact setf_r _ _ _ | exact setp_r _ | (unfold loI; omega) | (unfold joinI; omega) | (unfold joinI loI; omega) | (unfold withinI joinI loI hiI; omega))))
        · exact H.out.symm

set_option maxRecDepth 100000 in
set_option maxHeartbeats 1000000 in
theorem finish_any {B : Nat} {s : PC} {w0 w : World} (h : Tn B s w0 w) :
    Calls Tryz.prog 93 #[.pointer (some ⟨B, 0, none⟩)] w fun e w' => e = .returned (.tuple #[]) ∧ Tn B s.finish w0 w' := by
  have c_a := h.c.ca; obtain ⟨l_a, u_a⟩ := h.c.ra; have c_x := h.c.cx; obtain ⟨l_x, u_x⟩ := h.c.rx; have c_y := h.c.cy; obtain ⟨l_y, u_y⟩ := h.c.ry; have c_s := h.c.cs; obtain ⟨l_s, u_s⟩ := h.c.rs; have c_p := h.c.cp; obtain ⟨l_p, u_p⟩ := h.c.rp; have c_pc := h.c.cpc; obtain ⟨l_pc, u_pc⟩ := h.c.rpc; have c_ba := h.c.cba; obtain ⟨l_ba, u_ba⟩ := h.c.rba; have c_bx := h.c.cbx; obtain ⟨l_bx, u_bx⟩ := h.c.rbx; have c_b_y := h.c.cb_y; obtain ⟨l_b_y, u_b_y⟩ := h.c.rb_y; have c_bs := h.c.cbs; obtain ⟨l_bs, u_bs⟩ := h.c.rbs; have c_bp := h.c.cbp; obtain ⟨l_bp, u_bp⟩ := h.c.rbp; have c_bpc := h.c.cbpc; obtain ⟨l_bpc, u_bpc⟩ := h.c.rbpc; have c_st := h.c.cst; obtain ⟨l_st, u_st⟩ := h.c.rst
  have f_ba := h.c.free 65545; have f_bx := h.c.free 65546; have f_b_y := h.c.free 65547; have f_bs := h.c.free 65548; have f_bp := h.c.free 65549; have f_bpc := h.c.free 65550; have f_st := h.c.free 65551
  go_enter Tryz.func93, Tryz.ntmps93
  go_wp2
  go_end0
  refine ⟨rfl, ?_⟩
  apply Tn.eq
  · repeat (first | with_reducible exact h | with_reducible apply Tn.drew | with_reducible apply Tn.alloc | (with_reducible apply Tn.setBa; case hv => (first | assumption | exact ⟨by assumption, by assumption⟩ | exact wr_r _ | exact wr16_r _ | omega | exact bit_r _ _ _ | exact nz_r _ _ | exact setf_r _ _ _ | exact setp_r _ | (unfold loI; omega) | (unfold joinI; omega) | (unfold joinI loI; omega) | (unfold withinI joinI loI hiI; omega))) | (with_reducible apply Tn.setBx; case hv => (first | assumption | exact ⟨by assumption, by assumption⟩ | exact wr_r _ | exact wr16_r _ | omega | exact bit_r _ _ _ | exact nz_r _ _ | exact setf_r _ _ _ | exact setp_r _ | (unfold loI; omega) | (unfold joinI; omega) | (unfold joinI loI; omega) | (unfold withinI joinI loI hiI; omega))) | (with_reducible apply Tn.setB_y; case hv => (first | assumption | exact ⟨by assumption, by assumption⟩ | exact wr_r _ | exact wr16_r _ | omega | exact bit_r _ _ _ | exact nz_r _ _ | exact setf_r _ _ _ | exact setp_r _ | (unfold loI; omega) | (unfold joinI; omega) | (unfold joinI loI; omega) | (unfold withinI joinI loI hiI; omega))) | (with_reducible apply Tn.setBs; case hv => (first | assumption | exact ⟨by assumption, by assumption⟩ | exact wr_r _ | exact wr16_r _ | omega | exact bit_r _ _ _ | exact nz_r _ _ | exact setf_r _ _ _ | exact setp_r _ | (unfold loI; omega) | (unfold joinI; omega) | (unfold joinI loI; omega) | (unfold withinI joinI loI hiI; omega))) | (with_reducible apply Tn.setBp; case hv => (first | assumption | exact ⟨by assumption, by assumption⟩ | exact wr_r _ | exact wr16_r _ | omega | exact bit_r _ _ _ | exact nz_r _ _ | exact setf_r _ _ _ | exact setp_r _ | (unfold loI; omega) | (unfold joinI; omega) | (unfold joinI loI; omega) | (unfold withinI joinI loI hiI; omega))) | (with_reducible apply Tn.setBpc; case hv => (first | assumption | exact ⟨by assumption, by assumption⟩ | exact wr_r _ | exact wr16_r _ | omega | exact bit_r _ _ _ | exact nz_r _ _ | exact setf_r _ _ _ | exact setp_r _ | (unfold loI; omega) | (unfold joinI; omega) | (unfold joinI loI; omega) | (unfold withinI joinI loI hiI; omega))) | (with_reducible apply Tn.setSt; case hv => (first | assumption | exact ⟨by assumption, by assumption⟩ | exact wr_r _ | exact wr16_r _ | omega | exact bit_r _ _ _ | exact nz_r _ _ | exact setf_r _ _ _ | exact setp_r _ | (unfold loI; omega) | (unfold joinI; omega) | (unfold joinI loI; omega) | (unfold withinI joinI loI hiI; omega))))
  · rfl

theorem val_mk (a d : Int) (x y : Bool) : Value.agg #[.int .i64 a, .int .i64 d, .bool x, .bool y] = BusI.val ⟨a, d, x, y⟩ := rfl

set_option maxRecDepth 100000 in
set_option maxHeartbeats 1000000 in
theorem takeData_any {B : Nat} {s : PC} {w0 w : World} (h : Tn B s w0 w) (b : BusI) :
    Calls Tryz.prog 60 #[.pointer (some ⟨B, 0, none⟩), b.val] w fun e w' => e = .returned b.val ∧ Tn B (takeData (s, b)).1 w0 w' := by
  have c_data := h.c.cdata; obtain ⟨l_data, u_data⟩ := h.c.rdata
  have f_data := h.c.free 65557
  have hlt := h.c.lt
  obtain ⟨ba, bd, bw, bf⟩ := b
  rw [← val_mk]
  go_enter Tryz.func60, Tryz.ntmps60
  go_wp2
  refine bodyPost_ret (v := .agg #[.int .i64 ba, .int .i64 bd, .bool bw, .bool bf]) (by simp [results, Tryz.results60, go_sem]) rfl ⟨rfl, ?_⟩
  apply Tn.eq
  · repeat (first | with_reducible exact h | with_reducible apply Tn.drew | with_reducible apply Tn.alloc | (with_reducible apply Tn.setData; case hv => (first | assumption | exact ⟨by assumption, by assumption⟩ | exact wr_r _ | exact wr16_r _ | omega | exact bit_r _ _ _ | exact nz_r _ _ | exact setf_r _ _ _ | exact setp_r _ | (unfold loI; omega) | (unfold joinI; omega) | (unfold joinI loI; omega) | (unfold withinI joinI loI hiI; omega))))
  · rfl

end Go.Proofs.YtcgjliflnnklnabGreat
