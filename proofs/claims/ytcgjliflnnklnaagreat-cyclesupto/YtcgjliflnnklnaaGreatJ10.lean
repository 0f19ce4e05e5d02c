/-
  Joined texts.
-/
import Derived.Deep.MidRow
import Derived.Test.YtcgjliflnnklnaaGreatJ09
namespace Go.Proofs.YtcgjliflnnklnaaGreat
open Go.RowKit

/-
  The bus, the timer, and what the modes are made of, walked.
-/
section
set_option maxRecDepth 100000
set_option maxHeartbeats 1000000

theorem CAt.cast {w : World} {B : Nat} {s1 s2 : PC} (h : CAt w B s1) (e : s1 = s2) : CAt w B s2 := e ▸ h
theorem CAt.drew {w : World} {B : Nat} {s : PC} (h : CAt w B s) : CAt w.drew B s := h.same rfl
theorem CAt.alloc {w : World} {B : Nat} {s : PC} {o : Obj} (h : CAt w B s) : CAt (w.alloc o) B s := h.same (Below.heap_alloc _ _ _ h.lt)
theorem G.drew {w0 w : World} {B : Nat} (h : w0.grownBy w (some B)) : w0.grownBy w.drew (some B) := cp_trans h (cp_drew _ _)
theorem G.alloc {w0 w : World} {B : Nat} {o : Obj} (h : w0.grownBy w (some B)) : w0.grownBy (w.alloc o) (some B) := cp_trans h (cp_alloc _ _ _)
theorem G.set {w0 w : World} {B o : Nat} {v : Value} (h : w0.grownBy w (some B)) : w0.grownBy (w.setCell ⟨B, o, none⟩ v) (some B) := cp_trans h (cp_set _ _ _ _)
theorem G.thru {w0 W w1 : World} {B : Nat} {s1 : PC} (h1 : Tn B s1 W w1) (h : w0.grownBy W (some B)) : w0.grownBy w1 (some B) := cp_trans h h1.g
theorem CAt.other {w : World} {B b o : Nat} {v : Value} {s : PC} (h : CAt w B s) (hne : b ≠ B) : CAt (w.setCell ⟨b, o, none⟩ v) B s := h.same (Below.heap_setCell _ _ _ _ (fun e => hne e.symm))
theorem G.other {w0 w : World} {B b o : Nat} {v : Value} (h : w0.grownBy w (some B)) (hb : w0.heap.size ≤ b) : w0.grownBy (w.setCell ⟨b, o, none⟩ v) (some B) :=
  ⟨h.os, h.tape, h.output, by simpa using h.size, fun k hk hne => (Below.heap_setCell _ _ _ _ (fun e => by simp at e; omega)).trans (h.block k hk hne)⟩
/-- A block that is not the computer's is as it was. -/
theorem kept {B : Nat} {s1 : PC} {W w1 : World} (h1 : Tn B s1 W w1) :
    (∀ b o, b ≠ B → b < W.heap.size → w1.cell? ⟨b, o, none⟩ = W.cell? ⟨b, o, none⟩) ∧ (∀ b o, b ≠ B → b < W.heap.size → w1.frozen? ⟨b, o, none⟩ = W.frozen? ⟨b, o, none⟩) :=
  ⟨fun b o hne hb => World.cell?_of_block (a := ⟨b, o, none⟩) (h1.g.block b hb (fun q => hne (by injection q))), fun b o hne hb => World.frozen?_of_block (a := ⟨b, o, none⟩) (h1.g.block b hb (fun q => hne (by injection q)))⟩

theorem four_new (w : World) (a b c d : Value) (t : TypeId) : (w.alloc (.cells #[a, b, c, d] t)).heap[w.heap.size]? = some (.cells #[a, b, c, d] t (0, 0)) := heap_alloc_new w _
theorem four_new' {w : World} {R : Nat} {a b c d : Value} {t : TypeId} (hR : w.heap.size = R) : (w.alloc (.cells #[a, b, c, d] t)).heap[R]? = some (.cells #[a, b, c, d] t (0, 0)) := hR ▸ four_new w a b c d t
theorem four_drew {w : World} {R : Nat} {o : Obj} (h : w.heap[R]? = some o) : w.drew.heap[R]? = some o := h
theorem four_alloc {w : World} {R : Nat} {o p : Obj} (h : w.heap[R]? = some o) : (w.alloc p).heap[R]? = some o := by
  have hl : R < w.heap.size := by
    by_cases e : R < w.heap.size
    · exact e
    · rw [Array.getElem?_eq_none (by omega)] at h; cases h
  rw [Below.heap_alloc _ _ _ hl]; exact h
theorem four_set {w : World} {R b o : Nat} {v : Value} {p : Obj} (h : w.heap[R]? = some p) (hne : b ≠ R) : (w.setCell ⟨b, o, none⟩ v).heap[R]? = some p := by
  rw [Below.heap_setCell _ _ _ _ (fun e => hne e.symm)]; exact h
theorem four_thru {B : Nat} {s1 : PC} {W w1 : World} {R : Nat} {p : Obj} (h1 : Tn B s1 W w1) (hne : R ≠ B) (h : W.heap[R]? = some p) : w1.heap[R]? = some p := by
  have hl : R < W.heap.size := by
    by_cases e : R < W.heap.size
    · exact e
    · rw [Array.getElem?_eq_none (by omega)] at h; cases h
  rw [h1.g.block R hl (fun q => hne (by injection q))]; exact h
theorem cells4 {w : World} {R : Nat} {a b c d : Value} {t : TypeId} (h : w.heap[R]? = some (.cells #[a, b, c, d] t (0, 0))) :
    (w.cell? ⟨R, 0, none⟩ = some a ∧ w.cell? ⟨R, 1, none⟩ = some b ∧ w.cell? ⟨R, 2, none⟩ = some c ∧ w.cell? ⟨R, 3, none⟩ = some d) ∧ (∀ o, w.frozen? ⟨R, o, none⟩ = false) := by
  refine ⟨⟨?_, ?_, ?_, ?_⟩, ?_⟩
  · rw [cell_of_row _ _ _ _ _ _ h]; rfl
  · rw [cell_of_row _ _ _ _ _ _ h]; rfl
  · rw [cell_of_row _ _ _ _ _ _ h]; rfl
  · rw [cell_of_row _ _ _ _ _ _ h]; rfl
  · intro o; unfold World.frozen?; rw [h]; simp

theorem look_a {B : Nat} {s : PC} {w0 w : World} (h : Tn B s w0 w) (a : Int) (h1 : 0 ≤ a) (h2 : a < 65536) :
    Calls Tryz.prog 49 #[.pointer (some ⟨B, 0, none⟩), .int .u16 a] w fun e w' => e = .returned (.int .u8 (s.look a)) ∧ w' = w := by
  by_cases e1 : a = 53248
  · subst e1
    have c_cnt := h.c.ccnt; obtain ⟨l_cnt, u_cnt⟩ := h.c.rcnt
    go_enter Tryz.func49, Tryz.ntmps49
    go_wp2
    go_ret
    exact ⟨cp_int (by simp [PC.look]), rfl⟩
  · by_cases e2 : a = 53249
    · subst e2
      have c1 := h.c.ccalls
      cases hc : s.calls
      all_goals
        rw [hc] at c1
        go_enter Tryz.func49, Tryz.ntmps49
        go_wp2
        go_ret
        exact ⟨cp_int (by simp [PC.look, hc]), rfl⟩
    · obtain ⟨n, rfl⟩ := Int.eq_ofNat_of_zero_le h1
      have q1 : ((n : Int) == 53248) = false := by rw [beq_eq_false_iff_ne]; exact e1
      have q2 : ((n : Int) == 53249) = false := by rw [beq_eq_false_iff_ne]; exact e2
      have hm := h.c.mem n (by omega)
      have hr : Hid (s.look n = s.mem n) := by show _ = _; rw [PC.look, if_neg e1, if_neg e2, Int.toNat_natCast]
      clear e1 e2
      go_enter Tryz.func49, Tryz.ntmps49
      go_wp2
      go_ret
      exact ⟨cp_int hr.out.symm, rfl⟩

theorem look_r {B : Nat} {s : PC} {w : World} (h : CAt w B s) (a : Int) (h2 : a < 65536) : 0 ≤ s.look a ∧ s.look a < 256 := by
  unfold PC.look
  split
  · exact h.rcnt
  · split
    · split <;> decide
    · exact h.rmem _ (by omega)

theorem tick_any {B : Nat} {s : PC} {w0 w : World} (h : Tn B s w0 w) :
    Calls Tryz.prog 55 #[.pointer (some ⟨B, 65537, none⟩)] w fun e w' => e = .returned (.tuple #[]) ∧ Tn B s.tick w0 w' := by
  have c_cnt := h.c.ccnt; obtain ⟨l_cnt, u_cnt⟩ := h.c.rcnt; have c_calls := h.c.ccalls
  have f_cnt := h.c.free 65537; have f_calls := h.c.free 65538
  by_cases e0 : s.cnt = 0
  · have e1 : (s.cnt == 0) = true := by rw [e0]; rfl
    go_enter Tryz.func55, Tryz.ntmps55
    go_wp2
    exact bodyPost_ret (v := .tuple #[]) (by simp [results, Tryz.results55, go_sem]) rfl ⟨rfl, h.eq (by unfold PC.tick; rw [if_pos e0])⟩
  · have e1 : (s.cnt == 0) = false := by rw [beq_eq_false_iff_ne]; exact e0
    have q : IntKind.u8.wrap (s.cnt - 1) = s.cnt - 1 := by rw [IntKind.wrap_u8']; omega
    have q2 : (s.cnt - 1) % 256 = s.cnt - 1 := by omega
    have l0 : 1 ≤ s.cnt := by omega
    by_cases e2 : s.cnt - 1 = 0
    · have e3 : (s.cnt - 1 == 0) = true := by rw [e2]; rfl
      have H : Hid (s.tick = { s with cnt := s.cnt - 1, calls := true }) := by show _ = _; unfold PC.tick; rw [if_neg e0, q2, if_pos e2]
      clear q2 e2 e0
      go_enter Tryz.func55, Tryz.ntmps55
      go_wp2
      go_end0
      refine ⟨rfl, ?_⟩
      apply Tn.eq
      · repeat (first | with_reducible exact h | with_reducible apply Tn.drew | with_reducible apply Tn.alloc | (with_reducible apply Tn.setCnt; case hv => (first | assumption | exact ⟨by assumption, by assumption⟩ | exact wr_r _ | exact wr16_r _ | omega | exact bit_r _ _ _ | exact nz_r _ _ | exact setf_r _ _ _ | exact setp_r _ | (unfold loI; omega) | (unfold joinI; omega) | (unfold joinI loI; omega) | (unfold withinI joinI loI hiI; omega))) | with_reducible apply Tn.setCalls)
      · exact H.out.symm
    · have e3 : (s.cnt - 1 == 0) = false := by rw [beq_eq_false_iff_ne]; exact e2
      have H : Hid (s.tick = { s with cnt := s.cnt - 1 }) := by show _ = _; unfold PC.tick; rw [if_neg e0, q2, if_neg e2]
      clear q2 e2 e0
      go_enter Tryz.func55, Tryz.ntmps55
      go_wp2
      go_end0
      refine ⟨rfl, ?_⟩
      apply Tn.eq
      · repeat (first | with_reducible exact h | with_reducible apply Tn.drew | with_reducible apply Tn.alloc | (with_reducible apply Tn.setCnt; case hv => (first | assumption | exact ⟨by assumption, by assumption⟩ | exact wr_r _ | exact wr16_r _ | omega | exact bit_r _ _ _ | exact nz_r _ _ | exact setf_r _ _ _ | exact setp_r _ | (unfold loI; omega) | (unfold joinI; omega) | (unfold joinI loI; omega) | (unfold withinI joinI loI hiI; omega))) | with_reducible apply Tn.setCalls)
      · exact H.out.symm

theorem read_any {B : Nat} {s : PC} {w0 w : World} (h : Tn B s w0 w) (a : Int) (h1 : 0 ≤ a) (h2 : a < 65536) :
    Calls Tryz.prog 103 #[.pointer (some ⟨B, 0, none⟩), .int .u16 a] w fun e w' => e = .returned (s.read a).2.val ∧ Tn B (s.read a).1 w0 w' := by
  have c_calls := h.c.ccalls
  have f_calls := h.c.free 65538
  obtain ⟨l1, l2⟩ := look_r h.c a h2
  have hlt := h.c.lt
  by_cases e1 : a = 53249
  · subst e1
    go_enter Tryz.func103, Tryz.ntmps103
    go_wp2_with (first | (go_at_call 49; refine (look_a (h.alloc _) _ (by omega) (by omega)).mono ?_; rintro e w' ⟨rfl, rfl⟩))
    refine bodyPost_ret (v := BusI.val ⟨53249, s.look 53249, false, false⟩) (by simp [results, Tryz.results103, go_sem, BusI.val]) rfl ⟨rfl, ?_⟩
    apply Tn.eq
    · repeat (first | with_reducible exact h | with_reducible apply Tn.drew | with_reducible apply Tn.alloc | with_reducible apply Tn.setCalls)
    · rfl
  · have q2 : (a == 53249) = false := by rw [beq_eq_false_iff_ne]; exact e1
    go_enter Tryz.func103, Tryz.ntmps103
    go_wp2_with (first | (go_at_call 49; refine (look_a (h.alloc _) _ (by omega) (by omega)).mono ?_; rintro e w' ⟨rfl, rfl⟩))
    refine bodyPost_ret (v := BusI.val ⟨a, s.look a, false, false⟩) (by simp [results, Tryz.results103, go_sem, BusI.val]) rfl ⟨rfl, ?_⟩
    apply Tn.eq
    · repeat (first | with_reducible exact h | with_reducible apply Tn.drew | with_reducible apply Tn.alloc | with_reducible apply Tn.setCalls)
    · simp only [PC.read, PC.read1]; rw [if_neg e1]

theorem write_any {B : Nat} {s : PC} {w0 w : World} (h : Tn B s w0 w) (a d : Int) (h1 : 0 ≤ a) (h2 : a < 65536) (d1 : 0 ≤ d) (d2 : d < 256) :
    Calls Tryz.prog 109 #[.pointer (some ⟨B, 0, none⟩), .int .u16 a, .int .u8 d] w fun e w' => e = .returned (s.write a d).2.val ∧ Tn B (s.write a d).1 w0 w' := by
  have c_rom := h.c.crom; obtain ⟨l_rom, u_rom⟩ := h.c.rrom; have c_cnt := h.c.ccnt; obtain ⟨l_cnt, u_cnt⟩ := h.c.rcnt
  have hlt := h.c.lt
  by_cases e1 : a = 53248
  · subst e1
    have f_cnt := h.c.free 65537
    go_enter Tryz.func109, Tryz.ntmps109
    go_wp2
    refine bodyPost_ret (v := BusI.val ⟨53248, d, true, false⟩) (by simp [results, Tryz.results109, go_sem, BusI.val]) rfl ⟨rfl, ?_⟩
    apply Tn.eq
    · repeat (first | with_reducible exact h | with_reducible apply Tn.drew | with_reducible apply Tn.alloc | (with_reducible apply Tn.setCnt; case hv => (first | assumption | exact ⟨by assumption, by assumption⟩ | exact wr_r _ | exact wr16_r _ | omega | exact bit_r _ _ _ | exact nz_r _ _ | exact setf_r _ _ _ | exact setp_r _ | (unfold loI; omega) | (unfold joinI; omega) | (unfold joinI loI; omega) | (unfold withinI joinI loI hiI; omega))))
    · rfl
  · have q1 : (a == 53248) = false := by rw [beq_eq_false_iff_ne]; exact e1
    by_cases e2 : a = 53249
    · subst e2
      go_enter Tryz.func109, Tryz.ntmps109
      go_wp2
      refine bodyPost_ret (v := BusI.val ⟨53249, d, true, false⟩) (by simp [results, Tryz.results109, go_sem, BusI.val]) rfl ⟨rfl, ?_⟩
      apply Tn.eq
      · repeat (first | with_reducible exact h | with_reducible apply Tn.drew | with_reducible apply Tn.alloc | (with_reducible apply Tn.setCnt; case hv => (first | assumption | exact ⟨by assumption, by assumption⟩ | exact wr_r _ | exact wr16_r _ | omega | exact bit_r _ _ _ | exact nz_r _ _ | exact setf_r _ _ _ | exact setp_r _ | (unfold loI; omega) | (unfold joinI; omega) | (unfold joinI loI; omega) | (unfold withinI joinI loI hiI; omega))))
      · rfl
    · have q2 : (a != 53249) = true := by rw [bne_iff_ne]; exact e2
      by_cases e3 : a < s.rom
      · obtain ⟨n, rfl⟩ := Int.eq_ofNat_of_zero_le h1
        have hm := h.c.mem n (by omega)
        have hf := h.c.free n
        have H : Hid ((s.write n d).1 = { s with mem := mput s.mem n d }) := by show _ = _; simp only [PC.write, PC.write1]; rw [if_neg e1, if_pos ⟨e2, e3⟩, Int.toNat_natCast]
        clear e1 e2
        go_enter Tryz.func109, Tryz.ntmps109
        go_wp2
        refine bodyPost_ret (v := BusI.val ⟨n, d, true, false⟩) (by simp [results, Tryz.results109, go_sem, BusI.val]) rfl ⟨rfl, ?_⟩
        exact ((h.setMem n d (by omega) ⟨d1, d2⟩).alloc _).eq H.out.symm
      · have H : Hid ((s.write a d).1 = s) := by show _ = _; simp only [PC.write, PC.write1]; rw [if_neg e1, if_neg (fun q => e3 q.2)]
        have e4 : s.rom ≤ a := by omega
        clear e1 e2
        go_enter Tryz.func109, Tryz.ntmps109
        go_wp2
        refine bodyPost_ret (v := BusI.val ⟨a, d, true, false⟩) (by simp [results, Tryz.results109, go_sem, BusI.val]) rfl ⟨rfl, ?_⟩
        apply Tn.eq
        · repeat (first | with_reducible exact h | with_reducible apply Tn.drew | with_reducible apply Tn.alloc | (with_reducible apply Tn.setCnt; case hv => (first | assumption | exact ⟨by assumption, by assumption⟩ | exact wr_r _ | exact wr16_r _ | omega | exact bit_r _ _ _ | exact nz_r _ _ | exact setf_r _ _ _ | exact setp_r _ | (unfold loI; omega) | (unfold joinI; omega) | (unfold joinI loI; omega) | (unfold withinI joinI loI hiI; omega))))
        · exact H.out.symm

theorem finish_any {B : Nat} {s : PC} {w0 w : World} (h : Tn B s w0 w) :
    Calls Tryz.prog 168 #[.pointer (some ⟨B, 0, none⟩)] w fun e w' => e = .returned (.tuple #[]) ∧ Tn B s.finish w0 w' := by
  have c_a := h.c.ca; obtain ⟨l_a, u_a⟩ := h.c.ra; have c_x := h.c.cx; obtain ⟨l_x, u_x⟩ := h.c.rx; have c_y := h.c.cy; obtain ⟨l_y, u_y⟩ := h.c.ry; have c_s := h.c.cs; obtain ⟨l_s, u_s⟩ := h.c.rs; have c_p := h.c.cp; obtain ⟨l_p, u_p⟩ := h.c.rp; have c_pc := h.c.cpc; obtain ⟨l_pc, u_pc⟩ := h.c.rpc; have c_ba := h.c.cba; obtain ⟨l_ba, u_ba⟩ := h.c.rba; have c_bx := h.c.cbx; obtain ⟨l_bx, u_bx⟩ := h.c.rbx; have c_b_y := h.c.cb_y; obtain ⟨l_b_y, u_b_y⟩ := h.c.rb_y; have c_bs := h.c.cbs; obtain ⟨l_bs, u_bs⟩ := h.c.rbs; have c_bp := h.c.cbp; obtain ⟨l_bp, u_bp⟩ := h.c.rbp; have c_bpc := h.c.cbpc; obtain ⟨l_bpc, u_bpc⟩ := h.c.rbpc; have c_st := h.c.cst; obtain ⟨l_st, u_st⟩ := h.c.rst
  have f_ba := h.c.free 65545; have f_bx := h.c.free 65546; have f_b_y := h.c.free 65547; have f_bs := h.c.free 65548; have f_bp := h.c.free 65549; have f_bpc := h.c.free 65550; have f_st := h.c.free 65551
  go_enter Tryz.func168, Tryz.ntmps168
  go_wp2
  go_end0
  refine ⟨rfl, ?_⟩
  apply Tn.eq
  · repeat (first | with_reducible exact h | with_reducible apply Tn.drew | with_reducible apply Tn.alloc | (with_reducible apply Tn.setBa; case hv => (first | assumption | exact ⟨by assumption, by assumption⟩ | exact wr_r _ | exact wr16_r _ | omega | exact bit_r _ _ _ | exact nz_r _ _ | exact setf_r _ _ _ | exact setp_r _ | (unfold loI; omega) | (unfold joinI; omega) | (unfold joinI loI; omega) | (unfold withinI joinI loI hiI; omega))) | (with_reducible apply Tn.setBx; case hv => (first | assumption | exact ⟨by assumption, by assumption⟩ | exact wr_r _ | exact wr16_r _ | omega | exact bit_r _ _ _ | exact nz_r _ _ | exact setf_r _ _ _ | exact setp_r _ | (unfold loI; omega) | (unfold joinI; omega) | (unfold joinI loI; omega) | (unfold withinI joinI loI hiI; omega))) | (with_reducible apply Tn.setB_y; case hv => (first | assumption | exact ⟨by assumption, by assumption⟩ | exact wr_r _ | exact wr16_r _ | omega | exact bit_r _ _ _ | exact nz_r _ _ | exact setf_r _ _ _ | exact setp_r _ | (unfold loI; omega) | (unfold joinI; omega) | (unfold joinI loI; omega) | (unfold withinI joinI loI hiI; omega))) | (with_reducible apply Tn.setBs; case hv => (first | assumption | exact ⟨by assumption, by assumption⟩ | exact wr_r _ | exact wr16_r _ | omega | exact bit_r _ _ _ | exact nz_r _ _ | exact setf_r _ _ _ | exact setp_r _ | (unfold loI; omega) | (unfold joinI; omega) | (unfold joinI loI; omega) | (unfold withinI joinI loI hiI; omega))) | (with_reducible apply Tn.setBp; case hv => (first | assumption | exact ⟨by assumption, by assumption⟩ | exact wr_r _ | exact wr16_r _ | omega | exact bit_r _ _ _ | exact nz_r _ _ | exact setf_r _ _ _ | exact setp_r _ | (unfold loI; omega) | (unfold joinI; omega) | (unfold joinI loI; omega) | (unfold withinI joinI loI hiI; omega))) | (with_reducible apply Tn.setBpc; case hv => (first | assumption | exact ⟨by assumption, by assumption⟩ | exact wr_r _ | exact wr16_r _ | omega | exact bit_r _ _ _ | exact nz_r _ _ | exact setf_r _ _ _ | exact setp_r _ | (unfold loI; omega) | (unfold joinI; omega) | (unfold joinI loI; omega) | (unfold withinI joinI loI hiI; omega))) | (with_reducible apply Tn.setSt; case hv => (first | assumption | exact ⟨by assumption, by assumption⟩ | exact wr_r _ | exact wr16_r _ | omega | exact bit_r _ _ _ | exact nz_r _ _ | exact setf_r _ _ _ | exact setp_r _ | (unfold loI; omega) | (unfold joinI; omega) | (unfold joinI loI; omega) | (unfold withinI joinI loI hiI; omega))))
  · rfl

theorem val_mk (a d : Int) (x y : Bool) : Value.agg #[.int .i64 a, .int .i64 d, .bool x, .bool y] = BusI.val ⟨a, d, x, y⟩ := rfl

theorem takeData_any {B : Nat} {s : PC} {w0 w : World} (h : Tn B s w0 w) (b : BusI) :
    Calls Tryz.prog 110 #[.pointer (some ⟨B, 0, none⟩), b.val] w fun e w' => e = .returned b.val ∧ Tn B (takeData (s, b)).1 w0 w' := by
  have c_data := h.c.cdata; obtain ⟨l_data, u_data⟩ := h.c.rdata
  have f_data := h.c.free 65557
  have hlt := h.c.lt
  obtain ⟨ba, bd, bw, bf⟩ := b
  rw [← val_mk]
  go_enter Tryz.func110, Tryz.ntmps110
  go_wp2
  refine bodyPost_ret (v := .agg #[.int .i64 ba, .int .i64 bd, .bool bw, .bool bf]) (by simp [results, Tryz.results110, go_sem]) rfl ⟨rfl, ?_⟩
  apply Tn.eq
  · repeat (first | with_reducible exact h | with_reducible apply Tn.drew | with_reducible apply Tn.alloc | (with_reducible apply Tn.setData; case hv => (first | assumption | exact ⟨by assumption, by assumption⟩ | exact wr_r _ | exact wr16_r _ | omega | exact bit_r _ _ _ | exact nz_r _ _ | exact setf_r _ _ _ | exact setp_r _ | (unfold loI; omega) | (unfold joinI; omega) | (unfold joinI loI; omega) | (unfold withinI joinI loI hiI; omega))))
  · rfl
end

/-
  What the modes are made of, walked.
-/
section
set_option maxRecDepth 100000
set_option maxHeartbeats 1000000

theorem stackTop_any {B : Nat} {s : PC} {w0 w : World} (h : Tn B s w0 w) :
    Calls Tryz.prog 181 #[.pointer (some ⟨B, 0, none⟩)] w fun e w' => e = .returned (.int .u16 s.stackTop) ∧ w' = w := by
  have c_s := h.c.cs; obtain ⟨l_s, u_s⟩ := h.c.rs
  go_enter Tryz.func181, Tryz.ntmps181
  go_wp2_with (first | (go_at_call 52; refine (join_any _ _ _ (by omega) (by omega) (by omega) (by omega)).mono ?_; rintro e w' ⟨rfl, rfl⟩))
  go_ret
  exact ⟨rfl, rfl⟩

theorem readNext_any {B : Nat} {s : PC} {w0 w : World} (h : Tn B s w0 w) :
    Calls Tryz.prog 169 #[.pointer (some ⟨B, 0, none⟩)] w fun e w' => e = .returned s.readNext.2.val ∧ Tn B s.readNext.1 w0 w' := by
  have c_pc := h.c.cpc; obtain ⟨l_pc, u_pc⟩ := h.c.rpc
  have hc := h.c
  have hlt := h.c.lt
  have hsz := h.g.size
  have n0 : w.heap.size ≠ B := by omega
  have n01 : w.heap.size + 1 ≠ B := by omega
  have n02 : w.heap.size + 1 + 1 ≠ B := by omega
  have m0 : B ≠ w.heap.size := by omega
  have m01 : B ≠ w.heap.size + 1 := by omega
  have m02 : B ≠ w.heap.size + 1 + 1 := by omega
  go_enter Tryz.func169, Tryz.ntmps169
  go_wp2
  go_region_with (first | (go_at_call 103; refine (read_any (Tn.refl (by repeat (first | with_reducible exact h1.c | with_reducible exact hc | with_reducible apply CAt.drew | with_reducible apply CAt.alloc | (with_reducible apply CAt.other; case hne => omega) | (with_reducible apply CAt.setCnt; case hv => (first | omega | exact wr_r _ | exact wr16_r _ | exact within_r _ _ (by omega) (by omega))) | with_reducible apply CAt.setCalls | (with_reducible apply CAt.setA; case hv => (first | omega | exact wr_r _ | exact wr16_r _ | exact within_r _ _ (by omega) (by omega))) | (with_reducible apply CAt.setX; case hv => (first | omega | exact wr_r _ | exact wr16_r _ | exact within_r _ _ (by omega) (by omega))) | (with_reducible apply CAt.setY; case hv => (first | omega | exact wr_r _ | exact wr16_r _ | exact within_r _ _ (by omega) (by omega))) | (with_reducible apply CAt.setS; case hv => (first | omega | exact wr_r _ | exact wr16_r _ | exact within_r _ _ (by omega) (by omega))) | (with_reducible apply CAt.setP; case hv => (first | omega | exact wr_r _ | exact wr16_r _ | exact within_r _ _ (by omega) (by omega))) | (with_reducible apply CAt.setPc; case hv => (first | omega | exact wr_r _ | exact wr16_r _ | exact within_r _ _ (by omega) (by omega))) | (with_reducible apply CAt.setSt; case hv => (first | omega | exact wr_r _ | exact wr16_r _ | exact within_r _ _ (by omega) (by omega))) | (with_reducible apply CAt.setIns; case hv => (first | omega | exact wr_r _ | exact wr16_r _ | exact within_r _ _ (by omega) (by omega))) | (with_reducible apply CAt.setMd; case hv => (first | omega | exact wr_r _ | exact wr16_r _ | exact within_r _ _ (by omega) (by omega))) | (with_reducible apply CAt.setStep; case hv => (first | omega | exact wr_r _ | exact wr16_r _ | exact within_r _ _ (by omega) (by omega))) | (with_reducible apply CAt.setAd; case hv => (first | omega | exact wr_r _ | exact wr16_r _ | exact within_r _ _ (by omega) (by omega))) | (with_reducible apply CAt.setHop; case hv => (first | omega | exact wr_r _ | exact wr16_r _ | exact within_r _ _ (by omega) (by omega))) | (with_reducible apply CAt.setData; case hv => (first | omega | exact wr_r _ | exact wr16_r _ | exact within_r _ _ (by omega) (by omega))) | with_reducible apply CAt.setTaken | with_reducible apply CAt.setNmiOn | with_reducible apply CAt.setNmiDue))) _ l_pc u_pc).mono ?_; rintro e w1 ⟨rfl, h1⟩; have g1 : w0.grownBy w1 (some B) := G.thru h1 (by repeat (first | with_reducible exact g1 | with_reducible exact h.g | with_reducible apply G.drew | with_reducible apply G.alloc | with_reducible apply G.set | (with_reducible apply G.other; case hb => omega))); have rb : w1.heap[w.heap.size]? = some (.cells #[.int .i64 0, .int .i64 0, .bool false, .bool false] 53 (0, 0)) := four_thru h1 n0 (by repeat (first | with_reducible exact rb | with_reducible exact four_new _ _ _ _ _ _ | with_reducible apply four_drew | (with_reducible apply four_new'; case hR => (simp; done)) | with_reducible apply four_alloc | (with_reducible apply four_set; case hne => omega))); obtain ⟨⟨r0, r1, r2, r3⟩, r4⟩ := cells4 rb; obtain ⟨q1, q2⟩ := kept h1; have z0 : w.heap.size < w1.heap.size := (by have := h1.g.size; simp at this; omega); have n1 : w1.heap.size ≠ B := (by omega); have n2 : w1.heap.size + 1 ≠ B := (by omega); have m1 : B ≠ w1.heap.size := (by omega); have m2 : B ≠ w1.heap.size + 1 := (by omega); have fz := h1.c.free; have b1 := h1.c.lt; have c_pc := h1.c.cpc; obtain ⟨l_pc, u_pc⟩ := h1.c.rpc; (try simp only [BusI.val])))
  all_goals go_wp2
  all_goals (refine bodyPost_ret (v := BusI.val (s.read s.pc).2) (by simp [results, Tryz.results169, go_sem, BusI.val, *]) rfl (And.intro rfl (Tn.mk ?_ ?_)))
  all_goals first
    | (apply CAt.cast; (case h => repeat (first | with_reducible exact h1.c | with_reducible exact hc | with_reducible apply CAt.drew | with_reducible apply CAt.alloc | (with_reducible apply CAt.other; case hne => omega) | (with_reducible apply CAt.setCnt; case hv => (first | omega | exact wr_r _ | exact wr16_r _ | exact within_r _ _ (by omega) (by omega))) | with_reducible apply CAt.setCalls | (with_reducible apply CAt.setA; case hv => (first | omega | exact wr_r _ | exact wr16_r _ | exact within_r _ _ (by omega) (by omega))) | (with_reducible apply CAt.setX; case hv => (first | omega | exact wr_r _ | exact wr16_r _ | exact within_r _ _ (by omega) (by omega))) | (with_reducible apply CAt.setY; case hv => (first | omega | exact wr_r _ | exact wr16_r _ | exact within_r _ _ (by omega) (by omega))) | (with_reducible apply CAt.setS; case hv => (first | omega | exact wr_r _ | exact wr16_r _ | exact within_r _ _ (by omega) (by omega))) | (with_reducible apply CAt.setP; case hv => (first | omega | exact wr_r _ | exact wr16_r _ | exact within_r _ _ (by omega) (by omega))) | (with_reducible apply CAt.setPc; case hv => (first | omega | exact wr_r _ | exact wr16_r _ | exact within_r _ _ (by omega) (by omega))) | (with_reducible apply CAt.setSt; case hv => (first | omega | exact wr_r _ | exact wr16_r _ | exact within_r _ _ (by omega) (by omega))) | (with_reducible apply CAt.setIns; case hv => (first | omega | exact wr_r _ | exact wr16_r _ | exact within_r _ _ (by omega) (by omega))) | (with_reducible apply CAt.setMd; case hv => (first | omega | exact wr_r _ | exact wr16_r _ | exact within_r _ _ (by omega) (by omega))) | (with_reducible apply CAt.setStep; case hv => (first | omega | exact wr_r _ | exact wr16_r _ | exact within_r _ _ (by omega) (by omega))) | (with_reducible apply CAt.setAd; case hv => (first | omega | exact wr_r _ | exact wr16_r _ | exact within_r _ _ (by omega) (by omega))) | (with_reducible apply CAt.setHop; case hv => (first | omega | exact wr_r _ | exact wr16_r _ | exact within_r _ _ (by omega) (by omega))) | (with_reducible apply CAt.setData; case hv => (first | omega | exact wr_r _ | exact wr16_r _ | exact within_r _ _ (by omega) (by omega))) | with_reducible apply CAt.setTaken | with_reducible apply CAt.setNmiOn | with_reducible apply CAt.setNmiDue)); (case e => rfl))
    | (repeat (first | with_reducible exact g1 | with_reducible exact h.g | with_reducible apply G.drew | with_reducible apply G.alloc | with_reducible apply G.set | (with_reducible apply G.other; case hb => omega)))


theorem takeLow_any {B : Nat} {s : PC} {w0 w : World} (h : Tn B s w0 w) (b : BusI) :
    Calls Tryz.prog 170 #[.pointer (some ⟨B, 0, none⟩), b.val] w fun e w' => e = .returned b.val ∧ Tn B (takeLow (s, b)).1 w0 w' := by
  have c_ad := h.c.cad; obtain ⟨l_ad, u_ad⟩ := h.c.rad
  have f_ad := h.c.free 65555
  have hlt := h.c.lt
  obtain ⟨ba, bd, bw, bf⟩ := b
  rw [← val_mk]
  have hd1 : 0 ≤ bd % 256 := by omega
  have hd2 : bd % 256 < 256 := by omega
  have lo1 := (lo_r s.ad).1
  have lo2 := (lo_r s.ad).2
  go_enter Tryz.func170, Tryz.ntmps170
  go_wp2_with (first | (go_at_call 52; refine (join_any _ _ _ (by first | assumption | omega | exact (top_r _).1 | exact (top_r _).2 | (unfold loI; omega) | (unfold hiI; omega) | (unfold PC.stackTop joinI; omega) | (unfold joinI loI hiI; omega) | (unfold joinI loI; omega) | (unfold withinI joinI loI hiI; omega) | (unfold withinI joinI loI hiI joinI; omega)) (by first | assumption | omega | exact (top_r _).1 | exact (top_r _).2 | (unfold loI; omega) | (unfold hiI; omega) | (unfold PC.stackTop joinI; omega) | (unfold joinI loI hiI; omega) | (unfold joinI loI; omega) | (unfold withinI joinI loI hiI; omega) | (unfold withinI joinI loI hiI joinI; omega)) (by first | assumption | omega | exact (top_r _).1 | exact (top_r _).2 | (unfold loI; omega) | (unfold hiI; omega) | (unfold PC.stackTop joinI; omega) | (unfold joinI loI hiI; omega) | (unfold joinI loI; omega) | (unfold withinI joinI loI hiI; omega) | (unfold withinI joinI loI hiI joinI; omega)) (by first | assumption | omega | exact (top_r _).1 | exact (top_r _).2 | (unfold loI; omega) | (unfold hiI; omega) | (unfold PC.stackTop joinI; omega) | (unfold joinI loI hiI; omega) | (unfold joinI loI; omega) | (unfold withinI joinI loI hiI; omega) | (unfold withinI joinI loI hiI joinI; omega))).mono ?_; rintro e w' ⟨rfl, rfl⟩))
  all_goals (try go_region_with (first | (go_at_call 52; refine (join_any _ _ _ (by first | assumption | omega | exact (top_r _).1 | exact (top_r _).2 | (unfold loI; omega) | (unfold hiI; omega) | (unfold PC.stackTop joinI; omega) | (unfold joinI loI hiI; omega) | (unfold joinI loI; omega) | (unfold withinI joinI loI hiI; omega) | (unfold withinI joinI loI hiI joinI; omega)) (by first | assumption | omega | exact (top_r _).1 | exact (top_r _).2 | (unfold loI; omega) | (unfold hiI; omega) | (unfold PC.stackTop joinI; omega) | (unfold joinI loI hiI; omega) | (unfold joinI loI; omega) | (unfold withinI joinI loI hiI; omega) | (unfold withinI joinI loI hiI joinI; omega)) (by first | assumption | omega | exact (top_r _).1 | exact (top_r _).2 | (unfold loI; omega) | (unfold hiI; omega) | (unfold PC.stackTop joinI; omega) | (unfold joinI loI hiI; omega) | (unfold joinI loI; omega) | (unfold withinI joinI loI hiI; omega) | (unfold withinI joinI loI hiI joinI; omega)) (by first | assumption | omega | exact (top_r _).1 | exact (top_r _).2 | (unfold loI; omega) | (unfold hiI; omega) | (unfold PC.stackTop joinI; omega) | (unfold joinI loI hiI; omega) | (unfold joinI loI; omega) | (unfold withinI joinI loI hiI; omega) | (unfold withinI joinI loI hiI joinI; omega))).mono ?_; rintro e w' ⟨rfl, rfl⟩)))
  all_goals (try go_wp2_with (first | (go_at_call 52; refine (join_any _ _ _ (by first | assumption | omega | exact (top_r _).1 | exact (top_r _).2 | (unfold loI; omega) | (unfold hiI; omega) | (unfold PC.stackTop joinI; omega) | (unfold joinI loI hiI; omega) | (unfold joinI loI; omega) | (unfold withinI joinI loI hiI; omega) | (unfold withinI joinI loI hiI joinI; omega)) (by first | assumption | omega | exact (top_r _).1 | exact (top_r _).2 | (unfold loI; omega) | (unfold hiI; omega) | (unfold PC.stackTop joinI; omega) | (unfold joinI loI hiI; omega) | (unfold joinI loI; omega) | (unfold withinI joinI loI hiI; omega) | (unfold withinI joinI loI hiI joinI; omega)) (by first | assumption | omega | exact (top_r _).1 | exact (top_r _).2 | (unfold loI; omega) | (unfold hiI; omega) | (unfold PC.stackTop joinI; omega) | (unfold joinI loI hiI; omega) | (unfold joinI loI; omega) | (unfold withinI joinI loI hiI; omega) | (unfold withinI joinI loI hiI joinI; omega)) (by first | assumption | omega | exact (top_r _).1 | exact (top_r _).2 | (unfold loI; omega) | (unfold hiI; omega) | (unfold PC.stackTop joinI; omega) | (unfold joinI loI hiI; omega) | (unfold joinI loI; omega) | (unfold withinI joinI loI hiI; omega) | (unfold withinI joinI loI hiI joinI; omega))).mono ?_; rintro e w' ⟨rfl, rfl⟩)))
  all_goals (refine bodyPost_ret (v := .agg #[.int .i64 ba, .int .i64 bd, .bool bw, .bool bf]) (by simp [results, Tryz.results170, go_sem]) rfl ⟨rfl, ?_⟩)
  all_goals (apply Tn.eq; (case h => repeat (first | with_reducible exact h | with_reducible apply Tn.drew | with_reducible apply Tn.alloc | (with_reducible apply Tn.setAd; case hv => (first | assumption | exact ⟨by assumption, by assumption⟩ | exact wr_r _ | exact wr16_r _ | omega | exact bit_r _ _ _ | exact nz_r _ _ | exact setf_r _ _ _ | exact setp_r _ | (unfold loI; omega) | (unfold joinI; omega) | (unfold joinI loI; omega) | (unfold withinI joinI loI hiI; omega))))); (case e => rfl))

theorem takeHop_any {B : Nat} {s : PC} {w0 w : World} (h : Tn B s w0 w) (b : BusI) :
    Calls Tryz.prog 174 #[.pointer (some ⟨B, 0, none⟩), b.val] w fun e w' => e = .returned b.val ∧ Tn B (takeHop (s, b)).1 w0 w' := by
  have c_hop := h.c.chop; obtain ⟨l_hop, u_hop⟩ := h.c.rhop
  have f_hop := h.c.free 65556
  have hlt := h.c.lt
  obtain ⟨ba, bd, bw, bf⟩ := b
  rw [← val_mk]
  have hd1 : 0 ≤ bd % 256 := by omega
  have hd2 : bd % 256 < 256 := by omega
  have lo1 := (lo_r s.ad).1
  have lo2 := (lo_r s.ad).2
  go_enter Tryz.func174, Tryz.ntmps174
  go_wp2_with (first | (go_at_call 52; refine (join_any _ _ _ (by first | assumption | omega | exact (top_r _).1 | exact (top_r _).2 | (unfold loI; omega) | (unfold hiI; omega) | (unfold PC.stackTop joinI; omega) | (unfold joinI loI hiI; omega) | (unfold joinI loI; omega) | (unfold withinI joinI loI hiI; omega) | (unfold withinI joinI loI hiI joinI; omega)) (by first | assumption | omega | exact (top_r _).1 | exact (top_r _).2 | (unfold loI; omega) | (unfold hiI; omega) | (unfold PC.stackTop joinI; omega) | (unfold joinI loI hiI; omega) | (unfold joinI loI; omega) | (unfold withinI joinI loI hiI; omega) | (unfold withinI joinI loI hiI joinI; omega)) (by first | assumption | omega | exact (top_r _).1 | exact (top_r _).2 | (unfold loI; omega) | (unfold hiI; omega) | (unfold PC.stackTop joinI; omega) | (unfold joinI loI hiI; omega) | (unfold joinI loI; omega) | (unfold withinI joinI loI hiI; omega) | (unfold withinI joinI loI hiI joinI; omega)) (by first | assumption | omega | exact (top_r _).1 | exact (top_r _).2 | (unfold loI; omega) | (unfold hiI; omega) | (unfold PC.stackTop joinI; omega) | (unfold joinI loI hiI; omega) | (unfold joinI loI; omega) | (unfold withinI joinI loI hiI; omega) | (unfold withinI joinI loI hiI joinI; omega))).mono ?_; rintro e w' ⟨rfl, rfl⟩))
  all_goals (try go_region_with (first | (go_at_call 52; refine (join_any _ _ _ (by first | assumption | omega | exact (top_r _).1 | exact (top_r _).2 | (unfold loI; omega) | (unfold hiI; omega) | (unfold PC.stackTop joinI; omega) | (unfold joinI loI hiI; omega) | (unfold joinI loI; omega) | (unfold withinI joinI loI hiI; omega) | (unfold withinI joinI loI hiI joinI; omega)) (by first | assumption | omega | exact (top_r _).1 | exact (top_r _).2 | (unfold loI; omega) | (unfold hiI; omega) | (unfold PC.stackTop joinI; omega) | (unfold joinI loI hiI; omega) | (unfold joinI loI; omega) | (unfold withinI joinI loI hiI; omega) | (unfold withinI joinI loI hiI joinI; omega)) (by first | assumption | omega | exact (top_r _).1 | exact (top_r _).2 | (unfold loI; omega) | (unfold hiI; omega) | (unfold PC.stackTop joinI; omega) | (unfold joinI loI hiI; omega) | (unfold joinI loI; omega) | (unfold withinI joinI loI hiI; omega) | (unfold withinI joinI loI hiI joinI; omega)) (by first | assumption | omega | exact (top_r _).1 | exact (top_r _).2 | (unfold loI; omega) | (unfold hiI; omega) | (unfold PC.stackTop joinI; omega) | (unfold joinI loI hiI; omega) | (unfold joinI loI; omega) | (unfold withinI joinI loI hiI; omega) | (unfold withinI joinI loI hiI joinI; omega))).mono ?_; rintro e w' ⟨rfl, rfl⟩)))
  all_goals (try go_wp2_with (first | (go_at_call 52; refine (join_any _ _ _ (by first | assumption | omega | exact (top_r _).1 | exact (top_r _).2 | (unfold loI; omega) | (unfold hiI; omega) | (unfold PC.stackTop joinI; omega) | (unfold joinI loI hiI; omega) | (unfold joinI loI; omega) | (unfold withinI joinI loI hiI; omega) | (unfold withinI joinI loI hiI joinI; omega)) (by first | assumption | omega | exact (top_r _).1 | exact (top_r _).2 | (unfold loI; omega) | (unfold hiI; omega) | (unfold PC.stackTop joinI; omega) | (unfold joinI loI hiI; omega) | (unfold joinI loI; omega) | (unfold withinI joinI loI hiI; omega) | (unfold withinI joinI loI hiI joinI; omega)) (by first | assumption | omega | exact (top_r _).1 | exact (top_r _).2 | (unfold loI; omega) | (unfold hiI; omega) | (unfold PC.stackTop joinI; omega) | (unfold joinI loI hiI; omega) | (unfold joinI loI; omega) | (unfold withinI joinI loI hiI; omega) | (unfold withinI joinI loI hiI joinI; omega)) (by first | assumption | omega | exact (top_r _).1 | exact (top_r _).2 | (unfold loI; omega) | (unfold hiI; omega) | (unfold PC.stackTop joinI; omega) | (unfold joinI loI hiI; omega) | (unfold joinI loI; omega) | (unfold withinI joinI loI hiI; omega) | (unfold withinI joinI loI hiI joinI; omega))).mono ?_; rintro e w' ⟨rfl, rfl⟩)))
  all_goals (refine bodyPost_ret (v := .agg #[.int .i64 ba, .int .i64 bd, .bool bw, .bool bf]) (by simp [results, Tryz.results174, go_sem]) rfl ⟨rfl, ?_⟩)
  all_goals (apply Tn.eq; (case h => repeat (first | with_reducible exact h | with_reducible apply Tn.drew | with_reducible apply Tn.alloc | (with_reducible apply Tn.setHop; case hv => (first | assumption | exact ⟨by assumption, by assumption⟩ | exact wr_r _ | exact wr16_r _ | omega | exact bit_r _ _ _ | exact nz_r _ _ | exact setf_r _ _ _ | exact setp_r _ | (unfold loI; omega) | (unfold joinI; omega) | (unfold joinI loI; omega) | (unfold withinI joinI loI hiI; omega))))); (case e => rfl))

theorem takeHigh_any {B : Nat} {s : PC} {w0 w : World} (h : Tn B s w0 w) (b : BusI) :
    Calls Tryz.prog 172 #[.pointer (some ⟨B, 0, none⟩), b.val] w fun e w' => e = .returned b.val ∧ Tn B (takeHigh (s, b)).1 w0 w' := by
  have c_ad := h.c.cad; obtain ⟨l_ad, u_ad⟩ := h.c.rad
  have f_ad := h.c.free 65555
  have hlt := h.c.lt
  obtain ⟨ba, bd, bw, bf⟩ := b
  rw [← val_mk]
  have hd1 : 0 ≤ bd % 256 := by omega
  have hd2 : bd % 256 < 256 := by omega
  have lo1 := (lo_r s.ad).1
  have lo2 := (lo_r s.ad).2
  go_enter Tryz.func172, Tryz.ntmps172
  go_wp2_with (first | (go_at_call 179; refine (lowOf_any _ _).mono ?_; rintro e w' ⟨rfl, rfl⟩) | (go_at_call 52; refine (join_any _ _ _ (by first | assumption | omega | exact (top_r _).1 | exact (top_r _).2 | (unfold loI; omega) | (unfold hiI; omega) | (unfold PC.stackTop joinI; omega) | (unfold joinI loI hiI; omega) | (unfold joinI loI; omega) | (unfold withinI joinI loI hiI; omega) | (unfold withinI joinI loI hiI joinI; omega)) (by first | assumption | omega | exact (top_r _).1 | exact (top_r _).2 | (unfold loI; omega) | (unfold hiI; omega) | (unfold PC.stackTop joinI; omega) | (unfold joinI loI hiI; omega) | (unfold joinI loI; omega) | (unfold withinI joinI loI hiI; omega) | (unfold withinI joinI loI hiI joinI; omega)) (by first | assumption | omega | exact (top_r _).1 | exact (top_r _).2 | (unfold loI; omega) | (unfold hiI; omega) | (unfold PC.stackTop joinI; omega) | (unfold joinI loI hiI; omega) | (unfold joinI loI; omega) | (unfold withinI joinI loI hiI; omega) | (unfold withinI joinI loI hiI joinI; omega)) (by first | assumption | omega | exact (top_r _).1 | exact (top_r _).2 | (unfold loI; omega) | (unfold hiI; omega) | (unfold PC.stackTop joinI; omega) | (unfold joinI loI hiI; omega) | (unfold joinI loI; omega) | (unfold withinI joinI loI hiI; omega) | (unfold withinI joinI loI hiI joinI; omega))).mono ?_; rintro e w' ⟨rfl, rfl⟩))
  all_goals (try go_region_with (first | (go_at_call 179; refine (lowOf_any _ _).mono ?_; rintro e w' ⟨rfl, rfl⟩) | (go_at_call 52; refine (join_any _ _ _ (by first | assumption | omega | exact (top_r _).1 | exact (top_r _).2 | (unfold loI; omega) | (unfold hiI; omega) | (unfold PC.stackTop joinI; omega) | (unfold joinI loI hiI; omega) | (unfold joinI loI; omega) | (unfold withinI joinI loI hiI; omega) | (unfold withinI joinI loI hiI joinI; omega)) (by first | assumption | omega | exact (top_r _).1 | exact (top_r _).2 | (unfold loI; omega) | (unfold hiI; omega) | (unfold PC.stackTop joinI; omega) | (unfold joinI loI hiI; omega) | (unfold joinI loI; omega) | (unfold withinI joinI loI hiI; omega) | (unfold withinI joinI loI hiI joinI; omega)) (by first | assumption | omega | exact (top_r _).1 | exact (top_r _).2 | (unfold loI; omega) | (unfold hiI; omega) | (unfold PC.stackTop joinI; omega) | (unfold joinI loI hiI; omega) | (unfold joinI loI; omega) | (unfold withinI joinI loI hiI; omega) | (unfold withinI joinI loI hiI joinI; omega)) (by first | assumption | omega | exact (top_r _).1 | exact (top_r _).2 | (unfold loI; omega) | (unfold hiI; omega) | (unfold PC.stackTop joinI; omega) | (unfold joinI loI hiI; omega) | (unfold joinI loI; omega) | (unfold withinI joinI loI hiI; omega) | (unfold withinI joinI loI hiI joinI; omega))).mono ?_; rintro e w' ⟨rfl, rfl⟩)))
  all_goals (try go_wp2_with (first | (go_at_call 179; refine (lowOf_any _ _).mono ?_; rintro e w' ⟨rfl, rfl⟩) | (go_at_call 52; refine (join_any _ _ _ (by first | assumption | omega | exact (top_r _).1 | exact (top_r _).2 | (unfold loI; omega) | (unfold hiI; omega) | (unfold PC.stackTop joinI; omega) | (unfold joinI loI hiI; omega) | (unfold joinI loI; omega) | (unfold withinI joinI loI hiI; omega) | (unfold withinI joinI loI hiI joinI; omega)) (by first | assumption | omega | exact (top_r _).1 | exact (top_r _).2 | (unfold loI; omega) | (unfold hiI; omega) | (unfold PC.stackTop joinI; omega) | (unfold joinI loI hiI; omega) | (unfold joinI loI; omega) | (unfold withinI joinI loI hiI; omega) | (unfold withinI joinI loI hiI joinI; omega)) (by first | assumption | omega | exact (top_r _).1 | exact (top_r _).2 | (unfold loI; omega) | (unfold hiI; omega) | (unfold PC.stackTop joinI; omega) | (unfold joinI loI hiI; omega) | (unfold joinI loI; omega) | (unfold withinI joinI loI hiI; omega) | (unfold withinI joinI loI hiI joinI; omega)) (by first | assumption | omega | exact (top_r _).1 | exact (top_r _).2 | (unfold loI; omega) | (unfold hiI; omega) | (unfold PC.stackTop joinI; omega) | (unfold joinI loI hiI; omega) | (unfold joinI loI; omega) | (unfold withinI joinI loI hiI; omega) | (unfold withinI joinI loI hiI joinI; omega))).mono ?_; rintro e w' ⟨rfl, rfl⟩)))
  all_goals (refine bodyPost_ret (v := .agg #[.int .i64 ba, .int .i64 bd, .bool bw, .bool bf]) (by simp [results, Tryz.results172, go_sem]) rfl ⟨rfl, ?_⟩)
  all_goals (apply Tn.eq; (case h => repeat (first | with_reducible exact h | with_reducible apply Tn.drew | with_reducible apply Tn.alloc | (with_reducible apply Tn.setAd; case hv => (first | assumption | exact ⟨by assumption, by assumption⟩ | exact wr_r _ | exact wr16_r _ | omega | exact bit_r _ _ _ | exact nz_r _ _ | exact setf_r _ _ _ | exact setp_r _ | (unfold loI; omega) | (unfold joinI; omega) | (unfold joinI loI; omega) | (unfold withinI joinI loI hiI; omega))))); (case e => rfl))

theorem begin_any' {B : Nat} {s : PC} {w0 w : World} (h : Tn B s w0 w) (i m : Int) (hi : 0 ≤ i ∧ i < 56) (hm : 0 ≤ m ∧ m < 23) :
    Calls Tryz.prog 104 #[.pointer (some ⟨B, 0, none⟩), .agg #[.int .u8 i, .int .u8 m]] w fun e w' => e = .returned (.tuple #[]) ∧ Tn B (s.begin_ i m) w0 w' := by
  have c_ins := h.c.cins; obtain ⟨l_ins, u_ins⟩ := h.c.rins; have c_md := h.c.cmd; obtain ⟨l_md, u_md⟩ := h.c.rmd; have c_step := h.c.cstep; obtain ⟨l_step, u_step⟩ := h.c.rstep; have c_st := h.c.cst; obtain ⟨l_st, u_st⟩ := h.c.rst
  have f_ins := h.c.free 65552; have f_md := h.c.free 65553; have f_step := h.c.free 65554; have f_st := h.c.free 65551
  have hlt := h.c.lt
  by_cases e : m = 0
  · subst e
    have H : Hid (s.begin_ i 0 = { s with ins := i, md := 0, step := 0, st := 5 }) := rfl
    go_enter Tryz.func104, Tryz.ntmps104
    go_wp2
    go_end0
    refine ⟨rfl, ?_⟩
    apply Tn.eq; (case h => repeat (first | with_reducible exact h | with_reducible apply Tn.drew | with_reducible apply Tn.alloc | (with_reducible apply Tn.setIns; case hv => (first | assumption | exact ⟨by assumption, by assumption⟩ | exact wr_r _ | exact wr16_r _ | omega | exact bit_r _ _ _ | exact nz_r _ _ | exact setf_r _ _ _ | exact setp_r _ | (unfold loI; omega) | (unfold joinI; omega) | (unfold joinI loI; omega) | (unfold withinI joinI loI hiI; omega))) | (with_reducible apply Tn.setMd; case hv => (first | assumption | exact ⟨by assumption, by assumption⟩ | exact wr_r _ | exact wr16_r _ | omega | exact bit_r _ _ _ | exact nz_r _ _ | exact setf_r _ _ _ | exact setp_r _ | (unfold loI; omega) | (unfold joinI; omega) | (unfold joinI loI; omega) | (unfold withinI joinI loI hiI; omega))) | (with_reducible apply Tn.setStep; case hv => (first | assumption | exact ⟨by assumption, by assumption⟩ | exact wr_r _ | exact wr16_r _ | omega | exact bit_r _ _ _ | exact nz_r _ _ | exact setf_r _ _ _ | exact setp_r _ | (unfold loI; omega) | (unfold joinI; omega) | (unfold joinI loI; omega) | (unfold withinI joinI loI hiI; omega))) | (with_reducible apply Tn.setSt; case hv => (first | assumption | exact ⟨by assumption, by assumption⟩ | exact wr_r _ | exact wr16_r _ | omega | exact bit_r _ _ _ | exact nz_r _ _ | exact setf_r _ _ _ | exact setp_r _ | (unfold loI; omega) | (unfold joinI; omega) | (unfold joinI loI; omega) | (unfold withinI joinI loI hiI; omega))))); (case e => rfl)
  · have e1 : (m == 0) = false := by rw [beq_eq_false_iff_ne]; exact e
    have H : Hid (s.begin_ i m = { s with ins := i, md := m, step := 0, st := 1 }) := by show _ = _; unfold PC.begin_; rw [if_neg e]
    go_enter Tryz.func104, Tryz.ntmps104
    go_wp2
    go_end0
    refine ⟨rfl, ?_⟩
    apply Tn.eq; (case h => repeat (first | with_reducible exact h | with_reducible apply Tn.drew | with_reducible apply Tn.alloc | (with_reducible apply Tn.setIns; case hv => (first | assumption | exact ⟨by assumption, by assumption⟩ | exact wr_r _ | exact wr16_r _ | omega | exact bit_r _ _ _ | exact nz_r _ _ | exact setf_r _ _ _ | exact setp_r _ | (unfold loI; omega) | (unfold joinI; omega) | (unfold joinI loI; omega) | (unfold withinI joinI loI hiI; omega))) | (with_reducible apply Tn.setMd; case hv => (first | assumption | exact ⟨by assumption, by assumption⟩ | exact wr_r _ | exact wr16_r _ | omega | exact bit_r _ _ _ | exact nz_r _ _ | exact setf_r _ _ _ | exact setp_r _ | (unfold loI; omega) | (unfold joinI; omega) | (unfold joinI loI; omega) | (unfold withinI joinI loI hiI; omega))) | (with_reducible apply Tn.setStep; case hv => (first | assumption | exact ⟨by assumption, by assumption⟩ | exact wr_r _ | exact wr16_r _ | omega | exact bit_r _ _ _ | exact nz_r _ _ | exact setf_r _ _ _ | exact setp_r _ | (unfold loI; omega) | (unfold joinI; omega) | (unfold joinI loI; omega) | (unfold withinI joinI loI hiI; omega))) | (with_reducible apply Tn.setSt; case hv => (first | assumption | exact ⟨by assumption, by assumption⟩ | exact wr_r _ | exact wr16_r _ | omega | exact bit_r _ _ _ | exact nz_r _ _ | exact setf_r _ _ _ | exact setp_r _ | (unfold loI; omega) | (unfold joinI; omega) | (unfold joinI loI; omega) | (unfold withinI joinI loI hiI; omega))))); (case e => exact H.out.symm)
end

/-
  The tables of method expressions, walked.
-/
section
set_option maxRecDepth 100000
set_option maxHeartbeats 1000000

def mtab : List Value := [.nilFunc, .func (.func 111) #[] #[], .func (.func 112) #[] #[], .func (.func 113) #[] #[], .func (.func 114) #[] #[], .func (.func 115) #[] #[], .func (.func 116) #[] #[], .func (.func 117) #[] #[], .func (.func 118) #[] #[], .func (.func 119) #[] #[], .func (.func 120) #[] #[], .func (.func 121) #[] #[], .func (.func 122) #[] #[], .func (.func 123) #[] #[], .func (.func 124) #[] #[], .func (.func 125) #[] #[], .func (.func 126) #[] #[], .func (.func 127) #[] #[], .func (.func 128) #[] #[], .func (.func 129) #[] #[], .func (.func 130) #[] #[], .func (.func 131) #[] #[], .func (.func 132) #[] #[]]
def itab : List Value := [.func (.func 215) #[] #[], .func (.func 216) #[] #[], .func (.func 217) #[] #[], .func (.func 218) #[] #[], .func (.func 219) #[] #[], .func (.func 220) #[] #[], .func (.func 221) #[] #[], .func (.func 222) #[] #[], .func (.func 223) #[] #[], .func (.func 224) #[] #[], .func (.func 225) #[] #[], .func (.func 226) #[] #[], .func (.func 227) #[] #[], .func (.func 228) #[] #[], .func (.func 229) #[] #[], .func (.func 230) #[] #[], .func (.func 231) #[] #[], .func (.func 232) #[] #[], .func (.func 233) #[] #[], .func (.func 234) #[] #[], .func (.func 235) #[] #[], .func (.func 236) #[] #[], .func (.func 237) #[] #[], .func (.func 238) #[] #[], .func (.func 239) #[] #[], .func (.func 240) #[] #[], .func (.func 241) #[] #[], .func (.func 242) #[] #[], .func (.func 243) #[] #[], .func (.func 244) #[] #[], .func (.func 245) #[] #[], .func (.func 246) #[] #[], .func (.func 247) #[] #[], .func (.func 248) #[] #[], .func (.func 249) #[] #[], .func (.func 250) #[] #[], .func (.func 251) #[] #[], .func (.func 252) #[] #[], .func (.func 253) #[] #[], .func (.func 254) #[] #[], .func (.func 255) #[] #[], .func (.func 256) #[] #[], .func (.func 257) #[] #[], .func (.func 258) #[] #[], .func (.func 259) #[] #[], .func (.func 260) #[] #[], .func (.func 261) #[] #[], .func (.func 262) #[] #[], .func (.func 263) #[] #[], .func (.func 264) #[] #[], .func (.func 265) #[] #[], .func (.func 266) #[] #[], .func (.func 267) #[] #[], .func (.func 268) #[] #[], .func (.func 269) #[] #[], .func (.func 270) #[] #[]]

theorem cp_cells {B b : Nat} {a : World} (hb : B ≤ b) : ∀ (vs : List Value) (o : Nat) (w : World), Below B a w → Below B a (w.setCells b o vs)
  | [], _, _, h => h
  | v :: vs, o, _, h => cp_cells hb vs (o + 1) _ (h.setCell hb v)

theorem mtab_one : mtab.toArray.all (·.oneCell') = true := all_oneCell_toArray (by decide)
theorem itab_one : itab.toArray.all (·.oneCell') = true := all_oneCell_toArray (by decide)

/-- A row of cells laid at once into a block that is new. -/
theorem laid_new (w : World) (z : Array Value) (t : TypeId) (cs : List Value) (hz : z.size = cs.length) :
    (w.alloc (.cells z t)).there w.heap.size 0 cs.length ∧ ((w.alloc (.cells z t)).setCells w.heap.size 0 cs).rangeAt w.heap.size 0 cs ∧ Below w.heap.size w ((w.alloc (.cells z t)).setCells w.heap.size 0 cs) := by
  have h1 : (w.alloc (.cells z t)).there w.heap.size 0 cs.length := by
    intro j hj
    have hb : (w.alloc (.cells z t)).heap[w.heap.size]? = some (.cells z t (0, 0)) := heap_alloc_new w _
    constructor
    · rw [Nat.zero_add, cell_of_row _ _ _ _ _ _ hb]; simp [hz, hj]
    · unfold World.frozen?; rw [hb]; simp
  refine ⟨h1, World.rangeAt_setCells_same _ _ _ _ h1, cp_cells (Nat.le_refl _) _ _ _ ((Below.refl _ _).alloc (Nat.le_refl _) _)⟩

theorem laid_there (w : World) (z : Array Value) (t : TypeId) (cs : List Value) (hz : z.size = cs.length) : (w.alloc (.cells z t)).there w.heap.size 0 cs.toArray.size := by
  rw [List.size_toArray]; exact (laid_new w z t cs hz).1

theorem wpList_fresh {P : Program} {ops : Array Oper} {rest : List Oper} {op : Oper} {a : Go.Act} {w : World} {Q : Exit → Go.Act → World → Prop} (hgd : op.guard = none) (ty : TypeId) (x y : Operand) (ho : op.op = .store ty x y)
    (z : Array Value) (t : TypeId) (cs : List Value) (hx : a.eval x = .pointer (some ⟨w.heap.size, 0, none⟩)) (hy : a.eval y = .agg cs.toArray) (hz : z.size = cs.length)
    (hi : (P.info? ty).map (·.size) = some cs.toArray.size) (h1 : cs.toArray.all (·.oneCell') = true)
    (h : ∀ w2, w2.rangeAt w.heap.size 0 cs → Below w.heap.size w w2 → wpList P ops Q rest (a.put op.dst undef) w2) : wpList P ops Q (op :: rest) a (w.alloc (.cells z t)) :=
  wpList_store_mid hgd ty x y ho w.heap.size 0 cs.toArray hx hy (laid_there w z t cs hz) hi h1 (h _ (laid_new w z t cs hz).2.1 (laid_new w z t cs hz).2.2)

theorem mmeth_any (i : Nat) (hi : i < 23) (w : World) :
    Calls Tryz.prog 83 #[.int .u8 i] w fun e w' => e = .returned (mtab.getD i .nilFunc) ∧ Below w.heap.size w w' := by
  have hi' : (i : Int) < 23 := by omega
  have hg : Hid (mtab.getD i .nilFunc = mtab[i]'hi) := by show _ = _; exact (List.getElem_eq_getD _).symm
  generalize mtab.getD i .nilFunc = v at *
  go_enter Tryz.func83, Tryz.ntmps83
  go_wp2_with ((with_reducible refine wpList_fresh (op := ⟨none, .store _ (.tmp 3) (.tmp 4), _, _, _, none⟩) (w := w) rfl _ (.tmp 3) (.tmp 4) rfl _ _ mtab ?hx ?hy ?hz ?hi mtab_one ?h); (case hx => go_must (rfl)); (case hy => go_must (rfl)); (case hz => rfl); (case hi => go_must (kernel_rfl)); go_must (intro w2 hr hB; have hc : w2.cell? ⟨w.heap.size, i, none⟩ = some v := (by rw [hg.out]; have := hr i _ (List.getElem?_eq_getElem hi); rwa [Nat.zero_add] at this)))
  go_ret
  exact ⟨rfl, hB⟩

theorem imeth_any (i : Nat) (hi : i < 56) (w : World) :
    Calls Tryz.prog 205 #[.int .u8 i] w fun e w' => e = .returned (itab.getD i .nilFunc) ∧ Below w.heap.size w w' := by
  have hi' : (i : Int) < 56 := by omega
  have hg : Hid (itab.getD i .nilFunc = itab[i]'hi) := by show _ = _; exact (List.getElem_eq_getD _).symm
  generalize itab.getD i .nilFunc = v at *
  go_enter Tryz.func205, Tryz.ntmps205
  go_wp2_with ((with_reducible refine wpList_fresh (op := ⟨none, .store _ (.tmp 3) (.tmp 4), _, _, _, none⟩) (w := w) rfl _ (.tmp 3) (.tmp 4) rfl _ _ itab ?hx ?hy ?hz ?hi itab_one ?h); (case hx => go_must (rfl)); (case hy => go_must (rfl)); (case hz => rfl); (case hi => go_must (kernel_rfl)); go_must (intro w2 hr hB; have hc : w2.cell? ⟨w.heap.size, i, none⟩ = some v := (by rw [hg.out]; have := hr i _ (List.getElem?_eq_getElem hi); rwa [Nat.zero_add] at this)))
  go_ret
  exact ⟨rfl, hB⟩
end

end Go.Proofs.YtcgjliflnnklnaaGreat
