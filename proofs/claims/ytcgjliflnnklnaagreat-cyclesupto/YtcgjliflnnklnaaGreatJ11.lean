/-
  Joined texts.
-/
import Derived.Test.YtcgjliflnnklnaaGreatCpIz
import Derived.Test.YtcgjliflnnklnaaGreatCpUz
namespace Go.Proofs.YtcgjliflnnklnaaGreat
open Go.RowKit

/-
  The bus, the timer, and what the modes are made of, walked.
-/
section
set_option maxRecDepth 100000
set_option maxHeartbeats 1000000

theorem CAt.cast {w : World} {B : Nat} {s1 s2 : PC} (h : CAt w B s1) (e : s1 = s2) : CAt w B s2 := e ▸ h
theorem CAt.drew {w : World} {B : Nat} {s : PC} (h : CAt w B s) : CAt w.drew B s := h.same rfl
theorem CAt.alloc {w : World} {B : Nat} {s : PC} {o : Obj} (h : CAt w B s) : CAt (w.alloc o) B s := h.same (Below.heap_alloc _ _ _ h.lt)
theorem G.drew {w0 w : World} {B : Nat} (h : w0.grownBy w (some B)) : w0.grownBy w.drew (some B) := cp_trans h (cp_drew _ _)
theorem G.alloc {w0 w : World} {B : Nat} {o : Obj} (h : w0.grownBy w (some B)) : w0.grownBy (w.alloc o) (some B) := cp_trans h (cp_alloc _ _ _)
theorem G.set {w0 w : World} {B o : Nat} {v : Value} (h : w0.grownBy w (some B)) : w0.grownBy (w.setCell ⟨B, o, none⟩ v) (some B) := cp_trans h (cp_set _ _ _ _)
theorem G.thru {w0 W w1 : World} {B : Nat} {s1 : PC} (h1 : Tn B s1 W w1) (h : w0.grownBy W (some B)) : w0.grownBy w1 (some B) := cp_trans h h1.g
theorem CAt.other {w : World} {B b o : Nat} {v : Value} {s : PC} (h : CAt w B s) (hne : b ≠ B) : CAt (w.setCell ⟨b, o, none⟩ v) B s := h.same (Below.heap_setCell _ _ _ _ (fun e => hne e.symm))
theorem G.other {w0 w : World} {B b o : Nat} {v : Value} (h : w0.grownBy w (some B)) (hb : w0.heap.size ≤ b) : w0.grownBy (w.setCell ⟨b, o, none⟩ v) (some B) :=
  ⟨h.os, h.tape, h.output, by simpa using h.size, fun k hk hne => (Below.heap_setCell _ _ _ _ (fun e => by simp at e; omega)).trans (h.block k hk hne)⟩
/-- A block that is not the computer's is as it was. -/
theorem kept {B : Nat} {s1 : PC} {W w1 : World} (h1 : Tn B s1 W w1) :
    (∀ b o, b ≠ B → b < W.heap.size → w1.cell? ⟨b, o, none⟩ = W.cell? ⟨b, o, none⟩) ∧ (∀ b o, b ≠ B → b < W.heap.size → w1.frozen? ⟨b, o, none⟩ = W.frozen? ⟨b, o, none⟩) :=
  ⟨fun b o hne hb => World.cell?_of_block (a := ⟨b, o, none⟩) (h1.g.block b hb (fun q => hne (by injection q))), fun b o hne hb => World.frozen?_of_block (a := ⟨b, o, none⟩) (h1.g.block b hb (fun q => hne (by injection q)))⟩

theorem four_new (w : World) (a b c d : Value) (t : TypeId) : (w.alloc (.cells #[a, b, c, d] t)).heap[w.heap.size]? = some (.cells #[a, b, c, d] t (0, 0)) := heap_alloc_new w _
theorem four_new' {w : World} {R : Nat} {a b c d : Value} {t : TypeId} (hR : w.heap.size = R) : (w.alloc (.cells #[a, b, c, d] t)).heap[R]? = some (.cells #[a, b, c, d] t (0, 0)) := hR ▸ four_new w a b c d t
theorem four_drew {w : World} {R : Nat} {o : Obj} (h : w.heap[R]? = some o) : w.drew.heap[R]? = some o := h
theorem four_alloc {w : World} {R : Nat} {o p : Obj} (h : w.heap[R]? = some o) : (w.alloc p).heap[R]? = some o := by
  have hl : R < w.heap.size := by
    by_cases e : R < w.heap.size
    · exact e
    · rw [Array.getElem?_eq_none (by omega)] at h; cases h
  rw [Below.heap_alloc _ _ _ hl]; exact h
theorem four_set {w : World} {R b o : Nat} {v : Value} {p : Obj} (h : w.heap[R]? = some p) (hne : b ≠ R) : (w.setCell ⟨b, o, none⟩ v).heap[R]? = some p := by
  rw [Below.heap_setCell _ _ _ _ (fun e => hne e.symm)]; exact h
theorem four_thru {B : Nat} {s1 : PC} {W w1 : World} {R : Nat} {p : Obj} (h1 : Tn B s1 W w1) (hne : R ≠ B) (h : W.heap[R]? = some p) : w1.heap[R]? = some p := by
  have hl : R < W.heap.size := by
    by_cases e : R < W.heap.size
    · exact e
    · rw [Array.getElem?_eq_none (by omega)] at h; cases h
  rw [h1.g.block R hl (fun q => hne (by injection q))]; exact h
theorem cells4 {w : World} {R : Nat} {a b c d : Value} {t : TypeId} (h : w.heap[R]? = some (.cells #[a, b, c, d] t (0, 0))) :
    (w.cell? ⟨R, 0, none⟩ = some a ∧ w.cell? ⟨R, 1, none⟩ = some b ∧ w.cell? ⟨R, 2, none⟩ = some c ∧ w.cell? ⟨R, 3, none⟩ = some d) ∧ (∀ o, w.frozen? ⟨R, o, none⟩ = false) := by
  refine ⟨⟨?_, ?_, ?_, ?_⟩, ?_⟩
  · rw [cell_of_row _ _ _ _ _ _ h]; rfl
  · rw [cell_of_row _ _ _ _ _ _ h]; rfl
  · rw [cell_of_row _ _ _ _ _ _ h]; rfl
  · rw [cell_of_row _ _ _ _ _ _ h]; rfl
  · intro o; unfold World.frozen?; rw [h]; simp

theorem look_a {B : Nat} {s : PC} {w0 w : World} (h : Tn B s w0 w) (a : Int) (h1 : 0 ≤ a) (h2 : a < 65536) :
    Calls Tryz.prog 49 #[.pointer (some ⟨B, 0, none⟩), .int .u16 a] w fun e w' => e = .returned (.int .u8 (s.look a)) ∧ w' = w := by
  by_cases e1 : a = 53248
  · subst e1
    have c_cnt := h.c.ccnt; obtain ⟨l_cnt, u_cnt⟩ := h.c.rcnt
    go_enter Tryz.func49, Tryz.ntmps49
    go_wp2
    go_ret
    exact ⟨cp_int (by simp [PC.look]), rfl⟩
  · by_cases e2 : a = 53249
    · subst e2
      have c1 := h.c.ccalls
      cases hc : s.calls
      all_goals
        rw [hc] at c1
        go_enter Tryz.func49, Tryz.ntmps49
        go_wp2
        go_ret
        exact ⟨cp_int (by simp [PC.look, hc]), rfl⟩
    · obtain ⟨n, rfl⟩ := Int.eq_ofNat_of_zero_le h1
      have q1 : ((n : Int) == 53248) = false := by rw [beq_eq_false_iff_ne]; exact e1
      have q2 : ((n : Int) == 53249) = false := by rw [beq_eq_false_iff_ne]; exact e2
      have hm := h.c.mem n (by omega)
      have hr : Hid (s.look n = s.mem n) := by show _ = _; rw [PC.look, if_neg e1, if_neg e2, Int.toNat_natCast]
      clear e1 e2
      go_enter Tryz.func49, Tryz.ntmps49
      go_wp2
      go_ret
      exact ⟨cp_int hr.out.symm, rfl⟩

theorem look_r {B : Nat} {s : PC} {w : World} (h : CAt w B s) (a : Int) (h2 : a < 65536) : 0 ≤ s.look a ∧ s.look a < 256 := by
  unfold PC.look
  split
  · exact h.rcnt
  · split
    · split <;> decide
    · exact h.rmem _ (by omega)

theorem tick_any {B : Nat} {s : PC} {w0 w : World} (h : Tn B s w0 w) :
    Calls Tryz.prog 55 #[.pointer (some ⟨B, 65537, none⟩)] w fun e w' => e = .returned (.tuple #[]) ∧ Tn B s.tick w0 w' := by
  have c_cnt := h.c.ccnt; obtain ⟨l_cnt, u_cnt⟩ := h.c.rcnt; have c_calls := h.c.ccalls
  have f_cnt := h.c.free 65537; have f_calls := h.c.free 65538
  by_cases e0 : s.cnt = 0
  · have e1 : (s.cnt == 0) = true := by rw [e0]; rfl
    go_enter Tryz.func55, Tryz.ntmps55
    go_wp2
    exact bodyPost_ret (v := .tuple #[]) (by simp [results, Tryz.results55, go_sem]) rfl ⟨rfl, h.eq (by unfold PC.tick; rw [if_pos e0])⟩
  · have e1 : (s.cnt == 0) = false := by rw [beq_eq_false_iff_ne]; exact e0
    have q : IntKind.u8.wrap (s.cnt - 1) = s.cnt - 1 := by rw [IntKind.wrap_u8']; omega
    have q2 : (s.cnt - 1) % 256 = s.cnt - 1 := by omega
    have l0 : 1 ≤ s.cnt := by omega
    by_cases e2 : s.cnt - 1 = 0
    · have e3 : (s.cnt - 1 == 0) = true := by rw [e2]; rfl
      have H : Hid (s.tick = { s with cnt := s.cnt - 1, calls := true }) := by show _ = _; unfold PC.tick; rw [if_neg e0, q2, if_pos e2]
      clear q2 e2 e0
      go_enter Tryz.func55, Tryz.ntmps55
      go_wp2
      go_end0
      refine ⟨rfl, ?_⟩
      apply Tn.eq
      · repeat (first | with_reducible exact h | with_reducible apply Tn.drew | with_reducible apply Tn.alloc | (with_reducible apply Tn.setCnt; case hv => (first | assumption | exact ⟨by assumption, by assumption⟩ | exact wr_r _ | exact wr16_r _ | omega | exact bit_r _ _ _ | exact nz_r _ _ | exact setf_r _ _ _ | exact setp_r _ | (unfold loI; omega) | (unfold joinI; omega) | (unfold joinI loI; omega) | (unfold withinI joinI loI hiI; omega))) | with_reducible apply Tn.setCalls)
      · exact H.out.symm
    · have e3 : (s.cnt - 1 == 0) = false := by rw [beq_eq_false_iff_ne]; exact e2
      have H : Hid (s.tick = { s with cnt := s.cnt - 1 }) := by show _ = _; unfold PC.tick; rw [if_neg e0, q2, if_neg e2]
      clear q2 e2 e0
      go_enter Tryz.func55, Tryz.ntmps55
      go_wp2
      go_end0
      refine ⟨rfl, ?_⟩
      apply Tn.eq
      · repeat (first | with_reducible exact h | with_reducible apply Tn.drew | with_reducible apply Tn.alloc | (with_reducible apply Tn.setCnt; case hv => (first | assumption | exact ⟨by assumption, by assumption⟩ | exact wr_r _ | exact wr16_r _ | omega | exact bit_r _ _ _ | exact nz_r _ _ | exact setf_r _ _ _ | exact setp_r _ | (unfold loI; omega) | (unfold joinI; omega) | (unfold joinI loI; omega) | (unfold withinI joinI loI hiI; omega))) | with_reducible apply Tn.setCalls)
      · exact H.out.symm

theorem read_any {B : Nat} {s : PC} {w0 w : World} (h : Tn B s w0 w) (a : Int) (h1 : 0 ≤ a) (h2 : a < 65536) :
    Calls Tryz.prog 103 #[.pointer (some ⟨B, 0, none⟩), .int .u16 a] w fun e w' => e = .returned (s.read a).2.val ∧ Tn B (s.read a).1 w0 w' := by
  have c_calls := h.c.ccalls
  have f_calls := h.c.free 65538
  obtain ⟨l1, l2⟩ := look_r h.c a h2
  have hlt := h.c.lt
  by_cases e1 : a = 53249
  · subst e1
    go_enter Tryz.func103, Tryz.ntmps103
    go_wp2_with (first | (go_at_call 49; refine (look_a (h.alloc _) _ (by omega) (by omega)).mono ?_; rintro e w' ⟨rfl, rfl⟩))
    refine bodyPost_ret (v := BusI.val ⟨53249, s.look 53249, false, false⟩) (by simp [results, Tryz.results103, go_sem, BusI.val]) rfl ⟨rfl, ?_⟩
    apply Tn.eq
    · repeat (first | with_reducible exact h | with_reducible apply Tn.drew | with_reducible apply Tn.alloc | with_reducible apply Tn.setCalls)
    · rfl
  · have q2 : (a == 53249) = false := by rw [beq_eq_false_iff_ne]; exact e1
    go_enter Tryz.func103, Tryz.ntmps103
    go_wp2_with (first | (go_at_call 49; refine (look_a (h.alloc _) _ (by omega) (by omega)).mono ?_; rintro e w' ⟨rfl, rfl⟩))
    refine bodyPost_ret (v := BusI.val ⟨a, s.look a, false, false⟩) (by simp [results, Tryz.results103, go_sem, BusI.val]) rfl ⟨rfl, ?_⟩
    apply Tn.eq
    · repeat (first | with_reducible exact h | with_reducible apply Tn.drew | with_reducible apply Tn.alloc | with_reducible apply Tn.setCalls)
    · simp only [PC.read, PC.read1]; rw [if_neg e1]

theorem write_any {B : Nat} {s : PC} {w0 w : World} (h : Tn B s w0 w) (a d : Int) (h1 : 0 ≤ a) (h2 : a < 65536) (d1 : 0 ≤ d) (d2 : d < 256) :
    Calls Tryz.prog 109 #[.pointer (some ⟨B, 0, none⟩), .int .u16 a, .int .u8 d] w fun e w' => e = .returned (s.write a d).2.val ∧ Tn B (s.write a d).1 w0 w' := by
  have c_rom := h.c.crom; obtain ⟨l_rom, u_rom⟩ := h.c.rrom; have c_cnt := h.c.ccnt; obtain ⟨l_cnt, u_cnt⟩ := h.c.rcnt
  have hlt := h.c.lt
  by_cases e1 : a = 53248
  · subst e1
    have f_cnt := h.c.free 65537
    go_enter Tryz.func109, Tryz.ntmps109
    go_wp2
    refine bodyPost_ret (v := BusI.val ⟨53248, d, true, false⟩) (by simp [results, Tryz.results109, go_sem, BusI.val]) rfl ⟨rfl, ?_⟩
    apply Tn.eq
    · repeat (first | with_reducible exact h | with_reducible apply Tn.drew | with_reducible apply Tn.alloc | (with_reducible apply Tn.setCnt; case hv => (first | assumption | exact ⟨by assumption, by assumption⟩ | exact wr_r _ | exact wr16_r _ | omega | exact bit_r _ _ _ | exact nz_r _ _ | exact setf_r _ _ _ | exact setp_r _ | (unfold loI; omega) | (unfold joinI; omega) | (unfold joinI loI; omega) | (unfold withinI joinI loI hiI; omega))))
    · rfl
  · have q1 : (a == 53248) = false := by rw [beq_eq_false_iff_ne]; exact e1
    by_cases e2 : a = 53249
    · subst e2
      go_enter Tryz.func109, Tryz.ntmps109
      go_wp2
      refine bodyPost_ret (v := BusI.val ⟨53249, d, true, false⟩) (by simp [results, Tryz.results109, go_sem, BusI.val]) rfl ⟨rfl, ?_⟩
      apply Tn.eq
      · repeat (first | with_reducible exact h | with_reducible apply Tn.drew | with_reducible apply Tn.alloc | (with_reducible apply Tn.setCnt; case hv => (first | assumption | exact ⟨by assumption, by assumption⟩ | exact wr_r _ | exact wr16_r _ | omega | exact bit_r _ _ _ | exact nz_r _ _ | exact setf_r _ _ _ | exact setp_r _ | (unfold loI; omega) | (unfold joinI; omega) | (unfold joinI loI; omega) | (unfold withinI joinI loI hiI; omega))))
      · rfl
    · have q2 : (a != 53249) = true := by rw [bne_iff_ne]; exact e2
      by_cases e3 : a < s.rom
      · obtain ⟨n, rfl⟩ := Int.eq_ofNat_of_zero_le h1
        have hm := h.c.mem n (by omega)
        have hf := h.c.free n
        have H : Hid ((s.write n d).1 = { s with mem := mput s.mem n d }) := by show _ = _; simp only [PC.write, PC.write1]; rw [if_neg e1, if_pos ⟨e2, e3⟩, Int.toNat_natCast]
        clear e1 e2
        go_enter Tryz.func109, Tryz.ntmps109
        go_wp2
        refine bodyPost_ret (v := BusI.val ⟨n, d, true, false⟩) (by simp [results, Tryz.results109, go_sem, BusI.val]) rfl ⟨rfl, ?_⟩
        exact ((h.setMem n d (by omega) ⟨d1, d2⟩).alloc _).eq H.out.symm
      · have H : Hid ((s.write a d).1 = s) := by show _ = _; simp only [PC.write, PC.write1]; rw [if_neg e1, if_neg (fun q => e3 q.2)]
        have e4 : s.rom ≤ a := by omega
        clear e1 e2
        go_enter Tryz.func109, Tryz.ntmps109
        go_wp2
        refine bodyPost_ret (v := BusI.val ⟨a, d, true, false⟩) (by simp [results, Tryz.results109, go_sem, BusI.val]) rfl ⟨rfl, ?_⟩
        apply Tn.eq
        · repeat (first | with_reducible exact h | with_reducible apply Tn.drew | with_reducible apply Tn.alloc | (with_reducible apply Tn.setCnt; case hv => (first | assumption | exact ⟨by assumption, by assumption⟩ | exact wr_r _ | exact wr16_r _ | omega | exact bit_r _ _ _ | exact nz_r _ _ | exact setf_r _ _ _ | exact setp_r _ | (unfold loI; omega) | (unfold joinI; omega) | (unfold joinI loI; omega) | (unfold withinI joinI loI hiI; omega))))
        · exact H.out.symm

theorem finish_any {B : Nat} {s : PC} {w0 w : World} (h : Tn B s w0 w) :
    Calls Tryz.prog 168 #[.pointer (some ⟨B, 0, none⟩)] w fun e w' => e = .returned (.tuple #[]) ∧ Tn B s.finish w0 w' := by
  have c_a := h.c.ca; obtain ⟨l_a, u_a⟩ := h.c.ra; have c_x := h.c.cx; obtain ⟨l_x, u_x⟩ := h.c.rx; have c_y := h.c.cy; obtain ⟨l_y, u_y⟩ := h.c.ry; have c_s := h.c.cs; obtain ⟨l_s, u_s⟩ := h.c.rs; have c_p := h.c.cp; obtain ⟨l_p, u_p⟩ := h.c.rp; have c_pc := h.c.cpc; obtain ⟨l_pc, u_pc⟩ := h.c.rpc; have c_ba := h.c.cba; obtain ⟨l_ba, u_ba⟩ := h.c.rba; have c_bx := h.c.cbx; obtain ⟨l_bx, u_bx⟩ := h.c.rbx; have c_b_y := h.c.cb_y; obtain ⟨l_b_y, u_b_y⟩ := h.c.rb_y; have c_bs := h.c.cbs; obtain ⟨l_bs, u_bs⟩ := h.c.rbs; have c_bp := h.c.cbp; obtain ⟨l_bp, u_bp⟩ := h.c.rbp; have c_bpc := h.c.cbpc; obtain ⟨l_bpc, u_bpc⟩ := h.c.rbpc; have c_st := h.c.cst; obtain ⟨l_st, u_st⟩ := h.c.rst
  have f_ba := h.c.free 65545; have f_bx := h.c.free 65546; have f_b_y := h.c.free 65547; have f_bs := h.c.free 65548; have f_bp := h.c.free 65549; have f_bpc := h.c.free 65550; have f_st := h.c.free 65551
  go_enter Tryz.func168, Tryz.ntmps168
  go_wp2
  go_end0
  refine ⟨rfl, ?_⟩
  apply Tn.eq
  · repeat (first | with_reducible exact h | with_reducible apply Tn.drew | with_reducible apply Tn.alloc | (with_reducible apply Tn.setBa; case hv => (first | assumption | exact ⟨by assumption, by assumption⟩ | exact wr_r _ | exact wr16_r _ | omega | exact bit_r _ _ _ | exact nz_r _ _ | exact setf_r _ _ _ | exact setp_r _ | (unfold loI; omega) | (unfold joinI; omega) | (unfold joinI loI; omega) | (unfold withinI joinI loI hiI; omega))) | (with_reducible apply Tn.setBx; case hv => (first | assumption | exact ⟨by assumption, by assumption⟩ | exact wr_r _ | exact wr16_r _ | omega | exact bit_r _ _ _ | exact nz_r _ _ | exact setf_r _ _ _ | exact setp_r _ | (unfold loI; omega) | (unfold joinI; omega) | (unfold joinI loI; omega) | (unfold withinI joinI loI hiI; omega))) | (with_reducible apply Tn.setB_y; case hv => (first | assumption | exact ⟨by assumption, by assumption⟩ | exact wr_r _ | exact wr16_r _ | omega | exact bit_r _ _ _ | exact nz_r _ _ | exact setf_r _ _ _ | exact setp_r _ | (unfold loI; omega) | (unfold joinI; omega) | (unfold joinI loI; omega) | (unfold withinI joinI loI hiI; omega))) | (with_reducible apply Tn.setBs; case hv => (first | assumption | exact ⟨by assumption, by assumption⟩ | exact wr_r _ | exact wr16_r _ | omega | exact bit_r _ _ _ | exact nz_r _ _ | exact setf_r _ _ _ | exact setp_r _ | (unfold loI; omega) | (unfold joinI; omega) | (unfold joinI loI; omega) | (unfold withinI joinI loI hiI; omega))) | (with_reducible apply Tn.setBp; case hv => (first | assumption | exact ⟨by assumption, by assumption⟩ | exact wr_r _ | exact wr16_r _ | omega | exact bit_r _ _ _ | exact nz_r _ _ | exact setf_r _ _ _ | exact setp_r _ | (unfold loI; omega) | (unfold joinI; omega) | (unfold joinI loI; omega) | (unfold withinI joinI loI hiI; omega))) | (with_reducible apply Tn.setBpc; case hv => (first | assumption | exact ⟨by assumption, by assumption⟩ | exact wr_r _ | exact wr16_r _ | omega | exact bit_r _ _ _ | exact nz_r _ _ | exact setf_r _ _ _ | exact setp_r _ | (unfold loI; omega) | (unfold joinI; omega) | (unfold joinI loI; omega) | (unfold withinI joinI loI hiI; omega))) | (with_reducible apply Tn.setSt; case hv => (first | assumption | exact ⟨by assumption, by assumption⟩ | exact wr_r _ | exact wr16_r _ | omega | exact bit_r _ _ _ | exact nz_r _ _ | exact setf_r _ _ _ | exact setp_r _ | (unfold loI; omega) | (unfold joinI; omega) | (unfold joinI loI; omega) | (unfold withinI joinI loI hiI; omega))))
  · rfl

theorem val_mk (a d : Int) (x y : Bool) : Value.agg #[.int .i64 a, .int .i64 d, .bool x, .bool y] = BusI.val ⟨a, d, x, y⟩ := rfl

theorem takeData_any {B : Nat} {s : PC} {w0 w : World} (h : Tn B s w0 w) (b : BusI) :
    Calls Tryz.prog 110 #[.pointer (some ⟨B, 0, none⟩), b.val] w fun e w' => e = .returned b.val ∧ Tn B (takeData (s, b)).1 w0 w' := by
  have c_data := h.c.cdata; obtain ⟨l_data, u_data⟩ := h.c.rdata
  have f_data := h.c.free 65557
  have hlt := h.c.lt
  obtain ⟨ba, bd, bw, bf⟩ := b
  rw [← val_mk]
  go_enter Tryz.func110, Tryz.ntmps110
  go_wp2
  refine bodyPost_ret (v := .agg #[.int .i64 ba, .int .i64 bd, .bool bw, .bool bf]) (by simp [results, Tryz.results110, go_sem]) rfl ⟨rfl, ?_⟩
  apply Tn.eq
  · repeat (first | with_reducible exact h | with_reducible apply Tn.drew | with_reducible apply Tn.alloc | (with_reducible apply Tn.setData; case hv => (first | assumption | exact ⟨by assumption, by assumption⟩ | exact wr_r _ | exact wr16_r _ | omega | exact bit_r _ _ _ | exact nz_r _ _ | exact setf_r _ _ _ | exact setp_r _ | (unfold loI; omega) | (unfold joinI; omega) | (unfold joinI loI; omega) | (unfold withinI joinI loI hiI; omega))))
  · rfl
end

/-
  The table of opcodes, walked.
-/
section
set_option maxRecDepth 100000
set_option maxHeartbeats 4000000

def dtab : List Value := (List.range 256).flatMap fun c => [.int .u8 (decodeI c).1, .int .u8 (decodeI c).2]
theorem dtab_one : dtab.toArray.all (·.oneCell') = true := all_oneCell_toArray (by
  intro v hv
  simp only [dtab, List.mem_flatMap] at hv
  obtain ⟨c, -, hc⟩ := hv
  simp only [List.mem_cons, List.not_mem_nil, or_false] at hc
  rcases hc with rfl | rfl <;> rfl)

theorem pairs_at {α : Type} (f g : Nat → α) : ∀ (n i : Nat), i < n → ((List.range n).flatMap fun c => [f c, g c])[i * 2]? = some (f i) ∧ ((List.range n).flatMap fun c => [f c, g c])[i * 2 + 1]? = some (g i)
  | 0, i, h => absurd h (Nat.not_lt_zero _)
  | n + 1, i, h => by
    have hl : ((List.range n).flatMap fun c => [f c, g c]).length = n * 2 := by
      rw [List.length_flatMap]; simp [List.map_const', List.sum_replicate_nat]
    rw [List.range_succ, List.flatMap_append]
    by_cases e : i < n
    · rw [List.getElem?_append_left (by omega), List.getElem?_append_left (by omega)]; exact pairs_at f g n i e
    · have e : i = n := by omega
      subst e
      rw [List.getElem?_append_right (by omega), List.getElem?_append_right (by omega), hl]
      simp

theorem wpList_val {P : Program} {ops : Array Oper} {rest : List Oper} {op : Oper} {a : Go.Act} {w : World} {Q : Exit → Go.Act → World → Prop} (V : Value) (hgd : op.guard = none)
    (hv : (execOp a.eval op).run P w = .ok (.value V) w) (h : wpList P ops Q rest (a.put op.dst V) w) : wpList P ops Q (op :: rest) a w :=
  wpList_plain hgd fun K hK => by
    unfold Oper.wp
    rw [hv]
    exact hK _ _ h

theorem wpList_run {P : Program} {ops : Array Oper} {rest : List Oper} {op : Oper} {a : Go.Act} {w w' : World} {Q : Exit → Go.Act → World → Prop} (V : Value) (hgd : op.guard = none)
    (hv : (execOp a.eval op).run P w = .ok (.value V) w') (h : wpList P ops Q rest (a.put op.dst V) w') : wpList P ops Q (op :: rest) a w :=
  wpList_plain hgd fun K hK => by
    unfold Oper.wp
    rw [hv]
    exact hK _ _ h

def mk2 (d : Nat × Int × Int) : Oper := ⟨some d.1, .build 101 #[(0, .const (.int .u8 d.2.1)), (1, .const (.int .u8 d.2.2))], 101, "opcodes.go:10", #[], none⟩
def step2 (a : Go.Act) (d : Nat × Int × Int) : Go.Act := a.put (some d.1) (.agg #[.int .u8 d.2.1, .int .u8 d.2.2])

theorem mk2_run (d : Nat × Int × Int) (a : Go.Act) (w : World) : (execOp a.eval (mk2 d)).run Tryz.prog w = .ok (.value (.agg #[.int .u8 d.2.1, .int .u8 d.2.2])) w := by
  obtain ⟨k, m, n⟩ := d
  kernel_rfl

theorem wpList_all2 {ops : Array Oper} {Q : Exit → Go.Act → World → Prop} {w : World} (rest : List Oper) : ∀ (l : List (Nat × Int × Int)) (a : Go.Act),
    wpList Tryz.prog ops Q rest (l.foldl step2 a) w → wpList Tryz.prog ops Q (l.map mk2 ++ rest) a w
  | [], _, h => h
  | d :: l, a, h => wpList_val (op := mk2 d) (.agg #[.int .u8 d.2.1, .int .u8 d.2.2]) rfl (mk2_run d a w) (wpList_all2 rest l (step2 a d) h)

def ddata : List (Nat × Int × Int) := [(4, 0, 3), (5, 0, 4), (6, 0, 5), (7, 0, 7), (8, 0, 8), (9, 0, 9), (10, 0, 10), (11, 0, 11), (12, 1, 3), (13, 1, 4), (14, 1, 5), (15, 1, 7), (16, 1, 8), (17, 1, 9), (18, 1, 10), (19, 1, 11), (20, 2, 2), (21, 2, 4), (22, 2, 5), (23, 2, 7), (24, 2, 8), (25, 11, 4), (26, 11, 7), (27, 17, 3), (28, 17, 4), (29, 17, 5), (30, 17, 7), (31, 17, 8), (32, 17, 9), (33, 17, 10), (34, 17, 11), (35, 18, 3), (36, 18, 4), (37, 18, 7), (38, 19, 3), (39, 19, 4), (40, 19, 7), (41, 20, 4), (42, 20, 5), (43, 20, 7), (44, 20, 8), (45, 23, 3), (46, 23, 4), (47, 23, 5), (48, 23, 7), (49, 23, 8), (50, 23, 9), (51, 23, 10), (52, 23, 11), (53, 24, 4), (54, 24, 5), (55, 24, 7), (56, 24, 8), (57, 27, 13), (58, 27, 14), (59, 29, 3), (60, 29, 4), (61, 29, 5), (62, 29, 7), (63, 29, 8), (64, 29, 9), (65, 29, 10), (66, 29, 11), (67, 30, 3), (68, 30, 4), (69, 30, 6), (70, 30, 7), (71, 30, 9), (72, 31, 3), (73, 31, 4), (74, 31, 5), (75, 31, 7), (76, 31, 8), (77, 32, 2), (78, 32, 4), (79, 32, 5), (80, 32, 7), (81, 32, 8), (82, 34, 3), (83, 34, 4), (84, 34, 5), (85, 34, 7), (86, 34, 8), (87, 34, 9), (88, 34, 10), (89, 34, 11), (90, 39, 2), (91, 39, 4), (92, 39, 5), (93, 39, 7), (94, 39, 8), (95, 40, 2), (96, 40, 4), (97, 40, 5), (98, 40, 7), (99, 40, 8), (100, 43, 3), (101, 43, 4), (102, 43, 5), (103, 43, 7), (104, 43, 8), (105, 43, 9), (106, 43, 10), (107, 43, 11), (108, 47, 4), (109, 47, 5), (110, 47, 7), (111, 47, 8), (112, 47, 9), (113, 47, 10), (114, 47, 11), (115, 48, 4), (116, 48, 6), (117, 48, 7), (118, 49, 4), (119, 49, 5), (120, 49, 7), (121, 3, 12), (122, 4, 12), (123, 5, 12), (124, 6, 12), (125, 7, 12), (126, 8, 12), (127, 9, 12), (128, 10, 12), (129, 12, 19), (130, 13, 1), (131, 14, 1), (132, 15, 1), (133, 16, 1), (134, 21, 1), (135, 22, 1), (136, 25, 1), (137, 26, 1), (138, 28, 15), (139, 33, 1), (140, 35, 17), (141, 36, 17), (142, 37, 18), (143, 38, 18), (144, 41, 22), (145, 42, 16), (146, 44, 1), (147, 45, 1), (148, 46, 1), (149, 50, 1), (150, 51, 1), (151, 52, 1), (152, 53, 1), (153, 54, 1), (154, 55, 1)]

theorem wpList_split {ops : Array Oper} {Q : Exit → Go.Act → World → Prop} {w : World} {full : List Oper} {a : Go.Act} (l : List (Nat × Int × Int)) (e : full = l.map mk2 ++ full.drop 151)
    (h : wpList Tryz.prog ops Q (full.drop 151) (l.foldl step2 a) w) : wpList Tryz.prog ops Q full a w := by
  rw [e]; exact wpList_all2 _ l a h

theorem wpList_three {P : Program} {ops : Array Oper} {r : List Oper} {a : Go.Act} {w : World} {Q : Exit → Go.Act → World → Prop} (d : Oper) (e : r = [r.getD 0 d, r.getD 1 d, r.getD 2 d])
    (h : wpList P ops Q [r.getD 0 d, r.getD 1 d, r.getD 2 d] a w) : wpList P ops Q r a w := by
  rw [e]; exact h

/-- The region that builds the table, at once. -/
theorem wp_table {id : Nat} {ops : Array Oper} {Q : Exit → Go.Act → World → Prop} {a a1 a2 : Go.Act} {w w1 : World} {p V : Value} {z : Array Value} {tt : TypeId} (d : Oper)
    (e : ops.toList = ddata.map mk2 ++ ops.toList.drop 151) (e3 : ops.toList.drop 151 = [(ops.toList.drop 151).getD 0 d, (ops.toList.drop 151).getD 1 d, (ops.toList.drop 151).getD 2 d])
    (g1 : ((ops.toList.drop 151).getD 0 d).guard = none) (v1 : (execOp (ddata.foldl step2 a).eval ((ops.toList.drop 151).getD 0 d)).run Tryz.prog w = .ok (.value V) w)
    (s1 : (ddata.foldl step2 a).put ((ops.toList.drop 151).getD 0 d).dst V = a1)
    (g2 : ((ops.toList.drop 151).getD 1 d).guard = none) (v2 : (execOp a1.eval ((ops.toList.drop 151).getD 1 d)).run Tryz.prog w = .ok (.value p) (w.alloc (.cells z tt)))
    (s2 : a1.put ((ops.toList.drop 151).getD 1 d).dst p = a2)
    (g3 : ((ops.toList.drop 151).getD 2 d).guard = none) (ty : TypeId) (x y : Operand) (o3 : ((ops.toList.drop 151).getD 2 d).op = .store ty x y)
    (hx : a2.eval x = .pointer (some ⟨w.heap.size, 0, none⟩)) (hy : a2.eval y = .agg dtab.toArray) (hz : z.size = dtab.length) (hi : (Tryz.prog.info? ty).map (·.size) = some dtab.toArray.size)
    (s3 : a2.put ((ops.toList.drop 151).getD 2 d).dst undef = a2) (_ : w1 = w)
    (h : ∀ w2, w2.rangeAt w.heap.size 0 dtab → Below w.heap.size w w2 → Q .normal a2 w2) : (Code.region id ops false).wp Tryz.prog Q a w := by
  refine wp_region_list (wpList_split ddata e ?_)
  refine wpList_three d e3 ?_
  refine wpList_val V g1 v1 ?_
  rw [s1]
  refine wpList_run p g2 v2 ?_
  rw [s2]
  refine wpList_fresh g3 ty x y o3 z tt dtab hx hy hz hi dtab_one ?_
  intro w2 h1 h2
  rw [s3]
  exact h w2 h1 h2

theorem decode_any (i : Nat) (hi : i < 256) (w : World) :
    Calls Tryz.prog 106 #[.int .u8 i] w fun e w' => e = .returned (.agg #[.int .u8 (decodeI i).1, .int .u8 (decodeI i).2]) ∧ Below w.heap.size w w' := by
  have hi' : (i : Int) < 256 := by omega
  have hp := pairs_at (fun c => Value.int .u8 (decodeI c).1) (fun c => Value.int .u8 (decodeI c).2) 256 i hi
  have hp' : Hid (dtab[i * 2]? = some (.int .u8 (decodeI i).1) ∧ dtab[i * 2 + 1]? = some (.int .u8 (decodeI i).2)) := hp
  clear hp
  generalize (decodeI i).1 = x at *
  generalize (decodeI i).2 = y at *
  go_enter Tryz.func106, Tryz.ntmps106
  iterate 10 go_step
  refine wp_table (w1 := _) (V := .agg dtab.toArray) (p := .pointer (some ⟨(w.alloc (.cells #[.int .u8 0, .int .u8 0] 101)).heap.size, 0, none⟩)) (z := (List.replicate 512 (Value.int .u8 0)).toArray) (tt := 250) (a1 := (⟨#[.int .u8 i, undef, .pointer (some ⟨w.heap.size, 0, none⟩), undef, .agg #[.int .u8 0, .int .u8 3], .agg #[.int .u8 0, .int .u8 4], .agg #[.int .u8 0, .int .u8 5], .agg #[.int .u8 0, .int .u8 7], .agg #[.int .u8 0, .int .u8 8], .agg #[.int .u8 0, .int .u8 9], .agg #[.int .u8 0, .int .u8 10], .agg #[.int .u8 0, .int .u8 11], .agg #[.int .u8 1, .int .u8 3], .agg #[.int .u8 1, .int .u8 4], .agg #[.int .u8 1, .int .u8 5], .agg #[.int .u8 1, .int .u8 7], .agg #[.int .u8 1, .int .u8 8], .agg #[.int .u8 1, .int .u8 9], .agg #[.int .u8 1, .int .u8 10], .agg #[.int .u8 1, .int .u8 11], .agg #[.int .u8 2, .int .u8 2], .agg #[.int .u8 2, .int .u8 4], .agg #[.int .u8 2, .int .u8 5], .agg #[.int .u8 2, .int .u8 7], .agg #[.int .u8 2, .int .u8 8], .agg #[.int .u8 11, .int .u8 4], .agg #[.int .u8 11, .int .u8 7], .agg #[.int .u8 17, .int .u8 3], .agg #[.int .u8 17, .int .u8 4], .agg #[.int .u8 17, .int .u8 5], .agg #[.int .u8 17, .int .u8 7], .agg #[.int .u8 17, .int .u8 8], .agg #[.int .u8 17, .int .u8 9], .agg #[.int .u8 17, .int .u8 10], .agg #[.int .u8 17, .int .u8 11], .agg #[.int .u8 18, .int .u8 3], .agg #[.int .u8 18, .int .u8 4], .agg #[.int .u8 18, .int .u8 7], .agg #[.int .u8 19, .int .u8 3], .agg #[.int .u8 19, .int .u8 4], .agg #[.int .u8 19, .int .u8 7], .agg #[.int .u8 20, .int .u8 4], .agg #[.int .u8 20, .int .u8 5], .agg #[.int .u8 20, .int .u8 7], .agg #[.int .u8 20, .int .u8 8], .agg #[.int .u8 23, .int .u8 3], .agg #[.int .u8 23, .int .u8 4], .agg #[.int .u8 23, .int .u8 5], .agg #[.int .u8 23, .int .u8 7], .agg #[.int .u8 23, .int .u8 8], .agg #[.int .u8 23, .int .u8 9], .agg #[.int .u8 23, .int .u8 10], .agg #[.int .u8 23, .int .u8 11], .agg #[.int .u8 24, .int .u8 4], .agg #[.int .u8 24, .int .u8 5], .agg #[.int .u8 24, .int .u8 7], .agg #[.int .u8 24, .int .u8 8], .agg #[.int .u8 27, .int .u8 13], .agg #[.int .u8 27, .int .u8 14], .agg #[.int .u8 29, .int .u8 3], .agg #[.int .u8 29, .int .u8 4], .agg #[.int .u8 29, .int .u8 5], .agg #[.int .u8 29, .int .u8 7], .agg #[.int .u8 29, .int .u8 8], .agg #[.int .u8 29, .int .u8 9], .agg #[.int .u8 29, .int .u8 10], .agg #[.int .u8 29, .int .u8 11], .agg #[.int .u8 30, .int .u8 3], .agg #[.int .u8 30, .int .u8 4], .agg #[.int .u8 30, .int .u8 6], .agg #[.int .u8 30, .int .u8 7], .agg #[.int .u8 30, .int .u8 9], .agg #[.int .u8 31, .int .u8 3], .agg #[.int .u8 31, .int .u8 4], .agg #[.int .u8 31, .int .u8 5], .agg #[.int .u8 31, .int .u8 7], .agg #[.int .u8 31, .int .u8 8], .agg #[.int .u8 32, .int .u8 2], .agg #[.int .u8 32, .int .u8 4], .agg #[.int .u8 32, .int .u8 5], .agg #[.int .u8 32, .int .u8 7], .agg #[.int .u8 32, .int .u8 8], .agg #[.int .u8 34, .int .u8 3], .agg #[.int .u8 34, .int .u8 4], .agg #[.int .u8 34, .int .u8 5], .agg #[.int .u8 34, .int .u8 7], .agg #[.int .u8 34, .int .u8 8], .agg #[.int .u8 34, .int .u8 9], .agg #[.int .u8 34, .int .u8 10], .agg #[.int .u8 34, .int .u8 11], .agg #[.int .u8 39, .int .u8 2], .agg #[.int .u8 39, .int .u8 4], .agg #[.int .u8 39, .int .u8 5], .agg #[.int .u8 39, .int .u8 7], .agg #[.int .u8 39, .int .u8 8], .agg #[.int .u8 40, .int .u8 2], .agg #[.int .u8 40, .int .u8 4], .agg #[.int .u8 40, .int .u8 5], .agg #[.int .u8 40, .int .u8 7], .agg #[.int .u8 40, .int .u8 8], .agg #[.int .u8 43, .int .u8 3], .agg #[.int .u8 43, .int .u8 4], .agg #[.int .u8 43, .int .u8 5], .agg #[.int .u8 43, .int .u8 7], .agg #[.int .u8 43, .int .u8 8], .agg #[.int .u8 43, .int .u8 9], .agg #[.int .u8 43, .int .u8 10], .agg #[.int .u8 43, .int .u8 11], .agg #[.int .u8 47, .int .u8 4], .agg #[.int .u8 47, .int .u8 5], .agg #[.int .u8 47, .int .u8 7], .agg #[.int .u8 47, .int .u8 8], .agg #[.int .u8 47, .int .u8 9], .agg #[.int .u8 47, .int .u8 10], .agg #[.int .u8 47, .int .u8 11], .agg #[.int .u8 48, .int .u8 4], .agg #[.int .u8 48, .int .u8 6], .agg #[.int .u8 48, .int .u8 7], .agg #[.int .u8 49, .int .u8 4], .agg #[.int .u8 49, .int .u8 5], .agg #[.int .u8 49, .int .u8 7], .agg #[.int .u8 3, .int .u8 12], .agg #[.int .u8 4, .int .u8 12], .agg #[.int .u8 5, .int .u8 12], .agg #[.int .u8 6, .int .u8 12], .agg #[.int .u8 7, .int .u8 12], .agg #[.int .u8 8, .int .u8 12], .agg #[.int .u8 9, .int .u8 12], .agg #[.int .u8 10, .int .u8 12], .agg #[.int .u8 12, .int .u8 19], .agg #[.int .u8 13, .int .u8 1], .agg #[.int .u8 14, .int .u8 1], .agg #[.int .u8 15, .int .u8 1], .agg #[.int .u8 16, .int .u8 1], .agg #[.int .u8 21, .int .u8 1], .agg #[.int .u8 22, .int .u8 1], .agg #[.int .u8 25, .int .u8 1], .agg #[.int .u8 26, .int .u8 1], .agg #[.int .u8 28, .int .u8 15], .agg #[.int .u8 33, .int .u8 1], .agg #[.int .u8 35, .int .u8 17], .agg #[.int .u8 36, .int .u8 17], .agg #[.int .u8 37, .int .u8 18], .agg #[.int .u8 38, .int .u8 18], .agg #[.int .u8 41, .int .u8 22], .agg #[.int .u8 42, .int .u8 16], .agg #[.int .u8 44, .int .u8 1], .agg #[.int .u8 45, .int .u8 1], .agg #[.int .u8 46, .int .u8 1], .agg #[.int .u8 50, .int .u8 1], .agg #[.int .u8 51, .int .u8 1], .agg #[.int .u8 52, .int .u8 1], .agg #[.int .u8 53, .int .u8 1], .agg #[.int .u8 54, .int .u8 1], .agg #[.int .u8 55, .int .u8 1], .agg dtab.toArray, undef, undef, undef], []⟩)) (a2 := (⟨#[.int .u8 i, undef, .pointer (some ⟨w.heap.size, 0, none⟩), .pointer (some ⟨(w.alloc (.cells #[.int .u8 0, .int .u8 0] 101)).heap.size, 0, none⟩), .agg #[.int .u8 0, .int .u8 3], .agg #[.int .u8 0, .int .u8 4], .agg #[.int .u8 0, .int .u8 5], .agg #[.int .u8 0, .int .u8 7], .agg #[.int .u8 0, .int .u8 8], .agg #[.int .u8 0, .int .u8 9], .agg #[.int .u8 0, .int .u8 10], .agg #[.int .u8 0, .int .u8 11], .agg #[.int .u8 1, .int .u8 3], .agg #[.int .u8 1, .int .u8 4], .agg #[.int .u8 1, .int .u8 5], .agg #[.int .u8 1, .int .u8 7], .agg #[.int .u8 1, .int .u8 8], .agg #[.int .u8 1, .int .u8 9], .agg #[.int .u8 1, .int .u8 10], .agg #[.int .u8 1, .int .u8 11], .agg #[.int .u8 2, .int .u8 2], .agg #[.int .u8 2, .int .u8 4], .agg #[.int .u8 2, .int .u8 5], .agg #[.int .u8 2, .int .u8 7], .agg #[.int .u8 2, .int .u8 8], .agg #[.int .u8 11, .int .u8 4], .agg #[.int .u8 11, .int .u8 7], .agg #[.int .u8 17, .int .u8 3], .agg #[.int .u8 17, .int .u8 4], .agg #[.int .u8 17, .int .u8 5], .agg #[.int .u8 17, .int .u8 7], .agg #[.int .u8 17, .int .u8 8], .agg #[.int .u8 17, .int .u8 9], .agg #[.int .u8 17, .int .u8 10], .agg #[.int .u8 17, .int .u8 11], .agg #[.int .u8 18, .int .u8 3], .agg #[.int .u8 18, .int .u8 4], .agg #[.int .u8 18, .int .u8 7], .agg #[.int .u8 19, .int .u8 3], .agg #[.int .u8 19, .int .u8 4], .agg #[.int .u8 19, .int .u8 7], .agg #[.int .u8 20, .int .u8 4], .agg #[.int .u8 20, .int .u8 5], .agg #[.int .u8 20, .int .u8 7], .agg #[.int .u8 20, .int .u8 8], .agg #[.int .u8 23, .int .u8 3], .agg #[.int .u8 23, .int .u8 4], .agg #[.int .u8 23, .int .u8 5], .agg #[.int .u8 23, .int .u8 7], .agg #[.int .u8 23, .int .u8 8], .agg #[.int .u8 23, .int .u8 9], .agg #[.int .u8 23, .int .u8 10], .agg #[.int .u8 23, .int .u8 11], .agg #[.int .u8 24, .int .u8 4], .agg #[.int .u8 24, .int .u8 5], .agg #[.int .u8 24, .int .u8 7], .agg #[.int .u8 24, .int .u8 8], .agg #[.int .u8 27, .int .u8 13], .agg #[.int .u8 27, .int .u8 14], .agg #[.int .u8 29, .int .u8 3], .agg #[.int .u8 29, .int .u8 4], .agg #[.int .u8 29, .int .u8 5], .agg #[.int .u8 29, .int .u8 7], .agg #[.int .u8 29, .int .u8 8], .agg #[.int .u8 29, .int .u8 9], .agg #[.int .u8 29, .int .u8 10], .agg #[.int .u8 29, .int .u8 11], .agg #[.int .u8 30, .int .u8 3], .agg #[.int .u8 30, .int .u8 4], .agg #[.int .u8 30, .int .u8 6], .agg #[.int .u8 30, .int .u8 7], .agg #[.int .u8 30, .int .u8 9], .agg #[.int .u8 31, .int .u8 3], .agg #[.int .u8 31, .int .u8 4], .agg #[.int .u8 31, .int .u8 5], .agg #[.int .u8 31, .int .u8 7], .agg #[.int .u8 31, .int .u8 8], .agg #[.int .u8 32, .int .u8 2], .agg #[.int .u8 32, .int .u8 4], .agg #[.int .u8 32, .int .u8 5], .agg #[.int .u8 32, .int .u8 7], .agg #[.int .u8 32, .int .u8 8], .agg #[.int .u8 34, .int .u8 3], .agg #[.int .u8 34, .int .u8 4], .agg #[.int .u8 34, .int .u8 5], .agg #[.int .u8 34, .int .u8 7], .agg #[.int .u8 34, .int .u8 8], .agg #[.int .u8 34, .int .u8 9], .agg #[.int .u8 34, .int .u8 10], .agg #[.int .u8 34, .int .u8 11], .agg #[.int .u8 39, .int .u8 2], .agg #[.int .u8 39, .int .u8 4], .agg #[.int .u8 39, .int .u8 5], .agg #[.int .u8 39, .int .u8 7], .agg #[.int .u8 39, .int .u8 8], .agg #[.int .u8 40, .int .u8 2], .agg #[.int .u8 40, .int .u8 4], .agg #[.int .u8 40, .int .u8 5], .agg #[.int .u8 40, .int .u8 7], .agg #[.int .u8 40, .int .u8 8], .agg #[.int .u8 43, .int .u8 3], .agg #[.int .u8 43, .int .u8 4], .agg #[.int .u8 43, .int .u8 5], .agg #[.int .u8 43, .int .u8 7], .agg #[.int .u8 43, .int .u8 8], .agg #[.int .u8 43, .int .u8 9], .agg #[.int .u8 43, .int .u8 10], .agg #[.int .u8 43, .int .u8 11], .agg #[.int .u8 47, .int .u8 4], .agg #[.int .u8 47, .int .u8 5], .agg #[.int .u8 47, .int .u8 7], .agg #[.int .u8 47, .int .u8 8], .agg #[.int .u8 47, .int .u8 9], .agg #[.int .u8 47, .int .u8 10], .agg #[.int .u8 47, .int .u8 11], .agg #[.int .u8 48, .int .u8 4], .agg #[.int .u8 48, .int .u8 6], .agg #[.int .u8 48, .int .u8 7], .agg #[.int .u8 49, .int .u8 4], .agg #[.int .u8 49, .int .u8 5], .agg #[.int .u8 49, .int .u8 7], .agg #[.int .u8 3, .int .u8 12], .agg #[.int .u8 4, .int .u8 12], .agg #[.int .u8 5, .int .u8 12], .agg #[.int .u8 6, .int .u8 12], .agg #[.int .u8 7, .int .u8 12], .agg #[.int .u8 8, .int .u8 12], .agg #[.int .u8 9, .int .u8 12], .agg #[.int .u8 10, .int .u8 12], .agg #[.int .u8 12, .int .u8 19], .agg #[.int .u8 13, .int .u8 1], .agg #[.int .u8 14, .int .u8 1], .agg #[.int .u8 15, .int .u8 1], .agg #[.int .u8 16, .int .u8 1], .agg #[.int .u8 21, .int .u8 1], .agg #[.int .u8 22, .int .u8 1], .agg #[.int .u8 25, .int .u8 1], .agg #[.int .u8 26, .int .u8 1], .agg #[.int .u8 28, .int .u8 15], .agg #[.int .u8 33, .int .u8 1], .agg #[.int .u8 35, .int .u8 17], .agg #[.int .u8 36, .int .u8 17], .agg #[.int .u8 37, .int .u8 18], .agg #[.int .u8 38, .int .u8 18], .agg #[.int .u8 41, .int .u8 22], .agg #[.int .u8 42, .int .u8 16], .agg #[.int .u8 44, .int .u8 1], .agg #[.int .u8 45, .int .u8 1], .agg #[.int .u8 46, .int .u8 1], .agg #[.int .u8 50, .int .u8 1], .agg #[.int .u8 51, .int .u8 1], .agg #[.int .u8 52, .int .u8 1], .agg #[.int .u8 53, .int .u8 1], .agg #[.int .u8 54, .int .u8 1], .agg #[.int .u8 55, .int .u8 1], .agg dtab.toArray, undef, undef, undef], []⟩)) ⟨none, .alloc 0, 0, "", #[], none⟩ (by kernel_rfl) (by kernel_rfl) (by kernel_rfl) (by kernel_rfl) (by kernel_rfl) (by kernel_rfl) (by kernel_rfl) (by kernel_rfl) (by kernel_rfl) 250 (.tmp 3) (.tmp 155) (by kernel_rfl) (by kernel_rfl) (by kernel_rfl) (by kernel_rfl) (by kernel_rfl) (by kernel_rfl) rfl ?_
  intro w2 hr hB
  have k1 := hr _ _ hp'.out.1
  have k2 := hr _ _ hp'.out.2
  have z1 := hB.cell (p := ⟨w.heap.size, 0, none⟩) (by simp)
  have z2 := hB.cell (p := ⟨w.heap.size, 1, none⟩) (by simp)
  have z3 := hB.frozen (p := ⟨w.heap.size, 0, none⟩) (by simp)
  have z4 := hB.frozen (p := ⟨w.heap.size, 1, none⟩) (by simp)
  have zs : w.heap.size + 1 ≤ w2.heap.size := by have := hB.size; simp at this; omega
  simp at k1 k2 z1 z2 z3 z4
  have hB' : Below w.heap.size w w2 := ((Below.refl _ _).alloc (Nat.le_refl _) _).trans (hB.mono (by simp))
  go_wp2
  refine bodyPost_ret (v := .agg #[.int .u8 x, .int .u8 y]) (by simp [results, Tryz.results106, go_sem, z1, z2]) rfl ⟨rfl, ?_⟩
  exact (hB'.setCell (Nat.le_refl _) _).setCell (Nat.le_refl _) _
end

end Go.Proofs.YtcgjliflnnklnaaGreat
