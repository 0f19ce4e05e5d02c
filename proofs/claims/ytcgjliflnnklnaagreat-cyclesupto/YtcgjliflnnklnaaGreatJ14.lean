/-
  Joined texts.
-/
import Derived.Test.YtcgjliflnnklnaaGreatJ13
import Derived.Test.YtcgjliflnnklnaaGreatJ11
import Derived.Test.YtcgjliflnnklnaaGreatCpFtz
import Derived.Test.YtcgjliflnnklnaaGreatCpRcz
import Derived.Test.YtcgjliflnnklnaaGreatJ10
import Derived.Test.YtcgjliflnnklnaaGreatJ01
namespace Go.Proofs.YtcgjliflnnklnaaGreat
open Go.RowKit

/-
  A turn, mode by mode.
-/
section
variable {B : Nat} {s : PC} {w0 w : World}

set_option maxRecDepth 100000 in
set_option maxHeartbeats 1000000 in
theorem turn_f (h : Tn B s w0 w) (irq : Bool) (hs : s.st = 1) (n : Nat) (hn : n < 23) (hm : s.md = n) (F : Nat) (hv : mtab.getD n .nilFunc = .func (.func F) #[] #[]) (he : ∀ a w, Sem.run Tryz.prog (callFunc F a) w = .ok (.enter F a) w)
    (hc : ∀ {s : PC} {w0 w : World}, Tn B s w0 w → Calls Tryz.prog F #[.pointer (some ⟨B, 0, none⟩)] w fun e w' => e = .returned (s.doMode n).2.val ∧ Tn B (s.doMode n).1 w0 w') :
    Calls Tryz.prog 54 #[.pointer (some ⟨B, 0, none⟩), .bool irq] w fun e w' => e = .returned (s.turn irq).2.val ∧ Tn B (s.turn irq).1 w0 w' := by
  have hu : Hid (s.turn irq = ({ s with step := wrap64 (s.step + 1) } : PC).doMode n) := by show _ = _; unfold PC.turn; rw [if_neg (by rw [hs]; decide), if_neg (by rw [hs]; decide), if_neg (by rw [hs]; decide), if_neg (by rw [hs]; decide), wrap64_eq]; simp only [hm]; rfl
  rw [hu.out]
  have c_st := h.c.cst; obtain ⟨l_st, u_st⟩ := h.c.rst; have c_md := h.c.cmd; have c_step := h.c.cstep; obtain ⟨l_step, u_step⟩ := h.c.rstep
  rw [hs] at c_st
  rw [hm] at c_md
  clear hs hm
  obtain ⟨hlt, hsz, n0, m0, fz0, -⟩ := h.pre
  go_enter Tryz.func54, Tryz.ntmps54
  go_wp2_with (go_at_call 83; refine (mmeth_at n hn _ hv _).mono ?_; rintro e w1 ⟨rfl, hb⟩; have k := Ck.below (w0 := w0) (B := B) (R := w.heap.size) kq16 hb; obtain ⟨⟨r0, r1, r2, r3⟩, r4, z0, n1, n2, m1, m2, fz, b1, nr, mr⟩ := k.facts)
  refine Ck.go w0 w.heap.size kq16 (fun h => hc h) ?_
  intro w1 k
  intros
  simp only [BusI.val]
  go_wp2
  all_goals (have hr := Tryz.results54; exact bodyPost_ret brq rfl ⟨rfl, tq8⟩)
end

/-
  A turn in every state.
-/
section
variable {B : Nat} {s : PC} {w0 w : World}

theorem relative_any (h : Tn B s w0 w) :
    Calls Tryz.prog 122 #[.pointer (some ⟨B, 0, none⟩)] w fun e w' => e = .returned (s.relative).2.val ∧ Tn B (s.relative).1 w0 w' := by
  by_cases h1 : s.step = 1
  · exact relative_1 h h1
  · by_cases h2 : s.step = 2
    · exact relative_2 h h2
    · exact relative_d h h1 h2

set_option maxRecDepth 100000 in
set_option maxHeartbeats 1000000 in
theorem turn_m12 (h : Tn B s w0 w) (irq : Bool) (hs : s.st = 1) (hm : s.md = 12) :
    Calls Tryz.prog 54 #[.pointer (some ⟨B, 0, none⟩), .bool irq] w fun e w' => e = .returned (s.turn irq).2.val ∧ Tn B (s.turn irq).1 w0 w' := by
  have hu : Hid (s.turn irq = ({ s with step := wrap64 (s.step + 1) } : PC).doMode 12) := by show _ = _; unfold PC.turn; rw [if_neg (by rw [hs]; decide), if_neg (by rw [hs]; decide), if_neg (by rw [hs]; decide), if_neg (by rw [hs]; decide), wrap64_eq]; simp only [hm]; rfl
  rw [hu.out]
  have c_st := h.c.cst; obtain ⟨l_st, u_st⟩ := h.c.rst; have c_md := h.c.cmd; obtain ⟨l_md, u_md⟩ := h.c.rmd; have c_step := h.c.cstep; obtain ⟨l_step, u_step⟩ := h.c.rstep
  rw [hs] at c_st
  rw [hm] at c_md
  clear hs hm
  obtain ⟨hlt, hsz, n0, m0, fz0, -⟩ := h.pre
  go_enter Tryz.func54, Tryz.ntmps54
  go_wp2_with (first | (go_at_call 83; refine (mmeth_at 12 (by decide) (.func (.func 122) #[] #[]) rfl _).mono ?_; rintro e w1 ⟨rfl, hb⟩; have k := Ck.below (w0 := w0) (B := B) (R := w.heap.size) kq16 hb; obtain ⟨⟨r0, r1, r2, r3⟩, r4, z0, n1, n2, m1, m2, fz, b1, nr, mr⟩ := k.facts) | (go_at_call 122; refine Ck.go w0 w.heap.size kq16 (fun h => relative_any h) ?_; intro w1 k; intros; (try simp only [BusI.val])))
  all_goals (have hr := Tryz.results54; exact bodyPost_ret brq rfl ⟨rfl, tq8⟩)

set_option maxRecDepth 100000 in
set_option maxHeartbeats 1000000 in
theorem turn_s0 (h : Tn B s w0 w) (irq : Bool) (hs : s.st = 0) :
    Calls Tryz.prog 54 #[.pointer (some ⟨B, 0, none⟩), .bool irq] w fun e w' => e = .returned (s.turn irq).2.val ∧ Tn B (s.turn irq).1 w0 w' := by
  have c_st := h.c.cst; obtain ⟨l_st, u_st⟩ := h.c.rst
  have hu : Hid (s.turn irq = s.fetch irq) := by show _ = _; unfold PC.turn; rw [if_pos hs]
  rw [hu.out]
  rw [hs] at c_st
  obtain ⟨hlt, hsz, n0, m0, fz0, -⟩ := h.pre
  go_enter Tryz.func54, Tryz.ntmps54
  go_wp2_with (first | (go_at_call 79; refine Ck.go w0 w.heap.size kq6 (fun h => fetch_any h irq) ?_; intro w1 k; intros; (try simp only [BusI.val])))
  all_goals (try go_region_with (first | (go_at_call 79; refine Ck.go w0 w.heap.size kq6 (fun h => fetch_any h irq) ?_; intro w1 k; intros; (try simp only [BusI.val]))))
  all_goals (try go_wp2_with (first | (go_at_call 79; refine Ck.go w0 w.heap.size kq6 (fun h => fetch_any h irq) ?_; intro w1 k; intros; (try simp only [BusI.val]))))
  all_goals (have hr := Tryz.results54; exact bodyPost_ret brq rfl ⟨rfl, tq1⟩)


theorem turn_any (h : Tn B s w0 w) (irq : Bool) (h5 : s.st ≠ 5) (hm : s.st = 1 → s.md ≠ 0) :
    Calls Tryz.prog 54 #[.pointer (some ⟨B, 0, none⟩), .bool irq] w fun e w' => e = .returned (s.turn irq).2.val ∧ Tn B (s.turn irq).1 w0 w' := by
  have r1 := h.c.rst
  have r2 := h.c.rmd
  rcases (show s.st = 0 ∨ s.st = 1 ∨ s.st = 2 ∨ s.st = 3 ∨ s.st = 4 from by omega) with e | e | e | e | e
  · exact turn_s0 h irq e
  · have hm' := hm e
    rcases (show s.md = 1 ∨ s.md = 2 ∨ s.md = 3 ∨ s.md = 4 ∨ s.md = 5 ∨ s.md = 6 ∨ s.md = 7 ∨ s.md = 8 ∨ s.md = 9 ∨ s.md = 10 ∨ s.md = 11 ∨ s.md = 12 ∨ s.md = 13 ∨ s.md = 14 ∨ s.md = 15 ∨ s.md = 16 ∨ s.md = 17 ∨ s.md = 18 ∨ s.md = 19 ∨ s.md = 20 ∨ s.md = 21 ∨ s.md = 22 from by omega) with q | q | q | q | q | q | q | q | q | q | q | q | q | q | q | q | q | q | q | q | q | q
    · exact turn_f h irq e 1 (by decide) q _ rfl (fun _ _ => by kernel_rfl) implied_any
    · exact turn_f h irq e 2 (by decide) q _ rfl (fun _ _ => by kernel_rfl) accumulator_any
    · exact turn_f h irq e 3 (by decide) q _ rfl (fun _ _ => by kernel_rfl) immediate_any
    · exact turn_f h irq e 4 (by decide) q _ rfl (fun _ _ => by kernel_rfl) zeroPage_any
    · exact turn_f h irq e 5 (by decide) q _ rfl (fun _ _ => by kernel_rfl) zeroPageX_any
    · exact turn_f h irq e 6 (by decide) q _ rfl (fun _ _ => by kernel_rfl) zeroPageY_any
    · exact turn_f h irq e 7 (by decide) q _ rfl (fun _ _ => by kernel_rfl) absolute_any
    · exact turn_f h irq e 8 (by decide) q _ rfl (fun _ _ => by kernel_rfl) absoluteX_any
    · exact turn_f h irq e 9 (by decide) q _ rfl (fun _ _ => by kernel_rfl) absoluteY_any
    · exact turn_f h irq e 10 (by decide) q _ rfl (fun _ _ => by kernel_rfl) indirectX_any
    · exact turn_f h irq e 11 (by decide) q _ rfl (fun _ _ => by kernel_rfl) indirectY_any
    · exact turn_m12 h irq e q
    · exact turn_f h irq e 13 (by decide) q _ rfl (fun _ _ => by kernel_rfl) jumpAbsolute_any
    · exact turn_f h irq e 14 (by decide) q _ rfl (fun _ _ => by kernel_rfl) jumpIndirect_any
    · exact turn_f h irq e 15 (by decide) q _ rfl (fun _ _ => by kernel_rfl) callSubroutine_any
    · exact turn_f h irq e 16 (by decide) q _ rfl (fun _ _ => by kernel_rfl) leaveSubroutine_any
    · exact turn_f h irq e 17 (by decide) q _ rfl (fun _ _ => by kernel_rfl) pushByte_any
    · exact turn_f h irq e 18 (by decide) q _ rfl (fun _ _ => by kernel_rfl) pullByte_any
    · exact turn_f h irq e 19 (by decide) q _ rfl (fun _ _ => by kernel_rfl) enterByBreak_any
    · exact turn_f h irq e 20 (by decide) q _ rfl (fun _ _ => by kernel_rfl) enterByNMI_any
    · exact turn_f h irq e 21 (by decide) q _ rfl (fun _ _ => by kernel_rfl) enterByIRQ_any
    · exact turn_f h irq e 22 (by decide) q _ rfl (fun _ _ => by kernel_rfl) leaveInterrupt_any
  · exact turn_s2 h irq e
  · exact turn_s3 h irq e
  · exact turn_s4 h irq e
end

/-
  Joined texts.
-/
section
set_option maxRecDepth 100000
set_option maxHeartbeats 2000000

/-
  A configuration as it lies in memory, and what the program makes of it: valid, fill.
-/
section
/-- A chunk: its address, its bytes' slice, its bytes. -/
structure Chn where
  at_ : Int
  v : Value
  bs : List UInt8

def ChV (N : Nat) (w : World) (v : Value) (bs : List UInt8) : Prop := ∃ p cap, v = .slice p bs.length cap ∧ (bs ≠ [] → ∃ b off, p = some ⟨b, off, none⟩ ∧ b < N ∧ BytesAt w b off bs)

def CfAt (N : Nat) (w : World) (v : Value) (cs : List Chn) : Prop := ∃ p cap, v = .slice p cs.length cap ∧ (cs ≠ [] → ∃ b off, p = some ⟨b, off, none⟩ ∧ b < N ∧
  ∀ i, (h : i < cs.length) → w.cell? ⟨b, off + i * 2, none⟩ = some (.int .i64 cs[i].at_) ∧ w.cell? ⟨b, off + i * 2 + 1, none⟩ = some cs[i].v ∧ ChV N w cs[i].v cs[i].bs)

theorem ChV.kept {N : Nat} {w w' : World} {v : Value} {bs : List UInt8} (h : ChV N w v bs) (hc : ∀ b o, b < N → w.cell? ⟨b, o, none⟩ ≠ none → w'.cell? ⟨b, o, none⟩ = w.cell? ⟨b, o, none⟩) : ChV N w' v bs := by
  obtain ⟨p, cap, e, h⟩ := h
  refine ⟨p, cap, e, fun hn => ?_⟩
  obtain ⟨b, off, e2, hb, hB⟩ := h hn
  exact ⟨b, off, e2, hb, fun i hi => by rw [hc _ _ hb (by rw [hB i hi]; simp)]; exact hB i hi⟩
theorem CfAt.kept {N : Nat} {w w' : World} {v : Value} {cs : List Chn} (h : CfAt N w v cs) (hc : ∀ b o, b < N → w.cell? ⟨b, o, none⟩ ≠ none → w'.cell? ⟨b, o, none⟩ = w.cell? ⟨b, o, none⟩) : CfAt N w' v cs := by
  obtain ⟨p, cap, e, h⟩ := h
  refine ⟨p, cap, e, fun hn => ?_⟩
  obtain ⟨b, off, e2, hb, hB⟩ := h hn
  refine ⟨b, off, e2, hb, fun i hi => ?_⟩
  obtain ⟨h1, h2, h3⟩ := hB i hi
  exact ⟨by rw [hc _ _ hb (by rw [h1]; simp)]; exact h1, by rw [hc _ _ hb (by rw [h2]; simp)]; exact h2, h3.kept hc⟩

theorem lt_of_cell {w : World} {b o : Nat} (h : w.cell? ⟨b, o, none⟩ ≠ none) : b < w.heap.size := by
  cases e : w.cell? ⟨b, o, none⟩ with
  | none => exact absurd e h
  | some v => exact World.block_lt_of_cell? w ⟨b, o, none⟩ e
theorem grown_cell {w w' : World} {B b o : Nat} (g : w.grownBy w' (some B)) (hne : b ≠ B) (h : w.cell? ⟨b, o, none⟩ ≠ none) : w'.cell? ⟨b, o, none⟩ = w.cell? ⟨b, o, none⟩ :=
  World.cell?_of_block (a := ⟨b, o, none⟩) (g.block b (lt_of_cell h) (by intro e; injection e with e; exact hne e))
theorem CfAt.grown {N B : Nat} {w w' : World} {v : Value} {cs : List Chn} (h : CfAt N w v cs) (g : w.grownBy w' (some B)) (hN : N ≤ B) : CfAt N w' v cs := h.kept fun b o hb hc => grown_cell g (by omega) hc
theorem CfAt.below {N : Nat} {w w' : World} {v : Value} {cs : List Chn} (h : CfAt N w v cs) (g : Below w.heap.size w w') : CfAt N w' v cs := h.kept fun b o _ hc => g.cell (p := ⟨b, o, none⟩) (lt_of_cell hc)

def total (cs : List Chn) : Nat := (cs.map (fun c => c.bs.length)).sum
theorem total_snoc (cs : List Chn) (c : Chn) : total (cs ++ [c]) = total cs + c.bs.length := by simp [total]
theorem chn_snoc (l : List Chn) (k : Nat) (h : k < l.length) : l.take (k + 1) = l.take k ++ [l[k]] := by
  rw [List.take_succ_eq_append_getElem h]
theorem total_take (cs : List Chn) (k : Nat) : total (cs.take k) ≤ total cs := by
  have h : cs = cs.take k ++ cs.drop k := (List.take_append_drop k cs).symm
  have : total cs = total (cs.take k) + total (cs.drop k) := by conv => lhs; rw [h]
                                                                simp only [total, List.map_append, List.sum_append]
  omega

def okChn (c : Chn) : Bool := decide (0 ≤ c.at_ ∧ c.at_ < 65536)
/-- Is it a configuration? -/
def validI (rom : Int) (cs : List Chn) : Bool := decide (0 ≤ rom ∧ rom ≤ 256 ∧ cs.length ≤ 8) && (cs.all okChn && decide (total cs ≤ 4096))

theorem valid_pre {rom : Int} {cs : List Chn} {k : Nat} (hk : k < cs.length) (h : ¬ (okChn cs[k] = true ∧ total (cs.take (k + 1)) ≤ 4096)) : validI rom cs = false := by
  rw [Bool.eq_false_iff]
  intro e
  unfold validI at e
  simp only [Bool.and_eq_true, decide_eq_true_eq] at e
  exact h ⟨List.all_eq_true.1 e.2.1 _ (List.getElem_mem hk), Nat.le_trans (total_take cs _) e.2.2⟩

theorem valid_any (N : Nat) (v : Value) (cs : List Chn) (rom : Int) (w : World) (h : CfAt N w v cs) (hl : cs.length ≤ 140737488355328) (hb : ∀ c ∈ cs, c.bs.length ≤ 140737488355328) :
    Calls Tryz.prog 50 #[.agg #[v, .int .i64 rom]] w fun e w' => e = .returned (.bool (validI rom cs)) ∧ Below w.heap.size w w' := by
  obtain ⟨p, cap, rfl, H⟩ := h
  by_cases h0 : 0 ≤ rom ∧ rom ≤ 256 ∧ cs.length ≤ 8
  · obtain ⟨r0, r1, r2⟩ := h0
    have r0' : ¬ rom < 0 := by omega
    have r1' : ¬ 256 < rom := by omega
    have r2' : ¬ (8 : Int) < (cs.length : Int) := by omega
    have HH : Hid (cs ≠ [] → ∃ b off, p = some ⟨b, off, none⟩ ∧ b < N ∧
      ∀ i, (h : i < cs.length) → w.cell? ⟨b, off + i * 2, none⟩ = some (.int .i64 cs[i].at_) ∧ w.cell? ⟨b, off + i * 2 + 1, none⟩ = some cs[i].v ∧ ChV N w cs[i].v cs[i].bs) := H
    clear H
    go_enter Tryz.func50, Tryz.ntmps50
    go_wp2
    go_loopw [3, 23] (fun room i wr => ∃ k : Nat, k ≤ cs.length ∧ i = .int .i64 k ∧ room = .int .i64 (4096 - (total (cs.take k) : Int)) ∧ (cs.take k).all okChn = true ∧ total (cs.take k) ≤ 4096 ∧ Below w.heap.size w wr) (fun _ i _ => cs.length - (intOf i).toNat)
    case atStart => exact ⟨0, Nat.zero_le _, rfl, rfl, rfl, by simp [total], (Below.refl _ _).alloc (Nat.le_refl _) _⟩
    case round =>
      obtain ⟨k, hk, rfl, rfl, ha, ht, hB⟩ := hrel
      by_cases hlt : k < cs.length
      · obtain ⟨b, off, rfl, hbN, HC⟩ := HH.out (by intro e; rw [e] at hlt; simp at hlt)
        obtain ⟨c1, c2, p2, cap2, hv, -⟩ := HC k hlt
        have d1 := (hB.cell (p := ⟨b, off + k * 2, none⟩) (lt_of_cell (by rw [c1]; simp))).trans c1
        have d2 := (hB.cell (p := ⟨b, off + k * 2 + 1, none⟩) (lt_of_cell (by rw [c2]; simp))).trans c2
        rw [hv] at d2
        have bl := hb cs[k] (List.getElem_mem hlt)
        have HT : Hid (total (cs.take (k + 1)) = total (cs.take k) + cs[k].bs.length) := by show _ = _; rw [chn_snoc cs k hlt, total_snoc]
        have HV : Hid (¬ (okChn cs[k] = true ∧ total (cs.take (k + 1)) ≤ 4096) → validI rom cs = false) := valid_pre hlt
        have HA : Hid (okChn cs[k] = true → (cs.take (k + 1)).all okChn = true) := by intro e; rw [chn_snoc cs k hlt, List.all_append, ha]; simp [e]
        have HO : Hid (okChn cs[k] = decide (0 ≤ cs[k].at_ ∧ cs[k].at_ < 65536)) := rfl
        have HBl : Hid (Below w.heap.size w wr) := hB
        clear c1 c2 hv HC ha hB
        rw [HT.out] at HV
        generalize cs[k].at_ = A at *
        generalize okChn cs[k] = O at *
        generalize cs[k].bs.length = L at *
        generalize total (cs.take k) = T at *
        by_cases a0 : A < 0
        · go_wp2
          go_ret
          exact ⟨cp_bool (HV.out (by rw [HO.out]; simp; omega)).symm, HBl.out.alloc HBl.out.size _⟩
        · have a0' : 0 ≤ A := by omega
          by_cases a1 : 65536 ≤ A
          · go_wp2
            go_ret
            exact ⟨cp_bool (HV.out (by rw [HO.out]; simp; omega)).symm, HBl.out.alloc HBl.out.size _⟩
          · have a1' : A < 65536 := by omega
            by_cases a2 : (4096 : Int) - T - L < 0
            · go_wp2
              go_ret
              exact ⟨cp_bool (HV.out (by rw [HO.out]; simp; omega)).symm, HBl.out.alloc HBl.out.size _⟩
            · have a2' : 0 ≤ (4096 : Int) - T - L := by omega
              go_wp2
              go_roundw
              case rel => exact ⟨k + 1, by omega, by go_num, by rw [HT.out]; go_num, HA.out (by rw [HO.out]; simp; omega), by rw [HT.out]; omega, HBl.out.alloc HBl.out.size _⟩
              case measure => simp [intOf]; omega
      · have hke : cs.take k = cs := List.take_of_length_le (by omega)
        rw [hke] at ha ht
        have HV : Hid (validI rom cs = true) := by show _ = _; unfold validI; simp [r0, r1, r2, ha, ht]
        clear ha ht hke
        have HBl : Hid (Below w.heap.size w wr) := hB
        clear hB
        go_wp2
        go_ret
        exact ⟨cp_bool HV.out.symm, HBl.out⟩
  · have HV : Hid (validI rom cs = false) := by show _ = _; unfold validI; simp [h0]
    rw [HV.out]
    by_cases r0 : rom < 0
    · clear h0
      go_enter Tryz.func50, Tryz.ntmps50
      go_wp2
      go_ret
      exact ⟨rfl, (Below.refl _ _).alloc (Nat.le_refl _) _⟩
    · have r0' : 0 ≤ rom := by omega
      by_cases r1 : 256 < rom
      · clear h0
        go_enter Tryz.func50, Tryz.ntmps50
        go_wp2
        go_ret
        exact ⟨rfl, (Below.refl _ _).alloc (Nat.le_refl _) _⟩
      · have r1' : rom ≤ 256 := by omega
        have r2 : (8 : Int) < (cs.length : Int) := by omega
        clear h0
        go_enter Tryz.func50, Tryz.ntmps50
        go_wp2
        go_ret
        exact ⟨rfl, (Below.refl _ _).alloc (Nat.le_refl _) _⟩

/-- Bytes put into memory from an address on. -/
def fillB (m : Nat → Int) (at_ : Int) (bs : List UInt8) : Nat → Int := bs.zipIdx.foldl (fun m p => mput m ((at_ + (p.2 : Int)) % 65536).toNat (p.1.toNat : Int)) m
def fillI (m : Nat → Int) (cs : List Chn) : Nat → Int := cs.foldl (fun m c => fillB m c.at_ c.bs) m

theorem fillB_snoc (m : Nat → Int) (at_ : Int) (bs : List UInt8) (k : Nat) (h : k < bs.length) :
    fillB m at_ (bs.take (k + 1)) = mput (fillB m at_ (bs.take k)) ((at_ + (k : Int)) % 65536).toNat (bs[k].toNat : Int) := by
  have e : min k bs.length = k := by omega
  unfold fillB; rw [take_snoc8 bs k h, List.zipIdx_append, List.foldl_append]; simp [e]
theorem fillI_snoc (m : Nat → Int) (cs : List Chn) (k : Nat) (h : k < cs.length) : fillI m (cs.take (k + 1)) = fillB (fillI m (cs.take k)) cs[k].at_ cs[k].bs := by
  unfold fillI; rw [chn_snoc cs k h, List.foldl_append]; rfl
end

/-
  Memory filled.
-/
section
theorem total_le {cs : List Chn} {c : Chn} (h : c ∈ cs) : c.bs.length ≤ total cs := by
  unfold total
  induction cs with
  | nil => cases h
  | cons x l ih =>
    simp only [List.map_cons, List.sum_cons]
    cases h with
    | head => omega
    | tail _ h => have := ih h; omega
theorem u8_r (c : UInt8) : (0 : Int) ≤ (c.toNat : Int) ∧ (c.toNat : Int) < 256 := by have := c.toNat_lt; omega

theorem fill_any {B : Nat} {s : PC} {w0 w : World} (h : Tn B s w0 w) (N : Nat) (hN : N ≤ B) (v : Value) (cs : List Chn) (rom : Int) (hc : CfAt N w v cs) (hv : validI rom cs = true) :
    Calls Tryz.prog 51 #[.pointer (some ⟨B, 0, none⟩), .agg #[v, .int .i64 rom]] w fun e w' => e = .returned (.tuple #[]) ∧ Tn B { s with rom := rom * 256, mem := fillI s.mem cs } w0 w' := by
  have hv' := hv
  unfold validI at hv
  simp only [Bool.and_eq_true, decide_eq_true_eq] at hv
  obtain ⟨⟨r0, r1, r2⟩, hall, htot⟩ := hv
  clear hv'
  obtain ⟨p, cap, rfl, H⟩ := hc
  have HH : Hid (cs ≠ [] → ∃ b off, p = some ⟨b, off, none⟩ ∧ b < N ∧
      ∀ i, (h : i < cs.length) → w.cell? ⟨b, off + i * 2, none⟩ = some (.int .i64 cs[i].at_) ∧ w.cell? ⟨b, off + i * 2 + 1, none⟩ = some cs[i].v ∧ ChV N w cs[i].v cs[i].bs) := H
  have HA : Hid (cs.all okChn = true) := hall
  have HT : Hid (total cs ≤ 4096) := htot
  clear H hall htot
  have hlt := h.c.lt
  have hsz := h.g.size
  have n0 : w.heap.size ≠ B := by omega
  have m0 : B ≠ w.heap.size := by omega
  have fz0 := h.c.free
  have c_rom := h.c.crom
  have Hh : Hid (Tn B s w0 w) := h
  clear h
  go_enter Tryz.func51, Tryz.ntmps51
  go_wp2
  go_loopw [17] (fun i wr => ∃ k : Nat, k ≤ cs.length ∧ i = .int .i64 k ∧ Tn B { s with rom := rom * 256, mem := fillI s.mem (cs.take k) } w0 wr ∧ w.grownBy wr (some B)) (fun i _ => cs.length - (intOf i).toNat)
  case atStart => exact ⟨0, Nat.zero_le _, rfl, (Hh.out.setRom (rom * 256) (by omega)).alloc _, cp_trans (cp_set _ _ _ _) (cp_alloc _ _ _)⟩
  case round =>
    obtain ⟨k, hk, rfl, hT, hG⟩ := hrel
    by_cases hl2 : k < cs.length
    · obtain ⟨b, off, rfl, hbN, HC⟩ := HH.out (by intro e; rw [e] at hl2; simp at hl2)
      obtain ⟨c1, c2, p2, cap2, hv, hB2⟩ := HC k hl2
      have d1 := (grown_cell hG (by omega) (by rw [c1]; simp)).trans c1
      have d2 := (grown_cell hG (by omega) (by rw [c2]; simp)).trans c2
      rw [hv] at d2
      have HF : Hid (fillI s.mem (cs.take (k + 1)) = fillB (fillI s.mem (cs.take k)) cs[k].at_ cs[k].bs) := fillI_snoc s.mem cs k hl2
      have oc := List.all_eq_true.1 HA.out _ (List.getElem_mem hl2)
      unfold okChn at oc
      have oc2 := of_decide_eq_true oc
      obtain ⟨a0, a1⟩ := oc2
      have hL : cs[k].bs.length ≤ 4096 := Nat.le_trans (total_le (List.getElem_mem hl2)) HT.out
      clear oc c1 c2 hv HC
      have HT1 : Hid (Tn B { s with rom := rom * 256, mem := fillI s.mem (cs.take k) } w0 wr ∧ w.grownBy wr (some B)) := ⟨hT, hG⟩
      have bl := hT.c.lt
      have fz := hT.c.free
      have hsr := hG.size
      have hs0 := hT.g.size
      have n1 : wr.heap.size ≠ B := by omega
      have m1 : B ≠ wr.heap.size := by omega
      clear hT hG
      generalize fillI s.mem (cs.take k) = M at *
      generalize cs[k].at_ = A at *
      generalize cs[k].bs = l at *
      have HB2 : Hid (l ≠ [] → ∃ b off, p2 = some ⟨b, off, none⟩ ∧ b < N ∧ BytesAt w b off l) := hB2
      clear hB2
      go_wp2
      go_loopw [24] (fun i wq => ∃ j : Nat, j ≤ l.length ∧ i = .int .i64 j ∧ Tn B { s with rom := rom * 256, mem := fillB M A (l.take j) } w0 wq ∧ w.grownBy wq (some B) ∧ wq.cell? ⟨wr.heap.size, 0, none⟩ = some (.int .i64 A)) (fun i _ => l.length - (intOf i).toNat)
      case atStart => exact ⟨0, Nat.zero_le _, rfl, HT1.out.1.alloc _, cp_trans HT1.out.2 (cp_alloc _ _ _), World.cell?_alloc_at _ _ _ _ rfl⟩
      case round =>
        obtain ⟨j, hj, rfl, hT, hG, hq⟩ := hrel
        by_cases hlj : j < l.length
        · obtain ⟨b2, off2, rfl, hb2, hBy⟩ := HB2.out (by intro e; rw [e] at hlj; simp at hlj)
          have hcell := (grown_cell (o := off2 + j) hG (by omega) (by rw [hBy j hlj]; simp)).trans (hBy j hlj)
          have HS : Hid (fillB M A (l.take (j + 1)) = mput (fillB M A (l.take j)) ((A + (j : Int)) % 65536).toNat (l[j].toNat : Int)) := fillB_snoc M A l j hlj
          have hm := hT.c.mem ((A + (j : Int)) % 65536).toNat (by omega)
          have fq := hT.c.free ((A + (j : Int)) % 65536).toNat
          have qlt := hT.c.lt
          have i0 : 0 ≤ A + (j : Int) := by omega
          have i1 : 0 ≤ (A + (j : Int)) % 65536 := by omega
          have i2 : (A + (j : Int)) % 65536 < 65536 := by omega
          have HT2 : Hid (Tn B { s with rom := rom * 256, mem := fillB M A (l.take j) } w0 wr ∧ w.grownBy wr (some B)) := ⟨hT, hG⟩
          have hu := u8_r l[j]
          clear hT hG hBy
          generalize fillB M A (l.take j) = M2 at *
          generalize l[j] = x at *
          go_wp2
          go_region
          all_goals
            go_wp2
            go_roundw
            case rel => exact ⟨j + 1, by omega, by go_num, by rw [HS.out]; exact (HT2.out.1.setMem _ _ (by omega) hu).drew, cp_trans (cp_trans HT2.out.2 (cp_set _ _ _ _)) (cp_drew _ _), (World.cell?_setCell_other _ _ _ _ (fun e => by injection e with e1 e2; omega)).trans hq⟩
            case measure => simp [intOf]; omega
        · have hke : l.take j = l := List.take_of_length_le (by omega)
          rw [hke] at hT
          rw [← HF.out] at hT
          have HT2 : Hid (Tn B { s with rom := rom * 256, mem := fillI s.mem (cs.take (k + 1)) } w0 wr ∧ w.grownBy wr (some B)) := ⟨hT, hG⟩
          clear hT hG hke
          go_wp2
          go_roundw
          case rel => exact ⟨k + 1, by omega, by go_num, HT2.out.1, HT2.out.2⟩
          case measure => simp [intOf]; omega
    · have hke : cs.take k = cs := List.take_of_length_le (by omega)
      rw [hke] at hT
      have HT1 : Hid (Tn B { s with rom := rom * 256, mem := fillI s.mem cs } w0 wr) := hT
      clear hT hG hke
      go_wp2
      go_end0
      exact ⟨rfl, HT1.out⟩
end
end

end Go.Proofs.YtcgjliflnnklnaaGreat
