/-
  The document's computer, walked: a cycle on the bus.
-/
import Derived.Test.YtcgjliflnnklnaaGreatJ05
namespace Go.Proofs.YtcgjliflnnklnaaGreat
open Go.RowKit
set_option maxRecDepth 100000
set_option maxHeartbeats 4000000

theorem rbus {B M : Nat} {vh : Value} {t : RS} {w0 w : World} (h : TM B M (MV M vh t) t.mem w0 w) (a : Act) (a0 : 0 ≤ a.addr ∧ a.addr < 65536) :
    Calls Tryz.prog 93 #[.pointer (some ⟨B, 0, none⟩), a.val] w fun e w' => e = .returned (t.bus a).2.val ∧ TM B M (MV M vh (t.bus a).1) (t.bus a).1.mem w0 w' := by
  have lt1 := h.c.lt
  have lt2 := h.c.ltM
  have ne := h.c.ne
  have ne2 := h.c.ne.symm
  have f10 := h.c.fr 10
  have f11 := h.c.fr 11
  obtain ⟨c0, c1, -, -, -, -, -, -, -, -, c10, c11, -, -, -, -, -⟩ := h.c.cs
  have hsz := h.g.size
  obtain ⟨a, wr, d, ft⟩ := a
  obtain ⟨h1, h2⟩ := a0
  simp only at h1 h2
  have PK := fun w1 (h : TM B M (MV M vh t) t.mem w0 w1) => rpeek h a
  rw [show a % 65536 = a from by omega] at PK
  unfold Act.val
  cases wr
  · by_cases e2 : a = 53249
    · subst e2
      rw [show t.bus ⟨53249, false, d, ft⟩ = ({ t with calls := false }, ⟨53249, t.peek 53249, false, ft⟩) from rfl]
      unfold BusI.val
      generalize t.peek 53249 = pv at *
      go_enter Tryz.func93, Tryz.ntmps93
      go_wp2_with (go_at_call 67; refine (PK _ ?pk).mono ?_; (case pk => (repeat (first | with_reducible exact h | with_reducible apply TM.drew | with_reducible apply TM.drewN | with_reducible apply TM.alloc))); rintro e w1 ⟨rfl, rfl⟩)
      go_returns
      refine ⟨rfl, ?_⟩
      apply TM.eq
      · (repeat (first | with_reducible exact h | with_reducible apply TM.drew | with_reducible apply TM.drewN | with_reducible apply TM.alloc | ((with_reducible apply TM.set); (case hi => decide)) | ((with_reducible apply TM.other); (case hb => omega); (case h1 => omega); (case h2 => omega))))
      · rfl
      · rfl
    · have q2 : (a == 53249) = false := by rw [beq_eq_false_iff_ne]; exact e2
      rw [show t.bus ⟨a, false, d, ft⟩ = (t, ⟨a, t.peek a, false, ft⟩) from by unfold RS.bus; dsimp only; rw [if_pos rfl, if_neg e2]]
      unfold BusI.val
      generalize t.peek a = pv at *
      clear e2
      go_enter Tryz.func93, Tryz.ntmps93
      go_wp2_with (go_at_call 67; refine (PK _ ?pk).mono ?_; (case pk => (repeat (first | with_reducible exact h | with_reducible apply TM.drew | with_reducible apply TM.drewN | with_reducible apply TM.alloc))); rintro e w1 ⟨rfl, rfl⟩)
      go_returns
      refine ⟨rfl, ?_⟩
      (repeat (first | with_reducible exact h | with_reducible apply TM.drew | with_reducible apply TM.drewN | with_reducible apply TM.alloc | ((with_reducible apply TM.set); (case hi => decide)) | ((with_reducible apply TM.other); (case hb => omega); (case h1 => omega); (case h2 => omega))))
  · clear PK
    by_cases e1 : a = 53248
    · subst e1
      rw [show t.bus ⟨53248, true, d, ft⟩ = ({ t with cnt := d }, ⟨53248, d, true, ft⟩) from rfl]
      unfold BusI.val
      go_enter Tryz.func93, Tryz.ntmps93
      go_wp2_with fail
      go_returns
      refine ⟨rfl, ?_⟩
      apply TM.eq
      · (repeat (first | with_reducible exact h | with_reducible apply TM.drew | with_reducible apply TM.drewN | with_reducible apply TM.alloc | ((with_reducible apply TM.set); (case hi => decide)) | ((with_reducible apply TM.other); (case hb => omega); (case h1 => omega); (case h2 => omega))))
      · rfl
      · rfl
    · have q1 : (a == 53248) = false := by rw [beq_eq_false_iff_ne]; exact e1
      by_cases e2 : a = 53249
      · subst e2
        rw [show t.bus ⟨53249, true, d, ft⟩ = (t, ⟨53249, d, true, ft⟩) from by unfold RS.bus; dsimp only; rw [if_neg (by decide), if_neg (by decide), if_neg (fun q => q.2 rfl)]]
        unfold BusI.val
        clear e1
        obtain ⟨q3, hq3⟩ : ∃ q3 : Bool, decide ((53249 : Int) < t.rom) = q3 := ⟨_, rfl⟩
        cases q3
        all_goals
          go_enter Tryz.func93, Tryz.ntmps93
          go_wp2_with fail
          go_quiet (fail)
          go_wp2_with fail
          go_returns
          refine ⟨rfl, ?_⟩
          (repeat (first | with_reducible exact h | with_reducible apply TM.drew | with_reducible apply TM.drewN | with_reducible apply TM.alloc | ((with_reducible apply TM.set); (case hi => decide)) | ((with_reducible apply TM.other); (case hb => omega); (case h1 => omega); (case h2 => omega))))
      · have q2 : (a != 53249) = true := by rw [bne_iff_ne]; exact e2
        by_cases e3 : a < t.rom
        · obtain ⟨n, rfl⟩ := Int.eq_ofNat_of_zero_le h1
          have hm := h.c.m n (by omega)
          have hf := h.c.fm n
          have hn : n < 65536 := by omega
          rw [show t.bus ⟨(n : Int), true, d, ft⟩ = ({ t with mem := mput t.mem n d }, ⟨n, d, true, ft⟩) from by unfold RS.bus; dsimp only; rw [if_neg (by decide), if_neg e1, if_pos ⟨e3, e2⟩, Int.toNat_natCast]]
          unfold BusI.val
          clear e1 e2
          go_enter Tryz.func93, Tryz.ntmps93
          go_wp2_with fail
          go_quiet (fail)
          go_wp2_with fail
          go_region_with fail
          all_goals go_wp2_with fail
          all_goals go_returns
          all_goals refine ⟨rfl, ?_⟩
          all_goals (apply TM.eq; (case h => (repeat (first | with_reducible exact h | with_reducible apply TM.drew | with_reducible apply TM.drewN | with_reducible apply TM.alloc | ((with_reducible apply TM.setM); (case hi => exact hn)) | ((with_reducible apply TM.set); (case hi => decide)) | ((with_reducible apply TM.other); (case hb => omega); (case h1 => omega); (case h2 => omega))))); (case e => rfl); (case e2 => rfl))
        · rw [show t.bus ⟨a, true, d, ft⟩ = (t, ⟨a, d, true, ft⟩) from by unfold RS.bus; dsimp only; rw [if_neg (by decide), if_neg e1, if_neg (fun q => e3 q.1)]]
          have e4 : decide (a < t.rom) = false := decide_eq_false e3
          clear e3
          unfold BusI.val
          clear e1 e2
          go_enter Tryz.func93, Tryz.ntmps93
          go_wp2_with fail
          go_quiet (fail)
          go_wp2_with fail
          go_returns
          refine ⟨rfl, ?_⟩
          (repeat (first | with_reducible exact h | with_reducible apply TM.drew | with_reducible apply TM.drewN | with_reducible apply TM.alloc | ((with_reducible apply TM.set); (case hi => decide)) | ((with_reducible apply TM.other); (case hb => omega); (case h1 => omega); (case h2 => omega))))

end Go.Proofs.YtcgjliflnnklnaaGreat
