/-
  A cycle in three parts; the table's bounds.
-/
import Derived.Test.YtcgjliflnnklnaaGreatCp0
namespace Go.Proofs.YtcgjliflnnklnaaGreat
open Go.RowKit

def PC.pins (s : PC) (nmi : Bool) : PC := { s with nmiOn := nmi, nmiDue := s.nmiDue || (nmi && !s.nmiOn) }
def PC.ends (s : PC) (b : BusI) : PC := if b.wr = false ∨ b.addr ≠ 53248 then s.tick else s

theorem pc_cycle (s : PC) (nmi irq : Bool) : s.cycle nmi irq = ({ ((s.pins nmi).turn irq).1.ends ((s.pins nmi).turn irq).2 with cyc := IntKind.wrap .i64 ((((s.pins nmi).turn irq).1.ends ((s.pins nmi).turn irq).2).cyc + 1) }, ((s.pins nmi).turn irq).2) := by
  have e : ({ (if nmi = true ∧ s.nmiOn = false then { s with nmiDue := true } else s : PC) with nmiOn := nmi } : PC) = s.pins nmi := by
    unfold PC.pins
    cases nmi
    · simp
    · cases h : s.nmiOn <;> simp
  unfold PC.cycle PC.ends
  simp only [e]


theorem decode_lt (b : Nat) (h : b < 256) : (decodeI b).1 < 56 ∧ (decodeI b).2 < 23 := by
  have : ∀ n : Fin 256, (decodeI n.val).1 < 56 ∧ (decodeI n.val).2 < 23 := by decide +kernel
  exact this ⟨b, h⟩


end Go.Proofs.YtcgjliflnnklnaaGreat
