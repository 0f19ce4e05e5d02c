/-
  An instruction is performed: through the table.
-/
import Derived.Test.YtcgjliflnnklnabGreatPB
import Derived.Test.YtcgjliflnnklnabGreatCpU
import Derived.Test.YtcgjliflnnklnabGreatCpC
namespace Go.Proofs.YtcgjliflnnklnabGreat
open Go.RowKit

theorem imeth_at (i : Nat) (hi : i < 56) (v : Value) (hv : itab.getD i .nilFunc = v) (w : World) :
    Calls Tryz.prog 119 #[.int .u8 i] w fun e w' => e = .returned v ∧ Below w.heap.size w w' := hv ▸ imeth_any i hi w
theorem mmeth_at (i : Nat) (hi : i < 23) (v : Value) (hv : mtab.getD i .nilFunc = v) (w : World) :
    Calls Tryz.prog 44 #[.int .u8 i] w fun e w' => e = .returned v ∧ Below w.heap.size w w' := hv ▸ mmeth_any i hi w

theorem below_thru {B : Nat} {s : PC} {w0 w w1 : World} (h : Tn B s w0 w) (hb : Below w.heap.size w w1) : Tn B s w0 w1 :=
  ⟨h.c.same (hb.block _ h.c.lt), ⟨hb.os.trans h.g.os, hb.tape.trans h.g.tape, hb.output.trans h.g.output, Nat.le_trans h.g.size hb.size, fun k hk hne => (hb.block k (Nat.lt_of_lt_of_le hk h.g.size)).trans (h.g.block k hk hne)⟩⟩

end Go.Proofs.YtcgjliflnnklnabGreat
