/-
  Stacked's program, reckoned at every S (C is 0).
-/
import Derived.Test.YtcgjliflnnklnaaGreatGE
namespace Go.Proofs.YtcgjliflnnklnaaGreat
open Go.RowKit

set_option maxRecDepth 1000000 in
theorem st_all0 (a : UInt8) (v1 v2 v3 v4 : Value) (R : Nat → Option Value) : (List.range 256).map (fun s => runR 41 (stPC (UInt8.ofNat s) a 24 v1 v2 v3 v4 R)) = (List.range 256).map (stEnd a false) := by kernel_rfl

end Go.Proofs.YtcgjliflnnklnaaGreat
