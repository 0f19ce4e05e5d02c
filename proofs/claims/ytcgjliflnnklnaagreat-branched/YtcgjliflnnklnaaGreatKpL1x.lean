/-
  Branches that are taken, reckoned at every distance.
-/
import Derived.Test.YtcgjliflnnklnaaGreatKpLx
namespace Go.Proofs.YtcgjliflnnklnaaGreat
open Go.RowKit

set_option maxRecDepth 1000000 in
theorem br_yes4 (v1 v2 v3 : Value) (R : Nat → Option Value) : (List.range 256).map (fun d => runF (brN true d + 5) (brPC (brOps.getD 4 0) (UInt8.ofNat d) (brP (4 % 2 == 1)) v1 v2 v3 R)) = (List.range 256).map (brEnd true) := by kernel_rfl
set_option maxRecDepth 1000000 in
theorem br_yes5 (v1 v2 v3 : Value) (R : Nat → Option Value) : (List.range 256).map (fun d => runF (brN true d + 5) (brPC (brOps.getD 5 0) (UInt8.ofNat d) (brP (5 % 2 == 1)) v1 v2 v3 R)) = (List.range 256).map (brEnd true) := by kernel_rfl
set_option maxRecDepth 1000000 in
theorem br_yes6 (v1 v2 v3 : Value) (R : Nat → Option Value) : (List.range 256).map (fun d => runF (brN true d + 5) (brPC (brOps.getD 6 0) (UInt8.ofNat d) (brP (6 % 2 == 1)) v1 v2 v3 R)) = (List.range 256).map (brEnd true) := by kernel_rfl
set_option maxRecDepth 1000000 in
theorem br_yes7 (v1 v2 v3 : Value) (R : Nat → Option Value) : (List.range 256).map (fun d => runF (brN true d + 5) (brPC (brOps.getD 7 0) (UInt8.ofNat d) (brP (7 % 2 == 1)) v1 v2 v3 R)) = (List.range 256).map (brEnd true) := by kernel_rfl

end Go.Proofs.YtcgjliflnnklnaaGreat
