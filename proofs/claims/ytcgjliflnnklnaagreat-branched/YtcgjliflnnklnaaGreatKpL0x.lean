/-
  Branches that are taken, reckoned at every distance.
-/
import Derived.Test.YtcgjliflnnklnaaGreatKpLx
namespace Go.Proofs.YtcgjliflnnklnaaGreat
open Go.RowKit

set_option maxRecDepth 1000000 in
theorem br_yes0 (v1 v2 v3 : Value) (R : Nat → Option Value) : (List.range 256).map (fun d => runF (brN true d + 5) (brPC (brOps.getD 0 0) (UInt8.ofNat d) (brP (0 % 2 == 1)) v1 v2 v3 R)) = (List.range 256).map (brEnd true) := by kernel_rfl
set_option maxRecDepth 1000000 in
theorem br_yes1 (v1 v2 v3 : Value) (R : Nat → Option Value) : (List.range 256).map (fun d => runF (brN true d + 5) (brPC (brOps.getD 1 0) (UInt8.ofNat d) (brP (1 % 2 == 1)) v1 v2 v3 R)) = (List.range 256).map (brEnd true) := by kernel_rfl
set_option maxRecDepth 1000000 in
theorem br_yes2 (v1 v2 v3 : Value) (R : Nat → Option Value) : (List.range 256).map (fun d => runF (brN true d + 5) (brPC (brOps.getD 2 0) (UInt8.ofNat d) (brP (2 % 2 == 1)) v1 v2 v3 R)) = (List.range 256).map (brEnd true) := by kernel_rfl
set_option maxRecDepth 1000000 in
theorem br_yes3 (v1 v2 v3 : Value) (R : Nat → Option Value) : (List.range 256).map (fun d => runF (brN true d + 5) (brPC (brOps.getD 3 0) (UInt8.ofNat d) (brP (3 % 2 == 1)) v1 v2 v3 R)) = (List.range 256).map (brEnd true) := by kernel_rfl

end Go.Proofs.YtcgjliflnnklnaaGreat
