/-
  Proved: styletlaw.All answers true at every script whose bulk is at most 1048576, and the script reads afterwards as it read before.
  Conditions: the bound of the second form alone (the first form is false by size: REPORT.md).
-/
import Derived.Test.YtcgjliflnnklnaaGreatOwnAaz
namespace Go.Proofs.YtcgjliflnnklnaaGreat.alls
open Go.ChangeShapes Go.WideShapes Go.ChangeAt Go.RowKit Go.Deep
set_option maxRecDepth 100000
theorem ka:Tryz.pinned.checked.prog.funcNamed Rows.allUptoRow.func=some 6:=by kernel_rfl
theorem kb:joinedFacts Tryz.pinned.checked.prog 6 Tryz.f6 (Rows.OpenSpec.upto Rows.allSpec).bare Rows.allUptoRow=true:=by kernel_rfl
theorem kc:Func.isInstance Tryz.pinned.checked.prog Tryz.f6 Rows.allUptoRow.origin Rows.allUptoRow.targs:=of_decide_eq_true zzf
theorem kd:Func.isWrapper Tryz.pinned.checked.prog Tryz.f6 Rows.allUptoRow.wrapper Rows.allUptoRow.mainSum:=by unfold Func.isWrapper;first|(rw [if_pos (by decide+kernel)];kernel_rfl)|(rw [if_neg (by decide+kernel)];exact ⟨rfl,rfl⟩)
theorem over:Rows.allUptoRow.holds Tryz.pinned (Rows.OpenSpec.upto Rows.allSpec):=
 OpenClaim.holds_of_cond 6 Tryz.f6 rfl rfl rfl rfl rfl rfl rfl ⟨rfl,rfl,rfl,rfl,rfl⟩ rfl rfl rfl rfl rfl ka Tryz.func6 kb kc kd
  (fun os started H enc _ F=>lifted os started H enc F)
end Go.Proofs.YtcgjliflnnklnaaGreat.alls
namespace Go.Proofs.YtcgjliflnnklnaaGreat
theorem allUpto_holds:Rows.AllUptoSaid:=alls.over
#print axioms allUpto_holds
end Go.Proofs.YtcgjliflnnklnaaGreat
