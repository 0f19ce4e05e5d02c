/-
  Proved: styletlaw.Stubs answers true at every script whose bulk is at most 1048576, and the script reads afterwards as it read before.
  Conditions: the bound of the second form alone (the first form is false by size: REPORT.md).
-/
import Derived.Test.YtcgjliflnnklnaaGreatOwnSaz
namespace Go.Proofs.YtcgjliflnnklnaaGreat.stubs
open Go.ChangeShapes Go.WideShapes Go.ChangeAt Go.RowKit Go.Deep
set_option maxRecDepth 100000
theorem ka:Tryz.pinned.checked.prog.funcNamed Rows.stubsUptoRow.func=some 5:=by kernel_rfl
theorem kb:joinedFacts Tryz.pinned.checked.prog 5 Tryz.f5 (Rows.OpenSpec.upto Rows.stubsSpec).bare Rows.stubsUptoRow=true:=by kernel_rfl
theorem kc:Func.isInstance Tryz.pinned.checked.prog Tryz.f5 Rows.stubsUptoRow.origin Rows.stubsUptoRow.targs:=of_decide_eq_true zzf
theorem kd:Func.isWrapper Tryz.pinned.checked.prog Tryz.f5 Rows.stubsUptoRow.wrapper Rows.stubsUptoRow.mainSum:=by unfold Func.isWrapper;first|(rw [if_pos (by decide+kernel)];kernel_rfl)|(rw [if_neg (by decide+kernel)];exact ⟨rfl,rfl⟩)
theorem over:Rows.stubsUptoRow.holds Tryz.pinned (Rows.OpenSpec.upto Rows.stubsSpec):=
 OpenClaim.holds_of_cond 5 Tryz.f5 rfl rfl rfl rfl rfl rfl rfl ⟨rfl,rfl,rfl,rfl,rfl⟩ rfl rfl rfl rfl rfl ka Tryz.func5 kb kc kd
  (fun os started H enc _ F=>lifted os started H enc F)
end Go.Proofs.YtcgjliflnnklnaaGreat.stubs
namespace Go.Proofs.YtcgjliflnnklnaaGreat
theorem stubsUpto_holds:Rows.StubsUptoSaid:=stubs.over
#print axioms stubsUpto_holds
end Go.Proofs.YtcgjliflnnklnaaGreat
