/-
  No cell of these rows narrows 'for every input' (looked for: loops, veiled, ifaces, maps, wideKeys, modest, calm, conditions, laid).
  DERIVED. THE GIVEN ROWS OF THIS SEAT. 11 by the template 'for every input the law returns true; each argument reads behind the call as it read before'; 0 by the template 'total and deterministic' (their statements: YtcgjliflnnklnaaGreatTotals.lean).
  GIVEN WITH THE SEED: the statements are not yours to turn. If you find one false, say at which input.
  Laid BY PROGRAM, IN A SANDBOX (cutbox-rows.mjs): the forced cells as the released guide's own fill.sh prints them over the translation 532aea48e796c9bf… (all of the seat's roots in one cut). By AI agents, Wed Nov 11 2026. No macro, syntax, notation, axiom, sorry.
-/
import Derived.Test.YtcgjliflnnklnaaGreatChecked
import GoSem.Claim
import GoSem.ClaimJoined
import GoSem.ClaimMapViews
import Derived.JoinedTies
import Derived.KernelRfl
namespace Go.Proofs.YtcgjliflnnklnaaGreat
/- THE CELL 'sum', in the pinned program and in every row, IS THE sha256 OF THE DUMP (.gsa) THAT YtcgjliflnnklnaaGreatProg.lean LOADS. Nothing in Lean hashes anything: it is a label: what it is worth is what the hold of that sum in a sandbox is worth. -/
noncomputable def Tryz.pinned : Pinned := { name := "ytcgjliflnnklnaagreat", sum := "532aea48e796c9bf2c6658fd1772c73e1f45adb1e0466faf2c932426cdf9200a", checked := Tryz.checked }
namespace Rows
def none {H : Type} : Left H := { results := [], args := [] }

/-- 'styletlaw.Cycles': WHATEVER THE INPUT: true; the input reads as it did. -/
def cyclesSpec : ChangeSpec := { name := "cycles", fn := fun _ => fun
  | [d] => { results := [.lit (.bool true)], args := [d] }
  | _ => none }
def cyclesRow : OpenClaim := { program := "ytcgjliflnnklnaagreat", sum := "532aea48e796c9bf2c6658fd1772c73e1f45adb1e0466faf2c932426cdf9200a", func := "stylet/styletlaw.Cycles", spec := "cycles", unfollowed := true, recurses := true, apart := false }
def CyclesSaid : Prop := cyclesRow.holds Tryz.pinned (OpenSpec.ofChange cyclesSpec)

/-- ITS FALSE NEIGHBOUR: 'it returns false'. Refute it at one input. -/
def cyclesWrong : ChangeSpec := { name := "cycles", fn := fun _ => fun
  | [d] => { results := [.lit (.bool false)], args := [d] }
  | _ => none }
def CyclesWrongFalsely : Prop := cyclesRow.holds Tryz.pinned (OpenSpec.ofChange cyclesWrong)

/-- 'styletlaw.Frames': WHATEVER THE INPUT: true; the input reads as it did. -/
def framesSpec : ChangeSpec := { name := "frames", fn := fun _ => fun
  | [d] => { results := [.lit (.bool true)], args := [d] }
  | _ => none }
def framesRow : OpenClaim := { program := "ytcgjliflnnklnaagreat", sum := "532aea48e796c9bf2c6658fd1772c73e1f45adb1e0466faf2c932426cdf9200a", func := "stylet/styletlaw.Frames", spec := "frames", unfollowed := true, recurses := true, apart := false }
def FramesSaid : Prop := framesRow.holds Tryz.pinned (OpenSpec.ofChange framesSpec)

/-- ITS FALSE NEIGHBOUR: 'it returns false'. Refute it at one input. -/
def framesWrong : ChangeSpec := { name := "frames", fn := fun _ => fun
  | [d] => { results := [.lit (.bool false)], args := [d] }
  | _ => none }
def FramesWrongFalsely : Prop := framesRow.holds Tryz.pinned (OpenSpec.ofChange framesWrong)

/-- 'styletlaw.Stubs': WHATEVER THE INPUT: true; the input reads as it did. -/
def stubsSpec : ChangeSpec := { name := "stubs", fn := fun _ => fun
  | [d] => { results := [.lit (.bool true)], args := [d] }
  | _ => none }
def stubsRow : OpenClaim := { program := "ytcgjliflnnklnaagreat", sum := "532aea48e796c9bf2c6658fd1772c73e1f45adb1e0466faf2c932426cdf9200a", func := "stylet/styletlaw.Stubs", spec := "stubs", unfollowed := true, recurses := true, apart := false }
def StubsSaid : Prop := stubsRow.holds Tryz.pinned (OpenSpec.ofChange stubsSpec)

/-- ITS FALSE NEIGHBOUR: 'it returns false'. Refute it at one input. -/
def stubsWrong : ChangeSpec := { name := "stubs", fn := fun _ => fun
  | [d] => { results := [.lit (.bool false)], args := [d] }
  | _ => none }
def StubsWrongFalsely : Prop := stubsRow.holds Tryz.pinned (OpenSpec.ofChange stubsWrong)

/-- 'styletlaw.All': WHATEVER THE INPUT: true; the input reads as it did. -/
def allSpec : ChangeSpec := { name := "all", fn := fun _ => fun
  | [d] => { results := [.lit (.bool true)], args := [d] }
  | _ => none }
def allRow : OpenClaim := { program := "ytcgjliflnnklnaagreat", sum := "532aea48e796c9bf2c6658fd1772c73e1f45adb1e0466faf2c932426cdf9200a", func := "stylet/styletlaw.All", spec := "all", unfollowed := true, recurses := true, apart := false }
def AllSaid : Prop := allRow.holds Tryz.pinned (OpenSpec.ofChange allSpec)

/-- ITS FALSE NEIGHBOUR: 'it returns false'. Refute it at one input. -/
def allWrong : ChangeSpec := { name := "all", fn := fun _ => fun
  | [d] => { results := [.lit (.bool false)], args := [d] }
  | _ => none }
def AllWrongFalsely : Prop := allRow.holds Tryz.pinned (OpenSpec.ofChange allWrong)

/-- 'styletkeep.Added': WHATEVER THE INPUT: true; the input reads as it did. -/
def addedSpec : ChangeSpec := { name := "added", fn := fun _ => fun
  | [d1, d2, d3] => { results := [.lit (.bool true)], args := [d1, d2, d3] }
  | _ => none }
def addedRow : OpenClaim := { program := "ytcgjliflnnklnaagreat", sum := "532aea48e796c9bf2c6658fd1772c73e1f45adb1e0466faf2c932426cdf9200a", func := "stylet/styletkeep.Added", spec := "added", unfollowed := true, recurses := true, apart := false }
def AddedSaid : Prop := addedRow.holds Tryz.pinned (OpenSpec.ofChange addedSpec)

/-- ITS FALSE NEIGHBOUR: 'it returns false'. Refute it at one input. -/
def addedWrong : ChangeSpec := { name := "added", fn := fun _ => fun
  | [d1, d2, d3] => { results := [.lit (.bool false)], args := [d1, d2, d3] }
  | _ => none }
def AddedWrongFalsely : Prop := addedRow.holds Tryz.pinned (OpenSpec.ofChange addedWrong)

/-- 'styletkeep.Shifted': WHATEVER THE INPUT: true; the input reads as it did. -/
def shiftedSpec : ChangeSpec := { name := "shifted", fn := fun _ => fun
  | [d1, d2, d3, d4] => { results := [.lit (.bool true)], args := [d1, d2, d3, d4] }
  | _ => none }
def shiftedRow : OpenClaim := { program := "ytcgjliflnnklnaagreat", sum := "532aea48e796c9bf2c6658fd1772c73e1f45adb1e0466faf2c932426cdf9200a", func := "stylet/styletkeep.Shifted", spec := "shifted", unfollowed := true, recurses := true, apart := false }
def ShiftedSaid : Prop := shiftedRow.holds Tryz.pinned (OpenSpec.ofChange shiftedSpec)

/-- ITS FALSE NEIGHBOUR: 'it returns false'. Refute it at one input. -/
def shiftedWrong : ChangeSpec := { name := "shifted", fn := fun _ => fun
  | [d1, d2, d3, d4] => { results := [.lit (.bool false)], args := [d1, d2, d3, d4] }
  | _ => none }
def ShiftedWrongFalsely : Prop := shiftedRow.holds Tryz.pinned (OpenSpec.ofChange shiftedWrong)

/-- 'styletkeep.Stacked': WHATEVER THE INPUT: true; the input reads as it did. -/
def stackedSpec : ChangeSpec := { name := "stacked", fn := fun _ => fun
  | [d1, d2, d3] => { results := [.lit (.bool true)], args := [d1, d2, d3] }
  | _ => none }
def stackedRow : OpenClaim := { program := "ytcgjliflnnklnaagreat", sum := "532aea48e796c9bf2c6658fd1772c73e1f45adb1e0466faf2c932426cdf9200a", func := "stylet/styletkeep.Stacked", spec := "stacked", unfollowed := true, recurses := true, apart := false }
def StackedSaid : Prop := stackedRow.holds Tryz.pinned (OpenSpec.ofChange stackedSpec)

/-- ITS FALSE NEIGHBOUR: 'it returns false'. Refute it at one input. -/
def stackedWrong : ChangeSpec := { name := "stacked", fn := fun _ => fun
  | [d1, d2, d3] => { results := [.lit (.bool false)], args := [d1, d2, d3] }
  | _ => none }
def StackedWrongFalsely : Prop := stackedRow.holds Tryz.pinned (OpenSpec.ofChange stackedWrong)

/-- 'styletkeep.Branched': WHATEVER THE INPUT: true; the input reads as it did. -/
def branchedSpec : ChangeSpec := { name := "branched", fn := fun _ => fun
  | [d1, d2, d3] => { results := [.lit (.bool true)], args := [d1, d2, d3] }
  | _ => none }
def branchedRow : OpenClaim := { program := "ytcgjliflnnklnaagreat", sum := "532aea48e796c9bf2c6658fd1772c73e1f45adb1e0466faf2c932426cdf9200a", func := "stylet/styletkeep.Branched", spec := "branched", unfollowed := true, recurses := true, apart := false }
def BranchedSaid : Prop := branchedRow.holds Tryz.pinned (OpenSpec.ofChange branchedSpec)

/-- ITS FALSE NEIGHBOUR: 'it returns false'. Refute it at one input. -/
def branchedWrong : ChangeSpec := { name := "branched", fn := fun _ => fun
  | [d1, d2, d3] => { results := [.lit (.bool false)], args := [d1, d2, d3] }
  | _ => none }
def BranchedWrongFalsely : Prop := branchedRow.holds Tryz.pinned (OpenSpec.ofChange branchedWrong)

/-- 'styletkeep.Traced': WHATEVER THE INPUT: true; the input reads as it did. -/
def tracedSpec : ChangeSpec := { name := "traced", fn := fun _ => fun
  | [d1, d2] => { results := [.lit (.bool true)], args := [d1, d2] }
  | _ => none }
def tracedRow : OpenClaim := { program := "ytcgjliflnnklnaagreat", sum := "532aea48e796c9bf2c6658fd1772c73e1f45adb1e0466faf2c932426cdf9200a", func := "stylet/styletkeep.Traced", spec := "traced", unfollowed := true, recurses := true, apart := false }
def TracedSaid : Prop := tracedRow.holds Tryz.pinned (OpenSpec.ofChange tracedSpec)

/-- ITS FALSE NEIGHBOUR: 'it returns false'. Refute it at one input. -/
def tracedWrong : ChangeSpec := { name := "traced", fn := fun _ => fun
  | [d1, d2] => { results := [.lit (.bool false)], args := [d1, d2] }
  | _ => none }
def TracedWrongFalsely : Prop := tracedRow.holds Tryz.pinned (OpenSpec.ofChange tracedWrong)

/-- 'styletkeep.Once': WHATEVER THE INPUT: true; the input reads as it did. -/
def onceSpec : ChangeSpec := { name := "once", fn := fun _ => fun
  | [d1, d2] => { results := [.lit (.bool true)], args := [d1, d2] }
  | _ => none }
def onceRow : OpenClaim := { program := "ytcgjliflnnklnaagreat", sum := "532aea48e796c9bf2c6658fd1772c73e1f45adb1e0466faf2c932426cdf9200a", func := "stylet/styletkeep.Once", spec := "once", unfollowed := true, recurses := true, apart := false }
def OnceSaid : Prop := onceRow.holds Tryz.pinned (OpenSpec.ofChange onceSpec)

/-- ITS FALSE NEIGHBOUR: 'it returns false'. Refute it at one input. -/
def onceWrong : ChangeSpec := { name := "once", fn := fun _ => fun
  | [d1, d2] => { results := [.lit (.bool false)], args := [d1, d2] }
  | _ => none }
def OnceWrongFalsely : Prop := onceRow.holds Tryz.pinned (OpenSpec.ofChange onceWrong)

/-- 'styletkeep.Pieces': WHATEVER THE INPUT: true; the input reads as it did. -/
def piecesSpec : ChangeSpec := { name := "pieces", fn := fun _ => fun
  | [d1, d2, d3] => { results := [.lit (.bool true)], args := [d1, d2, d3] }
  | _ => none }
def piecesRow : OpenClaim := { program := "ytcgjliflnnklnaagreat", sum := "532aea48e796c9bf2c6658fd1772c73e1f45adb1e0466faf2c932426cdf9200a", func := "stylet/styletkeep.Pieces", spec := "pieces", unfollowed := true, recurses := true, apart := false }
def PiecesSaid : Prop := piecesRow.holds Tryz.pinned (OpenSpec.ofChange piecesSpec)

/-- ITS FALSE NEIGHBOUR: 'it returns false'. Refute it at one input. -/
def piecesWrong : ChangeSpec := { name := "pieces", fn := fun _ => fun
  | [d1, d2, d3] => { results := [.lit (.bool false)], args := [d1, d2, d3] }
  | _ => none }
def PiecesWrongFalsely : Prop := piecesRow.holds Tryz.pinned (OpenSpec.ofChange piecesWrong)

/- THE SECOND FORM. 'bulk': how many values and letters a reading holds, each counted each time it is reached (what is shared counts as often as it is met; a slice's spare places count too). A statement '..UptoSaid' is the law's where the arguments, and the package variables that the reading takes, are together of bulk at most 1048576: NARROWER than '..Said'. Prove '..Said' where nothing that the law and all that it calls make is longer than what came in: it says more and counts as full. Else prove '..UptoSaid'. A law counts once. -/
mutual
def uptoBulk {H : Type} : DataW H → Nat
  | .lit (.string bytes) => bytes.length + 1
  | .lit _ => 1
  | .nil => 1
  | .ptr d => uptoBulk d + 1
  | .slice elems spare => uptoBulkAll elems + uptoBulkAll spare + 1
  | .agg parts => uptoBulkAll parts + 1
  | .iface _ d => uptoBulk d + 1
  | .map entries => uptoBulkEntries entries + 1
  | .held _ => 1
def uptoBulkAll {H : Type} : List (DataW H) → Nat
  | [] => 0
  | d :: r => uptoBulk d + uptoBulkAll r
def uptoBulkEntries {H : Type} : List (Lit × DataW H) → Nat
  | [] => 0
  | x :: r => uptoBulkEntry x + uptoBulkEntries r
def uptoBulkEntry {H : Type} : Lit × DataW H → Nat
  | (.string bytes, d) => bytes.length + uptoBulk d + 1
  | (_, d) => uptoBulk d + 1
 end
def uptoSmall : (H : Type) → List (DataW H) → Bool := fun _ ds => decide (uptoBulkAll ds ≤ 1048576)
def OpenSpec.upto (s : _root_.Go.ChangeSpec) : _root_.Go.OpenSpec := { _root_.Go.OpenSpec.ofChange s with cond := some uptoSmall }

/-- 'styletlaw.Cycles', WHERE WHAT IT READS IS OF BULK AT MOST 1048576: true; the input reads as it did. -/
def cyclesUptoRow : OpenClaim := { program := "ytcgjliflnnklnaagreat", sum := "532aea48e796c9bf2c6658fd1772c73e1f45adb1e0466faf2c932426cdf9200a", func := "stylet/styletlaw.Cycles", spec := "cycles", unfollowed := true, recurses := true, apart := false, narrowed := true }
def CyclesUptoSaid : Prop := cyclesUptoRow.holds Tryz.pinned (OpenSpec.upto cyclesSpec)

/-- 'styletlaw.Frames', WHERE WHAT IT READS IS OF BULK AT MOST 1048576: true; the input reads as it did. -/
def framesUptoRow : OpenClaim := { program := "ytcgjliflnnklnaagreat", sum := "532aea48e796c9bf2c6658fd1772c73e1f45adb1e0466faf2c932426cdf9200a", func := "stylet/styletlaw.Frames", spec := "frames", unfollowed := true, recurses := true, apart := false, narrowed := true }
def FramesUptoSaid : Prop := framesUptoRow.holds Tryz.pinned (OpenSpec.upto framesSpec)

/-- 'styletlaw.Stubs', WHERE WHAT IT READS IS OF BULK AT MOST 1048576: true; the input reads as it did. -/
def stubsUptoRow : OpenClaim := { program := "ytcgjliflnnklnaagreat", sum := "532aea48e796c9bf2c6658fd1772c73e1f45adb1e0466faf2c932426cdf9200a", func := "stylet/styletlaw.Stubs", spec := "stubs", unfollowed := true, recurses := true, apart := false, narrowed := true }
def StubsUptoSaid : Prop := stubsUptoRow.holds Tryz.pinned (OpenSpec.upto stubsSpec)

/-- 'styletlaw.All', WHERE WHAT IT READS IS OF BULK AT MOST 1048576: true; the input reads as it did. -/
def allUptoRow : OpenClaim := { program := "ytcgjliflnnklnaagreat", sum := "532aea48e796c9bf2c6658fd1772c73e1f45adb1e0466faf2c932426cdf9200a", func := "stylet/styletlaw.All", spec := "all", unfollowed := true, recurses := true, apart := false, narrowed := true }
def AllUptoSaid : Prop := allUptoRow.holds Tryz.pinned (OpenSpec.upto allSpec)

/-- 'styletkeep.Added', WHERE WHAT IT READS IS OF BULK AT MOST 1048576: true; the input reads as it did. -/
def addedUptoRow : OpenClaim := { program := "ytcgjliflnnklnaagreat", sum := "532aea48e796c9bf2c6658fd1772c73e1f45adb1e0466faf2c932426cdf9200a", func := "stylet/styletkeep.Added", spec := "added", unfollowed := true, recurses := true, apart := false, narrowed := true }
def AddedUptoSaid : Prop := addedUptoRow.holds Tryz.pinned (OpenSpec.upto addedSpec)

/-- 'styletkeep.Shifted', WHERE WHAT IT READS IS OF BULK AT MOST 1048576: true; the input reads as it did. -/
def shiftedUptoRow : OpenClaim := { program := "ytcgjliflnnklnaagreat", sum := "532aea48e796c9bf2c6658fd1772c73e1f45adb1e0466faf2c932426cdf9200a", func := "stylet/styletkeep.Shifted", spec := "shifted", unfollowed := true, recurses := true, apart := false, narrowed := true }
def ShiftedUptoSaid : Prop := shiftedUptoRow.holds Tryz.pinned (OpenSpec.upto shiftedSpec)

/-- 'styletkeep.Stacked', WHERE WHAT IT READS IS OF BULK AT MOST 1048576: true; the input reads as it did. -/
def stackedUptoRow : OpenClaim := { program := "ytcgjliflnnklnaagreat", sum := "532aea48e796c9bf2c6658fd1772c73e1f45adb1e0466faf2c932426cdf9200a", func := "stylet/styletkeep.Stacked", spec := "stacked", unfollowed := true, recurses := true, apart := false, narrowed := true }
def StackedUptoSaid : Prop := stackedUptoRow.holds Tryz.pinned (OpenSpec.upto stackedSpec)

/-- 'styletkeep.Branched', WHERE WHAT IT READS IS OF BULK AT MOST 1048576: true; the input reads as it did. -/
def branchedUptoRow : OpenClaim := { program := "ytcgjliflnnklnaagreat", sum := "532aea48e796c9bf2c6658fd1772c73e1f45adb1e0466faf2c932426cdf9200a", func := "stylet/styletkeep.Branched", spec := "branched", unfollowed := true, recurses := true, apart := false, narrowed := true }
def BranchedUptoSaid : Prop := branchedUptoRow.holds Tryz.pinned (OpenSpec.upto branchedSpec)

/-- 'styletkeep.Traced', WHERE WHAT IT READS IS OF BULK AT MOST 1048576: true; the input reads as it did. -/
def tracedUptoRow : OpenClaim := { program := "ytcgjliflnnklnaagreat", sum := "532aea48e796c9bf2c6658fd1772c73e1f45adb1e0466faf2c932426cdf9200a", func := "stylet/styletkeep.Traced", spec := "traced", unfollowed := true, recurses := true, apart := false, narrowed := true }
def TracedUptoSaid : Prop := tracedUptoRow.holds Tryz.pinned (OpenSpec.upto tracedSpec)

/-- 'styletkeep.Once', WHERE WHAT IT READS IS OF BULK AT MOST 1048576: true; the input reads as it did. -/
def onceUptoRow : OpenClaim := { program := "ytcgjliflnnklnaagreat", sum := "532aea48e796c9bf2c6658fd1772c73e1f45adb1e0466faf2c932426cdf9200a", func := "stylet/styletkeep.Once", spec := "once", unfollowed := true, recurses := true, apart := false, narrowed := true }
def OnceUptoSaid : Prop := onceUptoRow.holds Tryz.pinned (OpenSpec.upto onceSpec)

/-- 'styletkeep.Pieces', WHERE WHAT IT READS IS OF BULK AT MOST 1048576: true; the input reads as it did. -/
def piecesUptoRow : OpenClaim := { program := "ytcgjliflnnklnaagreat", sum := "532aea48e796c9bf2c6658fd1772c73e1f45adb1e0466faf2c932426cdf9200a", func := "stylet/styletkeep.Pieces", spec := "pieces", unfollowed := true, recurses := true, apart := false, narrowed := true }
def PiecesUptoSaid : Prop := piecesUptoRow.holds Tryz.pinned (OpenSpec.upto piecesSpec)

end Rows
end Go.Proofs.YtcgjliflnnklnaaGreat
