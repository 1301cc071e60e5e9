/-
  No cell of these rows narrows 'for every input' (looked for: loops, veiled, ifaces, maps, wideKeys, modest, calm, conditions, laid).
  DERIVED. THE GIVEN ROWS OF THIS SEAT. 12 by the template 'for every input the law returns true; each argument reads behind the call as it read before'; 0 by the template 'total and deterministic' (their statements: YtdobofchjeolfaaTotals.lean).
  GIVEN WITH THE SEED: the statements are not yours to turn. If you find one false, say at which input.
  Laid BY PROGRAM, IN A SANDBOX (cutbox-rows.mjs): the forced cells as the released guide's own fill.sh prints them over the translation 6a2788d0f61db8e1… (all of the seat's roots in one cut). By AI agents, Wed Nov 11 2026. No macro, syntax, notation, axiom, sorry.
-/
import Derived.Test.YtdobofchjeolfaaChecked
import GoSem.Claim
import GoSem.ClaimJoined
import GoSem.ClaimMapViews
import Derived.JoinedTies
import Derived.KernelRfl
namespace Go.Proofs.Ytdobofchjeolfaa
/- THE CELL 'sum', in the pinned program and in every row, IS THE sha256 OF THE DUMP (.gsa) THAT YtdobofchjeolfaaProg.lean LOADS. Nothing in Lean hashes anything: it is a label: what it is worth is what the hold of that sum in a sandbox is worth. -/
noncomputable def Try.pinned : Pinned := { name := "ytdobofchjeolfaa", sum := "6a2788d0f61db8e183b74ace60343f9631680bdbefc0fdfe310889ec45a19795", checked := Try.checked }
namespace Rows
def none {H : Type} : Left H := { results := [], args := [] }

/-- 'foghornlaw03.PlaneNone': WHATEVER THE INPUT: true; the input reads as it did. -/
def planeNoneSpec : ChangeSpec := { name := "planeNone", fn := fun _ => fun
  | [] => { results := [.lit (.bool true)], args := [] }
  | _ => none }
def planeNoneRow : OpenClaim := { program := "ytdobofchjeolfaa", sum := "6a2788d0f61db8e183b74ace60343f9631680bdbefc0fdfe310889ec45a19795", func := "foghorn/foghornlaw03.PlaneNone", spec := "planeNone", inPlace := ["math.Float64bits", "math.Float64frombits", "math.archTrunc"], apart := false }
def PlaneNoneSaid : Prop := planeNoneRow.holds Try.pinned (OpenSpec.ofChange planeNoneSpec)

/-- ITS FALSE NEIGHBOUR: 'it returns false'. Refute it at one input. -/
def planeNoneWrong : ChangeSpec := { name := "planeNone", fn := fun _ => fun
  | [] => { results := [.lit (.bool false)], args := [] }
  | _ => none }
def PlaneNoneWrongFalsely : Prop := planeNoneRow.holds Try.pinned (OpenSpec.ofChange planeNoneWrong)

/-- 'foghornlaw04.PointsNames': WHATEVER THE INPUT: true; the input reads as it did. -/
def pointsNamesSpec : ChangeSpec := { name := "pointsNames", fn := fun _ => fun
  | [] => { results := [.lit (.bool true)], args := [] }
  | _ => none }
def pointsNamesRow : OpenClaim := { program := "ytdobofchjeolfaa", sum := "6a2788d0f61db8e183b74ace60343f9631680bdbefc0fdfe310889ec45a19795", func := "foghorn/foghornlaw04.PointsNames", spec := "pointsNames", inPlace := ["math.Float64bits", "math.Float64frombits", "math.archTrunc"], unfollowed := true, recurses := true, apart := false }
def PointsNamesSaid : Prop := pointsNamesRow.holds Try.pinned (OpenSpec.ofChange pointsNamesSpec)

/-- ITS FALSE NEIGHBOUR: 'it returns false'. Refute it at one input. -/
def pointsNamesWrong : ChangeSpec := { name := "pointsNames", fn := fun _ => fun
  | [] => { results := [.lit (.bool false)], args := [] }
  | _ => none }
def PointsNamesWrongFalsely : Prop := pointsNamesRow.holds Try.pinned (OpenSpec.ofChange pointsNamesWrong)

/-- 'foghornlaw04.PointsGray': WHATEVER THE INPUT: true; the input reads as it did. -/
def pointsGraySpec : ChangeSpec := { name := "pointsGray", fn := fun _ => fun
  | [] => { results := [.lit (.bool true)], args := [] }
  | _ => none }
def pointsGrayRow : OpenClaim := { program := "ytdobofchjeolfaa", sum := "6a2788d0f61db8e183b74ace60343f9631680bdbefc0fdfe310889ec45a19795", func := "foghorn/foghornlaw04.PointsGray", spec := "pointsGray", inPlace := ["math.Float64bits", "math.Float64frombits", "math.archTrunc"], unfollowed := true, recurses := true, apart := false }
def PointsGraySaid : Prop := pointsGrayRow.holds Try.pinned (OpenSpec.ofChange pointsGraySpec)

/-- ITS FALSE NEIGHBOUR: 'it returns false'. Refute it at one input. -/
def pointsGrayWrong : ChangeSpec := { name := "pointsGray", fn := fun _ => fun
  | [] => { results := [.lit (.bool false)], args := [] }
  | _ => none }
def PointsGrayWrongFalsely : Prop := pointsGrayRow.holds Try.pinned (OpenSpec.ofChange pointsGrayWrong)

/-- 'foghornlaw05.SliceNames': WHATEVER THE INPUT: true; the input reads as it did. -/
def sliceNamesSpec : ChangeSpec := { name := "sliceNames", fn := fun _ => fun
  | [] => { results := [.lit (.bool true)], args := [] }
  | _ => none }
def sliceNamesRow : OpenClaim := { program := "ytdobofchjeolfaa", sum := "6a2788d0f61db8e183b74ace60343f9631680bdbefc0fdfe310889ec45a19795", func := "foghorn/foghornlaw05.SliceNames", spec := "sliceNames", inPlace := ["math.archCeil", "math.archFloor", "math.Float64bits", "math.Float64frombits", "math.archTrunc"], unfollowed := true, recurses := true, apart := false }
def SliceNamesSaid : Prop := sliceNamesRow.holds Try.pinned (OpenSpec.ofChange sliceNamesSpec)

/-- ITS FALSE NEIGHBOUR: 'it returns false'. Refute it at one input. -/
def sliceNamesWrong : ChangeSpec := { name := "sliceNames", fn := fun _ => fun
  | [] => { results := [.lit (.bool false)], args := [] }
  | _ => none }
def SliceNamesWrongFalsely : Prop := sliceNamesRow.holds Try.pinned (OpenSpec.ofChange sliceNamesWrong)

/-- 'foghornlaw06.TurnsNone': WHATEVER THE INPUT: true; the input reads as it did. -/
def turnsNoneSpec : ChangeSpec := { name := "turnsNone", fn := fun _ => fun
  | [] => { results := [.lit (.bool true)], args := [] }
  | _ => none }
def turnsNoneRow : OpenClaim := { program := "ytdobofchjeolfaa", sum := "6a2788d0f61db8e183b74ace60343f9631680bdbefc0fdfe310889ec45a19795", func := "foghorn/foghornlaw06.TurnsNone", spec := "turnsNone", unfollowed := true, recurses := true, apart := false }
def TurnsNoneSaid : Prop := turnsNoneRow.holds Try.pinned (OpenSpec.ofChange turnsNoneSpec)

/-- ITS FALSE NEIGHBOUR: 'it returns false'. Refute it at one input. -/
def turnsNoneWrong : ChangeSpec := { name := "turnsNone", fn := fun _ => fun
  | [] => { results := [.lit (.bool false)], args := [] }
  | _ => none }
def TurnsNoneWrongFalsely : Prop := turnsNoneRow.holds Try.pinned (OpenSpec.ofChange turnsNoneWrong)

/-- 'foghornlaw11.FeedbackNames': WHATEVER THE INPUT: true; the input reads as it did. -/
def feedbackNamesSpec : ChangeSpec := { name := "feedbackNames", fn := fun _ => fun
  | [] => { results := [.lit (.bool true)], args := [] }
  | _ => none }
def feedbackNamesRow : OpenClaim := { program := "ytdobofchjeolfaa", sum := "6a2788d0f61db8e183b74ace60343f9631680bdbefc0fdfe310889ec45a19795", func := "foghorn/foghornlaw11.FeedbackNames", spec := "feedbackNames", inPlace := ["math.Float64bits", "math.Float64frombits", "math.archTrunc", "math.archCeil", "math.archFloor"], unfollowed := true, recurses := true, apart := false }
def FeedbackNamesSaid : Prop := feedbackNamesRow.holds Try.pinned (OpenSpec.ofChange feedbackNamesSpec)

/-- ITS FALSE NEIGHBOUR: 'it returns false'. Refute it at one input. -/
def feedbackNamesWrong : ChangeSpec := { name := "feedbackNames", fn := fun _ => fun
  | [] => { results := [.lit (.bool false)], args := [] }
  | _ => none }
def FeedbackNamesWrongFalsely : Prop := feedbackNamesRow.holds Try.pinned (OpenSpec.ofChange feedbackNamesWrong)

/-- 'foghornlaw12.TempoNone': WHATEVER THE INPUT: true; the input reads as it did. -/
def tempoNoneSpec : ChangeSpec := { name := "tempoNone", fn := fun _ => fun
  | [] => { results := [.lit (.bool true)], args := [] }
  | _ => none }
def tempoNoneRow : OpenClaim := { program := "ytdobofchjeolfaa", sum := "6a2788d0f61db8e183b74ace60343f9631680bdbefc0fdfe310889ec45a19795", func := "foghorn/foghornlaw12.TempoNone", spec := "tempoNone", unfollowed := true, recurses := true, apart := false }
def TempoNoneSaid : Prop := tempoNoneRow.holds Try.pinned (OpenSpec.ofChange tempoNoneSpec)

/-- ITS FALSE NEIGHBOUR: 'it returns false'. Refute it at one input. -/
def tempoNoneWrong : ChangeSpec := { name := "tempoNone", fn := fun _ => fun
  | [] => { results := [.lit (.bool false)], args := [] }
  | _ => none }
def TempoNoneWrongFalsely : Prop := tempoNoneRow.holds Try.pinned (OpenSpec.ofChange tempoNoneWrong)

/-- 'foghornlaw14.TrainPairsUp': WHATEVER THE INPUT: true; the input reads as it did. -/
def trainPairsUpSpec : ChangeSpec := { name := "trainPairsUp", fn := fun _ => fun
  | [] => { results := [.lit (.bool true)], args := [] }
  | _ => none }
def trainPairsUpRow : OpenClaim := { program := "ytdobofchjeolfaa", sum := "6a2788d0f61db8e183b74ace60343f9631680bdbefc0fdfe310889ec45a19795", func := "foghorn/foghornlaw14.TrainPairsUp", spec := "trainPairsUp", recurses := true, apart := false }
def TrainPairsUpSaid : Prop := trainPairsUpRow.holds Try.pinned (OpenSpec.ofChange trainPairsUpSpec)

/-- ITS FALSE NEIGHBOUR: 'it returns false'. Refute it at one input. -/
def trainPairsUpWrong : ChangeSpec := { name := "trainPairsUp", fn := fun _ => fun
  | [] => { results := [.lit (.bool false)], args := [] }
  | _ => none }
def TrainPairsUpWrongFalsely : Prop := trainPairsUpRow.holds Try.pinned (OpenSpec.ofChange trainPairsUpWrong)

/-- 'foghornlaw16.ScrambleNils': WHATEVER THE INPUT: true; the input reads as it did. -/
def scrambleNilsSpec : ChangeSpec := { name := "scrambleNils", fn := fun _ => fun
  | [] => { results := [.lit (.bool true)], args := [] }
  | _ => none }
def scrambleNilsRow : OpenClaim := { program := "ytdobofchjeolfaa", sum := "6a2788d0f61db8e183b74ace60343f9631680bdbefc0fdfe310889ec45a19795", func := "foghorn/foghornlaw16.ScrambleNils", spec := "scrambleNils", unfollowed := true, recurses := true, apart := false }
def ScrambleNilsSaid : Prop := scrambleNilsRow.holds Try.pinned (OpenSpec.ofChange scrambleNilsSpec)

/-- ITS FALSE NEIGHBOUR: 'it returns false'. Refute it at one input. -/
def scrambleNilsWrong : ChangeSpec := { name := "scrambleNils", fn := fun _ => fun
  | [] => { results := [.lit (.bool false)], args := [] }
  | _ => none }
def ScrambleNilsWrongFalsely : Prop := scrambleNilsRow.holds Try.pinned (OpenSpec.ofChange scrambleNilsWrong)

/-- 'foghornlaw16.ScrambleNames': WHATEVER THE INPUT: true; the input reads as it did. -/
def scrambleNamesSpec : ChangeSpec := { name := "scrambleNames", fn := fun _ => fun
  | [] => { results := [.lit (.bool true)], args := [] }
  | _ => none }
def scrambleNamesRow : OpenClaim := { program := "ytdobofchjeolfaa", sum := "6a2788d0f61db8e183b74ace60343f9631680bdbefc0fdfe310889ec45a19795", func := "foghorn/foghornlaw16.ScrambleNames", spec := "scrambleNames", unfollowed := true, recurses := true, apart := false }
def ScrambleNamesSaid : Prop := scrambleNamesRow.holds Try.pinned (OpenSpec.ofChange scrambleNamesSpec)

/-- ITS FALSE NEIGHBOUR: 'it returns false'. Refute it at one input. -/
def scrambleNamesWrong : ChangeSpec := { name := "scrambleNames", fn := fun _ => fun
  | [] => { results := [.lit (.bool false)], args := [] }
  | _ => none }
def ScrambleNamesWrongFalsely : Prop := scrambleNamesRow.holds Try.pinned (OpenSpec.ofChange scrambleNamesWrong)

/-- 'foghornlaw17.WeaveNames': WHATEVER THE INPUT: true; the input reads as it did. -/
def weaveNamesSpec : ChangeSpec := { name := "weaveNames", fn := fun _ => fun
  | [] => { results := [.lit (.bool true)], args := [] }
  | _ => none }
def weaveNamesRow : OpenClaim := { program := "ytdobofchjeolfaa", sum := "6a2788d0f61db8e183b74ace60343f9631680bdbefc0fdfe310889ec45a19795", func := "foghorn/foghornlaw17.WeaveNames", spec := "weaveNames", unfollowed := true, recurses := true, apart := false }
def WeaveNamesSaid : Prop := weaveNamesRow.holds Try.pinned (OpenSpec.ofChange weaveNamesSpec)

/-- ITS FALSE NEIGHBOUR: 'it returns false'. Refute it at one input. -/
def weaveNamesWrong : ChangeSpec := { name := "weaveNames", fn := fun _ => fun
  | [] => { results := [.lit (.bool false)], args := [] }
  | _ => none }
def WeaveNamesWrongFalsely : Prop := weaveNamesRow.holds Try.pinned (OpenSpec.ofChange weaveNamesWrong)

/-- 'foghornlaw18.FieldNone': WHATEVER THE INPUT: true; the input reads as it did. -/
def fieldNoneSpec : ChangeSpec := { name := "fieldNone", fn := fun _ => fun
  | [] => { results := [.lit (.bool true)], args := [] }
  | _ => none }
def fieldNoneRow : OpenClaim := { program := "ytdobofchjeolfaa", sum := "6a2788d0f61db8e183b74ace60343f9631680bdbefc0fdfe310889ec45a19795", func := "foghorn/foghornlaw18.FieldNone", spec := "fieldNone", unfollowed := true, recurses := true, apart := false }
def FieldNoneSaid : Prop := fieldNoneRow.holds Try.pinned (OpenSpec.ofChange fieldNoneSpec)

/-- ITS FALSE NEIGHBOUR: 'it returns false'. Refute it at one input. -/
def fieldNoneWrong : ChangeSpec := { name := "fieldNone", fn := fun _ => fun
  | [] => { results := [.lit (.bool false)], args := [] }
  | _ => none }
def FieldNoneWrongFalsely : Prop := fieldNoneRow.holds Try.pinned (OpenSpec.ofChange fieldNoneWrong)

/- THE SECOND FORM. 'bulk': how many values and letters a reading holds, each counted each time it is reached (what is shared counts as often as it is met; a slice's spare places count too). A statement '..UptoSaid' is the law's where the arguments, and the package variables that the reading takes, are together of bulk at most 1048576: NARROWER than '..Said'. Prove '..Said' where nothing that the law and all that it calls make is longer than what came in: it says more and counts as full. Else prove '..UptoSaid'. A law counts once. -/
mutual
def uptoBulk {H : Type} : DataW H → Nat
  | .lit (.string bytes) => bytes.length + 1
  | .lit _ => 1
  | .nil => 1
  | .ptr d => uptoBulk d + 1
  | .slice elems spare => uptoBulkAll elems + uptoBulkAll spare + 1
  | .agg parts => uptoBulkAll parts + 1
  | .iface _ d => uptoBulk d + 1
  | .map entries => uptoBulkEntries entries + 1
  | .held _ => 1
def uptoBulkAll {H : Type} : List (DataW H) → Nat
  | [] => 0
  | d :: r => uptoBulk d + uptoBulkAll r
def uptoBulkEntries {H : Type} : List (Lit × DataW H) → Nat
  | [] => 0
  | x :: r => uptoBulkEntry x + uptoBulkEntries r
def uptoBulkEntry {H : Type} : Lit × DataW H → Nat
  | (.string bytes, d) => bytes.length + uptoBulk d + 1
  | (_, d) => uptoBulk d + 1
 end
def uptoSmall : (H : Type) → List (DataW H) → Bool := fun _ ds => decide (uptoBulkAll ds ≤ 1048576)
def OpenSpec.upto (s : _root_.Go.ChangeSpec) : _root_.Go.OpenSpec := { _root_.Go.OpenSpec.ofChange s with cond := some uptoSmall }

/-- 'foghornlaw03.PlaneNone', WHERE WHAT IT READS IS OF BULK AT MOST 1048576: true; the input reads as it did. -/
def planeNoneUptoRow : OpenClaim := { program := "ytdobofchjeolfaa", sum := "6a2788d0f61db8e183b74ace60343f9631680bdbefc0fdfe310889ec45a19795", func := "foghorn/foghornlaw03.PlaneNone", spec := "planeNone", inPlace := ["math.Float64bits", "math.Float64frombits", "math.archTrunc"], apart := false, narrowed := true }
def PlaneNoneUptoSaid : Prop := planeNoneUptoRow.holds Try.pinned (OpenSpec.upto planeNoneSpec)

/-- 'foghornlaw04.PointsNames', WHERE WHAT IT READS IS OF BULK AT MOST 1048576: true; the input reads as it did. -/
def pointsNamesUptoRow : OpenClaim := { program := "ytdobofchjeolfaa", sum := "6a2788d0f61db8e183b74ace60343f9631680bdbefc0fdfe310889ec45a19795", func := "foghorn/foghornlaw04.PointsNames", spec := "pointsNames", inPlace := ["math.Float64bits", "math.Float64frombits", "math.archTrunc"], unfollowed := true, recurses := true, apart := false, narrowed := true }
def PointsNamesUptoSaid : Prop := pointsNamesUptoRow.holds Try.pinned (OpenSpec.upto pointsNamesSpec)

/-- 'foghornlaw04.PointsGray', WHERE WHAT IT READS IS OF BULK AT MOST 1048576: true; the input reads as it did. -/
def pointsGrayUptoRow : OpenClaim := { program := "ytdobofchjeolfaa", sum := "6a2788d0f61db8e183b74ace60343f9631680bdbefc0fdfe310889ec45a19795", func := "foghorn/foghornlaw04.PointsGray", spec := "pointsGray", inPlace := ["math.Float64bits", "math.Float64frombits", "math.archTrunc"], unfollowed := true, recurses := true, apart := false, narrowed := true }
def PointsGrayUptoSaid : Prop := pointsGrayUptoRow.holds Try.pinned (OpenSpec.upto pointsGraySpec)

/-- 'foghornlaw05.SliceNames', WHERE WHAT IT READS IS OF BULK AT MOST 1048576: true; the input reads as it did. -/
def sliceNamesUptoRow : OpenClaim := { program := "ytdobofchjeolfaa", sum := "6a2788d0f61db8e183b74ace60343f9631680bdbefc0fdfe310889ec45a19795", func := "foghorn/foghornlaw05.SliceNames", spec := "sliceNames", inPlace := ["math.archCeil", "math.archFloor", "math.Float64bits", "math.Float64frombits", "math.archTrunc"], unfollowed := true, recurses := true, apart := false, narrowed := true }
def SliceNamesUptoSaid : Prop := sliceNamesUptoRow.holds Try.pinned (OpenSpec.upto sliceNamesSpec)

/-- 'foghornlaw06.TurnsNone', WHERE WHAT IT READS IS OF BULK AT MOST 1048576: true; the input reads as it did. -/
def turnsNoneUptoRow : OpenClaim := { program := "ytdobofchjeolfaa", sum := "6a2788d0f61db8e183b74ace60343f9631680bdbefc0fdfe310889ec45a19795", func := "foghorn/foghornlaw06.TurnsNone", spec := "turnsNone", unfollowed := true, recurses := true, apart := false, narrowed := true }
def TurnsNoneUptoSaid : Prop := turnsNoneUptoRow.holds Try.pinned (OpenSpec.upto turnsNoneSpec)

/-- 'foghornlaw11.FeedbackNames', WHERE WHAT IT READS IS OF BULK AT MOST 1048576: true; the input reads as it did. -/
def feedbackNamesUptoRow : OpenClaim := { program := "ytdobofchjeolfaa", sum := "6a2788d0f61db8e183b74ace60343f9631680bdbefc0fdfe310889ec45a19795", func := "foghorn/foghornlaw11.FeedbackNames", spec := "feedbackNames", inPlace := ["math.Float64bits", "math.Float64frombits", "math.archTrunc", "math.archCeil", "math.archFloor"], unfollowed := true, recurses := true, apart := false, narrowed := true }
def FeedbackNamesUptoSaid : Prop := feedbackNamesUptoRow.holds Try.pinned (OpenSpec.upto feedbackNamesSpec)

/-- 'foghornlaw12.TempoNone', WHERE WHAT IT READS IS OF BULK AT MOST 1048576: true; the input reads as it did. -/
def tempoNoneUptoRow : OpenClaim := { program := "ytdobofchjeolfaa", sum := "6a2788d0f61db8e183b74ace60343f9631680bdbefc0fdfe310889ec45a19795", func := "foghorn/foghornlaw12.TempoNone", spec := "tempoNone", unfollowed := true, recurses := true, apart := false, narrowed := true }
def TempoNoneUptoSaid : Prop := tempoNoneUptoRow.holds Try.pinned (OpenSpec.upto tempoNoneSpec)

/-- 'foghornlaw14.TrainPairsUp', WHERE WHAT IT READS IS OF BULK AT MOST 1048576: true; the input reads as it did. -/
def trainPairsUpUptoRow : OpenClaim := { program := "ytdobofchjeolfaa", sum := "6a2788d0f61db8e183b74ace60343f9631680bdbefc0fdfe310889ec45a19795", func := "foghorn/foghornlaw14.TrainPairsUp", spec := "trainPairsUp", recurses := true, apart := false, narrowed := true }
def TrainPairsUpUptoSaid : Prop := trainPairsUpUptoRow.holds Try.pinned (OpenSpec.upto trainPairsUpSpec)

/-- 'foghornlaw16.ScrambleNils', WHERE WHAT IT READS IS OF BULK AT MOST 1048576: true; the input reads as it did. -/
def scrambleNilsUptoRow : OpenClaim := { program := "ytdobofchjeolfaa", sum := "6a2788d0f61db8e183b74ace60343f9631680bdbefc0fdfe310889ec45a19795", func := "foghorn/foghornlaw16.ScrambleNils", spec := "scrambleNils", unfollowed := true, recurses := true, apart := false, narrowed := true }
def ScrambleNilsUptoSaid : Prop := scrambleNilsUptoRow.holds Try.pinned (OpenSpec.upto scrambleNilsSpec)

/-- 'foghornlaw16.ScrambleNames', WHERE WHAT IT READS IS OF BULK AT MOST 1048576: true; the input reads as it did. -/
def scrambleNamesUptoRow : OpenClaim := { program := "ytdobofchjeolfaa", sum := "6a2788d0f61db8e183b74ace60343f9631680bdbefc0fdfe310889ec45a19795", func := "foghorn/foghornlaw16.ScrambleNames", spec := "scrambleNames", unfollowed := true, recurses := true, apart := false, narrowed := true }
def ScrambleNamesUptoSaid : Prop := scrambleNamesUptoRow.holds Try.pinned (OpenSpec.upto scrambleNamesSpec)

/-- 'foghornlaw17.WeaveNames', WHERE WHAT IT READS IS OF BULK AT MOST 1048576: true; the input reads as it did. -/
def weaveNamesUptoRow : OpenClaim := { program := "ytdobofchjeolfaa", sum := "6a2788d0f61db8e183b74ace60343f9631680bdbefc0fdfe310889ec45a19795", func := "foghorn/foghornlaw17.WeaveNames", spec := "weaveNames", unfollowed := true, recurses := true, apart := false, narrowed := true }
def WeaveNamesUptoSaid : Prop := weaveNamesUptoRow.holds Try.pinned (OpenSpec.upto weaveNamesSpec)

/-- 'foghornlaw18.FieldNone', WHERE WHAT IT READS IS OF BULK AT MOST 1048576: true; the input reads as it did. -/
def fieldNoneUptoRow : OpenClaim := { program := "ytdobofchjeolfaa", sum := "6a2788d0f61db8e183b74ace60343f9631680bdbefc0fdfe310889ec45a19795", func := "foghorn/foghornlaw18.FieldNone", spec := "fieldNone", unfollowed := true, recurses := true, apart := false, narrowed := true }
def FieldNoneUptoSaid : Prop := fieldNoneUptoRow.holds Try.pinned (OpenSpec.upto fieldNoneSpec)

end Rows
end Go.Proofs.Ytdobofchjeolfaa
