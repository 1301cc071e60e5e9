/-
  No cell of these rows narrows 'for every input' (looked for: loops, veiled, ifaces, maps, wideKeys, modest, calm, conditions, laid).
  DERIVED. THE GIVEN ROWS OF THIS SEAT. 6 by the template 'for every input the law returns true; each argument reads behind the call as it read before'; 0 by the template 'total and deterministic' (their statements: YtljiihjcnacbnaaTotals.lean).
  GIVEN WITH THE SEED: the statements are not yours to turn. If you find one false, say at which input.
  Laid BY PROGRAM, IN A SANDBOX (cutbox-rows.mjs): the forced cells as the released guide's own fill.sh prints them over the translation fe49dc9a32e4f6dc… (all of the seat's roots in one cut). By AI agents, Wed Nov 11 2026. No macro, syntax, notation, axiom, sorry.
-/
import Derived.Test.YtljiihjcnacbnaaChecked
import GoSem.Claim
import GoSem.ClaimJoined
import GoSem.ClaimMapViews
import Derived.JoinedTies
import Derived.KernelRfl
namespace Go.Proofs.Ytljiihjcnacbnaa
/- THE CELL 'sum', in the pinned program and in every row, IS THE sha256 OF THE DUMP (.gsa) THAT YtljiihjcnacbnaaProg.lean LOADS. Nothing in Lean hashes anything: it is a label: what it is worth is what the hold of that sum in a sandbox is worth. -/
noncomputable def Try.pinned : Pinned := { name := "ytljiihjcnacbnaa", sum := "fe49dc9a32e4f6dc27f0fb9a7160d8523dc12a654a45e94cd04aba636f45e102", checked := Try.checked }
namespace Rows
def none {H : Type} : Left H := { results := [], args := [] }

/-- 'foghornlaw15.NearRows': WHATEVER THE INPUT: true; the input reads as it did. -/
def nearRowsSpec : ChangeSpec := { name := "nearRows", fn := fun _ => fun
  | [d] => { results := [.lit (.bool true)], args := [d] }
  | _ => none }
def nearRowsRow : OpenClaim := { program := "ytljiihjcnacbnaa", sum := "fe49dc9a32e4f6dc27f0fb9a7160d8523dc12a654a45e94cd04aba636f45e102", func := "foghorn/foghornlaw15.NearRows", spec := "nearRows", inPlace := ["math.Float64bits", "math.Float64frombits", "math.archTrunc", "math.archFloor", "math.archMax"], unfollowed := true, recurses := true, apart := false }
def NearRowsSaid : Prop := nearRowsRow.holds Try.pinned (OpenSpec.ofChange nearRowsSpec)

/-- ITS FALSE NEIGHBOUR: 'it returns false'. Refute it at one input. -/
def nearRowsWrong : ChangeSpec := { name := "nearRows", fn := fun _ => fun
  | [d] => { results := [.lit (.bool false)], args := [d] }
  | _ => none }
def NearRowsWrongFalsely : Prop := nearRowsRow.holds Try.pinned (OpenSpec.ofChange nearRowsWrong)

/-- 'foghornlaw15.NearLearns': WHATEVER THE INPUT: true; the input reads as it did. -/
def nearLearnsSpec : ChangeSpec := { name := "nearLearns", fn := fun _ => fun
  | [d1, d2] => { results := [.lit (.bool true)], args := [d1, d2] }
  | _ => none }
def nearLearnsRow : OpenClaim := { program := "ytljiihjcnacbnaa", sum := "fe49dc9a32e4f6dc27f0fb9a7160d8523dc12a654a45e94cd04aba636f45e102", func := "foghorn/foghornlaw15.NearLearns", spec := "nearLearns", inPlace := ["math.Float64bits", "math.Float64frombits", "math.archTrunc", "math.RoundToEven"], unfollowed := true, recurses := true, apart := false }
def NearLearnsSaid : Prop := nearLearnsRow.holds Try.pinned (OpenSpec.ofChange nearLearnsSpec)

/-- ITS FALSE NEIGHBOUR: 'it returns false'. Refute it at one input. -/
def nearLearnsWrong : ChangeSpec := { name := "nearLearns", fn := fun _ => fun
  | [d1, d2] => { results := [.lit (.bool false)], args := [d1, d2] }
  | _ => none }
def NearLearnsWrongFalsely : Prop := nearLearnsRow.holds Try.pinned (OpenSpec.ofChange nearLearnsWrong)

/-- 'foghornlaw15.NearLines': WHATEVER THE INPUT: true; the input reads as it did. -/
def nearLinesSpec : ChangeSpec := { name := "nearLines", fn := fun _ => fun
  | [d1, d2] => { results := [.lit (.bool true)], args := [d1, d2] }
  | _ => none }
def nearLinesRow : OpenClaim := { program := "ytljiihjcnacbnaa", sum := "fe49dc9a32e4f6dc27f0fb9a7160d8523dc12a654a45e94cd04aba636f45e102", func := "foghorn/foghornlaw15.NearLines", spec := "nearLines", inPlace := ["math.Float64bits", "math.Float64frombits", "math.archTrunc", "math.archFloor"], unfollowed := true, recurses := true, apart := false }
def NearLinesSaid : Prop := nearLinesRow.holds Try.pinned (OpenSpec.ofChange nearLinesSpec)

/-- ITS FALSE NEIGHBOUR: 'it returns false'. Refute it at one input. -/
def nearLinesWrong : ChangeSpec := { name := "nearLines", fn := fun _ => fun
  | [d1, d2] => { results := [.lit (.bool false)], args := [d1, d2] }
  | _ => none }
def NearLinesWrongFalsely : Prop := nearLinesRow.holds Try.pinned (OpenSpec.ofChange nearLinesWrong)

/-- 'foghornlaw15.NearBoth': WHATEVER THE INPUT: true; the input reads as it did. -/
def nearBothSpec : ChangeSpec := { name := "nearBoth", fn := fun _ => fun
  | [d] => { results := [.lit (.bool true)], args := [d] }
  | _ => none }
def nearBothRow : OpenClaim := { program := "ytljiihjcnacbnaa", sum := "fe49dc9a32e4f6dc27f0fb9a7160d8523dc12a654a45e94cd04aba636f45e102", func := "foghorn/foghornlaw15.NearBoth", spec := "nearBoth", inPlace := ["math.Float64bits", "math.Float64frombits", "math.archTrunc"], unfollowed := true, recurses := true, apart := false }
def NearBothSaid : Prop := nearBothRow.holds Try.pinned (OpenSpec.ofChange nearBothSpec)

/-- ITS FALSE NEIGHBOUR: 'it returns false'. Refute it at one input. -/
def nearBothWrong : ChangeSpec := { name := "nearBoth", fn := fun _ => fun
  | [d] => { results := [.lit (.bool false)], args := [d] }
  | _ => none }
def NearBothWrongFalsely : Prop := nearBothRow.holds Try.pinned (OpenSpec.ofChange nearBothWrong)

/-- 'foghornlaw15.NearTaught': WHATEVER THE INPUT: true; the input reads as it did. -/
def nearTaughtSpec : ChangeSpec := { name := "nearTaught", fn := fun _ => fun
  | [d] => { results := [.lit (.bool true)], args := [d] }
  | _ => none }
def nearTaughtRow : OpenClaim := { program := "ytljiihjcnacbnaa", sum := "fe49dc9a32e4f6dc27f0fb9a7160d8523dc12a654a45e94cd04aba636f45e102", func := "foghorn/foghornlaw15.NearTaught", spec := "nearTaught", inPlace := ["math.Float64bits", "math.Float64frombits", "math.archTrunc", "math.RoundToEven"], unfollowed := true, recurses := true, apart := false }
def NearTaughtSaid : Prop := nearTaughtRow.holds Try.pinned (OpenSpec.ofChange nearTaughtSpec)

/-- ITS FALSE NEIGHBOUR: 'it returns false'. Refute it at one input. -/
def nearTaughtWrong : ChangeSpec := { name := "nearTaught", fn := fun _ => fun
  | [d] => { results := [.lit (.bool false)], args := [d] }
  | _ => none }
def NearTaughtWrongFalsely : Prop := nearTaughtRow.holds Try.pinned (OpenSpec.ofChange nearTaughtWrong)

/-- 'foghornlaw15.NearNone': WHATEVER THE INPUT: true; the input reads as it did. -/
def nearNoneSpec : ChangeSpec := { name := "nearNone", fn := fun _ => fun
  | [] => { results := [.lit (.bool true)], args := [] }
  | _ => none }
def nearNoneRow : OpenClaim := { program := "ytljiihjcnacbnaa", sum := "fe49dc9a32e4f6dc27f0fb9a7160d8523dc12a654a45e94cd04aba636f45e102", func := "foghorn/foghornlaw15.NearNone", spec := "nearNone", inPlace := ["math.Float64bits", "math.Float64frombits", "math.archTrunc", "math.RoundToEven"], unfollowed := true, recurses := true, apart := false }
def NearNoneSaid : Prop := nearNoneRow.holds Try.pinned (OpenSpec.ofChange nearNoneSpec)

/-- ITS FALSE NEIGHBOUR: 'it returns false'. Refute it at one input. -/
def nearNoneWrong : ChangeSpec := { name := "nearNone", fn := fun _ => fun
  | [] => { results := [.lit (.bool false)], args := [] }
  | _ => none }
def NearNoneWrongFalsely : Prop := nearNoneRow.holds Try.pinned (OpenSpec.ofChange nearNoneWrong)

/- THE SECOND FORM. 'bulk': how many values and letters a reading holds, each counted each time it is reached (what is shared counts as often as it is met; a slice's spare places count too). A statement '..UptoSaid' is the law's where the arguments, and the package variables that the reading takes, are together of bulk at most 1048576: NARROWER than '..Said'. Prove '..Said' where nothing that the law and all that it calls make is longer than what came in: it says more and counts as full. Else prove '..UptoSaid'. A law counts once. -/
mutual
def uptoBulk {H : Type} : DataW H → Nat
  | .lit (.string bytes) => bytes.length + 1
  | .lit _ => 1
  | .nil => 1
  | .ptr d => uptoBulk d + 1
  | .slice elems spare => uptoBulkAll elems + uptoBulkAll spare + 1
  | .agg parts => uptoBulkAll parts + 1
  | .iface _ d => uptoBulk d + 1
  | .map entries => uptoBulkEntries entries + 1
  | .held _ => 1
def uptoBulkAll {H : Type} : List (DataW H) → Nat
  | [] => 0
  | d :: r => uptoBulk d + uptoBulkAll r
def uptoBulkEntries {H : Type} : List (Lit × DataW H) → Nat
  | [] => 0
  | x :: r => uptoBulkEntry x + uptoBulkEntries r
def uptoBulkEntry {H : Type} : Lit × DataW H → Nat
  | (.string bytes, d) => bytes.length + uptoBulk d + 1
  | (_, d) => uptoBulk d + 1
 end
def uptoSmall : (H : Type) → List (DataW H) → Bool := fun _ ds => decide (uptoBulkAll ds ≤ 1048576)
def OpenSpec.upto (s : _root_.Go.ChangeSpec) : _root_.Go.OpenSpec := { _root_.Go.OpenSpec.ofChange s with cond := some uptoSmall }

/-- 'foghornlaw15.NearRows', WHERE WHAT IT READS IS OF BULK AT MOST 1048576: true; the input reads as it did. -/
def nearRowsUptoRow : OpenClaim := { program := "ytljiihjcnacbnaa", sum := "fe49dc9a32e4f6dc27f0fb9a7160d8523dc12a654a45e94cd04aba636f45e102", func := "foghorn/foghornlaw15.NearRows", spec := "nearRows", inPlace := ["math.Float64bits", "math.Float64frombits", "math.archTrunc", "math.archFloor", "math.archMax"], unfollowed := true, recurses := true, apart := false, narrowed := true }
def NearRowsUptoSaid : Prop := nearRowsUptoRow.holds Try.pinned (OpenSpec.upto nearRowsSpec)

/-- 'foghornlaw15.NearLearns', WHERE WHAT IT READS IS OF BULK AT MOST 1048576: true; the input reads as it did. -/
def nearLearnsUptoRow : OpenClaim := { program := "ytljiihjcnacbnaa", sum := "fe49dc9a32e4f6dc27f0fb9a7160d8523dc12a654a45e94cd04aba636f45e102", func := "foghorn/foghornlaw15.NearLearns", spec := "nearLearns", inPlace := ["math.Float64bits", "math.Float64frombits", "math.archTrunc", "math.RoundToEven"], unfollowed := true, recurses := true, apart := false, narrowed := true }
def NearLearnsUptoSaid : Prop := nearLearnsUptoRow.holds Try.pinned (OpenSpec.upto nearLearnsSpec)

/-- 'foghornlaw15.NearLines', WHERE WHAT IT READS IS OF BULK AT MOST 1048576: true; the input reads as it did. -/
def nearLinesUptoRow : OpenClaim := { program := "ytljiihjcnacbnaa", sum := "fe49dc9a32e4f6dc27f0fb9a7160d8523dc12a654a45e94cd04aba636f45e102", func := "foghorn/foghornlaw15.NearLines", spec := "nearLines", inPlace := ["math.Float64bits", "math.Float64frombits", "math.archTrunc", "math.archFloor"], unfollowed := true, recurses := true, apart := false, narrowed := true }
def NearLinesUptoSaid : Prop := nearLinesUptoRow.holds Try.pinned (OpenSpec.upto nearLinesSpec)

/-- 'foghornlaw15.NearBoth', WHERE WHAT IT READS IS OF BULK AT MOST 1048576: true; the input reads as it did. -/
def nearBothUptoRow : OpenClaim := { program := "ytljiihjcnacbnaa", sum := "fe49dc9a32e4f6dc27f0fb9a7160d8523dc12a654a45e94cd04aba636f45e102", func := "foghorn/foghornlaw15.NearBoth", spec := "nearBoth", inPlace := ["math.Float64bits", "math.Float64frombits", "math.archTrunc"], unfollowed := true, recurses := true, apart := false, narrowed := true }
def NearBothUptoSaid : Prop := nearBothUptoRow.holds Try.pinned (OpenSpec.upto nearBothSpec)

/-- 'foghornlaw15.NearTaught', WHERE WHAT IT READS IS OF BULK AT MOST 1048576: true; the input reads as it did. -/
def nearTaughtUptoRow : OpenClaim := { program := "ytljiihjcnacbnaa", sum := "fe49dc9a32e4f6dc27f0fb9a7160d8523dc12a654a45e94cd04aba636f45e102", func := "foghorn/foghornlaw15.NearTaught", spec := "nearTaught", inPlace := ["math.Float64bits", "math.Float64frombits", "math.archTrunc", "math.RoundToEven"], unfollowed := true, recurses := true, apart := false, narrowed := true }
def NearTaughtUptoSaid : Prop := nearTaughtUptoRow.holds Try.pinned (OpenSpec.upto nearTaughtSpec)

/-- 'foghornlaw15.NearNone', WHERE WHAT IT READS IS OF BULK AT MOST 1048576: true; the input reads as it did. -/
def nearNoneUptoRow : OpenClaim := { program := "ytljiihjcnacbnaa", sum := "fe49dc9a32e4f6dc27f0fb9a7160d8523dc12a654a45e94cd04aba636f45e102", func := "foghorn/foghornlaw15.NearNone", spec := "nearNone", inPlace := ["math.Float64bits", "math.Float64frombits", "math.archTrunc", "math.RoundToEven"], unfollowed := true, recurses := true, apart := false, narrowed := true }
def NearNoneUptoSaid : Prop := nearNoneUptoRow.holds Try.pinned (OpenSpec.upto nearNoneSpec)

end Rows
end Go.Proofs.Ytljiihjcnacbnaa
