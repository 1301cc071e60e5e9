/-
  No cell of these rows narrows 'for every input' (looked for: loops, veiled, ifaces, maps, wideKeys, modest, calm, conditions, laid).
  DERIVED. THE GIVEN ROWS OF THIS SEAT. 6 by the template 'for every input the law returns true; each argument reads behind the call as it read before'; 0 by the template 'total and deterministic' (their statements: YtplidgjliecfeaaTotals.lean).
  GIVEN WITH THE SEED: the statements are not yours to turn. If you find one false, say at which input.
  Laid BY PROGRAM, IN A SANDBOX (cutbox-rows.mjs): the forced cells as the released guide's own fill.sh prints them over the translation b7256e8b9a98150e… (all of the seat's roots in one cut). By AI agents, Wed Nov 11 2026. No macro, syntax, notation, axiom, sorry.
-/
import Derived.Test.YtplidgjliecfeaaChecked
import GoSem.Claim
import GoSem.ClaimJoined
import GoSem.ClaimMapViews
import Derived.JoinedTies
import Derived.KernelRfl
namespace Go.Proofs.Ytplidgjliecfeaa
/- THE CELL 'sum', in the pinned program and in every row, IS THE sha256 OF THE DUMP (.gsa) THAT YtplidgjliecfeaaProg.lean LOADS. Nothing in Lean hashes anything: it is a label: what it is worth is what the hold of that sum in a sandbox is worth. -/
noncomputable def Try.pinned : Pinned := { name := "ytplidgjliecfeaa", sum := "b7256e8b9a98150e2b31a06c1d16563d143df47b4c764c8dd9e05952231a15b5", checked := Try.checked }
namespace Rows
def none {H : Type} : Left H := { results := [], args := [] }

/-- 'foghornlaw30.MeterBits': WHATEVER THE INPUT: true; the input reads as it did. -/
def meterBitsSpec : ChangeSpec := { name := "meterBits", fn := fun _ => fun
  | [d1, d2, d3] => { results := [.lit (.bool true)], args := [d1, d2, d3] }
  | _ => none }
def meterBitsRow : OpenClaim := { program := "ytplidgjliecfeaa", sum := "b7256e8b9a98150e2b31a06c1d16563d143df47b4c764c8dd9e05952231a15b5", func := "foghorn/foghornlaw30.MeterBits", spec := "meterBits", inPlace := ["math.Float64bits", "math.Float64frombits", "math.archTrunc"], unfollowed := true, recurses := true, apart := false }
def MeterBitsSaid : Prop := meterBitsRow.holds Try.pinned (OpenSpec.ofChange meterBitsSpec)

/-- ITS FALSE NEIGHBOUR: 'it returns false'. Refute it at one input. -/
def meterBitsWrong : ChangeSpec := { name := "meterBits", fn := fun _ => fun
  | [d1, d2, d3] => { results := [.lit (.bool false)], args := [d1, d2, d3] }
  | _ => none }
def MeterBitsWrongFalsely : Prop := meterBitsRow.holds Try.pinned (OpenSpec.ofChange meterBitsWrong)

/-- 'foghornlaw30.MeterRows': WHATEVER THE INPUT: true; the input reads as it did. -/
def meterRowsSpec : ChangeSpec := { name := "meterRows", fn := fun _ => fun
  | [d] => { results := [.lit (.bool true)], args := [d] }
  | _ => none }
def meterRowsRow : OpenClaim := { program := "ytplidgjliecfeaa", sum := "b7256e8b9a98150e2b31a06c1d16563d143df47b4c764c8dd9e05952231a15b5", func := "foghorn/foghornlaw30.MeterRows", spec := "meterRows", inPlace := ["math.Float64bits", "math.Float64frombits", "math.archTrunc", "math.archMin", "math.archMax"], unfollowed := true, recurses := true, apart := false }
def MeterRowsSaid : Prop := meterRowsRow.holds Try.pinned (OpenSpec.ofChange meterRowsSpec)

/-- ITS FALSE NEIGHBOUR: 'it returns false'. Refute it at one input. -/
def meterRowsWrong : ChangeSpec := { name := "meterRows", fn := fun _ => fun
  | [d] => { results := [.lit (.bool false)], args := [d] }
  | _ => none }
def MeterRowsWrongFalsely : Prop := meterRowsRow.holds Try.pinned (OpenSpec.ofChange meterRowsWrong)

/-- 'foghornlaw30.MeterCounts': WHATEVER THE INPUT: true; the input reads as it did. -/
def meterCountsSpec : ChangeSpec := { name := "meterCounts", fn := fun _ => fun
  | [d] => { results := [.lit (.bool true)], args := [d] }
  | _ => none }
def meterCountsRow : OpenClaim := { program := "ytplidgjliecfeaa", sum := "b7256e8b9a98150e2b31a06c1d16563d143df47b4c764c8dd9e05952231a15b5", func := "foghorn/foghornlaw30.MeterCounts", spec := "meterCounts", inPlace := ["math.Float64bits", "math.Float64frombits", "math.archTrunc"], unfollowed := true, recurses := true, apart := false }
def MeterCountsSaid : Prop := meterCountsRow.holds Try.pinned (OpenSpec.ofChange meterCountsSpec)

/-- ITS FALSE NEIGHBOUR: 'it returns false'. Refute it at one input. -/
def meterCountsWrong : ChangeSpec := { name := "meterCounts", fn := fun _ => fun
  | [d] => { results := [.lit (.bool false)], args := [d] }
  | _ => none }
def MeterCountsWrongFalsely : Prop := meterCountsRow.holds Try.pinned (OpenSpec.ofChange meterCountsWrong)

/-- 'foghornlaw30.MeterRuns': WHATEVER THE INPUT: true; the input reads as it did. -/
def meterRunsSpec : ChangeSpec := { name := "meterRuns", fn := fun _ => fun
  | [d1, d2, d3] => { results := [.lit (.bool true)], args := [d1, d2, d3] }
  | _ => none }
def meterRunsRow : OpenClaim := { program := "ytplidgjliecfeaa", sum := "b7256e8b9a98150e2b31a06c1d16563d143df47b4c764c8dd9e05952231a15b5", func := "foghorn/foghornlaw30.MeterRuns", spec := "meterRuns", inPlace := ["math.Float64bits", "math.Float64frombits", "math.archTrunc"], unfollowed := true, recurses := true, apart := false }
def MeterRunsSaid : Prop := meterRunsRow.holds Try.pinned (OpenSpec.ofChange meterRunsSpec)

/-- ITS FALSE NEIGHBOUR: 'it returns false'. Refute it at one input. -/
def meterRunsWrong : ChangeSpec := { name := "meterRuns", fn := fun _ => fun
  | [d1, d2, d3] => { results := [.lit (.bool false)], args := [d1, d2, d3] }
  | _ => none }
def MeterRunsWrongFalsely : Prop := meterRunsRow.holds Try.pinned (OpenSpec.ofChange meterRunsWrong)

/-- 'foghornlaw30.MeterMargins': WHATEVER THE INPUT: true; the input reads as it did. -/
def meterMarginsSpec : ChangeSpec := { name := "meterMargins", fn := fun _ => fun
  | [d] => { results := [.lit (.bool true)], args := [d] }
  | _ => none }
def meterMarginsRow : OpenClaim := { program := "ytplidgjliecfeaa", sum := "b7256e8b9a98150e2b31a06c1d16563d143df47b4c764c8dd9e05952231a15b5", func := "foghorn/foghornlaw30.MeterMargins", spec := "meterMargins", inPlace := ["math.Float64bits", "math.Float64frombits", "math.archTrunc"], unfollowed := true, recurses := true, apart := false }
def MeterMarginsSaid : Prop := meterMarginsRow.holds Try.pinned (OpenSpec.ofChange meterMarginsSpec)

/-- ITS FALSE NEIGHBOUR: 'it returns false'. Refute it at one input. -/
def meterMarginsWrong : ChangeSpec := { name := "meterMargins", fn := fun _ => fun
  | [d] => { results := [.lit (.bool false)], args := [d] }
  | _ => none }
def MeterMarginsWrongFalsely : Prop := meterMarginsRow.holds Try.pinned (OpenSpec.ofChange meterMarginsWrong)

/-- 'foghornlaw30.MeterNone': WHATEVER THE INPUT: true; the input reads as it did. -/
def meterNoneSpec : ChangeSpec := { name := "meterNone", fn := fun _ => fun
  | [] => { results := [.lit (.bool true)], args := [] }
  | _ => none }
def meterNoneRow : OpenClaim := { program := "ytplidgjliecfeaa", sum := "b7256e8b9a98150e2b31a06c1d16563d143df47b4c764c8dd9e05952231a15b5", func := "foghorn/foghornlaw30.MeterNone", spec := "meterNone", inPlace := ["math.Float64bits", "math.Float64frombits", "math.archTrunc"], unfollowed := true, recurses := true, apart := false }
def MeterNoneSaid : Prop := meterNoneRow.holds Try.pinned (OpenSpec.ofChange meterNoneSpec)

/-- ITS FALSE NEIGHBOUR: 'it returns false'. Refute it at one input. -/
def meterNoneWrong : ChangeSpec := { name := "meterNone", fn := fun _ => fun
  | [] => { results := [.lit (.bool false)], args := [] }
  | _ => none }
def MeterNoneWrongFalsely : Prop := meterNoneRow.holds Try.pinned (OpenSpec.ofChange meterNoneWrong)

/- THE SECOND FORM. 'bulk': how many values and letters a reading holds, each counted each time it is reached (what is shared counts as often as it is met; a slice's spare places count too). A statement '..UptoSaid' is the law's where the arguments, and the package variables that the reading takes, are together of bulk at most 1048576: NARROWER than '..Said'. Prove '..Said' where nothing that the law and all that it calls make is longer than what came in: it says more and counts as full. Else prove '..UptoSaid'. A law counts once. -/
mutual
def uptoBulk {H : Type} : DataW H → Nat
  | .lit (.string bytes) => bytes.length + 1
  | .lit _ => 1
  | .nil => 1
  | .ptr d => uptoBulk d + 1
  | .slice elems spare => uptoBulkAll elems + uptoBulkAll spare + 1
  | .agg parts => uptoBulkAll parts + 1
  | .iface _ d => uptoBulk d + 1
  | .map entries => uptoBulkEntries entries + 1
  | .held _ => 1
def uptoBulkAll {H : Type} : List (DataW H) → Nat
  | [] => 0
  | d :: r => uptoBulk d + uptoBulkAll r
def uptoBulkEntries {H : Type} : List (Lit × DataW H) → Nat
  | [] => 0
  | x :: r => uptoBulkEntry x + uptoBulkEntries r
def uptoBulkEntry {H : Type} : Lit × DataW H → Nat
  | (.string bytes, d) => bytes.length + uptoBulk d + 1
  | (_, d) => uptoBulk d + 1
 end
def uptoSmall : (H : Type) → List (DataW H) → Bool := fun _ ds => decide (uptoBulkAll ds ≤ 1048576)
def OpenSpec.upto (s : _root_.Go.ChangeSpec) : _root_.Go.OpenSpec := { _root_.Go.OpenSpec.ofChange s with cond := some uptoSmall }

/-- 'foghornlaw30.MeterBits', WHERE WHAT IT READS IS OF BULK AT MOST 1048576: true; the input reads as it did. -/
def meterBitsUptoRow : OpenClaim := { program := "ytplidgjliecfeaa", sum := "b7256e8b9a98150e2b31a06c1d16563d143df47b4c764c8dd9e05952231a15b5", func := "foghorn/foghornlaw30.MeterBits", spec := "meterBits", inPlace := ["math.Float64bits", "math.Float64frombits", "math.archTrunc"], unfollowed := true, recurses := true, apart := false, narrowed := true }
def MeterBitsUptoSaid : Prop := meterBitsUptoRow.holds Try.pinned (OpenSpec.upto meterBitsSpec)

/-- 'foghornlaw30.MeterRows', WHERE WHAT IT READS IS OF BULK AT MOST 1048576: true; the input reads as it did. -/
def meterRowsUptoRow : OpenClaim := { program := "ytplidgjliecfeaa", sum := "b7256e8b9a98150e2b31a06c1d16563d143df47b4c764c8dd9e05952231a15b5", func := "foghorn/foghornlaw30.MeterRows", spec := "meterRows", inPlace := ["math.Float64bits", "math.Float64frombits", "math.archTrunc", "math.archMin", "math.archMax"], unfollowed := true, recurses := true, apart := false, narrowed := true }
def MeterRowsUptoSaid : Prop := meterRowsUptoRow.holds Try.pinned (OpenSpec.upto meterRowsSpec)

/-- 'foghornlaw30.MeterCounts', WHERE WHAT IT READS IS OF BULK AT MOST 1048576: true; the input reads as it did. -/
def meterCountsUptoRow : OpenClaim := { program := "ytplidgjliecfeaa", sum := "b7256e8b9a98150e2b31a06c1d16563d143df47b4c764c8dd9e05952231a15b5", func := "foghorn/foghornlaw30.MeterCounts", spec := "meterCounts", inPlace := ["math.Float64bits", "math.Float64frombits", "math.archTrunc"], unfollowed := true, recurses := true, apart := false, narrowed := true }
def MeterCountsUptoSaid : Prop := meterCountsUptoRow.holds Try.pinned (OpenSpec.upto meterCountsSpec)

/-- 'foghornlaw30.MeterRuns', WHERE WHAT IT READS IS OF BULK AT MOST 1048576: true; the input reads as it did. -/
def meterRunsUptoRow : OpenClaim := { program := "ytplidgjliecfeaa", sum := "b7256e8b9a98150e2b31a06c1d16563d143df47b4c764c8dd9e05952231a15b5", func := "foghorn/foghornlaw30.MeterRuns", spec := "meterRuns", inPlace := ["math.Float64bits", "math.Float64frombits", "math.archTrunc"], unfollowed := true, recurses := true, apart := false, narrowed := true }
def MeterRunsUptoSaid : Prop := meterRunsUptoRow.holds Try.pinned (OpenSpec.upto meterRunsSpec)

/-- 'foghornlaw30.MeterMargins', WHERE WHAT IT READS IS OF BULK AT MOST 1048576: true; the input reads as it did. -/
def meterMarginsUptoRow : OpenClaim := { program := "ytplidgjliecfeaa", sum := "b7256e8b9a98150e2b31a06c1d16563d143df47b4c764c8dd9e05952231a15b5", func := "foghorn/foghornlaw30.MeterMargins", spec := "meterMargins", inPlace := ["math.Float64bits", "math.Float64frombits", "math.archTrunc"], unfollowed := true, recurses := true, apart := false, narrowed := true }
def MeterMarginsUptoSaid : Prop := meterMarginsUptoRow.holds Try.pinned (OpenSpec.upto meterMarginsSpec)

/-- 'foghornlaw30.MeterNone', WHERE WHAT IT READS IS OF BULK AT MOST 1048576: true; the input reads as it did. -/
def meterNoneUptoRow : OpenClaim := { program := "ytplidgjliecfeaa", sum := "b7256e8b9a98150e2b31a06c1d16563d143df47b4c764c8dd9e05952231a15b5", func := "foghorn/foghornlaw30.MeterNone", spec := "meterNone", inPlace := ["math.Float64bits", "math.Float64frombits", "math.archTrunc"], unfollowed := true, recurses := true, apart := false, narrowed := true }
def MeterNoneUptoSaid : Prop := meterNoneUptoRow.holds Try.pinned (OpenSpec.upto meterNoneSpec)

end Rows
end Go.Proofs.Ytplidgjliecfeaa
