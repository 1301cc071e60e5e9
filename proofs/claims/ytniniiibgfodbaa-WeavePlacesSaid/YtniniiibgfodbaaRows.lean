/-
  No cell of these rows narrows 'for every input' (looked for: loops, veiled, ifaces, maps, wideKeys, modest, calm, conditions, laid).
  DERIVED. THE GIVEN ROWS OF THIS SEAT. 3 by the template 'for every input the law returns true; each argument reads behind the call as it read before'; 0 by the template 'total and deterministic' (their statements: YtniniiibgfodbaaTotals.lean).
  GIVEN WITH THE SEED: the statements are not yours to turn. If you find one false, say at which input.
  Laid BY PROGRAM, IN A SANDBOX (cutbox-rows.mjs): the forced cells as the released guide's own fill.sh prints them over the translation 1e1a9530eeccd0db… (all of the seat's roots in one cut). By AI agents, Wed Nov 11 2026. No macro, syntax, notation, axiom, sorry.
-/
import Derived.Test.YtniniiibgfodbaaChecked
import GoSem.Claim
import GoSem.ClaimJoined
import GoSem.ClaimMapViews
import Derived.JoinedTies
import Derived.KernelRfl
namespace Go.Proofs.Ytniniiibgfodbaa
/- THE CELL 'sum', in the pinned program and in every row, IS THE sha256 OF THE DUMP (.gsa) THAT YtniniiibgfodbaaProg.lean LOADS. Nothing in Lean hashes anything: it is a label: what it is worth is what the hold of that sum in a sandbox is worth. -/
noncomputable def Try.pinned : Pinned := { name := "ytniniiibgfodbaa", sum := "1e1a9530eeccd0dbeff8a08b069078a1719605f2a00a0924cf1f2e9b6ee6d4cf", checked := Try.checked }
namespace Rows
def none {H : Type} : Left H := { results := [], args := [] }

/-- 'foghornlaw17.WeavePlaces': WHATEVER THE INPUT: true; the input reads as it did. -/
def weavePlacesSpec : ChangeSpec := { name := "weavePlaces", fn := fun _ => fun
  | [d1, d2, d3, d4, d5, d6, d7] => { results := [.lit (.bool true)], args := [d1, d2, d3, d4, d5, d6, d7] }
  | _ => none }
def weavePlacesRow : OpenClaim := { program := "ytniniiibgfodbaa", sum := "1e1a9530eeccd0dbeff8a08b069078a1719605f2a00a0924cf1f2e9b6ee6d4cf", func := "foghorn/foghornlaw17.WeavePlaces", spec := "weavePlaces", apart := false }
def WeavePlacesSaid : Prop := weavePlacesRow.holds Try.pinned (OpenSpec.ofChange weavePlacesSpec)

/-- ITS FALSE NEIGHBOUR: 'it returns false'. Refute it at one input. -/
def weavePlacesWrong : ChangeSpec := { name := "weavePlaces", fn := fun _ => fun
  | [d1, d2, d3, d4, d5, d6, d7] => { results := [.lit (.bool false)], args := [d1, d2, d3, d4, d5, d6, d7] }
  | _ => none }
def WeavePlacesWrongFalsely : Prop := weavePlacesRow.holds Try.pinned (OpenSpec.ofChange weavePlacesWrong)

/-- 'foghornlaw17.WeaveMarks': WHATEVER THE INPUT: true; the input reads as it did. -/
def weaveMarksSpec : ChangeSpec := { name := "weaveMarks", fn := fun _ => fun
  | [d1, d2, d3] => { results := [.lit (.bool true)], args := [d1, d2, d3] }
  | _ => none }
def weaveMarksRow : OpenClaim := { program := "ytniniiibgfodbaa", sum := "1e1a9530eeccd0dbeff8a08b069078a1719605f2a00a0924cf1f2e9b6ee6d4cf", func := "foghorn/foghornlaw17.WeaveMarks", spec := "weaveMarks", unfollowed := true, recurses := true, apart := false }
def WeaveMarksSaid : Prop := weaveMarksRow.holds Try.pinned (OpenSpec.ofChange weaveMarksSpec)

/-- ITS FALSE NEIGHBOUR: 'it returns false'. Refute it at one input. -/
def weaveMarksWrong : ChangeSpec := { name := "weaveMarks", fn := fun _ => fun
  | [d1, d2, d3] => { results := [.lit (.bool false)], args := [d1, d2, d3] }
  | _ => none }
def WeaveMarksWrongFalsely : Prop := weaveMarksRow.holds Try.pinned (OpenSpec.ofChange weaveMarksWrong)

/-- 'foghornlaw17.WeaveSpread': WHATEVER THE INPUT: true; the input reads as it did. -/
def weaveSpreadSpec : ChangeSpec := { name := "weaveSpread", fn := fun _ => fun
  | [d1, d2, d3, d4] => { results := [.lit (.bool true)], args := [d1, d2, d3, d4] }
  | _ => none }
def weaveSpreadRow : OpenClaim := { program := "ytniniiibgfodbaa", sum := "1e1a9530eeccd0dbeff8a08b069078a1719605f2a00a0924cf1f2e9b6ee6d4cf", func := "foghorn/foghornlaw17.WeaveSpread", spec := "weaveSpread", unfollowed := true, recurses := true, apart := false }
def WeaveSpreadSaid : Prop := weaveSpreadRow.holds Try.pinned (OpenSpec.ofChange weaveSpreadSpec)

/-- ITS FALSE NEIGHBOUR: 'it returns false'. Refute it at one input. -/
def weaveSpreadWrong : ChangeSpec := { name := "weaveSpread", fn := fun _ => fun
  | [d1, d2, d3, d4] => { results := [.lit (.bool false)], args := [d1, d2, d3, d4] }
  | _ => none }
def WeaveSpreadWrongFalsely : Prop := weaveSpreadRow.holds Try.pinned (OpenSpec.ofChange weaveSpreadWrong)

/- THE SECOND FORM. 'bulk': how many values and letters a reading holds, each counted each time it is reached (what is shared counts as often as it is met; a slice's spare places count too). A statement '..UptoSaid' is the law's where the arguments, and the package variables that the reading takes, are together of bulk at most 1048576: NARROWER than '..Said'. Prove '..Said' where nothing that the law and all that it calls make is longer than what came in: it says more and counts as full. Else prove '..UptoSaid'. A law counts once. -/
mutual
def uptoBulk {H : Type} : DataW H → Nat
  | .lit (.string bytes) => bytes.length + 1
  | .lit _ => 1
  | .nil => 1
  | .ptr d => uptoBulk d + 1
  | .slice elems spare => uptoBulkAll elems + uptoBulkAll spare + 1
  | .agg parts => uptoBulkAll parts + 1
  | .iface _ d => uptoBulk d + 1
  | .map entries => uptoBulkEntries entries + 1
  | .held _ => 1
def uptoBulkAll {H : Type} : List (DataW H) → Nat
  | [] => 0
  | d :: r => uptoBulk d + uptoBulkAll r
def uptoBulkEntries {H : Type} : List (Lit × DataW H) → Nat
  | [] => 0
  | x :: r => uptoBulkEntry x + uptoBulkEntries r
def uptoBulkEntry {H : Type} : Lit × DataW H → Nat
  | (.string bytes, d) => bytes.length + uptoBulk d + 1
  | (_, d) => uptoBulk d + 1
 end
def uptoSmall : (H : Type) → List (DataW H) → Bool := fun _ ds => decide (uptoBulkAll ds ≤ 1048576)
def OpenSpec.upto (s : _root_.Go.ChangeSpec) : _root_.Go.OpenSpec := { _root_.Go.OpenSpec.ofChange s with cond := some uptoSmall }

/-- 'foghornlaw17.WeavePlaces', WHERE WHAT IT READS IS OF BULK AT MOST 1048576: true; the input reads as it did. -/
def weavePlacesUptoRow : OpenClaim := { program := "ytniniiibgfodbaa", sum := "1e1a9530eeccd0dbeff8a08b069078a1719605f2a00a0924cf1f2e9b6ee6d4cf", func := "foghorn/foghornlaw17.WeavePlaces", spec := "weavePlaces", apart := false, narrowed := true }
def WeavePlacesUptoSaid : Prop := weavePlacesUptoRow.holds Try.pinned (OpenSpec.upto weavePlacesSpec)

/-- 'foghornlaw17.WeaveMarks', WHERE WHAT IT READS IS OF BULK AT MOST 1048576: true; the input reads as it did. -/
def weaveMarksUptoRow : OpenClaim := { program := "ytniniiibgfodbaa", sum := "1e1a9530eeccd0dbeff8a08b069078a1719605f2a00a0924cf1f2e9b6ee6d4cf", func := "foghorn/foghornlaw17.WeaveMarks", spec := "weaveMarks", unfollowed := true, recurses := true, apart := false, narrowed := true }
def WeaveMarksUptoSaid : Prop := weaveMarksUptoRow.holds Try.pinned (OpenSpec.upto weaveMarksSpec)

/-- 'foghornlaw17.WeaveSpread', WHERE WHAT IT READS IS OF BULK AT MOST 1048576: true; the input reads as it did. -/
def weaveSpreadUptoRow : OpenClaim := { program := "ytniniiibgfodbaa", sum := "1e1a9530eeccd0dbeff8a08b069078a1719605f2a00a0924cf1f2e9b6ee6d4cf", func := "foghorn/foghornlaw17.WeaveSpread", spec := "weaveSpread", unfollowed := true, recurses := true, apart := false, narrowed := true }
def WeaveSpreadUptoSaid : Prop := weaveSpreadUptoRow.holds Try.pinned (OpenSpec.upto weaveSpreadSpec)

end Rows
end Go.Proofs.Ytniniiibgfodbaa
