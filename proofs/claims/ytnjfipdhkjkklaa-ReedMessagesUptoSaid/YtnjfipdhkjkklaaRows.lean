/-
  No cell of these rows narrows 'for every input' (looked for: loops, veiled, ifaces, maps, wideKeys, modest, calm, conditions, laid).
  DERIVED. THE GIVEN ROWS OF THIS SEAT. 6 by the template 'for every input the law returns true; each argument reads behind the call as it read before'; 0 by the template 'total and deterministic' (their statements: YtnjfipdhkjkklaaTotals.lean).
  GIVEN WITH THE SEED: the statements are not yours to turn. If you find one false, say at which input.
  Laid BY PROGRAM, IN A SANDBOX (cutbox-rows.mjs): the forced cells as the released guide's own fill.sh prints them over the translation af4212c9c029de10… (all of the seat's roots in one cut). By AI agents, Wed Nov 11 2026. No macro, syntax, notation, axiom, sorry.
-/
import Derived.Test.YtnjfipdhkjkklaaChecked
import GoSem.Claim
import GoSem.ClaimJoined
import GoSem.ClaimMapViews
import Derived.JoinedTies
import Derived.KernelRfl
namespace Go.Proofs.Ytnjfipdhkjkklaa
/- THE CELL 'sum', in the pinned program and in every row, IS THE sha256 OF THE DUMP (.gsa) THAT YtnjfipdhkjkklaaProg.lean LOADS. Nothing in Lean hashes anything: it is a label: what it is worth is what the hold of that sum in a sandbox is worth. -/
noncomputable def Try.pinned : Pinned := { name := "ytnjfipdhkjkklaa", sum := "af4212c9c029de100cbfd8180a691500cdac135cfe0c2a44b03ea6643b24c20f", checked := Try.checked }
namespace Rows
def none {H : Type} : Left H := { results := [], args := [] }

/-- 'foghornlaw19.ReedLinear': WHATEVER THE INPUT: true; the input reads as it did. -/
def reedLinearSpec : ChangeSpec := { name := "reedLinear", fn := fun _ => fun
  | [d1, d2, d3, d4] => { results := [.lit (.bool true)], args := [d1, d2, d3, d4] }
  | _ => none }
def reedLinearRow : OpenClaim := { program := "ytnjfipdhkjkklaa", sum := "af4212c9c029de100cbfd8180a691500cdac135cfe0c2a44b03ea6643b24c20f", func := "foghorn/foghornlaw19.ReedLinear", spec := "reedLinear", unfollowed := true, recurses := true, apart := false }
def ReedLinearSaid : Prop := reedLinearRow.holds Try.pinned (OpenSpec.ofChange reedLinearSpec)

/-- ITS FALSE NEIGHBOUR: 'it returns false'. Refute it at one input. -/
def reedLinearWrong : ChangeSpec := { name := "reedLinear", fn := fun _ => fun
  | [d1, d2, d3, d4] => { results := [.lit (.bool false)], args := [d1, d2, d3, d4] }
  | _ => none }
def ReedLinearWrongFalsely : Prop := reedLinearRow.holds Try.pinned (OpenSpec.ofChange reedLinearWrong)

/-- 'foghornlaw19.ReedApart': WHATEVER THE INPUT: true; the input reads as it did. -/
def reedApartSpec : ChangeSpec := { name := "reedApart", fn := fun _ => fun
  | [d1, d2, d3, d4] => { results := [.lit (.bool true)], args := [d1, d2, d3, d4] }
  | _ => none }
def reedApartRow : OpenClaim := { program := "ytnjfipdhkjkklaa", sum := "af4212c9c029de100cbfd8180a691500cdac135cfe0c2a44b03ea6643b24c20f", func := "foghorn/foghornlaw19.ReedApart", spec := "reedApart", unfollowed := true, recurses := true, apart := false }
def ReedApartSaid : Prop := reedApartRow.holds Try.pinned (OpenSpec.ofChange reedApartSpec)

/-- ITS FALSE NEIGHBOUR: 'it returns false'. Refute it at one input. -/
def reedApartWrong : ChangeSpec := { name := "reedApart", fn := fun _ => fun
  | [d1, d2, d3, d4] => { results := [.lit (.bool false)], args := [d1, d2, d3, d4] }
  | _ => none }
def ReedApartWrongFalsely : Prop := reedApartRow.holds Try.pinned (OpenSpec.ofChange reedApartWrong)

/-- 'foghornlaw19.ReedMessages': WHATEVER THE INPUT: true; the input reads as it did. -/
def reedMessagesSpec : ChangeSpec := { name := "reedMessages", fn := fun _ => fun
  | [d1, d2, d3, d4] => { results := [.lit (.bool true)], args := [d1, d2, d3, d4] }
  | _ => none }
def reedMessagesRow : OpenClaim := { program := "ytnjfipdhkjkklaa", sum := "af4212c9c029de100cbfd8180a691500cdac135cfe0c2a44b03ea6643b24c20f", func := "foghorn/foghornlaw19.ReedMessages", spec := "reedMessages", unfollowed := true, recurses := true, apart := false }
def ReedMessagesSaid : Prop := reedMessagesRow.holds Try.pinned (OpenSpec.ofChange reedMessagesSpec)

/-- ITS FALSE NEIGHBOUR: 'it returns false'. Refute it at one input. -/
def reedMessagesWrong : ChangeSpec := { name := "reedMessages", fn := fun _ => fun
  | [d1, d2, d3, d4] => { results := [.lit (.bool false)], args := [d1, d2, d3, d4] }
  | _ => none }
def ReedMessagesWrongFalsely : Prop := reedMessagesRow.holds Try.pinned (OpenSpec.ofChange reedMessagesWrong)

/-- 'foghornlaw19.ReedOne': WHATEVER THE INPUT: true; the input reads as it did. -/
def reedOneSpec : ChangeSpec := { name := "reedOne", fn := fun _ => fun
  | [d1, d2] => { results := [.lit (.bool true)], args := [d1, d2] }
  | _ => none }
def reedOneRow : OpenClaim := { program := "ytnjfipdhkjkklaa", sum := "af4212c9c029de100cbfd8180a691500cdac135cfe0c2a44b03ea6643b24c20f", func := "foghorn/foghornlaw19.ReedOne", spec := "reedOne", unfollowed := true, recurses := true, apart := false }
def ReedOneSaid : Prop := reedOneRow.holds Try.pinned (OpenSpec.ofChange reedOneSpec)

/-- ITS FALSE NEIGHBOUR: 'it returns false'. Refute it at one input. -/
def reedOneWrong : ChangeSpec := { name := "reedOne", fn := fun _ => fun
  | [d1, d2] => { results := [.lit (.bool false)], args := [d1, d2] }
  | _ => none }
def ReedOneWrongFalsely : Prop := reedOneRow.holds Try.pinned (OpenSpec.ofChange reedOneWrong)

/-- 'foghornlaw19.ReedBack': WHATEVER THE INPUT: true; the input reads as it did. -/
def reedBackSpec : ChangeSpec := { name := "reedBack", fn := fun _ => fun
  | [d1, d2, d3, d4] => { results := [.lit (.bool true)], args := [d1, d2, d3, d4] }
  | _ => none }
def reedBackRow : OpenClaim := { program := "ytnjfipdhkjkklaa", sum := "af4212c9c029de100cbfd8180a691500cdac135cfe0c2a44b03ea6643b24c20f", func := "foghorn/foghornlaw19.ReedBack", spec := "reedBack", unfollowed := true, recurses := true, apart := false }
def ReedBackSaid : Prop := reedBackRow.holds Try.pinned (OpenSpec.ofChange reedBackSpec)

/-- ITS FALSE NEIGHBOUR: 'it returns false'. Refute it at one input. -/
def reedBackWrong : ChangeSpec := { name := "reedBack", fn := fun _ => fun
  | [d1, d2, d3, d4] => { results := [.lit (.bool false)], args := [d1, d2, d3, d4] }
  | _ => none }
def ReedBackWrongFalsely : Prop := reedBackRow.holds Try.pinned (OpenSpec.ofChange reedBackWrong)

/-- 'foghornlaw19.ReedWords': WHATEVER THE INPUT: true; the input reads as it did. -/
def reedWordsSpec : ChangeSpec := { name := "reedWords", fn := fun _ => fun
  | [d1, d2, d3, d4] => { results := [.lit (.bool true)], args := [d1, d2, d3, d4] }
  | _ => none }
def reedWordsRow : OpenClaim := { program := "ytnjfipdhkjkklaa", sum := "af4212c9c029de100cbfd8180a691500cdac135cfe0c2a44b03ea6643b24c20f", func := "foghorn/foghornlaw19.ReedWords", spec := "reedWords", unfollowed := true, recurses := true, apart := false }
def ReedWordsSaid : Prop := reedWordsRow.holds Try.pinned (OpenSpec.ofChange reedWordsSpec)

/-- ITS FALSE NEIGHBOUR: 'it returns false'. Refute it at one input. -/
def reedWordsWrong : ChangeSpec := { name := "reedWords", fn := fun _ => fun
  | [d1, d2, d3, d4] => { results := [.lit (.bool false)], args := [d1, d2, d3, d4] }
  | _ => none }
def ReedWordsWrongFalsely : Prop := reedWordsRow.holds Try.pinned (OpenSpec.ofChange reedWordsWrong)

/- THE SECOND FORM. 'bulk': how many values and letters a reading holds, each counted each time it is reached (what is shared counts as often as it is met; a slice's spare places count too). A statement '..UptoSaid' is the law's where the arguments, and the package variables that the reading takes, are together of bulk at most 1048576: NARROWER than '..Said'. Prove '..Said' where nothing that the law and all that it calls make is longer than what came in: it says more and counts as full. Else prove '..UptoSaid'. A law counts once. -/
mutual
def uptoBulk {H : Type} : DataW H → Nat
  | .lit (.string bytes) => bytes.length + 1
  | .lit _ => 1
  | .nil => 1
  | .ptr d => uptoBulk d + 1
  | .slice elems spare => uptoBulkAll elems + uptoBulkAll spare + 1
  | .agg parts => uptoBulkAll parts + 1
  | .iface _ d => uptoBulk d + 1
  | .map entries => uptoBulkEntries entries + 1
  | .held _ => 1
def uptoBulkAll {H : Type} : List (DataW H) → Nat
  | [] => 0
  | d :: r => uptoBulk d + uptoBulkAll r
def uptoBulkEntries {H : Type} : List (Lit × DataW H) → Nat
  | [] => 0
  | x :: r => uptoBulkEntry x + uptoBulkEntries r
def uptoBulkEntry {H : Type} : Lit × DataW H → Nat
  | (.string bytes, d) => bytes.length + uptoBulk d + 1
  | (_, d) => uptoBulk d + 1
 end
def uptoSmall : (H : Type) → List (DataW H) → Bool := fun _ ds => decide (uptoBulkAll ds ≤ 1048576)
def OpenSpec.upto (s : _root_.Go.ChangeSpec) : _root_.Go.OpenSpec := { _root_.Go.OpenSpec.ofChange s with cond := some uptoSmall }

/-- 'foghornlaw19.ReedLinear', WHERE WHAT IT READS IS OF BULK AT MOST 1048576: true; the input reads as it did. -/
def reedLinearUptoRow : OpenClaim := { program := "ytnjfipdhkjkklaa", sum := "af4212c9c029de100cbfd8180a691500cdac135cfe0c2a44b03ea6643b24c20f", func := "foghorn/foghornlaw19.ReedLinear", spec := "reedLinear", unfollowed := true, recurses := true, apart := false, narrowed := true }
def ReedLinearUptoSaid : Prop := reedLinearUptoRow.holds Try.pinned (OpenSpec.upto reedLinearSpec)

/-- 'foghornlaw19.ReedApart', WHERE WHAT IT READS IS OF BULK AT MOST 1048576: true; the input reads as it did. -/
def reedApartUptoRow : OpenClaim := { program := "ytnjfipdhkjkklaa", sum := "af4212c9c029de100cbfd8180a691500cdac135cfe0c2a44b03ea6643b24c20f", func := "foghorn/foghornlaw19.ReedApart", spec := "reedApart", unfollowed := true, recurses := true, apart := false, narrowed := true }
def ReedApartUptoSaid : Prop := reedApartUptoRow.holds Try.pinned (OpenSpec.upto reedApartSpec)

/-- 'foghornlaw19.ReedMessages', WHERE WHAT IT READS IS OF BULK AT MOST 1048576: true; the input reads as it did. -/
def reedMessagesUptoRow : OpenClaim := { program := "ytnjfipdhkjkklaa", sum := "af4212c9c029de100cbfd8180a691500cdac135cfe0c2a44b03ea6643b24c20f", func := "foghorn/foghornlaw19.ReedMessages", spec := "reedMessages", unfollowed := true, recurses := true, apart := false, narrowed := true }
def ReedMessagesUptoSaid : Prop := reedMessagesUptoRow.holds Try.pinned (OpenSpec.upto reedMessagesSpec)

/-- 'foghornlaw19.ReedOne', WHERE WHAT IT READS IS OF BULK AT MOST 1048576: true; the input reads as it did. -/
def reedOneUptoRow : OpenClaim := { program := "ytnjfipdhkjkklaa", sum := "af4212c9c029de100cbfd8180a691500cdac135cfe0c2a44b03ea6643b24c20f", func := "foghorn/foghornlaw19.ReedOne", spec := "reedOne", unfollowed := true, recurses := true, apart := false, narrowed := true }
def ReedOneUptoSaid : Prop := reedOneUptoRow.holds Try.pinned (OpenSpec.upto reedOneSpec)

/-- 'foghornlaw19.ReedBack', WHERE WHAT IT READS IS OF BULK AT MOST 1048576: true; the input reads as it did. -/
def reedBackUptoRow : OpenClaim := { program := "ytnjfipdhkjkklaa", sum := "af4212c9c029de100cbfd8180a691500cdac135cfe0c2a44b03ea6643b24c20f", func := "foghorn/foghornlaw19.ReedBack", spec := "reedBack", unfollowed := true, recurses := true, apart := false, narrowed := true }
def ReedBackUptoSaid : Prop := reedBackUptoRow.holds Try.pinned (OpenSpec.upto reedBackSpec)

/-- 'foghornlaw19.ReedWords', WHERE WHAT IT READS IS OF BULK AT MOST 1048576: true; the input reads as it did. -/
def reedWordsUptoRow : OpenClaim := { program := "ytnjfipdhkjkklaa", sum := "af4212c9c029de100cbfd8180a691500cdac135cfe0c2a44b03ea6643b24c20f", func := "foghorn/foghornlaw19.ReedWords", spec := "reedWords", unfollowed := true, recurses := true, apart := false, narrowed := true }
def ReedWordsUptoSaid : Prop := reedWordsUptoRow.holds Try.pinned (OpenSpec.upto reedWordsSpec)

end Rows
end Go.Proofs.Ytnjfipdhkjkklaa
