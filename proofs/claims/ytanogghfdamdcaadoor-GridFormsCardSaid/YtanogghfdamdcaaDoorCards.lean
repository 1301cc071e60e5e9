/-
  DERIVED. GIVEN WITH THE SEED: THE CARDS: each row of YtanogghfdamdcaaDoorRows.lean that lists a variable, with what it lists TIED to the program's text (the seventh form; the later family's looks); each row that meets fmt, with fmt's text TOLD by the authors' own Lean function (tested against real Go, not proved from fmt's source: count such statements apart). THE CARD IS WHAT COUNTS. Prove the row's statement (the work); the ties are given (YtanogghfdamdcaaDoorTie.lean); close each card by the builder's one call (the guide's Derived/Test/ToyasCard.lean, 'card_holds'). Laid BY PROGRAM, IN A SANDBOX (cutbox-door.mjs). By AI agents, Wed Nov 11 2026. No macro, syntax, notation, axiom, sorry.
-/
import Derived.Test.YtanogghfdamdcaaDoorRows
import GoSem.ClaimSeven
namespace Go.Proofs.YtanogghfdamdcaaDoor
namespace Rows

/-- THE TIED CARD OF 'foghornlaw02.GridForms'. -/
def gridFormsCard : Claim7 := { stood := { row := gridFormsRow, standIns := [], harness := (true, "49eb695230cf835a78befebcc1a731f64132b416785f181164be9fd638a5bfe3"), looks := false }, kinds := [], alts := [], laidByText := true, laidKinds := [.data], laidTests := true, laidLooks := .later }
def GridFormsCardSaid : Prop := Claim7.holds Tryd.pinned (.plain (OpenSpec.ofChange gridFormsSpec)) gridFormsCard

/-- THE TIED CARD OF 'foghornlaw02.GridSplits'. -/
def gridSplitsCard : Claim7 := { stood := { row := gridSplitsRow, standIns := [], harness := (true, "49eb695230cf835a78befebcc1a731f64132b416785f181164be9fd638a5bfe3"), looks := false }, kinds := [], alts := [], laidByText := true, laidKinds := [.data], laidTests := true, laidLooks := .later }
def GridSplitsCardSaid : Prop := Claim7.holds Tryd.pinned (.plain (OpenSpec.ofChange gridSplitsSpec)) gridSplitsCard

/-- THE TIED CARD OF 'foghornlaw02.GridNearest'. -/
def gridNearestCard : Claim7 := { stood := { row := gridNearestRow, standIns := [], harness := (true, "49eb695230cf835a78befebcc1a731f64132b416785f181164be9fd638a5bfe3"), looks := false }, kinds := [], alts := [], laidByText := true, laidKinds := [.data], laidTests := true, laidLooks := .later }
def GridNearestCardSaid : Prop := Claim7.holds Tryd.pinned (.plain (OpenSpec.ofChange gridNearestSpec)) gridNearestCard

/-- THE TIED CARD OF 'foghornlaw02.GridStays'. -/
def gridStaysCard : Claim7 := { stood := { row := gridStaysRow, standIns := [], harness := (true, "49eb695230cf835a78befebcc1a731f64132b416785f181164be9fd638a5bfe3"), looks := false }, kinds := [], alts := [], laidByText := true, laidKinds := [.data], laidTests := true, laidLooks := .later }
def GridStaysCardSaid : Prop := Claim7.holds Tryd.pinned (.plain (OpenSpec.ofChange gridStaysSpec)) gridStaysCard

/-- THE TIED CARD OF 'foghornlaw02.GridExact'. -/
def gridExactCard : Claim7 := { stood := { row := gridExactRow, standIns := [], harness := (true, "49eb695230cf835a78befebcc1a731f64132b416785f181164be9fd638a5bfe3"), looks := false }, kinds := [], alts := [], laidByText := true, laidKinds := [.data], laidTests := true, laidLooks := .later }
def GridExactCardSaid : Prop := Claim7.holds Tryd.pinned (.plain (OpenSpec.ofChange gridExactSpec)) gridExactCard

/-- THE TIED CARD OF 'foghornlaw02.GridBack'. -/
def gridBackCard : Claim7 := { stood := { row := gridBackRow, standIns := [], harness := (true, "49eb695230cf835a78befebcc1a731f64132b416785f181164be9fd638a5bfe3"), looks := false }, kinds := [], alts := [], laidByText := true, laidKinds := [.data], laidTests := true, laidLooks := .later }
def GridBackCardSaid : Prop := Claim7.holds Tryd.pinned (.plain (OpenSpec.ofChange gridBackSpec)) gridBackCard

/-- THE SECOND FORM's CARD OF 'foghornlaw02.GridForms'. -/
def gridFormsUptoCard : Claim7 := { stood := { row := gridFormsUptoRow, standIns := [], harness := (true, "49eb695230cf835a78befebcc1a731f64132b416785f181164be9fd638a5bfe3"), looks := false }, kinds := [], alts := [], laidByText := true, laidKinds := [.data], laidTests := true, laidLooks := .later }
def GridFormsUptoCardSaid : Prop := Claim7.holds Tryd.pinned (.plain (OpenSpec.upto gridFormsSpec)) gridFormsUptoCard

/-- THE SECOND FORM's CARD OF 'foghornlaw02.GridSplits'. -/
def gridSplitsUptoCard : Claim7 := { stood := { row := gridSplitsUptoRow, standIns := [], harness := (true, "49eb695230cf835a78befebcc1a731f64132b416785f181164be9fd638a5bfe3"), looks := false }, kinds := [], alts := [], laidByText := true, laidKinds := [.data], laidTests := true, laidLooks := .later }
def GridSplitsUptoCardSaid : Prop := Claim7.holds Tryd.pinned (.plain (OpenSpec.upto gridSplitsSpec)) gridSplitsUptoCard

/-- THE SECOND FORM's CARD OF 'foghornlaw02.GridNearest'. -/
def gridNearestUptoCard : Claim7 := { stood := { row := gridNearestUptoRow, standIns := [], harness := (true, "49eb695230cf835a78befebcc1a731f64132b416785f181164be9fd638a5bfe3"), looks := false }, kinds := [], alts := [], laidByText := true, laidKinds := [.data], laidTests := true, laidLooks := .later }
def GridNearestUptoCardSaid : Prop := Claim7.holds Tryd.pinned (.plain (OpenSpec.upto gridNearestSpec)) gridNearestUptoCard

/-- THE SECOND FORM's CARD OF 'foghornlaw02.GridStays'. -/
def gridStaysUptoCard : Claim7 := { stood := { row := gridStaysUptoRow, standIns := [], harness := (true, "49eb695230cf835a78befebcc1a731f64132b416785f181164be9fd638a5bfe3"), looks := false }, kinds := [], alts := [], laidByText := true, laidKinds := [.data], laidTests := true, laidLooks := .later }
def GridStaysUptoCardSaid : Prop := Claim7.holds Tryd.pinned (.plain (OpenSpec.upto gridStaysSpec)) gridStaysUptoCard

/-- THE SECOND FORM's CARD OF 'foghornlaw02.GridExact'. -/
def gridExactUptoCard : Claim7 := { stood := { row := gridExactUptoRow, standIns := [], harness := (true, "49eb695230cf835a78befebcc1a731f64132b416785f181164be9fd638a5bfe3"), looks := false }, kinds := [], alts := [], laidByText := true, laidKinds := [.data], laidTests := true, laidLooks := .later }
def GridExactUptoCardSaid : Prop := Claim7.holds Tryd.pinned (.plain (OpenSpec.upto gridExactSpec)) gridExactUptoCard

/-- THE SECOND FORM's CARD OF 'foghornlaw02.GridBack'. -/
def gridBackUptoCard : Claim7 := { stood := { row := gridBackUptoRow, standIns := [], harness := (true, "49eb695230cf835a78befebcc1a731f64132b416785f181164be9fd638a5bfe3"), looks := false }, kinds := [], alts := [], laidByText := true, laidKinds := [.data], laidTests := true, laidLooks := .later }
def GridBackUptoCardSaid : Prop := Claim7.holds Tryd.pinned (.plain (OpenSpec.upto gridBackSpec)) gridBackUptoCard
end Rows
end Go.Proofs.YtanogghfdamdcaaDoor
