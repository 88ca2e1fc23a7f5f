/-
  DERIVED. GIVEN WITH THE SEED: THE CARDS: each row of YtclmenpclkmfeaaDoorRows.lean that lists a variable, with what it lists TIED to the program's text (the seventh form; the later family's looks); each row that meets fmt, with fmt's text TOLD by the authors' own Lean function (tested against real Go, not proved from fmt's source: count such statements apart). THE CARD IS WHAT COUNTS. Prove the row's statement (the work); the ties are given (YtclmenpclkmfeaaDoorTie.lean); close each card by the builder's one call (the guide's Derived/Test/ToyasCard.lean, 'card_holds'). Laid BY PROGRAM, IN A SANDBOX (cutbox-door.mjs). By AI agents, Wed Nov 11 2026. No macro, syntax, notation, axiom, sorry.
-/
import Derived.Test.YtclmenpclkmfeaaDoorRows
import GoSem.ClaimSeven
namespace Go.Proofs.YtclmenpclkmfeaaDoor
namespace Rows

/-- THE TIED CARD OF 'torsionlaw04.CrtCombines'. -/
def crtCombinesCard : Claim7 := { stood := { row := crtCombinesRow, standIns := [], harness := (true, "064233cbdcb0c186ee13a00c377d6a9c2ef6e38f055fa1250a7314d407936c99"), looks := false }, kinds := [], alts := [], laidByText := true, laidKinds := [.data, .data], laidTests := true, laidLooks := .later }
def CrtCombinesCardSaid : Prop := Claim7.holds Tryd.pinned (.plain (OpenSpec.ofChange crtCombinesSpec)) crtCombinesCard

/-- THE TIED CARD OF 'torsionlaw04.CrtOrders'. -/
def crtOrdersCard : Claim7 := { stood := { row := crtOrdersRow, standIns := [], harness := (true, "064233cbdcb0c186ee13a00c377d6a9c2ef6e38f055fa1250a7314d407936c99"), looks := false }, kinds := [], alts := [], laidByText := true, laidKinds := [.data, .data], laidTests := true, laidLooks := .later }
def CrtOrdersCardSaid : Prop := Claim7.holds Tryd.pinned (.plain (OpenSpec.ofChange crtOrdersSpec)) crtOrdersCard

/-- THE TIED CARD OF 'torsionlaw04.CrtRecovers'. -/
def crtRecoversCard : Claim7 := { stood := { row := crtRecoversRow, standIns := [], harness := (true, "064233cbdcb0c186ee13a00c377d6a9c2ef6e38f055fa1250a7314d407936c99"), looks := false }, kinds := [], alts := [], laidByText := true, laidKinds := [.data, .data], laidTests := true, laidLooks := .later }
def CrtRecoversCardSaid : Prop := Claim7.holds Tryd.pinned (.plain (OpenSpec.ofChange crtRecoversSpec)) crtRecoversCard

/-- THE TIED CARD OF 'torsionlaw04.CrtRejects'. -/
def crtRejectsCard : Claim7 := { stood := { row := crtRejectsRow, standIns := [], harness := (true, "064233cbdcb0c186ee13a00c377d6a9c2ef6e38f055fa1250a7314d407936c99"), looks := false }, kinds := [], alts := [], laidByText := true, laidKinds := [.data, .data], laidTests := true, laidLooks := .later }
def CrtRejectsCardSaid : Prop := Claim7.holds Tryd.pinned (.plain (OpenSpec.ofChange crtRejectsSpec)) crtRejectsCard

/-- THE TIED CARD OF 'torsionlaw04.CrtRationalMatchesReference'. -/
def crtRationalMatchesReferenceCard : Claim7 := { stood := { row := crtRationalMatchesReferenceRow, standIns := [], harness := (true, "064233cbdcb0c186ee13a00c377d6a9c2ef6e38f055fa1250a7314d407936c99"), looks := false }, kinds := [], alts := [], laidByText := true, laidKinds := [.data, .data], laidTests := true, laidLooks := .later }
def CrtRationalMatchesReferenceCardSaid : Prop := Claim7.holds Tryd.pinned (.plain (OpenSpec.ofChange crtRationalMatchesReferenceSpec)) crtRationalMatchesReferenceCard

/-- THE TIED CARD OF 'torsionlaw04.CrtRationals'. -/
def crtRationalsCard : Claim7 := { stood := { row := crtRationalsRow, standIns := [], harness := (true, "064233cbdcb0c186ee13a00c377d6a9c2ef6e38f055fa1250a7314d407936c99"), looks := false }, kinds := [], alts := [], laidByText := true, laidKinds := [.data, .data], laidTests := true, laidLooks := .later }
def CrtRationalsCardSaid : Prop := Claim7.holds Tryd.pinned (.plain (OpenSpec.ofChange crtRationalsSpec)) crtRationalsCard

/-- THE TIED CARD OF 'torsionlaw04.CrtFractions'. -/
def crtFractionsCard : Claim7 := { stood := { row := crtFractionsRow, standIns := [], harness := (true, "064233cbdcb0c186ee13a00c377d6a9c2ef6e38f055fa1250a7314d407936c99"), looks := false }, kinds := [], alts := [], laidByText := true, laidKinds := [.data, .data], laidTests := true, laidLooks := .later }
def CrtFractionsCardSaid : Prop := Claim7.holds Tryd.pinned (.plain (OpenSpec.ofChange crtFractionsSpec)) crtFractionsCard

/-- THE SECOND FORM's CARD OF 'torsionlaw04.CrtCombines'. -/
def crtCombinesUptoCard : Claim7 := { stood := { row := crtCombinesUptoRow, standIns := [], harness := (true, "064233cbdcb0c186ee13a00c377d6a9c2ef6e38f055fa1250a7314d407936c99"), looks := false }, kinds := [], alts := [], laidByText := true, laidKinds := [.data, .data], laidTests := true, laidLooks := .later }
def CrtCombinesUptoCardSaid : Prop := Claim7.holds Tryd.pinned (.plain (OpenSpec.upto crtCombinesSpec)) crtCombinesUptoCard

/-- THE SECOND FORM's CARD OF 'torsionlaw04.CrtOrders'. -/
def crtOrdersUptoCard : Claim7 := { stood := { row := crtOrdersUptoRow, standIns := [], harness := (true, "064233cbdcb0c186ee13a00c377d6a9c2ef6e38f055fa1250a7314d407936c99"), looks := false }, kinds := [], alts := [], laidByText := true, laidKinds := [.data, .data], laidTests := true, laidLooks := .later }
def CrtOrdersUptoCardSaid : Prop := Claim7.holds Tryd.pinned (.plain (OpenSpec.upto crtOrdersSpec)) crtOrdersUptoCard

/-- THE SECOND FORM's CARD OF 'torsionlaw04.CrtRecovers'. -/
def crtRecoversUptoCard : Claim7 := { stood := { row := crtRecoversUptoRow, standIns := [], harness := (true, "064233cbdcb0c186ee13a00c377d6a9c2ef6e38f055fa1250a7314d407936c99"), looks := false }, kinds := [], alts := [], laidByText := true, laidKinds := [.data, .data], laidTests := true, laidLooks := .later }
def CrtRecoversUptoCardSaid : Prop := Claim7.holds Tryd.pinned (.plain (OpenSpec.upto crtRecoversSpec)) crtRecoversUptoCard

/-- THE SECOND FORM's CARD OF 'torsionlaw04.CrtRejects'. -/
def crtRejectsUptoCard : Claim7 := { stood := { row := crtRejectsUptoRow, standIns := [], harness := (true, "064233cbdcb0c186ee13a00c377d6a9c2ef6e38f055fa1250a7314d407936c99"), looks := false }, kinds := [], alts := [], laidByText := true, laidKinds := [.data, .data], laidTests := true, laidLooks := .later }
def CrtRejectsUptoCardSaid : Prop := Claim7.holds Tryd.pinned (.plain (OpenSpec.upto crtRejectsSpec)) crtRejectsUptoCard

/-- THE SECOND FORM's CARD OF 'torsionlaw04.CrtRationalMatchesReference'. -/
def crtRationalMatchesReferenceUptoCard : Claim7 := { stood := { row := crtRationalMatchesReferenceUptoRow, standIns := [], harness := (true, "064233cbdcb0c186ee13a00c377d6a9c2ef6e38f055fa1250a7314d407936c99"), looks := false }, kinds := [], alts := [], laidByText := true, laidKinds := [.data, .data], laidTests := true, laidLooks := .later }
def CrtRationalMatchesReferenceUptoCardSaid : Prop := Claim7.holds Tryd.pinned (.plain (OpenSpec.upto crtRationalMatchesReferenceSpec)) crtRationalMatchesReferenceUptoCard

/-- THE SECOND FORM's CARD OF 'torsionlaw04.CrtRationals'. -/
def crtRationalsUptoCard : Claim7 := { stood := { row := crtRationalsUptoRow, standIns := [], harness := (true, "064233cbdcb0c186ee13a00c377d6a9c2ef6e38f055fa1250a7314d407936c99"), looks := false }, kinds := [], alts := [], laidByText := true, laidKinds := [.data, .data], laidTests := true, laidLooks := .later }
def CrtRationalsUptoCardSaid : Prop := Claim7.holds Tryd.pinned (.plain (OpenSpec.upto crtRationalsSpec)) crtRationalsUptoCard

/-- THE SECOND FORM's CARD OF 'torsionlaw04.CrtFractions'. -/
def crtFractionsUptoCard : Claim7 := { stood := { row := crtFractionsUptoRow, standIns := [], harness := (true, "064233cbdcb0c186ee13a00c377d6a9c2ef6e38f055fa1250a7314d407936c99"), looks := false }, kinds := [], alts := [], laidByText := true, laidKinds := [.data, .data], laidTests := true, laidLooks := .later }
def CrtFractionsUptoCardSaid : Prop := Claim7.holds Tryd.pinned (.plain (OpenSpec.upto crtFractionsSpec)) crtFractionsUptoCard
end Rows
end Go.Proofs.YtclmenpclkmfeaaDoor
