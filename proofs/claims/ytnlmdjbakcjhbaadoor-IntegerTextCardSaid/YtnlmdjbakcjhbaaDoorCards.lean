/-
  DERIVED. GIVEN WITH THE SEED: THE CARDS: each row of YtnlmdjbakcjhbaaDoorRows.lean that lists a variable, with what it lists TIED to the program's text (the seventh form; the later family's looks); each row that meets fmt, with fmt's text TOLD by the authors' own Lean function (tested against real Go, not proved from fmt's source: count such statements apart). THE CARD IS WHAT COUNTS. Prove the row's statement (the work); the ties are given (YtnlmdjbakcjhbaaDoorTie.lean); close each card by the builder's one call (the guide's Derived/Test/ToyasCard.lean, 'card_holds'). Laid BY PROGRAM, IN A SANDBOX (cutbox-door.mjs). By AI agents, Wed Nov 11 2026. No macro, syntax, notation, axiom, sorry.
-/
import Derived.Test.YtnlmdjbakcjhbaaDoorRows
import GoSem.ClaimSeven
namespace Go.Proofs.YtnlmdjbakcjhbaaDoor
namespace Rows

/-- THE TIED CARD OF 'torsionlaw01.IntegerGcd'. -/
def integerGcdCard : Claim7 := { stood := { row := integerGcdRow, standIns := [], harness := (true, "c2cf13179a8e7705c66b881f65de75622bd93b6b8c0e63be2bbb10a08aae8913"), looks := false }, kinds := [], alts := [], laidByText := true, laidKinds := [.data, .pinned], laidTests := true, laidLooks := .later }
def IntegerGcdCardSaid : Prop := Claim7.holds Tryd.pinned (.plain (OpenSpec.ofChange integerGcdSpec)) integerGcdCard

/-- THE TIED CARD OF 'torsionlaw01.IntegerText'. -/
def integerTextCard : Claim7 := { stood := { row := integerTextRow, standIns := [], harness := (true, "c2cf13179a8e7705c66b881f65de75622bd93b6b8c0e63be2bbb10a08aae8913"), looks := false }, kinds := [], alts := [], laidByText := true, laidKinds := [.data, .pinned], laidTests := true, laidLooks := .later }
def IntegerTextCardSaid : Prop := Claim7.holds Tryd.pinned (.plain (OpenSpec.ofChange integerTextSpec)) integerTextCard

/-- THE TIED CARD OF 'torsionlaw01.IntegerExt'. -/
def integerExtCard : Claim7 := { stood := { row := integerExtRow, standIns := [], harness := (true, "c2cf13179a8e7705c66b881f65de75622bd93b6b8c0e63be2bbb10a08aae8913"), looks := false }, kinds := [], alts := [], laidByText := true, laidKinds := [.data, .pinned], laidTests := true, laidLooks := .later }
def IntegerExtCardSaid : Prop := Claim7.holds Tryd.pinned (.plain (OpenSpec.ofChange integerExtSpec)) integerExtCard

/-- THE TIED CARD OF 'torsionlaw03.ModularMatchesReference'. -/
def modularMatchesReferenceCard : Claim7 := { stood := { row := modularMatchesReferenceRow, standIns := [], harness := (true, "c2cf13179a8e7705c66b881f65de75622bd93b6b8c0e63be2bbb10a08aae8913"), looks := false }, kinds := [], alts := [], laidByText := true, laidKinds := [.data, .data], laidTests := true, laidLooks := .later }
def ModularMatchesReferenceCardSaid : Prop := Claim7.holds Tryd.pinned (.plain (OpenSpec.ofChange modularMatchesReferenceSpec)) modularMatchesReferenceCard

/-- THE TIED CARD OF 'torsionlaw03.ModularField'. -/
def modularFieldCard : Claim7 := { stood := { row := modularFieldRow, standIns := [], harness := (true, "c2cf13179a8e7705c66b881f65de75622bd93b6b8c0e63be2bbb10a08aae8913"), looks := false }, kinds := [], alts := [], laidByText := true, laidKinds := [.data, .data], laidTests := true, laidLooks := .later }
def ModularFieldCardSaid : Prop := Claim7.holds Tryd.pinned (.plain (OpenSpec.ofChange modularFieldSpec)) modularFieldCard

/-- THE TIED CARD OF 'torsionlaw03.ModularReduces'. -/
def modularReducesCard : Claim7 := { stood := { row := modularReducesRow, standIns := [], harness := (true, "c2cf13179a8e7705c66b881f65de75622bd93b6b8c0e63be2bbb10a08aae8913"), looks := false }, kinds := [], alts := [], laidByText := true, laidKinds := [.data, .data], laidTests := true, laidLooks := .later }
def ModularReducesCardSaid : Prop := Claim7.holds Tryd.pinned (.plain (OpenSpec.ofChange modularReducesSpec)) modularReducesCard

/-- THE SECOND FORM's CARD OF 'torsionlaw01.IntegerGcd'. -/
def integerGcdUptoCard : Claim7 := { stood := { row := integerGcdUptoRow, standIns := [], harness := (true, "c2cf13179a8e7705c66b881f65de75622bd93b6b8c0e63be2bbb10a08aae8913"), looks := false }, kinds := [], alts := [], laidByText := true, laidKinds := [.data, .pinned], laidTests := true, laidLooks := .later }
def IntegerGcdUptoCardSaid : Prop := Claim7.holds Tryd.pinned (.plain (OpenSpec.upto integerGcdSpec)) integerGcdUptoCard

/-- THE SECOND FORM's CARD OF 'torsionlaw01.IntegerText'. -/
def integerTextUptoCard : Claim7 := { stood := { row := integerTextUptoRow, standIns := [], harness := (true, "c2cf13179a8e7705c66b881f65de75622bd93b6b8c0e63be2bbb10a08aae8913"), looks := false }, kinds := [], alts := [], laidByText := true, laidKinds := [.data, .pinned], laidTests := true, laidLooks := .later }
def IntegerTextUptoCardSaid : Prop := Claim7.holds Tryd.pinned (.plain (OpenSpec.upto integerTextSpec)) integerTextUptoCard

/-- THE SECOND FORM's CARD OF 'torsionlaw01.IntegerExt'. -/
def integerExtUptoCard : Claim7 := { stood := { row := integerExtUptoRow, standIns := [], harness := (true, "c2cf13179a8e7705c66b881f65de75622bd93b6b8c0e63be2bbb10a08aae8913"), looks := false }, kinds := [], alts := [], laidByText := true, laidKinds := [.data, .pinned], laidTests := true, laidLooks := .later }
def IntegerExtUptoCardSaid : Prop := Claim7.holds Tryd.pinned (.plain (OpenSpec.upto integerExtSpec)) integerExtUptoCard

/-- THE SECOND FORM's CARD OF 'torsionlaw03.ModularMatchesReference'. -/
def modularMatchesReferenceUptoCard : Claim7 := { stood := { row := modularMatchesReferenceUptoRow, standIns := [], harness := (true, "c2cf13179a8e7705c66b881f65de75622bd93b6b8c0e63be2bbb10a08aae8913"), looks := false }, kinds := [], alts := [], laidByText := true, laidKinds := [.data, .data], laidTests := true, laidLooks := .later }
def ModularMatchesReferenceUptoCardSaid : Prop := Claim7.holds Tryd.pinned (.plain (OpenSpec.upto modularMatchesReferenceSpec)) modularMatchesReferenceUptoCard

/-- THE SECOND FORM's CARD OF 'torsionlaw03.ModularField'. -/
def modularFieldUptoCard : Claim7 := { stood := { row := modularFieldUptoRow, standIns := [], harness := (true, "c2cf13179a8e7705c66b881f65de75622bd93b6b8c0e63be2bbb10a08aae8913"), looks := false }, kinds := [], alts := [], laidByText := true, laidKinds := [.data, .data], laidTests := true, laidLooks := .later }
def ModularFieldUptoCardSaid : Prop := Claim7.holds Tryd.pinned (.plain (OpenSpec.upto modularFieldSpec)) modularFieldUptoCard

/-- THE SECOND FORM's CARD OF 'torsionlaw03.ModularReduces'. -/
def modularReducesUptoCard : Claim7 := { stood := { row := modularReducesUptoRow, standIns := [], harness := (true, "c2cf13179a8e7705c66b881f65de75622bd93b6b8c0e63be2bbb10a08aae8913"), looks := false }, kinds := [], alts := [], laidByText := true, laidKinds := [.data, .data], laidTests := true, laidLooks := .later }
def ModularReducesUptoCardSaid : Prop := Claim7.holds Tryd.pinned (.plain (OpenSpec.upto modularReducesSpec)) modularReducesUptoCard
end Rows
end Go.Proofs.YtnlmdjbakcjhbaaDoor
