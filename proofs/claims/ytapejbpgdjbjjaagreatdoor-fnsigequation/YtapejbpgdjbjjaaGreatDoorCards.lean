/-
  DERIVED. GIVEN WITH THE SEED: THE CARDS: each row of YtapejbpgdjbjjaaGreatDoorRows.lean that lists a variable, with what it lists TIED to the program's text (the seventh form; the later family's looks); each row that meets fmt, with fmt's text TOLD by the authors' own Lean function (tested against real Go, not proved from fmt's source: count such statements apart). THE CARD IS WHAT COUNTS. Prove the row's statement (the work); the ties are given (YtapejbpgdjbjjaaGreatDoorTie.lean); close each card by the builder's one call (the guide's Derived/Test/ToyasCard.lean, 'card_holds'). Laid BY PROGRAM, IN A SANDBOX (cutbox-door.mjs). By AI agents, Wed Nov 11 2026. No macro, syntax, notation, axiom, sorry.
-/
import Derived.Test.YtapejbpgdjbjjaaGreatDoorRows
import GoSem.ClaimSeven
namespace Go.Proofs.YtapejbpgdjbjjaaGreatDoor
namespace Rows

/-- THE TIED CARD OF 'laws.FnSigEquation'. -/
def fnSigEquationCard : Claim7 := { stood := { row := fnSigEquationRow, standIns := [], harness := (true, "2fa361fcee280d604466e835b2c09896e172c054d63896c48fa3049889f2be5a"), looks := false }, kinds := [], alts := [], laidByText := true, laidKinds := [.data], laidTests := true, laidLooks := .later }
def FnSigEquationCardSaid : Prop := Claim7.holds Tryz.pinned (.plain (OpenSpec.ofChange fnSigEquationSpec)) fnSigEquationCard

/-- THE SECOND FORM's CARD OF 'laws.FnSigEquation'. -/
def fnSigEquationUptoCard : Claim7 := { stood := { row := fnSigEquationUptoRow, standIns := [], harness := (true, "2fa361fcee280d604466e835b2c09896e172c054d63896c48fa3049889f2be5a"), looks := false }, kinds := [], alts := [], laidByText := true, laidKinds := [.data], laidTests := true, laidLooks := .later }
def FnSigEquationUptoCardSaid : Prop := Claim7.holds Tryz.pinned (.plain (OpenSpec.upto fnSigEquationSpec)) fnSigEquationUptoCard
end Rows
end Go.Proofs.YtapejbpgdjbjjaaGreatDoor
