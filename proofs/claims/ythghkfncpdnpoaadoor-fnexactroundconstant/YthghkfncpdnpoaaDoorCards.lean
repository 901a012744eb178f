/-
  DERIVED. GIVEN WITH THE SEED: THE CARDS: each row of YthghkfncpdnpoaaDoorRows.lean that lists a variable, with what it lists TIED to the program's text (the seventh form; the later family's looks); each row that meets fmt, with fmt's text TOLD by the authors' own Lean function (tested against real Go, not proved from fmt's source: count such statements apart). THE CARD IS WHAT COUNTS. Prove the row's statement (the work); the ties are given (YthghkfncpdnpoaaDoorTie.lean); close each card by the builder's one call (the guide's Derived/Test/ToyasCard.lean, 'card_holds'). Laid BY PROGRAM, IN A SANDBOX (cutbox-door.mjs). By AI agents, Wed Nov 11 2026. No macro, syntax, notation, axiom, sorry.
-/
import Derived.Test.YthghkfncpdnpoaaDoorRows
import GoSem.ClaimSeven
namespace Go.Proofs.YthghkfncpdnpoaaDoor
namespace Rows

/-- THE TIED CARD OF 'laws.FnExactRoundConstant'. -/
def fnExactRoundConstantCard : Claim7 := { stood := { row := fnExactRoundConstantRow, standIns := [], harness := (true, "0fe4f66f595c4c95bd5a08760466032bb66b8981c40cba9fb07dcb0c9468d9b6"), looks := false }, kinds := [], alts := [], laidByText := true, laidKinds := [.data], laidTests := true, laidLooks := .later }
def FnExactRoundConstantCardSaid : Prop := Claim7.holds Tryd.pinned (.plain (OpenSpec.ofChange fnExactRoundConstantSpec)) fnExactRoundConstantCard

/-- THE SECOND FORM's CARD OF 'laws.FnExactRoundConstant'. -/
def fnExactRoundConstantUptoCard : Claim7 := { stood := { row := fnExactRoundConstantUptoRow, standIns := [], harness := (true, "0fe4f66f595c4c95bd5a08760466032bb66b8981c40cba9fb07dcb0c9468d9b6"), looks := false }, kinds := [], alts := [], laidByText := true, laidKinds := [.data], laidTests := true, laidLooks := .later }
def FnExactRoundConstantUptoCardSaid : Prop := Claim7.holds Tryd.pinned (.plain (OpenSpec.upto fnExactRoundConstantSpec)) fnExactRoundConstantUptoCard
end Rows
end Go.Proofs.YthghkfncpdnpoaaDoor
