/-
  DERIVED. GIVEN WITH THE SEED: THE CARDS: each row of YtjdhhgaelgemcaaGreatDoorRows.lean that lists a variable, with what it lists TIED to the program's text (the seventh form; the later family's looks); each row that meets fmt, with fmt's text TOLD by the authors' own Lean function (tested against real Go, not proved from fmt's source: count such statements apart). THE CARD IS WHAT COUNTS. Prove the row's statement (the work); the ties are given (YtjdhhgaelgemcaaGreatDoorTie.lean); close each card by the builder's one call (the guide's Derived/Test/ToyasCard.lean, 'card_holds'). Laid BY PROGRAM, IN A SANDBOX (cutbox-door.mjs). By AI agents, Wed Nov 11 2026. No macro, syntax, notation, axiom, sorry.
-/
import Derived.Test.YtjdhhgaelgemcaaGreatDoorRows
import GoSem.ClaimSeven
namespace Go.Proofs.YtjdhhgaelgemcaaGreatDoor
namespace Rows

/-- THE TIED CARD OF 'laws.FnExactStepState'. -/
def fnExactStepStateCard : Claim7 := { stood := { row := fnExactStepStateRow, standIns := [], harness := (true, "2154f4576e33fbd1799c6876cf53d2cbc1619c75ad98a1b86037a81f66bbc2ba"), looks := true }, kinds := [], alts := [], laidByText := true, laidKinds := [.handle, .data], laidTests := true, laidLooks := .later }
def FnExactStepStateCardSaid : Prop := Claim7.holds Tryz.pinned (.plain (OpenSpec.ofChange fnExactStepStateSpec)) fnExactStepStateCard

/-- THE SECOND FORM's CARD OF 'laws.FnExactStepState'. -/
def fnExactStepStateUptoCard : Claim7 := { stood := { row := fnExactStepStateUptoRow, standIns := [], harness := (true, "2154f4576e33fbd1799c6876cf53d2cbc1619c75ad98a1b86037a81f66bbc2ba"), looks := true }, kinds := [], alts := [], laidByText := true, laidKinds := [.handle, .data], laidTests := true, laidLooks := .later }
def FnExactStepStateUptoCardSaid : Prop := Claim7.holds Tryz.pinned (.plain (OpenSpec.upto fnExactStepStateSpec)) fnExactStepStateUptoCard
end Rows
end Go.Proofs.YtjdhhgaelgemcaaGreatDoor
