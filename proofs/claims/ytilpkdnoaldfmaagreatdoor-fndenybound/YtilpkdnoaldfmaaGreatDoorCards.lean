/-
  DERIVED. GIVEN WITH THE SEED: THE CARDS: each row of YtilpkdnoaldfmaaGreatDoorRows.lean that lists a variable, with what it lists TIED to the program's text (the seventh form; the later family's looks); each row that meets fmt, with fmt's text TOLD by the authors' own Lean function (tested against real Go, not proved from fmt's source: count such statements apart). THE CARD IS WHAT COUNTS. Prove the row's statement (the work); the ties are given (YtilpkdnoaldfmaaGreatDoorTie.lean); close each card by the builder's one call (the guide's Derived/Test/ToyasCard.lean, 'card_holds'). Laid BY PROGRAM, IN A SANDBOX (cutbox-door.mjs). By AI agents, Wed Nov 11 2026. No macro, syntax, notation, axiom, sorry.
-/
import Derived.Test.YtilpkdnoaldfmaaGreatDoorRows
import GoSem.ClaimSeven
namespace Go.Proofs.YtilpkdnoaldfmaaGreatDoor
namespace Rows

/-- THE TIED CARD OF 'laws.FnDenyBound'. -/
def fnDenyBoundCard : Claim7 := { stood := { row := fnDenyBoundRow, standIns := [], harness := (true, "fce24742dd0bcc9262bfd47bda926f8c23443f875c38453ab37f0fdd3bc5417d"), looks := true }, kinds := [], alts := [], laidByText := true, laidKinds := [.handle, .data], laidTests := true, laidLooks := .later }
def FnDenyBoundCardSaid : Prop := Claim7.holds Tryz.pinned (.plain (OpenSpec.ofChange fnDenyBoundSpec)) fnDenyBoundCard

/-- THE SECOND FORM's CARD OF 'laws.FnDenyBound'. -/
def fnDenyBoundUptoCard : Claim7 := { stood := { row := fnDenyBoundUptoRow, standIns := [], harness := (true, "fce24742dd0bcc9262bfd47bda926f8c23443f875c38453ab37f0fdd3bc5417d"), looks := true }, kinds := [], alts := [], laidByText := true, laidKinds := [.handle, .data], laidTests := true, laidLooks := .later }
def FnDenyBoundUptoCardSaid : Prop := Claim7.holds Tryz.pinned (.plain (OpenSpec.upto fnDenyBoundSpec)) fnDenyBoundUptoCard
end Rows
end Go.Proofs.YtilpkdnoaldfmaaGreatDoor
