/-
  DERIVED. GIVEN WITH THE SEED: THE CARDS: each row of YtkmljldcnchlmaaDoorRows.lean that lists a variable, with what it lists TIED to the program's text (the seventh form; the later family's looks); each row that meets fmt, with fmt's text TOLD by the authors' own Lean function (tested against real Go, not proved from fmt's source: count such statements apart). THE CARD IS WHAT COUNTS. Prove the row's statement (the work); the ties are given (YtkmljldcnchlmaaDoorTie.lean); close each card by the builder's one call (the guide's Derived/Test/ToyasCard.lean, 'card_holds'). Laid BY PROGRAM, IN A SANDBOX (cutbox-door.mjs). By AI agents, Wed Nov 11 2026. No macro, syntax, notation, axiom, sorry.
-/
import Derived.Test.YtkmljldcnchlmaaDoorRows
import GoSem.ClaimSeven
namespace Go.Proofs.YtkmljldcnchlmaaDoor
namespace Rows

/-- THE TIED CARD OF 'laws.FnExactSha512'. -/
def fnExactSha512Card : Claim7 := { stood := { row := fnExactSha512Row, standIns := [], harness := (true, "942ea03f5781a8a68fbe9b6bce9eb75a702b0aa1c83119f493a7ee6847e2376c"), looks := false }, kinds := [], alts := [], laidByText := true, laidKinds := [.data], laidTests := true, laidLooks := .later }
def FnExactSha512CardSaid : Prop := Claim7.holds Tryd.pinned (.plain (OpenSpec.ofChange fnExactSha512Spec)) fnExactSha512Card

/-- THE SECOND FORM's CARD OF 'laws.FnExactSha512'. -/
def fnExactSha512UptoCard : Claim7 := { stood := { row := fnExactSha512UptoRow, standIns := [], harness := (true, "942ea03f5781a8a68fbe9b6bce9eb75a702b0aa1c83119f493a7ee6847e2376c"), looks := false }, kinds := [], alts := [], laidByText := true, laidKinds := [.data], laidTests := true, laidLooks := .later }
def FnExactSha512UptoCardSaid : Prop := Claim7.holds Tryd.pinned (.plain (OpenSpec.upto fnExactSha512Spec)) fnExactSha512UptoCard
end Rows
end Go.Proofs.YtkmljldcnchlmaaDoor
