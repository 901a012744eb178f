/-
  DERIVED. GIVEN WITH THE SEED: THE CARDS: each row of YtclmhdhblghfnaaDoorRows.lean that lists a variable, with what it lists TIED to the program's text (the seventh form; the later family's looks); each row that meets fmt, with fmt's text TOLD by the authors' own Lean function (tested against real Go, not proved from fmt's source: count such statements apart). THE CARD IS WHAT COUNTS. Prove the row's statement (the work); the ties are given (YtclmhdhblghfnaaDoorTie.lean); close each card by the builder's one call (the guide's Derived/Test/ToyasCard.lean, 'card_holds'). Laid BY PROGRAM, IN A SANDBOX (cutbox-door.mjs). By AI agents, Wed Nov 11 2026. No macro, syntax, notation, axiom, sorry.
-/
import Derived.Test.YtclmhdhblghfnaaDoorRows
import GoSem.ClaimSeven
namespace Go.Proofs.YtclmhdhblghfnaaDoor
namespace Rows

/-- THE TIED CARD OF 'laws.FnExactVerifySig'. -/
def fnExactVerifySigCard : Claim7 := { stood := { row := fnExactVerifySigRow, standIns := [], harness := (true, "4acdc98fcb64bc04a5d20c7ab9c9c017d531782e92ca5071d3c747108274316f"), looks := false }, kinds := [], alts := [], laidByText := true, laidKinds := [.data], laidTests := true, laidLooks := .later }
def FnExactVerifySigCardSaid : Prop := Claim7.holds Tryd.pinned (.plain (OpenSpec.ofChange fnExactVerifySigSpec)) fnExactVerifySigCard

/-- THE SECOND FORM's CARD OF 'laws.FnExactVerifySig'. -/
def fnExactVerifySigUptoCard : Claim7 := { stood := { row := fnExactVerifySigUptoRow, standIns := [], harness := (true, "4acdc98fcb64bc04a5d20c7ab9c9c017d531782e92ca5071d3c747108274316f"), looks := false }, kinds := [], alts := [], laidByText := true, laidKinds := [.data], laidTests := true, laidLooks := .later }
def FnExactVerifySigUptoCardSaid : Prop := Claim7.holds Tryd.pinned (.plain (OpenSpec.upto fnExactVerifySigSpec)) fnExactVerifySigUptoCard
end Rows
end Go.Proofs.YtclmhdhblghfnaaDoor
