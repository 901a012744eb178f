/-
  No cell of these rows narrows 'for every input' (looked for: loops, veiled, ifaces, maps, wideKeys, modest, calm, conditions, laid).
  DERIVED. THE GIVEN ROWS OF THIS SEAT. 5 by the template 'for every input the law returns true; each argument reads behind the call as it read before'; 0 by the template 'total and deterministic' (their statements: YthghkfncpdnpoaaTotals.lean).
  GIVEN WITH THE SEED: the statements are not yours to turn. If you find one false, say at which input.
  Laid BY PROGRAM, IN A SANDBOX (cutbox-rows.mjs): the forced cells as the released guide's own fill.sh prints them over the translation e74bf0061a86be35… (all of the seat's roots in one cut). By AI agents, Wed Nov 11 2026. No macro, syntax, notation, axiom, sorry.
-/
import Derived.Test.YthghkfncpdnpoaaChecked
import GoSem.Claim
import GoSem.ClaimJoined
import GoSem.ClaimMapViews
import Derived.JoinedTies
import Derived.KernelRfl
namespace Go.Proofs.Ythghkfncpdnpoaa
/- THE CELL 'sum', in the pinned program and in every row, IS THE sha256 OF THE DUMP (.gsa) THAT YthghkfncpdnpoaaProg.lean LOADS. Nothing in Lean hashes anything: it is a label: what it is worth is what the hold of that sum in a sandbox is worth. -/
noncomputable def Try.pinned : Pinned := { name := "ythghkfncpdnpoaa", sum := "e74bf0061a86be355e1c549a1c4eb759e9466fbf77938920d63961c3d5f089b5", checked := Try.checked }
namespace Rows
def none {H : Type} : Left H := { results := [], args := [] }

/-- 'laws.FnExactCrc32': WHATEVER THE INPUT: true; the input reads as it did. -/
def fnExactCrc32Spec : ChangeSpec := { name := "fnExactCrc32", fn := fun _ => fun
  | [d] => { results := [.lit (.bool true)], args := [d] }
  | _ => none }
def fnExactCrc32Row : OpenClaim := { program := "ythghkfncpdnpoaa", sum := "e74bf0061a86be355e1c549a1c4eb759e9466fbf77938920d63961c3d5f089b5", func := "loop.example/s02127/laws.FnExactCrc32", spec := "fnExactCrc32", apart := false }
def FnExactCrc32Said : Prop := fnExactCrc32Row.holds Try.pinned (OpenSpec.ofChange fnExactCrc32Spec)

/-- ITS FALSE NEIGHBOUR: 'it returns false'. Refute it at one input. -/
def fnExactCrc32Wrong : ChangeSpec := { name := "fnExactCrc32", fn := fun _ => fun
  | [d] => { results := [.lit (.bool false)], args := [d] }
  | _ => none }
def FnExactCrc32WrongFalsely : Prop := fnExactCrc32Row.holds Try.pinned (OpenSpec.ofChange fnExactCrc32Wrong)

/-- 'laws.FnExactScalarOk': WHATEVER THE INPUT: true; the input reads as it did. -/
def fnExactScalarOkSpec : ChangeSpec := { name := "fnExactScalarOk", fn := fun _ => fun
  | [d] => { results := [.lit (.bool true)], args := [d] }
  | _ => none }
def fnExactScalarOkRow : OpenClaim := { program := "ythghkfncpdnpoaa", sum := "e74bf0061a86be355e1c549a1c4eb759e9466fbf77938920d63961c3d5f089b5", func := "loop.example/s02127/laws.FnExactScalarOk", spec := "fnExactScalarOk", inPlace := ["math/bits.Sub64"], apart := false }
def FnExactScalarOkSaid : Prop := fnExactScalarOkRow.holds Try.pinned (OpenSpec.ofChange fnExactScalarOkSpec)

/-- ITS FALSE NEIGHBOUR: 'it returns false'. Refute it at one input. -/
def fnExactScalarOkWrong : ChangeSpec := { name := "fnExactScalarOk", fn := fun _ => fun
  | [d] => { results := [.lit (.bool false)], args := [d] }
  | _ => none }
def FnExactScalarOkWrongFalsely : Prop := fnExactScalarOkRow.holds Try.pinned (OpenSpec.ofChange fnExactScalarOkWrong)

/-- 'laws.FnExactParseTicket': WHATEVER THE INPUT: true; the input reads as it did. -/
def fnExactParseTicketSpec : ChangeSpec := { name := "fnExactParseTicket", fn := fun _ => fun
  | [d] => { results := [.lit (.bool true)], args := [d] }
  | _ => none }
def fnExactParseTicketRow : OpenClaim := { program := "ythghkfncpdnpoaa", sum := "e74bf0061a86be355e1c549a1c4eb759e9466fbf77938920d63961c3d5f089b5", func := "loop.example/s02127/laws.FnExactParseTicket", spec := "fnExactParseTicket", apart := false }
def FnExactParseTicketSaid : Prop := fnExactParseTicketRow.holds Try.pinned (OpenSpec.ofChange fnExactParseTicketSpec)

/-- ITS FALSE NEIGHBOUR: 'it returns false'. Refute it at one input. -/
def fnExactParseTicketWrong : ChangeSpec := { name := "fnExactParseTicket", fn := fun _ => fun
  | [d] => { results := [.lit (.bool false)], args := [d] }
  | _ => none }
def FnExactParseTicketWrongFalsely : Prop := fnExactParseTicketRow.holds Try.pinned (OpenSpec.ofChange fnExactParseTicketWrong)

/-- 'laws.FnExactReduceScalar': WHATEVER THE INPUT: true; the input reads as it did. -/
def fnExactReduceScalarSpec : ChangeSpec := { name := "fnExactReduceScalar", fn := fun _ => fun
  | [d] => { results := [.lit (.bool true)], args := [d] }
  | _ => none }
def fnExactReduceScalarRow : OpenClaim := { program := "ythghkfncpdnpoaa", sum := "e74bf0061a86be355e1c549a1c4eb759e9466fbf77938920d63961c3d5f089b5", func := "loop.example/s02127/laws.FnExactReduceScalar", spec := "fnExactReduceScalar", inPlace := ["math/bits.Sub64"], apart := false }
def FnExactReduceScalarSaid : Prop := fnExactReduceScalarRow.holds Try.pinned (OpenSpec.ofChange fnExactReduceScalarSpec)

/-- ITS FALSE NEIGHBOUR: 'it returns false'. Refute it at one input. -/
def fnExactReduceScalarWrong : ChangeSpec := { name := "fnExactReduceScalar", fn := fun _ => fun
  | [d] => { results := [.lit (.bool false)], args := [d] }
  | _ => none }
def FnExactReduceScalarWrongFalsely : Prop := fnExactReduceScalarRow.holds Try.pinned (OpenSpec.ofChange fnExactReduceScalarWrong)

/-- 'laws.FnExactEncodeFrame': WHATEVER THE INPUT: true; the input reads as it did. -/
def fnExactEncodeFrameSpec : ChangeSpec := { name := "fnExactEncodeFrame", fn := fun _ => fun
  | [d] => { results := [.lit (.bool true)], args := [d] }
  | _ => none }
def fnExactEncodeFrameRow : OpenClaim := { program := "ythghkfncpdnpoaa", sum := "e74bf0061a86be355e1c549a1c4eb759e9466fbf77938920d63961c3d5f089b5", func := "loop.example/s02127/laws.FnExactEncodeFrame", spec := "fnExactEncodeFrame", apart := false }
def FnExactEncodeFrameSaid : Prop := fnExactEncodeFrameRow.holds Try.pinned (OpenSpec.ofChange fnExactEncodeFrameSpec)

/-- ITS FALSE NEIGHBOUR: 'it returns false'. Refute it at one input. -/
def fnExactEncodeFrameWrong : ChangeSpec := { name := "fnExactEncodeFrame", fn := fun _ => fun
  | [d] => { results := [.lit (.bool false)], args := [d] }
  | _ => none }
def FnExactEncodeFrameWrongFalsely : Prop := fnExactEncodeFrameRow.holds Try.pinned (OpenSpec.ofChange fnExactEncodeFrameWrong)

/- THE SECOND FORM. 'bulk': how many values and letters a reading holds, each counted each time it is reached (what is shared counts as often as it is met; a slice's spare places count too). A statement '..UptoSaid' is the law's where the arguments, and the package variables that the reading takes, are together of bulk at most 1048576: NARROWER than '..Said'. Prove '..Said' where nothing that the law and all that it calls make is longer than what came in: it says more and counts as full. Else prove '..UptoSaid'. A law counts once. -/
mutual
def uptoBulk {H : Type} : DataW H → Nat
  | .lit (.string bytes) => bytes.length + 1
  | .lit _ => 1
  | .nil => 1
  | .ptr d => uptoBulk d + 1
  | .slice elems spare => uptoBulkAll elems + uptoBulkAll spare + 1
  | .agg parts => uptoBulkAll parts + 1
  | .iface _ d => uptoBulk d + 1
  | .map entries => uptoBulkEntries entries + 1
  | .held _ => 1
def uptoBulkAll {H : Type} : List (DataW H) → Nat
  | [] => 0
  | d :: r => uptoBulk d + uptoBulkAll r
def uptoBulkEntries {H : Type} : List (Lit × DataW H) → Nat
  | [] => 0
  | x :: r => uptoBulkEntry x + uptoBulkEntries r
def uptoBulkEntry {H : Type} : Lit × DataW H → Nat
  | (.string bytes, d) => bytes.length + uptoBulk d + 1
  | (_, d) => uptoBulk d + 1
 end
def uptoSmall : (H : Type) → List (DataW H) → Bool := fun _ ds => decide (uptoBulkAll ds ≤ 1048576)
def OpenSpec.upto (s : _root_.Go.ChangeSpec) : _root_.Go.OpenSpec := { _root_.Go.OpenSpec.ofChange s with cond := some uptoSmall }

/-- 'laws.FnExactCrc32', WHERE WHAT IT READS IS OF BULK AT MOST 1048576: true; the input reads as it did. -/
def fnExactCrc32UptoRow : OpenClaim := { program := "ythghkfncpdnpoaa", sum := "e74bf0061a86be355e1c549a1c4eb759e9466fbf77938920d63961c3d5f089b5", func := "loop.example/s02127/laws.FnExactCrc32", spec := "fnExactCrc32", apart := false, narrowed := true }
def FnExactCrc32UptoSaid : Prop := fnExactCrc32UptoRow.holds Try.pinned (OpenSpec.upto fnExactCrc32Spec)

/-- 'laws.FnExactScalarOk', WHERE WHAT IT READS IS OF BULK AT MOST 1048576: true; the input reads as it did. -/
def fnExactScalarOkUptoRow : OpenClaim := { program := "ythghkfncpdnpoaa", sum := "e74bf0061a86be355e1c549a1c4eb759e9466fbf77938920d63961c3d5f089b5", func := "loop.example/s02127/laws.FnExactScalarOk", spec := "fnExactScalarOk", inPlace := ["math/bits.Sub64"], apart := false, narrowed := true }
def FnExactScalarOkUptoSaid : Prop := fnExactScalarOkUptoRow.holds Try.pinned (OpenSpec.upto fnExactScalarOkSpec)

/-- 'laws.FnExactParseTicket', WHERE WHAT IT READS IS OF BULK AT MOST 1048576: true; the input reads as it did. -/
def fnExactParseTicketUptoRow : OpenClaim := { program := "ythghkfncpdnpoaa", sum := "e74bf0061a86be355e1c549a1c4eb759e9466fbf77938920d63961c3d5f089b5", func := "loop.example/s02127/laws.FnExactParseTicket", spec := "fnExactParseTicket", apart := false, narrowed := true }
def FnExactParseTicketUptoSaid : Prop := fnExactParseTicketUptoRow.holds Try.pinned (OpenSpec.upto fnExactParseTicketSpec)

/-- 'laws.FnExactReduceScalar', WHERE WHAT IT READS IS OF BULK AT MOST 1048576: true; the input reads as it did. -/
def fnExactReduceScalarUptoRow : OpenClaim := { program := "ythghkfncpdnpoaa", sum := "e74bf0061a86be355e1c549a1c4eb759e9466fbf77938920d63961c3d5f089b5", func := "loop.example/s02127/laws.FnExactReduceScalar", spec := "fnExactReduceScalar", inPlace := ["math/bits.Sub64"], apart := false, narrowed := true }
def FnExactReduceScalarUptoSaid : Prop := fnExactReduceScalarUptoRow.holds Try.pinned (OpenSpec.upto fnExactReduceScalarSpec)

/-- 'laws.FnExactEncodeFrame', WHERE WHAT IT READS IS OF BULK AT MOST 1048576: true; the input reads as it did. -/
def fnExactEncodeFrameUptoRow : OpenClaim := { program := "ythghkfncpdnpoaa", sum := "e74bf0061a86be355e1c549a1c4eb759e9466fbf77938920d63961c3d5f089b5", func := "loop.example/s02127/laws.FnExactEncodeFrame", spec := "fnExactEncodeFrame", apart := false, narrowed := true }
def FnExactEncodeFrameUptoSaid : Prop := fnExactEncodeFrameUptoRow.holds Try.pinned (OpenSpec.upto fnExactEncodeFrameSpec)

end Rows
end Go.Proofs.Ythghkfncpdnpoaa
