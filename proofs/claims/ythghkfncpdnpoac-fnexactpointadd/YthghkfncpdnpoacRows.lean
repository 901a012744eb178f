/-
  No cell of these rows narrows 'for every input' (looked for: loops, veiled, ifaces, maps, wideKeys, modest, calm, conditions, laid).
  DERIVED. THE GIVEN ROWS OF THIS SEAT. 6 by the template 'for every input the law returns true; each argument reads behind the call as it read before'; 0 by the template 'total and deterministic' (their statements: YthghkfncpdnpoacTotals.lean).
  GIVEN WITH THE SEED: the statements are not yours to turn. If you find one false, say at which input.
  Laid BY PROGRAM, IN A SANDBOX (cutbox-rows.mjs): the forced cells as the released guide's own fill.sh prints them over the translation 5bbb0ba4308541db… (all of the seat's roots in one cut). By AI agents, Wed Nov 11 2026. No macro, syntax, notation, axiom, sorry.
-/
import Derived.Test.YthghkfncpdnpoacChecked
import GoSem.Claim
import GoSem.ClaimJoined
import GoSem.ClaimMapViews
import Derived.JoinedTies
import Derived.KernelRfl
namespace Go.Proofs.Ythghkfncpdnpoac
/- THE CELL 'sum', in the pinned program and in every row, IS THE sha256 OF THE DUMP (.gsa) THAT YthghkfncpdnpoacProg.lean LOADS. Nothing in Lean hashes anything: it is a label: what it is worth is what the hold of that sum in a sandbox is worth. -/
noncomputable def Try.pinned : Pinned := { name := "ythghkfncpdnpoac", sum := "5bbb0ba4308541db6738bd3ce522dcd91b0dc95f9e843fa536baa3ac35821e1e", checked := Try.checked }
namespace Rows
def none {H : Type} : Left H := { results := [], args := [] }

/-- 'laws.FnFrame': WHATEVER THE INPUT: true; the input reads as it did. -/
def fnFrameSpec : ChangeSpec := { name := "fnFrame", fn := fun _ => fun
  | [d1, d2] => { results := [.lit (.bool true)], args := [d1, d2] }
  | _ => none }
def fnFrameRow : OpenClaim := { program := "ythghkfncpdnpoac", sum := "5bbb0ba4308541db6738bd3ce522dcd91b0dc95f9e843fa536baa3ac35821e1e", func := "loop.example/s02127/laws.FnFrame", spec := "fnFrame", apart := false }
def FnFrameSaid : Prop := fnFrameRow.holds Try.pinned (OpenSpec.ofChange fnFrameSpec)

/-- ITS FALSE NEIGHBOUR: 'it returns false'. Refute it at one input. -/
def fnFrameWrong : ChangeSpec := { name := "fnFrame", fn := fun _ => fun
  | [d1, d2] => { results := [.lit (.bool false)], args := [d1, d2] }
  | _ => none }
def FnFrameWrongFalsely : Prop := fnFrameRow.holds Try.pinned (OpenSpec.ofChange fnFrameWrong)

/-- 'laws.FnExactPointOk': WHATEVER THE INPUT: true; the input reads as it did. -/
def fnExactPointOkSpec : ChangeSpec := { name := "fnExactPointOk", fn := fun _ => fun
  | [d] => { results := [.lit (.bool true)], args := [d] }
  | _ => none }
def fnExactPointOkRow : OpenClaim := { program := "ythghkfncpdnpoac", sum := "5bbb0ba4308541db6738bd3ce522dcd91b0dc95f9e843fa536baa3ac35821e1e", func := "loop.example/s02127/laws.FnExactPointOk", spec := "fnExactPointOk", inPlace := ["math/bits.Add64"], recurses := true, apart := false }
def FnExactPointOkSaid : Prop := fnExactPointOkRow.holds Try.pinned (OpenSpec.ofChange fnExactPointOkSpec)

/-- ITS FALSE NEIGHBOUR: 'it returns false'. Refute it at one input. -/
def fnExactPointOkWrong : ChangeSpec := { name := "fnExactPointOk", fn := fun _ => fun
  | [d] => { results := [.lit (.bool false)], args := [d] }
  | _ => none }
def FnExactPointOkWrongFalsely : Prop := fnExactPointOkRow.holds Try.pinned (OpenSpec.ofChange fnExactPointOkWrong)

/-- 'laws.FnExactDevRead': WHATEVER THE INPUT: true; the input reads as it did. -/
def fnExactDevReadSpec : ChangeSpec := { name := "fnExactDevRead", fn := fun _ => fun
  | [d1, d2] => { results := [.lit (.bool true)], args := [d1, d2] }
  | _ => none }
def fnExactDevReadRow : OpenClaim := { program := "ythghkfncpdnpoac", sum := "5bbb0ba4308541db6738bd3ce522dcd91b0dc95f9e843fa536baa3ac35821e1e", func := "loop.example/s02127/laws.FnExactDevRead", spec := "fnExactDevRead", apart := false }
def FnExactDevReadSaid : Prop := fnExactDevReadRow.holds Try.pinned (OpenSpec.ofChange fnExactDevReadSpec)

/-- ITS FALSE NEIGHBOUR: 'it returns false'. Refute it at one input. -/
def fnExactDevReadWrong : ChangeSpec := { name := "fnExactDevRead", fn := fun _ => fun
  | [d1, d2] => { results := [.lit (.bool false)], args := [d1, d2] }
  | _ => none }
def FnExactDevReadWrongFalsely : Prop := fnExactDevReadRow.holds Try.pinned (OpenSpec.ofChange fnExactDevReadWrong)

/-- 'laws.FnExactPointAdd': WHATEVER THE INPUT: true; the input reads as it did. -/
def fnExactPointAddSpec : ChangeSpec := { name := "fnExactPointAdd", fn := fun _ => fun
  | [d1, d2] => { results := [.lit (.bool true)], args := [d1, d2] }
  | _ => none }
def fnExactPointAddRow : OpenClaim := { program := "ythghkfncpdnpoac", sum := "5bbb0ba4308541db6738bd3ce522dcd91b0dc95f9e843fa536baa3ac35821e1e", func := "loop.example/s02127/laws.FnExactPointAdd", spec := "fnExactPointAdd", inPlace := ["math/bits.Add64"], recurses := true, apart := false }
def FnExactPointAddSaid : Prop := fnExactPointAddRow.holds Try.pinned (OpenSpec.ofChange fnExactPointAddSpec)

/-- ITS FALSE NEIGHBOUR: 'it returns false'. Refute it at one input. -/
def fnExactPointAddWrong : ChangeSpec := { name := "fnExactPointAdd", fn := fun _ => fun
  | [d1, d2] => { results := [.lit (.bool false)], args := [d1, d2] }
  | _ => none }
def FnExactPointAddWrongFalsely : Prop := fnExactPointAddRow.holds Try.pinned (OpenSpec.ofChange fnExactPointAddWrong)

/-- 'laws.FnExactPointMul': WHATEVER THE INPUT: true; the input reads as it did. -/
def fnExactPointMulSpec : ChangeSpec := { name := "fnExactPointMul", fn := fun _ => fun
  | [d1, d2] => { results := [.lit (.bool true)], args := [d1, d2] }
  | _ => none }
def fnExactPointMulRow : OpenClaim := { program := "ythghkfncpdnpoac", sum := "5bbb0ba4308541db6738bd3ce522dcd91b0dc95f9e843fa536baa3ac35821e1e", func := "loop.example/s02127/laws.FnExactPointMul", spec := "fnExactPointMul", inPlace := ["math/bits.Add64"], recurses := true, apart := false }
def FnExactPointMulSaid : Prop := fnExactPointMulRow.holds Try.pinned (OpenSpec.ofChange fnExactPointMulSpec)

/-- ITS FALSE NEIGHBOUR: 'it returns false'. Refute it at one input. -/
def fnExactPointMulWrong : ChangeSpec := { name := "fnExactPointMul", fn := fun _ => fun
  | [d1, d2] => { results := [.lit (.bool false)], args := [d1, d2] }
  | _ => none }
def FnExactPointMulWrongFalsely : Prop := fnExactPointMulRow.holds Try.pinned (OpenSpec.ofChange fnExactPointMulWrong)

/-- 'laws.FnExactEncodeSnap': WHATEVER THE INPUT: true; the input reads as it did. -/
def fnExactEncodeSnapSpec : ChangeSpec := { name := "fnExactEncodeSnap", fn := fun _ => fun
  | [d] => { results := [.lit (.bool true)], args := [d] }
  | _ => none }
def fnExactEncodeSnapRow : OpenClaim := { program := "ythghkfncpdnpoac", sum := "5bbb0ba4308541db6738bd3ce522dcd91b0dc95f9e843fa536baa3ac35821e1e", func := "loop.example/s02127/laws.FnExactEncodeSnap", spec := "fnExactEncodeSnap", apart := false }
def FnExactEncodeSnapSaid : Prop := fnExactEncodeSnapRow.holds Try.pinned (OpenSpec.ofChange fnExactEncodeSnapSpec)

/-- ITS FALSE NEIGHBOUR: 'it returns false'. Refute it at one input. -/
def fnExactEncodeSnapWrong : ChangeSpec := { name := "fnExactEncodeSnap", fn := fun _ => fun
  | [d] => { results := [.lit (.bool false)], args := [d] }
  | _ => none }
def FnExactEncodeSnapWrongFalsely : Prop := fnExactEncodeSnapRow.holds Try.pinned (OpenSpec.ofChange fnExactEncodeSnapWrong)

/- THE SECOND FORM. 'bulk': how many values and letters a reading holds, each counted each time it is reached (what is shared counts as often as it is met; a slice's spare places count too). A statement '..UptoSaid' is the law's where the arguments, and the package variables that the reading takes, are together of bulk at most 1048576: NARROWER than '..Said'. Prove '..Said' where nothing that the law and all that it calls make is longer than what came in: it says more and counts as full. Else prove '..UptoSaid'. A law counts once. -/
mutual
def uptoBulk {H : Type} : DataW H → Nat
  | .lit (.string bytes) => bytes.length + 1
  | .lit _ => 1
  | .nil => 1
  | .ptr d => uptoBulk d + 1
  | .slice elems spare => uptoBulkAll elems + uptoBulkAll spare + 1
  | .agg parts => uptoBulkAll parts + 1
  | .iface _ d => uptoBulk d + 1
  | .map entries => uptoBulkEntries entries + 1
  | .held _ => 1
def uptoBulkAll {H : Type} : List (DataW H) → Nat
  | [] => 0
  | d :: r => uptoBulk d + uptoBulkAll r
def uptoBulkEntries {H : Type} : List (Lit × DataW H) → Nat
  | [] => 0
  | x :: r => uptoBulkEntry x + uptoBulkEntries r
def uptoBulkEntry {H : Type} : Lit × DataW H → Nat
  | (.string bytes, d) => bytes.length + uptoBulk d + 1
  | (_, d) => uptoBulk d + 1
 end
def uptoSmall : (H : Type) → List (DataW H) → Bool := fun _ ds => decide (uptoBulkAll ds ≤ 1048576)
def OpenSpec.upto (s : _root_.Go.ChangeSpec) : _root_.Go.OpenSpec := { _root_.Go.OpenSpec.ofChange s with cond := some uptoSmall }

/-- 'laws.FnFrame', WHERE WHAT IT READS IS OF BULK AT MOST 1048576: true; the input reads as it did. -/
def fnFrameUptoRow : OpenClaim := { program := "ythghkfncpdnpoac", sum := "5bbb0ba4308541db6738bd3ce522dcd91b0dc95f9e843fa536baa3ac35821e1e", func := "loop.example/s02127/laws.FnFrame", spec := "fnFrame", apart := false, narrowed := true }
def FnFrameUptoSaid : Prop := fnFrameUptoRow.holds Try.pinned (OpenSpec.upto fnFrameSpec)

/-- 'laws.FnExactPointOk', WHERE WHAT IT READS IS OF BULK AT MOST 1048576: true; the input reads as it did. -/
def fnExactPointOkUptoRow : OpenClaim := { program := "ythghkfncpdnpoac", sum := "5bbb0ba4308541db6738bd3ce522dcd91b0dc95f9e843fa536baa3ac35821e1e", func := "loop.example/s02127/laws.FnExactPointOk", spec := "fnExactPointOk", inPlace := ["math/bits.Add64"], recurses := true, apart := false, narrowed := true }
def FnExactPointOkUptoSaid : Prop := fnExactPointOkUptoRow.holds Try.pinned (OpenSpec.upto fnExactPointOkSpec)

/-- 'laws.FnExactDevRead', WHERE WHAT IT READS IS OF BULK AT MOST 1048576: true; the input reads as it did. -/
def fnExactDevReadUptoRow : OpenClaim := { program := "ythghkfncpdnpoac", sum := "5bbb0ba4308541db6738bd3ce522dcd91b0dc95f9e843fa536baa3ac35821e1e", func := "loop.example/s02127/laws.FnExactDevRead", spec := "fnExactDevRead", apart := false, narrowed := true }
def FnExactDevReadUptoSaid : Prop := fnExactDevReadUptoRow.holds Try.pinned (OpenSpec.upto fnExactDevReadSpec)

/-- 'laws.FnExactPointAdd', WHERE WHAT IT READS IS OF BULK AT MOST 1048576: true; the input reads as it did. -/
def fnExactPointAddUptoRow : OpenClaim := { program := "ythghkfncpdnpoac", sum := "5bbb0ba4308541db6738bd3ce522dcd91b0dc95f9e843fa536baa3ac35821e1e", func := "loop.example/s02127/laws.FnExactPointAdd", spec := "fnExactPointAdd", inPlace := ["math/bits.Add64"], recurses := true, apart := false, narrowed := true }
def FnExactPointAddUptoSaid : Prop := fnExactPointAddUptoRow.holds Try.pinned (OpenSpec.upto fnExactPointAddSpec)

/-- 'laws.FnExactPointMul', WHERE WHAT IT READS IS OF BULK AT MOST 1048576: true; the input reads as it did. -/
def fnExactPointMulUptoRow : OpenClaim := { program := "ythghkfncpdnpoac", sum := "5bbb0ba4308541db6738bd3ce522dcd91b0dc95f9e843fa536baa3ac35821e1e", func := "loop.example/s02127/laws.FnExactPointMul", spec := "fnExactPointMul", inPlace := ["math/bits.Add64"], recurses := true, apart := false, narrowed := true }
def FnExactPointMulUptoSaid : Prop := fnExactPointMulUptoRow.holds Try.pinned (OpenSpec.upto fnExactPointMulSpec)

/-- 'laws.FnExactEncodeSnap', WHERE WHAT IT READS IS OF BULK AT MOST 1048576: true; the input reads as it did. -/
def fnExactEncodeSnapUptoRow : OpenClaim := { program := "ythghkfncpdnpoac", sum := "5bbb0ba4308541db6738bd3ce522dcd91b0dc95f9e843fa536baa3ac35821e1e", func := "loop.example/s02127/laws.FnExactEncodeSnap", spec := "fnExactEncodeSnap", apart := false, narrowed := true }
def FnExactEncodeSnapUptoSaid : Prop := fnExactEncodeSnapUptoRow.holds Try.pinned (OpenSpec.upto fnExactEncodeSnapSpec)

end Rows
end Go.Proofs.Ythghkfncpdnpoac
