/-
  No cell of these rows narrows 'for every input' (looked for: loops, veiled, ifaces, maps, wideKeys, modest, calm, conditions, laid).
  DERIVED. THE GIVEN ROWS OF THIS SEAT. 4 by the template 'for every input the law returns true; each argument reads behind the call as it read before'; 0 by the template 'total and deterministic' (their statements: YtdaglofgioehhaaTotals.lean).
  GIVEN WITH THE SEED: the statements are not yours to turn. If you find one false, say at which input.
  Laid BY PROGRAM, IN A SANDBOX (cutbox-rows.mjs): the forced cells as the released guide's own fill.sh prints them over the translation 29fcbcf9c763dc0e… (all of the seat's roots in one cut). By AI agents, Wed Nov 11 2026. No macro, syntax, notation, axiom, sorry.
-/
import Derived.Test.YtdaglofgioehhaaChecked
import GoSem.Claim
import GoSem.ClaimJoined
import GoSem.ClaimMapViews
import Derived.JoinedTies
import Derived.KernelRfl
namespace Go.Proofs.Ytdaglofgioehhaa
/- THE CELL 'sum', in the pinned program and in every row, IS THE sha256 OF THE DUMP (.gsa) THAT YtdaglofgioehhaaProg.lean LOADS. Nothing in Lean hashes anything: it is a label: what it is worth is what the hold of that sum in a sandbox is worth. -/
noncomputable def Try.pinned : Pinned := { name := "ytdaglofgioehhaa", sum := "29fcbcf9c763dc0ef2a565440961bbc5034ab52b419fe3ce35be4af38ec577dd", checked := Try.checked }
namespace Rows
def none {H : Type} : Left H := { results := [], args := [] }

/-- 'laws.FnExactReduceScalar': WHATEVER THE INPUT: true; the input reads as it did. -/
def fnExactReduceScalarSpec : ChangeSpec := { name := "fnExactReduceScalar", fn := fun _ => fun
  | [d] => { results := [.lit (.bool true)], args := [d] }
  | _ => none }
def fnExactReduceScalarRow : OpenClaim := { program := "ytdaglofgioehhaa", sum := "29fcbcf9c763dc0ef2a565440961bbc5034ab52b419fe3ce35be4af38ec577dd", func := "loop.example/s02127/laws.FnExactReduceScalar", spec := "fnExactReduceScalar", inPlace := ["math/bits.Sub64"], apart := false }
def FnExactReduceScalarSaid : Prop := fnExactReduceScalarRow.holds Try.pinned (OpenSpec.ofChange fnExactReduceScalarSpec)

/-- ITS FALSE NEIGHBOUR: 'it returns false'. Refute it at one input. -/
def fnExactReduceScalarWrong : ChangeSpec := { name := "fnExactReduceScalar", fn := fun _ => fun
  | [d] => { results := [.lit (.bool false)], args := [d] }
  | _ => none }
def FnExactReduceScalarWrongFalsely : Prop := fnExactReduceScalarRow.holds Try.pinned (OpenSpec.ofChange fnExactReduceScalarWrong)

/-- 'laws.FnReduce': WHATEVER THE INPUT: true; the input reads as it did. -/
def fnReduceSpec : ChangeSpec := { name := "fnReduce", fn := fun _ => fun
  | [d] => { results := [.lit (.bool true)], args := [d] }
  | _ => none }
def fnReduceRow : OpenClaim := { program := "ytdaglofgioehhaa", sum := "29fcbcf9c763dc0ef2a565440961bbc5034ab52b419fe3ce35be4af38ec577dd", func := "loop.example/s02127/laws.FnReduce", spec := "fnReduce", inPlace := ["math/bits.Sub64", "math/bits.Add64"], recurses := true, apart := false }
def FnReduceSaid : Prop := fnReduceRow.holds Try.pinned (OpenSpec.ofChange fnReduceSpec)

/-- ITS FALSE NEIGHBOUR: 'it returns false'. Refute it at one input. -/
def fnReduceWrong : ChangeSpec := { name := "fnReduce", fn := fun _ => fun
  | [d] => { results := [.lit (.bool false)], args := [d] }
  | _ => none }
def FnReduceWrongFalsely : Prop := fnReduceRow.holds Try.pinned (OpenSpec.ofChange fnReduceWrong)

/-- 'laws.FnExactPointMul': WHATEVER THE INPUT: true; the input reads as it did. -/
def fnExactPointMulSpec : ChangeSpec := { name := "fnExactPointMul", fn := fun _ => fun
  | [d1, d2] => { results := [.lit (.bool true)], args := [d1, d2] }
  | _ => none }
def fnExactPointMulRow : OpenClaim := { program := "ytdaglofgioehhaa", sum := "29fcbcf9c763dc0ef2a565440961bbc5034ab52b419fe3ce35be4af38ec577dd", func := "loop.example/s02127/laws.FnExactPointMul", spec := "fnExactPointMul", inPlace := ["math/bits.Add64"], recurses := true, apart := false }
def FnExactPointMulSaid : Prop := fnExactPointMulRow.holds Try.pinned (OpenSpec.ofChange fnExactPointMulSpec)

/-- ITS FALSE NEIGHBOUR: 'it returns false'. Refute it at one input. -/
def fnExactPointMulWrong : ChangeSpec := { name := "fnExactPointMul", fn := fun _ => fun
  | [d1, d2] => { results := [.lit (.bool false)], args := [d1, d2] }
  | _ => none }
def FnExactPointMulWrongFalsely : Prop := fnExactPointMulRow.holds Try.pinned (OpenSpec.ofChange fnExactPointMulWrong)

/-- 'laws.FnGroup': WHATEVER THE INPUT: true; the input reads as it did. -/
def fnGroupSpec : ChangeSpec := { name := "fnGroup", fn := fun _ => fun
  | [d1, d2] => { results := [.lit (.bool true)], args := [d1, d2] }
  | _ => none }
def fnGroupRow : OpenClaim := { program := "ytdaglofgioehhaa", sum := "29fcbcf9c763dc0ef2a565440961bbc5034ab52b419fe3ce35be4af38ec577dd", func := "loop.example/s02127/laws.FnGroup", spec := "fnGroup", inPlace := ["math/bits.Add64"], recurses := true, apart := false }
def FnGroupSaid : Prop := fnGroupRow.holds Try.pinned (OpenSpec.ofChange fnGroupSpec)

/-- ITS FALSE NEIGHBOUR: 'it returns false'. Refute it at one input. -/
def fnGroupWrong : ChangeSpec := { name := "fnGroup", fn := fun _ => fun
  | [d1, d2] => { results := [.lit (.bool false)], args := [d1, d2] }
  | _ => none }
def FnGroupWrongFalsely : Prop := fnGroupRow.holds Try.pinned (OpenSpec.ofChange fnGroupWrong)

/- THE SECOND FORM. 'bulk': how many values and letters a reading holds, each counted each time it is reached (what is shared counts as often as it is met; a slice's spare places count too). A statement '..UptoSaid' is the law's where the arguments, and the package variables that the reading takes, are together of bulk at most 1048576: NARROWER than '..Said'. Prove '..Said' where nothing that the law and all that it calls make is longer than what came in: it says more and counts as full. Else prove '..UptoSaid'. A law counts once. -/
mutual
def uptoBulk {H : Type} : DataW H → Nat
  | .lit (.string bytes) => bytes.length + 1
  | .lit _ => 1
  | .nil => 1
  | .ptr d => uptoBulk d + 1
  | .slice elems spare => uptoBulkAll elems + uptoBulkAll spare + 1
  | .agg parts => uptoBulkAll parts + 1
  | .iface _ d => uptoBulk d + 1
  | .map entries => uptoBulkEntries entries + 1
  | .held _ => 1
def uptoBulkAll {H : Type} : List (DataW H) → Nat
  | [] => 0
  | d :: r => uptoBulk d + uptoBulkAll r
def uptoBulkEntries {H : Type} : List (Lit × DataW H) → Nat
  | [] => 0
  | x :: r => uptoBulkEntry x + uptoBulkEntries r
def uptoBulkEntry {H : Type} : Lit × DataW H → Nat
  | (.string bytes, d) => bytes.length + uptoBulk d + 1
  | (_, d) => uptoBulk d + 1
 end
def uptoSmall : (H : Type) → List (DataW H) → Bool := fun _ ds => decide (uptoBulkAll ds ≤ 1048576)
def OpenSpec.upto (s : _root_.Go.ChangeSpec) : _root_.Go.OpenSpec := { _root_.Go.OpenSpec.ofChange s with cond := some uptoSmall }

/-- 'laws.FnExactReduceScalar', WHERE WHAT IT READS IS OF BULK AT MOST 1048576: true; the input reads as it did. -/
def fnExactReduceScalarUptoRow : OpenClaim := { program := "ytdaglofgioehhaa", sum := "29fcbcf9c763dc0ef2a565440961bbc5034ab52b419fe3ce35be4af38ec577dd", func := "loop.example/s02127/laws.FnExactReduceScalar", spec := "fnExactReduceScalar", inPlace := ["math/bits.Sub64"], apart := false, narrowed := true }
def FnExactReduceScalarUptoSaid : Prop := fnExactReduceScalarUptoRow.holds Try.pinned (OpenSpec.upto fnExactReduceScalarSpec)

/-- 'laws.FnReduce', WHERE WHAT IT READS IS OF BULK AT MOST 1048576: true; the input reads as it did. -/
def fnReduceUptoRow : OpenClaim := { program := "ytdaglofgioehhaa", sum := "29fcbcf9c763dc0ef2a565440961bbc5034ab52b419fe3ce35be4af38ec577dd", func := "loop.example/s02127/laws.FnReduce", spec := "fnReduce", inPlace := ["math/bits.Sub64", "math/bits.Add64"], recurses := true, apart := false, narrowed := true }
def FnReduceUptoSaid : Prop := fnReduceUptoRow.holds Try.pinned (OpenSpec.upto fnReduceSpec)

/-- 'laws.FnExactPointMul', WHERE WHAT IT READS IS OF BULK AT MOST 1048576: true; the input reads as it did. -/
def fnExactPointMulUptoRow : OpenClaim := { program := "ytdaglofgioehhaa", sum := "29fcbcf9c763dc0ef2a565440961bbc5034ab52b419fe3ce35be4af38ec577dd", func := "loop.example/s02127/laws.FnExactPointMul", spec := "fnExactPointMul", inPlace := ["math/bits.Add64"], recurses := true, apart := false, narrowed := true }
def FnExactPointMulUptoSaid : Prop := fnExactPointMulUptoRow.holds Try.pinned (OpenSpec.upto fnExactPointMulSpec)

/-- 'laws.FnGroup', WHERE WHAT IT READS IS OF BULK AT MOST 1048576: true; the input reads as it did. -/
def fnGroupUptoRow : OpenClaim := { program := "ytdaglofgioehhaa", sum := "29fcbcf9c763dc0ef2a565440961bbc5034ab52b419fe3ce35be4af38ec577dd", func := "loop.example/s02127/laws.FnGroup", spec := "fnGroup", inPlace := ["math/bits.Add64"], recurses := true, apart := false, narrowed := true }
def FnGroupUptoSaid : Prop := fnGroupUptoRow.holds Try.pinned (OpenSpec.upto fnGroupSpec)

end Rows
end Go.Proofs.Ytdaglofgioehhaa
