/-
  No cell of these rows narrows 'for every input' (looked for: loops, veiled, ifaces, maps, wideKeys, modest, calm, conditions, laid).
  DERIVED. THE GIVEN ROWS OF THIS SEAT. 6 by the template 'for every input the law returns true; each argument reads behind the call as it read before'; 0 by the template 'total and deterministic' (their statements: YthghkfncpdnpoabTotals.lean).
  GIVEN WITH THE SEED: the statements are not yours to turn. If you find one false, say at which input.
  Laid BY PROGRAM, IN A SANDBOX (cutbox-rows.mjs): the forced cells as the released guide's own fill.sh prints them over the translation 2a9a5e57269f0e36… (all of the seat's roots in one cut). By AI agents, Wed Nov 11 2026. No macro, syntax, notation, axiom, sorry.
-/
import Derived.Test.YthghkfncpdnpoabChecked
import GoSem.Claim
import GoSem.ClaimJoined
import GoSem.ClaimMapViews
import Derived.JoinedTies
import Derived.KernelRfl
namespace Go.Proofs.Ythghkfncpdnpoab
/- THE CELL 'sum', in the pinned program and in every row, IS THE sha256 OF THE DUMP (.gsa) THAT YthghkfncpdnpoabProg.lean LOADS. Nothing in Lean hashes anything: it is a label: what it is worth is what the hold of that sum in a sandbox is worth. -/
noncomputable def Try.pinned : Pinned := { name := "ythghkfncpdnpoab", sum := "2a9a5e57269f0e36e36b50030addb36f2e688b52766db213bc4b8276e2f67147", checked := Try.checked }
namespace Rows
def none {H : Type} : Left H := { results := [], args := [] }

/-- 'laws.FnExactBasePoint': WHATEVER THE INPUT: true; the input reads as it did. -/
def fnExactBasePointSpec : ChangeSpec := { name := "fnExactBasePoint", fn := fun _ => fun
  | [] => { results := [.lit (.bool true)], args := [] }
  | _ => none }
def fnExactBasePointRow : OpenClaim := { program := "ythghkfncpdnpoab", sum := "2a9a5e57269f0e36e36b50030addb36f2e688b52766db213bc4b8276e2f67147", func := "loop.example/s02127/laws.FnExactBasePoint", spec := "fnExactBasePoint", apart := false }
def FnExactBasePointSaid : Prop := fnExactBasePointRow.holds Try.pinned (OpenSpec.ofChange fnExactBasePointSpec)

/-- ITS FALSE NEIGHBOUR: 'it returns false'. Refute it at one input. -/
def fnExactBasePointWrong : ChangeSpec := { name := "fnExactBasePoint", fn := fun _ => fun
  | [] => { results := [.lit (.bool false)], args := [] }
  | _ => none }
def FnExactBasePointWrongFalsely : Prop := fnExactBasePointRow.holds Try.pinned (OpenSpec.ofChange fnExactBasePointWrong)

/-- 'laws.FnExactDecodeFrame': WHATEVER THE INPUT: true; the input reads as it did. -/
def fnExactDecodeFrameSpec : ChangeSpec := { name := "fnExactDecodeFrame", fn := fun _ => fun
  | [d] => { results := [.lit (.bool true)], args := [d] }
  | _ => none }
def fnExactDecodeFrameRow : OpenClaim := { program := "ythghkfncpdnpoab", sum := "2a9a5e57269f0e36e36b50030addb36f2e688b52766db213bc4b8276e2f67147", func := "loop.example/s02127/laws.FnExactDecodeFrame", spec := "fnExactDecodeFrame", apart := false }
def FnExactDecodeFrameSaid : Prop := fnExactDecodeFrameRow.holds Try.pinned (OpenSpec.ofChange fnExactDecodeFrameSpec)

/-- ITS FALSE NEIGHBOUR: 'it returns false'. Refute it at one input. -/
def fnExactDecodeFrameWrong : ChangeSpec := { name := "fnExactDecodeFrame", fn := fun _ => fun
  | [d] => { results := [.lit (.bool false)], args := [d] }
  | _ => none }
def FnExactDecodeFrameWrongFalsely : Prop := fnExactDecodeFrameRow.holds Try.pinned (OpenSpec.ofChange fnExactDecodeFrameWrong)

/-- 'laws.FnExactDevNew': WHATEVER THE INPUT: true; the input reads as it did. -/
def fnExactDevNewSpec : ChangeSpec := { name := "fnExactDevNew", fn := fun _ => fun
  | [d] => { results := [.lit (.bool true)], args := [d] }
  | _ => none }
def fnExactDevNewRow : OpenClaim := { program := "ythghkfncpdnpoab", sum := "2a9a5e57269f0e36e36b50030addb36f2e688b52766db213bc4b8276e2f67147", func := "loop.example/s02127/laws.FnExactDevNew", spec := "fnExactDevNew", apart := false }
def FnExactDevNewSaid : Prop := fnExactDevNewRow.holds Try.pinned (OpenSpec.ofChange fnExactDevNewSpec)

/-- ITS FALSE NEIGHBOUR: 'it returns false'. Refute it at one input. -/
def fnExactDevNewWrong : ChangeSpec := { name := "fnExactDevNew", fn := fun _ => fun
  | [d] => { results := [.lit (.bool false)], args := [d] }
  | _ => none }
def FnExactDevNewWrongFalsely : Prop := fnExactDevNewRow.holds Try.pinned (OpenSpec.ofChange fnExactDevNewWrong)

/-- 'laws.FnTear': WHATEVER THE INPUT: true; the input reads as it did. -/
def fnTearSpec : ChangeSpec := { name := "fnTear", fn := fun _ => fun
  | [d1, d2] => { results := [.lit (.bool true)], args := [d1, d2] }
  | _ => none }
def fnTearRow : OpenClaim := { program := "ythghkfncpdnpoab", sum := "2a9a5e57269f0e36e36b50030addb36f2e688b52766db213bc4b8276e2f67147", func := "loop.example/s02127/laws.FnTear", spec := "fnTear", apart := false }
def FnTearSaid : Prop := fnTearRow.holds Try.pinned (OpenSpec.ofChange fnTearSpec)

/-- ITS FALSE NEIGHBOUR: 'it returns false'. Refute it at one input. -/
def fnTearWrong : ChangeSpec := { name := "fnTear", fn := fun _ => fun
  | [d1, d2] => { results := [.lit (.bool false)], args := [d1, d2] }
  | _ => none }
def FnTearWrongFalsely : Prop := fnTearRow.holds Try.pinned (OpenSpec.ofChange fnTearWrong)

/-- 'laws.FnExactValidDev': WHATEVER THE INPUT: true; the input reads as it did. -/
def fnExactValidDevSpec : ChangeSpec := { name := "fnExactValidDev", fn := fun _ => fun
  | [d] => { results := [.lit (.bool true)], args := [d] }
  | _ => none }
def fnExactValidDevRow : OpenClaim := { program := "ythghkfncpdnpoab", sum := "2a9a5e57269f0e36e36b50030addb36f2e688b52766db213bc4b8276e2f67147", func := "loop.example/s02127/laws.FnExactValidDev", spec := "fnExactValidDev", apart := false }
def FnExactValidDevSaid : Prop := fnExactValidDevRow.holds Try.pinned (OpenSpec.ofChange fnExactValidDevSpec)

/-- ITS FALSE NEIGHBOUR: 'it returns false'. Refute it at one input. -/
def fnExactValidDevWrong : ChangeSpec := { name := "fnExactValidDev", fn := fun _ => fun
  | [d] => { results := [.lit (.bool false)], args := [d] }
  | _ => none }
def FnExactValidDevWrongFalsely : Prop := fnExactValidDevRow.holds Try.pinned (OpenSpec.ofChange fnExactValidDevWrong)

/-- 'laws.FnExactValidState': WHATEVER THE INPUT: true; the input reads as it did. -/
def fnExactValidStateSpec : ChangeSpec := { name := "fnExactValidState", fn := fun _ => fun
  | [d] => { results := [.lit (.bool true)], args := [d] }
  | _ => none }
def fnExactValidStateRow : OpenClaim := { program := "ythghkfncpdnpoab", sum := "2a9a5e57269f0e36e36b50030addb36f2e688b52766db213bc4b8276e2f67147", func := "loop.example/s02127/laws.FnExactValidState", spec := "fnExactValidState", apart := false }
def FnExactValidStateSaid : Prop := fnExactValidStateRow.holds Try.pinned (OpenSpec.ofChange fnExactValidStateSpec)

/-- ITS FALSE NEIGHBOUR: 'it returns false'. Refute it at one input. -/
def fnExactValidStateWrong : ChangeSpec := { name := "fnExactValidState", fn := fun _ => fun
  | [d] => { results := [.lit (.bool false)], args := [d] }
  | _ => none }
def FnExactValidStateWrongFalsely : Prop := fnExactValidStateRow.holds Try.pinned (OpenSpec.ofChange fnExactValidStateWrong)

/- THE SECOND FORM. 'bulk': how many values and letters a reading holds, each counted each time it is reached (what is shared counts as often as it is met; a slice's spare places count too). A statement '..UptoSaid' is the law's where the arguments, and the package variables that the reading takes, are together of bulk at most 1048576: NARROWER than '..Said'. Prove '..Said' where nothing that the law and all that it calls make is longer than what came in: it says more and counts as full. Else prove '..UptoSaid'. A law counts once. -/
mutual
def uptoBulk {H : Type} : DataW H → Nat
  | .lit (.string bytes) => bytes.length + 1
  | .lit _ => 1
  | .nil => 1
  | .ptr d => uptoBulk d + 1
  | .slice elems spare => uptoBulkAll elems + uptoBulkAll spare + 1
  | .agg parts => uptoBulkAll parts + 1
  | .iface _ d => uptoBulk d + 1
  | .map entries => uptoBulkEntries entries + 1
  | .held _ => 1
def uptoBulkAll {H : Type} : List (DataW H) → Nat
  | [] => 0
  | d :: r => uptoBulk d + uptoBulkAll r
def uptoBulkEntries {H : Type} : List (Lit × DataW H) → Nat
  | [] => 0
  | x :: r => uptoBulkEntry x + uptoBulkEntries r
def uptoBulkEntry {H : Type} : Lit × DataW H → Nat
  | (.string bytes, d) => bytes.length + uptoBulk d + 1
  | (_, d) => uptoBulk d + 1
 end
def uptoSmall : (H : Type) → List (DataW H) → Bool := fun _ ds => decide (uptoBulkAll ds ≤ 1048576)
def OpenSpec.upto (s : _root_.Go.ChangeSpec) : _root_.Go.OpenSpec := { _root_.Go.OpenSpec.ofChange s with cond := some uptoSmall }

/-- 'laws.FnExactBasePoint', WHERE WHAT IT READS IS OF BULK AT MOST 1048576: true; the input reads as it did. -/
def fnExactBasePointUptoRow : OpenClaim := { program := "ythghkfncpdnpoab", sum := "2a9a5e57269f0e36e36b50030addb36f2e688b52766db213bc4b8276e2f67147", func := "loop.example/s02127/laws.FnExactBasePoint", spec := "fnExactBasePoint", apart := false, narrowed := true }
def FnExactBasePointUptoSaid : Prop := fnExactBasePointUptoRow.holds Try.pinned (OpenSpec.upto fnExactBasePointSpec)

/-- 'laws.FnExactDecodeFrame', WHERE WHAT IT READS IS OF BULK AT MOST 1048576: true; the input reads as it did. -/
def fnExactDecodeFrameUptoRow : OpenClaim := { program := "ythghkfncpdnpoab", sum := "2a9a5e57269f0e36e36b50030addb36f2e688b52766db213bc4b8276e2f67147", func := "loop.example/s02127/laws.FnExactDecodeFrame", spec := "fnExactDecodeFrame", apart := false, narrowed := true }
def FnExactDecodeFrameUptoSaid : Prop := fnExactDecodeFrameUptoRow.holds Try.pinned (OpenSpec.upto fnExactDecodeFrameSpec)

/-- 'laws.FnExactDevNew', WHERE WHAT IT READS IS OF BULK AT MOST 1048576: true; the input reads as it did. -/
def fnExactDevNewUptoRow : OpenClaim := { program := "ythghkfncpdnpoab", sum := "2a9a5e57269f0e36e36b50030addb36f2e688b52766db213bc4b8276e2f67147", func := "loop.example/s02127/laws.FnExactDevNew", spec := "fnExactDevNew", apart := false, narrowed := true }
def FnExactDevNewUptoSaid : Prop := fnExactDevNewUptoRow.holds Try.pinned (OpenSpec.upto fnExactDevNewSpec)

/-- 'laws.FnTear', WHERE WHAT IT READS IS OF BULK AT MOST 1048576: true; the input reads as it did. -/
def fnTearUptoRow : OpenClaim := { program := "ythghkfncpdnpoab", sum := "2a9a5e57269f0e36e36b50030addb36f2e688b52766db213bc4b8276e2f67147", func := "loop.example/s02127/laws.FnTear", spec := "fnTear", apart := false, narrowed := true }
def FnTearUptoSaid : Prop := fnTearUptoRow.holds Try.pinned (OpenSpec.upto fnTearSpec)

/-- 'laws.FnExactValidDev', WHERE WHAT IT READS IS OF BULK AT MOST 1048576: true; the input reads as it did. -/
def fnExactValidDevUptoRow : OpenClaim := { program := "ythghkfncpdnpoab", sum := "2a9a5e57269f0e36e36b50030addb36f2e688b52766db213bc4b8276e2f67147", func := "loop.example/s02127/laws.FnExactValidDev", spec := "fnExactValidDev", apart := false, narrowed := true }
def FnExactValidDevUptoSaid : Prop := fnExactValidDevUptoRow.holds Try.pinned (OpenSpec.upto fnExactValidDevSpec)

/-- 'laws.FnExactValidState', WHERE WHAT IT READS IS OF BULK AT MOST 1048576: true; the input reads as it did. -/
def fnExactValidStateUptoRow : OpenClaim := { program := "ythghkfncpdnpoab", sum := "2a9a5e57269f0e36e36b50030addb36f2e688b52766db213bc4b8276e2f67147", func := "loop.example/s02127/laws.FnExactValidState", spec := "fnExactValidState", apart := false, narrowed := true }
def FnExactValidStateUptoSaid : Prop := fnExactValidStateUptoRow.holds Try.pinned (OpenSpec.upto fnExactValidStateSpec)

end Rows
end Go.Proofs.Ythghkfncpdnpoab
