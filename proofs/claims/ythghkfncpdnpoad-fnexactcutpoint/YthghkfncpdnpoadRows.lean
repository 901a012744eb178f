/-
  No cell of these rows narrows 'for every input' (looked for: loops, veiled, ifaces, maps, wideKeys, modest, calm, conditions, laid).
  DERIVED. THE GIVEN ROWS OF THIS SEAT. 3 by the template 'for every input the law returns true; each argument reads behind the call as it read before'; 0 by the template 'total and deterministic' (their statements: YthghkfncpdnpoadTotals.lean).
  GIVEN WITH THE SEED: the statements are not yours to turn. If you find one false, say at which input.
  Laid BY PROGRAM, IN A SANDBOX (cutbox-rows.mjs): the forced cells as the released guide's own fill.sh prints them over the translation 0663bce21c9ee23a… (all of the seat's roots in one cut). By AI agents, Wed Nov 11 2026. No macro, syntax, notation, axiom, sorry.
-/
import Derived.Test.YthghkfncpdnpoadChecked
import GoSem.Claim
import GoSem.ClaimJoined
import GoSem.ClaimMapViews
import Derived.JoinedTies
import Derived.KernelRfl
namespace Go.Proofs.Ythghkfncpdnpoad
/- THE CELL 'sum', in the pinned program and in every row, IS THE sha256 OF THE DUMP (.gsa) THAT YthghkfncpdnpoadProg.lean LOADS. Nothing in Lean hashes anything: it is a label: what it is worth is what the hold of that sum in a sandbox is worth. -/
noncomputable def Try.pinned : Pinned := { name := "ythghkfncpdnpoad", sum := "0663bce21c9ee23a3f63e6c77389c198031bef9f79e211c0bee9afbd27c519f7", checked := Try.checked }
namespace Rows
def none {H : Type} : Left H := { results := [], args := [] }

/-- 'laws.FnExactCutPoint': WHATEVER THE INPUT: true; the input reads as it did. -/
def fnExactCutPointSpec : ChangeSpec := { name := "fnExactCutPoint", fn := fun _ => fun
  | [d] => { results := [.lit (.bool true)], args := [d] }
  | _ => none }
def fnExactCutPointRow : OpenClaim := { program := "ythghkfncpdnpoad", sum := "0663bce21c9ee23a3f63e6c77389c198031bef9f79e211c0bee9afbd27c519f7", func := "loop.example/s02127/laws.FnExactCutPoint", spec := "fnExactCutPoint", apart := false }
def FnExactCutPointSaid : Prop := fnExactCutPointRow.holds Try.pinned (OpenSpec.ofChange fnExactCutPointSpec)

/-- ITS FALSE NEIGHBOUR: 'it returns false'. Refute it at one input. -/
def fnExactCutPointWrong : ChangeSpec := { name := "fnExactCutPoint", fn := fun _ => fun
  | [d] => { results := [.lit (.bool false)], args := [d] }
  | _ => none }
def FnExactCutPointWrongFalsely : Prop := fnExactCutPointRow.holds Try.pinned (OpenSpec.ofChange fnExactCutPointWrong)

/-- 'laws.FnExactApplyFrame': WHATEVER THE INPUT: true; the input reads as it did. -/
def fnExactApplyFrameSpec : ChangeSpec := { name := "fnExactApplyFrame", fn := fun _ => fun
  | [d1, d2] => { results := [.lit (.bool true)], args := [d1, d2] }
  | _ => none }
def fnExactApplyFrameRow : OpenClaim := { program := "ythghkfncpdnpoad", sum := "0663bce21c9ee23a3f63e6c77389c198031bef9f79e211c0bee9afbd27c519f7", func := "loop.example/s02127/laws.FnExactApplyFrame", spec := "fnExactApplyFrame", apart := false }
def FnExactApplyFrameSaid : Prop := fnExactApplyFrameRow.holds Try.pinned (OpenSpec.ofChange fnExactApplyFrameSpec)

/-- ITS FALSE NEIGHBOUR: 'it returns false'. Refute it at one input. -/
def fnExactApplyFrameWrong : ChangeSpec := { name := "fnExactApplyFrame", fn := fun _ => fun
  | [d1, d2] => { results := [.lit (.bool false)], args := [d1, d2] }
  | _ => none }
def FnExactApplyFrameWrongFalsely : Prop := fnExactApplyFrameRow.holds Try.pinned (OpenSpec.ofChange fnExactApplyFrameWrong)

/-- 'laws.FnExactDevCrash': WHATEVER THE INPUT: true; the input reads as it did. -/
def fnExactDevCrashSpec : ChangeSpec := { name := "fnExactDevCrash", fn := fun _ => fun
  | [d1, d2] => { results := [.lit (.bool true)], args := [d1, d2] }
  | _ => none }
def fnExactDevCrashRow : OpenClaim := { program := "ythghkfncpdnpoad", sum := "0663bce21c9ee23a3f63e6c77389c198031bef9f79e211c0bee9afbd27c519f7", func := "loop.example/s02127/laws.FnExactDevCrash", spec := "fnExactDevCrash", apart := false }
def FnExactDevCrashSaid : Prop := fnExactDevCrashRow.holds Try.pinned (OpenSpec.ofChange fnExactDevCrashSpec)

/-- ITS FALSE NEIGHBOUR: 'it returns false'. Refute it at one input. -/
def fnExactDevCrashWrong : ChangeSpec := { name := "fnExactDevCrash", fn := fun _ => fun
  | [d1, d2] => { results := [.lit (.bool false)], args := [d1, d2] }
  | _ => none }
def FnExactDevCrashWrongFalsely : Prop := fnExactDevCrashRow.holds Try.pinned (OpenSpec.ofChange fnExactDevCrashWrong)

/- THE SECOND FORM. 'bulk': how many values and letters a reading holds, each counted each time it is reached (what is shared counts as often as it is met; a slice's spare places count too). A statement '..UptoSaid' is the law's where the arguments, and the package variables that the reading takes, are together of bulk at most 1048576: NARROWER than '..Said'. Prove '..Said' where nothing that the law and all that it calls make is longer than what came in: it says more and counts as full. Else prove '..UptoSaid'. A law counts once. -/
mutual
def uptoBulk {H : Type} : DataW H → Nat
  | .lit (.string bytes) => bytes.length + 1
  | .lit _ => 1
  | .nil => 1
  | .ptr d => uptoBulk d + 1
  | .slice elems spare => uptoBulkAll elems + uptoBulkAll spare + 1
  | .agg parts => uptoBulkAll parts + 1
  | .iface _ d => uptoBulk d + 1
  | .map entries => uptoBulkEntries entries + 1
  | .held _ => 1
def uptoBulkAll {H : Type} : List (DataW H) → Nat
  | [] => 0
  | d :: r => uptoBulk d + uptoBulkAll r
def uptoBulkEntries {H : Type} : List (Lit × DataW H) → Nat
  | [] => 0
  | x :: r => uptoBulkEntry x + uptoBulkEntries r
def uptoBulkEntry {H : Type} : Lit × DataW H → Nat
  | (.string bytes, d) => bytes.length + uptoBulk d + 1
  | (_, d) => uptoBulk d + 1
 end
def uptoSmall : (H : Type) → List (DataW H) → Bool := fun _ ds => decide (uptoBulkAll ds ≤ 1048576)
def OpenSpec.upto (s : _root_.Go.ChangeSpec) : _root_.Go.OpenSpec := { _root_.Go.OpenSpec.ofChange s with cond := some uptoSmall }

/-- 'laws.FnExactCutPoint', WHERE WHAT IT READS IS OF BULK AT MOST 1048576: true; the input reads as it did. -/
def fnExactCutPointUptoRow : OpenClaim := { program := "ythghkfncpdnpoad", sum := "0663bce21c9ee23a3f63e6c77389c198031bef9f79e211c0bee9afbd27c519f7", func := "loop.example/s02127/laws.FnExactCutPoint", spec := "fnExactCutPoint", apart := false, narrowed := true }
def FnExactCutPointUptoSaid : Prop := fnExactCutPointUptoRow.holds Try.pinned (OpenSpec.upto fnExactCutPointSpec)

/-- 'laws.FnExactApplyFrame', WHERE WHAT IT READS IS OF BULK AT MOST 1048576: true; the input reads as it did. -/
def fnExactApplyFrameUptoRow : OpenClaim := { program := "ythghkfncpdnpoad", sum := "0663bce21c9ee23a3f63e6c77389c198031bef9f79e211c0bee9afbd27c519f7", func := "loop.example/s02127/laws.FnExactApplyFrame", spec := "fnExactApplyFrame", apart := false, narrowed := true }
def FnExactApplyFrameUptoSaid : Prop := fnExactApplyFrameUptoRow.holds Try.pinned (OpenSpec.upto fnExactApplyFrameSpec)

/-- 'laws.FnExactDevCrash', WHERE WHAT IT READS IS OF BULK AT MOST 1048576: true; the input reads as it did. -/
def fnExactDevCrashUptoRow : OpenClaim := { program := "ythghkfncpdnpoad", sum := "0663bce21c9ee23a3f63e6c77389c198031bef9f79e211c0bee9afbd27c519f7", func := "loop.example/s02127/laws.FnExactDevCrash", spec := "fnExactDevCrash", apart := false, narrowed := true }
def FnExactDevCrashUptoSaid : Prop := fnExactDevCrashUptoRow.holds Try.pinned (OpenSpec.upto fnExactDevCrashSpec)

end Rows
end Go.Proofs.Ythghkfncpdnpoad
