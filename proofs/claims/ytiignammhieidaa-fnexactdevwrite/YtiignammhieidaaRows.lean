/-
  No cell of these rows narrows 'for every input' (looked for: loops, veiled, ifaces, maps, wideKeys, modest, calm, conditions, laid).
  DERIVED. THE GIVEN ROWS OF THIS SEAT. 2 by the template 'for every input the law returns true; each argument reads behind the call as it read before'; 0 by the template 'total and deterministic' (their statements: YtiignammhieidaaTotals.lean).
  GIVEN WITH THE SEED: the statements are not yours to turn. If you find one false, say at which input.
  Laid BY PROGRAM, IN A SANDBOX (cutbox-rows.mjs): the forced cells as the released guide's own fill.sh prints them over the translation 27bcce68d716dd04… (all of the seat's roots in one cut). By AI agents, Wed Nov 11 2026. No macro, syntax, notation, axiom, sorry.
-/
import Derived.Test.YtiignammhieidaaChecked
import GoSem.Claim
import GoSem.ClaimJoined
import GoSem.ClaimMapViews
import Derived.JoinedTies
import Derived.KernelRfl
namespace Go.Proofs.Ytiignammhieidaa
/- THE CELL 'sum', in the pinned program and in every row, IS THE sha256 OF THE DUMP (.gsa) THAT YtiignammhieidaaProg.lean LOADS. Nothing in Lean hashes anything: it is a label: what it is worth is what the hold of that sum in a sandbox is worth. -/
noncomputable def Try.pinned : Pinned := { name := "ytiignammhieidaa", sum := "27bcce68d716dd04bd14caab30c8c16fc0a52b0c14ba9ed79e42f0676bc17e9f", checked := Try.checked }
namespace Rows
def none {H : Type} : Left H := { results := [], args := [] }

/-- 'laws.FnExactDevWrite': WHATEVER THE INPUT: true; the input reads as it did. -/
def fnExactDevWriteSpec : ChangeSpec := { name := "fnExactDevWrite", fn := fun _ => fun
  | [d1, d2, d3] => { results := [.lit (.bool true)], args := [d1, d2, d3] }
  | _ => none }
def fnExactDevWriteRow : OpenClaim := { program := "ytiignammhieidaa", sum := "27bcce68d716dd04bd14caab30c8c16fc0a52b0c14ba9ed79e42f0676bc17e9f", func := "loop.example/s02127/laws.FnExactDevWrite", spec := "fnExactDevWrite", unfollowed := true, recurses := true, apart := false }
def FnExactDevWriteSaid : Prop := fnExactDevWriteRow.holds Try.pinned (OpenSpec.ofChange fnExactDevWriteSpec)

/-- ITS FALSE NEIGHBOUR: 'it returns false'. Refute it at one input. -/
def fnExactDevWriteWrong : ChangeSpec := { name := "fnExactDevWrite", fn := fun _ => fun
  | [d1, d2, d3] => { results := [.lit (.bool false)], args := [d1, d2, d3] }
  | _ => none }
def FnExactDevWriteWrongFalsely : Prop := fnExactDevWriteRow.holds Try.pinned (OpenSpec.ofChange fnExactDevWriteWrong)

/-- 'laws.FnExactDevSync': WHATEVER THE INPUT: true; the input reads as it did. -/
def fnExactDevSyncSpec : ChangeSpec := { name := "fnExactDevSync", fn := fun _ => fun
  | [d] => { results := [.lit (.bool true)], args := [d] }
  | _ => none }
def fnExactDevSyncRow : OpenClaim := { program := "ytiignammhieidaa", sum := "27bcce68d716dd04bd14caab30c8c16fc0a52b0c14ba9ed79e42f0676bc17e9f", func := "loop.example/s02127/laws.FnExactDevSync", spec := "fnExactDevSync", unfollowed := true, recurses := true, apart := false }
def FnExactDevSyncSaid : Prop := fnExactDevSyncRow.holds Try.pinned (OpenSpec.ofChange fnExactDevSyncSpec)

/-- ITS FALSE NEIGHBOUR: 'it returns false'. Refute it at one input. -/
def fnExactDevSyncWrong : ChangeSpec := { name := "fnExactDevSync", fn := fun _ => fun
  | [d] => { results := [.lit (.bool false)], args := [d] }
  | _ => none }
def FnExactDevSyncWrongFalsely : Prop := fnExactDevSyncRow.holds Try.pinned (OpenSpec.ofChange fnExactDevSyncWrong)

/- THE SECOND FORM. 'bulk': how many values and letters a reading holds, each counted each time it is reached (what is shared counts as often as it is met; a slice's spare places count too). A statement '..UptoSaid' is the law's where the arguments, and the package variables that the reading takes, are together of bulk at most 1048576: NARROWER than '..Said'. Prove '..Said' where nothing that the law and all that it calls make is longer than what came in: it says more and counts as full. Else prove '..UptoSaid'. A law counts once. -/
mutual
def uptoBulk {H : Type} : DataW H → Nat
  | .lit (.string bytes) => bytes.length + 1
  | .lit _ => 1
  | .nil => 1
  | .ptr d => uptoBulk d + 1
  | .slice elems spare => uptoBulkAll elems + uptoBulkAll spare + 1
  | .agg parts => uptoBulkAll parts + 1
  | .iface _ d => uptoBulk d + 1
  | .map entries => uptoBulkEntries entries + 1
  | .held _ => 1
def uptoBulkAll {H : Type} : List (DataW H) → Nat
  | [] => 0
  | d :: r => uptoBulk d + uptoBulkAll r
def uptoBulkEntries {H : Type} : List (Lit × DataW H) → Nat
  | [] => 0
  | x :: r => uptoBulkEntry x + uptoBulkEntries r
def uptoBulkEntry {H : Type} : Lit × DataW H → Nat
  | (.string bytes, d) => bytes.length + uptoBulk d + 1
  | (_, d) => uptoBulk d + 1
 end
def uptoSmall : (H : Type) → List (DataW H) → Bool := fun _ ds => decide (uptoBulkAll ds ≤ 1048576)
def OpenSpec.upto (s : _root_.Go.ChangeSpec) : _root_.Go.OpenSpec := { _root_.Go.OpenSpec.ofChange s with cond := some uptoSmall }

/-- 'laws.FnExactDevWrite', WHERE WHAT IT READS IS OF BULK AT MOST 1048576: true; the input reads as it did. -/
def fnExactDevWriteUptoRow : OpenClaim := { program := "ytiignammhieidaa", sum := "27bcce68d716dd04bd14caab30c8c16fc0a52b0c14ba9ed79e42f0676bc17e9f", func := "loop.example/s02127/laws.FnExactDevWrite", spec := "fnExactDevWrite", unfollowed := true, recurses := true, apart := false, narrowed := true }
def FnExactDevWriteUptoSaid : Prop := fnExactDevWriteUptoRow.holds Try.pinned (OpenSpec.upto fnExactDevWriteSpec)

/-- 'laws.FnExactDevSync', WHERE WHAT IT READS IS OF BULK AT MOST 1048576: true; the input reads as it did. -/
def fnExactDevSyncUptoRow : OpenClaim := { program := "ytiignammhieidaa", sum := "27bcce68d716dd04bd14caab30c8c16fc0a52b0c14ba9ed79e42f0676bc17e9f", func := "loop.example/s02127/laws.FnExactDevSync", spec := "fnExactDevSync", unfollowed := true, recurses := true, apart := false, narrowed := true }
def FnExactDevSyncUptoSaid : Prop := fnExactDevSyncUptoRow.holds Try.pinned (OpenSpec.upto fnExactDevSyncSpec)

end Rows
end Go.Proofs.Ytiignammhieidaa
