/-
  No cell of these rows narrows 'for every input' (looked for: loops, veiled, ifaces, maps, wideKeys, modest, calm, conditions, laid).
  DERIVED. THE GIVEN ROWS OF THIS SEAT. 6 by the template 'for every input the law returns true; each argument reads behind the call as it read before'; 0 by the template 'total and deterministic' (their statements: YtpbjhihpkfkobaeTotals.lean).
  GIVEN WITH THE SEED: the statements are not yours to turn. If you find one false, say at which input.
  Laid BY PROGRAM, IN A SANDBOX (cutbox-rows.mjs): the forced cells as the released guide's own fill.sh prints them over the translation c030a6ad40a0c85e… (all of the seat's roots in one cut). By AI agents, Wed Nov 11 2026. No macro, syntax, notation, axiom, sorry.
-/
import Derived.Test.YtpbjhihpkfkobaeChecked
import GoSem.Claim
import GoSem.ClaimJoined
import GoSem.ClaimMapViews
import Derived.JoinedTies
import Derived.KernelRfl
namespace Go.Proofs.Ytpbjhihpkfkobae
/- THE CELL 'sum', in the pinned program and in every row, IS THE sha256 OF THE DUMP (.gsa) THAT YtpbjhihpkfkobaeProg.lean LOADS. Nothing in Lean hashes anything: it is a label: what it is worth is what the hold of that sum in a sandbox is worth. -/
noncomputable def Try.pinned : Pinned := { name := "ytpbjhihpkfkobae", sum := "c030a6ad40a0c85e517f0d605d38b01861efa234e229316db9763e529935d52d", checked := Try.checked }
namespace Rows
def none {H : Type} : Left H := { results := [], args := [] }

/-- 'laws.FnExactDevSync': WHATEVER THE INPUT: true; the input reads as it did. -/
def fnExactDevSyncSpec : ChangeSpec := { name := "fnExactDevSync", fn := fun _ => fun
  | [d] => { results := [.lit (.bool true)], args := [d] }
  | _ => none }
def fnExactDevSyncRow : OpenClaim := { program := "ytpbjhihpkfkobae", sum := "c030a6ad40a0c85e517f0d605d38b01861efa234e229316db9763e529935d52d", func := "loop.example/s02127/laws.FnExactDevSync", spec := "fnExactDevSync", unfollowed := true, recurses := true, apart := false }
def FnExactDevSyncSaid : Prop := fnExactDevSyncRow.holds Try.pinned (OpenSpec.ofChange fnExactDevSyncSpec)

/-- ITS FALSE NEIGHBOUR: 'it returns false'. Refute it at one input. -/
def fnExactDevSyncWrong : ChangeSpec := { name := "fnExactDevSync", fn := fun _ => fun
  | [d] => { results := [.lit (.bool false)], args := [d] }
  | _ => none }
def FnExactDevSyncWrongFalsely : Prop := fnExactDevSyncRow.holds Try.pinned (OpenSpec.ofChange fnExactDevSyncWrong)

/-- 'laws.FnExactDecodeSnap': WHATEVER THE INPUT: true; the input reads as it did. -/
def fnExactDecodeSnapSpec : ChangeSpec := { name := "fnExactDecodeSnap", fn := fun _ => fun
  | [d] => { results := [.lit (.bool true)], args := [d] }
  | _ => none }
def fnExactDecodeSnapRow : OpenClaim := { program := "ytpbjhihpkfkobae", sum := "c030a6ad40a0c85e517f0d605d38b01861efa234e229316db9763e529935d52d", func := "loop.example/s02127/laws.FnExactDecodeSnap", spec := "fnExactDecodeSnap", apart := false }
def FnExactDecodeSnapSaid : Prop := fnExactDecodeSnapRow.holds Try.pinned (OpenSpec.ofChange fnExactDecodeSnapSpec)

/-- ITS FALSE NEIGHBOUR: 'it returns false'. Refute it at one input. -/
def fnExactDecodeSnapWrong : ChangeSpec := { name := "fnExactDecodeSnap", fn := fun _ => fun
  | [d] => { results := [.lit (.bool false)], args := [d] }
  | _ => none }
def FnExactDecodeSnapWrongFalsely : Prop := fnExactDecodeSnapRow.holds Try.pinned (OpenSpec.ofChange fnExactDecodeSnapWrong)

/-- 'laws.FnSnap': WHATEVER THE INPUT: true; the input reads as it did. -/
def fnSnapSpec : ChangeSpec := { name := "fnSnap", fn := fun _ => fun
  | [d1, d2] => { results := [.lit (.bool true)], args := [d1, d2] }
  | _ => none }
def fnSnapRow : OpenClaim := { program := "ytpbjhihpkfkobae", sum := "c030a6ad40a0c85e517f0d605d38b01861efa234e229316db9763e529935d52d", func := "loop.example/s02127/laws.FnSnap", spec := "fnSnap", apart := false }
def FnSnapSaid : Prop := fnSnapRow.holds Try.pinned (OpenSpec.ofChange fnSnapSpec)

/-- ITS FALSE NEIGHBOUR: 'it returns false'. Refute it at one input. -/
def fnSnapWrong : ChangeSpec := { name := "fnSnap", fn := fun _ => fun
  | [d1, d2] => { results := [.lit (.bool false)], args := [d1, d2] }
  | _ => none }
def FnSnapWrongFalsely : Prop := fnSnapRow.holds Try.pinned (OpenSpec.ofChange fnSnapWrong)

/-- 'laws.FnExactApplyFrame': WHATEVER THE INPUT: true; the input reads as it did. -/
def fnExactApplyFrameSpec : ChangeSpec := { name := "fnExactApplyFrame", fn := fun _ => fun
  | [d1, d2] => { results := [.lit (.bool true)], args := [d1, d2] }
  | _ => none }
def fnExactApplyFrameRow : OpenClaim := { program := "ytpbjhihpkfkobae", sum := "c030a6ad40a0c85e517f0d605d38b01861efa234e229316db9763e529935d52d", func := "loop.example/s02127/laws.FnExactApplyFrame", spec := "fnExactApplyFrame", apart := false }
def FnExactApplyFrameSaid : Prop := fnExactApplyFrameRow.holds Try.pinned (OpenSpec.ofChange fnExactApplyFrameSpec)

/-- ITS FALSE NEIGHBOUR: 'it returns false'. Refute it at one input. -/
def fnExactApplyFrameWrong : ChangeSpec := { name := "fnExactApplyFrame", fn := fun _ => fun
  | [d1, d2] => { results := [.lit (.bool false)], args := [d1, d2] }
  | _ => none }
def FnExactApplyFrameWrongFalsely : Prop := fnExactApplyFrameRow.holds Try.pinned (OpenSpec.ofChange fnExactApplyFrameWrong)

/-- 'laws.FnExactDevCrash': WHATEVER THE INPUT: true; the input reads as it did. -/
def fnExactDevCrashSpec : ChangeSpec := { name := "fnExactDevCrash", fn := fun _ => fun
  | [d1, d2] => { results := [.lit (.bool true)], args := [d1, d2] }
  | _ => none }
def fnExactDevCrashRow : OpenClaim := { program := "ytpbjhihpkfkobae", sum := "c030a6ad40a0c85e517f0d605d38b01861efa234e229316db9763e529935d52d", func := "loop.example/s02127/laws.FnExactDevCrash", spec := "fnExactDevCrash", apart := false }
def FnExactDevCrashSaid : Prop := fnExactDevCrashRow.holds Try.pinned (OpenSpec.ofChange fnExactDevCrashSpec)

/-- ITS FALSE NEIGHBOUR: 'it returns false'. Refute it at one input. -/
def fnExactDevCrashWrong : ChangeSpec := { name := "fnExactDevCrash", fn := fun _ => fun
  | [d1, d2] => { results := [.lit (.bool false)], args := [d1, d2] }
  | _ => none }
def FnExactDevCrashWrongFalsely : Prop := fnExactDevCrashRow.holds Try.pinned (OpenSpec.ofChange fnExactDevCrashWrong)

/-- 'laws.FnGroup': WHATEVER THE INPUT: true; the input reads as it did. -/
def fnGroupSpec : ChangeSpec := { name := "fnGroup", fn := fun _ => fun
  | [d1, d2] => { results := [.lit (.bool true)], args := [d1, d2] }
  | _ => none }
def fnGroupRow : OpenClaim := { program := "ytpbjhihpkfkobae", sum := "c030a6ad40a0c85e517f0d605d38b01861efa234e229316db9763e529935d52d", func := "loop.example/s02127/laws.FnGroup", spec := "fnGroup", inPlace := ["math/bits.Add64"], recurses := true, apart := false }
def FnGroupSaid : Prop := fnGroupRow.holds Try.pinned (OpenSpec.ofChange fnGroupSpec)

/-- ITS FALSE NEIGHBOUR: 'it returns false'. Refute it at one input. -/
def fnGroupWrong : ChangeSpec := { name := "fnGroup", fn := fun _ => fun
  | [d1, d2] => { results := [.lit (.bool false)], args := [d1, d2] }
  | _ => none }
def FnGroupWrongFalsely : Prop := fnGroupRow.holds Try.pinned (OpenSpec.ofChange fnGroupWrong)

/- THE SECOND FORM. 'bulk': how many values and letters a reading holds, each counted each time it is reached (what is shared counts as often as it is met; a slice's spare places count too). A statement '..UptoSaid' is the law's where the arguments, and the package variables that the reading takes, are together of bulk at most 1048576: NARROWER than '..Said'. Prove '..Said' where nothing that the law and all that it calls make is longer than what came in: it says more and counts as full. Else prove '..UptoSaid'. A law counts once. -/
mutual
def uptoBulk {H : Type} : DataW H → Nat
  | .lit (.string bytes) => bytes.length + 1
  | .lit _ => 1
  | .nil => 1
  | .ptr d => uptoBulk d + 1
  | .slice elems spare => uptoBulkAll elems + uptoBulkAll spare + 1
  | .agg parts => uptoBulkAll parts + 1
  | .iface _ d => uptoBulk d + 1
  | .map entries => uptoBulkEntries entries + 1
  | .held _ => 1
def uptoBulkAll {H : Type} : List (DataW H) → Nat
  | [] => 0
  | d :: r => uptoBulk d + uptoBulkAll r
def uptoBulkEntries {H : Type} : List (Lit × DataW H) → Nat
  | [] => 0
  | x :: r => uptoBulkEntry x + uptoBulkEntries r
def uptoBulkEntry {H : Type} : Lit × DataW H → Nat
  | (.string bytes, d) => bytes.length + uptoBulk d + 1
  | (_, d) => uptoBulk d + 1
 end
def uptoSmall : (H : Type) → List (DataW H) → Bool := fun _ ds => decide (uptoBulkAll ds ≤ 1048576)
def OpenSpec.upto (s : _root_.Go.ChangeSpec) : _root_.Go.OpenSpec := { _root_.Go.OpenSpec.ofChange s with cond := some uptoSmall }

/-- 'laws.FnExactDevSync', WHERE WHAT IT READS IS OF BULK AT MOST 1048576: true; the input reads as it did. -/
def fnExactDevSyncUptoRow : OpenClaim := { program := "ytpbjhihpkfkobae", sum := "c030a6ad40a0c85e517f0d605d38b01861efa234e229316db9763e529935d52d", func := "loop.example/s02127/laws.FnExactDevSync", spec := "fnExactDevSync", unfollowed := true, recurses := true, apart := false, narrowed := true }
def FnExactDevSyncUptoSaid : Prop := fnExactDevSyncUptoRow.holds Try.pinned (OpenSpec.upto fnExactDevSyncSpec)

/-- 'laws.FnExactDecodeSnap', WHERE WHAT IT READS IS OF BULK AT MOST 1048576: true; the input reads as it did. -/
def fnExactDecodeSnapUptoRow : OpenClaim := { program := "ytpbjhihpkfkobae", sum := "c030a6ad40a0c85e517f0d605d38b01861efa234e229316db9763e529935d52d", func := "loop.example/s02127/laws.FnExactDecodeSnap", spec := "fnExactDecodeSnap", apart := false, narrowed := true }
def FnExactDecodeSnapUptoSaid : Prop := fnExactDecodeSnapUptoRow.holds Try.pinned (OpenSpec.upto fnExactDecodeSnapSpec)

/-- 'laws.FnSnap', WHERE WHAT IT READS IS OF BULK AT MOST 1048576: true; the input reads as it did. -/
def fnSnapUptoRow : OpenClaim := { program := "ytpbjhihpkfkobae", sum := "c030a6ad40a0c85e517f0d605d38b01861efa234e229316db9763e529935d52d", func := "loop.example/s02127/laws.FnSnap", spec := "fnSnap", apart := false, narrowed := true }
def FnSnapUptoSaid : Prop := fnSnapUptoRow.holds Try.pinned (OpenSpec.upto fnSnapSpec)

/-- 'laws.FnExactApplyFrame', WHERE WHAT IT READS IS OF BULK AT MOST 1048576: true; the input reads as it did. -/
def fnExactApplyFrameUptoRow : OpenClaim := { program := "ytpbjhihpkfkobae", sum := "c030a6ad40a0c85e517f0d605d38b01861efa234e229316db9763e529935d52d", func := "loop.example/s02127/laws.FnExactApplyFrame", spec := "fnExactApplyFrame", apart := false, narrowed := true }
def FnExactApplyFrameUptoSaid : Prop := fnExactApplyFrameUptoRow.holds Try.pinned (OpenSpec.upto fnExactApplyFrameSpec)

/-- 'laws.FnExactDevCrash', WHERE WHAT IT READS IS OF BULK AT MOST 1048576: true; the input reads as it did. -/
def fnExactDevCrashUptoRow : OpenClaim := { program := "ytpbjhihpkfkobae", sum := "c030a6ad40a0c85e517f0d605d38b01861efa234e229316db9763e529935d52d", func := "loop.example/s02127/laws.FnExactDevCrash", spec := "fnExactDevCrash", apart := false, narrowed := true }
def FnExactDevCrashUptoSaid : Prop := fnExactDevCrashUptoRow.holds Try.pinned (OpenSpec.upto fnExactDevCrashSpec)

/-- 'laws.FnGroup', WHERE WHAT IT READS IS OF BULK AT MOST 1048576: true; the input reads as it did. -/
def fnGroupUptoRow : OpenClaim := { program := "ytpbjhihpkfkobae", sum := "c030a6ad40a0c85e517f0d605d38b01861efa234e229316db9763e529935d52d", func := "loop.example/s02127/laws.FnGroup", spec := "fnGroup", inPlace := ["math/bits.Add64"], recurses := true, apart := false, narrowed := true }
def FnGroupUptoSaid : Prop := fnGroupUptoRow.holds Try.pinned (OpenSpec.upto fnGroupSpec)

end Rows
end Go.Proofs.Ytpbjhihpkfkobae
