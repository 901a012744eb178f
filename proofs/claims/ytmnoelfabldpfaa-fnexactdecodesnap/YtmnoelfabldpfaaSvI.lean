/-
  Own work: ValidState, by the program.
-/
import Derived.Test.YtmnoelfabldpfaaSvK
namespace Go.Proofs.Ytmnoelfabldpfaa
open Go.ChangeShapes Go.WideShapes Go.ChangeAt Go.RowKit
set_option linter.unusedVariables false

set_option maxRecDepth 100000 in
set_option maxHeartbeats 2000000 in
theorem ivs_any (aD aU aT : Option Addr) (nD cD nU cU nT cT : Nat) (D U : List Int) (k : Int) (T : List Int) (w : World) (hD : D.length = nD) (hU : U.length = nU) (hT : T.length = nT * 2) (mD : nD ≤ 1048576) (mU : nU ≤ 1048576) (mT : nT ≤ 1048576)
    (haD : At .i64 w aD D) (haU : At .i64 w aU U) (haT : At .i64 w aT T) (hnil : aT = none → nT = 0 ∧ cT = 0) (hk0 : -9223372036854775808 ≤ k) (hk1 : k < 9223372036854775808) :
    Calls Try.prog 50 #[.agg #[.slice aD nD cD, .slice aU nU cU, .int .i64 k, .slice aT nT cT]] w fun e w' => e = .returned (.bool (stB D U k T nT)) ∧ Below w.heap.size w w' := by
  have b0 : Below w.heap.size w (w.alloc (.cells #[.slice aD nD cD, .slice aU nU cU, .int .i64 k, .slice aT nT cT] 74)) := (Below.refl _ _).alloc (Nat.le_refl _) _
  have HC := openBook_any aD aU aT nD cD nU cU nT cT D U k T _ hD hU hT mD mU mT (haD.below b0) (haU.below b0) (haT.below b0) hnil hk0 hk1
  have HB0 : Hid (Below w.heap.size w (w.alloc (.cells #[.slice aD nD cD, .slice aU nU cU, .int .i64 k, .slice aT nT cT] 74))) := b0
  clear haD haU haT hnil hk0 hk1 hD hU hT b0
  go_enter Try.func50, Try.ntmps50
  go_wp2_with fail
  refine HC.mono ?_
  rintro e w1 ⟨bk, rfl, hs, ho, hb, _⟩
  have HB1 : Hid (Below w.heap.size w w1) := HB0.out.trans (hb.mono HB0.out.size)
  have HN : Hid ((w1.alloc (.cells Try.zeroCells96 96)).heap[w1.heap.size]? = some (.cells Try.zeroCells96 96 (0, 0))) := heap_alloc_new w1 _
  have HSZ : Hid ((Try.prog.info? 96).map (·.size) = some bk.size) := by show _ = _; rw [hs]; exact Try.sizeBook
  have HEQ : Hid ((Try.zeroCells96).size = bk.size) := by show _ = _; rw [hs]; exact zc_size
  have HOK : Hid (bk.all (fun x => x.oneCell') = true) := ho
  have HB2 : Hid (∀ cs, Below w.heap.size w ((w1.alloc (.cells Try.zeroCells96 96)).setRow w1.heap.size cs)) := fun cs => HB1.out.trans ((((Below.refl _ _).alloc (Nat.le_refl _) _).trans ((Wr.setRow _ _ _).below (Nat.le_refl _))).mono HB1.out.size)
  clear hs ho hb HC HB0
  generalize hq : stB D U k T nT = q at *
  have HQ : Hid (stB D U k T nT = q) := hq
  clear hq
  go_wp2_with (first
    | (refine wpList_store_row rfl 96 (.tmp 3) (.tmp 8) rfl w1.heap.size bk rfl rfl 96 _ HN.out HSZ.out HEQ.out HOK.out ?_)
    | fail)
  go_ret
  exact ⟨by rw [HQ.out]; rfl, HB2.out _⟩
end Go.Proofs.Ytmnoelfabldpfaa
