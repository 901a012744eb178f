/-
  Own work: the law on BasePoint.
-/
import Derived.Test.YthghkfncpdnpoabSBas
import Derived.Test.YthghkfncpdnpoabTxt
import Derived.Test.YthghkfncpdnpoabResB
import Derived.Lib.SmallJoins
namespace Go.Proofs.Ythghkfncpdnpoab.lbas
open Go.ChangeShapes Go.WideShapes Go.ChangeAt Go.RowKit Go.Joins
set_option linter.unusedVariables false

theorem own : ownKnob Try.prog.godebug = none := by kernel_rfl
theorem laidOut : laidOutB Try.prog = true := by kernel_rfl

def bW : List Int := [7378697629483820632, 7378697629483820646, 7378697629483820646, 7378697629483820646]
theorem bW_val : val 18446744073709551616 bW = baseY := by decide
theorem bW_wrd : Wrd bW := by unfold Wrd bW; decide

set_option maxHeartbeats 400000 in
theorem ibas_any (w : World) : Calls Try.prog 10 #[] w (CodeP w baseY) := by
  have HR : Hid (RowW (w.alloc (.cells #[.int .u64 0, .int .u64 0, .int .u64 0, .int .u64 0] 70)) w.heap.size 70 [0, 0, 0, 0]) := heap_alloc_new w _
  have HSZ : Hid ((Try.prog.info? 70).map (·.size) = some ((bW.map (Value.int .u64)).toArray).size) := sizeNum rfl
  go_enter Try.func10, Try.ntmps10
  go_wp2_with (first
    | (refine wpList_store_row rfl 70 (.tmp 1) (.tmp 2) rfl w.heap.size ((bW.map (Value.int .u64)).toArray) rfl rfl 70 _ HR.out HSZ.out rfl (all_oneCell_toArray (ints_oneCell _ _)) ?_)
    | fail)
  have R1 : RowW ((w.alloc (.cells #[.int .u64 0, .int .u64 0, .int .u64 0, .int .u64 0] 70)).setRow w.heap.size (bW.map (Value.int .u64)).toArray) w.heap.size 70 bW := HR.out.setRow bW
  have B2 : Below w.heap.size w ((w.alloc (.cells #[.int .u64 0, .int .u64 0, .int .u64 0, .int .u64 0] 70)).setRow w.heap.size (bW.map (Value.int .u64)).toArray) := (below_new2 _ _).trans ((Wr.setRow _ _ _).below (Nat.le_refl _))
  clear HR HSZ
  generalize (w.alloc (.cells #[.int .u64 0, .int .u64 0, .int .u64 0, .int .u64 0] 70)).setRow w.heap.size (bW.map (Value.int .u64)).toArray = w2 at *
  refine (text_any _ bW _ rfl R1 bW_wrd).mono ?_
  rintro e w3 ⟨bs, hbl, hbb, hbv, rfl, O3, B3⟩
  rw [bW_val] at hbv
  have HP : Hid (CodeP w baseY (.returned (.slice (some ⟨w2.heap.size, 0, none⟩) 32 32)) w3) := ⟨_, bs, rfl, O3.lower3 B2.size, hbb, hbl, hbv, B2.trans (B3.mono B2.size)⟩
  clear hbv O3 B2 B3 R1
  go_wp2
  go_ret
  exact HP.out

theorem same_code {a b : List Int} {x : Int} (h1 : Byte a) (h2 : a.length = 32) (h3 : val 256 a = x) (g1 : Byte b) (g2 : b.length = 32) (g3 : val 256 b = x) : a = b :=
  val_inj (B := 256) (by decide) h1 g1 (by omega) (by rw [h3, g3])

set_option maxHeartbeats 1000000 in
theorem walk (w : World) : Calls Try.prog 3 #[] w fun e w' => e = .returned (.bool true) ∧ Below w.heap.size w w' := by
  go_enter Try.func3, Try.ntmps3
  go_wp2_with fail
  refine (sbas_any _).mono ?_
  rintro e w1 ⟨v1, rs, rfl, O1, hrb, hrl, hrv, B1⟩
  obtain ⟨g1, c1, rfl, hg1, hg1', S1⟩ := O1.at2
  have HR : Hid (Byte rs ∧ rs.length = 32 ∧ val 256 rs = baseY) := ⟨hrb, hrl, hrv⟩
  rw [hrl]
  clear O1 hrb hrl hrv
  go_wp2_with fail
  refine (ibas_any _).mono ?_
  rintro e w2 ⟨v2, ts, rfl, O2, htb, htl, htv, B2⟩
  have hts : ts = rs := same_code htb htl htv HR.out.1 HR.out.2.1 HR.out.2.2
  clear htb htl htv
  subst hts
  obtain ⟨ag, cg, rfl, A2, Op2, L2⟩ := own_res O2
  rw [HR.out.2.1]
  rw [HR.out.2.1] at Op2
  have S2 := S1.below B2
  have hB2 : Below w.heap.size w w2 := B1.trans (B2.mono B1.size)
  have s1 := B1.size
  clear O2 S1 B1 B2
  go_wp2_with fail
  refine (eqB_any _ _ 32 _ _ ts _ HR.out.2.1 (by decide) A2 S2).mono ?_
  rintro e w5 ⟨rfl, q5, rfl⟩
  have S5 : At .u8 (w2.drewN q5) (some ⟨g1, 0, none⟩) ts := S2
  have O5 : Open (w2.drewN q5) ag 32 := Op2
  have hB5 : Below w.heap.size w (w2.drewN q5) := ⟨hB2.os, hB2.tape, hB2.output, hB2.size, hB2.block⟩
  clear A2 S2 Op2 hB2
  generalize w2.drewN q5 = w5 at *
  have HL2 : Hid (∀ ad, ag = some ad → w1.heap.size ≤ ad.block) := L2
  clear L2
  go_wp2_with fail
  refine (markB_any ag 32 cg 1 _ O5 (by decide) (by omega)).mono ?_
  rintro e w6 ⟨rfl, M6, hw6⟩
  have S6 := At.wrB S5 hw6 (fun ad e => by have := HL2.out ad e; omega)
  have hB6 : Below w.heap.size w w6 := hB5.trans (hw6.below _ (fun ad e => by have := HL2.out ad e; omega))
  clear S5 O5 hB5 hw6
  go_wp2_with fail
  refine (heldB_any ag 32 cg 1 _ M6 (by decide) (by omega)).mono ?_
  rintro e w7 ⟨rfl, rfl⟩
  clear M6
  go_wp2_with fail
  refine (ibas_any _).mono ?_
  rintro e w9 ⟨v9, us, rfl, O9, hub, hul, huv, B9⟩
  have hus : us = ts := same_code hub hul huv HR.out.1 HR.out.2.1 HR.out.2.2
  clear hub hul huv
  subst hus
  obtain ⟨ah, ch, rfl, A9, O9', L9⟩ := own_res O9
  rw [HR.out.2.1]
  have S9 := S6.below B9
  have HB : Hid (Below w.heap.size w w9) := hB6.trans (B9.mono hB6.size)
  clear O9 O9' L9 S6 B9 hB6
  go_wp2_with fail
  refine (eqB_any _ _ 32 _ _ us _ HR.out.2.1 (by decide) A9 S9).mono ?_
  rintro e w10 ⟨rfl, q10, rfl⟩
  have HB2 : Hid (Below w.heap.size w (w9.drewN q10)) := ⟨HB.out.os, HB.out.tape, HB.out.output, HB.out.size, HB.out.block⟩
  clear A9 S9 HB
  generalize w9.drewN q10 = w10 at *
  go_wp2
  go_ret
  exact ⟨rfl, HB2.out⟩

set_option maxRecDepth 100000 in
theorem lifted (os : Os) (started : os.Started) (H : Type) (enc : TypeId × Value → H) :
    ReturnsInHanded {} Try.checked os 3 .any (Rows.fnExactBasePointSpec.pre6 enc Try.prog Try.f3 Rows.fnExactBasePointRow.domain false) (Rows.fnExactBasePointSpec.post enc Try.prog Try.f3 false true false false) := by
  refine returnsInHanded_of_change (C := Try.checked) own started (by kernel_rfl) Try.func3
    (ChangeSpec.witness6 (enc := enc) (C := Try.checked) false ⟨#[], #[], []⟩ 8 (by kernel_rfl) (by kernel_rfl) (by kernel_rfl) (by kernel_rfl)) ?_
  intro W base args ds gs before hval0 hW hcnd _
  have hW' := hW
  obtain ⟨p, q, hA0, hV, rfl, hfz, hnd⟩ := hW
  have hA : DataW.TrodAll enc Try.prog W 0 (fun _ => true) true Try.f3.params.toList args.toList ds p := hA0
  rw [Try.params3] at hA
  obtain ⟨hargs, rfl, rfl⟩ := trodAll_nil hA
  obtain rfl : args = #[] := by cases args; simp_all
  obtain ⟨rfl, rfl⟩ := trodVars_none hV
  clear hA0 hval0
  refine (walk W).mono fun e W' ⟨he, bel⟩ => ?_
  subst he
  exact ⟨_, rfl, _, _, _, [], _, [], hW', trodAll_mk1 (shut_bool Try.underlying4 _), trodAll_mk0, rfl, bel.frame _, fun h => by cases h⟩

theorem over : Rows.fnExactBasePointRow.holds Try.pinned (OpenSpec.ofChange Rows.fnExactBasePointSpec) :=
  OpenClaim.holds_of_wide 3 Try.f3 rfl rfl rfl rfl rfl rfl rfl ⟨rfl, rfl, rfl, rfl, rfl⟩ rfl rfl rfl rfl rfl (by kernel_rfl) Try.func3 (by kernel_rfl)
    (of_decide_eq_true (by kernel_rfl)) (by unfold Func.isWrapper; first | (rw [if_pos (by decide +kernel)]; kernel_rfl) | (rw [if_neg (by decide +kernel)]; exact ⟨rfl, rfl⟩))
    (fun os started H enc _ => lifted os started H enc)
end Go.Proofs.Ythghkfncpdnpoab.lbas
namespace Go.Proofs.Ythghkfncpdnpoab
theorem basePoint_holds : Rows.FnExactBasePointSaid := lbas.over
#print axioms basePoint_holds
end Go.Proofs.Ythghkfncpdnpoab
