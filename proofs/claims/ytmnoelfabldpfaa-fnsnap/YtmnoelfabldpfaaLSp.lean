/-
  Own work round the shell that the kit's program writes: the law on snaps that come back (written by wip/mklsp.py).
-/
import Derived.Test.YtmnoelfabldpfaaDrD
import Derived.Test.YtmnoelfabldpfaaDkT
import Derived.Test.YtmnoelfabldpfaaDkK
import Derived.Test.YtmnoelfabldpfaaDkQ
import Derived.WalkKit
import Derived.ProofKit
import Derived.OpenShut
import Derived.ShutString
import Derived.ChangeOld
import Derived.Below
import Derived.Lib.SmallJoins
import Derived.BigQuiet
namespace Go.Proofs.Ytmnoelfabldpfaa.lsp
open Go.ChangeShapes Go.WideShapes Go.ChangeAt Go.RowKit
open Go.ChangeMaps (open_string shut_string)
set_option linter.unusedVariables false

theorem own : ownKnob Try.prog.godebug = none := by kernel_rfl
theorem laidOut : laidOutB Try.prog = true := by kernel_rfl

theorem conv_any (a : Option Addr) (n cap : Nat) (xs : List Int) (w : World) (hn : xs.length = n) (ha : At .u8 w a xs) :
    (convert 22 9 (.slice a n cap)).run Try.prog w = .ok (.string (strOfNums xs)) w := by
  by_cases h0 : xs = []
  · subst h0
    obtain rfl : n = 0 := by simpa using hn.symm
    cases a with
    | none => exact run_convert_bytes_nil w 22 5 Try.underlying22 Try.underlying5 0 cap 9 Try.underlying9
    | some ad =>
      rw [run_convert_bytes_string w 22 9 5 _ 0 cap Try.underlying22 Try.underlying5 Try.underlying9]
      exact run_bytesToString w ad 0 cap [] (by simp [loadCells, loadCellsFrom])
  · rcases ha with h | ⟨b, off, rfl, hb, hc⟩
    · exact absurd h h0
    · exact run_convert_bytes_arg w 22 5 Try.underlying22 Try.underlying5 b off n cap xs hn (fun i hi => hc i (by omega)) 9 Try.underlying9

set_option maxHeartbeats 400000 in
theorem lwB_any (a a' : Option Addr) (n n' cap cap' : Nat) (xs ys : List Int) (w : World) (hn : xs.length = n) (hn' : ys.length = n') (ha : At .u8 w a xs) (ha' : At .u8 w a' ys) (bx : Byte xs) (by' : Byte ys) :
    Calls Try.prog 18 #[.slice a n cap, .slice a' n' cap'] w fun e w' => e = .returned (.bool (decide (xs = ys))) ∧ w' = w := by
  have c1 := conv_any a n cap xs w hn ha
  have c2 := conv_any a' n' cap' ys w hn' ha'
  have hi := str_inj bx by'
  clear ha ha'
  go_enter Try.func18, Try.ntmps18
  go_wp2
  go_ret
  exact ⟨rfl, rfl⟩
set_option maxHeartbeats 400000 in
theorem nums_any (a a' : Option Addr) (n cap cap' : Nat) (zs : List Int) (w : World) (hn : zs.length = n) (hm : n ≤ 1048576) (ha : At .i64 w a zs) (ha' : At .i64 w a' zs) :
    Calls Try.prog 16 #[.slice a n cap, .slice a' n cap'] w fun e w' => e = .returned (.bool true) ∧ ∃ q, w' = w.drewN q := by
  have h0 : ((n : Int) != (n : Int)) = false := by simp
  go_enter Try.func16, Try.ntmps16
  go_wp2
  go_loopw [5] (fun i wr => ∃ k q : Nat, k ≤ n ∧ i = .int .i64 k ∧ wr = w.drewN q) (fun i _ => n - (intOf i).toNat)
  case atStart => exact ⟨0, 0, Nat.zero_le _, rfl, rfl⟩
  case round =>
    obtain ⟨k, q, hk, rfl, rfl⟩ := hrel
    by_cases hlt : k < n
    · obtain ⟨b, off, rfl, hb, hc⟩ := ha.get (by omega)
      obtain ⟨b', off', rfl, hb', hc'⟩ := ha'.get (by omega)
      have g1 := hc k (by omega)
      have g2 := hc' k (by omega)
      generalize zs.getD k 0 = x at *
      have hx : (x != x) = false := by simp
      have hlt' : (k : Int) < (n : Int) := by omega
      clear hc hc' ha ha'
      go_wp2
      go_quiet (fail)
      go_wp2
      go_roundw
      case rel => exact ⟨k + 1, _, by omega, by go_num, rfl⟩
      case measure => simp [intOf]; omega
    · go_wp2
      go_ret
      exact ⟨rfl, q, rfl⟩
section
variable {H : Type} {enc : TypeId × Value → H} {W : World}
set_option maxRecDepth 100000 in
theorem bytes_of {fuel : Nat} {v : Value} {y : DataW H × List MemPlace} (h : DataW.trod enc Try.prog W 0 (fun _ => true) true fuel 22 [v] = some y) :
    ∃ a n cap zs, v = .slice a n cap ∧ zs.length = n ∧ n ≤ 9223372036854775807 ∧ Byte zs ∧ At .u8 W a zs := by
  rcases open_ints Try.underlying22 Try.underlying5 (by kernel_rfl) h with ⟨hcs, _⟩ | ⟨x, l, c, zs, hcs, _, hl, hm, hz, _, hcell, hwz⟩
  · simp at hcs
    exact ⟨none, 0, 0, [], hcs, rfl, by omega, by simp [Byte], .inl rfl⟩
  · simp at hcs
    have hz' : zs.length = c := by simpa using hz
    refine ⟨some x, l, c, zs.take l, hcs, by simp; omega, by unfold maxLen at hm; omega, fun n hn => ?_, ?_⟩
    · have := hwz n (List.mem_of_mem_take hn)
      simp [Lit.wf, IntKind.min, IntKind.max, IntKind.signed, IntKind.bits] at this
      omega
    · by_cases h0 : l = 0
      · left; simp [h0]
      · right
        obtain ⟨b, off, spot⟩ := x
        have hc0 := hcell 0 (by omega)
        have hs : spot = none := by simpa [Addr.add] using World.cell?_spot hc0
        subst hs
        refine ⟨b, off, rfl, block_lt_of_cell (a := (⟨b, off, none⟩ : Addr).add 0) hc0, fun i hi => ?_⟩
        have hi' : i < l := by simp at hi; omega
        have := hcell i (by omega)
        rw [Addr.add_lit] at this
        rw [this]
        simp [List.getD, hi']
end
theorem DVW.mono {lo lo' : Nat} {w : World} {v : Value} {r : DkR} (h : DVW lo w v r) (hl : lo' ≤ lo) : DVW lo' w v r := by
  obtain ⟨aD, nD, cD, aU, nU, cU, e, h1, h2, h3, h4, l1, l2⟩ := h
  exact ⟨aD, nD, cD, aU, nU, cU, e, h1, h2, h3, h4, l1.mono hl (Nat.le_refl _), l2.mono hl (Nat.le_refl _)⟩
theorem dkF_of_ok {zs : List Int} {g' t' : Int} {D' U' : List Int} (h : dkF zs = ⟨true, g', t', D', U'⟩) : SnP g' t' D' U' ∧ (Byte zs → U32 g' ∧ U32 t') ∧ snL g' t' D' U' = zs ∧ D'.length ≤ 256 ∧ U'.length ≤ 256 := by
  have hb := dkF_bd zs
  rw [h] at hb
  unfold dkF at h
  split at h
  · rename_i hc
    unfold dkYes at h
    simp only [DkR.mk.injEq] at h
    obtain ⟨_, h1, h2, h3, h4⟩ := h
    have hE := hc.2.2
    unfold dkE at hE
    rw [h1, h2, h3, h4] at hE
    have hs : SnP g' t' D' U' := by
      refine Classical.byContradiction (fun hn => ?_)
      unfold snE at hE
      rw [snB_no hn] at hE
      have := hc.1
      rw [← hE] at this
      simp at this
    refine ⟨hs, fun hz => ⟨by rw [← h1]; exact num4_u32 zs hz 0, by rw [← h2]; exact num4_u32 zs hz 8⟩, ?_, hb.1, hb.2⟩
    unfold snE at hE
    rw [snB_yes hs] at hE
    exact hE
  · unfold dkNo at h
    simp at h
set_option maxRecDepth 100000 in
set_option maxHeartbeats 16000000 in
theorem walk (a0 a1 : Option Addr) (len0 cap0 len1 cap1 : Nat) (zs0 ys : List Int) (w : World) (hn : zs0.length = len0) (hn1 : ys.length = len1) (hz : Byte zs0) (hz1 : Byte ys) (ha : At .u8 w a0 zs0) (ha1 : At .u8 w a1 ys) :
    Calls Try.prog 4 #[.slice a0 len0 cap0, .slice a1 len1 cap1] w fun e w' => e = .returned (.bool true) ∧ Below w.heap.size w w' := by
  by_cases hl : (1048576 : Int) < (len0 : Int)
  · go_enter Try.func4, Try.ntmps4
    go_wp2
    go_ret
    exact ⟨rfl, Below.refl _ _⟩
  by_cases hlb : (1048576 : Int) < (len1 : Int)
  · go_enter Try.func4, Try.ntmps4
    go_wp2
    go_ret
    exact ⟨rfl, Below.refl _ _⟩
  have hl0 : len0 ≤ 1048576 := by omega
  have hl1 : len1 ≤ 1048576 := by omega
  have HZ : Hid (zs0.length = len0 ∧ Byte zs0 ∧ At .u8 w a0 zs0) := ⟨hn, hz, ha⟩
  have HY : Hid (ys.length = len1 ∧ Byte ys ∧ At .u8 w a1 ys) := ⟨hn1, hz1, ha1⟩
  have HSN : Hid ((Try.prog.info? 26).map (·.size) = some 4) := by show _ = _; kernel_rfl
  have HSR : Hid ((Try.prog.info? 28).map (·.size) = some 5) := by show _ = _; kernel_rfl
  clear hn hn1 hz hz1 ha ha1
  go_enter Try.func4, Try.ntmps4
  go_wp2_with fail
  refine (drawE_any a0 len0 cap0 zs0 w HZ.out.1 hl0 HZ.out.2.1 HZ.out.2.2).mono ?_
  rintro e w1 ⟨v1, rfl, hv1, hb1⟩
  obtain ⟨gn, tl, aD, nD, cD, aU, nU, cU, D, U, rfl, ug, ut, lD, lU, i1, i2⟩ := hv1
  obtain ⟨sD, mD, _⟩ := i1.sat
  obtain ⟨sU, mU, _⟩ := i2.sat
  have b2 := below_new w1 (.cells #[.int .u32 gn, .int .u32 tl, .slice aD nD cD, .slice aU nU cU] 26)
  have HU : Hid (U32 gn ∧ U32 tl) := ⟨ug, ut⟩
  have HN : Hid (D.length = nD ∧ U.length = nU) := ⟨mD, mU⟩
  have hmD : nD ≤ 1048576 := by omega
  have hmU : nU ≤ 1048576 := by omega
  have HWE : Hid ((w1.alloc (.cells #[.int .u32 0, .int .u32 0, .slice none 0 0, .slice none 0 0] 26)).setRow w1.heap.size #[.int .u32 gn, .int .u32 tl, .slice aD nD cD, .slice aU nU cU] = w1.alloc (.cells #[.int .u32 gn, .int .u32 tl, .slice aD nD cD, .slice aU nU cU] 26)) := World.setRow_alloc_new _ _ _ _
  have HNB : Hid ((w1.alloc (.cells #[.int .u32 0, .int .u32 0, .slice none 0 0, .slice none 0 0] 26)).heap[w1.heap.size]? = some (.cells #[.int .u32 0, .int .u32 0, .slice none 0 0, .slice none 0 0] 26 (0, 0))) := heap_alloc_new w1 _
  have HB2 : Hid (Below w.heap.size w (w1.alloc (.cells #[.int .u32 gn, .int .u32 tl, .slice aD nD cD, .slice aU nU cU] 26))) := hb1.trans (b2.mono hb1.size)
  have HS2 : Hid ((w1.alloc (.cells #[.int .u32 gn, .int .u32 tl, .slice aD nD cD, .slice aU nU cU] 26)).heap[w1.heap.size]? = some (.cells #[.int .u32 gn, .int .u32 tl, .slice aD nD cD, .slice aU nU cU] 26 (0, 0))) := heap_alloc_new w1 _
  have HA2 : Hid (At .i64 (w1.alloc (.cells #[.int .u32 gn, .int .u32 tl, .slice aD nD cD, .slice aU nU cU] 26)) aD D ∧ At .i64 (w1.alloc (.cells #[.int .u32 gn, .int .u32 tl, .slice aD nD cD, .slice aU nU cU] 26)) aU U) := ⟨sD.at_.below b2, sU.at_.below b2⟩
  clear ug ut lD lU i1 i2 sD sU mD mU b2 hb1
  go_upto_region 4 with (first
    | (refine wpList_store_row rfl 26 (.tmp 5) (.tmp 19) rfl w1.heap.size #[.int .u32 gn, .int .u32 tl, .slice aD nD cD, .slice aU nU cU] rfl rfl 26 _ HNB.out HSN.out rfl (all4n _ _ _ _ _ _ _ _) ?_)
    | fail)
  rw [HWE.out]
  clear HWE HNB
  generalize w1.alloc (.cells #[.int .u32 gn, .int .u32 tl, .slice aD nD cD, .slice aU nU cU] 26) = w2 at *
  generalize w1.heap.size = S at *
  go_wp2_with (first
    | (refine wpList_load_row rfl 26 (.tmp 5) rfl S rfl 26 _ (0, 0) _ HS2.out Try.underlying26 rfl HSN.out ?_)
    | fail)
  refine (ses_any gn tl aD aU nD cD nU cU D U w2 HN.out.1 HN.out.2 hmD hmU HA2.out.1 HA2.out.2 HU.out.1 HU.out.2).mono ?_
  rintro e w3 ⟨v3, rfl, ho3, hb3⟩
  have HB3 : Hid (Below w.heap.size w w3) := HB2.out.trans (hb3.mono HB2.out.size)
  have HS3 : Hid (w3.heap[S]? = some (.cells #[.int .u32 gn, .int .u32 tl, .slice aD nD cD, .slice aU nU cU] 26 (0, 0))) := by show _ = _; rw [hb3.block S (lt_of_get HS2.out)]; exact HS2.out
  have HA3 : Hid (At .i64 w3 aD D ∧ At .i64 w3 aU U) := ⟨HA2.out.1.below hb3, HA2.out.2.below hb3⟩
  clear hb3 HB2 HS2 HA2
  by_cases hs : SnP gn tl D U
  · have hE : snE gn tl D U = snL gn tl D U := by unfold snE; rw [snB_yes hs]; rfl
    have hlen : (snL gn tl D U).length = 128 := END_len
    rw [hE] at ho3
    obtain ⟨q3, c3, rfl, _, _, hc3⟩ := ho3.base
    rw [hlen]
    have HIE := hid_of (ies_yes gn tl aD aU nD cD nU cU D U w3 HN.out.1 HN.out.2 hmD hmU HA3.out.1 HA3.out.2 HU.out.1 HU.out.2 hs)
    have HSP := hid_of hs
    clear ho3 hc3 hE hlen hs
    go_wp2_with (first
      | (refine wpList_load_row rfl 26 (.tmp 5) rfl S rfl 26 _ (0, 0) _ HS3.out Try.underlying26 rfl HSN.out ?_)
      | fail)
    refine HIE.out.mono ?_
    rintro e w4 ⟨v4, rfl, ⟨B4, _, ho4⟩, hb4⟩
    obtain ⟨q4, c4, e4, _, _, hc4, ha4, _⟩ := ho4.atD
    have hlen : (snL gn tl D U).length = 128 := END_len
    rw [hlen] at e4 hc4
    subst e4
    have HB4 : Hid (Below w.heap.size w w4) := HB3.out.trans (hb4.mono HB3.out.size)
    have HS4 : Hid (w4.heap[S]? = some (.cells #[.int .u32 gn, .int .u32 tl, .slice aD nD cD, .slice aU nU cU] 26 (0, 0))) := by show _ = _; rw [hb4.block S (lt_of_get HS3.out)]; exact HS3.out
    have HA4 : Hid (At .i64 w4 aD D ∧ At .i64 w4 aU U) := ⟨HA3.out.1.below hb4, HA3.out.2.below hb4⟩
    have hzb : Byte (snL gn tl D U) := by have h := snE_byte (D := D) (U := U) HU.out.1 HU.out.2; unfold snE at h; rw [snB_yes HSP.out] at h; exact h
    have A := hid_of (idk_any (some ⟨q4, 0, none⟩) 128 c4 (snL gn tl D U) w4 hlen (by decide) hc4 ha4 hzb)
    rw [dk_code HSP.out HU.out.1 HU.out.2] at A
    clear HIE ho4 hc4 ha4 hb4 hlen hzb HB3 HS3 HA3
    go_wp2_with fail
    refine A.out.mono ?_
    rintro e w5 ⟨v5, rfl, hv5, hb5⟩
    obtain ⟨xD, yD, zD, xU, yU, zU, rfl, s5⟩ := hv5
    have e1 : nD = yD := by have h2 := HN.out.1; have h3 : D.length = yD := s5.nd; omega
    have e2 : nU = yU := by have h2 := HN.out.2; have h3 : U.length = yU := s5.nu; omega
    subst e1
    subst e2
    clear A
    have b6 := below_new w5 (.cells #[.bool true, .int .u32 gn, .int .u32 tl, .slice xD nD zD, .slice xU nU zU] 28)
    have HWE : Hid ((w5.alloc (.cells #[.bool false, .int .u32 0, .int .u32 0, .slice none 0 0, .slice none 0 0] 28)).setRow w5.heap.size #[.bool true, .int .u32 gn, .int .u32 tl, .slice xD nD zD, .slice xU nU zU] = w5.alloc (.cells #[.bool true, .int .u32 gn, .int .u32 tl, .slice xD nD zD, .slice xU nU zU] 28)) := World.setRow_alloc_new _ _ _ _
    have HNB : Hid ((w5.alloc (.cells #[.bool false, .int .u32 0, .int .u32 0, .slice none 0 0, .slice none 0 0] 28)).heap[w5.heap.size]? = some (.cells #[.bool false, .int .u32 0, .int .u32 0, .slice none 0 0, .slice none 0 0] 28 (0, 0))) := heap_alloc_new w5 _
    have HB6 : Hid (Below w.heap.size w (w5.alloc (.cells #[.bool true, .int .u32 gn, .int .u32 tl, .slice xD nD zD, .slice xU nU zU] 28))) := (HB4.out.trans (hb5.mono HB4.out.size)).trans (b6.mono (Nat.le_trans HB4.out.size hb5.size))
    have HX6 : Hid ((w5.alloc (.cells #[.bool true, .int .u32 gn, .int .u32 tl, .slice xD nD zD, .slice xU nU zU] 28)).heap[w5.heap.size]? = some (.cells #[.bool true, .int .u32 gn, .int .u32 tl, .slice xD nD zD, .slice xU nU zU] 28 (0, 0))) := heap_alloc_new w5 _
    have HS6 : Hid ((w5.alloc (.cells #[.bool true, .int .u32 gn, .int .u32 tl, .slice xD nD zD, .slice xU nU zU] 28)).heap[S]? = some (.cells #[.int .u32 gn, .int .u32 tl, .slice aD nD cD, .slice aU nU cU] 26 (0, 0))) := by show _ = _; rw [b6.block S (Nat.lt_of_lt_of_le (lt_of_get HS4.out) hb5.size), hb5.block S (lt_of_get HS4.out)]; exact HS4.out
    have HA6 : Hid (At .i64 (w5.alloc (.cells #[.bool true, .int .u32 gn, .int .u32 tl, .slice xD nD zD, .slice xU nU zU] 28)) aD D ∧ At .i64 (w5.alloc (.cells #[.bool true, .int .u32 gn, .int .u32 tl, .slice xD nD zD, .slice xU nU zU] 28)) aU U) := ⟨(HA4.out.1.below hb5).below b6, (HA4.out.2.below hb5).below b6⟩
    have HT6 : Hid (At .i64 (w5.alloc (.cells #[.bool true, .int .u32 gn, .int .u32 tl, .slice xD nD zD, .slice xU nU zU] 28)) xD D ∧ At .i64 (w5.alloc (.cells #[.bool true, .int .u32 gn, .int .u32 tl, .slice xD nD zD, .slice xU nU zU] 28)) xU U) := ⟨s5.d.at_.below b6, s5.u.at_.below b6⟩
    clear s5
    clear b6 hb5 HS4 HA4 HB4
    go_upto_region 6 with (first
      | (refine wpList_store_row rfl 28 (.tmp 7) (.tmp 26) rfl w5.heap.size #[.bool true, .int .u32 gn, .int .u32 tl, .slice xD nD zD, .slice xU nU zU] rfl rfl 28 _ HNB.out HSR.out rfl (all5s _ _ _ _ _ _ _ _ _) ?_)
      | fail)
    rw [HWE.out]
    clear HWE HNB
    generalize w5.alloc (.cells #[.bool true, .int .u32 gn, .int .u32 tl, .slice xD nD zD, .slice xU nU zU] 28) = w6 at *
    generalize w5.heap.size = R7 at *
    have r0 : w6.cell? ⟨R7, 0, none⟩ = some (.bool true) := cell_of_row _ _ _ _ _ _ HX6.out
    have r1 : w6.cell? ⟨R7, 1, none⟩ = some (.int .u32 gn) := cell_of_row _ _ _ _ _ _ HX6.out
    have r2 : w6.cell? ⟨R7, 2, none⟩ = some (.int .u32 tl) := cell_of_row _ _ _ _ _ _ HX6.out
    have r3 : w6.cell? ⟨R7, 3, none⟩ = some (.slice xD nD zD) := cell_of_row _ _ _ _ _ _ HX6.out
    have s0 : w6.cell? ⟨S, 0, none⟩ = some (.int .u32 gn) := cell_of_row _ _ _ _ _ _ HS6.out
    have s1 : w6.cell? ⟨S, 1, none⟩ = some (.int .u32 tl) := cell_of_row _ _ _ _ _ _ HS6.out
    have s2 : w6.cell? ⟨S, 2, none⟩ = some (.slice aD nD cD) := cell_of_row _ _ _ _ _ _ HS6.out
    have ng : (gn != gn) = false := by simp
    have nt : (tl != tl) = false := by simp
    go_wp2_with fail
    refine (nums_any xD aD nD zD cD D w6 HN.out.1 hmD HT6.out.1 HA6.out.1).mono ?_
    rintro e w7 ⟨rfl, q7, hw7⟩
    have b7 : Below w6.heap.size w6 w7 := by rw [hw7]; exact ⟨rfl, rfl, rfl, Nat.le_refl _, fun _ _ => rfl⟩
    have r4 : w7.cell? ⟨R7, 4, none⟩ = some (.slice xU nU zU) := by rw [b7.cell (p := ⟨R7, 4, none⟩) (lt_of_get HX6.out)]; exact cell_of_row _ _ _ _ _ _ HX6.out
    have s3 : w7.cell? ⟨S, 3, none⟩ = some (.slice aU nU cU) := by rw [b7.cell (p := ⟨S, 3, none⟩) (lt_of_get HS6.out)]; exact cell_of_row _ _ _ _ _ _ HS6.out
    have HU7 : Hid (At .i64 w7 xU U ∧ At .i64 w7 aU U) := ⟨HT6.out.2.below b7, HA6.out.2.below b7⟩
    have HB7 : Hid (Below w.heap.size w w7) := HB6.out.trans (b7.mono HB6.out.size)
    clear r0 r1 r2 r3 s0 s1 s2 ng nt hw7 b7
    go_wp2_with fail
    refine (nums_any xU aU nU zU cU U w7 HN.out.2 hmU HU7.out.1 HU7.out.2).mono ?_
    rintro e w8 ⟨rfl, q8, hw8⟩
    have HB8 : Hid (Below w.heap.size w w8) := HB7.out.trans (by rw [hw8]; exact ⟨rfl, rfl, rfl, HB7.out.size |> fun _ => Nat.le_refl _, fun _ _ => rfl⟩)
    clear r4 s3 hw8 HU7 HB7 HX6 HS6 HA6 HT6 HB6
    go_wp2_with fail
    refine (drawD_any a1 len1 cap1 ys w8 HY.out.1 hl1 HY.out.2.1 (HY.out.2.2.below HB8.out)).mono ?_
    rintro e w9 ⟨v9, rfl, ⟨ab, nb, cbb, zs, rfl, hnb, hnc, hnm, hzb, hat⟩, hb9⟩
    have HB9 : Hid (Below w.heap.size w w9) := HB8.out.trans (hb9.mono HB8.out.size)
    have HTX9 : Hid (zs.length = nb ∧ nb ≤ cbb ∧ nb ≤ 1048576 ∧ Byte zs ∧ At .u8 w9 ab zs) := ⟨hnb, hnc, hnm, hzb, hat⟩
    clear hnb hnc hnm hzb hat hb9
    go_wp2_with fail
    refine (idk_any ab nb cbb zs w9 HTX9.out.1 HTX9.out.2.2.1 HTX9.out.2.1 HTX9.out.2.2.2.2 HTX9.out.2.2.2.1).mono ?_
    rintro e w10 ⟨v10, rfl, hv10, hb10⟩
    obtain ⟨r, hr⟩ : ∃ r, dkF zs = r := ⟨_, rfl⟩
    rw [hr] at hv10
    have HR : Hid (dkF zs = r) := hr
    clear hr
    obtain ⟨ok, g', t', D', U'⟩ := r
    obtain ⟨dD, mD, eD, dU, mU, eU, rfl, s3⟩ := hv10
    have b11 := below_new w10 (.cells #[.bool ok, .int .u32 g', .int .u32 t', .slice dD mD eD, .slice dU mU eU] 28)
    have HWE : Hid ((w10.alloc (.cells #[.bool false, .int .u32 0, .int .u32 0, .slice none 0 0, .slice none 0 0] 28)).setRow w10.heap.size #[.bool ok, .int .u32 g', .int .u32 t', .slice dD mD eD, .slice dU mU eU] = w10.alloc (.cells #[.bool ok, .int .u32 g', .int .u32 t', .slice dD mD eD, .slice dU mU eU] 28)) := World.setRow_alloc_new _ _ _ _
    have HNB : Hid ((w10.alloc (.cells #[.bool false, .int .u32 0, .int .u32 0, .slice none 0 0, .slice none 0 0] 28)).heap[w10.heap.size]? = some (.cells #[.bool false, .int .u32 0, .int .u32 0, .slice none 0 0, .slice none 0 0] 28 (0, 0))) := heap_alloc_new w10 _
    have HB11 : Hid (Below w.heap.size w (w10.alloc (.cells #[.bool ok, .int .u32 g', .int .u32 t', .slice dD mD eD, .slice dU mU eU] 28))) := (HB9.out.trans (hb10.mono HB9.out.size)).trans (b11.mono (Nat.le_trans HB9.out.size hb10.size))
    have HTX : Hid (zs.length = nb ∧ Byte zs ∧ At .u8 (w10.alloc (.cells #[.bool ok, .int .u32 g', .int .u32 t', .slice dD mD eD, .slice dU mU eU] 28)) ab zs) := ⟨HTX9.out.1, HTX9.out.2.2.2.1, (HTX9.out.2.2.2.2.below hb10).below b11⟩
    have HTN : Hid (nb ≤ 1048576) := HTX9.out.2.2.1
    have HS3 : Hid (S3 w9.heap.size (w10.alloc (.cells #[.bool ok, .int .u32 g', .int .u32 t', .slice dD mD eD, .slice dU mU eU] 28)) dD dU none mD mU 0 D' U' []) := s3.below b11
    have HR9 : Hid ((w10.alloc (.cells #[.bool ok, .int .u32 g', .int .u32 t', .slice dD mD eD, .slice dU mU eU] 28)).heap[w10.heap.size]? = some (.cells #[.bool ok, .int .u32 g', .int .u32 t', .slice dD mD eD, .slice dU mU eU] 28 (0, 0))) := heap_alloc_new w10 _
    have HRL : Hid (w10.heap.size < (w10.alloc (.cells #[.bool ok, .int .u32 g', .int .u32 t', .slice dD mD eD, .slice dU mU eU] 28)).heap.size) := by show _ < _; simp
    clear b11 s3 hb10 HTX9 HB9
    go_upto_region 12 with (first
      | (refine wpList_store_row rfl 28 (.tmp 9) (.tmp 69) rfl w10.heap.size #[.bool ok, .int .u32 g', .int .u32 t', .slice dD mD eD, .slice dU mU eU] rfl rfl 28 _ HNB.out HSR.out rfl (all5s _ _ _ _ _ _ _ _ _) ?_)
      | fail)
    rw [HWE.out]
    clear HWE HNB
    generalize w10.alloc (.cells #[.bool ok, .int .u32 g', .int .u32 t', .slice dD mD eD, .slice dU mU eU] 28) = w11 at *
    generalize w10.heap.size = R9 at *
    have HSD : Hid (∀ w', Below w11.heap.size w11 w' → Calls Try.prog 5 #[.slice ab nb cbb] w' fun e w'' => ∃ v, e = .returned v ∧ DVW w'.heap.size w'' v ⟨ok, g', t', D', U'⟩ ∧ Below w'.heap.size w' w'') := fun w' b => by
      have := sdk_any ab nb cbb zs w' HTX.out.1 HTN.out (HTX.out.2.2.below b) HTX.out.2.1
      rw [HR.out] at this; exact this
    cases ok
    · have ho : dkF zs = ⟨false, g', t', D', U'⟩ := HR.out
      clear ho
      refine wp_region_any (by kernel_rfl) ?_
      refine wpAny_slotsU (fun _ a b => Below a.heap.size a b) (frame := (fun (c0 c1 c2 c3 c5 c6 c7 c8 c9 c10 c11 c12 c13 c14 c15 c16 c17 c18 c19 c20 c21 c22 c23 c24 c25 c26 c27 c28 c29 c30 c31 c32 c33 c34 c35 c36 c37 c38 c39 c40 c41 c42 c43 c44 c45 c46 c47 c48 c49 c50 c51 c52 c53 c54 c55 c56 c57 c58 c59 c60 c61 c62 c63 c64 c65 c66 c67 c68 c69 : Value) => fun (t : Nat → Value) => ({ tmps := List.toArray (c0 :: c1 :: c2 :: c3 :: t 18 :: c5 :: c6 :: c7 :: c8 :: c9 :: c10 :: c11 :: c12 :: c13 :: c14 :: c15 :: c16 :: c17 :: c18 :: c19 :: c20 :: c21 :: c22 :: c23 :: c24 :: c25 :: c26 :: c27 :: c28 :: c29 :: c30 :: c31 :: c32 :: c33 :: c34 :: c35 :: c36 :: c37 :: c38 :: c39 :: c40 :: c41 :: c42 :: c43 :: c44 :: c45 :: c46 :: c47 :: c48 :: c49 :: c50 :: c51 :: c52 :: c53 :: c54 :: c55 :: c56 :: c57 :: c58 :: c59 :: c60 :: c61 :: c62 :: c63 :: c64 :: c65 :: c66 :: c67 :: c68 :: c69 :: t 0 :: t 1 :: t 2 :: t 3 :: t 4 :: t 5 :: t 6 :: t 7 :: t 8 :: t 9 :: t 10 :: t 11 :: t 12 :: t 13 :: t 14 :: t 15 :: t 16 :: t 17 :: []), defers := [] } : Act)) _ _ _ _ _ _ _ _ _ _ _ _ _ _ _ _ _ _ _ _ _ _ _ _ _ _ _ _ _ _ _ _ _ _ _ _ _ _ _ _ _ _ _ _ _ _ _ _ _ _ _ _ _ _ _ _ _ _ _ _ _ _ _ _ _ _ _ _ _)
        (Ext := fun L u w' => ApX w11 [] L u w') (Good := fun i L w' v => if i = 0 then v = .pointer (some ⟨R9, 0, none⟩) else if i = 1 then v = .bool false else if i = 2 then v = .slice ab nb cbb else if i = 3 then DVW w11.heap.size w' v ⟨false, g', t', D', U'⟩ else if i = 4 then v = .bool false else if i = 5 then v = .bool true else if i = 6 then v = .bool true else if i = 7 then v = .pointer (some ⟨R9, 0, none⟩) else if i = 8 then v = .bool false else if i = 9 then v = .bool true else if i = 10 then v = .bool true else if i = 11 then True else if i = 12 then True else if i = 13 then True else if i = 14 then True else if i = 15 then True else if i = 16 then v = .bool true else if i = 17 then v = .bool true else if i = 18 then v = .bool true else True) ?hstab (by kernel_rfl) ?hop ?hdone _ _ ((fun (x0 x1 x2 x3 x4 x5 x6 x7 x8 x9 x10 x11 x12 x13 x14 x15 x16 x17 x18 : Value) => fun (i : Nat) => if i = 0 then x0 else if i = 1 then x1 else if i = 2 then x2 else if i = 3 then x3 else if i = 4 then x4 else if i = 5 then x5 else if i = 6 then x6 else if i = 7 then x7 else if i = 8 then x8 else if i = 9 then x9 else if i = 10 then x10 else if i = 11 then x11 else if i = 12 then x12 else if i = 13 then x13 else if i = 14 then x14 else if i = 15 then x15 else if i = 16 then x16 else if i = 17 then x17 else if i = 18 then x18 else undef) _ _ _ _ _ _ _ _ _ _ _ _ _ _ _ _ _ _ _) _ (by simp) ?ext ?start (by simp)
      case start => intro i hi h; exact absurd h (by rw [Array.getD_eq_getD_getElem?, Array.getElem?_replicate]; split <;> simp)
      case ext => exact (ApX.start w11 [] _ _ (fun i => by rw [Array.getD_eq_getD_getElem?, Array.getElem?_replicate]; split <;> rfl)).drew
      case hstab =>
        intro j L w9 w' i v hM _ _ h
        by_cases h3 : j = 3
        · subst h3
          simp at h ⊢
          exact h.below hM
        simp only [if_neg h3] at h ⊢
        exact h
      case hop =>
        intro i o L t w' ho hLi hx hdep K hK
        have hi : i < 19 := (Array.getElem?_eq_some_iff.1 ho).1
        obtain rfl | rfl | rfl | rfl | rfl | rfl | rfl | rfl | rfl | rfl | rfl | rfl | rfl | rfl | rfl | rfl | rfl | rfl | rfl : i = 0 ∨ i = 1 ∨ i = 2 ∨ i = 3 ∨ i = 4 ∨ i = 5 ∨ i = 6 ∨ i = 7 ∨ i = 8 ∨ i = 9 ∨ i = 10 ∨ i = 11 ∨ i = 12 ∨ i = 13 ∨ i = 14 ∨ i = 15 ∨ i = 16 ∨ i = 17 ∨ i = 18 := by omega
        all_goals (simp at ho; subst ho)
        · clear hdep
          have hK' := hK w' (.pointer (some ⟨R9, 0, none⟩)) (by simp) (hx.step 0 _ (Below.refl _ _) (fun h => absurd h (by decide))) (Below.refl _ _)
          clear hK
          rw [if_pos (by rfl)]
          go_simp
          simpa [upd] using hK'
        · have d0 : t 0 = .pointer (some ⟨R9, 0, none⟩) := by simpa using (hdep ⟨0, .data⟩ (by simp) rfl).2
          clear hdep
          have hrw : w'.heap[R9]? = some (.cells #[.bool false, .int .u32 g', .int .u32 t', .slice dD mD eD, .slice dU mU eU] 28 (0, 0)) := by rw [hx.below.block R9 HRL.out]; exact HR9.out
          have cc : w'.cell? ⟨R9, 0, none⟩ = some (.bool false) := cell_of_row _ _ _ _ _ _ hrw
          clear hrw
          have hK' := hK w' (.bool false) (by simp) (hx.step 1 _ (Below.refl _ _) (fun h => absurd h (by decide))) (Below.refl _ _)
          clear hK
          rw [if_pos (by rfl)]
          go_simp
          simpa [upd, d0] using hK'
        · clear hdep
          have hK' := hK w' (.slice ab nb cbb) (by simp) (hx.step 2 _ (Below.refl _ _) (fun h => absurd h (by decide))) (Below.refl _ _)
          clear hK
          rw [if_pos (by rfl)]
          go_simp
          simpa [upd] using hK'
        · have d2 : t 2 = .slice ab nb cbb := by simpa using (hdep ⟨2, .data⟩ (by simp) rfl).2
          clear hdep
          have hsz : w11.heap.size ≤ w'.heap.size := hx.below.size
          have A := HSD.out w' hx.below
          have hK' : ∀ ww v, DVW w11.heap.size ww v ⟨false, g', t', D', U'⟩ → Below w'.heap.size w' ww → K _ ww := fun ww v hv hb => hK ww v (by simpa using hv) (hx.step 3 v hb (fun h => absurd h (by decide))) hb
          clear hK
          rw [if_pos (by rfl)]
          go_simp
          try simp only [d2]
          refine A.mono ?_
          rintro e w9 ⟨v9, rfl, hv9, hb9⟩
          have hK2 := hK' w9 v9 (DVW.mono hv9 hsz)  hb9
          clear hK' A hv9 hb9
          go_simp
          simpa [upd, d2] using hK2
        · have f3 : DVW w11.heap.size w' (t 3) ⟨false, g', t', D', U'⟩ := by simpa using (hdep ⟨3, .data⟩ (by simp) rfl).2
          clear hdep
          obtain ⟨xD, xn, xc, xU, xm, xd, e3, _⟩ := f3
          have hK' := hK w' (.bool false) (by simp) (hx.step 4 _ (Below.refl _ _) (fun h => absurd h (by decide))) (Below.refl _ _)
          clear hK
          rw [if_pos (by rfl)]
          go_simp
          simp [upd, e3] at hK' ⊢
          go_simp
          exact hK'
        · have d1 : t 1 = .bool false := by simpa using (hdep ⟨1, .data⟩ (by simp) rfl).2
          have d4 : t 4 = .bool false := by simpa using (hdep ⟨4, .data⟩ (by simp) rfl).2
          clear hdep
          have hK' := hK w' (.bool true) (by simp) (hx.step 5 _ (Below.refl _ _) (fun h => absurd h (by decide))) (Below.refl _ _)
          clear hK
          rw [if_pos (by rfl)]
          go_simp
          simpa [upd, d1, d4] using hK'
        · have d5 : t 5 = .bool true := by simpa using (hdep ⟨5, .data⟩ (by simp) rfl).2
          clear hdep
          have hK' := hK w' (.bool true) (by simp) (hx.step 6 _ (Below.refl _ _) (fun h => absurd h (by decide))) (Below.refl _ _)
          clear hK
          rw [if_pos (by rfl)]
          go_simp
          simpa [upd, d5] using hK'
        · have d6 : t 6 = .bool true := by simpa using (hdep ⟨6, .guard⟩ (by simp) rfl).2
          clear hdep
          have hK' := hK w' (.pointer (some ⟨R9, 0, none⟩)) (by simp) (hx.step 7 _ (Below.refl _ _) (fun h => absurd h (by decide))) (Below.refl _ _)
          clear hK
          rw [if_pos (by simp [Region.wanted, yielded, d6])]
          go_simp
          simpa [upd, d6] using hK'
        · have d7 : t 7 = .pointer (some ⟨R9, 0, none⟩) := by simpa using (hdep ⟨7, .data⟩ (by simp) rfl).2
          have d6 : t 6 = .bool true := by simpa using (hdep ⟨6, .guard⟩ (by simp) rfl).2
          clear hdep
          have hrw : w'.heap[R9]? = some (.cells #[.bool false, .int .u32 g', .int .u32 t', .slice dD mD eD, .slice dU mU eU] 28 (0, 0)) := by rw [hx.below.block R9 HRL.out]; exact HR9.out
          have cc : w'.cell? ⟨R9, 0, none⟩ = some (.bool false) := cell_of_row _ _ _ _ _ _ hrw
          clear hrw
          have hK' := hK w' (.bool false) (by simp) (hx.step 8 _ (Below.refl _ _) (fun h => absurd h (by decide))) (Below.refl _ _)
          clear hK
          rw [if_pos (by simp [Region.wanted, yielded, d6])]
          go_simp
          simpa [upd, d6, d7] using hK'
        · have d8 : t 8 = .bool false := by simpa using (hdep ⟨8, .data⟩ (by simp) rfl).2
          have d6 : t 6 = .bool true := by simpa using (hdep ⟨6, .guard⟩ (by simp) rfl).2
          clear hdep
          have hK' := hK w' (.bool true) (by simp) (hx.step 9 _ (Below.refl _ _) (fun h => absurd h (by decide))) (Below.refl _ _)
          clear hK
          rw [if_pos (by simp [Region.wanted, yielded, d6])]
          go_simp
          simpa [upd, d6, d8] using hK'
        · have d9 : t 9 = .bool true := by simpa using (hdep ⟨9, .data⟩ (by simp) rfl).2
          have d6 : t 6 = .bool true := by simpa using (hdep ⟨6, .guard⟩ (by simp) rfl).2
          clear hdep
          have hK' := hK w' (.bool true) (by simp) (hx.step 10 _ (Below.refl _ _) (fun h => absurd h (by decide))) (Below.refl _ _)
          clear hK
          rw [if_pos (by simp [Region.wanted, yielded, d6])]
          go_simp
          simpa [upd, d6, d9] using hK'
        · have d10 : t 10 = .bool true := by simpa using (hdep ⟨10, .guard⟩ (by simp) rfl).2
          clear hdep
          have hK' := hK w' undef (by simp) (hx.step 11 _ (Below.refl _ _) (fun h => absurd h (by decide))) (Below.refl _ _)
          clear hK
          rw [if_neg (by simp [Region.wanted, yielded, d10])]
          go_simp
          simpa [upd, d10] using hK'
        · have d10 : t 10 = .bool true := by simpa using (hdep ⟨10, .guard⟩ (by simp) rfl).2
          clear hdep
          have hK' := hK w' undef (by simp) (hx.step 12 _ (Below.refl _ _) (fun h => absurd h (by decide))) (Below.refl _ _)
          clear hK
          rw [if_neg (by simp [Region.wanted, yielded, d10])]
          go_simp
          simpa [upd, d10] using hK'
        · have d10 : t 10 = .bool true := by simpa using (hdep ⟨10, .guard⟩ (by simp) rfl).2
          clear hdep
          have hK' := hK w' undef (by simp) (hx.step 13 _ (Below.refl _ _) (fun h => absurd h (by decide))) (Below.refl _ _)
          clear hK
          rw [if_neg (by simp [Region.wanted, yielded, d10])]
          go_simp
          simpa [upd, d10] using hK'
        · have d10 : t 10 = .bool true := by simpa using (hdep ⟨10, .guard⟩ (by simp) rfl).2
          clear hdep
          have hK' := hK w' undef (by simp) (hx.step 14 _ (Below.refl _ _) (fun h => absurd h (by decide))) (Below.refl _ _)
          clear hK
          rw [if_neg (by simp [Region.wanted, yielded, d10])]
          go_simp
          simpa [upd, d10] using hK'
        · have d10 : t 10 = .bool true := by simpa using (hdep ⟨10, .guard⟩ (by simp) rfl).2
          clear hdep
          have hK' := hK w' undef (by simp) (hx.step 15 _ (Below.refl _ _) (fun h => absurd h (by decide))) (Below.refl _ _)
          clear hK
          rw [if_neg (by simp [Region.wanted, yielded, d10])]
          go_simp
          simpa [upd, d10] using hK'
        · have d10 : t 10 = .bool true := by simpa using (hdep ⟨10, .data⟩ (by simp) rfl).2
          have d6 : t 6 = .bool true := by simpa using (hdep ⟨6, .guard⟩ (by simp) rfl).2
          clear hdep
          have hK' := hK w' (.bool true) (by simp) (hx.step 16 _ (Below.refl _ _) (fun h => absurd h (by decide))) (Below.refl _ _)
          clear hK
          rw [if_pos (by simp [Region.wanted, yielded, d6])]
          go_simp
          simpa [upd, d6, d10] using hK'
        · have d6 : t 6 = .bool true := by simpa using (hdep ⟨6, .data⟩ (by simp) rfl).2
          have d16 : t 16 = .bool true := by simpa using (hdep ⟨16, .data⟩ (by simp) rfl).2
          clear hdep
          have hK' := hK w' (.bool true) (by simp) (hx.step 17 _ (Below.refl _ _) (fun h => absurd h (by decide))) (Below.refl _ _)
          clear hK
          rw [if_pos (by rfl)]
          go_simp
          simpa [upd, d6, d16] using hK'
        · have d17 : t 17 = .bool true := by simpa using (hdep ⟨17, .data⟩ (by simp) rfl).2
          clear hdep
          have hK' := hK w' (.bool true) (by simp) (hx.step 18 _ (Below.refl _ _) (fun h => absurd h (by decide))) (Below.refl _ _)
          clear hK
          rw [if_pos (by rfl)]
          go_simp
          simpa [upd, d17] using hK'
      case hdone =>
        intro L t w13 hx hg
        have e18 : t 18 = .bool true := by simpa using hg 18 (by decide)
        clear hg
        have HF : Hid (Below w.heap.size w w13) := HB11.out.trans (hx.below.mono HB11.out.size)
        simp only [e18]
        clear hx e18
        go_wp2
        go_ret
        exact ⟨rfl, HF.out⟩
    · have hy := dkF_of_ok HR.out
      have HIE : Hid (∀ w', Below w11.heap.size w11 w' → Calls Try.prog 15 #[.agg #[.int .u32 g', .int .u32 t', .slice dD mD eD, .slice dU mU eU]] w' fun e w'' => ∃ v, e = .returned v ∧ OwnL w'.heap.size w'' v zs ∧ Below w'.heap.size w' w'') := fun w' b => by
        have hs3 := HS3.out.below b
        have hmD : mD ≤ 1048576 := by have h1 := hy.2.2.2.1; have h2 : D'.length = mD := hs3.nd; omega
        have hmU : mU ≤ 1048576 := by have h1 := hy.2.2.2.2; have h2 : U'.length = mU := hs3.nu; omega
        have := ies_yes g' t' dD dU mD eD mU eU D' U' w' hs3.nd hs3.nu hmD hmU hs3.d.at_ hs3.u.at_ (hy.2.1 HTX.out.2.1).1 (hy.2.1 HTX.out.2.1).2 hy.1
        rw [hy.2.2.1] at this; exact this
      clear hy
      refine wp_region_any (by kernel_rfl) ?_
      refine wpAny_slotsU (fun _ a b => Below a.heap.size a b) (frame := (fun (c0 c1 c2 c3 c5 c6 c7 c8 c9 c10 c11 c12 c13 c14 c15 c16 c17 c18 c19 c20 c21 c22 c23 c24 c25 c26 c27 c28 c29 c30 c31 c32 c33 c34 c35 c36 c37 c38 c39 c40 c41 c42 c43 c44 c45 c46 c47 c48 c49 c50 c51 c52 c53 c54 c55 c56 c57 c58 c59 c60 c61 c62 c63 c64 c65 c66 c67 c68 c69 : Value) => fun (t : Nat → Value) => ({ tmps := List.toArray (c0 :: c1 :: c2 :: c3 :: t 18 :: c5 :: c6 :: c7 :: c8 :: c9 :: c10 :: c11 :: c12 :: c13 :: c14 :: c15 :: c16 :: c17 :: c18 :: c19 :: c20 :: c21 :: c22 :: c23 :: c24 :: c25 :: c26 :: c27 :: c28 :: c29 :: c30 :: c31 :: c32 :: c33 :: c34 :: c35 :: c36 :: c37 :: c38 :: c39 :: c40 :: c41 :: c42 :: c43 :: c44 :: c45 :: c46 :: c47 :: c48 :: c49 :: c50 :: c51 :: c52 :: c53 :: c54 :: c55 :: c56 :: c57 :: c58 :: c59 :: c60 :: c61 :: c62 :: c63 :: c64 :: c65 :: c66 :: c67 :: c68 :: c69 :: t 0 :: t 1 :: t 2 :: t 3 :: t 4 :: t 5 :: t 6 :: t 7 :: t 8 :: t 9 :: t 10 :: t 11 :: t 12 :: t 13 :: t 14 :: t 15 :: t 16 :: t 17 :: []), defers := [] } : Act)) _ _ _ _ _ _ _ _ _ _ _ _ _ _ _ _ _ _ _ _ _ _ _ _ _ _ _ _ _ _ _ _ _ _ _ _ _ _ _ _ _ _ _ _ _ _ _ _ _ _ _ _ _ _ _ _ _ _ _ _ _ _ _ _ _ _ _ _ _)
        (Ext := fun L u w' => ApX w11 [] L u w') (Good := fun i L w' v => if i = 0 then v = .pointer (some ⟨R9, 0, none⟩) else if i = 1 then v = .bool true else if i = 2 then v = .slice ab nb cbb else if i = 3 then DVW w11.heap.size w' v ⟨true, g', t', D', U'⟩ else if i = 4 then v = .bool true else if i = 5 then v = .bool true else if i = 6 then v = .bool true else if i = 7 then v = .pointer (some ⟨R9, 0, none⟩) else if i = 8 then v = .bool true else if i = 9 then v = .bool false else if i = 10 then v = .bool false else if i = 11 then v = .pointer (some ⟨R9, 1, none⟩) else if i = 12 then v = .agg #[.int .u32 g', .int .u32 t', .slice dD mD eD, .slice dU mU eU] else if i = 13 then OwnL w11.heap.size w' v zs else if i = 14 then v = .slice ab nb cbb else if i = 15 then v = .bool true else if i = 16 then v = .bool true else if i = 17 then v = .bool true else if i = 18 then v = .bool true else True) ?hstab (by kernel_rfl) ?hop ?hdone _ _ ((fun (x0 x1 x2 x3 x4 x5 x6 x7 x8 x9 x10 x11 x12 x13 x14 x15 x16 x17 x18 : Value) => fun (i : Nat) => if i = 0 then x0 else if i = 1 then x1 else if i = 2 then x2 else if i = 3 then x3 else if i = 4 then x4 else if i = 5 then x5 else if i = 6 then x6 else if i = 7 then x7 else if i = 8 then x8 else if i = 9 then x9 else if i = 10 then x10 else if i = 11 then x11 else if i = 12 then x12 else if i = 13 then x13 else if i = 14 then x14 else if i = 15 then x15 else if i = 16 then x16 else if i = 17 then x17 else if i = 18 then x18 else undef) _ _ _ _ _ _ _ _ _ _ _ _ _ _ _ _ _ _ _) _ (by simp) ?ext ?start (by simp)
      case start => intro i hi h; exact absurd h (by rw [Array.getD_eq_getD_getElem?, Array.getElem?_replicate]; split <;> simp)
      case ext => exact (ApX.start w11 [] _ _ (fun i => by rw [Array.getD_eq_getD_getElem?, Array.getElem?_replicate]; split <;> rfl)).drew
      case hstab =>
        intro j L w9 w' i v hM _ _ h
        by_cases h3 : j = 3
        · subst h3
          simp at h ⊢
          exact h.below hM
        by_cases h13 : j = 13
        · subst h13
          simp at h ⊢
          exact h.below hM
        simp only [if_neg h3, if_neg h13] at h ⊢
        exact h
      case hop =>
        intro i o L t w' ho hLi hx hdep K hK
        have hi : i < 19 := (Array.getElem?_eq_some_iff.1 ho).1
        obtain rfl | rfl | rfl | rfl | rfl | rfl | rfl | rfl | rfl | rfl | rfl | rfl | rfl | rfl | rfl | rfl | rfl | rfl | rfl : i = 0 ∨ i = 1 ∨ i = 2 ∨ i = 3 ∨ i = 4 ∨ i = 5 ∨ i = 6 ∨ i = 7 ∨ i = 8 ∨ i = 9 ∨ i = 10 ∨ i = 11 ∨ i = 12 ∨ i = 13 ∨ i = 14 ∨ i = 15 ∨ i = 16 ∨ i = 17 ∨ i = 18 := by omega
        all_goals (simp at ho; subst ho)
        · clear hdep
          have hK' := hK w' (.pointer (some ⟨R9, 0, none⟩)) (by simp) (hx.step 0 _ (Below.refl _ _) (fun h => absurd h (by decide))) (Below.refl _ _)
          clear hK
          rw [if_pos (by rfl)]
          go_simp
          simpa [upd] using hK'
        · have d0 : t 0 = .pointer (some ⟨R9, 0, none⟩) := by simpa using (hdep ⟨0, .data⟩ (by simp) rfl).2
          clear hdep
          have hrw : w'.heap[R9]? = some (.cells #[.bool true, .int .u32 g', .int .u32 t', .slice dD mD eD, .slice dU mU eU] 28 (0, 0)) := by rw [hx.below.block R9 HRL.out]; exact HR9.out
          have cc : w'.cell? ⟨R9, 0, none⟩ = some (.bool true) := cell_of_row _ _ _ _ _ _ hrw
          clear hrw
          have hK' := hK w' (.bool true) (by simp) (hx.step 1 _ (Below.refl _ _) (fun h => absurd h (by decide))) (Below.refl _ _)
          clear hK
          rw [if_pos (by rfl)]
          go_simp
          simpa [upd, d0] using hK'
        · clear hdep
          have hK' := hK w' (.slice ab nb cbb) (by simp) (hx.step 2 _ (Below.refl _ _) (fun h => absurd h (by decide))) (Below.refl _ _)
          clear hK
          rw [if_pos (by rfl)]
          go_simp
          simpa [upd] using hK'
        · have d2 : t 2 = .slice ab nb cbb := by simpa using (hdep ⟨2, .data⟩ (by simp) rfl).2
          clear hdep
          have hsz : w11.heap.size ≤ w'.heap.size := hx.below.size
          have A := HSD.out w' hx.below
          have hK' : ∀ ww v, DVW w11.heap.size ww v ⟨true, g', t', D', U'⟩ → Below w'.heap.size w' ww → K _ ww := fun ww v hv hb => hK ww v (by simpa using hv) (hx.step 3 v hb (fun h => absurd h (by decide))) hb
          clear hK
          rw [if_pos (by rfl)]
          go_simp
          try simp only [d2]
          refine A.mono ?_
          rintro e w9 ⟨v9, rfl, hv9, hb9⟩
          have hK2 := hK' w9 v9 (DVW.mono hv9 hsz)  hb9
          clear hK' A hv9 hb9
          go_simp
          simpa [upd, d2] using hK2
        · have f3 : DVW w11.heap.size w' (t 3) ⟨true, g', t', D', U'⟩ := by simpa using (hdep ⟨3, .data⟩ (by simp) rfl).2
          clear hdep
          obtain ⟨xD, xn, xc, xU, xm, xd, e3, _⟩ := f3
          have hK' := hK w' (.bool true) (by simp) (hx.step 4 _ (Below.refl _ _) (fun h => absurd h (by decide))) (Below.refl _ _)
          clear hK
          rw [if_pos (by rfl)]
          go_simp
          simp [upd, e3] at hK' ⊢
          go_simp
          exact hK'
        · have d1 : t 1 = .bool true := by simpa using (hdep ⟨1, .data⟩ (by simp) rfl).2
          have d4 : t 4 = .bool true := by simpa using (hdep ⟨4, .data⟩ (by simp) rfl).2
          clear hdep
          have hK' := hK w' (.bool true) (by simp) (hx.step 5 _ (Below.refl _ _) (fun h => absurd h (by decide))) (Below.refl _ _)
          clear hK
          rw [if_pos (by rfl)]
          go_simp
          simpa [upd, d1, d4] using hK'
        · have d5 : t 5 = .bool true := by simpa using (hdep ⟨5, .data⟩ (by simp) rfl).2
          clear hdep
          have hK' := hK w' (.bool true) (by simp) (hx.step 6 _ (Below.refl _ _) (fun h => absurd h (by decide))) (Below.refl _ _)
          clear hK
          rw [if_pos (by rfl)]
          go_simp
          simpa [upd, d5] using hK'
        · have d6 : t 6 = .bool true := by simpa using (hdep ⟨6, .guard⟩ (by simp) rfl).2
          clear hdep
          have hK' := hK w' (.pointer (some ⟨R9, 0, none⟩)) (by simp) (hx.step 7 _ (Below.refl _ _) (fun h => absurd h (by decide))) (Below.refl _ _)
          clear hK
          rw [if_pos (by simp [Region.wanted, yielded, d6])]
          go_simp
          simpa [upd, d6] using hK'
        · have d7 : t 7 = .pointer (some ⟨R9, 0, none⟩) := by simpa using (hdep ⟨7, .data⟩ (by simp) rfl).2
          have d6 : t 6 = .bool true := by simpa using (hdep ⟨6, .guard⟩ (by simp) rfl).2
          clear hdep
          have hrw : w'.heap[R9]? = some (.cells #[.bool true, .int .u32 g', .int .u32 t', .slice dD mD eD, .slice dU mU eU] 28 (0, 0)) := by rw [hx.below.block R9 HRL.out]; exact HR9.out
          have cc : w'.cell? ⟨R9, 0, none⟩ = some (.bool true) := cell_of_row _ _ _ _ _ _ hrw
          clear hrw
          have hK' := hK w' (.bool true) (by simp) (hx.step 8 _ (Below.refl _ _) (fun h => absurd h (by decide))) (Below.refl _ _)
          clear hK
          rw [if_pos (by simp [Region.wanted, yielded, d6])]
          go_simp
          simpa [upd, d6, d7] using hK'
        · have d8 : t 8 = .bool true := by simpa using (hdep ⟨8, .data⟩ (by simp) rfl).2
          have d6 : t 6 = .bool true := by simpa using (hdep ⟨6, .guard⟩ (by simp) rfl).2
          clear hdep
          have hK' := hK w' (.bool false) (by simp) (hx.step 9 _ (Below.refl _ _) (fun h => absurd h (by decide))) (Below.refl _ _)
          clear hK
          rw [if_pos (by simp [Region.wanted, yielded, d6])]
          go_simp
          simpa [upd, d6, d8] using hK'
        · have d9 : t 9 = .bool false := by simpa using (hdep ⟨9, .data⟩ (by simp) rfl).2
          have d6 : t 6 = .bool true := by simpa using (hdep ⟨6, .guard⟩ (by simp) rfl).2
          clear hdep
          have hK' := hK w' (.bool false) (by simp) (hx.step 10 _ (Below.refl _ _) (fun h => absurd h (by decide))) (Below.refl _ _)
          clear hK
          rw [if_pos (by simp [Region.wanted, yielded, d6])]
          go_simp
          simpa [upd, d6, d9] using hK'
        · have d10 : t 10 = .bool false := by simpa using (hdep ⟨10, .guard⟩ (by simp) rfl).2
          clear hdep
          have hK' := hK w' (.pointer (some ⟨R9, 1, none⟩)) (by simp) (hx.step 11 _ (Below.refl _ _) (fun h => absurd h (by decide))) (Below.refl _ _)
          clear hK
          rw [if_pos (by simp [Region.wanted, yielded, d10])]
          go_simp
          simpa [upd, d10] using hK'
        · have d11 : t 11 = .pointer (some ⟨R9, 1, none⟩) := by simpa using (hdep ⟨11, .data⟩ (by simp) rfl).2
          have d10 : t 10 = .bool false := by simpa using (hdep ⟨10, .guard⟩ (by simp) rfl).2
          clear hdep
          have hrw : w'.heap[R9]? = some (.cells #[.bool true, .int .u32 g', .int .u32 t', .slice dD mD eD, .slice dU mU eU] 28 (0, 0)) := by rw [hx.below.block R9 HRL.out]; exact HR9.out
          have k1 : w'.cell? ⟨R9, 1, none⟩ = some (.int .u32 g') := cell_of_row _ _ _ _ _ _ hrw
          have k2 : w'.cell? ⟨R9, 2, none⟩ = some (.int .u32 t') := cell_of_row _ _ _ _ _ _ hrw
          have k3 : w'.cell? ⟨R9, 3, none⟩ = some (.slice dD mD eD) := cell_of_row _ _ _ _ _ _ hrw
          have k4 : w'.cell? ⟨R9, 4, none⟩ = some (.slice dU mU eU) := cell_of_row _ _ _ _ _ _ hrw
          have hK' := hK w' (.agg #[.int .u32 g', .int .u32 t', .slice dD mD eD, .slice dU mU eU]) (by simp) (hx.step 12 _ (Below.refl _ _) (fun h => absurd h (by decide))) (Below.refl _ _)
          clear hK hrw
          rw [if_pos (by simp [Region.wanted, yielded, d10])]
          go_simp
          simpa [upd, d10, d11, k1, k2, k3, k4] using hK'
        · have d12 : t 12 = .agg #[.int .u32 g', .int .u32 t', .slice dD mD eD, .slice dU mU eU] := by simpa using (hdep ⟨12, .data⟩ (by simp) rfl).2
          have d10 : t 10 = .bool false := by simpa using (hdep ⟨10, .guard⟩ (by simp) rfl).2
          clear hdep
          have hsz : w11.heap.size ≤ w'.heap.size := hx.below.size
          have A := HIE.out w' hx.below
          have hK' : ∀ ww v, OwnL w11.heap.size ww v zs → Below w'.heap.size w' ww → K _ ww := fun ww v hv hb => hK ww v (by simpa using hv) (hx.step 13 v hb (fun h => absurd h (by decide))) hb
          clear hK
          rw [if_pos (by simp [Region.wanted, yielded, d10])]
          go_simp
          try simp only [d12]
          refine A.mono ?_
          rintro e w12 ⟨v12, rfl, ho12, hb12⟩
          have hK2 := hK' w12 v12 (by obtain ⟨B, h1, h2⟩ := ho12; exact ⟨B, Nat.le_trans hsz h1, h2⟩) hb12
          clear hK' A ho12 hb12
          go_simp
          simpa [upd, d10, d12] using hK2
        · have d10 : t 10 = .bool false := by simpa using (hdep ⟨10, .guard⟩ (by simp) rfl).2
          clear hdep
          have hK' := hK w' (.slice ab nb cbb) (by simp) (hx.step 14 _ (Below.refl _ _) (fun h => absurd h (by decide))) (Below.refl _ _)
          clear hK
          rw [if_pos (by simp [Region.wanted, yielded, d10])]
          go_simp
          simpa [upd, d10] using hK'
        · have f13 : OwnL w11.heap.size w' (t 13) zs := by simpa using (hdep ⟨13, .data⟩ (by simp) rfl).2
          have d14 : t 14 = .slice ab nb cbb := by simpa using (hdep ⟨14, .data⟩ (by simp) rfl).2
          have d10 : t 10 = .bool false := by simpa using (hdep ⟨10, .guard⟩ (by simp) rfl).2
          clear hdep
          obtain ⟨B, _, ho13⟩ := f13
          obtain ⟨q13, c13, e13, _, _, _, ha13, _⟩ := ho13.atD
          have A := lwB_any (some ⟨q13, 0, none⟩) ab zs.length nb c13 cbb zs zs w' rfl HTX.out.1 ha13 (HTX.out.2.2.below hx.below) HTX.out.2.1 HTX.out.2.1
          have hdz : decide (zs = zs) = true := by simp
          rw [hdz] at A
          have hK' : ∀ ww, Below w'.heap.size w' ww → K _ ww := fun ww hb => hK ww (.bool true) (by simp) (hx.step 15 _ hb (fun h => absurd h (by decide))) hb
          clear hK ho13 ha13 hdz
          rw [if_pos (by simp [Region.wanted, yielded, d10])]
          go_simp
          try simp only [e13, d14]
          refine A.mono ?_
          rintro e w12 ⟨rfl, hw12⟩
          have hK2 := hK' w12 (by rw [hw12]; exact Below.refl _ _)
          clear hK' A hw12
          go_simp
          simpa [upd, d10, e13, d14] using hK2
        · have d10 : t 10 = .bool false := by simpa using (hdep ⟨10, .data⟩ (by simp) rfl).2
          have d15 : t 15 = .bool true := by simpa using (hdep ⟨15, .data⟩ (by simp) rfl).2
          have d6 : t 6 = .bool true := by simpa using (hdep ⟨6, .guard⟩ (by simp) rfl).2
          clear hdep
          have hK' := hK w' (.bool true) (by simp) (hx.step 16 _ (Below.refl _ _) (fun h => absurd h (by decide))) (Below.refl _ _)
          clear hK
          rw [if_pos (by simp [Region.wanted, yielded, d6])]
          go_simp
          simpa [upd, d6, d10, d15] using hK'
        · have d6 : t 6 = .bool true := by simpa using (hdep ⟨6, .data⟩ (by simp) rfl).2
          have d16 : t 16 = .bool true := by simpa using (hdep ⟨16, .data⟩ (by simp) rfl).2
          clear hdep
          have hK' := hK w' (.bool true) (by simp) (hx.step 17 _ (Below.refl _ _) (fun h => absurd h (by decide))) (Below.refl _ _)
          clear hK
          rw [if_pos (by rfl)]
          go_simp
          simpa [upd, d6, d16] using hK'
        · have d17 : t 17 = .bool true := by simpa using (hdep ⟨17, .data⟩ (by simp) rfl).2
          clear hdep
          have hK' := hK w' (.bool true) (by simp) (hx.step 18 _ (Below.refl _ _) (fun h => absurd h (by decide))) (Below.refl _ _)
          clear hK
          rw [if_pos (by rfl)]
          go_simp
          simpa [upd, d17] using hK'
      case hdone =>
        intro L t w13 hx hg
        have e18 : t 18 = .bool true := by simpa using hg 18 (by decide)
        clear hg
        have HF : Hid (Below w.heap.size w w13) := HB11.out.trans (hx.below.mono HB11.out.size)
        simp only [e18]
        clear hx e18
        go_wp2
        go_ret
        exact ⟨rfl, HF.out⟩
  · have hE : snE gn tl D U = [] := by unfold snE; rw [snB_no hs]; rfl
    rw [hE] at ho3
    obtain ⟨q3, c3, rfl, _, _, hc3⟩ := ho3.base
    have HIE := hid_of (ies_no gn tl aD aU nD cD nU cU D U w3 HN.out.1 HN.out.2 hmD hmU HA3.out.1 HA3.out.2 (snB_no hs))
    rw [List.length_nil]
    clear ho3 hc3 hE hs
    go_wp2_with (first
      | (refine wpList_load_row rfl 26 (.tmp 5) rfl S rfl 26 _ (0, 0) _ HS3.out Try.underlying26 rfl HSN.out ?_)
      | fail)
    refine HIE.out.mono ?_
    rintro e w4 ⟨rfl, hb4⟩
    have HB4 : Hid (Below w.heap.size w w4) := HB3.out.trans (hb4.mono HB3.out.size)
    have HS4 : Hid (w4.heap[S]? = some (.cells #[.int .u32 gn, .int .u32 tl, .slice aD nD cD, .slice aU nU cU] 26 (0, 0))) := by show _ = _; rw [hb4.block S (lt_of_get HS3.out)]; exact HS3.out
    have HA4 : Hid (At .i64 w4 aD D ∧ At .i64 w4 aU U) := ⟨HA3.out.1.below hb4, HA3.out.2.below hb4⟩
    have A := hid_of (idk_any none 0 0 [] w4 rfl (by decide) (Nat.le_refl _) (.inl rfl) Byte.nil)
    rw [dk_nil] at A
    clear HIE hb4 HB3 HS3 HA3
    go_wp2_with fail
    refine A.out.mono ?_
    rintro e w5 ⟨v5, rfl, hv5, hb5⟩
    obtain ⟨xD, yD, zD, xU, yU, zU, rfl, s5⟩ := hv5
    clear A s5
    have hdn : (.agg #[.bool dkNo.ok, .int .u32 dkNo.g, .int .u32 dkNo.t, .slice xD yD zD, .slice xU yU zU] : Value) = .agg #[.bool false, .int .u32 0, .int .u32 0, .slice xD yD zD, .slice xU yU zU] := rfl
    rw [hdn]
    clear hdn
    have b6 := below_new w5 (.cells #[.bool false, .int .u32 0, .int .u32 0, .slice xD yD zD, .slice xU yU zU] 28)
    have HWE : Hid ((w5.alloc (.cells #[.bool false, .int .u32 0, .int .u32 0, .slice none 0 0, .slice none 0 0] 28)).setRow w5.heap.size #[.bool false, .int .u32 0, .int .u32 0, .slice xD yD zD, .slice xU yU zU] = w5.alloc (.cells #[.bool false, .int .u32 0, .int .u32 0, .slice xD yD zD, .slice xU yU zU] 28)) := World.setRow_alloc_new _ _ _ _
    have HNB : Hid ((w5.alloc (.cells #[.bool false, .int .u32 0, .int .u32 0, .slice none 0 0, .slice none 0 0] 28)).heap[w5.heap.size]? = some (.cells #[.bool false, .int .u32 0, .int .u32 0, .slice none 0 0, .slice none 0 0] 28 (0, 0))) := heap_alloc_new w5 _
    have HB6 : Hid (Below w.heap.size w (w5.alloc (.cells #[.bool false, .int .u32 0, .int .u32 0, .slice xD yD zD, .slice xU yU zU] 28))) := (HB4.out.trans (hb5.mono HB4.out.size)).trans (b6.mono (Nat.le_trans HB4.out.size hb5.size))
    have HX6 : Hid ((w5.alloc (.cells #[.bool false, .int .u32 0, .int .u32 0, .slice xD yD zD, .slice xU yU zU] 28)).heap[w5.heap.size]? = some (.cells #[.bool false, .int .u32 0, .int .u32 0, .slice xD yD zD, .slice xU yU zU] 28 (0, 0))) := heap_alloc_new w5 _
    have HS6 : Hid ((w5.alloc (.cells #[.bool false, .int .u32 0, .int .u32 0, .slice xD yD zD, .slice xU yU zU] 28)).heap[S]? = some (.cells #[.int .u32 gn, .int .u32 tl, .slice aD nD cD, .slice aU nU cU] 26 (0, 0))) := by show _ = _; rw [b6.block S (Nat.lt_of_lt_of_le (lt_of_get HS4.out) hb5.size), hb5.block S (lt_of_get HS4.out)]; exact HS4.out
    have HA6 : Hid (At .i64 (w5.alloc (.cells #[.bool false, .int .u32 0, .int .u32 0, .slice xD yD zD, .slice xU yU zU] 28)) aD D ∧ At .i64 (w5.alloc (.cells #[.bool false, .int .u32 0, .int .u32 0, .slice xD yD zD, .slice xU yU zU] 28)) aU U) := ⟨(HA4.out.1.below hb5).below b6, (HA4.out.2.below hb5).below b6⟩
    clear b6 hb5 HS4 HA4 HB4
    go_upto_region 6 with (first
      | (refine wpList_store_row rfl 28 (.tmp 7) (.tmp 26) rfl w5.heap.size #[.bool false, .int .u32 0, .int .u32 0, .slice xD yD zD, .slice xU yU zU] rfl rfl 28 _ HNB.out HSR.out rfl (all5s _ _ _ _ _ _ _ _ _) ?_)
      | fail)
    rw [HWE.out]
    clear HWE HNB
    generalize w5.alloc (.cells #[.bool false, .int .u32 0, .int .u32 0, .slice xD yD zD, .slice xU yU zU] 28) = w6 at *
    generalize w5.heap.size = R7 at *
    have r0 : w6.cell? ⟨R7, 0, none⟩ = some (.bool false) := cell_of_row _ _ _ _ _ _ HX6.out
    go_upto_region 10 with fail
    clear r0 HX6 HS6 HA6
    go_wp2_with fail
    refine (drawD_any a1 len1 cap1 ys w6 HY.out.1 hl1 HY.out.2.1 (HY.out.2.2.below HB6.out)).mono ?_
    rintro e w9 ⟨v9, rfl, ⟨ab, nb, cbb, zs, rfl, hnb, hnc, hnm, hzb, hat⟩, hb9⟩
    have HB9 : Hid (Below w.heap.size w w9) := HB6.out.trans (hb9.mono HB6.out.size)
    have HTX9 : Hid (zs.length = nb ∧ nb ≤ cbb ∧ nb ≤ 1048576 ∧ Byte zs ∧ At .u8 w9 ab zs) := ⟨hnb, hnc, hnm, hzb, hat⟩
    clear hnb hnc hnm hzb hat hb9
    go_wp2_with fail
    refine (idk_any ab nb cbb zs w9 HTX9.out.1 HTX9.out.2.2.1 HTX9.out.2.1 HTX9.out.2.2.2.2 HTX9.out.2.2.2.1).mono ?_
    rintro e w10 ⟨v10, rfl, hv10, hb10⟩
    obtain ⟨r, hr⟩ : ∃ r, dkF zs = r := ⟨_, rfl⟩
    rw [hr] at hv10
    have HR : Hid (dkF zs = r) := hr
    clear hr
    obtain ⟨ok, g', t', D', U'⟩ := r
    obtain ⟨dD, mD, eD, dU, mU, eU, rfl, s3⟩ := hv10
    have b11 := below_new w10 (.cells #[.bool ok, .int .u32 g', .int .u32 t', .slice dD mD eD, .slice dU mU eU] 28)
    have HWE : Hid ((w10.alloc (.cells #[.bool false, .int .u32 0, .int .u32 0, .slice none 0 0, .slice none 0 0] 28)).setRow w10.heap.size #[.bool ok, .int .u32 g', .int .u32 t', .slice dD mD eD, .slice dU mU eU] = w10.alloc (.cells #[.bool ok, .int .u32 g', .int .u32 t', .slice dD mD eD, .slice dU mU eU] 28)) := World.setRow_alloc_new _ _ _ _
    have HNB : Hid ((w10.alloc (.cells #[.bool false, .int .u32 0, .int .u32 0, .slice none 0 0, .slice none 0 0] 28)).heap[w10.heap.size]? = some (.cells #[.bool false, .int .u32 0, .int .u32 0, .slice none 0 0, .slice none 0 0] 28 (0, 0))) := heap_alloc_new w10 _
    have HB11 : Hid (Below w.heap.size w (w10.alloc (.cells #[.bool ok, .int .u32 g', .int .u32 t', .slice dD mD eD, .slice dU mU eU] 28))) := (HB9.out.trans (hb10.mono HB9.out.size)).trans (b11.mono (Nat.le_trans HB9.out.size hb10.size))
    have HTX : Hid (zs.length = nb ∧ Byte zs ∧ At .u8 (w10.alloc (.cells #[.bool ok, .int .u32 g', .int .u32 t', .slice dD mD eD, .slice dU mU eU] 28)) ab zs) := ⟨HTX9.out.1, HTX9.out.2.2.2.1, (HTX9.out.2.2.2.2.below hb10).below b11⟩
    have HTN : Hid (nb ≤ 1048576) := HTX9.out.2.2.1
    have HS3 : Hid (S3 w9.heap.size (w10.alloc (.cells #[.bool ok, .int .u32 g', .int .u32 t', .slice dD mD eD, .slice dU mU eU] 28)) dD dU none mD mU 0 D' U' []) := s3.below b11
    have HR9 : Hid ((w10.alloc (.cells #[.bool ok, .int .u32 g', .int .u32 t', .slice dD mD eD, .slice dU mU eU] 28)).heap[w10.heap.size]? = some (.cells #[.bool ok, .int .u32 g', .int .u32 t', .slice dD mD eD, .slice dU mU eU] 28 (0, 0))) := heap_alloc_new w10 _
    have HRL : Hid (w10.heap.size < (w10.alloc (.cells #[.bool ok, .int .u32 g', .int .u32 t', .slice dD mD eD, .slice dU mU eU] 28)).heap.size) := by show _ < _; simp
    clear b11 s3 hb10 HTX9 HB9
    go_upto_region 12 with (first
      | (refine wpList_store_row rfl 28 (.tmp 9) (.tmp 69) rfl w10.heap.size #[.bool ok, .int .u32 g', .int .u32 t', .slice dD mD eD, .slice dU mU eU] rfl rfl 28 _ HNB.out HSR.out rfl (all5s _ _ _ _ _ _ _ _ _) ?_)
      | fail)
    rw [HWE.out]
    clear HWE HNB
    generalize w10.alloc (.cells #[.bool ok, .int .u32 g', .int .u32 t', .slice dD mD eD, .slice dU mU eU] 28) = w11 at *
    generalize w10.heap.size = R9 at *
    have HSD : Hid (∀ w', Below w11.heap.size w11 w' → Calls Try.prog 5 #[.slice ab nb cbb] w' fun e w'' => ∃ v, e = .returned v ∧ DVW w'.heap.size w'' v ⟨ok, g', t', D', U'⟩ ∧ Below w'.heap.size w' w'') := fun w' b => by
      have := sdk_any ab nb cbb zs w' HTX.out.1 HTN.out (HTX.out.2.2.below b) HTX.out.2.1
      rw [HR.out] at this; exact this
    cases ok
    · have ho : dkF zs = ⟨false, g', t', D', U'⟩ := HR.out
      clear ho
      refine wp_region_any (by kernel_rfl) ?_
      refine wpAny_slotsU (fun _ a b => Below a.heap.size a b) (frame := (fun (c0 c1 c2 c3 c5 c6 c7 c8 c9 c10 c11 c12 c13 c14 c15 c16 c17 c18 c19 c20 c21 c22 c23 c24 c25 c26 c27 c28 c29 c30 c31 c32 c33 c34 c35 c36 c37 c38 c39 c40 c41 c42 c43 c44 c45 c46 c47 c48 c49 c50 c51 c52 c53 c54 c55 c56 c57 c58 c59 c60 c61 c62 c63 c64 c65 c66 c67 c68 c69 : Value) => fun (t : Nat → Value) => ({ tmps := List.toArray (c0 :: c1 :: c2 :: c3 :: t 18 :: c5 :: c6 :: c7 :: c8 :: c9 :: c10 :: c11 :: c12 :: c13 :: c14 :: c15 :: c16 :: c17 :: c18 :: c19 :: c20 :: c21 :: c22 :: c23 :: c24 :: c25 :: c26 :: c27 :: c28 :: c29 :: c30 :: c31 :: c32 :: c33 :: c34 :: c35 :: c36 :: c37 :: c38 :: c39 :: c40 :: c41 :: c42 :: c43 :: c44 :: c45 :: c46 :: c47 :: c48 :: c49 :: c50 :: c51 :: c52 :: c53 :: c54 :: c55 :: c56 :: c57 :: c58 :: c59 :: c60 :: c61 :: c62 :: c63 :: c64 :: c65 :: c66 :: c67 :: c68 :: c69 :: t 0 :: t 1 :: t 2 :: t 3 :: t 4 :: t 5 :: t 6 :: t 7 :: t 8 :: t 9 :: t 10 :: t 11 :: t 12 :: t 13 :: t 14 :: t 15 :: t 16 :: t 17 :: []), defers := [] } : Act)) _ _ _ _ _ _ _ _ _ _ _ _ _ _ _ _ _ _ _ _ _ _ _ _ _ _ _ _ _ _ _ _ _ _ _ _ _ _ _ _ _ _ _ _ _ _ _ _ _ _ _ _ _ _ _ _ _ _ _ _ _ _ _ _ _ _ _ _ _)
        (Ext := fun L u w' => ApX w11 [] L u w') (Good := fun i L w' v => if i = 0 then v = .pointer (some ⟨R9, 0, none⟩) else if i = 1 then v = .bool false else if i = 2 then v = .slice ab nb cbb else if i = 3 then DVW w11.heap.size w' v ⟨false, g', t', D', U'⟩ else if i = 4 then v = .bool false else if i = 5 then v = .bool true else if i = 6 then v = .bool true else if i = 7 then v = .pointer (some ⟨R9, 0, none⟩) else if i = 8 then v = .bool false else if i = 9 then v = .bool true else if i = 10 then v = .bool true else if i = 11 then True else if i = 12 then True else if i = 13 then True else if i = 14 then True else if i = 15 then True else if i = 16 then v = .bool true else if i = 17 then v = .bool true else if i = 18 then v = .bool true else True) ?hstab (by kernel_rfl) ?hop ?hdone _ _ ((fun (x0 x1 x2 x3 x4 x5 x6 x7 x8 x9 x10 x11 x12 x13 x14 x15 x16 x17 x18 : Value) => fun (i : Nat) => if i = 0 then x0 else if i = 1 then x1 else if i = 2 then x2 else if i = 3 then x3 else if i = 4 then x4 else if i = 5 then x5 else if i = 6 then x6 else if i = 7 then x7 else if i = 8 then x8 else if i = 9 then x9 else if i = 10 then x10 else if i = 11 then x11 else if i = 12 then x12 else if i = 13 then x13 else if i = 14 then x14 else if i = 15 then x15 else if i = 16 then x16 else if i = 17 then x17 else if i = 18 then x18 else undef) _ _ _ _ _ _ _ _ _ _ _ _ _ _ _ _ _ _ _) _ (by simp) ?ext ?start (by simp)
      case start => intro i hi h; exact absurd h (by rw [Array.getD_eq_getD_getElem?, Array.getElem?_replicate]; split <;> simp)
      case ext => exact (ApX.start w11 [] _ _ (fun i => by rw [Array.getD_eq_getD_getElem?, Array.getElem?_replicate]; split <;> rfl)).drew
      case hstab =>
        intro j L w9 w' i v hM _ _ h
        by_cases h3 : j = 3
        · subst h3
          simp at h ⊢
          exact h.below hM
        simp only [if_neg h3] at h ⊢
        exact h
      case hop =>
        intro i o L t w' ho hLi hx hdep K hK
        have hi : i < 19 := (Array.getElem?_eq_some_iff.1 ho).1
        obtain rfl | rfl | rfl | rfl | rfl | rfl | rfl | rfl | rfl | rfl | rfl | rfl | rfl | rfl | rfl | rfl | rfl | rfl | rfl : i = 0 ∨ i = 1 ∨ i = 2 ∨ i = 3 ∨ i = 4 ∨ i = 5 ∨ i = 6 ∨ i = 7 ∨ i = 8 ∨ i = 9 ∨ i = 10 ∨ i = 11 ∨ i = 12 ∨ i = 13 ∨ i = 14 ∨ i = 15 ∨ i = 16 ∨ i = 17 ∨ i = 18 := by omega
        all_goals (simp at ho; subst ho)
        · clear hdep
          have hK' := hK w' (.pointer (some ⟨R9, 0, none⟩)) (by simp) (hx.step 0 _ (Below.refl _ _) (fun h => absurd h (by decide))) (Below.refl _ _)
          clear hK
          rw [if_pos (by rfl)]
          go_simp
          simpa [upd] using hK'
        · have d0 : t 0 = .pointer (some ⟨R9, 0, none⟩) := by simpa using (hdep ⟨0, .data⟩ (by simp) rfl).2
          clear hdep
          have hrw : w'.heap[R9]? = some (.cells #[.bool false, .int .u32 g', .int .u32 t', .slice dD mD eD, .slice dU mU eU] 28 (0, 0)) := by rw [hx.below.block R9 HRL.out]; exact HR9.out
          have cc : w'.cell? ⟨R9, 0, none⟩ = some (.bool false) := cell_of_row _ _ _ _ _ _ hrw
          clear hrw
          have hK' := hK w' (.bool false) (by simp) (hx.step 1 _ (Below.refl _ _) (fun h => absurd h (by decide))) (Below.refl _ _)
          clear hK
          rw [if_pos (by rfl)]
          go_simp
          simpa [upd, d0] using hK'
        · clear hdep
          have hK' := hK w' (.slice ab nb cbb) (by simp) (hx.step 2 _ (Below.refl _ _) (fun h => absurd h (by decide))) (Below.refl _ _)
          clear hK
          rw [if_pos (by rfl)]
          go_simp
          simpa [upd] using hK'
        · have d2 : t 2 = .slice ab nb cbb := by simpa using (hdep ⟨2, .data⟩ (by simp) rfl).2
          clear hdep
          have hsz : w11.heap.size ≤ w'.heap.size := hx.below.size
          have A := HSD.out w' hx.below
          have hK' : ∀ ww v, DVW w11.heap.size ww v ⟨false, g', t', D', U'⟩ → Below w'.heap.size w' ww → K _ ww := fun ww v hv hb => hK ww v (by simpa using hv) (hx.step 3 v hb (fun h => absurd h (by decide))) hb
          clear hK
          rw [if_pos (by rfl)]
          go_simp
          try simp only [d2]
          refine A.mono ?_
          rintro e w9 ⟨v9, rfl, hv9, hb9⟩
          have hK2 := hK' w9 v9 (DVW.mono hv9 hsz)  hb9
          clear hK' A hv9 hb9
          go_simp
          simpa [upd, d2] using hK2
        · have f3 : DVW w11.heap.size w' (t 3) ⟨false, g', t', D', U'⟩ := by simpa using (hdep ⟨3, .data⟩ (by simp) rfl).2
          clear hdep
          obtain ⟨xD, xn, xc, xU, xm, xd, e3, _⟩ := f3
          have hK' := hK w' (.bool false) (by simp) (hx.step 4 _ (Below.refl _ _) (fun h => absurd h (by decide))) (Below.refl _ _)
          clear hK
          rw [if_pos (by rfl)]
          go_simp
          simp [upd, e3] at hK' ⊢
          go_simp
          exact hK'
        · have d1 : t 1 = .bool false := by simpa using (hdep ⟨1, .data⟩ (by simp) rfl).2
          have d4 : t 4 = .bool false := by simpa using (hdep ⟨4, .data⟩ (by simp) rfl).2
          clear hdep
          have hK' := hK w' (.bool true) (by simp) (hx.step 5 _ (Below.refl _ _) (fun h => absurd h (by decide))) (Below.refl _ _)
          clear hK
          rw [if_pos (by rfl)]
          go_simp
          simpa [upd, d1, d4] using hK'
        · have d5 : t 5 = .bool true := by simpa using (hdep ⟨5, .data⟩ (by simp) rfl).2
          clear hdep
          have hK' := hK w' (.bool true) (by simp) (hx.step 6 _ (Below.refl _ _) (fun h => absurd h (by decide))) (Below.refl _ _)
          clear hK
          rw [if_pos (by rfl)]
          go_simp
          simpa [upd, d5] using hK'
        · have d6 : t 6 = .bool true := by simpa using (hdep ⟨6, .guard⟩ (by simp) rfl).2
          clear hdep
          have hK' := hK w' (.pointer (some ⟨R9, 0, none⟩)) (by simp) (hx.step 7 _ (Below.refl _ _) (fun h => absurd h (by decide))) (Below.refl _ _)
          clear hK
          rw [if_pos (by simp [Region.wanted, yielded, d6])]
          go_simp
          simpa [upd, d6] using hK'
        · have d7 : t 7 = .pointer (some ⟨R9, 0, none⟩) := by simpa using (hdep ⟨7, .data⟩ (by simp) rfl).2
          have d6 : t 6 = .bool true := by simpa using (hdep ⟨6, .guard⟩ (by simp) rfl).2
          clear hdep
          have hrw : w'.heap[R9]? = some (.cells #[.bool false, .int .u32 g', .int .u32 t', .slice dD mD eD, .slice dU mU eU] 28 (0, 0)) := by rw [hx.below.block R9 HRL.out]; exact HR9.out
          have cc : w'.cell? ⟨R9, 0, none⟩ = some (.bool false) := cell_of_row _ _ _ _ _ _ hrw
          clear hrw
          have hK' := hK w' (.bool false) (by simp) (hx.step 8 _ (Below.refl _ _) (fun h => absurd h (by decide))) (Below.refl _ _)
          clear hK
          rw [if_pos (by simp [Region.wanted, yielded, d6])]
          go_simp
          simpa [upd, d6, d7] using hK'
        · have d8 : t 8 = .bool false := by simpa using (hdep ⟨8, .data⟩ (by simp) rfl).2
          have d6 : t 6 = .bool true := by simpa using (hdep ⟨6, .guard⟩ (by simp) rfl).2
          clear hdep
          have hK' := hK w' (.bool true) (by simp) (hx.step 9 _ (Below.refl _ _) (fun h => absurd h (by decide))) (Below.refl _ _)
          clear hK
          rw [if_pos (by simp [Region.wanted, yielded, d6])]
          go_simp
          simpa [upd, d6, d8] using hK'
        · have d9 : t 9 = .bool true := by simpa using (hdep ⟨9, .data⟩ (by simp) rfl).2
          have d6 : t 6 = .bool true := by simpa using (hdep ⟨6, .guard⟩ (by simp) rfl).2
          clear hdep
          have hK' := hK w' (.bool true) (by simp) (hx.step 10 _ (Below.refl _ _) (fun h => absurd h (by decide))) (Below.refl _ _)
          clear hK
          rw [if_pos (by simp [Region.wanted, yielded, d6])]
          go_simp
          simpa [upd, d6, d9] using hK'
        · have d10 : t 10 = .bool true := by simpa using (hdep ⟨10, .guard⟩ (by simp) rfl).2
          clear hdep
          have hK' := hK w' undef (by simp) (hx.step 11 _ (Below.refl _ _) (fun h => absurd h (by decide))) (Below.refl _ _)
          clear hK
          rw [if_neg (by simp [Region.wanted, yielded, d10])]
          go_simp
          simpa [upd, d10] using hK'
        · have d10 : t 10 = .bool true := by simpa using (hdep ⟨10, .guard⟩ (by simp) rfl).2
          clear hdep
          have hK' := hK w' undef (by simp) (hx.step 12 _ (Below.refl _ _) (fun h => absurd h (by decide))) (Below.refl _ _)
          clear hK
          rw [if_neg (by simp [Region.wanted, yielded, d10])]
          go_simp
          simpa [upd, d10] using hK'
        · have d10 : t 10 = .bool true := by simpa using (hdep ⟨10, .guard⟩ (by simp) rfl).2
          clear hdep
          have hK' := hK w' undef (by simp) (hx.step 13 _ (Below.refl _ _) (fun h => absurd h (by decide))) (Below.refl _ _)
          clear hK
          rw [if_neg (by simp [Region.wanted, yielded, d10])]
          go_simp
          simpa [upd, d10] using hK'
        · have d10 : t 10 = .bool true := by simpa using (hdep ⟨10, .guard⟩ (by simp) rfl).2
          clear hdep
          have hK' := hK w' undef (by simp) (hx.step 14 _ (Below.refl _ _) (fun h => absurd h (by decide))) (Below.refl _ _)
          clear hK
          rw [if_neg (by simp [Region.wanted, yielded, d10])]
          go_simp
          simpa [upd, d10] using hK'
        · have d10 : t 10 = .bool true := by simpa using (hdep ⟨10, .guard⟩ (by simp) rfl).2
          clear hdep
          have hK' := hK w' undef (by simp) (hx.step 15 _ (Below.refl _ _) (fun h => absurd h (by decide))) (Below.refl _ _)
          clear hK
          rw [if_neg (by simp [Region.wanted, yielded, d10])]
          go_simp
          simpa [upd, d10] using hK'
        · have d10 : t 10 = .bool true := by simpa using (hdep ⟨10, .data⟩ (by simp) rfl).2
          have d6 : t 6 = .bool true := by simpa using (hdep ⟨6, .guard⟩ (by simp) rfl).2
          clear hdep
          have hK' := hK w' (.bool true) (by simp) (hx.step 16 _ (Below.refl _ _) (fun h => absurd h (by decide))) (Below.refl _ _)
          clear hK
          rw [if_pos (by simp [Region.wanted, yielded, d6])]
          go_simp
          simpa [upd, d6, d10] using hK'
        · have d6 : t 6 = .bool true := by simpa using (hdep ⟨6, .data⟩ (by simp) rfl).2
          have d16 : t 16 = .bool true := by simpa using (hdep ⟨16, .data⟩ (by simp) rfl).2
          clear hdep
          have hK' := hK w' (.bool true) (by simp) (hx.step 17 _ (Below.refl _ _) (fun h => absurd h (by decide))) (Below.refl _ _)
          clear hK
          rw [if_pos (by rfl)]
          go_simp
          simpa [upd, d6, d16] using hK'
        · have d17 : t 17 = .bool true := by simpa using (hdep ⟨17, .data⟩ (by simp) rfl).2
          clear hdep
          have hK' := hK w' (.bool true) (by simp) (hx.step 18 _ (Below.refl _ _) (fun h => absurd h (by decide))) (Below.refl _ _)
          clear hK
          rw [if_pos (by rfl)]
          go_simp
          simpa [upd, d17] using hK'
      case hdone =>
        intro L t w13 hx hg
        have e18 : t 18 = .bool true := by simpa using hg 18 (by decide)
        clear hg
        have HF : Hid (Below w.heap.size w w13) := HB11.out.trans (hx.below.mono HB11.out.size)
        simp only [e18]
        clear hx e18
        go_wp2
        go_ret
        exact ⟨rfl, HF.out⟩
    · have hy := dkF_of_ok HR.out
      have HIE : Hid (∀ w', Below w11.heap.size w11 w' → Calls Try.prog 15 #[.agg #[.int .u32 g', .int .u32 t', .slice dD mD eD, .slice dU mU eU]] w' fun e w'' => ∃ v, e = .returned v ∧ OwnL w'.heap.size w'' v zs ∧ Below w'.heap.size w' w'') := fun w' b => by
        have hs3 := HS3.out.below b
        have hmD : mD ≤ 1048576 := by have h1 := hy.2.2.2.1; have h2 : D'.length = mD := hs3.nd; omega
        have hmU : mU ≤ 1048576 := by have h1 := hy.2.2.2.2; have h2 : U'.length = mU := hs3.nu; omega
        have := ies_yes g' t' dD dU mD eD mU eU D' U' w' hs3.nd hs3.nu hmD hmU hs3.d.at_ hs3.u.at_ (hy.2.1 HTX.out.2.1).1 (hy.2.1 HTX.out.2.1).2 hy.1
        rw [hy.2.2.1] at this; exact this
      clear hy
      refine wp_region_any (by kernel_rfl) ?_
      refine wpAny_slotsU (fun _ a b => Below a.heap.size a b) (frame := (fun (c0 c1 c2 c3 c5 c6 c7 c8 c9 c10 c11 c12 c13 c14 c15 c16 c17 c18 c19 c20 c21 c22 c23 c24 c25 c26 c27 c28 c29 c30 c31 c32 c33 c34 c35 c36 c37 c38 c39 c40 c41 c42 c43 c44 c45 c46 c47 c48 c49 c50 c51 c52 c53 c54 c55 c56 c57 c58 c59 c60 c61 c62 c63 c64 c65 c66 c67 c68 c69 : Value) => fun (t : Nat → Value) => ({ tmps := List.toArray (c0 :: c1 :: c2 :: c3 :: t 18 :: c5 :: c6 :: c7 :: c8 :: c9 :: c10 :: c11 :: c12 :: c13 :: c14 :: c15 :: c16 :: c17 :: c18 :: c19 :: c20 :: c21 :: c22 :: c23 :: c24 :: c25 :: c26 :: c27 :: c28 :: c29 :: c30 :: c31 :: c32 :: c33 :: c34 :: c35 :: c36 :: c37 :: c38 :: c39 :: c40 :: c41 :: c42 :: c43 :: c44 :: c45 :: c46 :: c47 :: c48 :: c49 :: c50 :: c51 :: c52 :: c53 :: c54 :: c55 :: c56 :: c57 :: c58 :: c59 :: c60 :: c61 :: c62 :: c63 :: c64 :: c65 :: c66 :: c67 :: c68 :: c69 :: t 0 :: t 1 :: t 2 :: t 3 :: t 4 :: t 5 :: t 6 :: t 7 :: t 8 :: t 9 :: t 10 :: t 11 :: t 12 :: t 13 :: t 14 :: t 15 :: t 16 :: t 17 :: []), defers := [] } : Act)) _ _ _ _ _ _ _ _ _ _ _ _ _ _ _ _ _ _ _ _ _ _ _ _ _ _ _ _ _ _ _ _ _ _ _ _ _ _ _ _ _ _ _ _ _ _ _ _ _ _ _ _ _ _ _ _ _ _ _ _ _ _ _ _ _ _ _ _ _)
        (Ext := fun L u w' => ApX w11 [] L u w') (Good := fun i L w' v => if i = 0 then v = .pointer (some ⟨R9, 0, none⟩) else if i = 1 then v = .bool true else if i = 2 then v = .slice ab nb cbb else if i = 3 then DVW w11.heap.size w' v ⟨true, g', t', D', U'⟩ else if i = 4 then v = .bool true else if i = 5 then v = .bool true else if i = 6 then v = .bool true else if i = 7 then v = .pointer (some ⟨R9, 0, none⟩) else if i = 8 then v = .bool true else if i = 9 then v = .bool false else if i = 10 then v = .bool false else if i = 11 then v = .pointer (some ⟨R9, 1, none⟩) else if i = 12 then v = .agg #[.int .u32 g', .int .u32 t', .slice dD mD eD, .slice dU mU eU] else if i = 13 then OwnL w11.heap.size w' v zs else if i = 14 then v = .slice ab nb cbb else if i = 15 then v = .bool true else if i = 16 then v = .bool true else if i = 17 then v = .bool true else if i = 18 then v = .bool true else True) ?hstab (by kernel_rfl) ?hop ?hdone _ _ ((fun (x0 x1 x2 x3 x4 x5 x6 x7 x8 x9 x10 x11 x12 x13 x14 x15 x16 x17 x18 : Value) => fun (i : Nat) => if i = 0 then x0 else if i = 1 then x1 else if i = 2 then x2 else if i = 3 then x3 else if i = 4 then x4 else if i = 5 then x5 else if i = 6 then x6 else if i = 7 then x7 else if i = 8 then x8 else if i = 9 then x9 else if i = 10 then x10 else if i = 11 then x11 else if i = 12 then x12 else if i = 13 then x13 else if i = 14 then x14 else if i = 15 then x15 else if i = 16 then x16 else if i = 17 then x17 else if i = 18 then x18 else undef) _ _ _ _ _ _ _ _ _ _ _ _ _ _ _ _ _ _ _) _ (by simp) ?ext ?start (by simp)
      case start => intro i hi h; exact absurd h (by rw [Array.getD_eq_getD_getElem?, Array.getElem?_replicate]; split <;> simp)
      case ext => exact (ApX.start w11 [] _ _ (fun i => by rw [Array.getD_eq_getD_getElem?, Array.getElem?_replicate]; split <;> rfl)).drew
      case hstab =>
        intro j L w9 w' i v hM _ _ h
        by_cases h3 : j = 3
        · subst h3
          simp at h ⊢
          exact h.below hM
        by_cases h13 : j = 13
        · subst h13
          simp at h ⊢
          exact h.below hM
        simp only [if_neg h3, if_neg h13] at h ⊢
        exact h
      case hop =>
        intro i o L t w' ho hLi hx hdep K hK
        have hi : i < 19 := (Array.getElem?_eq_some_iff.1 ho).1
        obtain rfl | rfl | rfl | rfl | rfl | rfl | rfl | rfl | rfl | rfl | rfl | rfl | rfl | rfl | rfl | rfl | rfl | rfl | rfl : i = 0 ∨ i = 1 ∨ i = 2 ∨ i = 3 ∨ i = 4 ∨ i = 5 ∨ i = 6 ∨ i = 7 ∨ i = 8 ∨ i = 9 ∨ i = 10 ∨ i = 11 ∨ i = 12 ∨ i = 13 ∨ i = 14 ∨ i = 15 ∨ i = 16 ∨ i = 17 ∨ i = 18 := by omega
        all_goals (simp at ho; subst ho)
        · clear hdep
          have hK' := hK w' (.pointer (some ⟨R9, 0, none⟩)) (by simp) (hx.step 0 _ (Below.refl _ _) (fun h => absurd h (by decide))) (Below.refl _ _)
          clear hK
          rw [if_pos (by rfl)]
          go_simp
          simpa [upd] using hK'
        · have d0 : t 0 = .pointer (some ⟨R9, 0, none⟩) := by simpa using (hdep ⟨0, .data⟩ (by simp) rfl).2
          clear hdep
          have hrw : w'.heap[R9]? = some (.cells #[.bool true, .int .u32 g', .int .u32 t', .slice dD mD eD, .slice dU mU eU] 28 (0, 0)) := by rw [hx.below.block R9 HRL.out]; exact HR9.out
          have cc : w'.cell? ⟨R9, 0, none⟩ = some (.bool true) := cell_of_row _ _ _ _ _ _ hrw
          clear hrw
          have hK' := hK w' (.bool true) (by simp) (hx.step 1 _ (Below.refl _ _) (fun h => absurd h (by decide))) (Below.refl _ _)
          clear hK
          rw [if_pos (by rfl)]
          go_simp
          simpa [upd, d0] using hK'
        · clear hdep
          have hK' := hK w' (.slice ab nb cbb) (by simp) (hx.step 2 _ (Below.refl _ _) (fun h => absurd h (by decide))) (Below.refl _ _)
          clear hK
          rw [if_pos (by rfl)]
          go_simp
          simpa [upd] using hK'
        · have d2 : t 2 = .slice ab nb cbb := by simpa using (hdep ⟨2, .data⟩ (by simp) rfl).2
          clear hdep
          have hsz : w11.heap.size ≤ w'.heap.size := hx.below.size
          have A := HSD.out w' hx.below
          have hK' : ∀ ww v, DVW w11.heap.size ww v ⟨true, g', t', D', U'⟩ → Below w'.heap.size w' ww → K _ ww := fun ww v hv hb => hK ww v (by simpa using hv) (hx.step 3 v hb (fun h => absurd h (by decide))) hb
          clear hK
          rw [if_pos (by rfl)]
          go_simp
          try simp only [d2]
          refine A.mono ?_
          rintro e w9 ⟨v9, rfl, hv9, hb9⟩
          have hK2 := hK' w9 v9 (DVW.mono hv9 hsz)  hb9
          clear hK' A hv9 hb9
          go_simp
          simpa [upd, d2] using hK2
        · have f3 : DVW w11.heap.size w' (t 3) ⟨true, g', t', D', U'⟩ := by simpa using (hdep ⟨3, .data⟩ (by simp) rfl).2
          clear hdep
          obtain ⟨xD, xn, xc, xU, xm, xd, e3, _⟩ := f3
          have hK' := hK w' (.bool true) (by simp) (hx.step 4 _ (Below.refl _ _) (fun h => absurd h (by decide))) (Below.refl _ _)
          clear hK
          rw [if_pos (by rfl)]
          go_simp
          simp [upd, e3] at hK' ⊢
          go_simp
          exact hK'
        · have d1 : t 1 = .bool true := by simpa using (hdep ⟨1, .data⟩ (by simp) rfl).2
          have d4 : t 4 = .bool true := by simpa using (hdep ⟨4, .data⟩ (by simp) rfl).2
          clear hdep
          have hK' := hK w' (.bool true) (by simp) (hx.step 5 _ (Below.refl _ _) (fun h => absurd h (by decide))) (Below.refl _ _)
          clear hK
          rw [if_pos (by rfl)]
          go_simp
          simpa [upd, d1, d4] using hK'
        · have d5 : t 5 = .bool true := by simpa using (hdep ⟨5, .data⟩ (by simp) rfl).2
          clear hdep
          have hK' := hK w' (.bool true) (by simp) (hx.step 6 _ (Below.refl _ _) (fun h => absurd h (by decide))) (Below.refl _ _)
          clear hK
          rw [if_pos (by rfl)]
          go_simp
          simpa [upd, d5] using hK'
        · have d6 : t 6 = .bool true := by simpa using (hdep ⟨6, .guard⟩ (by simp) rfl).2
          clear hdep
          have hK' := hK w' (.pointer (some ⟨R9, 0, none⟩)) (by simp) (hx.step 7 _ (Below.refl _ _) (fun h => absurd h (by decide))) (Below.refl _ _)
          clear hK
          rw [if_pos (by simp [Region.wanted, yielded, d6])]
          go_simp
          simpa [upd, d6] using hK'
        · have d7 : t 7 = .pointer (some ⟨R9, 0, none⟩) := by simpa using (hdep ⟨7, .data⟩ (by simp) rfl).2
          have d6 : t 6 = .bool true := by simpa using (hdep ⟨6, .guard⟩ (by simp) rfl).2
          clear hdep
          have hrw : w'.heap[R9]? = some (.cells #[.bool true, .int .u32 g', .int .u32 t', .slice dD mD eD, .slice dU mU eU] 28 (0, 0)) := by rw [hx.below.block R9 HRL.out]; exact HR9.out
          have cc : w'.cell? ⟨R9, 0, none⟩ = some (.bool true) := cell_of_row _ _ _ _ _ _ hrw
          clear hrw
          have hK' := hK w' (.bool true) (by simp) (hx.step 8 _ (Below.refl _ _) (fun h => absurd h (by decide))) (Below.refl _ _)
          clear hK
          rw [if_pos (by simp [Region.wanted, yielded, d6])]
          go_simp
          simpa [upd, d6, d7] using hK'
        · have d8 : t 8 = .bool true := by simpa using (hdep ⟨8, .data⟩ (by simp) rfl).2
          have d6 : t 6 = .bool true := by simpa using (hdep ⟨6, .guard⟩ (by simp) rfl).2
          clear hdep
          have hK' := hK w' (.bool false) (by simp) (hx.step 9 _ (Below.refl _ _) (fun h => absurd h (by decide))) (Below.refl _ _)
          clear hK
          rw [if_pos (by simp [Region.wanted, yielded, d6])]
          go_simp
          simpa [upd, d6, d8] using hK'
        · have d9 : t 9 = .bool false := by simpa using (hdep ⟨9, .data⟩ (by simp) rfl).2
          have d6 : t 6 = .bool true := by simpa using (hdep ⟨6, .guard⟩ (by simp) rfl).2
          clear hdep
          have hK' := hK w' (.bool false) (by simp) (hx.step 10 _ (Below.refl _ _) (fun h => absurd h (by decide))) (Below.refl _ _)
          clear hK
          rw [if_pos (by simp [Region.wanted, yielded, d6])]
          go_simp
          simpa [upd, d6, d9] using hK'
        · have d10 : t 10 = .bool false := by simpa using (hdep ⟨10, .guard⟩ (by simp) rfl).2
          clear hdep
          have hK' := hK w' (.pointer (some ⟨R9, 1, none⟩)) (by simp) (hx.step 11 _ (Below.refl _ _) (fun h => absurd h (by decide))) (Below.refl _ _)
          clear hK
          rw [if_pos (by simp [Region.wanted, yielded, d10])]
          go_simp
          simpa [upd, d10] using hK'
        · have d11 : t 11 = .pointer (some ⟨R9, 1, none⟩) := by simpa using (hdep ⟨11, .data⟩ (by simp) rfl).2
          have d10 : t 10 = .bool false := by simpa using (hdep ⟨10, .guard⟩ (by simp) rfl).2
          clear hdep
          have hrw : w'.heap[R9]? = some (.cells #[.bool true, .int .u32 g', .int .u32 t', .slice dD mD eD, .slice dU mU eU] 28 (0, 0)) := by rw [hx.below.block R9 HRL.out]; exact HR9.out
          have k1 : w'.cell? ⟨R9, 1, none⟩ = some (.int .u32 g') := cell_of_row _ _ _ _ _ _ hrw
          have k2 : w'.cell? ⟨R9, 2, none⟩ = some (.int .u32 t') := cell_of_row _ _ _ _ _ _ hrw
          have k3 : w'.cell? ⟨R9, 3, none⟩ = some (.slice dD mD eD) := cell_of_row _ _ _ _ _ _ hrw
          have k4 : w'.cell? ⟨R9, 4, none⟩ = some (.slice dU mU eU) := cell_of_row _ _ _ _ _ _ hrw
          have hK' := hK w' (.agg #[.int .u32 g', .int .u32 t', .slice dD mD eD, .slice dU mU eU]) (by simp) (hx.step 12 _ (Below.refl _ _) (fun h => absurd h (by decide))) (Below.refl _ _)
          clear hK hrw
          rw [if_pos (by simp [Region.wanted, yielded, d10])]
          go_simp
          simpa [upd, d10, d11, k1, k2, k3, k4] using hK'
        · have d12 : t 12 = .agg #[.int .u32 g', .int .u32 t', .slice dD mD eD, .slice dU mU eU] := by simpa using (hdep ⟨12, .data⟩ (by simp) rfl).2
          have d10 : t 10 = .bool false := by simpa using (hdep ⟨10, .guard⟩ (by simp) rfl).2
          clear hdep
          have hsz : w11.heap.size ≤ w'.heap.size := hx.below.size
          have A := HIE.out w' hx.below
          have hK' : ∀ ww v, OwnL w11.heap.size ww v zs → Below w'.heap.size w' ww → K _ ww := fun ww v hv hb => hK ww v (by simpa using hv) (hx.step 13 v hb (fun h => absurd h (by decide))) hb
          clear hK
          rw [if_pos (by simp [Region.wanted, yielded, d10])]
          go_simp
          try simp only [d12]
          refine A.mono ?_
          rintro e w12 ⟨v12, rfl, ho12, hb12⟩
          have hK2 := hK' w12 v12 (by obtain ⟨B, h1, h2⟩ := ho12; exact ⟨B, Nat.le_trans hsz h1, h2⟩) hb12
          clear hK' A ho12 hb12
          go_simp
          simpa [upd, d10, d12] using hK2
        · have d10 : t 10 = .bool false := by simpa using (hdep ⟨10, .guard⟩ (by simp) rfl).2
          clear hdep
          have hK' := hK w' (.slice ab nb cbb) (by simp) (hx.step 14 _ (Below.refl _ _) (fun h => absurd h (by decide))) (Below.refl _ _)
          clear hK
          rw [if_pos (by simp [Region.wanted, yielded, d10])]
          go_simp
          simpa [upd, d10] using hK'
        · have f13 : OwnL w11.heap.size w' (t 13) zs := by simpa using (hdep ⟨13, .data⟩ (by simp) rfl).2
          have d14 : t 14 = .slice ab nb cbb := by simpa using (hdep ⟨14, .data⟩ (by simp) rfl).2
          have d10 : t 10 = .bool false := by simpa using (hdep ⟨10, .guard⟩ (by simp) rfl).2
          clear hdep
          obtain ⟨B, _, ho13⟩ := f13
          obtain ⟨q13, c13, e13, _, _, _, ha13, _⟩ := ho13.atD
          have A := lwB_any (some ⟨q13, 0, none⟩) ab zs.length nb c13 cbb zs zs w' rfl HTX.out.1 ha13 (HTX.out.2.2.below hx.below) HTX.out.2.1 HTX.out.2.1
          have hdz : decide (zs = zs) = true := by simp
          rw [hdz] at A
          have hK' : ∀ ww, Below w'.heap.size w' ww → K _ ww := fun ww hb => hK ww (.bool true) (by simp) (hx.step 15 _ hb (fun h => absurd h (by decide))) hb
          clear hK ho13 ha13 hdz
          rw [if_pos (by simp [Region.wanted, yielded, d10])]
          go_simp
          try simp only [e13, d14]
          refine A.mono ?_
          rintro e w12 ⟨rfl, hw12⟩
          have hK2 := hK' w12 (by rw [hw12]; exact Below.refl _ _)
          clear hK' A hw12
          go_simp
          simpa [upd, d10, e13, d14] using hK2
        · have d10 : t 10 = .bool false := by simpa using (hdep ⟨10, .data⟩ (by simp) rfl).2
          have d15 : t 15 = .bool true := by simpa using (hdep ⟨15, .data⟩ (by simp) rfl).2
          have d6 : t 6 = .bool true := by simpa using (hdep ⟨6, .guard⟩ (by simp) rfl).2
          clear hdep
          have hK' := hK w' (.bool true) (by simp) (hx.step 16 _ (Below.refl _ _) (fun h => absurd h (by decide))) (Below.refl _ _)
          clear hK
          rw [if_pos (by simp [Region.wanted, yielded, d6])]
          go_simp
          simpa [upd, d6, d10, d15] using hK'
        · have d6 : t 6 = .bool true := by simpa using (hdep ⟨6, .data⟩ (by simp) rfl).2
          have d16 : t 16 = .bool true := by simpa using (hdep ⟨16, .data⟩ (by simp) rfl).2
          clear hdep
          have hK' := hK w' (.bool true) (by simp) (hx.step 17 _ (Below.refl _ _) (fun h => absurd h (by decide))) (Below.refl _ _)
          clear hK
          rw [if_pos (by rfl)]
          go_simp
          simpa [upd, d6, d16] using hK'
        · have d17 : t 17 = .bool true := by simpa using (hdep ⟨17, .data⟩ (by simp) rfl).2
          clear hdep
          have hK' := hK w' (.bool true) (by simp) (hx.step 18 _ (Below.refl _ _) (fun h => absurd h (by decide))) (Below.refl _ _)
          clear hK
          rw [if_pos (by rfl)]
          go_simp
          simpa [upd, d17] using hK'
      case hdone =>
        intro L t w13 hx hg
        have e18 : t 18 = .bool true := by simpa using hg 18 (by decide)
        clear hg
        have HF : Hid (Below w.heap.size w w13) := HB11.out.trans (hx.below.mono HB11.out.size)
        simp only [e18]
        clear hx e18
        go_wp2
        go_ret
        exact ⟨rfl, HF.out⟩

set_option maxRecDepth 100000 in
theorem lifted (os : Os) (started : os.Started) (H : Type) (enc : TypeId × Value → H) :
    ReturnsInHanded {} Try.checked os 4 .any (Rows.fnSnapSpec.pre6 enc Try.prog Try.f4 Rows.fnSnapRow.domain false) (Rows.fnSnapSpec.post enc Try.prog Try.f4 false true false false) := by
  refine returnsInHanded_of_change (C := Try.checked) own started (by kernel_rfl) Try.func4
    (ChangeSpec.witness6 (enc := enc) (C := Try.checked) false ⟨#[], #[.slice none 0 0, .slice none 0 0], []⟩ 8 (by kernel_rfl) (by kernel_rfl) (by kernel_rfl) (by kernel_rfl)) ?_
  intro W base args ds gs before hval0 hW hcnd _
  have hval : ∀ (j : Nat) t v, Try.f4.params[j]? = some t → args[j]? = some v → Value.okWide Try.prog W .any base t v := hval0
  have hW' := hW
  obtain ⟨p, q, hA0, hV, rfl, hfz, hnd⟩ := hW
  have hA : DataW.TrodAll enc Try.prog W 0 (fun _ => true) true Try.f4.params.toList args.toList ds p := hA0
  rw [Try.params4] at hA hval
  obtain ⟨v0, vs0, d0, ds0, p0, q0, hargs, rfl, rfl, h0, r0⟩ := trodAll_cons hA
  obtain ⟨v1, vs1, d1, ds1, p1, q1, hargs1, rfl, rfl, h1, r1⟩ := trodAll_cons r0
  obtain ⟨rfl, rfl, rfl⟩ := trodAll_nil r1
  obtain rfl : args = #[v0, v1] := by cases args; simp_all
  obtain ⟨rfl, rfl⟩ := trodVars_none hV
  have k0 := h0
  have k1 := h1
  have lt0 : ∀ x ∈ p0, x.block < W.heap.size := by obtain ⟨m, hm⟩ := k0; exact DataW.trod_lt m _ _ _ hm
  have lt1 : ∀ x ∈ p1, x.block < W.heap.size := by obtain ⟨m, hm⟩ := k1; exact DataW.trod_lt m _ _ _ hm
  obtain ⟨a0, len0, cap0, hv0⟩ := okWide_slice Try.underlying22 (hval 0 22 v0 rfl rfl)
  obtain ⟨a1, len1, cap1, hv1⟩ := okWide_slice Try.underlying22 (hval 1 22 v1 rfl rfl)
  subst hv0
  subst hv1
  obtain ⟨m0, hm0⟩ := h0
  obtain ⟨m1, hm1⟩ := h1
  have hm0' : DataW.trod enc Try.prog W 0 (fun _ => true) true m0 22 [Value.slice a0 len0 cap0] = some (d0, p0) := hm0
  have hm1' : DataW.trod enc Try.prog W 0 (fun _ => true) true m1 22 [Value.slice a1 len1 cap1] = some (d1, p1) := hm1
  obtain ⟨_, _, _, zs, e0, hn, _, hz, ha⟩ := bytes_of hm0'
  obtain ⟨_, _, _, ys, e1, hn1, _, hz1, ha1⟩ := bytes_of hm1'
  cases e0
  cases e1
  clear hA0 hval0
  refine (walk a0 a1 len0 cap0 len1 cap1 zs ys W hn hn1 hz hz1 ha ha1).mono fun e W' ⟨he, bel⟩ => ?_
  subst he
  exact ⟨_, rfl, _, _, _, [], _, [], hW', trodAll_mk1 (shut_bool Try.underlying4 _), (trodAll_cons_mk (Below.trod laidOut (by kernel_rfl) (of_decide_eq_true (by kernel_rfl)) k0 bel lt0) (trodAll_cons_mk (Below.trod laidOut (by kernel_rfl) (of_decide_eq_true (by kernel_rfl)) k1 bel lt1) trodAll_mk0)), rfl, bel.frame _, fun h => by cases h⟩

theorem over : Rows.fnSnapRow.holds Try.pinned (OpenSpec.ofChange Rows.fnSnapSpec) :=
  OpenClaim.holds_of_wide 4 Try.f4 rfl rfl rfl rfl rfl rfl rfl ⟨rfl, rfl, rfl, rfl, rfl⟩ rfl rfl rfl rfl rfl (by kernel_rfl) Try.func4 (by kernel_rfl)
    (of_decide_eq_true (by kernel_rfl)) (by unfold Func.isWrapper; first | (rw [if_pos (by decide +kernel)]; kernel_rfl) | (rw [if_neg (by decide +kernel)]; exact ⟨rfl, rfl⟩))
    (fun os started H enc _ => lifted os started H enc)

end Go.Proofs.Ytmnoelfabldpfaa.lsp
namespace Go.Proofs.Ytmnoelfabldpfaa
theorem snap_holds : Rows.FnSnapSaid := lsp.over
#print axioms snap_holds
end Go.Proofs.Ytmnoelfabldpfaa
