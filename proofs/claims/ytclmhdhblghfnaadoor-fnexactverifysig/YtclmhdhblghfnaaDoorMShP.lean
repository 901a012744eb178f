/-
  Own work: the blocks of a message with its end are those that the program mixes in.
-/
import Derived.Test.YtclmhdhblghfnaaDoorMShK
import Derived.Test.YtclmhdhblghfnaaDoorMShJ
import Derived.Test.YtclmhdhblghfnaaDoorMOwnK
import Derived.Test.YtclmhdhblghfnaaDoorShN
import Derived.Test.YtclmhdhblghfnaaDoorMRConS
namespace Go.Proofs.YtclmhdhblghfnaaDoor
open Go.ChangeShapes Go.WideShapes Go.ChangeAt Go.RowKit
set_option linter.unusedVariables false

theorem getD_app (xs ys : List Int) (i : Nat) : (xs ++ ys).getD i 0 = if i < xs.length then xs.getD i 0 else ys.getD (i - xs.length) 0 := by
  simp only [List.getD_eq_getElem?_getD, List.getElem?_append]
  split <;> rfl
theorem getD_rep0 (n i : Nat) : (List.replicate n (0 : Int)).getD i 0 = 0 := by
  simp only [List.getD_eq_getElem?_getD, List.getElem?_replicate]
  split <;> rfl
theorem getD_out (xs : List Int) (i : Nat) (h : xs.length ≤ i) : xs.getD i 0 = 0 := by
  rw [List.getD_eq_getElem?_getD, List.getElem?_eq_none h]; rfl
theorem getD_dropI (xs : List Int) (m i : Nat) : (xs.drop m).getD i 0 = xs.getD (m + i) 0 := by
  simp only [List.getD_eq_getElem?_getD, List.getElem?_drop]
theorem getD_takeI (xs : List Int) (m i : Nat) (h : i < m) : (xs.take m).getD i 0 = xs.getD i 0 := by
  simp only [List.getD_eq_getElem?_getD, List.getElem?_take, if_pos h]
theorem ext_getD {xs ys : List Int} (n : Nat) (h1 : xs.length = n) (h2 : ys.length = n) (h : ∀ i, i < n → xs.getD i 0 = ys.getD i 0) : xs = ys := by
  apply List.ext_getElem (by omega)
  intro i hi hj
  have := h i (by omega)
  simpa [List.getD_eq_getElem?_getD, hi, hj] using this
theorem ov8_get (bs : List Int) (o : Nat) (v : Int) (k : Nat) (hk : o + k ≤ bs.length) (i : Nat) :
    (ov8 bs o v k).getD i 0 = if o ≤ i ∧ i < o + k then v / 2 ^ (56 - 8 * (i - o)) % 256 else bs.getD i 0 := by
  induction k with
  | zero => rw [if_neg (by omega)]; rfl
  | succ k ih =>
    have ih := ih (by omega)
    unfold ov8
    by_cases e : i = o + k
    · rw [e, getD_set_same _ _ _ (by rw [ov8_len]; omega), if_pos (by omega), show o + k - o = k by omega]
    · rw [getD_set_other _ _ _ _ e, ih]
      by_cases c : o ≤ i ∧ i < o + k
      · rw [if_pos c, if_pos (by omega)]
      · rw [if_neg c, if_neg (by omega)]
theorem blkOf_get (zs : List Int) (i : Nat) (h : i < 128) : (blkOf zs).getD i 0 = zs.getD i 0 := by
  unfold blkOf
  rw [getD_app]
  split
  · rw [getD_takeI _ _ _ h]
  · next c => rw [getD_rep0, getD_out]; rw [List.length_take] at c; omega
theorem mrk_get (zs : List Int) (i : Nat) (h : i < 128) (hl : zs.length < 128) : (mrk zs).getD i 0 = if i = zs.length then 128 else zs.getD i 0 := by
  unfold mrk
  by_cases e : i = zs.length
  · rw [e, getD_set_same _ _ _ (by rw [blkOf_len]; exact hl), if_pos rfl]
  · rw [getD_set_other _ _ _ _ e, blkOf_get _ _ h, if_neg e]
theorem lenB_get (bs : List Int) (n : Nat) (hl : bs.length = 128) (hn : n ≤ 2097152) (i : Nat) :
    (lenB bs n).getD i 0 = if i < 112 then bs.getD i 0 else if i < 120 then 0 else if i < 128 then (by8 (8 * (n : Int))).getD (i - 120) 0 else 0 := by
  unfold lenB
  rw [ov8_get _ _ _ _ (by rw [ov8_len]; omega), ov8_get _ _ _ _ (by omega)]
  have hw : IntKind.u64.wrap ((n : Int) * 8) = 8 * (n : Int) := by rw [IntKind.wrap_u64]; omega
  have h61 : (n : Int) / 2 ^ 61 = 0 := by omega
  rw [hw, h61]
  by_cases a : i < 112
  · rw [if_neg (by omega), if_neg (by omega), if_pos a]
  · rw [if_neg a]
    by_cases b : i < 120
    · rw [if_neg (by omega), if_pos (by omega), if_pos b, Int.zero_ediv]; rfl
    · rw [if_neg b]
      by_cases c : i < 128
      · rw [if_pos (by omega), if_pos c, by8_get _ _ (by omega)]
      · rw [if_neg (by omega), if_neg (by omega), if_neg c, getD_out _ _ (by omega)]
theorem padL_len (zs : List Int) : (padL zs).length = zs.length + 1 + padZ zs.length + 16 := by
  unfold padL; simp [by8_len]; omega
theorem padL_get (zs : List Int) (i : Nat) : (padL zs).getD i 0 = if i < zs.length then zs.getD i 0 else if i = zs.length then 128 else if i < zs.length + 1 + padZ zs.length + 8 then 0 else (by8 (8 * (zs.length : Int))).getD (i - (zs.length + 1 + padZ zs.length + 8)) 0 := by
  unfold padL
  rw [getD_app, getD_app, getD_app, getD_app]
  simp only [List.length_append, List.length_replicate, List.length_cons, List.length_nil, getD_rep0, Nat.zero_add]
  by_cases a : i < zs.length
  · rw [if_pos (by omega), if_pos (by omega), if_pos (by omega), if_pos a, if_pos a]
  · rw [if_neg a, if_neg a]
    by_cases b : i = zs.length
    · rw [if_pos (by omega), if_pos (by omega), if_pos (by omega), if_pos b, b, Nat.sub_self]; rfl
    · rw [if_neg b]
      by_cases c : i < zs.length + 1 + padZ zs.length + 8
      · rw [if_pos c, if_pos c]
        split
        · rw [if_neg (by omega)]
        · rfl
      · rw [if_neg c, if_neg c]
/-- The words behind k blocks of the message with its end. -/
def mbl (zs : List Int) : Nat → List Int
  | 0 => ivL
  | k + 1 => mixL (mbl zs k) (((padL zs).drop (128 * k)).take 128)
theorem mbl_w8 (zs : List Int) (k : Nat) : W8 (mbl zs k) := by
  cases k with
  | zero => exact ivL_w8
  | succ k => exact mixL_w8 _ _
def nBl (n : Nat) : Nat := (n + 1 + padZ n + 16) / 128
theorem nBl_len (zs : List Int) : (padL zs).length = 128 * nBl zs.length := by
  have h := padZ_spec zs.length
  rw [padL_len]; unfold nBl; omega
theorem pblk_len (zs : List Int) (k : Nat) (h : k < nBl zs.length) : (((padL zs).drop (128 * k)).take 128).length = 128 := by
  rw [List.length_take, List.length_drop, nBl_len]; omega
theorem pblk_get (zs : List Int) (k i : Nat) (h : i < 128) : (((padL zs).drop (128 * k)).take 128).getD i 0 = (padL zs).getD (128 * k + i) 0 := by
  rw [getD_takeI _ _ _ h, getD_dropI]
theorem mbl_lo (zs : List Int) (k : Nat) (h : 128 * k ≤ zs.length) : mbl zs k = blks zs k := by
  induction k with
  | zero => rfl
  | succ k ih =>
    have hs := padZ_spec zs.length
    have hk : k < nBl zs.length := by unfold nBl; omega
    show mixL (mbl zs k) _ = mixL (blks zs k) _
    rw [ih (by omega)]
    congr 1
    refine ext_getD 128 (pblk_len zs k hk) (blkOf_len _) fun i hi => ?_
    rw [pblk_get _ _ _ hi, blkOf_get _ _ hi, getD_dropI, padL_get, if_pos (by omega)]
theorem mbl_fin (zs : List Int) (hn : zs.length ≤ 2097152) : mbl zs (nBl zs.length) = finL (blks zs (zs.length / 128)) (zs.drop (128 * (zs.length / 128))) zs.length := by
  obtain ⟨n, hn'⟩ : ∃ n, n = zs.length := ⟨_, rfl⟩
  obtain ⟨q, hq⟩ : ∃ q, q = n / 128 := ⟨_, rfl⟩
  rw [← hn', ← hq]
  have hs := padZ_spec n
  have hdl : (zs.drop (128 * q)).length = n - 128 * q := by rw [List.length_drop, hn']
  have hlo := mbl_lo zs q (by omega)
  unfold finL
  by_cases c : n - 128 * q < 112
  · have e : nBl n = q + 1 := by unfold nBl; omega
    have eT : n + 1 + padZ n = 128 * q + 112 := by omega
    rw [if_pos (by omega), e]
    have e1 : ((padL zs).drop (128 * q)).take 128 = lenB (mrk (zs.drop (128 * q))) n := ?_
    · show mixL (mbl zs q) _ = _
      rw [hlo, e1]
    refine ext_getD 128 (pblk_len zs q (by rw [← hn', e]; omega)) (lenB_len (mrk_len _) _) fun i hi => ?_
    rw [pblk_get _ _ _ hi, lenB_get _ _ (mrk_len _) (by omega), padL_get, ← hn', eT]
    by_cases a : i < 112
    · rw [if_pos a, mrk_get _ _ hi (by omega), hdl, getD_dropI]
      by_cases b : i < n - 128 * q
      · rw [if_pos (by omega), if_neg (by omega)]
      · rw [if_neg (by omega)]
        by_cases d : i = n - 128 * q
        · rw [if_pos (by omega), if_pos d]
        · rw [if_neg (by omega), if_pos (by omega), if_neg d, getD_out]; omega
    · rw [if_neg a, if_neg (by omega), if_neg (by omega)]
      by_cases b : i < 120
      · rw [if_pos b, if_pos (by omega)]
      · rw [if_neg b, if_neg (by omega), if_pos hi]
        rw [show 128 * q + i - (128 * q + 112 + 8) = i - 120 by omega]
  · have e : nBl n = q + 2 := by unfold nBl; omega
    have eT : n + 1 + padZ n = 128 * q + 240 := by omega
    rw [if_neg (by omega), e]
    have e1 : ((padL zs).drop (128 * q)).take 128 = mrk (zs.drop (128 * q)) := by
      refine ext_getD 128 (pblk_len zs q (by rw [← hn', e]; omega)) (mrk_len _) fun i hi => ?_
      rw [pblk_get _ _ _ hi, padL_get, ← hn', eT, mrk_get _ _ hi (by omega), hdl, getD_dropI]
      by_cases b : i < n - 128 * q
      · rw [if_pos (by omega), if_neg (by omega)]
      · rw [if_neg (by omega)]
        by_cases d : i = n - 128 * q
        · rw [if_pos (by omega), if_pos d]
        · rw [if_neg (by omega), if_pos (by omega), if_neg d, getD_out]; omega
    have e2 : ((padL zs).drop (128 * (q + 1))).take 128 = lenB (List.replicate 128 0) n := by
      refine ext_getD 128 (pblk_len zs (q + 1) (by rw [← hn', e]; omega)) (lenB_len (by simp) _) fun i hi => ?_
      rw [pblk_get _ _ _ hi, lenB_get _ _ (by simp) (by omega), padL_get, ← hn', eT, if_neg (by omega), if_neg (by omega), getD_rep0]
      by_cases b : i < 120
      · rw [if_pos (by omega)]
        by_cases d : i < 112
        · rw [if_pos d]
        · rw [if_neg d, if_pos b]
      · rw [if_neg (by omega), if_neg (by omega), if_neg b, if_pos hi]
        rw [show 128 * (q + 1) + i - (128 * q + 240 + 8) = i - 120 by omega]
    generalize lenB (List.replicate 128 0) (n : Int) = X at *
    generalize mrk (zs.drop (128 * q)) = Y at *
    have e3 : mbl zs (q + 1) = mixL (blks zs q) Y := by rw [← hlo, ← e1]; rfl
    rw [← e3, ← e2]; rfl
theorem mbl_sha (zs : List Int) (hn : zs.length ≤ 2097152) : txtW (mbl zs (nBl zs.length)) = shaL zs := by
  rw [mbl_fin zs hn]; rfl
theorem padL_byte {zs : List Int} (hz : Byte zs) : Byte (padL zs) := by
  intro z h
  unfold padL at h
  simp only [List.mem_append, List.mem_replicate, List.mem_singleton] at h
  rcases h with (((h | rfl) | ⟨_, rfl⟩) | ⟨_, rfl⟩) | h
  · exact hz z h
  · exact ⟨by decide, by decide⟩
  · exact ⟨by decide, by decide⟩
  · exact ⟨by decide, by decide⟩
  · exact by8_byte _ z h
end Go.Proofs.YtclmhdhblghfnaaDoor
namespace Go.Proofs.YtclmhdhblghfnaaDoor
open Go.ChangeShapes Go.WideShapes Go.ChangeAt Go.RowKit
set_option linter.unusedVariables false

def ktL (q : Nat) : List Int := (List.range q).map kt
theorem ktL_len (q : Nat) : (ktL q).length = q := by simp [ktL]
theorem ktL_snoc (q : Nat) : ktL (q + 1) = ktL q ++ [kt q] := by unfold ktL; rw [List.range_succ, List.map_append]; rfl
theorem ktL_get (q i : Nat) (h : i < q) : (ktL q).getD i 0 = kt i := by unfold ktL; simp [List.getD, h]
theorem rcT_kt (q : Nat) (h : q < 88) : rcT (q : Int) = kt q := by
  unfold rcT kt
  rw [if_pos (by omega), Int.toNat_natCast]
theorem run_sliceH (w : World) (g c : Nat) (hc : 88 ≤ c) : (Instr.sliceAt 64 (.slice (some ⟨g, 0, none⟩) 88 c) (some (.int .i64 80)) none none).run Tryd.prog w = .ok (.slice (some ⟨g, 80, none⟩) 8 (c - 80)) w := by
  have h4 : ¬ (c = 80) := by omega
  unfold Instr.sliceAt
  simp [run_underlying Tryd.underlying64, go_sem, Instr.sliceBounds, h4, Addr.add]
  try omega
theorem run_sliceM (w : World) (g L c I : Nat) (hI : I + 128 ≤ L) (hc : L ≤ c) : (Instr.sliceAt 22 (.slice (some ⟨g, 0, none⟩) L c) (some (.int .i64 (I : Int))) (some (.int .i64 ((I : Int) + 128))) none).run Tryd.prog w = .ok (.slice (some ⟨g, I, none⟩) 128 (c - I)) w := by
  have h2 : ((I : Int) + 128) ≤ (c : Int) := by omega
  have h3 : ((I : Int) + 128).toNat = I + 128 := by omega
  have h4 : ¬ (c = I) := by omega
  have h6 : (0 : Int) ≤ (I : Int) := by omega
  have h7 : (0 : Int) ≤ (I : Int) + 128 := by omega
  unfold Instr.sliceAt
  simp [run_underlying Tryd.underlying22, go_sem, Instr.sliceBounds, h2, h3, h4, h6, h7, Addr.add]
  omega
/-- The words that stand, in some block. -/
structure HW (w : World) (v : Value) (hs : List Int) : Prop where
  ex : ∃ b o c, v = .slice (some ⟨b, o, none⟩) 8 c ∧ b < w.heap.size ∧ ∀ i, i < 8 → w.cell? ⟨b, o + i, none⟩ = some (.int .u64 (hs.getD i 0))
theorem HW.of_own {w : World} {B : Nat} {v : Value} {hs : List Int} (h : OwnU w B v hs) (h8 : hs.length = 8) : HW w v hs := by
  obtain ⟨g, c, rfl, hB, hg, hc⟩ := h.base
  refine ⟨g, 0, c, by rw [h8], hg, fun i hi => ?_⟩
  rw [Nat.zero_add]
  exact h.cellAt rfl i (by omega)
/-- What stands while the blocks are mixed in. -/
structure MS (W : World) (gk gm : Nat) (ms : List Int) (y : World) : Prop where
  k : gk < y.heap.size ∧ ∀ i, i < 88 → y.cell? ⟨gk, i, none⟩ = some (.int .u64 (kt i))
  m : gm < y.heap.size ∧ ∀ i, i < ms.length → y.cell? ⟨gm, i, none⟩ = some (.int .u8 (ms.getD i 0))
  below : Below W.heap.size W y
theorem MS.new {W : World} {gk gm : Nat} {ms : List Int} {y y' : World} (h : MS W gk gm ms y) (hb : Below y.heap.size y y') : MS W gk gm ms y' :=
  ⟨⟨Nat.lt_of_lt_of_le h.k.1 hb.size, fun i hi => by rw [World.cell?_of_block (w := y) (hb.block gk h.k.1)]; exact h.k.2 i hi⟩, ⟨Nat.lt_of_lt_of_le h.m.1 hb.size, fun i hi => by rw [World.cell?_of_block (w := y) (hb.block gm h.m.1)]; exact h.m.2 i hi⟩, h.below.trans (hb.mono h.below.size)⟩

set_option maxRecDepth 100000 in
set_option maxHeartbeats 2000000 in
theorem shaS_any (b off cap n : Nat) (zs : List Int) (w : World) (hn : zs.length = n) (hb : b < w.heap.size) (hc : ∀ i, i < zs.length → w.cell? ⟨b, off + i, none⟩ = some (.int .u8 (zs.getD i 0))) (hz : Byte zs) (hm : n ≤ 2097152) :
    Calls Tryd.prog 13 #[.slice (some ⟨b, off, none⟩) n cap] w fun e w' => ∃ v, e = .returned v ∧ Own w' w.heap.size v (shaL zs) ∧ Below w.heap.size w w' := by
  have HC := hid_ofS hc
  have HN := hid_ofS hn
  have HZ := hid_ofS hz
  have HE0 := hid_ofS (OwnK.empty (k := .u64) (t := 39) w w.heap.size (Nat.le_refl _))
  have HAL : Hid (Below w.heap.size w (w.alloc (.cells #[] 39))) := (Below.refl _ _).alloc (Nat.le_refl _) _
  clear hc hn hz
  go_enter Tryd.func13, Tryd.ntmps13
  go_wp2
  go_loopw [3, 4] (fun v i wr => ∃ q : Nat, q ≤ 88 ∧ i = .int .i64 q ∧ OwnU wr w.heap.size v (ktL q) ∧ Below w.heap.size w wr) (fun _ i _ => 88 - (intOf i).toNat)
  case atStart => exact ⟨0, by omega, rfl, HE0.out, HAL.out⟩
  case round =>
    clear HE0 HAL
    obtain ⟨q, hq, rfl, hown, hbel⟩ := hrel
    by_cases hlt : q < 88
    · have hlt' : (q : Int) < 88 := by omega
      have hsz := hbel.size
      have HO := hid_ofS hown
      have HB := hid_ofS hbel
      have A := hid_ofS (rcS_any (q : Int) wr (by omega) (by omega))
      rw [rcT_kt q hlt] at A
      have HSN := hid_ofS (ktL_snoc q)
      have HLS := hid_ofS (ktL_len q)
      clear hown hbel
      generalize kt q = x at *
      go_wp2_with fail
      refine A.out.mono ?_
      rintro e w1 ⟨rfl, b1⟩
      have HO1 := hid_ofS (HO.out.grow b1)
      have HB1 := hid_ofS (HB.out.trans (b1.mono hsz))
      have hsz1 : w.heap.size ≤ w1.heap.size := HB1.out.size
      clear A HO HB b1
      have HLJ : Hid ((ktL q).length + 1 ≤ 1099511627776) := by show _ ≤ _; rw [HLS.out]; omega
      go_wp2_with (at_builtin; refine wpList_appK _ ktU rfl _ _ rfl w.heap.size _ _ rfl (HO1.out.alloc _) ⟨w1.heap.size, 0, none⟩ 1 1 [x] rfl rfl ?c1 ?c2 ?c3 ?_)
      all_goals first | (intro j hj; obtain rfl : j = 0 := by omega
                         simp [Addr.add]; done) | skip
      case c2 => have := HLJ.out; simpa using by omega
      case c3 => rw [World.size_alloc]; omega
      intro v' w2 hown' hbel' _
      have HO2 : Hid (OwnU w2 w.heap.size v' (ktL (q + 1))) := by rw [HSN.out]; exact hown'
      have HB2 : Hid (Below w.heap.size w w2) := (HB1.out.alloc hsz1 _).trans hbel'
      clear hown' hbel' HO1 HB1
      go_wp2
      go_roundw
      case rel => exact ⟨q + 1, by omega, by go_num, HO2.out, HB2.out⟩
      case measure => simp [intOf]; omega
    · obtain rfl : q = 88 := by omega
      obtain ⟨gk, ck, rfl, hk1, hk2, hk3⟩ := hown.base
      have HKC : Hid (∀ i, i < 88 → wr.cell? ⟨gk, i, none⟩ = some (.int .u64 (kt i))) := fun i hi => by
        rw [hown.cellAt rfl i (by rw [ktL_len]; exact hi), ktL_get _ _ hi]
      rw [ktL_len] at hk3 ⊢
      have hsl := fun w => run_sliceH w gk ck hk3
      have HB := hid_ofS hbel
      have hsz := hbel.size
      have hbr : b < wr.heap.size := by omega
      have A := hid_ofS (padS_any b off cap n zs wr HN.out hbr (fun i hi => by rw [World.cell?_of_block (w := w) (hbel.block b hb)]; exact HC.out i hi) hm)
      clear hown hbel
      go_wp2_with fail
      refine A.out.mono ?_
      rintro e W ⟨vm, rfl, om, bm⟩
      obtain ⟨gm, cm, rfl, hm1, hm2, hm3⟩ := om.base
      have HMC : Hid (∀ i, i < (padL zs).length → W.cell? ⟨gm, i, none⟩ = some (.int .u8 ((padL zs).getD i 0))) := fun i hi => by
        obtain ⟨b', o', c', e', _, hcc⟩ := om.part
        cases e'
        have := hcc i hi
        rwa [Nat.zero_add] at this
      have HMS : Hid (MS W gk gm (padL zs) W) := ⟨⟨Nat.lt_of_lt_of_le hk2 bm.size, fun i hi => by rw [World.cell?_of_block (w := wr) (bm.block gk hk2)]; exact HKC.out i hi⟩, ⟨hm2, HMC.out⟩, Below.refl _ _⟩
      have HHW : Hid (HW W (.slice (some ⟨gk, 80, none⟩) 8 (ck - 80)) (mbl zs 0)) := ⟨gk, 80, ck - 80, rfl, HMS.out.k.1, fun i hi => by
        rw [HMS.out.k.2 (80 + i) (by omega)]
        show _ = some (Value.int .u64 (ivL.getD i 0))
        rw [ivL_get i hi]⟩
      have HBW : Hid (Below w.heap.size w W) := HB.out.trans (bm.mono hsz)
      have HLP : Hid ((padL zs).length = 128 * nBl n) := by show _ = _; rw [nBl_len, HN.out]
      rw [HLP.out] at hm3 ⊢
      have hK : 128 * nBl n ≤ 2097152 + 256 := by rw [← HLP.out, padL_len, HN.out]; have := (padZ_spec n).2; omega
      have HSH : Hid (txtW (mbl zs (nBl n)) = shaL zs) := by show _ = _; rw [← HN.out]; exact mbl_sha zs (by rw [HN.out]; exact hm)
      have HPB := hid_ofS (padL_byte HZ.out)
      clear A hsl om bm HMC HKC HC HZ HB hk1 hm1 hk2 hm2
      generalize nBl n = K at *
      obtain ⟨L, hL⟩ : ∃ L, L = 128 * K := ⟨_, rfl⟩
      rw [← hL] at hm3 HLP hK ⊢
      have HL := hid_ofS hL
      clear hL
      go_wp2
      go_loopw [5, 7] (fun v i y => ∃ j I : Nat, j ≤ K ∧ I = 128 * j ∧ i = .int .i64 (I : Int) ∧ HW y v (mbl zs j) ∧ MS W gk gm (padL zs) y) (fun _ i _ => (L + 128 - (intOf i).toNat))
      case atStart => exact ⟨0, 0, by omega, rfl, rfl, HHW.out, HMS.out⟩
      case round =>
        clear HHW HMS
        obtain ⟨j, I, hj, hI, rfl, ⟨bh, oh, ch, rfl, hh1, hh2⟩, hms⟩ := hrel
        have hL := HL.out
        have HI := hid_ofS hI
        by_cases hlt : j < K
        · have hlt' : (I : Int) < (L : Int) := by omega
          have hIL : I + 128 ≤ L := by omega
          have hsl := fun w => run_sliceM w gm L cm I hIL hm3
          have HMS := hid_ofS hms
          have HBS : Hid (mbl zs (j + 1) = mixL (mbl zs j) (((padL zs).drop (128 * j)).take 128)) := rfl
          have hbl : (((padL zs).drop (128 * j)).take 128).length = 128 := by rw [List.length_take, List.length_drop, HLP.out]; omega
          have hbb : Byte (((padL zs).drop (128 * j)).take 128) := fun z h => HPB.out z (List.mem_of_mem_drop (List.mem_of_mem_take h))
          have hBK : BK wr bh oh gm I gk (mbl zs j) (((padL zs).drop (128 * j)).take 128) :=
            ⟨⟨hh1, hh2⟩, ⟨hms.m.1, fun i hi => by rw [hms.m.2 (I + i) (by rw [HLP.out]; omega), pblk_get _ _ _ hi, hI]⟩, hms.k⟩
          have A := hid_ofS (blockS_any bh oh ch gm I (cm - I) gk ck _ _ wr hBK (mbl_w8 zs j) hbl hbb (by omega))
          rw [← HBS.out] at A
          have HJ : Hid (j + 1 ≤ K ∧ I + 128 = 128 * (j + 1)) := by constructor <;> omega
          clear hms hh2 hbl hbb hBK HBS hI hL hj hlt
          go_wp2_with fail
          refine A.out.mono ?_
          rintro e w3 ⟨v3, rfl, o3, b3⟩
          have HMS3 := hid_ofS (HMS.out.new b3)
          have HHW3 := hid_ofS (HW.of_own o3 (mbl_w8 zs (j + 1)).1)
          clear A hsl o3 b3 HMS
          go_wp2
          go_roundw
          case rel => exact ⟨j + 1, I + 128, HJ.out.1, HJ.out.2, by go_num, HHW3.out, HMS3.out⟩
          case measure => simp [intOf]; omega
        · obtain rfl : j = K := by omega
          have hlt' : ¬ ((I : Int) < (L : Int)) := by omega
          have HBR : Hid (Below w.heap.size w wr) := HBW.out.trans (hms.below.mono HBW.out.size)
          have HHH := hid_ofS hh2
          have H8 := hid_ofS (mbl_w8 zs j)
          have hIb : I ≤ 2097700 := by omega
          clear hms hh2 HBW HPB hI hL HI HL
          generalize mbl zs j = hs at *
          obtain ⟨wy, rfl⟩ : ∃ y, y = wr := ⟨_, rfl⟩
          go_wp2
          go_loopw [8, 9] (fun v i y => ∃ q : Nat, q ≤ 8 ∧ i = .int .i64 q ∧ Own y wy.heap.size v (txtW (hs.take q)) ∧ Below wy.heap.size wy y) (fun _ i _ => 8 - (intOf i).toNat)
          case atStart => exact ⟨0, by omega, rfl, Own.empty _ _ (Nat.le_refl _), (Below.refl _ _).alloc (Nat.le_refl _) _⟩
          case round =>
            obtain ⟨q, hq, rfl, hown, hbel⟩ := hrel
            by_cases hlq : q < 8
            · have hlq' : (q : Int) < 8 := by omega
              have hsz := hbel.size
              have hcl := HHH.out q hlq
              rw [← World.cell?_of_block (w' := wr) (hbel.block bh hh1)] at hcl
              have HSN := hid_ofS (txtW_snoc hs q (by rw [H8.out.1]; exact hlq))
              have HPL := hid_ofS (txtW_len (hs.take q))
              rw [List.length_take, H8.out.1] at HPL
              have hu := H8.out.2 q
              have HO := hid_ofS hown
              have HB := hid_ofS hbel
              clear hown hbel
              obtain ⟨x, hx⟩ : ∃ x, x = hs.getD q 0 := ⟨_, rfl⟩
              rw [← hx] at hcl hu HSN
              clear hx
              have A := hid_ofS (bytesS_any x wr hu)
              obtain ⟨hu0, hu1⟩ := hu
              go_wp2_with fail
              refine A.out.mono ?_
              rintro e w5 ⟨v5, rfl, o5, b5⟩
              obtain ⟨g5, c5, rfl, h51, h52, h53⟩ := o5.base
              have HC5 : Hid (∀ i, i < 8 → w5.cell? ((⟨g5, 0, none⟩ : Addr).add i) = some (.int .u8 ((by8 x).getD i 0))) := fun i hi => by
                obtain ⟨b', o', c', e', _, hcc⟩ := o5.part
                cases e'
                rw [Addr.add_lit]
                exact hcc i (by rw [by8_len]; exact hi)
              have HO5 := hid_ofS (own_grow HO.out b5)
              have HB5 := hid_ofS (HB.out.trans (b5.mono hsz))
              have hsz5 : wy.heap.size ≤ w5.heap.size := HB5.out.size
              rw [by8_len]
              clear A HO HB o5 b5
              have HLY : Hid ((txtW (hs.take q)).length + 8 ≤ 1099511627776) := by show _ ≤ _; rw [HPL.out]; omega
              go_wp2_with (at_builtin; refine wpList_app _ rfl _ _ rfl wy.heap.size _ _ rfl HO5.out ⟨g5, 0, none⟩ 8 c5 (by8 x) rfl (by8_len _) HC5.out HLY.out hsz5 ?_)
              intro v6 w6 o6 b6 _
              have HO6 : Hid (Own w6 wy.heap.size v6 (txtW (hs.take (q + 1)))) := by rw [HSN.out]; exact o6
              have HB6 := hid_ofS (HB5.out.trans b6)
              clear o6 b6 HO5 HB5
              go_wp2
              go_roundw
              case rel => exact ⟨q + 1, by omega, by go_num, HO6.out, HB6.out⟩
              case measure => simp [intOf]; omega
            · obtain rfl : q = 8 := by omega
              rw [List.take_of_length_le (by rw [H8.out.1]; exact Nat.le_refl _), HSH.out] at hown
              have HOF : Hid (Own _ w.heap.size _ (shaL zs)) := hown.lower HBR.out.size
              have HBF := hid_ofS (HBR.out.trans (hbel.mono HBR.out.size))
              clear hown hbel
              go_wp2
              go_ret
              exact ⟨_, rfl, HOF.out, HBF.out⟩
end Go.Proofs.YtclmhdhblghfnaaDoor
