/-
  Own work: the blocks of a message with its end are those that the program mixes in.
-/
import Derived.Test.YtkmljldcnchlmaaDoorShK
import Derived.Test.YtkmljldcnchlmaaDoorShL
import Derived.Test.YtkmljldcnchlmaaDoorSMul
namespace Go.Proofs.YtkmljldcnchlmaaDoor
open Go.ChangeShapes Go.WideShapes Go.ChangeAt Go.RowKit
set_option linter.unusedVariables false

theorem getD_app (xs ys : List Int) (i : Nat) : (xs ++ ys).getD i 0 = if i < xs.length then xs.getD i 0 else ys.getD (i - xs.length) 0 := by
  simp only [List.getD_eq_getElem?_getD, List.getElem?_append]
  split <;> rfl
theorem getD_rep0 (n i : Nat) : (List.replicate n (0 : Int)).getD i 0 = 0 := by
  simp only [List.getD_eq_getElem?_getD, List.getElem?_replicate]
  split <;> rfl
theorem getD_out (xs : List Int) (i : Nat) (h : xs.length ≤ i) : xs.getD i 0 = 0 := by
  rw [List.getD_eq_getElem?_getD, List.getElem?_eq_none h]; rfl
theorem getD_dropI (xs : List Int) (m i : Nat) : (xs.drop m).getD i 0 = xs.getD (m + i) 0 := by
  simp only [List.getD_eq_getElem?_getD, List.getElem?_drop]
theorem getD_takeI (xs : List Int) (m i : Nat) (h : i < m) : (xs.take m).getD i 0 = xs.getD i 0 := by
  simp only [List.getD_eq_getElem?_getD, List.getElem?_take, if_pos h]
theorem ext_getD {xs ys : List Int} (n : Nat) (h1 : xs.length = n) (h2 : ys.length = n) (h : ∀ i, i < n → xs.getD i 0 = ys.getD i 0) : xs = ys := by
  apply List.ext_getElem (by omega)
  intro i hi hj
  have := h i (by omega)
  simpa [List.getD_eq_getElem?_getD, hi, hj] using this
theorem ov8_get (bs : List Int) (o : Nat) (v : Int) (k : Nat) (hk : o + k ≤ bs.length) (i : Nat) :
    (ov8 bs o v k).getD i 0 = if o ≤ i ∧ i < o + k then v / 2 ^ (56 - 8 * (i - o)) % 256 else bs.getD i 0 := by
  induction k with
  | zero => rw [if_neg (by omega)]; rfl
  | succ k ih =>
    have ih := ih (by omega)
    unfold ov8
    by_cases e : i = o + k
    · rw [e, getD_set_same _ _ _ (by rw [ov8_len]; omega), if_pos (by omega), show o + k - o = k by omega]
    · rw [getD_set_other _ _ _ _ e, ih]
      by_cases c : o ≤ i ∧ i < o + k
      · rw [if_pos c, if_pos (by omega)]
      · rw [if_neg c, if_neg (by omega)]
theorem blkOf_get (zs : List Int) (i : Nat) (h : i < 128) : (blkOf zs).getD i 0 = zs.getD i 0 := by
  unfold blkOf
  rw [getD_app]
  split
  · rw [getD_takeI _ _ _ h]
  · next c => rw [getD_rep0, getD_out]; rw [List.length_take] at c; omega
theorem mrk_get (zs : List Int) (i : Nat) (h : i < 128) (hl : zs.length < 128) : (mrk zs).getD i 0 = if i = zs.length then 128 else zs.getD i 0 := by
  unfold mrk
  by_cases e : i = zs.length
  · rw [e, getD_set_same _ _ _ (by rw [blkOf_len]; exact hl), if_pos rfl]
  · rw [getD_set_other _ _ _ _ e, blkOf_get _ _ h, if_neg e]
theorem lenB_get (bs : List Int) (n : Nat) (hl : bs.length = 128) (hn : n ≤ 2097152) (i : Nat) :
    (lenB bs n).getD i 0 = if i < 112 then bs.getD i 0 else if i < 120 then 0 else if i < 128 then (by8 (8 * (n : Int))).getD (i - 120) 0 else 0 := by
  unfold lenB
  rw [ov8_get _ _ _ _ (by rw [ov8_len]; omega), ov8_get _ _ _ _ (by omega)]
  have hw : IntKind.u64.wrap ((n : Int) * 8) = 8 * (n : Int) := by rw [IntKind.wrap_u64]; omega
  have h61 : (n : Int) / 2 ^ 61 = 0 := by omega
  rw [hw, h61]
  by_cases a : i < 112
  · rw [if_neg (by omega), if_neg (by omega), if_pos a]
  · rw [if_neg a]
    by_cases b : i < 120
    · rw [if_neg (by omega), if_pos (by omega), if_pos b, Int.zero_ediv]; rfl
    · rw [if_neg b]
      by_cases c : i < 128
      · rw [if_pos (by omega), if_pos c, by8_get _ _ (by omega)]
      · rw [if_neg (by omega), if_neg (by omega), if_neg c, getD_out _ _ (by omega)]
theorem padL_len (zs : List Int) : (padL zs).length = zs.length + 1 + padZ zs.length + 16 := by
  unfold padL; simp [by8_len]; omega
theorem padL_get (zs : List Int) (i : Nat) : (padL zs).getD i 0 = if i < zs.length then zs.getD i 0 else if i = zs.length then 128 else if i < zs.length + 1 + padZ zs.length + 8 then 0 else (by8 (8 * (zs.length : Int))).getD (i - (zs.length + 1 + padZ zs.length + 8)) 0 := by
  unfold padL
  rw [getD_app, getD_app, getD_app, getD_app]
  simp only [List.length_append, List.length_replicate, List.length_cons, List.length_nil, getD_rep0, Nat.zero_add]
  by_cases a : i < zs.length
  · rw [if_pos (by omega), if_pos (by omega), if_pos (by omega), if_pos a, if_pos a]
  · rw [if_neg a, if_neg a]
    by_cases b : i = zs.length
    · rw [if_pos (by omega), if_pos (by omega), if_pos (by omega), if_pos b, b, Nat.sub_self]; rfl
    · rw [if_neg b]
      by_cases c : i < zs.length + 1 + padZ zs.length + 8
      · rw [if_pos c, if_pos c]
        split
        · rw [if_neg (by omega)]
        · rfl
      · rw [if_neg c, if_neg c]
/-- The words behind k blocks of the message with its end. -/
def mbl (zs : List Int) : Nat → List Int
  | 0 => ivL
  | k + 1 => mixL (mbl zs k) (((padL zs).drop (128 * k)).take 128)
theorem mbl_w8 (zs : List Int) (k : Nat) : W8 (mbl zs k) := by
  cases k with
  | zero => exact ivL_w8
  | succ k => exact mixL_w8 _ _
def nBl (n : Nat) : Nat := (n + 1 + padZ n + 16) / 128
theorem nBl_len (zs : List Int) : (padL zs).length = 128 * nBl zs.length := by
  have h := padZ_spec zs.length
  rw [padL_len]; unfold nBl; omega
theorem pblk_len (zs : List Int) (k : Nat) (h : k < nBl zs.length) : (((padL zs).drop (128 * k)).take 128).length = 128 := by
  rw [List.length_take, List.length_drop, nBl_len]; omega
theorem pblk_get (zs : List Int) (k i : Nat) (h : i < 128) : (((padL zs).drop (128 * k)).take 128).getD i 0 = (padL zs).getD (128 * k + i) 0 := by
  rw [getD_takeI _ _ _ h, getD_dropI]
theorem mbl_lo (zs : List Int) (k : Nat) (h : 128 * k ≤ zs.length) : mbl zs k = blks zs k := by
  induction k with
  | zero => rfl
  | succ k ih =>
    have hs := padZ_spec zs.length
    have hk : k < nBl zs.length := by unfold nBl; omega
    show mixL (mbl zs k) _ = mixL (blks zs k) _
    rw [ih (by omega)]
    congr 1
    refine ext_getD 128 (pblk_len zs k hk) (blkOf_len _) fun i hi => ?_
    rw [pblk_get _ _ _ hi, blkOf_get _ _ hi, getD_dropI, padL_get, if_pos (by omega)]
theorem mbl_fin (zs : List Int) (hn : zs.length ≤ 2097152) : mbl zs (nBl zs.length) = finL (blks zs (zs.length / 128)) (zs.drop (128 * (zs.length / 128))) zs.length := by
  obtain ⟨n, hn'⟩ : ∃ n, n = zs.length := ⟨_, rfl⟩
  obtain ⟨q, hq⟩ : ∃ q, q = n / 128 := ⟨_, rfl⟩
  rw [← hn', ← hq]
  have hs := padZ_spec n
  have hdl : (zs.drop (128 * q)).length = n - 128 * q := by rw [List.length_drop, hn']
  have hlo := mbl_lo zs q (by omega)
  unfold finL
  by_cases c : n - 128 * q < 112
  · have e : nBl n = q + 1 := by unfold nBl; omega
    have eT : n + 1 + padZ n = 128 * q + 112 := by omega
    rw [if_pos (by omega), e]
    have e1 : ((padL zs).drop (128 * q)).take 128 = lenB (mrk (zs.drop (128 * q))) n := ?_
    · show mixL (mbl zs q) _ = _
      rw [hlo, e1]
    refine ext_getD 128 (pblk_len zs q (by rw [← hn', e]; omega)) (lenB_len (mrk_len _) _) fun i hi => ?_
    rw [pblk_get _ _ _ hi, lenB_get _ _ (mrk_len _) (by omega), padL_get, ← hn', eT]
    by_cases a : i < 112
    · rw [if_pos a, mrk_get _ _ hi (by omega), hdl, getD_dropI]
      by_cases b : i < n - 128 * q
      · rw [if_pos (by omega), if_neg (by omega)]
      · rw [if_neg (by omega)]
        by_cases d : i = n - 128 * q
        · rw [if_pos (by omega), if_pos d]
        · rw [if_neg (by omega), if_pos (by omega), if_neg d, getD_out]; omega
    · rw [if_neg a, if_neg (by omega), if_neg (by omega)]
      by_cases b : i < 120
      · rw [if_pos b, if_pos (by omega)]
      · rw [if_neg b, if_neg (by omega), if_pos hi]
        rw [show 128 * q + i - (128 * q + 112 + 8) = i - 120 by omega]
  · have e : nBl n = q + 2 := by unfold nBl; omega
    have eT : n + 1 + padZ n = 128 * q + 240 := by omega
    rw [if_neg (by omega), e]
    have e1 : ((padL zs).drop (128 * q)).take 128 = mrk (zs.drop (128 * q)) := by
      refine ext_getD 128 (pblk_len zs q (by rw [← hn', e]; omega)) (mrk_len _) fun i hi => ?_
      rw [pblk_get _ _ _ hi, padL_get, ← hn', eT, mrk_get _ _ hi (by omega), hdl, getD_dropI]
      by_cases b : i < n - 128 * q
      · rw [if_pos (by omega), if_neg (by omega)]
      · rw [if_neg (by omega)]
        by_cases d : i = n - 128 * q
        · rw [if_pos (by omega), if_pos d]
        · rw [if_neg (by omega), if_pos (by omega), if_neg d, getD_out]; omega
    have e2 : ((padL zs).drop (128 * (q + 1))).take 128 = lenB (List.replicate 128 0) n := by
      refine ext_getD 128 (pblk_len zs (q + 1) (by rw [← hn', e]; omega)) (lenB_len (by simp) _) fun i hi => ?_
      rw [pblk_get _ _ _ hi, lenB_get _ _ (by simp) (by omega), padL_get, ← hn', eT, if_neg (by omega), if_neg (by omega), getD_rep0]
      by_cases b : i < 120
      · rw [if_pos (by omega)]
        by_cases d : i < 112
        · rw [if_pos d]
        · rw [if_neg d, if_pos b]
      · rw [if_neg (by omega), if_neg (by omega), if_neg b, if_pos hi]
        rw [show 128 * (q + 1) + i - (128 * q + 240 + 8) = i - 120 by omega]
    generalize lenB (List.replicate 128 0) (n : Int) = X at *
    generalize mrk (zs.drop (128 * q)) = Y at *
    have e3 : mbl zs (q + 1) = mixL (blks zs q) Y := by rw [← hlo, ← e1]; rfl
    rw [← e3, ← e2]; rfl
theorem mbl_sha (zs : List Int) (hn : zs.length ≤ 2097152) : txtW (mbl zs (nBl zs.length)) = shaL zs := by
  rw [mbl_fin zs hn]; rfl
theorem padL_byte {zs : List Int} (hz : Byte zs) : Byte (padL zs) := by
  intro z h
  unfold padL at h
  simp only [List.mem_append, List.mem_replicate, List.mem_singleton] at h
  rcases h with (((h | rfl) | ⟨_, rfl⟩) | ⟨_, rfl⟩) | h
  · exact hz z h
  · exact ⟨by decide, by decide⟩
  · exact ⟨by decide, by decide⟩
  · exact ⟨by decide, by decide⟩
  · exact by8_byte _ z h
end Go.Proofs.YtkmljldcnchlmaaDoor
