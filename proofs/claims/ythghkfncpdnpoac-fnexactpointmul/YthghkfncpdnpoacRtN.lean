/-
  Own work: program and model decode the same points.
-/
import Derived.Test.YthghkfncpdnpoacRtM
namespace Go.Proofs.Ythghkfncpdnpoac
set_option linter.unusedVariables false

theorem vI (v : Int) (h0 : 0 < v) (h1 : v < fp) : v * inv0 v % fp = 1 := by
  have f := fermatI v h0 h1
  rw [inv0_eq, mr]
  rw [show fpN - 1 = (fpN - 2) + 1 from by decide +kernel, Int.pow_succ, Int.mul_comm] at f
  exact f
theorem over_iff (a u v I : Int) (h : v * I % fp = 1) (hu : u % fp = u) : a * v % fp = u ↔ a % fp = u * I % fp := by
  constructor
  · intro e
    have : a % fp = a * (v * I) % fp := by rw [← mr, h, Int.mul_one]
    rw [this, ← Int.mul_assoc, ← ml, e]
  · intro e
    rw [← ml, e, ml, Int.mul_assoc, Int.mul_comm I v, ← mr, h, Int.mul_one, hu]
theorem neg_iff (x u : Int) (h0 : 0 ≤ u) (h1 : u < fp) : x % fp = (0 - u) % fp ↔ (-x) % fp = u := by
  rw [fp_lit] at *; omega
theorem rc_eq (u v : Int) : rcF u v = rtF u v * rtF u v * v % fp := by
  show rtF u v * rtF u v % fp * v % fp = _
  rw [ml]
theorem rt_bd (u v : Int) : 0 ≤ rtF u v ∧ rtF u v < fp := by unfold rtF; rw [fp_lit]; omega
theorem first_iff (u v : Int) (h0 : 0 < v) (h1 : v < fp) (u0 : 0 ≤ u) (u1 : u < fp) : rcF u v = u ↔ rtF u v * rtF u v % fp = u * inv0 v % fp := by
  rw [rc_eq]; exact over_iff _ u v _ (vI v h0 h1) (Int.emod_eq_of_lt u0 u1)
theorem neg_one_mod (a : Int) : a * (fp - 1) % fp = (-a) % fp := by
  rw [show a * (fp - 1) = -a + fp * a from by grind, Int.add_mul_emod_self_left]
theorem second_iff (u v : Int) (h0 : 0 < v) (h1 : v < fp) (u0 : 0 ≤ u) (u1 : u < fp) :
    rcF u v = (0 - u) % fp ↔ (rtF u v * pw2 (2 % fp) % fp) * (rtF u v * pw2 (2 % fp) % fp) % fp = u * inv0 v % fp := by
  have hq : (rtF u v * pw2 (2 % fp) % fp) * (rtF u v * pw2 (2 % fp) % fp) % fp = (-(rtF u v * rtF u v)) % fp := by
    rw [mod_mul_mod]
    have := s_sq
    generalize pw2 (2 % fp) = s at *
    generalize rtF u v = r at *
    rw [show r * s * (r * s) = r * r * (s * s) from by grind, ← mr, this, neg_one_mod]
  rw [hq, rc_eq, neg_iff _ u u0 u1, ← over_iff _ u v _ (vI v h0 h1) (Int.emod_eq_of_lt u0 u1), Int.neg_mul]
theorem uF_eq (Y : Int) : uF Y = mdU Y := by
  unfold uF mdU
  rw [show ev oneL = 1 % fp from by decide]; rfl
theorem vF_eq (Y : Int) : vF Y = mdV Y mdD := by
  unfold vF mdV
  rw [show ev oneL = 1 % fp from by decide, curveD_N, mdD_N, Int.mul_comm]; rfl
theorem mdV_bd (Y : Int) (h0 : 0 ≤ Y) (h1 : Y < fp) : 0 < mdV Y mdD ∧ mdV Y mdD < fp := by
  have h := v_ne Y h0 h1
  rw [← mdD_N] at h
  unfold mdV
  generalize mdD * (Y * Y % fp) % fp + 1 % fp = q at *
  rw [fp_lit] at *; omega
theorem mdU_bd (Y : Int) : 0 ≤ mdU Y ∧ mdU Y < fp := by unfold mdU; rw [fp_lit]; omega
theorem roots_same (Y : Int) (h0 : 0 ≤ Y) (h1 : Y < fp) : drR (uF Y) (vF Y) = mdOk Y mdD ∧ drX (uF Y) (vF Y) = mdX Y mdD := by
  rw [uF_eq, vF_eq]
  have hv := mdV_bd Y h0 h1
  have hu := mdU_bd Y
  have hR : mdR Y mdD = rtF (mdU Y) (mdV Y mdD) := (rt_md _ _ hv.1 hv.2).symm
  have i1 := first_iff _ _ hv.1 hv.2 hu.1 hu.2
  have i2 := second_iff _ _ hv.1 hv.2 hu.1 hu.2
  unfold drR drX mdOk mdX mdQ mdW
  rw [hR, s_eq]
  refine ⟨?_, ?_⟩
  · rw [decide_eq_decide.2 i1, decide_eq_decide.2 i2]
  · by_cases h : rcF (mdU Y) (mdV Y mdD) = mdU Y
    · rw [if_pos h, if_pos (i1.1 h)]
    · rw [if_neg h, if_neg (fun e => h (i1.2 e))]
theorem mdX_bd (Y : Int) : 0 ≤ mdX Y mdD ∧ mdX Y mdD < fp := by
  unfold mdX mdQ mdR
  generalize mdW Y mdD * pw1 (mdW Y mdD) = a
  generalize a % fp * pw2 (2 % fp) = b
  split <;> (rw [fp_lit]; omega)
theorem odd_same (zs : List Int) (hl : zs.length = 32) (hz : Byte zs) : dcO zs = (mO zs == 1) := by
  unfold dcO mO
  have e := val_take 256 zs 31 (by omega)
  rw [List.take_of_length_le (by omega)] at e
  have dg : Dig 256 (zs.take 31) := fun z hz' => hz z (List.mem_of_mem_take hz')
  have b0 := val_nonneg (B := 256) (by decide) dg
  have b1 := val_lt (B := 256) (by decide) dg
  rw [List.length_take, hl, show min 31 32 = 31 from rfl] at b1
  have e3 : (256 : Int) ^ 31 = 452312848583266388373324160190187140051835877600158453279131187530910662656 := by decide
  rw [e3] at e b1
  have hb := hz.get 31
  have : val 256 zs / (fp + 19) = zs.getD 31 0 / 128 := by rw [fp_lit]; omega
  rw [this]
theorem par_all (x : Int) (o : Bool) (h0 : 0 ≤ x) (h1 : x < fp) : ((((if ((x % 2 == 1) != o) = true then (0 - x) % fp else x) % 2 == 1) == o)) = !(o && decide (x = 0 % fp)) := by
  have hz : (0 : Int) % fp = 0 := by decide
  rw [hz]
  rw [fp_lit] at *
  by_cases hx : x = 0
  · subst hx; cases o <;> decide
  · rw [decide_eq_false hx, Bool.and_false]
    have hp : x % 2 = 0 ∨ x % 2 = 1 := by omega
    have hn : (0 - x) % 57896044618658097711785492504343953926634992332820282019728792003956564819949 = 57896044618658097711785492504343953926634992332820282019728792003956564819949 - x := by omega
    rw [hn]
    rcases hp with hp | hp
    · have h2 : (57896044618658097711785492504343953926634992332820282019728792003956564819949 - x) % 2 = 1 := by omega
      cases o <;> simp [hp, h2]
    · have h2 : (57896044618658097711785492504343953926634992332820282019728792003956564819949 - x) % 2 = 0 := by omega
      cases o <;> simp [hp, h2]
/-- Program and model find the same bytes to be a point. -/
theorem dec_same (zs : List Int) (hz : Byte zs) : dcR zs = mB zs mdD := by
  by_cases hl : zs.length = 32
  · have hY : dcY zs = mY zs := rfl
    unfold dcR mB
    rw [hY]
    by_cases hy : mY zs < fp
    · have h0 : 0 ≤ mY zs := by unfold mY; rw [fp_lit]; omega
      obtain ⟨r1, r2⟩ := roots_same (mY zs) h0 hy
      have hb := mdX_bd (mY zs)
      have hx : dcX zs = if ((mdX (mY zs) mdD % 2 == 1) != dcO zs) = true then (0 - mdX (mY zs) mdD) % fp else mdX (mY zs) mdD := by
        unfold dcX dc1; rw [hY, r2]
      rw [r1, hx, par_all _ _ hb.1 hb.2, odd_same zs hl hz]
    · rw [decide_eq_false hy]; simp
  · unfold dcR mB
    have : (zs.length == 32) = false := by simpa using hl
    rw [this]; rfl
end Go.Proofs.Ythghkfncpdnpoac
