/-
  Own work: the base point's order: a multiple of it is that of the rest.
-/
import Derived.Test.YtdaglofgioehhaaGq
import Derived.Test.YtdaglofgioehhaaMBb
import Derived.Test.YtdaglofgioehhaaMVal
import Derived.Test.YtdaglofgioehhaaMLwa
namespace Go.Proofs.Ytdaglofgioehhaa
set_option linter.unusedVariables false

set_option maxRecDepth 1000000 in
theorem LB_k : (pS bigL (ptQ bB) 256).1 = 0 ∧ (pS bigL (ptQ bB) 256).2.1 = (pS bigL (ptQ bB) 256).2.2.1 := by decide +kernel
def bA : Pt2 := (mX bB mdD, mY bB)
theorem bA_on : OnA bA := by unfold OnA On Z0 bA; decide +kernel
theorem bA_rd : Rd2' bA := by unfold Rd2' bA; decide +kernel
theorem ptQ_rep {zs : List Int} : Rep (ptQ zs) (mX zs mdD, mY zs) := by
  refine ⟨?_, ?_, ?_, ?_⟩
  · show ¬ Z0 (1 % fp); unfold Z0; decide
  · show Z0 (mX zs mdD - mX zs mdD * (1 % fp)); rw [show (1 : Int) % fp = 1 from by decide, Int.mul_one, Int.sub_self]; unfold Z0; decide
  · show Z0 (mY zs - mY zs * (1 % fp)); rw [show (1 : Int) % fp = 1 from by decide, Int.mul_one, Int.sub_self]; unfold Z0; decide
  · show Z0 (mX zs mdD * mY zs % fp - mX zs mdD * mY zs * (1 % fp)); rw [show (1 : Int) % fp = 1 from by decide, Int.mul_one]; exact md0 _
theorem LB : mulA bA bigL.toNat = OA := by
  have h := pS_rep bA_on (show Rep (ptQ bB) bA from ptQ_rep (zs := bB)) bigL (by decide) (by decide) 256 (Nat.le_refl _)
  rw [Nat.sub_self, Int.pow_zero, Int.ediv_one] at h
  obtain ⟨n, p1, p2, _⟩ := h
  obtain ⟨k1, k2⟩ := LB_k
  rw [k1] at p1
  rw [k2] at p2
  refine pt_eq ?_ ?_ (mulA_rd _ _) OA_rd
  · show Z0 ((mulA bA bigL.toNat).1 - 0)
    generalize (mulA bA bigL.toNat).1 = x at p1 ⊢
    generalize (pS bigL (ptQ bB) 256).2.2.1 = z at *
    rcases ((p1.mul (-1)).of_eq (show _ = x * z by grind)).prime with h | h
    · exact h.of_eq (by grind)
    · exact absurd h n
  · show Z0 ((mulA bA bigL.toNat).2 - 1)
    generalize (mulA bA bigL.toNat).2 = y at p2 ⊢
    generalize (pS bigL (ptQ bB) 256).2.2.1 = z at *
    rcases ((p2.mul (-1)).of_eq (show _ = (y - 1) * z by grind)).prime with h | h
    · exact h
    · exact absurd h n
/-- A multiple of the base point is that of the rest modulo L. -/
theorem mu_rest (V : Int) (h0 : 0 ≤ V) (h1 : V < 2 ^ 256) : muV V (ptQ bB) = muV (V % bigL) (ptQ bB) := by
  have hr : Rd (ptQ bB) := by unfold Rd ptQ; decide +kernel
  have hb : 0 < bigL := by decide
  have m0 := Int.emod_nonneg V (show bigL ≠ 0 by decide)
  have m1 := Int.emod_lt_of_pos V hb
  have hlt : V % bigL < 2 ^ 256 := Int.lt_trans m1 (by decide)
  rw [mu_val bA_on ptQ_rep hr V h0 h1, mu_val bA_on ptQ_rep hr (V % bigL) m0 hlt]
  have e : V.toNat = bigL.toNat * (V / bigL).toNat + (V % bigL).toNat := by
    have := Int.emod_add_mul_ediv V bigL
    have q0 : 0 ≤ V / bigL := Int.ediv_nonneg h0 (by omega)
    have hm : (bigL.toNat : Int) * ((V / bigL).toNat : Int) = bigL * (V / bigL) := by rw [Int.toNat_of_nonneg q0, Int.toNat_of_nonneg (by omega)]
    have : ((bigL.toNat * (V / bigL).toNat + (V % bigL).toNat : Nat) : Int) = (V.toNat : Int) := by
      rw [Int.natCast_add, Int.natCast_mul, hm, Int.toNat_of_nonneg m0, Int.toNat_of_nonneg h0]; omega
    omega
  rw [e, mulA_add bA_on, mulA_O bA_on LB, addA_id (mulA_on bA_on _) (mulA_rd _ _)]
end Go.Proofs.Ytdaglofgioehhaa
namespace Go.Proofs.Ytdaglofgioehhaa
set_option linter.unusedVariables false

theorem digE : ∀ (n : Nat) (V : Int), 0 ≤ V → V < 256 ^ n → ∃ rs : List Int, Byte rs ∧ rs.length = n ∧ val 256 rs = V
  | 0, V, h0, h1 => ⟨[], (fun v hv => by cases hv), rfl, by simp at h1; show (0 : Int) = V; omega⟩
  | n + 1, V, h0, h1 => by
    rw [Int.pow_succ] at h1
    obtain ⟨rs, hb, hl, hv⟩ := digE n (V / 256) (by omega) (by generalize (256 : Int) ^ n = q at *; omega)
    refine ⟨V % 256 :: rs, fun v h => ?_, by simp [hl], ?_⟩
    · rcases List.mem_cons.1 h with h | h
      · omega
      · exact hb v h
    · show V % 256 + 256 * val 256 rs = V
      rw [hv]; omega
theorem mu_rng {ks : List Int} (hl : ks.length = 32) (hb : Byte ks) : 0 ≤ muV (val 256 ks) (ptQ bB) ∧ muV (val 256 ks) (ptQ bB) < 256 ^ 32 := by
  have h0 := val_nonneg (B := 256) (by decide) hb
  have h1 : val 256 ks < 2 ^ 256 := by
    have := val_lt (B := 256) (by decide) hb
    rw [hl] at this
    exact Int.lt_of_lt_of_le this (by decide)
  have hr : Rd (ptQ bB) := by unfold Rd ptQ; decide +kernel
  rw [mu_val bA_on ptQ_rep hr (val 256 ks) h0 h1]
  obtain ⟨q1, q2⟩ := mulA_rd bA (val 256 ks).toNat
  generalize (mulA bA (val 256 ks).toNat) = P at *
  have hx := Int.emod_nonneg P.1 (show (2 : Int) ≠ 0 by decide)
  have hx' := Int.emod_lt_of_pos P.1 (show (0 : Int) < 2 by decide)
  have ht : top255 + fp ≤ 256 ^ 32 := by unfold top255 fp; decide
  have ht0 : 0 ≤ top255 := by unfold top255; decide
  have y0 : 0 ≤ P.2 ∧ P.2 < fp := q2
  rcases (show P.1 % 2 = 0 ∨ P.1 % 2 = 1 by omega) with h | h
  · rw [h]; generalize (256 : Int) ^ 32 = q at *; omega
  · rw [h]; generalize (256 : Int) ^ 32 = q at *; omega
theorem s_neg : Z0 (pw2 (2 % fp) * pw2 (2 % fp) + 1) := by
  have h := s_sq
  unfold Z0
  generalize pw2 (2 % fp) * pw2 (2 % fp) = a at *
  rw [fp_lit] at *; omega
theorem w_eq (Y : Int) (h0 : 0 ≤ Y) (h1 : Y < fp) (x : Int) : On x Y ↔ Z0 (x * x - mdW Y mdD) := by
  obtain ⟨v0, v1⟩ := mdV_bd Y h0 h1
  have hI := vI (mdV Y mdD) v0 v1
  have eI : Z0 (mdV Y mdD * inv0 (mdV Y mdD) - 1) := z0_iff.2 (by rw [hI]; decide)
  have eU : Z0 (mdU Y - (Y * Y - 1)) := by unfold mdU; refine z0_iff.2 ?_; rw [Int.emod_emod_of_dvd _ (Int.dvd_refl fp), Int.sub_emod, Int.emod_emod_of_dvd _ (Int.dvd_refl fp), Int.emod_emod_of_dvd _ (Int.dvd_refl fp), ← Int.sub_emod]
  have eV : Z0 (mdV Y mdD - (mdD * (Y * Y) + 1)) := by
    unfold mdV; refine z0_iff.2 ?_
    rw [Int.emod_emod_of_dvd _ (Int.dvd_refl fp), Int.add_emod, Int.emod_emod_of_dvd _ (Int.dvd_refl fp), Int.emod_emod_of_dvd _ (Int.dvd_refl fp), mr, ← Int.add_emod]
  have eW : Z0 (mdW Y mdD - mdU Y * inv0 (mdV Y mdD)) := by unfold mdW; exact md0 _
  have nV : ¬ Z0 (mdV Y mdD) := by unfold Z0; rw [Int.emod_eq_of_lt (by omega) v1]; omega
  unfold On
  generalize mdV Y mdD = V at *
  generalize inv0 V = I at *
  generalize mdU Y = U at *
  generalize mdW Y mdD = W at *
  constructor
  · intro h
    -- x*x - W = ... times V
    have k : Z0 (V * (x * x - W)) := by
      refine (((eV.mul (x * x)).sub h).sub ((eW.mul V).add ((eI.mul U).add eU))).of_eq ?_
      grind
    rcases k.prime with k | k
    · exact absurd k nV
    · exact k
  · intro h
    refine (((eV.mul (x * x)).sub (h.mul V)).sub ((eW.mul V).add ((eI.mul U).add eU))).of_eq ?_
    grind
theorem mdX_sq (Y : Int) (h : mdOk Y mdD = true) : Z0 (mdX Y mdD * mdX Y mdD - mdW Y mdD) := by
  have hw : mdW Y mdD % fp = mdW Y mdD := by unfold mdW; exact Int.emod_emod_of_dvd _ (Int.dvd_refl fp)
  unfold mdOk at h
  unfold mdX
  split
  · next e => exact z0_iff.2 (by rw [e, hw])
  · next e =>
    rw [decide_eq_false e, Bool.false_or, decide_eq_true_eq] at h
    exact z0_iff.2 (by rw [h, hw])
theorem ok_of_sq (Y x : Int) (h : Z0 (x * x - mdW Y mdD)) : mdOk Y mdD = true := by
  have hw : mdW Y mdD % fp = mdW Y mdD := by unfold mdW; exact Int.emod_emod_of_dvd _ (Int.dvd_refl fp)
  have eR : Z0 (mdR Y mdD - mdW Y mdD * mdW Y mdD ^ ((fpN - 5) / 8)) := by
    unfold mdR; rw [pw1_eq]; refine z0_iff.2 ?_; rw [Int.emod_emod_of_dvd _ (Int.dvd_refl fp), mr]
  have eQ : Z0 (mdQ Y mdD - mdR Y mdD * pw2 (2 % fp)) := by unfold mdQ; exact md0 _
  have es := s_neg
  have key : Z0 ((mdR Y mdD * mdR Y mdD - mdW Y mdD) * (mdR Y mdD * mdR Y mdD + mdW Y mdD)) := by
    by_cases hx : Z0 (mdW Y mdD)
    · have r0 : Z0 (mdR Y mdD) := (eR.add (hx.mul (mdW Y mdD ^ ((fpN - 5) / 8)))).of_eq (by grind)
      generalize mdR Y mdD = R at *
      generalize mdW Y mdD = W at *
      exact ((r0.mul (R * R * R)).sub (hx.mul W)).of_eq (by grind)
    · have hf : Z0 (mdW Y mdD ^ ((fpN - 1) / 2) - 1) := by
        have nx : ¬ Z0 x := fun k => hx (((k.mul x).sub h).of_eq (by grind))
        have f := fermatI (x % fp) (by
          have := Int.emod_nonneg x (show fp ≠ 0 by decide)
          unfold Z0 at nx; omega) (Int.emod_lt_of_pos _ (by decide))
        rw [mpow] at f
        refine z0_iff.2 ?_
        have e : x * x % fp = mdW Y mdD % fp := z0_iff.1 h
        rw [← mpow, ← e, mpow, sq2, ← Int.pow_mul, half_two, f]; decide
      have e4 : Z0 (mdR Y mdD ^ 4 - (mdW Y mdD * mdW Y mdD ^ ((fpN - 5) / 8)) ^ 4) := by
        refine z0_iff.2 ?_
        rw [← mpow, z0_iff.1 eR, mpow]
      have ex : (mdW Y mdD * mdW Y mdD ^ ((fpN - 5) / 8)) ^ 4 = mdW Y mdD ^ 2 * mdW Y mdD ^ ((fpN - 1) / 2) := by
        rw [Int.mul_pow, ← Int.pow_mul, ← Int.pow_add, ← Int.pow_add]
        congr 1
      rw [ex] at e4
      generalize mdW Y mdD ^ ((fpN - 1) / 2) = F at *
      generalize mdR Y mdD = R at *
      generalize mdW Y mdD = W at *
      exact (e4.add (hf.mul (W ^ 2))).of_eq (by grind)
  unfold mdOk
  rcases key.prime with k | k
  · rw [decide_eq_true (by have := z0_iff.1 k; rw [hw] at this; exact this), Bool.true_or]
  · have kq : Z0 (mdQ Y mdD * mdQ Y mdD - mdW Y mdD) := by
      generalize mdQ Y mdD = Q at *
      generalize mdR Y mdD = R at *
      generalize mdW Y mdD = W at *
      generalize pw2 (2 % fp) = s at *
      refine ((((eQ.mul Q).add (eQ.mul (R * s))).add (es.mul (R * R))).sub k).of_eq ?_
      grind
    rw [decide_eq_true (p := mdQ Y mdD * mdQ Y mdD % fp = mdW Y mdD) (by have := z0_iff.1 kq; rw [hw] at this; exact this), Bool.or_true]
theorem val_top (zs : List Int) (hl : zs.length = 32) (hz : Byte zs) : val 256 zs / top255 = mO zs := by
  unfold mO
  have e := val_take 256 zs 31 (by omega)
  rw [List.take_of_length_le (by omega)] at e
  have dg : Dig 256 (zs.take 31) := fun z hz' => hz z (List.mem_of_mem_take hz')
  have b0 := val_nonneg (B := 256) (by decide) dg
  have b1 := val_lt (B := 256) (by decide) dg
  rw [List.length_take, hl, show min 31 32 = 31 from rfl] at b1
  have e3 : (256 : Int) ^ 31 = 452312848583266388373324160190187140051835877600158453279131187530910662656 := by decide
  rw [e3] at e b1
  have hb := hz.get 31
  unfold top255; omega
/-- What decodes lies on the curve. -/
theorem on_of_mB {zs : List Int} (hz : Byte zs) (h : mB zs mdD = true) : OnA (mX zs mdD, mY zs) ∧ Rd2' (mX zs mdD, mY zs) := by
  unfold mB at h
  simp only [Bool.and_eq_true] at h
  obtain ⟨⟨⟨h1, h2⟩, h3⟩, h4⟩ := h
  have y0 : 0 ≤ mY zs := Int.emod_nonneg _ (by decide)
  have y1 : mY zs < fp := of_decide_eq_true h2
  obtain ⟨x0, x1⟩ := mdX_bd (mY zs)
  have hsq := mdX_sq _ h3
  have hz : (0 : Int) % fp = 0 := by decide
  unfold OnA Rd2' mX
  split
  · exact ⟨(w_eq _ y0 y1 _).2 hsq, ⟨x0, x1⟩, y0, y1⟩
  · refine ⟨(w_eq _ y0 y1 _).2 ?_, ⟨Int.emod_nonneg _ (by decide), Int.emod_lt_of_pos _ (by decide)⟩, y0, y1⟩
    show Z0 ((0 % fp - mdX (mY zs) mdD) % fp * ((0 % fp - mdX (mY zs) mdD) % fp) - mdW (mY zs) mdD)
    rw [hz]
    have e := md0 (0 - mdX (mY zs) mdD)
    generalize (0 - mdX (mY zs) mdD) % fp = N at *
    generalize mdX (mY zs) mdD = X at *
    generalize mdW (mY zs) mdD = W at *
    exact (((e.mul N).add (e.mul (-X))).add hsq).of_eq (by grind)
/-- A code decodes to its point. -/
theorem dec_code {P : Pt2} (hP : OnA P) (hr : Rd2' P) {zs : List Int} (hz : Byte zs) (hl : zs.length = 32) (hv : val 256 zs = P.2 + top255 * (P.1 % 2)) : mB zs mdD = true ∧ mX zs mdD = P.1 ∧ mY zs = P.2 := by
  obtain ⟨⟨x0, x1⟩, y0, y1⟩ := hr
  have ht := val_top zs hl hz
  have hY : mY zs = P.2 := by unfold mY; rw [hv]; unfold top255; rw [fp_lit] at *; omega
  have hO : mO zs = P.1 % 2 := by rw [← ht, hv]; unfold top255; rw [fp_lit] at *; omega
  have hsq := (w_eq P.2 y0 y1 P.1).1 hP
  have hok := ok_of_sq P.2 P.1 hsq
  have hq := mdX_sq P.2 hok
  obtain ⟨m0, m1⟩ := mdX_bd P.2
  have h00 : (0 : Int) % fp = 0 := by decide
  have hpm : mdX P.2 mdD = P.1 ∨ (mdX P.2 mdD + P.1 = fp ∨ (mdX P.2 mdD = 0 ∧ P.1 = 0)) := by
    have k : Z0 ((mdX P.2 mdD - P.1) * (mdX P.2 mdD + P.1)) := (hq.sub hsq).of_eq (by generalize mdX P.2 mdD = X at *; generalize mdW P.2 mdD = W at *; grind)
    rcases k.prime with k | k
    · left
      have := z0_iff.1 k
      rw [Int.emod_eq_of_lt m0 m1, Int.emod_eq_of_lt x0 x1] at this; exact this
    · right
      unfold Z0 at k
      rw [fp_lit] at *; omega
  unfold mB mX
  rw [hY, hO, hok, hl, decide_eq_true y1]
  refine ⟨?_, ?_, rfl⟩
  · rw [h00]
    by_cases hx : P.1 % 2 = 1
    · have : ¬ mdX P.2 mdD = 0 := by rw [fp_lit] at *; omega
      simp [this]
    · simp [hx]
  · rw [h00]
    split
    · next e => rw [fp_lit] at *; omega
    · next e => rw [fp_lit] at *; omega
end Go.Proofs.Ytdaglofgioehhaa
namespace Go.Proofs.Ytdaglofgioehhaa
set_option linter.unusedVariables false

theorem ptQ_rd2 {zs : List Int} (hz : Byte zs) (h : mB zs mdD = true) : Rd (ptQ zs) := by
  obtain ⟨_, ⟨x0, x1⟩, y0, y1⟩ := on_of_mB hz h
  exact ⟨⟨x0, x1⟩, ⟨y0, y1⟩, by show 0 ≤ 1 % fp ∧ 1 % fp < fp; decide, ⟨Int.emod_nonneg _ (by decide), Int.emod_lt_of_pos _ (by decide)⟩⟩
theorem code_rng {P : Pt2} (hr : Rd2' P) : 0 ≤ P.2 + top255 * (P.1 % 2) ∧ P.2 + top255 * (P.1 % 2) < 256 ^ 32 := by
  obtain ⟨⟨x0, x1⟩, y0, y1⟩ := hr
  have ht : top255 + fp ≤ 256 ^ 32 := by unfold top255 fp; decide
  have ht0 : 0 ≤ top255 := by unfold top255; decide
  rcases (show P.1 % 2 = 0 ∨ P.1 % 2 = 1 by omega) with h | h
  · rw [h]; generalize (256 : Int) ^ 32 = q at *; omega
  · rw [h]; generalize (256 : Int) ^ 32 = q at *; omega
/-- The bytes of a multiple are the code of the multiple. -/
theorem muZ_code {ks zs : List Int} (hl : ks.length = 32) (hb : Byte ks) (hz : Byte zs) (h : mB zs mdD = true) :
    (muZ ks zs).length = 32 ∧ Byte (muZ ks zs) ∧ val 256 (muZ ks zs) = (mulA (mX zs mdD, mY zs) (val 256 ks).toNat).2 + top255 * ((mulA (mX zs mdD, mY zs) (val 256 ks).toNat).1 % 2) := by
  obtain ⟨hP, hR⟩ := on_of_mB hz h
  have h0 := val_nonneg (B := 256) (by decide) hb
  have h1 : val 256 ks < 2 ^ 256 := by
    have := val_lt (B := 256) (by decide) hb
    rw [hl] at this
    exact Int.lt_of_lt_of_le this (by decide)
  have e := mu_val hP ptQ_rep (ptQ_rd2 hz h) (val 256 ks) h0 h1
  obtain ⟨r0, r1⟩ := code_rng (mulA_rd (mX zs mdD, mY zs) (val 256 ks).toNat)
  obtain ⟨rs, d1, d2, d3⟩ := digE 32 _ r0 r1
  rw [muZ_eq ⟨hl, h⟩ d1 d2 (by rw [d3, e])]
  exact ⟨d2, d1, d3⟩
theorem padV_F4 (xs ys : List Int) : padV xs ys = cdV (F4 (ptQ xs) (ptQ ys)).1 (F4 (ptQ xs) (ptQ ys)).2.1 (F4 (ptQ xs) (ptQ ys)).2.2.1 := by
  unfold padV sdV F4 ptQ fX fY fZ; dsimp only
/-- The sum of two multiples is the multiple of the sum. -/
theorem grp {ka kb kc zs : List Int} (la : ka.length = 32) (ba : Byte ka) (lb : kb.length = 32) (bb : Byte kb) (lc : kc.length = 32) (bc : Byte kc) (hz : Byte zs) (h : mB zs mdD = true)
    (hs : val 256 kc = val 256 ka + val 256 kb) : paZ (muZ ka zs) (muZ kb zs) = muZ kc zs ∧ mB (muZ kc zs) mdD = true := by
  obtain ⟨hP, hR⟩ := on_of_mB hz h
  obtain ⟨a1, a2, a3⟩ := muZ_code la ba hz h
  obtain ⟨b1, b2, b3⟩ := muZ_code lb bb hz h
  obtain ⟨c1, c2, c3⟩ := muZ_code lc bc hz h
  obtain ⟨ma, xa, ya⟩ := dec_code (mulA_on hP _) (mulA_rd _ _) a2 a1 a3
  obtain ⟨mb, xb, yb⟩ := dec_code (mulA_on hP _) (mulA_rd _ _) b2 b1 b3
  obtain ⟨mc, _, _⟩ := dec_code (mulA_on hP _) (mulA_rd _ _) c2 c1 c3
  refine ⟨paZ_eq ⟨ma, mb⟩ c2 c1 ?_, mc⟩
  have ra : Rep (ptQ (muZ ka zs)) (mulA (mX zs mdD, mY zs) (val 256 ka).toNat) := by
    have := ptQ_rep (zs := muZ ka zs)
    rw [xa, ya] at this; exact this
  have rb : Rep (ptQ (muZ kb zs)) (mulA (mX zs mdD, mY zs) (val 256 kb).toNat) := by
    have := ptQ_rep (zs := muZ kb zs)
    rw [xb, yb] at this; exact this
  have n0 := val_nonneg (B := 256) (by decide) ba
  have n1 := val_nonneg (B := 256) (by decide) bb
  have en : (val 256 kc).toNat = (val 256 ka).toNat + (val 256 kb).toNat := by omega
  have ea := mulA_add hP (val 256 ka).toNat (val 256 kb).toNat
  have hr := cd_rep (F4_rep (mulA_on hP _) (mulA_on hP _) ra rb) (F4_rd _ _) (by rw [← ea]; exact mulA_rd _ _)
  rw [padV_F4, hr, ← ea, c3, en]
end Go.Proofs.Ytdaglofgioehhaa
