/-
  Own work: the model's decoding of a point.
-/
import Derived.Test.YthghkfncpdnpoacSAf
namespace Go.Proofs.Ythghkfncpdnpoac
open Go.ChangeShapes Go.WideShapes Go.ChangeAt Go.RowKit
set_option linter.unusedVariables false

theorem results_pt {fn : Func} {p u : Tmp} (h : fn.results = #[.tmp u, .cell p 76]) (tmps : Array Value) (w : World) (g : Nat) (s1 s2 s3 s4 : Value)
    (v : Value) (hv : tmps.getD u undef = v) (hp : tmps.getD p undef = .pointer (some ⟨g, 0, none⟩)) (hg : PtW w g #[s1, s2, s3, s4]) :
    (results fn tmps).run Try.prog w = .ok (.tuple #[v, .agg #[s1, s2, s3, s4]]) w := by
  have hp' : tmps[p]?.getD undef = .pointer (some ⟨g, 0, none⟩) := by simpa using hp
  have hv' : tmps[u]?.getD undef = v := by simpa using hv
  have hl := run_loadVar_row (P := Try.prog) w g 76 76 #[s1, s2, s3, s4] (0, 0) _ hg Try.underlying76 rfl Try.sizePt
  simp [results, h, hp', hv', asAddr, hl]

theorem fp_lit' : fp = 57896044618658097711785492504343953926634992332820282019728792003956564819949 := by decide
def mY (zs : List Int) : Int := val 256 zs % (fp + 19)
def mO (zs : List Int) : Int := zs.getD 31 0 / 128
def mB (zs : List Int) (D : Int) : Bool := (zs.length == 32) && decide (mY zs < fp) && mdOk (mY zs) D && !(mO zs == 1 && decide (mdX (mY zs) D = 0 % fp))
def mX (zs : List Int) (D : Int) : Int := if mdX (mY zs) D % 2 = mO zs then mdX (mY zs) D else (0 % fp - mdX (mY zs) D) % fp
/-- What l4Decode answers. -/
def MD (w : World) (zs : List Int) (D : Int) (e : Ending) (w' : World) : Prop :=
  ∃ s1 s2 s3 s4 : Value, e = .returned (.tuple #[.bool (mB zs D), .agg #[s1, s2, s3, s4]]) ∧ Below w.heap.size w w' ∧ (s1.oneCell' = true ∧ s2.oneCell' = true ∧ s3.oneCell' = true ∧ s4.oneCell' = true) ∧
    (mB zs D = true → ∃ g1 c1 g2 c2 g3 c3 g4 c4, s1 = .slice (some ⟨g1, 0, none⟩) 16 c1 ∧ s2 = .slice (some ⟨g2, 0, none⟩) 16 c2 ∧ s3 = .slice (some ⟨g3, 0, none⟩) 16 c3 ∧ s4 = .slice (some ⟨g4, 0, none⟩) 16 c4 ∧
      FeA w' (some ⟨g1, 0, none⟩) (mX zs D) ∧ FeA w' (some ⟨g2, 0, none⟩) (mY zs) ∧ FeA w' (some ⟨g3, 0, none⟩) (1 % fp) ∧ FeA w' (some ⟨g4, 0, none⟩) (mX zs D * mY zs % fp))
theorem val_par (ds : List Int) (h : ds.length = 16) : val 65536 ds % 2 = ds.getD 0 0 % 2 := by
  cases ds with
  | nil => simp at h
  | cons d r => simp only [val, List.getD_cons_zero]; omega
theorem ls_fe {w : World} {a : Option Addr} {x : Int} (h : LsA w a x) : FeA w a (x % fp) := by
  obtain ⟨zs, h1, h2, h3, h4⟩ := h
  exact ⟨zs, h1, ⟨h2, fun i => by have := h3 i; omega⟩, by unfold fv; rw [h4]⟩

set_option maxHeartbeats 4000000 in
theorem decodeS_any (p a' : Option Addr) (n cap cap' : Nat) (zs : List Int) (D : Int) (w : World) (hn : zs.length = n) (hm : n ≤ 1048576) (ha : At .u8 w p zs) (hz : Byte zs) (hD : FeA w a' D) :
    Calls Try.prog 51 #[.slice p n cap, .slice a' 16 cap'] w (MD w zs D) := by
  have b0 : Below w.heap.size w (w.alloc (.cells #[.slice none 0 0, .slice none 0 0, .slice none 0 0, .slice none 0 0] 76)) := below_new3 _ _
  have HP0 : Hid (PtW (w.alloc (.cells #[.slice none 0 0, .slice none 0 0, .slice none 0 0, .slice none 0 0] 76)) w.heap.size #[.slice none 0 0, .slice none 0 0, .slice none 0 0, .slice none 0 0]) := PtW.new w
  by_cases h32 : n = 32
  · have H32 : Hid (32 ≤ n ∧ n ≤ 32) := by show _ ∧ _; omega
    have h32' : ((n : Int) == 32) = true := by rw [h32]; rfl
    have HLN : Hid ((zs.length == 32) = true) := by show _ = _; rw [hn, h32]; rfl
    have HA0 : Hid (At .u8 w p zs) := ha
    have HZ : Hid (Byte zs) := hz
    have HB0 : Hid (Below w.heap.size w (w.alloc (.cells #[.slice none 0 0, .slice none 0 0, .slice none 0 0, .slice none 0 0] 76))) := b0
    have HD0 : Hid (FeA w a' D) := hD
    have hsz0 := HP0.out.lt
    clear h32 b0 ha hz hD
    go_enter Try.func51, Try.ntmps51
    go_wp2_with fail
    refine (fromBytes_any p n cap zs _ hn H32.out.1 H32.out.2 (HA0.out.below HB0.out) HZ.out).mono ?_
    rintro e w1 ⟨gy, cy, rfl, ky, ly, hly, hb1⟩
    have HP1 : Hid (PtW w1 w.heap.size #[.slice none 0 0, .slice none 0 0, .slice none 0 0, .slice none 0 0]) := HP0.out.below hb1 hsz0
    have HB1 : Hid (Below w.heap.size w w1) := HB0.out.trans (hb1.mono HB0.out.size)
    have HLY : Hid (LsA w1 (some ⟨gy, 0, none⟩) (mY zs)) := hly
    have hgy : w.heap.size < gy := by omega
    clear hly hb1 HP0 HB0
    go_wp2_with fail
    refine (least_any _ cy (mY zs % fp) _ (ls_fe HLY.out)).mono ?_
    rintro e w2 ⟨gl, cl, rfl, kl, ll, hll, hb2⟩
    have HP2 : Hid (PtW w2 w.heap.size #[.slice none 0 0, .slice none 0 0, .slice none 0 0, .slice none 0 0]) := HP1.out.below hb2 HP1.out.lt
    have HB2 : Hid (Below w.heap.size w w2) := HB1.out.trans (hb2.mono HB1.out.size)
    have hly2 := HLY.out.below hb2
    have HFY : Hid (FeA w2 (some ⟨gy, 0, none⟩) (mY zs % fp)) := ls_fe hly2
    obtain ⟨xs, hA1, hx1, hx2, hx3⟩ := hly2
    obtain ⟨ys, hA2, hy1, hy2, hy3⟩ := hll
    have HEQ : Hid (mY zs = mY zs % fp ↔ ∀ i, i < 16 → xs.getD i 0 = ys.getD i 0) := by
      show _ ↔ _
      rw [← hx3] at hy3 ⊢
      rw [← hy3]; exact ls_eq hx1 hy1 hx2 hy2
    have HC1 : Hid (∀ i, i < 16 → w2.cell? ⟨gy, i, none⟩ = some (.int .i64 (xs.getD i 0))) := fun i hi => by
      obtain ⟨b, o, e, _, h⟩ := hA1.get (by omega)
      cases e
      have := h i (by omega)
      rwa [Nat.zero_add] at this
    have HC2 : Hid (∀ i, i < 16 → w2.cell? ⟨gl, i, none⟩ = some (.int .i64 (ys.getD i 0))) := fun i hi => by
      obtain ⟨b, o, e, _, h⟩ := hA2.get (by omega)
      cases e
      have := h i (by omega)
      rwa [Nat.zero_add] at this
    have HYP : Hid (mY zs = mY zs % fp ↔ mY zs < fp) := by
      show _ ↔ _
      have h0 : 0 ≤ mY zs := by unfold mY; rw [fp_lit']; omega
      rw [fp_lit'] at *; omega
    clear hb2 HB1 HP1 HLY hA1 hA2 hx1 hx2 hx3 hy1 hy2 hy3
    go_wp2
    go_loopw [8] (fun i wr => ∃ (k q : Nat), k ≤ 16 ∧ i = .int .i64 k ∧ wr = w2.drewN q ∧ ∀ i, i < k → xs.getD i 0 = ys.getD i 0) (fun i _ => 16 - (intOf i).toNat)
    case atStart => exact ⟨0, 0, by decide, rfl, rfl, fun i hi => by omega⟩
    case round =>
      obtain ⟨k, q, hk, rfl, rfl, hall⟩ := hrel
      have HALL : Hid (∀ i, i < k → xs.getD i 0 = ys.getD i 0) := hall
      clear hall
      by_cases hlt : k < 16
      · have hlt' : (k : Int) < 16 := by omega
        have c1' := HC1.out k hlt
        have c2' := HC2.out k hlt
        have HXY : Hid (∀ d e : Int, xs.getD k 0 = d → ys.getD k 0 = e → d = e → ∀ i, i < k + 1 → xs.getD i 0 = ys.getD i 0) := fun d e h1 h2 h3 i hi => by
          by_cases h : i = k
          · subst h; rw [h1, h2, h3]
          · exact HALL.out i (by omega)
        have HNE : Hid (xs.getD k 0 ≠ ys.getD k 0 → mB zs D = false) := fun h => by
          have : decide (mY zs < fp) = false := decide_eq_false (fun e => h (HEQ.out.1 (HYP.out.2 e) k hlt))
          unfold mB; rw [this]; simp
        by_cases hxy : xs.getD k 0 = ys.getD k 0
        · have HS : Hid (∀ i, i < k + 1 → xs.getD i 0 = ys.getD i 0) := HXY.out _ _ rfl rfl hxy
          rw [← hxy] at c2'
          clear HXY HNE hxy
          generalize xs.getD k 0 = d at *
          go_wp2
          go_quiet (fail)
          rw [dN_dN]
          clear c1' c2'
          go_wp2
          go_roundw
          case rel => exact ⟨k + 1, q + nq, by omega, by go_num, rfl, HS.out⟩
          case measure => simp [intOf]; omega
        · have HR : Hid (mB zs D = false) := HNE.out hxy
          clear HXY HNE
          generalize xs.getD k 0 = d at *
          generalize ys.getD k 0 = d' at *
          have hdd : (d == d') = false := by simpa using hxy
          have hdn : (d != d') = true := by simpa using hxy
          clear hxy
          go_wp2
          go_quiet (fail)
          rw [dN_dN]
          clear c1' c2' hdd hdn
          have HPQ : Hid (PtW (w2.drewN (q + nq)) w.heap.size #[.slice none 0 0, .slice none 0 0, .slice none 0 0, .slice none 0 0]) := HP2.out
          have HBQ : Hid (Below w.heap.size w (w2.drewN (q + nq))) := ⟨HB2.out.os, HB2.out.tape, HB2.out.output, HB2.out.size, HB2.out.block⟩
          clear HP2 HB2 HC1 HC2
          generalize w2.drewN (q + nq) = w5 at *
          go_wp2_with (first
            | (refine wpList_storePt rfl (.tmp 5) (.tmp 33) rfl w.heap.size _ _ _ _ _ rfl rfl rfl rfl rfl rfl rfl HPQ.out ?_)
            | fail)
          intro wxa hpx hwx
          have HPX : Hid (PtW wxa w.heap.size #[.slice none 0 0, .slice none 0 0, .slice none 0 0, .slice none 0 0]) := hpx
          have HBX : Hid (Below w.heap.size w wxa) := HBQ.out.trans (hwx.below (Nat.le_refl _))
          clear hpx hwx HPQ HBQ
          go_wp2
          refine bodyPost_ret (v := .tuple #[.bool false, .agg #[.slice none 0 0, .slice none 0 0, .slice none 0 0, .slice none 0 0]]) (results_pt rfl _ _ w.heap.size _ _ _ _ _ rfl rfl HPX.out) rfl ⟨_, _, _, _, by rw [HR.out], HBX.out, by exact ⟨rfl, rfl, rfl, rfl⟩, fun h => ?_⟩
          rw [HR.out] at h; cases h
      · have HYL : Hid (mY zs < fp) := HYP.out.1 (HEQ.out.2 (fun i hi => HALL.out i (by omega)))
        have hlt' : ¬ (k : Int) < 16 := by omega
        have HP3 : Hid (PtW (w2.drewN q) w.heap.size #[.slice none 0 0, .slice none 0 0, .slice none 0 0, .slice none 0 0]) := HP2.out
        have HB3 : Hid (Below w.heap.size w (w2.drewN q)) := ⟨HB2.out.os, HB2.out.tape, HB2.out.output, HB2.out.size, HB2.out.block⟩
        have HF3 : Hid (FeA (w2.drewN q) (some ⟨gy, 0, none⟩) (mY zs)) := by
          have h := HFY.out
          rw [← HYP.out.2 HYL.out] at h
          exact h
        have hsq : w2.heap.size ≤ (w2.drewN q).heap.size := Nat.le_refl _
        clear HP2 HB2 HC1 HC2 HEQ HALL HYP HFY
        generalize w2.drewN q = w3 at *
        go_wp2_with fail
        have hgl3 := HP3.out.lt
        have hg3 : gy < w3.heap.size := by omega
        refine (root_any _ a' cy cap' (mY zs) D _ HF3.out (HD0.out.below HB3.out)).mono ?_
        rintro e w4 ⟨gx, cx, rfl, kx, lx, hfx, hb4⟩
        have HP4 : Hid (PtW w4 w.heap.size #[.slice none 0 0, .slice none 0 0, .slice none 0 0, .slice none 0 0]) := HP3.out.below hb4 HP3.out.lt
        have HB4 : Hid (Below w.heap.size w w4) := HB3.out.trans (hb4.mono HB3.out.size)
        have HF4 : Hid (FeA w4 (some ⟨gy, 0, none⟩) (mY zs)) := HF3.out.below hb4
        have HX4 : Hid (FeA w4 (some ⟨gx, 0, none⟩) (mdX (mY zs) D)) := hfx
        have hgx : w.heap.size < gx := by omega
        clear hfx hb4 HP3 HB3 HF3
        cases hok : mdOk (mY zs) D
        · have HR : Hid (mB zs D = false) := by
            show _ = _
            unfold mB; rw [hok]; simp
          clear hok
          go_wp2_with (first
            | (refine wpList_storePt rfl (.tmp 5) (.tmp 42) rfl w.heap.size _ _ _ _ _ rfl rfl rfl rfl rfl rfl rfl HP4.out ?_)
            | fail)
          intro wxb hpx hwx
          have HPX : Hid (PtW wxb w.heap.size #[.slice none 0 0, .slice none 0 0, .slice none 0 0, .slice none 0 0]) := hpx
          have HBX : Hid (Below w.heap.size w wxb) := HB4.out.trans (hwx.below (Nat.le_refl _))
          clear hpx hwx HP4 HB4
          go_wp2
          refine bodyPost_ret (v := .tuple #[.bool false, .agg #[.slice none 0 0, .slice none 0 0, .slice none 0 0, .slice none 0 0]]) (results_pt rfl _ _ w.heap.size _ _ _ _ _ rfl rfl HPX.out) rfl ⟨_, _, _, _, by rw [HR.out], HBX.out, by exact ⟨rfl, rfl, rfl, rfl⟩, fun h => ?_⟩
          rw [HR.out] at h; cases h
        · obtain ⟨bb, off, rfl, hbb, hcc⟩ := (HA0.out.below HB4.out).get (by have := H32.out; omega)
          have c31 := hcc 31 (by have := H32.out; omega)
          obtain ⟨q0, q1⟩ := HZ.out.get 31
          have HMB : Hid (mB zs D = !(mO zs == 1 && decide (mdX (mY zs) D = 0 % fp))) := by
            show _ = _
            unfold mB; rw [hok, HLN.out, decide_eq_true HYL.out]; simp
          have HMO : Hid (mO zs = zs.getD 31 0 / 128) := rfl
          clear hok hcc HA0 HZ HLN
          generalize zs.getD 31 0 = d31 at *
          have htd : d31.tdiv 128 = d31 / 128 := Int.tdiv_eq_ediv_of_nonneg q0
          have hi31 : (31 : Int) < (n : Int) := by have := H32.out; omega
          have hwd : IntKind.i64.wrap (d31 / 128) = d31 / 128 := by rw [IntKind.wrap_i64]; omega
          have hwu : IntKind.u8.wrap (d31 / 128) = d31 / 128 := by rw [IntKind.wrap_u8]; omega
          by_cases hod : 128 ≤ d31
          · have hd1 : d31 / 128 = 1 := by omega
            have HOD : Hid (d31 / 128 = 1) := hd1
            go_wp2_with fail
            refine (small_any 0 _ (by decide) (by decide)).mono ?_
            rintro e w5 ⟨g5, c5, rfl, k5, l5, hf5, hb5⟩
            have HP5 : Hid (PtW w5 w.heap.size #[.slice none 0 0, .slice none 0 0, .slice none 0 0, .slice none 0 0]) := HP4.out.below hb5 HP4.out.lt
            have HB5 : Hid (Below w.heap.size w w5) := HB4.out.trans (hb5.mono HB4.out.size)
            have HF5 : Hid (FeA w5 (some ⟨gy, 0, none⟩) (mY zs)) := HF4.out.below hb5
            have HX5 : Hid (FeA w5 (some ⟨gx, 0, none⟩) (mdX (mY zs) D)) := HX4.out.below hb5
            have hlt5 := HP5.out.lt
            have H05 : Hid (FeA w5 (some ⟨g5, 0, none⟩) (0 % fp)) := hf5
            clear hf5 hb5 HP4 HB4 HF4 HX4 c31
            go_wp2_with fail
            refine (equal_any _ _ cx c5 (mdX (mY zs) D) (0 % fp) _ HX5.out H05.out).mono ?_
            rintro e w6 ⟨rfl, hb6⟩
            have HP6 : Hid (PtW w6 w.heap.size #[.slice none 0 0, .slice none 0 0, .slice none 0 0, .slice none 0 0]) := HP5.out.below hb6 HP5.out.lt
            have HB6 : Hid (Below w.heap.size w w6) := HB5.out.trans (hb6.mono HB5.out.size)
            have HF6 : Hid (FeA w6 (some ⟨gy, 0, none⟩) (mY zs)) := HF5.out.below hb6
            have HX6 : Hid (FeA w6 (some ⟨gx, 0, none⟩) (mdX (mY zs) D)) := HX5.out.below hb6
            have hlt6 := HP6.out.lt
            clear hb6 HP5 HB5 HF5 HX5 H05
            by_cases hz0 : mdX (mY zs) D = 0 % fp
            · have HR : Hid (mB zs D = false) := by
                show _ = _
                rw [HMB.out, HMO.out, HOD.out, decide_eq_true hz0]; rfl
              rw [decide_eq_true hz0]
              clear hz0
              go_wp2_with (first
                | (refine wpList_storePt rfl (.tmp 5) (.tmp 55) rfl w.heap.size _ _ _ _ _ rfl rfl rfl rfl rfl rfl rfl HP6.out ?_)
                | fail)
              intro wxc hpx hwx
              have HPX : Hid (PtW wxc w.heap.size #[.slice none 0 0, .slice none 0 0, .slice none 0 0, .slice none 0 0]) := hpx
              have HBX : Hid (Below w.heap.size w wxc) := HB6.out.trans (hwx.below (Nat.le_refl _))
              clear hpx hwx HP6 HB6
              go_wp2
              refine bodyPost_ret (v := .tuple #[.bool false, .agg #[.slice none 0 0, .slice none 0 0, .slice none 0 0, .slice none 0 0]]) (results_pt rfl _ _ w.heap.size _ _ _ _ _ rfl rfl HPX.out) rfl ⟨_, _, _, _, by rw [HR.out], HBX.out, by exact ⟨rfl, rfl, rfl, rfl⟩, fun h => ?_⟩
              rw [HR.out] at h; cases h
            · have HMT : Hid (mB zs D = true) := by
                show _ = _
                rw [HMB.out, HMO.out, HOD.out, decide_eq_false hz0]; rfl
              rw [decide_eq_false hz0]
              clear hz0
              go_wp2_with fail
              refine (least_any _ cx (mdX (mY zs) D) _ HX6.out).mono ?_
              rintro e wl ⟨g6, c6, rfl, k6, l6, hl6, hb6⟩
              have HPL : Hid (PtW wl w.heap.size #[.slice none 0 0, .slice none 0 0, .slice none 0 0, .slice none 0 0]) := HP6.out.below hb6 HP6.out.lt
              have HBL : Hid (Below w.heap.size w wl) := HB6.out.trans (hb6.mono HB6.out.size)
              have HFL : Hid (FeA wl (some ⟨gy, 0, none⟩) (mY zs)) := HF6.out.below hb6
              have HXL : Hid (FeA wl (some ⟨gx, 0, none⟩) (mdX (mY zs) D)) := HX6.out.below hb6
              have hltL := HPL.out.lt
              obtain ⟨ds, hA6, hs1, hs2, hs3⟩ := hl6
              have c60 : wl.cell? ⟨g6, 0, none⟩ = some (.int .i64 (ds.getD 0 0)) := by
                obtain ⟨b, o, e, _, h⟩ := hA6.get (by omega)
                cases e
                exact h 0 (by omega)
              have hpar : ds.getD 0 0 % 2 = mdX (mY zs) D % 2 := by rw [← hs3]; exact (val_par ds hs1).symm
              have HPAR : Hid (ds.getD 0 0 % 2 = mdX (mY zs) D % 2) := hpar
              obtain ⟨e0, e1⟩ := hs2 0
              clear hs3 hs2 hA6 hb6 hpar HP6 HB6 HF6 HX6 hs1
              generalize ds.getD 0 0 = dd at *
              have htm : dd.tmod 2 = dd % 2 := Int.tmod_eq_emod_of_nonneg e0
              by_cases hpp : dd % 2 = 1
              · have HMX : Hid (mX zs D = mdX (mY zs) D) := by
                  show _ = _
                  unfold mX; rw [if_pos (by rw [HMO.out, ← HPAR.out, hpp, HOD.out])]
                go_wp2_with fail
                refine (affine_any _ _ cx cy (mdX (mY zs) D) (mY zs) _ HXL.out HFL.out).mono ?_
                rintro e wa ⟨gz, cz, gt, ct, rfl, hfz, hft, hba, hz1, hz2⟩
                have HPA : Hid (PtW wa w.heap.size #[.slice none 0 0, .slice none 0 0, .slice none 0 0, .slice none 0 0]) := HPL.out.below hba HPL.out.lt
                have HBA : Hid (Below w.heap.size w wa) := HBL.out.trans (hba.mono HBL.out.size)
                have HFA : Hid (FeA wa (some ⟨gy, 0, none⟩) (mY zs)) := HFL.out.below hba
                have HXA : Hid (FeA wa (some ⟨gx, 0, none⟩) (mdX (mY zs) D)) := HXL.out.below hba
                have hltA := HPA.out.lt
                have HZA : Hid (FeA wa (some ⟨gz, 0, none⟩) (1 % fp) ∧ FeA wa (some ⟨gt, 0, none⟩) (mdX (mY zs) D * mY zs % fp)) := ⟨hfz, hft⟩
                have hnz : gz ≠ w.heap.size ∧ gt ≠ w.heap.size ∧ gx ≠ w.heap.size ∧ gy ≠ w.heap.size := by omega
                have HNZ : Hid (gz ≠ w.heap.size ∧ gt ≠ w.heap.size ∧ gx ≠ w.heap.size ∧ gy ≠ w.heap.size) := hnz
                clear hfz hft hba hnz HPL HBL HFL HXL
                go_wp2_with (first
                  | (refine wpList_storePt rfl (.tmp 5) (.tmp 68) rfl w.heap.size _ _ _ _ _ rfl rfl rfl rfl rfl rfl rfl HPA.out ?_)
                  | fail)
                intro wb hpb hwb
                have HPB : Hid (PtW wb w.heap.size #[.slice (some ⟨gx, 0, none⟩) 16 cx, .slice (some ⟨gy, 0, none⟩) 16 cy, .slice (some ⟨gz, 0, none⟩) 16 cz, .slice (some ⟨gt, 0, none⟩) 16 ct]) := hpb
                have HALLB : Hid (Below w.heap.size w wb ∧ FeA wb (some ⟨gx, 0, none⟩) (mX zs D) ∧ FeA wb (some ⟨gy, 0, none⟩) (mY zs) ∧ FeA wb (some ⟨gz, 0, none⟩) (1 % fp) ∧ FeA wb (some ⟨gt, 0, none⟩) (mX zs D * mY zs % fp)) := by
                  rw [HMX.out]
                  exact ⟨HBA.out.trans (hwb.below (Nat.le_refl _)), HXA.out.wr hwb HNZ.out.2.2.1, HFA.out.wr hwb HNZ.out.2.2.2, HZA.out.1.wr hwb HNZ.out.1, HZA.out.2.wr hwb HNZ.out.2.1⟩
                clear hpb hwb HPA HBA HFA HXA HZA HNZ
                go_wp2
                exact bodyPost_ret (v := .tuple #[.bool true, .agg #[.slice (some ⟨gx, 0, none⟩) 16 cx, .slice (some ⟨gy, 0, none⟩) 16 cy, .slice (some ⟨gz, 0, none⟩) 16 cz, .slice (some ⟨gt, 0, none⟩) 16 ct]]) (results_pt rfl _ _ w.heap.size _ _ _ _ _ rfl rfl HPB.out) rfl ⟨_, _, _, _, by rw [HMT.out], HALLB.out.1, by exact ⟨rfl, rfl, rfl, rfl⟩, fun _ => ⟨gx, cx, gy, cy, gz, cz, gt, ct, rfl, rfl, rfl, rfl, HALLB.out.2.1, HALLB.out.2.2.1, HALLB.out.2.2.2.1, HALLB.out.2.2.2.2⟩⟩
              · have hpq : dd % 2 = 0 := by omega
                have HMX : Hid (mX zs D = (0 % fp - mdX (mY zs) D) % fp) := by
                  show _ = _
                  unfold mX; rw [if_neg (by rw [HMO.out, ← HPAR.out, hpq, HOD.out]; decide)]
                clear hpp
                go_wp2_with fail
                refine (small_any 0 _ (by decide) (by decide)).mono ?_
                rintro e wm ⟨g7, c7, rfl, k7, l7, hf7, hb7⟩
                have HPM : Hid (PtW wm w.heap.size #[.slice none 0 0, .slice none 0 0, .slice none 0 0, .slice none 0 0]) := HPL.out.below hb7 HPL.out.lt
                have HBM : Hid (Below w.heap.size w wm) := HBL.out.trans (hb7.mono HBL.out.size)
                have HFM : Hid (FeA wm (some ⟨gy, 0, none⟩) (mY zs)) := HFL.out.below hb7
                have HXM : Hid (FeA wm (some ⟨gx, 0, none⟩) (mdX (mY zs) D)) := HXL.out.below hb7
                have hltM := HPM.out.lt
                have H07 : Hid (FeA wm (some ⟨g7, 0, none⟩) (0 % fp)) := hf7
                clear hf7 hb7 HPL HBL HFL HXL c60
                go_wp2_with fail
                refine (fsub_any _ _ c7 cx (0 % fp) (mdX (mY zs) D) _ H07.out HXM.out).mono ?_
                rintro e wn ⟨g8, c8, rfl, k8, l8, hf8, hb8⟩
                have HPN0 : Hid (PtW wn w.heap.size #[.slice none 0 0, .slice none 0 0, .slice none 0 0, .slice none 0 0]) := HPM.out.below hb8 HPM.out.lt
                have HBN0 : Hid (Below w.heap.size w wn) := HBM.out.trans (hb8.mono HBM.out.size)
                have HFN0 : Hid (FeA wn (some ⟨gy, 0, none⟩) (mY zs)) := HFM.out.below hb8
                have HXN0 : Hid (FeA wn (some ⟨gx, 0, none⟩) (mdX (mY zs) D)) := HXM.out.below hb8
                have hltN0 := HPN0.out.lt
                have HPN : Hid (PtW wn w.heap.size #[.slice none 0 0, .slice none 0 0, .slice none 0 0, .slice none 0 0]) := HPN0.out
                have HBN : Hid (Below w.heap.size w wn) := HBN0.out
                have HFN : Hid (FeA wn (some ⟨gy, 0, none⟩) (mY zs)) := HFN0.out
                have HXN : Hid (FeA wn (some ⟨g8, 0, none⟩) ((0 % fp - mdX (mY zs) D) % fp)) := hf8
                have hg8 : w.heap.size < g8 := by omega
                clear hf8 hb8 HPM HBM HFM HXM HPN0 HBN0 HFN0 HXN0
                go_wp2_with fail
                refine (affine_any _ _ c8 cy ((0 % fp - mdX (mY zs) D) % fp) (mY zs) _ HXN.out HFN.out).mono ?_
                rintro e wa ⟨gz, cz, gt, ct, rfl, hfz, hft, hba, hz1, hz2⟩
                have HPA : Hid (PtW wa w.heap.size #[.slice none 0 0, .slice none 0 0, .slice none 0 0, .slice none 0 0]) := HPN.out.below hba HPN.out.lt
                have HBA : Hid (Below w.heap.size w wa) := HBN.out.trans (hba.mono HBN.out.size)
                have HFA : Hid (FeA wa (some ⟨gy, 0, none⟩) (mY zs)) := HFN.out.below hba
                have HXA : Hid (FeA wa (some ⟨g8, 0, none⟩) ((0 % fp - mdX (mY zs) D) % fp)) := HXN.out.below hba
                have hltA := HPA.out.lt
                have HZA : Hid (FeA wa (some ⟨gz, 0, none⟩) (1 % fp) ∧ FeA wa (some ⟨gt, 0, none⟩) ((0 % fp - mdX (mY zs) D) % fp * mY zs % fp)) := ⟨hfz, hft⟩
                have hnz : gz ≠ w.heap.size ∧ gt ≠ w.heap.size ∧ g8 ≠ w.heap.size ∧ gy ≠ w.heap.size := by omega
                have HNZ : Hid (gz ≠ w.heap.size ∧ gt ≠ w.heap.size ∧ g8 ≠ w.heap.size ∧ gy ≠ w.heap.size) := hnz
                clear hfz hft hba hnz HPN HBN HFN HXN
                go_wp2_with (first
                  | (refine wpList_storePt rfl (.tmp 5) (.tmp 68) rfl w.heap.size _ _ _ _ _ rfl rfl rfl rfl rfl rfl rfl HPA.out ?_)
                  | fail)
                intro wb hpb hwb
                have HPB : Hid (PtW wb w.heap.size #[.slice (some ⟨g8, 0, none⟩) 16 c8, .slice (some ⟨gy, 0, none⟩) 16 cy, .slice (some ⟨gz, 0, none⟩) 16 cz, .slice (some ⟨gt, 0, none⟩) 16 ct]) := hpb
                have HALLB : Hid (Below w.heap.size w wb ∧ FeA wb (some ⟨g8, 0, none⟩) (mX zs D) ∧ FeA wb (some ⟨gy, 0, none⟩) (mY zs) ∧ FeA wb (some ⟨gz, 0, none⟩) (1 % fp) ∧ FeA wb (some ⟨gt, 0, none⟩) (mX zs D * mY zs % fp)) := by
                  rw [HMX.out]
                  exact ⟨HBA.out.trans (hwb.below (Nat.le_refl _)), HXA.out.wr hwb HNZ.out.2.2.1, HFA.out.wr hwb HNZ.out.2.2.2, HZA.out.1.wr hwb HNZ.out.1, HZA.out.2.wr hwb HNZ.out.2.1⟩
                clear hpb hwb HPA HBA HFA HXA HZA HNZ
                go_wp2
                exact bodyPost_ret (v := .tuple #[.bool true, .agg #[.slice (some ⟨g8, 0, none⟩) 16 c8, .slice (some ⟨gy, 0, none⟩) 16 cy, .slice (some ⟨gz, 0, none⟩) 16 cz, .slice (some ⟨gt, 0, none⟩) 16 ct]]) (results_pt rfl _ _ w.heap.size _ _ _ _ _ rfl rfl HPB.out) rfl ⟨_, _, _, _, by rw [HMT.out], HALLB.out.1, by exact ⟨rfl, rfl, rfl, rfl⟩, fun _ => ⟨g8, c8, gy, cy, gz, cz, gt, ct, rfl, rfl, rfl, rfl, HALLB.out.2.1, HALLB.out.2.2.1, HALLB.out.2.2.2.1, HALLB.out.2.2.2.2⟩⟩
          · have hd0 : d31 / 128 = 0 := by omega
            have HOD : Hid (d31 / 128 = 0) := hd0
            have HMT : Hid (mB zs D = true) := by
              show _ = _
              rw [HMB.out, HMO.out, HOD.out]; rfl
            go_wp2_with fail
            clear c31
            refine (least_any _ cx (mdX (mY zs) D) _ HX4.out).mono ?_
            rintro e wl ⟨g6, c6, rfl, k6, l6, hl6, hb6⟩
            have HPL : Hid (PtW wl w.heap.size #[.slice none 0 0, .slice none 0 0, .slice none 0 0, .slice none 0 0]) := HP4.out.below hb6 HP4.out.lt
            have HBL : Hid (Below w.heap.size w wl) := HB4.out.trans (hb6.mono HB4.out.size)
            have HFL : Hid (FeA wl (some ⟨gy, 0, none⟩) (mY zs)) := HF4.out.below hb6
            have HXL : Hid (FeA wl (some ⟨gx, 0, none⟩) (mdX (mY zs) D)) := HX4.out.below hb6
            have hltL := HPL.out.lt
            obtain ⟨ds, hA6, hs1, hs2, hs3⟩ := hl6
            have c60 : wl.cell? ⟨g6, 0, none⟩ = some (.int .i64 (ds.getD 0 0)) := by
              obtain ⟨b, o, e, _, h⟩ := hA6.get (by omega)
              cases e
              exact h 0 (by omega)
            have hpar : ds.getD 0 0 % 2 = mdX (mY zs) D % 2 := by rw [← hs3]; exact (val_par ds hs1).symm
            have HPAR : Hid (ds.getD 0 0 % 2 = mdX (mY zs) D % 2) := hpar
            obtain ⟨e0, e1⟩ := hs2 0
            clear hs3 hs2 hA6 hb6 hpar HP4 HB4 HF4 HX4 hs1
            generalize ds.getD 0 0 = dd at *
            have htm : dd.tmod 2 = dd % 2 := Int.tmod_eq_emod_of_nonneg e0
            by_cases hpp : dd % 2 = 0
            · have HMX : Hid (mX zs D = mdX (mY zs) D) := by
                show _ = _
                unfold mX; rw [if_pos (by rw [HMO.out, ← HPAR.out, hpp, HOD.out])]
              go_wp2_with fail
              refine (affine_any _ _ cx cy (mdX (mY zs) D) (mY zs) _ HXL.out HFL.out).mono ?_
              rintro e wa ⟨gz, cz, gt, ct, rfl, hfz, hft, hba, hz1, hz2⟩
              have HPA : Hid (PtW wa w.heap.size #[.slice none 0 0, .slice none 0 0, .slice none 0 0, .slice none 0 0]) := HPL.out.below hba HPL.out.lt
              have HBA : Hid (Below w.heap.size w wa) := HBL.out.trans (hba.mono HBL.out.size)
              have HFA : Hid (FeA wa (some ⟨gy, 0, none⟩) (mY zs)) := HFL.out.below hba
              have HXA : Hid (FeA wa (some ⟨gx, 0, none⟩) (mdX (mY zs) D)) := HXL.out.below hba
              have hltA := HPA.out.lt
              have HZA : Hid (FeA wa (some ⟨gz, 0, none⟩) (1 % fp) ∧ FeA wa (some ⟨gt, 0, none⟩) (mdX (mY zs) D * mY zs % fp)) := ⟨hfz, hft⟩
              have hnz : gz ≠ w.heap.size ∧ gt ≠ w.heap.size ∧ gx ≠ w.heap.size ∧ gy ≠ w.heap.size := by omega
              have HNZ : Hid (gz ≠ w.heap.size ∧ gt ≠ w.heap.size ∧ gx ≠ w.heap.size ∧ gy ≠ w.heap.size) := hnz
              clear hfz hft hba hnz HPL HBL HFL HXL
              go_wp2_with (first
                | (refine wpList_storePt rfl (.tmp 5) (.tmp 68) rfl w.heap.size _ _ _ _ _ rfl rfl rfl rfl rfl rfl rfl HPA.out ?_)
                | fail)
              intro wb hpb hwb
              have HPB : Hid (PtW wb w.heap.size #[.slice (some ⟨gx, 0, none⟩) 16 cx, .slice (some ⟨gy, 0, none⟩) 16 cy, .slice (some ⟨gz, 0, none⟩) 16 cz, .slice (some ⟨gt, 0, none⟩) 16 ct]) := hpb
              have HALLB : Hid (Below w.heap.size w wb ∧ FeA wb (some ⟨gx, 0, none⟩) (mX zs D) ∧ FeA wb (some ⟨gy, 0, none⟩) (mY zs) ∧ FeA wb (some ⟨gz, 0, none⟩) (1 % fp) ∧ FeA wb (some ⟨gt, 0, none⟩) (mX zs D * mY zs % fp)) := by
                rw [HMX.out]
                exact ⟨HBA.out.trans (hwb.below (Nat.le_refl _)), HXA.out.wr hwb HNZ.out.2.2.1, HFA.out.wr hwb HNZ.out.2.2.2, HZA.out.1.wr hwb HNZ.out.1, HZA.out.2.wr hwb HNZ.out.2.1⟩
              clear hpb hwb HPA HBA HFA HXA HZA HNZ
              go_wp2
              exact bodyPost_ret (v := .tuple #[.bool true, .agg #[.slice (some ⟨gx, 0, none⟩) 16 cx, .slice (some ⟨gy, 0, none⟩) 16 cy, .slice (some ⟨gz, 0, none⟩) 16 cz, .slice (some ⟨gt, 0, none⟩) 16 ct]]) (results_pt rfl _ _ w.heap.size _ _ _ _ _ rfl rfl HPB.out) rfl ⟨_, _, _, _, by rw [HMT.out], HALLB.out.1, by exact ⟨rfl, rfl, rfl, rfl⟩, fun _ => ⟨gx, cx, gy, cy, gz, cz, gt, ct, rfl, rfl, rfl, rfl, HALLB.out.2.1, HALLB.out.2.2.1, HALLB.out.2.2.2.1, HALLB.out.2.2.2.2⟩⟩
            · have hpq : dd % 2 = 1 := by omega
              have HMX : Hid (mX zs D = (0 % fp - mdX (mY zs) D) % fp) := by
                show _ = _
                unfold mX; rw [if_neg (by rw [HMO.out, ← HPAR.out, hpq, HOD.out]; decide)]
              clear hpp
              go_wp2_with fail
              refine (small_any 0 _ (by decide) (by decide)).mono ?_
              rintro e wm ⟨g7, c7, rfl, k7, l7, hf7, hb7⟩
              have HPM : Hid (PtW wm w.heap.size #[.slice none 0 0, .slice none 0 0, .slice none 0 0, .slice none 0 0]) := HPL.out.below hb7 HPL.out.lt
              have HBM : Hid (Below w.heap.size w wm) := HBL.out.trans (hb7.mono HBL.out.size)
              have HFM : Hid (FeA wm (some ⟨gy, 0, none⟩) (mY zs)) := HFL.out.below hb7
              have HXM : Hid (FeA wm (some ⟨gx, 0, none⟩) (mdX (mY zs) D)) := HXL.out.below hb7
              have hltM := HPM.out.lt
              have H07 : Hid (FeA wm (some ⟨g7, 0, none⟩) (0 % fp)) := hf7
              clear hf7 hb7 HPL HBL HFL HXL c60
              go_wp2_with fail
              refine (fsub_any _ _ c7 cx (0 % fp) (mdX (mY zs) D) _ H07.out HXM.out).mono ?_
              rintro e wn ⟨g8, c8, rfl, k8, l8, hf8, hb8⟩
              have HPN0 : Hid (PtW wn w.heap.size #[.slice none 0 0, .slice none 0 0, .slice none 0 0, .slice none 0 0]) := HPM.out.below hb8 HPM.out.lt
              have HBN0 : Hid (Below w.heap.size w wn) := HBM.out.trans (hb8.mono HBM.out.size)
              have HFN0 : Hid (FeA wn (some ⟨gy, 0, none⟩) (mY zs)) := HFM.out.below hb8
              have HXN0 : Hid (FeA wn (some ⟨gx, 0, none⟩) (mdX (mY zs) D)) := HXM.out.below hb8
              have hltN0 := HPN0.out.lt
              have HPN : Hid (PtW wn w.heap.size #[.slice none 0 0, .slice none 0 0, .slice none 0 0, .slice none 0 0]) := HPN0.out
              have HBN : Hid (Below w.heap.size w wn) := HBN0.out
              have HFN : Hid (FeA wn (some ⟨gy, 0, none⟩) (mY zs)) := HFN0.out
              have HXN : Hid (FeA wn (some ⟨g8, 0, none⟩) ((0 % fp - mdX (mY zs) D) % fp)) := hf8
              have hg8 : w.heap.size < g8 := by omega
              clear hf8 hb8 HPM HBM HFM HXM HPN0 HBN0 HFN0 HXN0
              go_wp2_with fail
              refine (affine_any _ _ c8 cy ((0 % fp - mdX (mY zs) D) % fp) (mY zs) _ HXN.out HFN.out).mono ?_
              rintro e wa ⟨gz, cz, gt, ct, rfl, hfz, hft, hba, hz1, hz2⟩
              have HPA : Hid (PtW wa w.heap.size #[.slice none 0 0, .slice none 0 0, .slice none 0 0, .slice none 0 0]) := HPN.out.below hba HPN.out.lt
              have HBA : Hid (Below w.heap.size w wa) := HBN.out.trans (hba.mono HBN.out.size)
              have HFA : Hid (FeA wa (some ⟨gy, 0, none⟩) (mY zs)) := HFN.out.below hba
              have HXA : Hid (FeA wa (some ⟨g8, 0, none⟩) ((0 % fp - mdX (mY zs) D) % fp)) := HXN.out.below hba
              have hltA := HPA.out.lt
              have HZA : Hid (FeA wa (some ⟨gz, 0, none⟩) (1 % fp) ∧ FeA wa (some ⟨gt, 0, none⟩) ((0 % fp - mdX (mY zs) D) % fp * mY zs % fp)) := ⟨hfz, hft⟩
              have hnz : gz ≠ w.heap.size ∧ gt ≠ w.heap.size ∧ g8 ≠ w.heap.size ∧ gy ≠ w.heap.size := by omega
              have HNZ : Hid (gz ≠ w.heap.size ∧ gt ≠ w.heap.size ∧ g8 ≠ w.heap.size ∧ gy ≠ w.heap.size) := hnz
              clear hfz hft hba hnz HPN HBN HFN HXN
              go_wp2_with (first
                | (refine wpList_storePt rfl (.tmp 5) (.tmp 68) rfl w.heap.size _ _ _ _ _ rfl rfl rfl rfl rfl rfl rfl HPA.out ?_)
                | fail)
              intro wb hpb hwb
              have HPB : Hid (PtW wb w.heap.size #[.slice (some ⟨g8, 0, none⟩) 16 c8, .slice (some ⟨gy, 0, none⟩) 16 cy, .slice (some ⟨gz, 0, none⟩) 16 cz, .slice (some ⟨gt, 0, none⟩) 16 ct]) := hpb
              have HALLB : Hid (Below w.heap.size w wb ∧ FeA wb (some ⟨g8, 0, none⟩) (mX zs D) ∧ FeA wb (some ⟨gy, 0, none⟩) (mY zs) ∧ FeA wb (some ⟨gz, 0, none⟩) (1 % fp) ∧ FeA wb (some ⟨gt, 0, none⟩) (mX zs D * mY zs % fp)) := by
                rw [HMX.out]
                exact ⟨HBA.out.trans (hwb.below (Nat.le_refl _)), HXA.out.wr hwb HNZ.out.2.2.1, HFA.out.wr hwb HNZ.out.2.2.2, HZA.out.1.wr hwb HNZ.out.1, HZA.out.2.wr hwb HNZ.out.2.1⟩
              clear hpb hwb HPA HBA HFA HXA HZA HNZ
              go_wp2
              exact bodyPost_ret (v := .tuple #[.bool true, .agg #[.slice (some ⟨g8, 0, none⟩) 16 c8, .slice (some ⟨gy, 0, none⟩) 16 cy, .slice (some ⟨gz, 0, none⟩) 16 cz, .slice (some ⟨gt, 0, none⟩) 16 ct]]) (results_pt rfl _ _ w.heap.size _ _ _ _ _ rfl rfl HPB.out) rfl ⟨_, _, _, _, by rw [HMT.out], HALLB.out.1, by exact ⟨rfl, rfl, rfl, rfl⟩, fun _ => ⟨g8, c8, gy, cy, gz, cz, gt, ct, rfl, rfl, rfl, rfl, HALLB.out.2.1, HALLB.out.2.2.1, HALLB.out.2.2.2.1, HALLB.out.2.2.2.2⟩⟩
  · have h32' : ((n : Int) == 32) = false := by simp; omega
    have HR : Hid (mB zs D = false) := by
      show _ = _
      unfold mB
      have : (zs.length == 32) = false := by simp; omega
      rw [this]; rfl
    have HB0 : Hid (Below w.heap.size w (w.alloc (.cells #[.slice none 0 0, .slice none 0 0, .slice none 0 0, .slice none 0 0] 76))) := b0
    clear h32 b0
    go_enter Try.func51, Try.ntmps51
    go_wp2_with (first
      | (refine wpList_storePt rfl (.tmp 5) (.tmp 15) rfl w.heap.size _ _ _ _ _ rfl rfl rfl rfl rfl rfl rfl HP0.out ?_)
      | fail)
    intro w3 hp3 hw3
    have HP3 : Hid (PtW w3 w.heap.size #[.slice none 0 0, .slice none 0 0, .slice none 0 0, .slice none 0 0]) := hp3
    have HB3 : Hid (Below w.heap.size w w3) := HB0.out.trans (hw3.below (Nat.le_refl _))
    clear hp3 hw3 HP0 HB0
    go_wp2
    refine bodyPost_ret (v := .tuple #[.bool false, .agg #[.slice none 0 0, .slice none 0 0, .slice none 0 0, .slice none 0 0]]) (results_pt rfl _ _ w.heap.size _ _ _ _ _ rfl rfl HP3.out) rfl ⟨_, _, _, _, by rw [HR.out], HB3.out, by exact ⟨rfl, rfl, rfl, rfl⟩, fun h => ?_⟩
    rw [HR.out] at h; cases h
end Go.Proofs.Ythghkfncpdnpoac
