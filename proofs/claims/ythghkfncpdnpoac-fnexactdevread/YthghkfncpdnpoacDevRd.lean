/-
  Own work: DevRead of the model.
-/
import Derived.Test.YthghkfncpdnpoacDevValI
import Derived.Test.YthghkfncpdnpoacCat
namespace Go.Proofs.Ythghkfncpdnpoac
open Go.ChangeShapes Go.WideShapes Go.ChangeAt Go.RowKit
set_option linter.unusedVariables false

/-- The newest of the first k pending writes of sector s. -/
def findL (ps : List PD) (s : Int) : Nat → Option (List Int)
  | 0 => none
  | k + 1 => if (ps.getD k (0, [])).1 = s then some (ps.getD k (0, [])).2 else findL ps s k
def rdV (zs : List Int) (ps : List PD) (s : Int) : List Int := (findL ps s ps.length).getD ((zs.drop (s.toNat * 64)).take 64)
/-- What DevRead answers. -/
def rdZ (zs : List Int) (ps : List PD) (f s : Int) : List Int := if validB zs.length ps f = true ∧ hasS zs.length s = true then rdV zs ps s else []

theorem validB_get {L : Nat} {ps : List PD} {f : Int} (h : validB L ps f = true) : vBase L ps.length f ∧ ∀ i, i < ps.length → pOk (L / 64) (ps.getD i (0, [])) := by
  unfold validB at h
  rw [Bool.and_eq_true] at h
  refine ⟨by simpa using h.1, fun i hi => ?_⟩
  have := List.all_eq_true.1 h.2 ps[i] (List.getElem_mem hi)
  simpa [hi] using this
theorem findL_len {L : Nat} {ps : List PD} {s : Int} (h : ∀ i, i < ps.length → pOk (L / 64) (ps.getD i (0, []))) (k : Nat) (hk : k ≤ ps.length) : ∀ z, findL ps s k = some z → z.length = 64 := by
  induction k with
  | zero => intro z hz; simp [findL] at hz
  | succ k ih =>
    intro z hz
    unfold findL at hz
    split at hz
    · simp at hz; rw [← hz]; exact (h k (by omega)).2.2
    · exact ih (by omega) z hz
theorem rdZ_le (zs : List Int) (ps : List PD) (f s : Int) : (rdZ zs ps f s).length ≤ 64 := by
  unfold rdZ
  split
  · rename_i h
    obtain ⟨hv, hs⟩ := validB_get h.1
    unfold rdV
    cases e : findL ps s ps.length with
    | none => simp; omega
    | some z => have := findL_len hs _ (Nat.le_refl _) z e; simp [this]
  · simp

/-- A slice of the answer's own, from block B on. -/
def Out (B : Nat) (w : World) (v : Value) (zs : List Int) : Prop :=
  ∃ a c, v = .slice a zs.length c ∧ At .u8 w a zs ∧ Open w a zs.length ∧ ∀ ad, a = some ad → B ≤ ad.block ∧ ad.block < w.heap.size
theorem Own.out {w : World} {B : Nat} {v : Value} {zs : List Int} (h : Own w B v zs) : Out B w v zs := by
  obtain ⟨g, c, rfl, hb, hg, hc⟩ := h.base
  obtain ⟨b, o, c', e, hl, hcell⟩ := h.part
  cases e
  refine ⟨_, _, rfl, .inr ⟨g, 0, rfl, hg, hcell⟩, .inr ⟨g, 0, rfl, hg, fun i hi => ?_⟩, fun ad e => by cases e; exact ⟨hb, hg⟩⟩
  refine ⟨by rw [hcell i hi]; rfl, ?_⟩
  obtain ⟨h1, ⟨h2, _⟩ | ⟨g', cap, cur, hv, hb, hh, _⟩⟩ := h.1
  · cases h2
  · cases hv; exact frozen_of_row w g _ cur _ hh

set_option maxHeartbeats 1000000 in
theorem srd_any (v : Value) (zs : List Int) (ps : List PD) (f s : Int) (d : Bool) (w : World) (h : DAt w v zs ps f d) (hz : zs.length ≤ 1048576) (hn : ps.length ≤ 1048576) (hps : ∀ i, (ps.getD i (0, [])).2.length ≤ 1048576) :
    Calls Try.prog 20 #[v, .int .i64 s] w fun e w' => ∃ v', e = .returned v' ∧ Out w.heap.size w' v' (rdZ zs ps f s) ∧ Below w.heap.size w w' := by
  obtain ⟨a, c, x, cx, rfl, hA, hP, hcap⟩ := h
  have HV := sval_any (.agg #[.slice a zs.length c, .slice x ps.length cx, .int .i64 f, .bool d]) zs ps f d
  have hD : ∀ w', Below w.heap.size w w' → DAt w' (.agg #[.slice a zs.length c, .slice x ps.length cx, .int .i64 f, .bool d]) zs ps f d := fun w' hb => ⟨a, c, x, cx, rfl, hA.below hb, hP.below hb, hcap⟩
  have HRZ : Hid (rdZ zs ps f s = if validB zs.length ps f = true ∧ hasS zs.length s = true then rdV zs ps s else []) := rfl
  have HHS : Hid (hasS zs.length s = decide (0 ≤ s ∧ s < ((zs.length / 64 : Nat) : Int))) := rfl
  generalize hL : zs.length = L at *
  generalize hm : ps.length = m at *
  have HVV : Hid _ := HV
  have HDD : Hid _ := hD
  clear HV hD
  have hb0 := (Below.refl w.heap.size w).alloc (Nat.le_refl _) (.cells #[.slice a L c, .slice x m cx, .int .i64 f, .bool d] 41)
  have HB0 : Hid _ := hb0
  clear hb0
  go_enter Try.func20, Try.ntmps20
  go_wp2_with fail
  refine (HVV.out _ (HDD.out _ HB0.out) hz hn hps).mono ?_
  rintro e w1 ⟨rfl, hb1⟩
  have hB1 : Below w.heap.size w w1 := HB0.out.trans (hb1.mono HB0.out.size)
  have n1 : w1.heap[w.heap.size]? = some (.cells #[.slice a L c, .slice x m cx, .int .i64 f, .bool d] 41 (0, 0)) := by
    rw [hb1.block _ (by simp)]; exact heap_alloc_new w _
  have hs1 : w.heap.size < w1.heap.size := (Array.getElem?_eq_some_iff.1 n1).1
  have c0 := cell_of_row w1 w.heap.size 0 _ _ _ n1
  have c1 := cell_of_row w1 w.heap.size 1 _ _ _ n1
  have c2 := cell_of_row w1 w.heap.size 2 _ _ _ n1
  have c3 := cell_of_row w1 w.heap.size 3 _ _ _ n1
  simp at c0 c1 c2 c3
  have hA1 := hA.below hB1
  have hP1 := hP.below hB1
  have HB1 : Hid _ := hB1
  have HA1 : Hid _ := hA1
  have HP1 : Hid _ := hP1
  clear HVV HDD HB0 hb1 hB1 hA1 hP1 hA hP n1
  have hno : ∀ w2 N, w2.heap.size = N → Below w1.heap.size w1 w2 → rdZ zs ps f s = [] → Out w.heap.size (w2.alloc (.cells #[] 5)) (.slice (some ⟨N, 0, none⟩) 0 0) (rdZ zs ps f s) ∧ Below w.heap.size w (w2.alloc (.cells #[] 5)) := fun w2 N hN hb e => by
    subst hN
    have hs := hb.size
    rw [e]
    exact ⟨(Own.empty w2 w.heap.size (by omega)).out, (HB1.out.trans (hb.mono (by omega))).alloc (by omega) _⟩
  have HNO : Hid _ := hno
  clear hno
  cases hv : validB L ps f
  · have e0 : rdZ zs ps f s = [] := by rw [HRZ.out, hv]; simp
    have H1 : Hid _ := HNO.out w1 _ rfl (Below.refl _ _) e0
    clear HRZ e0 HNO HHS
    go_wp2
    go_ret
    exact ⟨_, rfl, H1.out⟩
  by_cases hs : s < 0
  · have e0 : rdZ zs ps f s = [] := by rw [HRZ.out, if_neg]; rw [HHS.out]; simp; omega
    have H1 : Hid _ := HNO.out w1 _ rfl (Below.refl _ _) e0
    clear HRZ e0 HNO HHS
    go_wp2
    go_ret
    exact ⟨_, rfl, H1.out⟩
  by_cases hs2 : (L : Int) / 64 ≤ s
  · have e0 : rdZ zs ps f s = [] := by rw [HRZ.out, if_neg]; rw [HHS.out]; simp; omega
    have H1 : Hid _ := HNO.out _ (w1.heap.size + 1) (by simp) ((Below.refl w1.heap.size w1).alloc (Nat.le_refl _) (.cells #[.slice a L c, .slice x m cx, .int .i64 f, .bool d] 41)) e0
    clear HRZ e0 HNO HHS
    go_wp2
    go_ret
    exact ⟨_, rfl, H1.out⟩
  obtain ⟨hvb, hvp⟩ := validB_get hv
  rw [hm] at hvb hvp
  obtain ⟨u1, u2, u3, u4, u5, u6⟩ := hvb
  have hrz : rdZ zs ps f s = (findL ps s m).getD ((zs.drop (s.toNat * 64)).take 64) := by
    rw [HRZ.out, if_pos ⟨hv, by rw [HHS.out]; simp; omega⟩]; unfold rdV; rw [hm]
  have HRZ2 : Hid _ := hrz
  have HVP : Hid _ := hvp
  have hz2 : w1.heap.size + 1 = (w1.alloc (.cells #[.slice a L c, .slice x m cx, .int .i64 f, .bool d] 41)).heap.size := by simp
  have HZ2 : Hid _ := hz2
  have hb2 := (Below.refl w1.heap.size w1).alloc (Nat.le_refl _) (.cells #[.slice a L c, .slice x m cx, .int .i64 f, .bool d] 41)
  have HB2 : Hid _ := hb2
  clear HRZ HNO HHS hrz hvp hz2 hb2
  go_wp2
  have hb2 := HB2.out
  have hB2 := HB1.out.trans (hb2.mono (by omega))
  have hA2 := At.below HA1.out hb2
  have hP2 := PAt.below HP1.out hb2
  have hs2' : w.heap.size < (w1.alloc (.cells #[.slice a L c, .slice x m cx, .int .i64 f, .bool d] 41)).heap.size := by simp; omega
  have k0 : (w1.alloc (.cells #[.slice a L c, .slice x m cx, .int .i64 f, .bool d] 41)).cell? ⟨w.heap.size, 0, none⟩ = some (.slice a L c) := by rw [hb2.cell (p := ⟨w.heap.size, 0, none⟩) hs1]; exact c0
  have k1 : (w1.alloc (.cells #[.slice a L c, .slice x m cx, .int .i64 f, .bool d] 41)).cell? ⟨w.heap.size, 1, none⟩ = some (.slice x m cx) := by rw [hb2.cell (p := ⟨w.heap.size, 1, none⟩) hs1]; exact c1
  clear HB2 hb2 HA1 HP1 HB1 HZ2 c0 c1 c2 c3
  generalize (w1.alloc (.cells #[.slice a L c, .slice x m cx, .int .i64 f, .bool d] 41)) = w2 at *
  have HB2 : Hid _ := hB2
  have HA2 : Hid _ := hA2
  have HP2 : Hid _ := hP2
  clear hB2 hA2 hP2
  go_loop [5] (fun i => ∃ k : Nat, k ≤ m ∧ i = .int .i64 ((k : Int) - 1) ∧ findL ps s m = findL ps s k) (fun i => (intOf i + 1).toNat)
  case atStart => exact ⟨m, Nat.le_refl _, rfl, rfl⟩
  case round =>
    obtain ⟨k, hk, rfl, hf⟩ := hrel
    cases k with
    | zero =>
      obtain ⟨b, off, rfl, hbl, hc⟩ := At.get HA2.out (by omega)
      obtain ⟨s, rfl⟩ := Int.eq_ofNat_of_zero_le (show 0 ≤ s by omega)
      have hres : rdZ zs ps f s = (zs.drop (s * 64)).take 64 := by rw [HRZ2.out, hf]; simp [findL]
      have HF : Hid _ := hres
      have HC : Hid _ := hc
      clear hf hc hres
      have t1 : (s : Int) * 64 ≤ (s + 1) * 64 := by omega
      have t2 : ((s : Int) + 1) * 64 ≤ c := by omega
      have hcs : ¬ (c = s * 64) := by omega
      have hLN : ((zs.drop (s * 64)).take 64).length = (s + 1) * 64 - s * 64 := by simp; omega
      have hN : ∀ j, j < (s + 1) * 64 - s * 64 → (w2.alloc (.cells #[] 5)).cell? ((⟨b, off + s * 64, none⟩ : Addr).add j) = some (.int .u8 (((zs.drop (s * 64)).take 64).getD j 0)) := by
        intro j hj
        rw [Addr.add_lit, ((Below.refl w2.heap.size w2).alloc (Nat.le_refl _) _).cell (p := ⟨b, off + s * 64 + j, none⟩) hbl, Nat.add_assoc, HC.out (s * 64 + j) (by omega)]
        simp [List.getD, show j < 64 by omega]
      have HN : Hid _ := hN
      have HLN : Hid _ := hLN
      clear hN hLN
      go_wp2_with (at_builtin; refine wpList_app _ rfl _ _ rfl w.heap.size _ _ rfl (Own.empty w2 w.heap.size (by omega)) ⟨b, off + s * 64, none⟩ ((s + 1) * 64 - s * 64) _ ((zs.drop (s * 64)).take 64) rfl HLN.out HN.out ?c2 ?c3 ?_)
      (try (case c2 => first | omega | (simp; omega)))
      (try (case c3 => first | omega | (simp; omega)))
      intro v' w3 hown' hbel' _
      have HO : Hid (Own w3 w.heap.size v' (rdZ zs ps f s)) := by
        unfold Hid; rw [HF.out]; simpa using hown'
      have HB : Hid (Below w.heap.size w w3) := (HB2.out.alloc (by omega) _).trans hbel'
      clear hown' hbel'
      go_wp2
      go_ret
      exact ⟨_, rfl, Own.out HO.out, HB.out⟩
    | succ k =>
      obtain ⟨b, off, rfl, hbl, hc⟩ := PAt.get HP2.out (by omega)
      obtain ⟨y, cy, g1, g2, g3⟩ := hc k (by omega)
      have hok := HVP.out k (by omega)
      have hfk : findL ps s (k + 1) = if (ps.getD k (0, [])).1 = s then some (ps.getD k (0, [])).2 else findL ps s k := rfl
      rw [← hf] at hfk
      have hlz : (ps.getD k (0, [])).2.length = 64 := hok.2.2
      clear hok
      have ek : ((k + 1 : Nat) : Int) - 1 = k := by omega
      rw [ek]
      generalize (ps.getD k (0, [])).1 = t at *
      generalize (ps.getD k (0, [])).2 = z at *
      generalize hzl : z.length = zl at *
      have HF : Hid _ := hfk
      have HG3 : Hid _ := g3
      have HLZ : Hid _ := hzl
      have HL64 : Hid _ := hlz
      clear hf hfk g3 hlz hc hzl
      by_cases ht : t = s
      · subst ht
        have e1 : (t == t) = true := by simp
        obtain ⟨b2, o2, rfl, hb2, hc2⟩ := At.get HG3.out (by have := HLZ.out; have := HL64.out; omega)
        have HC2 : Hid _ := hc2
        clear hc2
        have hN : ∀ j, j < zl → (w2.alloc (.cells #[] 5)).cell? ((⟨b2, o2, none⟩ : Addr).add j) = some (.int .u8 (z.getD j 0)) := by
          intro j hj
          rw [Addr.add_lit, ((Below.refl w2.heap.size w2).alloc (Nat.le_refl _) _).cell (p := ⟨b2, o2 + j, none⟩) hb2]
          exact HC2.out j (by have := HLZ.out; omega)
        have HN : Hid _ := hN
        clear hN
        go_wp2_with (at_builtin; refine wpList_app _ rfl _ _ rfl w.heap.size _ _ rfl (Own.empty w2 w.heap.size (by omega)) ⟨b2, o2, none⟩ zl cy z rfl HLZ.out HN.out ?c2 ?c3 ?_)
        (try (case c2 => have := HL64.out; first | omega | (simp; omega)))
        (try (case c3 => first | omega | (simp; omega)))
        intro v' w3 hown' hbel' _
        have HO : Hid (Own w3 w.heap.size v' (rdZ zs ps f t)) := by
          have e : rdZ zs ps f t = z := by rw [HRZ2.out, HF.out, if_pos trivial]; rfl
          unfold Hid; rw [e]; simpa using hown'
        have HB : Hid (Below w.heap.size w w3) := (HB2.out.alloc (by omega) _).trans hbel'
        clear hown' hbel'
        go_wp2
        go_ret
        exact ⟨_, rfl, Own.out HO.out, HB.out⟩
      · have e1 : (t == s) = false := by simpa using ht
        have hfk := HF.out
        rw [if_neg ht] at hfk
        have HF2 : Hid _ := hfk
        clear hfk HF
        go_wp2
        go_round
        case rel => exact ⟨k, by omega, rfl, HF2.out⟩
        case measure => simp [intOf]
end Go.Proofs.Ythghkfncpdnpoac
