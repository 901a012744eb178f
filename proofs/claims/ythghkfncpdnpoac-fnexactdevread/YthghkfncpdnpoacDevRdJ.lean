/-
  Own work: DevRead of the program, whole.
-/
import Derived.Test.YthghkfncpdnpoacDevRdI
import Derived.Deep.WholeRow
namespace Go.Proofs.Ythghkfncpdnpoac
open Go.ChangeShapes Go.WideShapes Go.ChangeAt Go.RowKit
set_option linter.unusedVariables false

theorem rdV_len {zs : List Int} {ps : List PD} {s : Nat} (hok : ∀ i, i < ps.length → (ps.getD i (0, [])).2.length = 64) (hs : s * 64 + 64 ≤ zs.length) : (rdV zs ps s).length = 64 := by
  unfold rdV
  cases e : findL ps s ps.length with
  | none => simp; omega
  | some z =>
    have h : ∀ k, k ≤ ps.length → ∀ z, findL ps s k = some z → z.length = 64 := by
      intro k
      induction k with
      | zero => intro _ z hz; simp [findL] at hz
      | succ k ih =>
        intro hk z hz
        unfold findL at hz
        split at hz
        · simp at hz; rw [← hz]; exact hok k (by omega)
        · exact ih (by omega) z hz
    simp [h _ (Nat.le_refl _) z e]

set_option maxHeartbeats 1000000 in
theorem ird_any (v : Value) (zs : List Int) (ps : List PD) (f s : Int) (d : Bool) (w : World) (h : DAt w v zs ps f d) (hz : zs.length ≤ 1048576) (hn : ps.length ≤ 1048576) (hps : ∀ i, (ps.getD i (0, [])).2.length ≤ 1048576) :
    Calls Try.prog 22 #[v, .int .i64 s] w fun e w' => ∃ v', e = .returned v' ∧ Out w.heap.size w' v' (rdZ zs ps f s) ∧ Below w.heap.size w w' := by
  obtain ⟨a, c, x, cx, rfl, hA, hP, hcap⟩ := h
  have HV := ival_any (.agg #[.slice a zs.length c, .slice x ps.length cx, .int .i64 f, .bool d]) zs ps f d
  have hD : ∀ w', Below w.heap.size w w' → DAt w' (.agg #[.slice a zs.length c, .slice x ps.length cx, .int .i64 f, .bool d]) zs ps f d := fun w' hb => ⟨a, c, x, cx, rfl, hA.below hb, hP.below hb, hcap⟩
  have HRZ : Hid (rdZ zs ps f s = if validB zs.length ps f = true ∧ hasS zs.length s = true then rdV zs ps s else []) := rfl
  generalize hL : zs.length = L at *
  generalize hm : ps.length = m at *
  have HVV : Hid _ := HV
  have HDD : Hid _ := hD
  clear HV hD
  have hb0 := (Below.refl w.heap.size w).alloc (Nat.le_refl _) (.cells #[.slice a L c, .slice x m cx, .int .i64 f, .bool d] 41)
  have HB0 : Hid _ := hb0
  clear hb0
  go_enter Try.func22, Try.ntmps22
  go_wp2_with fail
  refine (HVV.out _ (HDD.out _ HB0.out) hz hn hps).mono ?_
  rintro e w1 ⟨rfl, hb1⟩
  have hB1 : Below w.heap.size w w1 := HB0.out.trans (hb1.mono HB0.out.size)
  have n1 : w1.heap[w.heap.size]? = some (.cells #[.slice a L c, .slice x m cx, .int .i64 f, .bool d] 41 (0, 0)) := by
    rw [hb1.block _ (by simp)]; exact heap_alloc_new w _
  have hs1 : w.heap.size < w1.heap.size := (Array.getElem?_eq_some_iff.1 n1).1
  have HB1 : Hid _ := hB1
  have HA1 : Hid _ := hA.below hB1
  have HP1 : Hid _ := hP.below hB1
  have HN1 : Hid _ := n1
  clear HVV HDD HB0 hb1 hB1 hA hP n1
  have hnone : rdZ zs ps f s = [] → Out w.heap.size w1 (.slice none 0 0) (rdZ zs ps f s) := fun e => by
    rw [e]; exact ⟨none, 0, rfl, .inl rfl, .inl rfl, fun ad e => by cases e⟩
  have HNO : Hid _ := hnone
  clear hnone
  cases hv : validB L ps f
  · have e0 : rdZ zs ps f s = [] := by rw [HRZ.out, hv]; simp
    have H1 : Hid _ := HNO.out e0
    clear HRZ e0 HNO
    go_wp2
    go_ret
    exact ⟨_, rfl, H1.out, HB1.out⟩
  cases hh : hasS L s
  · have e0 : rdZ zs ps f s = [] := by rw [HRZ.out, hh]; simp
    have H1 : Hid _ := HNO.out e0
    clear HRZ e0 HNO
    go_wp2_with (go_at_call 60; refine (has_any w.heap.size _ _ _ _ _ _ _ _ _ _ HN1.out hz).mono ?_; rintro e w1 ⟨rfl, rfl⟩; rw [hh])
    go_ret
    exact ⟨_, rfl, H1.out, HB1.out⟩
  have hrz : rdZ zs ps f s = rdV zs ps s := by rw [HRZ.out, if_pos ⟨hv, hh⟩]
  obtain ⟨hvb, hvp⟩ := validB_get hv
  rw [hm] at hvb hvp
  obtain ⟨u1, u2, u3, u4, u5, u6⟩ := hvb
  have hs0 : 0 ≤ s ∧ s < ((L / 64 : Nat) : Int) := by unfold hasS at hh; simpa using hh
  obtain ⟨s, rfl⟩ := Int.eq_ofNat_of_zero_le hs0.1
  have hsl : s * 64 + 64 ≤ L := by omega
  have hok : ∀ i, i < m → (ps.getD i (0, [])).2.length = 64 := fun i hi => (hvp i hi).2.2
  have hlen : (rdV zs ps s).length = 64 := rdV_len (by rw [hm]; exact hok) (by omega)
  have HRD : Hid _ := read_any w.heap.size a x L c m cx f s d zs ps w1 HN1.out hz hcap hL hm hn hsl HA1.out HP1.out hok
  have HE : Hid _ := hrz
  have HLEN : Hid _ := hlen
  have HOK : Hid _ := hok
  clear HRZ HNO hrz hlen hvp hok hs0
  go_wp2_with (first
    | (go_at_call 60; refine (has_any w.heap.size _ _ _ _ _ _ _ _ _ _ HN1.out hz).mono ?_; rintro e w1 ⟨rfl, rfl⟩; rw [hh])
    | fail)
  refine Calls.mono (show Calls _ _ _ _ _ from HRD.out) ?_
  rintro e w2 ⟨rfl, hb2⟩
  have HE2 := HE.out
  have hlen := HLEN.out
  generalize rdV zs ps s = z at *
  have HS1 : Hid ((Try.prog.info? 64).map (·.size) = some ((z.map (Value.int .u8)).toArray).size) := by unfold Hid; rw [Try.sizeSec]; simp [hlen]
  have HB2 : Hid (Below w.heap.size w w2) := HB1.out.trans (hb2.mono (by omega))
  have hs2 := hb2.size
  clear HE HRD hb2
  unfold secV
  go_wp2_with (refine wpList_store_row rfl 64 (.tmp 5) (.tmp 15) rfl w2.heap.size ((z.map (Value.int .u8)).toArray) rfl rfl 64 _ (heap_alloc_new w2 _) HS1.out (by simp [HLEN.out]) (all_oneCell_toArray (ints_oneCell _ _)) ?_)
  go_ret
  rw [World.setRow_alloc_new]
  have hr : Row (w2.alloc (.cells (z.map (Value.int .u8)).toArray 64)) w2.heap.size 64 z := heap_alloc_new w2 _
  refine ⟨_, rfl, ?_, HB2.out.alloc (by omega) _⟩
  rw [HE2]
  refine ⟨some ⟨w2.heap.size, 0, none⟩, 64, ?_, hr.at_, hr.open_, fun ad e => ?_⟩
  · rw [HLEN.out]; rfl
  · cases e; exact ⟨by show w.heap.size ≤ w2.heap.size; omega, hr.lt⟩
end Go.Proofs.Ythghkfncpdnpoac
