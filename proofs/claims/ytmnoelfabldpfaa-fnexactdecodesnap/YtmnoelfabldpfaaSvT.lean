/-
  Own work: whether the taps fit the used serials, by the program.
-/
import Derived.Test.YtmnoelfabldpfaaSvO
namespace Go.Proofs.Ytmnoelfabldpfaa
open Go.ChangeShapes Go.WideShapes Go.ChangeAt Go.RowKit
set_option linter.unusedVariables false

/-- The taps lie flat in T: serial, now, serial, now .. -/
def tapI (U T : List Int) (i : Nat) : Prop := T.getD (i * 2) 0 ∈ U ∧ (0 ≤ T.getD (i * 2 + 1) 0 ∧ T.getD (i * 2 + 1) 0 ≤ 4294967295) ∧ ∀ j, j < i → T.getD (j * 2) 0 ≠ T.getD (i * 2) 0
def TapP (U T : List Int) (n : Nat) : Prop := ∀ i, i < n → tapI U T i
open Classical in
noncomputable def tapB (U T : List Int) (n : Nat) : Bool := decide (TapP U T n)
theorem tapB_no {U T : List Int} {n : Nat} (h : ¬ TapP U T n) : tapB U T n = false := by unfold tapB; simp [h]
theorem tapB_yes {U T : List Int} {n : Nat} (h : TapP U T n) : tapB U T n = true := by unfold tapB; simp [h]
theorem Row.low {w w' : World} {g : Nat} {t : TypeId} {bs : List Int} {B : Nat} (h : Row w g t bs) (b : Below B w w') (hg : g < B) : Row w' g t bs := by unfold Row; rw [b.block g hg]; exact h
structure TFS (w : World) (U T : List Int) (k : Nat) (wr : World) : Prop where
  below : Below w.heap.size w wr
  set : ∃ bs, Row wr w.heap.size 83 bs ∧ SetB bs (fun v => (v : Int) ∈ U ∧ ∀ j, j < k → T.getD (j * 2) 0 ≠ (v : Int))
  ok : ∀ i, i < k → tapI U T i
open Classical in
set_option maxRecDepth 100000 in
set_option maxHeartbeats 4000000 in
theorem tapsFit_any (a : Option Addr) (n cap : Nat) (U T us : List Int) (w : World) (hn : T.length = n * 2) (hm : n ≤ 1048576) (ha : At .i64 w a T) (hU : SerP U) (hs : SetB us (fun v => (v : Int) ∈ U)) :
    Calls Try.prog 67 #[.slice a n cap, .agg (us.map (Value.int .u8)).toArray] w fun e w' => e = .returned (.bool (tapB U T n)) ∧ Below w.heap.size w w' := by
  have HS : Hid (TFS w U T 0 (w.alloc (.cells (us.map (Value.int .u8)).toArray 83))) :=
    ⟨(Below.refl _ _).alloc (Nat.le_refl _) _, ⟨us, heap_alloc_new w _, hs.congr (fun v _ => ⟨fun h => ⟨h, fun j hj => by omega⟩, fun h => h.1⟩)⟩, fun i hi => by omega⟩
  have HA : Hid (At .i64 w a T) := ha
  have HNX : Hid (T.length = n * 2) := hn
  have HUR : Hid (∀ z ∈ U, 0 ≤ z ∧ z < 256) := fun z hz => by
    obtain ⟨i, hi, rfl⟩ := List.getElem_of_mem hz
    have := hU i hi
    rw [show U[i] = U.getD i 0 by simp [List.getD, hi]]
    exact ⟨this.1, this.2.1⟩
  clear ha hn hs hU
  go_enter Try.func67, Try.ntmps67
  go_wp2_with fail
  generalize w.alloc (.cells (us.map (Value.int .u8)).toArray 83) = w0 at *
  go_loopw [9] (fun i wr => ∃ k : Nat, k ≤ n ∧ i = .int .i64 k ∧ TFS w U T k wr) (fun i _ => n - (intOf i).toNat)
  case atStart => exact ⟨0, Nat.zero_le _, rfl, HS.out⟩
  case round =>
    clear HS
    obtain ⟨k, hk, rfl, hst⟩ := hrel
    by_cases hlt : k < n
    · have hlt' : (k : Int) < n := by omega
      obtain ⟨b, off, ea, hb, hc⟩ := (HA.out.below hst.below).get (by have := HNX.out; omega)
      have c0 := hc (k * 2) (by have := HNX.out; omega)
      have c1 := hc (k * 2 + 1) (by have := HNX.out; omega)
      rw [← Nat.add_assoc] at c1
      have HST : Hid (TFS w U T k wr) := hst
      subst ea
      obtain ⟨bs, hrow, hset⟩ := hst.set
      have HTI : Hid (tapI U T k ↔ (T.getD (k * 2) 0 ∈ U ∧ (0 ≤ T.getD (k * 2 + 1) 0 ∧ T.getD (k * 2 + 1) 0 ≤ 4294967295) ∧ ∀ j, j < k → T.getD (j * 2) 0 ≠ T.getD (k * 2) 0)) := Iff.rfl
      generalize hs' : T.getD (k * 2) 0 = s at *
      generalize hn' : T.getD (k * 2 + 1) 0 = nw at *
      have b1 : Below wr.heap.size wr (wr.alloc (.cells #[.int .i64 s, .int .i64 nw] 94)) := (Below.refl _ _).alloc (Nat.le_refl _) _
      have hrow1 : Row (wr.alloc (.cells #[.int .i64 s, .int .i64 nw] 94)) w.heap.size 83 bs := hrow.low b1 hrow.lt
      have HBT : Hid (BAt (wr.alloc (.cells #[.int .i64 s, .int .i64 nw] 94)) w.heap.size 0 bs) := hrow1.bat hset.1 hset.2.1
      have HB1 : Hid (Below w.heap.size w (wr.alloc (.cells #[.int .i64 s, .int .i64 nw] 94))) := HST.out.below.trans (b1.mono HST.out.below.size)
      have HSB : Hid (SetB bs (fun v => (v : Int) ∈ U ∧ ∀ j, j < k → T.getD (j * 2) 0 ≠ (v : Int))) := hset
      have HRW : Hid (Row (wr.alloc (.cells #[.int .i64 s, .int .i64 nw] 94)) w.heap.size 83 bs) := hrow1
      have HHQ : Hid (decide (s ∈ U ∧ ∀ j, j < k → T.getD (j * 2) 0 ≠ s) = true ↔ (0 ≤ s ∧ s < 256 ∧ ((s.toNat : Int) ∈ U ∧ ∀ j, j < k → T.getD (j * 2) 0 ≠ (s.toNat : Int)))) := by
        show _ ↔ _
        rw [decide_eq_true_eq]
        constructor
        · rintro ⟨h1, h2⟩
          obtain ⟨r0, r1⟩ := HUR.out s h1
          have e : (s.toNat : Int) = s := Int.toNat_of_nonneg r0
          rw [e]; exact ⟨r0, r1, h1, h2⟩
        · rintro ⟨r0, r1, h⟩
          have e : (s.toNat : Int) = s := Int.toNat_of_nonneg r0
          rwa [e] at h
      clear hst hc hb hrow hset hrow1 b1
      go_wp2_with fail
      generalize hW : wr.alloc (.cells #[.int .i64 s, .int .i64 nw] 94) = w1 at *
      have hc10 : w1.cell? ⟨wr.heap.size, 1, none⟩ = some (.int .i64 nw) := by rw [← hW]; exact cell_of_row _ _ _ _ _ _ (heap_alloc_new wr _)
      have hc00 : w1.cell? ⟨wr.heap.size, 0, none⟩ = some (.int .i64 s) := by rw [← hW]; exact cell_of_row _ _ _ _ _ _ (heap_alloc_new wr _)
      have hwl : w.heap.size < wr.heap.size := by obtain ⟨b', r', _⟩ := HST.out.set; exact r'.lt
      clear hW
      refine (hasS_any w.heap.size 0 s bs _ (decide (s ∈ U ∧ ∀ j, j < k → T.getD (j * 2) 0 ≠ s)) _ HBT.out HSB.out HHQ.out).mono ?_
      rintro e w2 ⟨rfl, rfl⟩
      by_cases hin : s ∈ U ∧ ∀ j, j < k → T.getD (j * 2) 0 ≠ s
      · rw [decide_eq_true hin]
        have HIN : Hid (s ∈ U ∧ ∀ j, j < k → T.getD (j * 2) 0 ≠ s) := hin
        clear hin HHQ
        go_wp2_with fail
        refine (isNow_any _ _).mono ?_
        rintro e w3 ⟨rfl, rfl⟩
        by_cases hno : 0 ≤ nw ∧ nw ≤ 4294967295
        · have HNO : Hid (nowOk nw = true) := decide_eq_true hno
          obtain ⟨r0, r1⟩ := HUR.out s HIN.out.1
          obtain ⟨v, hv⟩ := Int.eq_ofNat_of_zero_le r0
          have hv256 : v < 256 := by omega
          have HN : ∀ q, Hid (TFS w U T (k + 1) ((w3.setCell ⟨w.heap.size, 0 + v / 8, none⟩ (.int .u8 ((remB bs v).getD (v / 8) 0))).drewN q)) := fun q => by
            have hr2 := HRW.out.set (v / 8) ((remB bs v).getD (v / 8) 0)
            have e2 : bs.set (v / 8) ((remB bs v).getD (v / 8) 0) = remB bs v := by
              unfold remB; rw [getD_set8 _ _ _ _ (by have := HSB.out.1; omega), if_pos rfl]
            rw [e2] at hr2
            have hw : Wr w.heap.size w3 (w3.setCell ⟨w.heap.size, v / 8, none⟩ (.int .u8 ((remB bs v).getD (v / 8) 0))) := (Wr.refl _ _).setCell _ _
            rw [Nat.zero_add]
            refine ⟨?_, ⟨remB bs v, hr2, (HSB.out.rem v hv256).congr (fun u hu => ?_)⟩, fun i hi => ?_⟩
            · have bq := HB1.out.trans (hw.below (Nat.le_refl _))
              exact ⟨bq.os, bq.tape, bq.output, bq.size, bq.block⟩
            · constructor
              · rintro ⟨⟨h1, h2⟩, h3⟩
                refine ⟨h1, fun j hj => ?_⟩
                by_cases hjk : j < k
                · exact h2 j hjk
                · have : j = k := by omega
                  subst this
                  rw [hs', hv]; intro e; exact h3 (by omega)
              · rintro ⟨h1, h2⟩
                refine ⟨⟨h1, fun j hj => h2 j (by omega)⟩, fun e => ?_⟩
                have := h2 k (by omega)
                rw [hs', hv, e] at this; exact this rfl
            · by_cases hik : i < k
              · exact HST.out.ok i hik
              · have : i = k := by omega
                subst this
                exact HTI.out.2 ⟨HIN.out.1, hno, HIN.out.2⟩
          rw [HNO.out]
          clear hno r0 r1 HIN
          subst hv
          go_wp2_with fail
          refine (remS_any w.heap.size 0 v bs _ hv256 HBT.out).mono ?_
          rintro e w4 ⟨rfl, q, rfl⟩
          have H2 := HN q
          clear HN HBT HST HRW HSB HB1
          generalize (w3.setCell ⟨w.heap.size, 0 + v / 8, none⟩ (.int .u8 ((remB bs v).getD (v / 8) 0))).drewN q = w4 at *
          go_wp2
          go_roundw
          case rel => exact ⟨k + 1, by omega, by go_num, H2.out⟩
          case measure => simp [intOf]; omega
        · have HNO : Hid (nowOk nw = false) := decide_eq_false hno
          have HNT : Hid (tapB U T n = false) := tapB_no (fun h => hno (HTI.out.1 (h k hlt)).2.1)
          rw [HNO.out]
          clear hno
          go_wp2
          go_ret
          exact ⟨by rw [HNT.out]; rfl, HB1.out⟩
      · rw [decide_eq_false hin]
        have HNT : Hid (tapB U T n = false) := tapB_no (fun h => hin ⟨(HTI.out.1 (h k hlt)).1, (HTI.out.1 (h k hlt)).2.2⟩)
        clear hin HHQ
        go_wp2
        go_ret
        exact ⟨by rw [HNT.out]; rfl, HB1.out⟩
    · have hkn : k = n := by omega
      have hlt' : ¬ ((k : Int) < n) := by omega
      have HNT : Hid (tapB U T n = true) := tapB_yes (fun i hi => hst.ok i (by omega))
      have HBW : Hid (Below w.heap.size w wr) := hst.below
      clear hst
      go_wp2
      go_ret
      exact ⟨by rw [HNT.out]; rfl, HBW.out⟩
end Go.Proofs.Ytmnoelfabldpfaa
