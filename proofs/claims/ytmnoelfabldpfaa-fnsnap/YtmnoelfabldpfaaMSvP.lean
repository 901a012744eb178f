/-
  Own work: lists of serials as sets, the mathematics.
-/
import Derived.Test.YtmnoelfabldpfaaSvO
namespace Go.Proofs.Ytmnoelfabldpfaa
set_option linter.unusedVariables false

/-- Strictly ascending. -/
def Asc (xs : List Int) : Prop := xs.Pairwise (· < ·)
theorem asc_ext : ∀ (xs ys : List Int), Asc xs → Asc ys → (∀ z, z ∈ xs ↔ z ∈ ys) → xs = ys := by
  intro xs
  induction xs with
  | nil =>
    intro ys _ _ h
    cases ys with
    | nil => rfl
    | cons y ys => exact absurd ((h y).2 (by simp)) (by simp)
  | cons x xs ih =>
    intro ys hx hy h
    cases ys with
    | nil => exact absurd ((h x).1 (by simp)) (by simp)
    | cons y ys =>
      have hx' := List.pairwise_cons.1 hx
      have hy' := List.pairwise_cons.1 hy
      have e : x = y := by
        rcases List.mem_cons.1 ((h x).1 (by simp)) with h1 | h1
        · exact h1
        · rcases List.mem_cons.1 ((h y).2 (by simp)) with h2 | h2
          · exact h2.symm
          · have := hy'.1 x h1; have := hx'.1 y h2; omega
      subst e
      rw [ih ys hx'.2 hy'.2 (fun z => ?_)]
      constructor
      · intro hz
        rcases List.mem_cons.1 ((h z).1 (List.mem_cons_of_mem _ hz)) with h1 | h1
        · have := hx'.1 z hz; omega
        · exact h1
      · intro hz
        rcases List.mem_cons.1 ((h z).2 (List.mem_cons_of_mem _ hz)) with h1 | h1
        · have := hy'.1 z hz; omega
        · exact h1
theorem getD_el {xs : List Int} {i : Nat} (h : i < xs.length) : xs.getD i 0 = xs[i] := by simp [List.getD, h]
theorem SerP.asc {xs : List Int} (h : SerP xs) : Asc xs := by
  have q : ∀ d i, i + d + 1 < xs.length → xs.getD i 0 < xs.getD (i + d + 1) 0 := by
    intro d
    induction d with
    | zero => intro i hi; exact (h (i + 0 + 1) hi).2.2 (by omega)
    | succ d ih =>
      intro i hi
      have h1 := ih i (by omega)
      have h2 := (h (i + (d + 1) + 1) hi).2.2 (by omega)
      rw [show i + (d + 1) + 1 - 1 = i + d + 1 by omega] at h2
      omega
  refine List.pairwise_iff_getElem.2 (fun i j hi hj hij => ?_)
  have := q (j - i - 1) i (by omega)
  rw [show i + (j - i - 1) + 1 = j by omega, getD_el hi, getD_el hj] at this
  exact this
theorem SerP.range {xs : List Int} (h : SerP xs) {z : Int} (hz : z ∈ xs) : 0 ≤ z ∧ z < 256 := by
  obtain ⟨i, hi, rfl⟩ := List.getElem_of_mem hz
  have := h i hi
  unfold okI at this
  rw [getD_el hi] at this
  exact ⟨this.1, this.2.1⟩
theorem SerP.of_asc {xs : List Int} (h : Asc xs) (hr : ∀ z ∈ xs, 0 ≤ z ∧ z < 256) : SerP xs := by
  intro i hi
  have := hr _ (List.getElem_mem hi)
  refine ⟨by rw [getD_el hi]; exact this.1, by rw [getD_el hi]; exact this.2, fun h0 => ?_⟩
  rw [getD_el hi, getD_el (by omega : i - 1 < xs.length)]
  exact List.pairwise_iff_getElem.1 h (i - 1) i (by omega) hi (by omega)
/-- The serials below k that are in P, ascending. -/
def upTo (P : Nat → Bool) (k : Nat) : List Int := ((List.range k).filter P).map Int.ofNat
theorem upTo_succ (P : Nat → Bool) (k : Nat) : upTo P (k + 1) = if P k = true then upTo P k ++ [(k : Int)] else upTo P k := by
  unfold upTo
  rw [List.range_succ, List.filter_append, List.map_append]
  by_cases h : P k = true
  · rw [if_pos h]; simp [h]
  · rw [if_neg h]; simp [h]
theorem upTo_mem {P : Nat → Bool} {k : Nat} {z : Int} : z ∈ upTo P k ↔ ∃ v : Nat, v < k ∧ P v = true ∧ z = v := by
  unfold upTo
  simp only [List.mem_map, List.mem_filter, List.mem_range]
  constructor
  · rintro ⟨v, ⟨h1, h2⟩, rfl⟩; exact ⟨v, h1, h2, rfl⟩
  · rintro ⟨v, h1, h2, rfl⟩; exact ⟨v, ⟨h1, h2⟩, rfl⟩
theorem upTo_asc (P : Nat → Bool) (k : Nat) : Asc (upTo P k) := by
  induction k with
  | zero => exact List.Pairwise.nil
  | succ k ih =>
    rw [upTo_succ]
    split
    · refine List.pairwise_append.2 ⟨ih, List.pairwise_singleton _ _, fun a ha b hb => ?_⟩
      obtain ⟨v, hv, _, rfl⟩ := upTo_mem.1 ha
      rw [List.mem_singleton.1 hb]; omega
    · exact ih
theorem upTo_len (P : Nat → Bool) (k : Nat) : (upTo P k).length ≤ k := by
  unfold upTo
  rw [List.length_map]
  exact Nat.le_trans (List.length_filter_le _ _) (by rw [List.length_range]; exact Nat.le_refl _)
theorem upTo_ser (P : Nat → Bool) : SerP (upTo P 256) := SerP.of_asc (upTo_asc P 256) (fun z hz => by
  obtain ⟨v, hv, _, rfl⟩ := upTo_mem.1 hz
  omega)
/-- A list of serials is what its set says. -/
theorem SerP.eq_upTo {xs : List Int} (h : SerP xs) (P : Nat → Bool) (hP : ∀ v, v < 256 → (P v = true ↔ (v : Int) ∈ xs)) : upTo P 256 = xs := by
  refine asc_ext _ _ (upTo_asc P 256) h.asc (fun z => ?_)
  rw [upTo_mem]
  constructor
  · rintro ⟨v, hv, hp, rfl⟩; exact (hP v hv).1 hp
  · intro hz
    have hr := h.range hz
    obtain ⟨v, rfl⟩ := Int.eq_ofNat_of_zero_le hr.1
    exact ⟨v, by omega, (hP v (by omega)).2 hz, rfl⟩
/-- How many bits of a byte are set. -/
def pop8 (x : Nat) : Nat := ((List.range 8).filter (fun j => x / 2 ^ j % 2 == 1)).length
def popS (bs : List Int) (k : Nat) : Nat := ((List.range k).map (fun i => pop8 (bs.getD i 0).toNat)).sum
theorem popS_succ (bs : List Int) (k : Nat) : popS bs (k + 1) = popS bs k + pop8 (bs.getD k 0).toNat := by
  unfold popS; rw [List.range_succ, List.map_append, List.sum_append]; simp
theorem upTo_add (P : Nat → Bool) (k n : Nat) : (upTo P (k + n)).length = (upTo P k).length + ((List.range n).filter (fun j => P (k + j))).length := by
  induction n with
  | zero => simp
  | succ n ih =>
    rw [← Nat.add_assoc, upTo_succ, List.range_succ, List.filter_append, List.length_append, ← Nat.add_assoc, ← ih]
    by_cases h : P (k + n) = true
    · rw [if_pos h]; simp [h]
    · rw [if_neg h]; simp [h]
theorem popS_upTo {bs : List Int} {Q : Nat → Prop} (hs : SetB bs Q) (P : Nat → Bool) (hP : ∀ v, v < 256 → (P v = true ↔ Q v)) (k : Nat) (hk : k ≤ 32) : popS bs k = (upTo P (k * 8)).length := by
  induction k with
  | zero => rfl
  | succ k ih =>
    rw [popS_succ, ih (by omega), show (k + 1) * 8 = k * 8 + 8 by omega, upTo_add]
    congr 1
    unfold pop8
    congr 1
    refine List.filter_congr (fun j hj => ?_)
    have hj' := List.mem_range.1 hj
    have h3 := hs.2.2 (k * 8 + j) (by omega)
    rw [show (k * 8 + j) / 8 = k by omega, show (k * 8 + j) % 8 = j by omega] at h3
    have h0 := (hs.2.1.get k).1
    obtain ⟨x, hx⟩ := Int.eq_ofNat_of_zero_le h0
    rw [hx] at h3
    rw [hx, Int.toNat_natCast]
    have e : ((x : Int) / 2 ^ j % 2 = 1) ↔ (x / 2 ^ j % 2 = 1) := by
      rw [show ((2 : Int) ^ j) = ((2 ^ j : Nat) : Int) by simp, ← Int.natCast_ediv]; omega
    rw [e] at h3
    have := h3.trans (hP (k * 8 + j) (by omega)).symm
    by_cases hp : P (k * 8 + j) = true
    · rw [hp]; simpa using this.2 hp
    · have h4 : ¬ (x / 2 ^ j % 2 = 1) := fun h => hp (this.1 h)
      rw [Bool.not_eq_true] at hp
      rw [hp]; simpa using h4
theorem pop_len {bs D : List Int} (hs : SetB bs (fun v => (v : Int) ∈ D)) (hD : SerP D) : popS bs 32 = D.length := by
  have h := popS_upTo hs (fun v => decide ((v : Int) ∈ D)) (fun v _ => by simp) 32 (by omega)
  rw [h, hD.eq_upTo _ (fun v _ => by simp)]
theorem without_ser {D : List Int} (hD : SerP D) (x : Int) : SerP (D.filter (fun z => z != x)) :=
  SerP.of_asc (List.Pairwise.filter _ hD.asc) (fun z hz => hD.range (List.mem_filter.1 hz).1)
end Go.Proofs.Ytmnoelfabldpfaa
namespace Go.Proofs.Ytmnoelfabldpfaa
open Go.ChangeShapes Go.WideShapes Go.ChangeAt Go.RowKit
set_option linter.unusedVariables false

/-- The taps lie flat in T: serial, now, serial, now .. -/
def tapI (U T : List Int) (i : Nat) : Prop := T.getD (i * 2) 0 ∈ U ∧ (0 ≤ T.getD (i * 2 + 1) 0 ∧ T.getD (i * 2 + 1) 0 ≤ 4294967295) ∧ ∀ j, j < i → T.getD (j * 2) 0 ≠ T.getD (i * 2) 0
def TapP (U T : List Int) (n : Nat) : Prop := ∀ i, i < n → tapI U T i
open Classical in
noncomputable def tapB (U T : List Int) (n : Nat) : Bool := decide (TapP U T n)
theorem tapB_no {U T : List Int} {n : Nat} (h : ¬ TapP U T n) : tapB U T n = false := by unfold tapB; simp [h]
theorem tapB_yes {U T : List Int} {n : Nat} (h : TapP U T n) : tapB U T n = true := by unfold tapB; simp [h]
theorem Row.low {w w' : World} {g : Nat} {t : TypeId} {bs : List Int} {B : Nat} (h : Row w g t bs) (b : Below B w w') (hg : g < B) : Row w' g t bs := by unfold Row; rw [b.block g hg]; exact h
structure TFS (w : World) (U T : List Int) (k : Nat) (wr : World) : Prop where
  below : Below w.heap.size w wr
  set : ∃ bs, Row wr w.heap.size 83 bs ∧ SetB bs (fun v => (v : Int) ∈ U ∧ ∀ j, j < k → T.getD (j * 2) 0 ≠ (v : Int))
  ok : ∀ i, i < k → tapI U T i
open Classical in
set_option maxRecDepth 100000 in
set_option maxHeartbeats 4000000 in
theorem tapsFit_any (a : Option Addr) (n cap : Nat) (U T us : List Int) (w : World) (hn : T.length = n * 2) (hm : n ≤ 1048576) (ha : At .i64 w a T) (hU : SerP U) (hs : SetB us (fun v => (v : Int) ∈ U)) :
    Calls Try.prog 67 #[.slice a n cap, .agg (us.map (Value.int .u8)).toArray] w fun e w' => e = .returned (.bool (tapB U T n)) ∧ Below w.heap.size w w' := by
  have HS : Hid (TFS w U T 0 (w.alloc (.cells (us.map (Value.int .u8)).toArray 83))) :=
    ⟨(Below.refl _ _).alloc (Nat.le_refl _) _, ⟨us, heap_alloc_new w _, hs.congr (fun v _ => ⟨fun h => ⟨h, fun j hj => by omega⟩, fun h => h.1⟩)⟩, fun i hi => by omega⟩
  have HA : Hid (At .i64 w a T) := ha
  have HNX : Hid (T.length = n * 2) := hn
  have HUR : Hid (∀ z ∈ U, 0 ≤ z ∧ z < 256) := fun z hz => by
    obtain ⟨i, hi, rfl⟩ := List.getElem_of_mem hz
    have := hU i hi
    rw [show U[i] = U.getD i 0 by simp [List.getD, hi]]
    exact ⟨this.1, this.2.1⟩
  clear ha hn hs hU
  go_enter Try.func67, Try.ntmps67
  go_wp2_with fail
  generalize w.alloc (.cells (us.map (Value.int .u8)).toArray 83) = w0 at *
  go_loopw [9] (fun i wr => ∃ k : Nat, k ≤ n ∧ i = .int .i64 k ∧ TFS w U T k wr) (fun i _ => n - (intOf i).toNat)
  case atStart => exact ⟨0, Nat.zero_le _, rfl, HS.out⟩
  case round =>
    clear HS
    obtain ⟨k, hk, rfl, hst⟩ := hrel
    by_cases hlt : k < n
    · have hlt' : (k : Int) < n := by omega
      obtain ⟨b, off, ea, hb, hc⟩ := (HA.out.below hst.below).get (by have := HNX.out; omega)
      have c0 := hc (k * 2) (by have := HNX.out; omega)
      have c1 := hc (k * 2 + 1) (by have := HNX.out; omega)
      rw [← Nat.add_assoc] at c1
      have HST : Hid (TFS w U T k wr) := hst
      subst ea
      obtain ⟨bs, hrow, hset⟩ := hst.set
      have HTI : Hid (tapI U T k ↔ (T.getD (k * 2) 0 ∈ U ∧ (0 ≤ T.getD (k * 2 + 1) 0 ∧ T.getD (k * 2 + 1) 0 ≤ 4294967295) ∧ ∀ j, j < k → T.getD (j * 2) 0 ≠ T.getD (k * 2) 0)) := Iff.rfl
      generalize hs' : T.getD (k * 2) 0 = s at *
      generalize hn' : T.getD (k * 2 + 1) 0 = nw at *
      have b1 : Below wr.heap.size wr (wr.alloc (.cells #[.int .i64 s, .int .i64 nw] 94)) := (Below.refl _ _).alloc (Nat.le_refl _) _
      have hrow1 : Row (wr.alloc (.cells #[.int .i64 s, .int .i64 nw] 94)) w.heap.size 83 bs := hrow.low b1 hrow.lt
      have HBT : Hid (BAt (wr.alloc (.cells #[.int .i64 s, .int .i64 nw] 94)) w.heap.size 0 bs) := hrow1.bat hset.1 hset.2.1
      have HB1 : Hid (Below w.heap.size w (wr.alloc (.cells #[.int .i64 s, .int .i64 nw] 94))) := HST.out.below.trans (b1.mono HST.out.below.size)
      have HSB : Hid (SetB bs (fun v => (v : Int) ∈ U ∧ ∀ j, j < k → T.getD (j * 2) 0 ≠ (v : Int))) := hset
      have HRW : Hid (Row (wr.alloc (.cells #[.int .i64 s, .int .i64 nw] 94)) w.heap.size 83 bs) := hrow1
      have HHQ : Hid (decide (s ∈ U ∧ ∀ j, j < k → T.getD (j * 2) 0 ≠ s) = true ↔ (0 ≤ s ∧ s < 256 ∧ ((s.toNat : Int) ∈ U ∧ ∀ j, j < k → T.getD (j * 2) 0 ≠ (s.toNat : Int)))) := by
        show _ ↔ _
        rw [decide_eq_true_eq]
        constructor
        · rintro ⟨h1, h2⟩
          obtain ⟨r0, r1⟩ := HUR.out s h1
          have e : (s.toNat : Int) = s := Int.toNat_of_nonneg r0
          rw [e]; exact ⟨r0, r1, h1, h2⟩
        · rintro ⟨r0, r1, h⟩
          have e : (s.toNat : Int) = s := Int.toNat_of_nonneg r0
          rwa [e] at h
      clear hst hc hb hrow hset hrow1 b1
      go_wp2_with fail
      generalize hW : wr.alloc (.cells #[.int .i64 s, .int .i64 nw] 94) = w1 at *
      have hc10 : w1.cell? ⟨wr.heap.size, 1, none⟩ = some (.int .i64 nw) := by rw [← hW]; exact cell_of_row _ _ _ _ _ _ (heap_alloc_new wr _)
      have hc00 : w1.cell? ⟨wr.heap.size, 0, none⟩ = some (.int .i64 s) := by rw [← hW]; exact cell_of_row _ _ _ _ _ _ (heap_alloc_new wr _)
      have hwl : w.heap.size < wr.heap.size := by obtain ⟨b', r', _⟩ := HST.out.set; exact r'.lt
      clear hW
      refine (hasS_any w.heap.size 0 s bs _ (decide (s ∈ U ∧ ∀ j, j < k → T.getD (j * 2) 0 ≠ s)) _ HBT.out HSB.out HHQ.out).mono ?_
      rintro e w2 ⟨rfl, rfl⟩
      by_cases hin : s ∈ U ∧ ∀ j, j < k → T.getD (j * 2) 0 ≠ s
      · rw [decide_eq_true hin]
        have HIN : Hid (s ∈ U ∧ ∀ j, j < k → T.getD (j * 2) 0 ≠ s) := hin
        clear hin HHQ
        go_wp2_with fail
        refine (isNow_any _ _).mono ?_
        rintro e w3 ⟨rfl, rfl⟩
        by_cases hno : 0 ≤ nw ∧ nw ≤ 4294967295
        · have HNO : Hid (nowOk nw = true) := decide_eq_true hno
          obtain ⟨r0, r1⟩ := HUR.out s HIN.out.1
          obtain ⟨v, hv⟩ := Int.eq_ofNat_of_zero_le r0
          have hv256 : v < 256 := by omega
          have HN : ∀ q, Hid (TFS w U T (k + 1) ((w3.setCell ⟨w.heap.size, 0 + v / 8, none⟩ (.int .u8 ((remB bs v).getD (v / 8) 0))).drewN q)) := fun q => by
            have hr2 := HRW.out.set (v / 8) ((remB bs v).getD (v / 8) 0)
            have e2 : bs.set (v / 8) ((remB bs v).getD (v / 8) 0) = remB bs v := by
              unfold remB; rw [getD_set8 _ _ _ _ (by have := HSB.out.1; omega), if_pos rfl]
            rw [e2] at hr2
            have hw : Wr w.heap.size w3 (w3.setCell ⟨w.heap.size, v / 8, none⟩ (.int .u8 ((remB bs v).getD (v / 8) 0))) := (Wr.refl _ _).setCell _ _
            rw [Nat.zero_add]
            refine ⟨?_, ⟨remB bs v, hr2, (HSB.out.rem v hv256).congr (fun u hu => ?_)⟩, fun i hi => ?_⟩
            · have bq := HB1.out.trans (hw.below (Nat.le_refl _))
              exact ⟨bq.os, bq.tape, bq.output, bq.size, bq.block⟩
            · constructor
              · rintro ⟨⟨h1, h2⟩, h3⟩
                refine ⟨h1, fun j hj => ?_⟩
                by_cases hjk : j < k
                · exact h2 j hjk
                · have : j = k := by omega
                  subst this
                  rw [hs', hv]; intro e; exact h3 (by omega)
              · rintro ⟨h1, h2⟩
                refine ⟨⟨h1, fun j hj => h2 j (by omega)⟩, fun e => ?_⟩
                have := h2 k (by omega)
                rw [hs', hv, e] at this; exact this rfl
            · by_cases hik : i < k
              · exact HST.out.ok i hik
              · have : i = k := by omega
                subst this
                exact HTI.out.2 ⟨HIN.out.1, hno, HIN.out.2⟩
          rw [HNO.out]
          clear hno r0 r1 HIN
          subst hv
          go_wp2_with fail
          refine (remS_any w.heap.size 0 v bs _ hv256 HBT.out).mono ?_
          rintro e w4 ⟨rfl, q, rfl⟩
          have H2 := HN q
          clear HN HBT HST HRW HSB HB1
          generalize (w3.setCell ⟨w.heap.size, 0 + v / 8, none⟩ (.int .u8 ((remB bs v).getD (v / 8) 0))).drewN q = w4 at *
          go_wp2
          go_roundw
          case rel => exact ⟨k + 1, by omega, by go_num, H2.out⟩
          case measure => simp [intOf]; omega
        · have HNO : Hid (nowOk nw = false) := decide_eq_false hno
          have HNT : Hid (tapB U T n = false) := tapB_no (fun h => hno (HTI.out.1 (h k hlt)).2.1)
          rw [HNO.out]
          clear hno
          go_wp2
          go_ret
          exact ⟨by rw [HNT.out]; rfl, HB1.out⟩
      · rw [decide_eq_false hin]
        have HNT : Hid (tapB U T n = false) := tapB_no (fun h => hin ⟨(HTI.out.1 (h k hlt)).1, (HTI.out.1 (h k hlt)).2.2⟩)
        clear hin HHQ
        go_wp2
        go_ret
        exact ⟨by rw [HNT.out]; rfl, HB1.out⟩
    · have hkn : k = n := by omega
      have hlt' : ¬ ((k : Int) < n) := by omega
      have HNT : Hid (tapB U T n = true) := tapB_yes (fun i hi => hst.ok i (by omega))
      have HBW : Hid (Below w.heap.size w wr) := hst.below
      clear hst
      go_wp2
      go_ret
      exact ⟨by rw [HNT.out]; rfl, HBW.out⟩
end Go.Proofs.Ytmnoelfabldpfaa
