/-
  Own work: a list of serials as a set, by the program.
-/
import Derived.Test.YtmnoelfabldpfaaSvB
namespace Go.Proofs.Ytmnoelfabldpfaa
open Go.ChangeShapes Go.WideShapes Go.ChangeAt Go.RowKit
set_option linter.unusedVariables false

def okI (xs : List Int) (i : Nat) : Prop := 0 ≤ xs.getD i 0 ∧ xs.getD i 0 < 256 ∧ (0 < i → xs.getD (i - 1) 0 < xs.getD i 0)
/-- A list of serials, ascending. -/
def SerP (xs : List Int) : Prop := ∀ i, i < xs.length → okI xs i
open Classical in
noncomputable def serB (xs : List Int) : Bool := decide (SerP xs)
theorem serB_iff (xs : List Int) : serB xs = true ↔ SerP xs := by unfold serB; simp
theorem serB_no {xs : List Int} (h : ¬ SerP xs) : serB xs = false := by unfold serB; simp [h]
theorem serB_yes {xs : List Int} (h : SerP xs) : serB xs = true := by unfold serB; simp [h]
theorem results_ct {fn : Func} {p u : Tmp} (h : fn.results = #[.cell p 83, .tmp u]) (tmps : Array Value) (w : World) (g : Nat) (cs : Array Value) (v : Value) (hv : tmps.getD u undef = v)
    (hp : tmps.getD p undef = .pointer (some ⟨g, 0, none⟩)) (hr : w.heap[g]? = some (.cells cs 83 (0, 0))) (hs : (Try.prog.info? 83).map (·.size) = some cs.size) :
    (results fn tmps).run Try.prog w = .ok (.tuple #[.agg cs, v]) w := by
  have hp' : tmps[p]?.getD undef = .pointer (some ⟨g, 0, none⟩) := by simpa using hp
  have hv' : tmps[u]?.getD undef = v := by simpa using hv
  have hl := run_loadVar_row (P := Try.prog) w g 83 83 cs (0, 0) _ hr Try.underlying83 rfl hs
  simp [results, h, hp', hv', asAddr, hl]
def z32 : List Int := [0, 0, 0, 0, 0, 0, 0, 0, 0, 0, 0, 0, 0, 0, 0, 0, 0, 0, 0, 0, 0, 0, 0, 0, 0, 0, 0, 0, 0, 0, 0, 0]
theorem z32_set : SetB z32 (fun _ => False) := by
  refine ⟨rfl, by unfold Byte z32; decide, fun v hv => ⟨fun h => ?_, fun h => h.elim⟩⟩
  have e : z32.getD (v / 8) 0 = 0 := by
    have : v / 8 < 32 := by omega
    generalize v / 8 = q at *
    have hq : ∀ q, q < 32 → z32.getD q 0 = 0 := by decide
    exact hq q this
  rw [e] at h; simp at h
theorem SetB.congr {bs : List Int} {P Q : Nat → Prop} (h : SetB bs P) (hq : ∀ v, v < 256 → (P v ↔ Q v)) : SetB bs Q := ⟨h.1, h.2.1, fun v hv => (h.2.2 v hv).trans (hq v hv)⟩
theorem Row.bat {w : World} {g : Nat} {t : TypeId} {bs : List Int} (h : Row w g t bs) (hl : bs.length = 32) (hb : Byte bs) : BAt w g 0 bs := ⟨hl, hb, fun i hi => by rw [Nat.zero_add]; exact ⟨h.cell i (by omega), h.frozen i⟩⟩
theorem Try.sizeSS : (Try.prog.info? 83).map (·.size) = some 32 := by kernel_rfl
/-- The set of the first k serials, and what else stands. -/
structure SOS (w : World) (xs : List Int) (k : Nat) (wr : World) : Prop where
  below : Below w.heap.size w wr
  res : Row wr w.heap.size 83 z32
  set : ∃ bs, Row wr (w.heap.size + 1) 83 bs ∧ SetB bs (fun v => (v : Int) ∈ xs.take k)
  ok : ∀ i, i < k → okI xs i
def lastOf (xs : List Int) (k : Nat) : Int := if k = 0 then -1 else xs.getD (k - 1) 0
/-- What setOf answers. -/
def SoP (w : World) (xs : List Int) (e : Ending) (w' : World) : Prop :=
  ∃ bs, e = .returned (.tuple #[.agg (bs.map (Value.int .u8)).toArray, .bool (serB xs)]) ∧ bs.length = 32 ∧ Byte bs ∧ (SerP xs → SetB bs (fun v => (v : Int) ∈ xs)) ∧ Below w.heap.size w w'

set_option maxRecDepth 100000 in
set_option maxHeartbeats 4000000 in
theorem setOf_any (a : Option Addr) (n cap : Nat) (xs : List Int) (w : World) (hn : xs.length = n) (hm : n ≤ 1048576) (ha : At .i64 w a xs) :
    Calls Try.prog 53 #[.slice a n cap] w (SoP w xs) := by
  have HS : Hid (SOS w xs 0 ((w.alloc (.cells #[.int .u8 0, .int .u8 0, .int .u8 0, .int .u8 0, .int .u8 0, .int .u8 0, .int .u8 0, .int .u8 0, .int .u8 0, .int .u8 0, .int .u8 0, .int .u8 0, .int .u8 0, .int .u8 0, .int .u8 0, .int .u8 0, .int .u8 0, .int .u8 0, .int .u8 0, .int .u8 0, .int .u8 0, .int .u8 0, .int .u8 0, .int .u8 0, .int .u8 0, .int .u8 0, .int .u8 0, .int .u8 0, .int .u8 0, .int .u8 0, .int .u8 0, .int .u8 0] 83)).alloc (.cells #[.int .u8 0, .int .u8 0, .int .u8 0, .int .u8 0, .int .u8 0, .int .u8 0, .int .u8 0, .int .u8 0, .int .u8 0, .int .u8 0, .int .u8 0, .int .u8 0, .int .u8 0, .int .u8 0, .int .u8 0, .int .u8 0, .int .u8 0, .int .u8 0, .int .u8 0, .int .u8 0, .int .u8 0, .int .u8 0, .int .u8 0, .int .u8 0, .int .u8 0, .int .u8 0, .int .u8 0, .int .u8 0, .int .u8 0, .int .u8 0, .int .u8 0, .int .u8 0] 83))) := by
    have bb : Below w.heap.size w ((w.alloc (.cells #[.int .u8 0, .int .u8 0, .int .u8 0, .int .u8 0, .int .u8 0, .int .u8 0, .int .u8 0, .int .u8 0, .int .u8 0, .int .u8 0, .int .u8 0, .int .u8 0, .int .u8 0, .int .u8 0, .int .u8 0, .int .u8 0, .int .u8 0, .int .u8 0, .int .u8 0, .int .u8 0, .int .u8 0, .int .u8 0, .int .u8 0, .int .u8 0, .int .u8 0, .int .u8 0, .int .u8 0, .int .u8 0, .int .u8 0, .int .u8 0, .int .u8 0, .int .u8 0] 83)).alloc (.cells #[.int .u8 0, .int .u8 0, .int .u8 0, .int .u8 0, .int .u8 0, .int .u8 0, .int .u8 0, .int .u8 0, .int .u8 0, .int .u8 0, .int .u8 0, .int .u8 0, .int .u8 0, .int .u8 0, .int .u8 0, .int .u8 0, .int .u8 0, .int .u8 0, .int .u8 0, .int .u8 0, .int .u8 0, .int .u8 0, .int .u8 0, .int .u8 0, .int .u8 0, .int .u8 0, .int .u8 0, .int .u8 0, .int .u8 0, .int .u8 0, .int .u8 0, .int .u8 0] 83)) := ((Below.refl _ _).alloc (Nat.le_refl _) _).alloc (by simp) _
    refine ⟨bb, ?_, ⟨z32, ?_, z32_set.congr (fun v _ => by simp)⟩, fun i hi => by omega⟩
    · show _ = _
      rw [Below.heap_alloc _ _ w.heap.size (by simp)]; exact heap_alloc_new w _
    · show _ = _
      have := heap_alloc_new (w.alloc (.cells #[.int .u8 0, .int .u8 0, .int .u8 0, .int .u8 0, .int .u8 0, .int .u8 0, .int .u8 0, .int .u8 0, .int .u8 0, .int .u8 0, .int .u8 0, .int .u8 0, .int .u8 0, .int .u8 0, .int .u8 0, .int .u8 0, .int .u8 0, .int .u8 0, .int .u8 0, .int .u8 0, .int .u8 0, .int .u8 0, .int .u8 0, .int .u8 0, .int .u8 0, .int .u8 0, .int .u8 0, .int .u8 0, .int .u8 0, .int .u8 0, .int .u8 0, .int .u8 0] 83)) (.cells #[.int .u8 0, .int .u8 0, .int .u8 0, .int .u8 0, .int .u8 0, .int .u8 0, .int .u8 0, .int .u8 0, .int .u8 0, .int .u8 0, .int .u8 0, .int .u8 0, .int .u8 0, .int .u8 0, .int .u8 0, .int .u8 0, .int .u8 0, .int .u8 0, .int .u8 0, .int .u8 0, .int .u8 0, .int .u8 0, .int .u8 0, .int .u8 0, .int .u8 0, .int .u8 0, .int .u8 0, .int .u8 0, .int .u8 0, .int .u8 0, .int .u8 0, .int .u8 0] 83)
      rwa [show (w.alloc (.cells #[.int .u8 0, .int .u8 0, .int .u8 0, .int .u8 0, .int .u8 0, .int .u8 0, .int .u8 0, .int .u8 0, .int .u8 0, .int .u8 0, .int .u8 0, .int .u8 0, .int .u8 0, .int .u8 0, .int .u8 0, .int .u8 0, .int .u8 0, .int .u8 0, .int .u8 0, .int .u8 0, .int .u8 0, .int .u8 0, .int .u8 0, .int .u8 0, .int .u8 0, .int .u8 0, .int .u8 0, .int .u8 0, .int .u8 0, .int .u8 0, .int .u8 0, .int .u8 0] 83)).heap.size = w.heap.size + 1 by simp] at this
  have HA : Hid (At .i64 w a xs) := ha
  have HNX : Hid (xs.length = n) := hn
  clear ha hn
  go_enter Try.func53, Try.ntmps53
  go_wp2_with fail
  generalize ((w.alloc (.cells #[.int .u8 0, .int .u8 0, .int .u8 0, .int .u8 0, .int .u8 0, .int .u8 0, .int .u8 0, .int .u8 0, .int .u8 0, .int .u8 0, .int .u8 0, .int .u8 0, .int .u8 0, .int .u8 0, .int .u8 0, .int .u8 0, .int .u8 0, .int .u8 0, .int .u8 0, .int .u8 0, .int .u8 0, .int .u8 0, .int .u8 0, .int .u8 0, .int .u8 0, .int .u8 0, .int .u8 0, .int .u8 0, .int .u8 0, .int .u8 0, .int .u8 0, .int .u8 0] 83)).alloc (.cells #[.int .u8 0, .int .u8 0, .int .u8 0, .int .u8 0, .int .u8 0, .int .u8 0, .int .u8 0, .int .u8 0, .int .u8 0, .int .u8 0, .int .u8 0, .int .u8 0, .int .u8 0, .int .u8 0, .int .u8 0, .int .u8 0, .int .u8 0, .int .u8 0, .int .u8 0, .int .u8 0, .int .u8 0, .int .u8 0, .int .u8 0, .int .u8 0, .int .u8 0, .int .u8 0, .int .u8 0, .int .u8 0, .int .u8 0, .int .u8 0, .int .u8 0, .int .u8 0] 83)) = w0 at *
  go_loopw [5, 10] (fun l i wr => ∃ k : Nat, k ≤ n ∧ i = .int .i64 k ∧ l = .int .i64 (lastOf xs k) ∧ SOS w xs k wr) (fun _ i _ => n - (intOf i).toNat)
  case atStart => exact ⟨0, Nat.zero_le _, rfl, rfl, HS.out⟩
  case round =>
    clear HS
    obtain ⟨k, hk, rfl, rfl, hst⟩ := hrel
    by_cases hlt : k < n
    · have hlt' : (k : Int) < n := by omega
      obtain ⟨b, off, ea, hb, hc⟩ := (HA.out.below hst.below).get (by have := HNX.out; omega)
      have hck := hc k (by have := HNX.out; omega)
      have HST : Hid (SOS w xs k wr) := hst
      have HEA : Hid (a = some ⟨b, off, none⟩) := ea
      subst ea
      clear hst hc hb
      by_cases hle : xs.getD k 0 ≤ lastOf xs k
      · have HNO : Hid (¬ SerP xs) := fun h => by
          have q := h k (by have := HNX.out; omega)
          unfold lastOf at hle
          by_cases h0 : k = 0
          · rw [if_pos h0] at hle; have := q.1; omega
          · rw [if_neg h0] at hle; have := q.2.2 (by omega); omega
        have HR : Hid (wr.heap[w.heap.size]? = some (.cells (z32.map (Value.int .u8)).toArray 83 (0, 0))) := HST.out.res
        generalize xs.getD k 0 = v at *
        generalize lastOf xs k = l at *
        go_wp2_with (first
          | (refine wpList_store_row rfl 83 (.tmp 2) (.tmp 22) rfl w.heap.size ((z32.map (Value.int .u8)).toArray) rfl rfl 83 _ HR.out Try.sizeSS rfl (all_oneCell_toArray (ints_oneCell _ _)) ?_)
          | fail)
        refine bodyPost_ret (v := .tuple #[.agg (z32.map (Value.int .u8)).toArray, .bool false]) (results_ct rfl _ _ w.heap.size _ _ rfl rfl (setRow_heap _ _ _ _ _ _ HR.out) Try.sizeSS) rfl ?_
        exact ⟨z32, by rw [serB_no HNO.out], rfl, z32_set.2.1, fun h => absurd h HNO.out, HST.out.below.trans ((Wr.setRow _ _ _).below (Nat.le_refl _))⟩
      · by_cases hso : 0 ≤ xs.getD k 0 ∧ xs.getD k 0 < 256
        · obtain ⟨v, hv⟩ := Int.eq_ofNat_of_zero_le hso.1
          have hv256 : v < 256 := by omega
          have HSO : Hid (serOk (v : Int) = true) := decide_eq_true ⟨by omega, by omega⟩
          obtain ⟨bs, hrow, hset⟩ := HST.out.set
          have HBT : Hid (BAt wr (w.heap.size + 1) 0 bs) := hrow.bat hset.1 hset.2.1
          have HN : ∀ q, Hid (SOS w xs (k + 1) ((wr.setCell ⟨w.heap.size + 1, 0 + v / 8, none⟩ (.int .u8 ((addB bs v).getD (v / 8) 0))).drewN q)) := fun q => by
            have hr2 := hrow.set (v / 8) ((addB bs v).getD (v / 8) 0)
            have e2 : bs.set (v / 8) ((addB bs v).getD (v / 8) 0) = addB bs v := by
              unfold addB; rw [getD_set8 _ _ _ _ (by have := hset.1; omega), if_pos rfl]
            rw [e2] at hr2
            have hw : Wr (w.heap.size + 1) wr (wr.setCell ⟨w.heap.size + 1, v / 8, none⟩ (.int .u8 ((addB bs v).getD (v / 8) 0))) := (Wr.refl _ _).setCell _ _
            rw [Nat.zero_add]
            refine ⟨?_, ?_, ⟨addB bs v, hr2, (hset.add v hv256).congr (fun u hu => ?_)⟩, fun i hi => ?_⟩
            · have bq := HST.out.below.trans (hw.below (by omega))
              exact ⟨bq.os, bq.tape, bq.output, bq.size, bq.block⟩
            · have := HST.out.res
              show _ = _
              exact (hw.block _ (by omega)).trans this
            · rw [take_snoc xs k (by have := HNX.out; omega), List.mem_append, hv]
              simp only [List.mem_cons, List.not_mem_nil, or_false]
              constructor
              · rintro (h | h)
                · exact .inl h
                · exact .inr (by omega)
              · rintro (h | h)
                · exact .inl h
                · exact .inr (by omega)
            · by_cases hik : i < k
              · exact HST.out.ok i hik
              · have : i = k := by omega
                subst this
                refine ⟨hso.1, hso.2, fun h0 => ?_⟩
                unfold lastOf at hle
                rw [if_neg (by omega)] at hle; omega
          have HL : Hid (lastOf xs (k + 1) = (v : Int)) := by show _ = _; unfold lastOf; rw [if_neg (by omega), Nat.add_sub_cancel]; exact hv
          rw [hv] at hck hle
          clear hso hrow hset hv
          generalize lastOf xs k = l at *
          go_wp2_with fail
          refine (isSerial_any _ _).mono ?_
          rintro e w1 ⟨rfl, rfl⟩
          rw [HSO.out]
          go_wp2_with fail
          refine (addS_any (w.heap.size + 1) 0 v bs _ hv256 HBT.out).mono ?_
          rintro e w2 ⟨rfl, q, rfl⟩
          have H2 := HN q
          clear HN HBT HST
          generalize (w1.setCell ⟨w.heap.size + 1, 0 + v / 8, none⟩ (.int .u8 ((addB bs v).getD (v / 8) 0))).drewN q = w2 at *
          go_wp2
          go_roundw
          case rel => exact ⟨k + 1, by omega, by go_num, by rw [HL.out], H2.out⟩
          case measure => simp [intOf]; omega
        · have HSO : Hid (serOk (xs.getD k 0) = false) := decide_eq_false hso
          have HNO : Hid (¬ SerP xs) := fun h => hso ⟨(h k (by have := HNX.out; omega)).1, (h k (by have := HNX.out; omega)).2.1⟩
          have HR : Hid (wr.heap[w.heap.size]? = some (.cells (z32.map (Value.int .u8)).toArray 83 (0, 0))) := HST.out.res
          clear hso
          generalize xs.getD k 0 = v at *
          generalize lastOf xs k = l at *
          go_wp2_with fail
          refine (isSerial_any _ _).mono ?_
          rintro e w1 ⟨rfl, rfl⟩
          rw [HSO.out]
          go_wp2_with (first
            | (refine wpList_store_row rfl 83 (.tmp 2) (.tmp 22) rfl w.heap.size ((z32.map (Value.int .u8)).toArray) rfl rfl 83 _ HR.out Try.sizeSS rfl (all_oneCell_toArray (ints_oneCell _ _)) ?_)
            | fail)
          refine bodyPost_ret (v := .tuple #[.agg (z32.map (Value.int .u8)).toArray, .bool false]) (results_ct rfl _ _ w.heap.size _ _ rfl rfl (setRow_heap _ _ _ _ _ _ HR.out) Try.sizeSS) rfl ?_
          exact ⟨z32, by rw [serB_no HNO.out], rfl, z32_set.2.1, fun h => absurd h HNO.out, HST.out.below.trans ((Wr.setRow _ _ _).below (Nat.le_refl _))⟩
    · have hkn : k = n := by omega
      have hlt' : ¬ ((k : Int) < n) := by omega
      obtain ⟨bs, hrow, hset⟩ := hst.set
      have HYE : Hid (SerP xs) := fun i hi => hst.ok i (by have := HNX.out; omega)
      have HBS : Hid (bs.length = 32 ∧ Byte bs ∧ SetB bs (fun v => (v : Int) ∈ xs)) := ⟨hset.1, hset.2.1, hset.congr (fun v _ => by rw [List.take_of_length_le (by have := HNX.out; omega)])⟩
      have HR : Hid (wr.heap[w.heap.size]? = some (.cells (z32.map (Value.int .u8)).toArray 83 (0, 0))) := hst.res
      have HL : Hid (wr.heap[w.heap.size + 1]? = some (.cells (bs.map (Value.int .u8)).toArray 83 (0, 0))) := hrow
      have HSZ : Hid ((Try.prog.info? 83).map (·.size) = some ((bs.map (Value.int .u8)).toArray).size) := by show _ = _; rw [Try.sizeSS]; simp [hset.1]
      have HEQ : Hid (((z32.map (Value.int .u8)).toArray).size = ((bs.map (Value.int .u8)).toArray).size) := by show _ = _; simp [hset.1, z32]
      have HBW : Hid (Below w.heap.size w wr) := hst.below
      clear hst hrow hset
      generalize lastOf xs k = l at *
      go_wp2_with (first
        | (refine wpList_load_row rfl 83 (.tmp 4) rfl (w.heap.size + 1) rfl 83 _ (0, 0) _ HL.out Try.underlying83 rfl HSZ.out ?_)
        | (refine wpList_store_row rfl 83 (.tmp 2) (.tmp 27) rfl w.heap.size ((bs.map (Value.int .u8)).toArray) rfl rfl 83 _ HR.out HSZ.out HEQ.out (all_oneCell_toArray (ints_oneCell _ _)) ?_)
        | fail)
      refine bodyPost_ret (v := .tuple #[.agg (bs.map (Value.int .u8)).toArray, .bool true]) (results_ct rfl _ _ w.heap.size _ _ rfl rfl (setRow_heap _ _ _ _ _ _ HR.out) HSZ.out) rfl ?_
      exact ⟨bs, by rw [serB_yes HYE.out], HBS.out.1, HBS.out.2.1, fun _ => HBS.out.2.2, HBW.out.trans ((Wr.setRow _ _ _).below (Nat.le_refl _))⟩
end Go.Proofs.Ytmnoelfabldpfaa
