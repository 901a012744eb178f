/-
  Own work: snaps by the program: numbers in a slot, the state of a snap, whether it is valid (written by wip/mksna.py).
-/
import Derived.Test.YtmnoelfabldpfaaMApL
import Derived.Test.YtmnoelfabldpfaaMBase
import Derived.Test.YtmnoelfabldpfaaMSwD
namespace Go.Proofs.Ytmnoelfabldpfaa
open Go.ChangeShapes Go.WideShapes Go.ChangeAt Go.RowKit
set_option linter.unusedVariables false

set_option maxHeartbeats 1000000 in
theorem setNo_any (g o : Nat) (t : TypeId) (p : Nat) (v : Int) (zs : List Int) (w : World) (hr : Row w g t zs) (hl : o + 64 ≤ zs.length) (hp : p ≤ 60) (hv : U32 v) :
    Calls Try.prog 52 #[.pointer (some ⟨g, o, none⟩), .int .i64 p, .int .u32 v] w fun e w' => e = .returned (.tuple #[]) ∧ Row w' g t (putK zs (o + p) v 4) ∧ Wr g w w' := by
  obtain ⟨hv0, hv1⟩ := hv
  go_enter Try.func52, Try.ntmps52
  go_wp2
  go_loopw [7] (fun i wr => ∃ k : Nat, k ≤ 4 ∧ i = .int .i64 k ∧ Row wr g t (putK zs (o + p) v k) ∧ Wr g w wr) (fun i _ => 4 - (intOf i).toNat)
  case atStart => exact ⟨0, by omega, rfl, hr, Wr.refl _ _⟩
  case round =>
    obtain ⟨k, hk, rfl, hrow, hwr⟩ := hrel
    by_cases hlt : k < 4
    · have hlen := putK_len zs (o + p) v k
      have hc := hrow.cell (o + p + k) (by omega)
      have hf := hrow.frozen (o + p + k)
      have hc' : wr.cell? ⟨g, o + (p + k), none⟩ = some (.int .u8 ((putK zs (o + p) v k).getD (o + p + k) 0)) := by rw [← Nat.add_assoc]; exact hc
      have hf' : wr.frozen? ⟨g, o + (p + k), none⟩ = false := by rw [← Nat.add_assoc]; exact hf
      have HN : Hid (∀ x, Row (wr.setCell ⟨g, o + (p + k), none⟩ (.int .u8 x)) g t ((putK zs (o + p) v k).set (o + p + k) x) ∧ Wr g w (wr.setCell ⟨g, o + (p + k), none⟩ (.int .u8 x))) := fun x => by rw [← Nat.add_assoc]; exact ⟨hrow.set _ _, hwr.setCell _ _⟩
      clear hc hf
      go_wp2
      go_region
      go_wp2
      go_roundw
      case rel => exact ⟨k + 1, by omega, by go_num, (HN.out _).1.drew, (HN.out _).2.drew⟩
      case measure => simp [intOf]; omega
    · have hk4 : k = 4 := by omega
      subst hk4
      go_wp2
      go_end0
      exact ⟨rfl, hrow, hwr⟩
set_option maxRecDepth 100000 in
set_option maxHeartbeats 2000000 in
theorem snst_any (h : Nat) (aD aU : Option Addr) (nD cD nU cU : Nat) (w : World) (hh : h < w.heap.size) (c2 : w.cell? ⟨h, 2, none⟩ = some (.slice aD nD cD)) (c3 : w.cell? ⟨h, 3, none⟩ = some (.slice aU nU cU)) :
    Calls Try.prog 51 #[.pointer (some ⟨h, 0, none⟩)] w fun e w' => e = .returned (.agg #[.slice aD nD cD, .slice aU nU cU, .int .i64 nU, .slice none 0 0]) ∧ Below w.heap.size w w' := by
  have HH : Hid (h < w.heap.size ∧ w.cell? ⟨h, 2, none⟩ = some (.slice aD nD cD) ∧ w.cell? ⟨h, 3, none⟩ = some (.slice aU nU cU)) := ⟨hh, c2, c3⟩
  have HSZ : Hid ((Try.prog.info? 74).map (·.size) = some 4) := by show _ = _; kernel_rfl
  have HW0 : Hid (Below w.heap.size w (w.alloc (.cells #[.slice none 0 0, .slice none 0 0, .int .i64 0, .slice none 0 0] 74)).drew) := by
    have h1 : Below w.heap.size w (w.alloc (.cells #[.slice none 0 0, .slice none 0 0, .int .i64 0, .slice none 0 0] 74)) := (Below.refl _ _).alloc (Nat.le_refl _) _
    exact ⟨h1.os, h1.tape, h1.output, h1.size, h1.block⟩
  have HR0 : Hid ((w.alloc (.cells #[.slice none 0 0, .slice none 0 0, .int .i64 0, .slice none 0 0] 74)).drew.heap[w.heap.size]? = some (.cells #[.slice none 0 0, .slice none 0 0, .int .i64 0, .slice none 0 0] 74 (0, 0))) := heap_alloc_new w _
  clear hh c2 c3
  go_enter Try.func51, Try.ntmps51
  go_wp2_with fail
  refine wp_region_any (by kernel_rfl) ?_
  refine wpAny_slotsU (fun i a b => if i = 14 then Wr (w.heap.size) a b else Below a.heap.size a b) (frame := (fun (c0 c1 c2 : Value) => fun (t : Nat → Value) => ({ tmps := List.toArray (c0 :: c1 :: c2 :: t 0 :: t 1 :: t 2 :: t 3 :: t 4 :: t 5 :: t 6 :: t 7 :: t 8 :: t 9 :: t 10 :: t 11 :: t 12 :: t 13 :: []), defers := [] } : Act)) _ _ _)
    (Ext := fun L u w' => ApS w (w.heap.size) 14 74 #[.slice none 0 0, .slice none 0 0, .int .i64 0, .slice none 0 0] (fun _ cs => cs = #[.slice aD nD cD, .slice aU nU cU, .int .i64 nU, .slice none 0 0]) [] L u w') (Good := fun i L w' v => if i = 0 then v = .pointer (some ⟨h, 0, none⟩) else if i = 1 then v = .pointer (some ⟨h, 0, none⟩) else if i = 2 then v = .pointer (some ⟨h, 2, none⟩) else if i = 3 then v = .slice aD nD cD else if i = 4 then v = .pointer (some ⟨h, 0, none⟩) else if i = 5 then v = .pointer (some ⟨h, 0, none⟩) else if i = 6 then v = .pointer (some ⟨h, 3, none⟩) else if i = 7 then v = .slice aU nU cU else if i = 8 then v = .pointer (some ⟨h, 0, none⟩) else if i = 9 then v = .pointer (some ⟨h, 0, none⟩) else if i = 10 then v = .pointer (some ⟨h, 3, none⟩) else if i = 11 then v = .slice aU nU cU else if i = 12 then v = .int .i64 nU else if i = 13 then v = .agg #[.slice aD nD cD, .slice aU nU cU, .int .i64 nU, .slice none 0 0] else if i = 14 then L 14 = true else True) ?hstab (by kernel_rfl) ?hop ?hdone _ _ ((fun (x0 x1 x2 x3 x4 x5 x6 x7 x8 x9 x10 x11 x12 x13 : Value) => fun (i : Nat) => if i = 0 then x0 else if i = 1 then x1 else if i = 2 then x2 else if i = 3 then x3 else if i = 4 then x4 else if i = 5 then x5 else if i = 6 then x6 else if i = 7 then x7 else if i = 8 then x8 else if i = 9 then x9 else if i = 10 then x10 else if i = 11 then x11 else if i = 12 then x12 else if i = 13 then x13 else undef) _ _ _ _ _ _ _ _ _ _ _ _ _ _) _ (by simp) ?ext ?start (by simp)
  case start => intro i hi h; exact absurd h (by rw [Array.getD_eq_getD_getElem?, Array.getElem?_replicate]; split <;> simp)
  case ext => exact ApS.start ⟨HW0.out, fun p _ hp => absurd hp (by rw [Array.getD_eq_getD_getElem?, Array.getElem?_replicate]; split <;> simp), fun p _ q _ _ hp => absurd hp (by rw [Array.getD_eq_getD_getElem?, Array.getElem?_replicate]; split <;> simp)⟩ (fun i => by rw [Array.getD_eq_getD_getElem?, Array.getElem?_replicate]; split <;> rfl) HR0.out
  case hstab =>
    intro j L w9 w' i v hM hij hLi h
    by_cases hl : j = 14
    · subst hl
      simp at h ⊢
      unfold updK; simp [h]
    simp only [if_neg hl] at h ⊢
    exact h
  case hop =>
    intro i o L t w' ho hLi hx hdep K hK
    have hi : i < 15 := (Array.getElem?_eq_some_iff.1 ho).1
    obtain rfl | rfl | rfl | rfl | rfl | rfl | rfl | rfl | rfl | rfl | rfl | rfl | rfl | rfl | rfl : i = 0 ∨ i = 1 ∨ i = 2 ∨ i = 3 ∨ i = 4 ∨ i = 5 ∨ i = 6 ∨ i = 7 ∨ i = 8 ∨ i = 9 ∨ i = 10 ∨ i = 11 ∨ i = 12 ∨ i = 13 ∨ i = 14 := by omega
    all_goals (simp at ho; subst ho)
    · clear hdep
      have hK' := hK w' (.pointer (some ⟨h, 0, none⟩)) (by simp) (hx.step (fun _ _ _ _ h => h) 0 (by decide) _ (Below.refl _ _) (fun h => absurd h (by decide))) (by rw [if_neg (by decide)]; exact (Below.refl _ _))
      clear hK
      rw [if_pos (by rfl)]
      go_simp
      simpa [upd] using hK'
    · have d0 : t 0 = .pointer (some ⟨h, 0, none⟩) := by simpa using (hdep ⟨0, .data⟩ (by simp) rfl).2
      clear hdep
      have hK' := hK w' (.pointer (some ⟨h, 0, none⟩)) (by simp) (hx.step (fun _ _ _ _ h => h) 1 (by decide) _ (Below.refl _ _) (fun h => absurd h (by decide))) (by rw [if_neg (by decide)]; exact (Below.refl _ _))
      clear hK
      rw [if_pos (by rfl)]
      go_simp
      simpa [upd, d0] using hK'
    · have d1 : t 1 = .pointer (some ⟨h, 0, none⟩) := by simpa using (hdep ⟨1, .data⟩ (by simp) rfl).2
      clear hdep
      have hK' := hK w' (.pointer (some ⟨h, 2, none⟩)) (by simp) (hx.step (fun _ _ _ _ h => h) 2 (by decide) _ (Below.refl _ _) (fun h => absurd h (by decide))) (by rw [if_neg (by decide)]; exact (Below.refl _ _))
      clear hK
      rw [if_pos (by rfl)]
      go_simp
      simpa [upd, d1] using hK'
    · have d2 : t 2 = .pointer (some ⟨h, 2, none⟩) := by simpa using (hdep ⟨2, .data⟩ (by simp) rfl).2
      clear hdep
      have cc : w'.cell? ⟨h, 2, none⟩ = some (.slice aD nD cD) := by rw [World.cell?_of_block (a := ⟨h, 2, none⟩) (w := w) (hx.ax.below.block _ HH.out.1)]; exact HH.out.2.1
      have hK' := hK w' (.slice aD nD cD) (by simp) (hx.step (fun _ _ _ _ h => h) 3 (by decide) _ (Below.refl _ _) (fun h => absurd h (by decide))) (by rw [if_neg (by decide)]; exact (Below.refl _ _))
      clear hK
      rw [if_pos (by rfl)]
      go_simp
      simpa [upd, d2] using hK'
    · clear hdep
      have hK' := hK w' (.pointer (some ⟨h, 0, none⟩)) (by simp) (hx.step (fun _ _ _ _ h => h) 4 (by decide) _ (Below.refl _ _) (fun h => absurd h (by decide))) (by rw [if_neg (by decide)]; exact (Below.refl _ _))
      clear hK
      rw [if_pos (by rfl)]
      go_simp
      simpa [upd] using hK'
    · have d4 : t 4 = .pointer (some ⟨h, 0, none⟩) := by simpa using (hdep ⟨4, .data⟩ (by simp) rfl).2
      clear hdep
      have hK' := hK w' (.pointer (some ⟨h, 0, none⟩)) (by simp) (hx.step (fun _ _ _ _ h => h) 5 (by decide) _ (Below.refl _ _) (fun h => absurd h (by decide))) (by rw [if_neg (by decide)]; exact (Below.refl _ _))
      clear hK
      rw [if_pos (by rfl)]
      go_simp
      simpa [upd, d4] using hK'
    · have d5 : t 5 = .pointer (some ⟨h, 0, none⟩) := by simpa using (hdep ⟨5, .data⟩ (by simp) rfl).2
      clear hdep
      have hK' := hK w' (.pointer (some ⟨h, 3, none⟩)) (by simp) (hx.step (fun _ _ _ _ h => h) 6 (by decide) _ (Below.refl _ _) (fun h => absurd h (by decide))) (by rw [if_neg (by decide)]; exact (Below.refl _ _))
      clear hK
      rw [if_pos (by rfl)]
      go_simp
      simpa [upd, d5] using hK'
    · have d6 : t 6 = .pointer (some ⟨h, 3, none⟩) := by simpa using (hdep ⟨6, .data⟩ (by simp) rfl).2
      clear hdep
      have cc : w'.cell? ⟨h, 3, none⟩ = some (.slice aU nU cU) := by rw [World.cell?_of_block (a := ⟨h, 3, none⟩) (w := w) (hx.ax.below.block _ HH.out.1)]; exact HH.out.2.2
      have hK' := hK w' (.slice aU nU cU) (by simp) (hx.step (fun _ _ _ _ h => h) 7 (by decide) _ (Below.refl _ _) (fun h => absurd h (by decide))) (by rw [if_neg (by decide)]; exact (Below.refl _ _))
      clear hK
      rw [if_pos (by rfl)]
      go_simp
      simpa [upd, d6] using hK'
    · clear hdep
      have hK' := hK w' (.pointer (some ⟨h, 0, none⟩)) (by simp) (hx.step (fun _ _ _ _ h => h) 8 (by decide) _ (Below.refl _ _) (fun h => absurd h (by decide))) (by rw [if_neg (by decide)]; exact (Below.refl _ _))
      clear hK
      rw [if_pos (by rfl)]
      go_simp
      simpa [upd] using hK'
    · have d8 : t 8 = .pointer (some ⟨h, 0, none⟩) := by simpa using (hdep ⟨8, .data⟩ (by simp) rfl).2
      clear hdep
      have hK' := hK w' (.pointer (some ⟨h, 0, none⟩)) (by simp) (hx.step (fun _ _ _ _ h => h) 9 (by decide) _ (Below.refl _ _) (fun h => absurd h (by decide))) (by rw [if_neg (by decide)]; exact (Below.refl _ _))
      clear hK
      rw [if_pos (by rfl)]
      go_simp
      simpa [upd, d8] using hK'
    · have d9 : t 9 = .pointer (some ⟨h, 0, none⟩) := by simpa using (hdep ⟨9, .data⟩ (by simp) rfl).2
      clear hdep
      have hK' := hK w' (.pointer (some ⟨h, 3, none⟩)) (by simp) (hx.step (fun _ _ _ _ h => h) 10 (by decide) _ (Below.refl _ _) (fun h => absurd h (by decide))) (by rw [if_neg (by decide)]; exact (Below.refl _ _))
      clear hK
      rw [if_pos (by rfl)]
      go_simp
      simpa [upd, d9] using hK'
    · have d10 : t 10 = .pointer (some ⟨h, 3, none⟩) := by simpa using (hdep ⟨10, .data⟩ (by simp) rfl).2
      clear hdep
      have cc : w'.cell? ⟨h, 3, none⟩ = some (.slice aU nU cU) := by rw [World.cell?_of_block (a := ⟨h, 3, none⟩) (w := w) (hx.ax.below.block _ HH.out.1)]; exact HH.out.2.2
      have hK' := hK w' (.slice aU nU cU) (by simp) (hx.step (fun _ _ _ _ h => h) 11 (by decide) _ (Below.refl _ _) (fun h => absurd h (by decide))) (by rw [if_neg (by decide)]; exact (Below.refl _ _))
      clear hK
      rw [if_pos (by rfl)]
      go_simp
      simpa [upd, d10] using hK'
    · have d11 : t 11 = .slice aU nU cU := by simpa using (hdep ⟨11, .data⟩ (by simp) rfl).2
      clear hdep
      have hK' := hK w' (.int .i64 nU) (by simp) (hx.step (fun _ _ _ _ h => h) 12 (by decide) _ (Below.refl _ _) (fun h => absurd h (by decide))) (by rw [if_neg (by decide)]; exact (Below.refl _ _))
      clear hK
      rw [if_pos (by rfl)]
      go_simp
      simpa [upd, d11] using hK'
    · have d3 : t 3 = .slice aD nD cD := by simpa using (hdep ⟨3, .data⟩ (by simp) rfl).2
      have d7 : t 7 = .slice aU nU cU := by simpa using (hdep ⟨7, .data⟩ (by simp) rfl).2
      have d12 : t 12 = .int .i64 nU := by simpa using (hdep ⟨12, .data⟩ (by simp) rfl).2
      clear hdep
      have hK' := hK w' (.agg #[.slice aD nD cD, .slice aU nU cU, .int .i64 nU, .slice none 0 0]) (by simp) (hx.step (fun _ _ _ _ h => h) 13 (by decide) _ (Below.refl _ _) (fun h => absurd h (by decide))) (by rw [if_neg (by decide)]; exact (Below.refl _ _))
      clear hK
      rw [if_pos (by rfl)]
      go_simp
      simpa [upd, d3, d7, d12] using hK'
    · have d13 : t 13 = .agg #[.slice aD nD cD, .slice aU nU cU, .int .i64 nU, .slice none 0 0] := by simpa using (hdep ⟨13, .data⟩ (by simp) rfl).2
      clear hdep
      have hrs := hx.pre hLi
      have hK' : ∀ ww, Wr w.heap.size w' ww → ww.heap[w.heap.size]? = some (.cells #[.slice aD nD cD, .slice aU nU cU, .int .i64 nU, .slice none 0 0] 74 (0, 0)) → K _ ww := fun ww hw hr => hK ww undef (by simp [updK]) (hx.put (Nat.le_refl _) (by decide) _ hw hr rfl) (by rw [if_pos rfl]; exact hw)
      clear hK
      rw [if_pos (by rfl)]
      refine wp_store_row 74 (.tmp 2) (.tmp 16) rfl w.heap.size _ rfl d13 74 _ hrs HSZ.out rfl (by simp [Value.oneCell']) ?_
      have hK2 := hK' _ (Wr.setRow _ _ _) (setRow_heap _ _ _ _ _ _ hrs)
      clear hK'
      simpa [upd, Act.put] using hK2
  case hdone =>
    intro L t w' hx hg
    have l14 : L 14 = true := by simpa using hg 14 (by decide)
    clear hg
    obtain ⟨cs, hr, rfl⟩ := hx.fin l14
    have HR9 : Hid (w'.heap[w.heap.size]? = some (.cells #[.slice aD nD cD, .slice aU nU cU, .int .i64 nU, .slice none 0 0] 74 (0, 0))) := hr
    have HF : Hid (Below w.heap.size w w') := hx.ax.below
    clear hx hr
    go_wp2_with fail
    exact bodyPost_ret (v := .agg #[.slice aD nD cD, .slice aU nU cU, .int .i64 nU, .slice none 0 0]) (results_cell_row rfl _ _ w.heap.size 74 _ (0, 0) _ rfl HR9.out Try.underlying74 rfl HSZ.out) rfl ⟨rfl, HF.out⟩
/-- Whether a snap is valid. -/
def SnP (gn tl : Int) (D U : List Int) : Prop := gn ≤ 4000000000 ∧ 1 ≤ tl ∧ tl ≤ 4000000000 ∧ SerP D ∧ D.length ≤ 16 ∧ SerP U
open Classical in
noncomputable def snB (gn tl : Int) (D U : List Int) : Bool := decide (SnP gn tl D U)
theorem snB_no {gn tl : Int} {D U : List Int} (h : ¬ SnP gn tl D U) : snB gn tl D U = false := by unfold snB; simp [h]
theorem snB_yes {gn tl : Int} {D U : List Int} (h : SnP gn tl D U) : snB gn tl D U = true := by unfold snB; simp [h]
theorem stB_sn {gn tl : Int} {D U : List Int} {nU : Nat} (hU : U.length = nU) (h1 : gn ≤ 4000000000) (h2 : 1 ≤ tl) (h3 : tl ≤ 4000000000) : stB D U nU [] 0 = snB gn tl D U := by
  by_cases h : StP D U nU [] 0
  · rw [stB_yes h, snB_yes ⟨h1, h2, h3, h.1, h.2.1, h.2.2.1⟩]
  · rw [stB_no h, snB_no (fun q => h ⟨q.2.2.2.1, q.2.2.2.2.1, q.2.2.2.2.2, by omega, by rw [hU]; omega, fun i hi => by omega⟩)]
set_option maxRecDepth 100000 in
set_option maxHeartbeats 2000000 in
theorem snv_any (h : Nat) (gn tl : Int) (aD aU : Option Addr) (nD cD nU cU : Nat) (D U : List Int) (w : World) (hh : h < w.heap.size) (c0 : w.cell? ⟨h, 0, none⟩ = some (.int .u32 gn)) (c1 : w.cell? ⟨h, 1, none⟩ = some (.int .u32 tl)) (c2 : w.cell? ⟨h, 2, none⟩ = some (.slice aD nD cD)) (c3 : w.cell? ⟨h, 3, none⟩ = some (.slice aU nU cU))
    (hD : D.length = nD) (hU : U.length = nU) (mD : nD ≤ 1048576) (mU : nU ≤ 1048576) (haD : At .i64 w aD D) (haU : At .i64 w aU U) :
    Calls Try.prog 36 #[.pointer (some ⟨h, 0, none⟩)] w fun e w' => e = .returned (.bool (snB gn tl D U)) ∧ Below w.heap.size w w' := by
  by_cases h1 : gn ≤ 4000000000
  · by_cases h2 : 1 ≤ tl
    · by_cases h3 : tl ≤ 4000000000
      · have HE : Hid (stB D U nU [] 0 = snB gn tl D U) := stB_sn hU h1 h2 h3
        have HC1 := snst_any h aD aU nD cD nU cU w hh c2 c3
        have HC2 : Hid (∀ w', Below w.heap.size w w' → Calls Try.prog 50 #[.agg #[.slice aD nD cD, .slice aU nU cU, .int .i64 nU, .slice none 0 0]] w' fun e w'' => e = .returned (.bool (stB D U nU [] 0)) ∧ Below w'.heap.size w' w'') := fun w' b => ivs_any aD aU none nD cD nU cU 0 0 D U nU [] w' hD hU rfl mD mU (by omega) (haD.below b) (haU.below b) (.inl rfl) (fun _ => ⟨rfl, rfl⟩) (by omega) (by omega)
        have h2' : tl ≥ 1 := h2
        clear haD haU hD hU
        go_enter Try.func36, Try.ntmps36
        go_wp2_with fail
        refine HC1.mono ?_
        rintro e w1 ⟨rfl, hb1⟩
        have HC := HC2.out w1 hb1
        have HB1 : Hid (Below w.heap.size w w1) := hb1
        clear HC1 HC2 hb1
        go_wp2_with fail
        refine HC.mono ?_
        rintro e w2 ⟨rfl, hb2⟩
        have HF : Hid (Below w.heap.size w w2) := HB1.out.trans (hb2.mono HB1.out.size)
        rw [HE.out]
        clear HC HB1 hb2
        generalize hq : snB gn tl D U = q at *
        have HQ : Hid (snB gn tl D U = q) := hq
        clear hq
        go_wp2
        go_ret
        exact ⟨by rw [HQ.out]; rfl, HF.out⟩
      · have HE : Hid (snB gn tl D U = false) := snB_no (fun q => h3 q.2.2.1)
        have h2' : tl ≥ 1 := h2
        clear haD haU hD hU
        go_enter Try.func36, Try.ntmps36
        go_wp2
        go_ret
        exact ⟨by rw [HE.out]; rfl, Below.refl _ _⟩
    · have HE : Hid (snB gn tl D U = false) := snB_no (fun q => h2 q.2.1)
      have h2' : ¬ (tl ≥ 1) := h2
      clear haD haU hD hU
      go_enter Try.func36, Try.ntmps36
      go_wp2
      go_ret
      exact ⟨by rw [HE.out]; rfl, Below.refl _ _⟩
  · have HE : Hid (snB gn tl D U = false) := snB_no (fun q => h1 q.1)
    clear haD haU hD hU
    go_enter Try.func36, Try.ntmps36
    go_wp2
    go_ret
    exact ⟨by rw [HE.out]; rfl, Below.refl _ _⟩
end Go.Proofs.Ytmnoelfabldpfaa
