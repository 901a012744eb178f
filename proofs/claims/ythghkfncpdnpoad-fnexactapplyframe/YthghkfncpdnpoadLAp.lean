/-
  Own work: the law on ApplyFrame (written by wip/mklap.py).
-/
import Derived.Test.YthghkfncpdnpoadApM
import Derived.Test.YthghkfncpdnpoadArSt
import Derived.Deep.Cut
namespace Go.Proofs.Ythghkfncpdnpoad.fnExactApplyFrame
open Go.ChangeShapes Go.WideShapes Go.ChangeAt Go.RowKit
set_option linter.unusedVariables false

set_option maxRecDepth 100000 in
set_option maxHeartbeats 16000000 in
theorem walk (aD aU aT : Option Addr) (nD cD nU cU nT cT : Nat) (D U : List Int) (k : Int) (T : List Int) (seq kind : Int) (a b : Nat) (w : World) (hD : D.length = nD) (hU : U.length = nU) (hT : T.length = nT * 2) (mD : nD ≤ 9223372036854775807) (mU : nU ≤ 9223372036854775807) (mT : nT ≤ 9223372036854775807)
    (haD : At .i64 w aD D) (haU : At .i64 w aU U) (haT : At .i64 w aT T) (hk : I64 k) (ha : a < 4294967296) (hb : b < 4294967296) :
    Calls Try.prog 4 #[.agg #[.slice aD nD cD, .slice aU nU cU, .int .i64 k, .slice aT nT cT], .agg #[.int .u32 seq, .int .i64 kind, .int .u32 (a : Int), .int .u32 (b : Int)]] w fun e w' => e = .returned (.bool true) ∧ Below w.heap.size w w' := by
  have HZ : Hid (∀ left n, szQ left n = if left < n then -1 else left - n) := fun _ _ => rfl
  have HS0 : Hid (LX w #[.slice aD nD cD, .slice aU nU cU, .int .i64 k, .slice aT nT cT] #[.int .u32 seq, .int .i64 kind, .int .u32 (a : Int), .int .u32 (b : Int)] ((w.alloc (.cells #[.slice aD nD cD, .slice aU nU cU, .int .i64 k, .slice aT nT cT] 29)).alloc (.cells #[.int .u32 seq, .int .i64 kind, .int .u32 (a : Int), .int .u32 (b : Int)] 45))) := LX.start _ _ _
  have HA : Hid (At .i64 w aD D ∧ At .i64 w aU U ∧ At .i64 w aT T) := ⟨haD, haU, haT⟩
  have HL : Hid (D.length = nD ∧ U.length = nU ∧ T.length = nT * 2) := ⟨hD, hU, hT⟩
  have HK : Hid (I64 k) := hk
  have HAB : Hid (a < 4294967296 ∧ b < 4294967296) := ⟨ha, hb⟩
  have HRZ : Hid ((Try.prog.info? 48).map (·.size) = some 5) := by show _ = _; kernel_rfl
  have HSS : Hid ((Try.prog.info? 38).map (·.size) = some 4) := by show _ = _; kernel_rfl
  have HSL : Hid ((Try.prog.info? 29).map (·.size) = some 4) := by show _ = _; kernel_rfl
  have HSF : Hid ((Try.prog.info? 45).map (·.size) = some 4) := by show _ = _; kernel_rfl
  clear haD haU haT hD hU hT hk ha hb
  go_enter Try.func4, Try.ntmps4
  go_wp2_with fail
  generalize ((w.alloc (.cells #[.slice aD nD cD, .slice aU nU cU, .int .i64 k, .slice aT nT cT] 29)).alloc (.cells #[.int .u32 seq, .int .i64 kind, .int .u32 (a : Int), .int .u32 (b : Int)] 45)) = w0 at *
  refine (szSt_any aD aU aT nD cD nU cU nT cT k 1048576 _ (by decide) (by decide) mD mU mT).mono ?_
  rintro e w1 ⟨rfl, hb1⟩
  have HS1 : Hid (LX w #[.slice aD nD cD, .slice aU nU cU, .int .i64 k, .slice aT nT cT] #[.int .u32 seq, .int .i64 kind, .int .u32 (a : Int), .int .u32 (b : Int)] w1) := HS0.out.call hb1 (by have := HS0.out.lt; omega)
  clear HS0 hb1
  by_cases hbig : (1048576 : Int) < ((nD + nU + nT : Nat) : Int)
  · have hr : szQ 1048576 (nD + nU + nT) = -1 := by rw [HZ.out, if_pos hbig]
    rw [hr]
    have HB1 : Hid (Below w.heap.size w w1) := HS1.out.below
    clear HS1 hr hbig
    go_wp2
    go_ret
    exact ⟨rfl, HB1.out⟩
  have hr : szQ 1048576 (nD + nU + nT) = 1048576 - ((nD + nU + nT : Nat) : Int) := by rw [HZ.out, if_neg hbig]
  have bD : nD ≤ 1048576 := by omega
  have bU : nU ≤ 1048576 := by omega
  have bT : nT ≤ 1048576 := by omega
  have hneg : ¬ (szQ 1048576 (nD + nU + nT) < 0) := by rw [hr]; omega
  generalize szQ 1048576 (nD + nU + nT) = left at *
  clear hr hbig mD mU mT HZ
  go_wp2_with fail
  refine wp_region_any (by kernel_rfl) ?_
  refine wpAny_slotsF 6 (fun _ a b => Below a.heap.size a b) (frame := (fun (c0 c1 c2 c3 c4 c5 c7 c8 c9 c10 c11 c12 c13 c14 c15 c16 c17 c23 c24 c25 c26 c27 c28 c29 c30 c31 c32 c33 c34 c35 c36 c37 c38 c39 c40 c41 c42 c43 c44 c45 c46 c47 c48 c49 c50 c51 c52 c53 c54 c55 c56 c57 c58 c59 c60 c61 c62 c63 c64 c65 c66 c67 c68 : Value) => fun (t : Nat → Value) => ({ tmps := List.toArray (c0 :: c1 :: c2 :: c3 :: c4 :: c5 :: t 5 :: c7 :: c8 :: c9 :: c10 :: c11 :: c12 :: c13 :: c14 :: c15 :: c16 :: c17 :: t 0 :: t 1 :: t 2 :: t 3 :: t 4 :: c23 :: c24 :: c25 :: c26 :: c27 :: c28 :: c29 :: c30 :: c31 :: c32 :: c33 :: c34 :: c35 :: c36 :: c37 :: c38 :: c39 :: c40 :: c41 :: c42 :: c43 :: c44 :: c45 :: c46 :: c47 :: c48 :: c49 :: c50 :: c51 :: c52 :: c53 :: c54 :: c55 :: c56 :: c57 :: c58 :: c59 :: c60 :: c61 :: c62 :: c63 :: c64 :: c65 :: c66 :: c67 :: c68 :: []), defers := [] } : Act)) _ _ _ _ _ _ _ _ _ _ _ _ _ _ _ _ _ _ _ _ _ _ _ _ _ _ _ _ _ _ _ _ _ _ _ _ _ _ _ _ _ _ _ _ _ _ _ _ _ _ _ _ _ _ _ _ _ _ _ _ _ _ _)
    (Ext := fun L u w' => ApH w1 [4, 5] L u w') (Good := fun i L w' v => if i = 0 then v = .agg #[.slice aD nD cD, .slice aU nU cU, .int .i64 k, .slice aT nT cT] else if i = 1 then TStV D U T nD nU nT k w' v else if i = 2 then v = .agg #[.int .u32 seq, .int .i64 kind, .int .u32 (a : Int), .int .u32 (b : Int)] else if i = 3 then v = .agg #[.int .u32 seq, .int .i64 kind, .int .u32 (a : Int), .int .u32 (b : Int)] else if i = 4 then WPV w1.heap.size w' v (apF D U k T nT kind a b) else if i = 5 then NwZ w1.heap.size w' v else True) (Fin := FinB WPV 5 w1 (apF D U k T nT kind a b)) rfl (by kernel_rfl) ?hstab (by kernel_rfl) ?hop ?hend ?hdone _ _ ((fun (x0 x1 x2 x3 x4 x5 : Value) => fun (i : Nat) => if i = 0 then x0 else if i = 1 then x1 else if i = 2 then x2 else if i = 3 then x3 else if i = 4 then x4 else if i = 5 then x5 else undef) _ _ _ _ _ _) _ (by simp) ?none ?ext (by simp)
  case none => intro i; rw [Array.getD_eq_getD_getElem?, Array.getElem?_replicate]; split <;> rfl
  case ext => exact ApH.start w1 [4, 5] _ _ (fun i => by rw [Array.getD_eq_getD_getElem?, Array.getElem?_replicate]; split <;> rfl) ⟨rfl, rfl, rfl, Nat.le_refl _, fun _ _ => rfl⟩
  case hstab =>
    intro j L w9 w' i v _ hM _ _ h
    by_cases h1 : j = 1
    · subst h1
      simp at h ⊢
      exact h.below hM
    by_cases h4 : j = 4
    · subst h4
      simp at h ⊢
      exact h.below hM
    by_cases h5 : j = 5
    · subst h5
      simp at h ⊢
      exact h.below hM
    simp only [if_neg h1, if_neg h4, if_neg h5] at h ⊢
    exact h
  case hop =>
    intro i o L t w' hi ho hLi hx hdep K hK
    obtain rfl | rfl | rfl | rfl | rfl | rfl : i = 0 ∨ i = 1 ∨ i = 2 ∨ i = 3 ∨ i = 4 ∨ i = 5 := by omega
    all_goals (simp at ho; subst ho)
    · clear hdep
      have hr : w'.heap[w.heap.size]? = some (.cells #[.slice aD nD cD, .slice aU nU cU, .int .i64 k, .slice aT nT cT] 29 (0, 0)) := by rw [hx.below.block _ (Nat.lt_trans (Nat.lt_succ_self _) HS1.out.lt)]; exact HS1.out.b0
      have hK' := hK w' (.agg #[.slice aD nD cD, .slice aU nU cU, .int .i64 k, .slice aT nT cT]) (by simp) (hx.step 0 _ (Below.refl _ _) (fun h => absurd h (by decide))) (Below.refl _ _)
      clear hK
      rw [if_pos (by rfl)]
      refine wp_load_row 29 (.tmp 2) rfl (w.heap.size) rfl 29 _ (0, 0) _ hr Try.underlying29 rfl HSL.out ?_
      go_simp
      simpa [upd] using hK'
    · have d0 : t 0 = .agg #[.slice aD nD cD, .slice aU nU cU, .int .i64 k, .slice aT nT cT] := by simpa using (hdep ⟨0, .data⟩ (by simp) rfl).2
      clear hdep
      have bw : Below w.heap.size w w' := HS1.out.below.trans (hx.below.mono HS1.out.below.size)
      have A := toSt_any aD aU aT nD cD nU cU nT cT D U T k w' HL.out.1 HL.out.2.1 HL.out.2.2 bD bU bT (HA.out.1.below bw) (HA.out.2.1.below bw) (HA.out.2.2.below bw)
      have hK' : ∀ ww v, TStV D U T nD nU nT k ww v → Below w'.heap.size w' ww → K _ ww := fun ww v hv hb => hK ww v (by simpa using hv) (hx.step 1 v hb (fun h => absurd h (by decide))) hb
      clear hK
      rw [if_pos (by rfl)]
      go_simp
      try simp only [d0]
      refine A.mono ?_
      rintro e w9 ⟨gD, gU, gT, rfl, _, _, _, r1, r2, r3, hb9⟩
      have hK2 := hK' w9 _ ⟨gD, gU, gT, rfl, r1, r2, r3⟩  hb9
      clear hK' A r1 r2 r3 bw hb9
      go_simp
      simpa [upd, d0] using hK2
    · clear hdep
      have hr : w'.heap[w.heap.size + 1]? = some (.cells #[.int .u32 seq, .int .i64 kind, .int .u32 (a : Int), .int .u32 (b : Int)] 45 (0, 0)) := by rw [hx.below.block _ HS1.out.lt]; exact HS1.out.b1
      have hK' := hK w' (.agg #[.int .u32 seq, .int .i64 kind, .int .u32 (a : Int), .int .u32 (b : Int)]) (by simp) (hx.step 2 _ (Below.refl _ _) (fun h => absurd h (by decide))) (Below.refl _ _)
      clear hK
      rw [if_pos (by rfl)]
      refine wp_load_row 45 (.tmp 3) rfl (w.heap.size + 1) rfl 45 _ (0, 0) _ hr Try.underlying45 rfl HSF.out ?_
      go_simp
      simpa [upd] using hK'
    · have d2 : t 2 = .agg #[.int .u32 seq, .int .i64 kind, .int .u32 (a : Int), .int .u32 (b : Int)] := by simpa using (hdep ⟨2, .data⟩ (by simp) rfl).2
      clear hdep
      have A := toFr_any seq kind a b w'
      have hK' : ∀ ww, Below w'.heap.size w' ww → K _ ww := fun ww hb => hK ww (.agg #[.int .u32 seq, .int .i64 kind, .int .u32 (a : Int), .int .u32 (b : Int)]) (by simp) (hx.step 3 _ hb (fun h => absurd h (by decide))) hb
      clear hK
      rw [if_pos (by rfl)]
      go_simp
      try simp only [d2]
      refine A.mono ?_
      rintro e w9 ⟨rfl, hb9⟩
      have hK2 := hK' w9 hb9
      clear hK' A hb9
      go_simp
      simpa [upd, d2] using hK2
    · have f1 : TStV D U T nD nU nT k w' (t 1) := by simpa using (hdep ⟨1, .data⟩ (by simp) rfl).2
      have d3 : t 3 = .agg #[.int .u32 seq, .int .i64 kind, .int .u32 (a : Int), .int .u32 (b : Int)] := by simpa using (hdep ⟨3, .data⟩ (by simp) rfl).2
      clear hdep
      obtain ⟨gD, gU, gT, d1, r1, r2, r3⟩ := f1
      have hszw : w1.heap.size ≤ w'.heap.size := hx.below.size
      have A := sap_any (some ⟨gD, 0, none⟩) (some ⟨gU, 0, none⟩) (some ⟨gT, 0, none⟩) nD nD nU nU nT nT D U k T seq kind a b w' HL.out.1 HL.out.2.1 HL.out.2.2 bD bU bT r1.i64 r2.i64 r3.i64 (Nat.le_refl _) (by omega) HK.out.1 (by have := HK.out.2; omega) HAB.out.1 HAB.out.2
      have hK' : ∀ ww v, WPV w'.heap.size ww v (apF D U k T nT kind a b) → Below w'.heap.size w' ww → K _ ww := fun ww v hv hb => hK ww v (by simpa using hv.mono hszw) (hx.step 4 v hb (fun _ => hv.fresh)) hb
      clear hK r1 r2 r3
      rw [if_pos (by rfl)]
      go_simp
      try simp only [d1, d3]
      refine A.mono ?_
      rintro e w9 ⟨v9, rfl, hv9, hb9⟩
      have hK2 := hK' w9 v9 hv9 hb9
      clear hK' A hv9 hb9
      go_simp
      simpa [upd, d1, d3] using hK2
    · clear hdep
      have hsz : w1.heap.size ≤ w'.heap.size := hx.below.size
      have bb : Below w'.heap.size w' (w'.alloc (.cells #[.bool false, .slice none 0 0, .slice none 0 0, .int .i64 0, .slice none 0 0] 48)) := (Below.refl _ _).alloc (Nat.le_refl _) _
      have hK' := hK (w'.alloc (.cells #[.bool false, .slice none 0 0, .slice none 0 0, .int .i64 0, .slice none 0 0] 48)) (.pointer (some ⟨w'.heap.size, 0, none⟩)) (by simpa using ⟨w'.heap.size, rfl, hsz, heap_alloc_new w' _⟩) (hx.step 5 _ bb (fun _ => fun j hj => by rw [has_ptr] at hj; subst hj; exact ⟨Nat.le_refl _, by simp⟩)) bb
      clear hK bb
      rw [if_pos (by rfl)]
      go_simp
      simpa [upd] using hK'
  case hend =>
    intro o L t w' ho hx hg K hK
    simp at ho; subst ho
    have l4 : L 4 = true := (hg 4 (by decide)).1
    have f4 : WPV w1.heap.size w' (t 4) (apF D U k T nT kind a b) := by simpa using (hg 4 (by decide)).2
    have l5 : L 5 = true := (hg 5 (by decide)).1
    have f5 : NwZ w1.heap.size w' (t 5) := by simpa using (hg 5 (by decide)).2
    clear hg
    obtain ⟨G, e5, hG, hrow⟩ := f5
    have hap := hx.ap 4 (by decide) 5 (by decide) (by decide) l4 l5
    obtain ⟨cs, e4, h1, h2⟩ := f4.cells
    have hK' : ∀ ww, Wr G w' ww → ww.heap[G]? = some (.cells cs 48 (0, 0)) → K _ ww := fun ww hw hr => hK ww undef ⟨G, cs, by simp [upd]; exact e5, hG, hr, (e4 ▸ f4).wrG hw (fun j hj e => hap j (by rw [e4]; exact hj) (by rw [e5, has_ptr]; exact e)), fun j hj e => hap j (by rw [e4]; exact hj) (by rw [e5, has_ptr]; exact e), hx.below.trans (hw.below hG)⟩
    clear hK
    rw [if_pos (by rfl)]
    refine wp_store_row 48 (.tmp 6) (.tmp 22) rfl G cs e5 e4 48 _ hrow (by rw [h1]; exact HRZ.out) (by rw [h1]; rfl) h2 ?_
    have hK2 := hK' _ (Wr.setRow _ _ _) (setRow_heap _ _ _ _ _ _ hrow)
    clear hK'
    simpa [upd, Act.put] using hK2
  case hdone =>
    intro t w2 hf
    obtain ⟨G0, cs, e5, hG0, hrow, hpv, hne, hbw⟩ := hf
    have hat := hpv
    obtain ⟨paD, pnD, pcD, paU, pnU, pcU, paT, pnT, pcT, eq, _, _, _, n1, n2, n3, l1, l2, l3⟩ := hat
    cases eq
    have HN0 : Hid ((apF D U k T nT kind a b).D.length = pnD ∧ (apF D U k T nT kind a b).U.length = pnU ∧ (apF D U k T nT kind a b).T.length = pnT * 2) := ⟨n1, n2, n3⟩
    have HLE : Hid (pnD ≤ 1048576 ∧ pnU ≤ 1048576 ∧ pnT ≤ 1048576) := by
      have := apF_len (D := D) (U := U) (k := k) (kind := kind) (a := a) (b := b) HL.out.2.2
      exact ⟨by omega, by omega, by omega⟩
    have HS2 : Hid (LX w #[.slice aD nD cD, .slice aU nU cU, .int .i64 k, .slice aT nT cT] #[.int .u32 seq, .int .i64 kind, .int .u32 (a : Int), .int .u32 (b : Int)] w2) := HS1.out.call hbw (by have := HS1.out.lt; omega)
    have HG2 : Hid (w2.heap[G0]? = some (.cells #[.bool (apF D U k T nT kind a b).ok, .slice paD pnD pcD, .slice paU pnU pcU, .int .i64 (apF D U k T nT kind a b).k, .slice paT pnT pcT] 48 (0, 0))) := hrow
    have HW2 : Hid (WPV w1.heap.size w2 (.agg #[.bool (apF D U k T nT kind a b).ok, .slice paD pnD pcD, .slice paU pnU pcU, .int .i64 (apF D U k T nT kind a b).k, .slice paT pnT pcT]) (apF D U k T nT kind a b)) := hpv
    have HGB : Hid (G0 < w2.heap.size ∧ ∀ j, Value.has (.agg #[.bool (apF D U k T nT kind a b).ok, .slice paD pnD pcD, .slice paU pnU pcU, .int .i64 (apF D U k T nT kind a b).k, .slice paT pnT pcT]) j → j < w2.heap.size) := ⟨(Array.getElem?_eq_some_iff.1 hrow).1, fun j hj => by
      rcases has5 hj with ⟨ad, h, rfl⟩ | ⟨ad, h, rfl⟩ | ⟨ad, h, rfl⟩
      · exact (l1 ad h).2
      · exact (l2 ad h).2
      · exact (l3 ad h).2⟩
    simp only [e5]
    clear hpv hrow hne hbw n1 n2 n3 l1 l2 l3 HS1 e5
    have x0 : w2.cell? ⟨w.heap.size, 0, none⟩ = some (.slice aD nD cD) := by rw [cell_of_row w2 _ 0 _ _ _ HS2.out.b0]; rfl
    have x1 : w2.cell? ⟨w.heap.size, 1, none⟩ = some (.slice aU nU cU) := by rw [cell_of_row w2 _ 1 _ _ _ HS2.out.b0]; rfl
    have x2 : w2.cell? ⟨w.heap.size, 2, none⟩ = some (.int .i64 k) := by rw [cell_of_row w2 _ 2 _ _ _ HS2.out.b0]; rfl
    have x3 : w2.cell? ⟨w.heap.size, 3, none⟩ = some (.slice aT nT cT) := by rw [cell_of_row w2 _ 3 _ _ _ HS2.out.b0]; rfl
    go_wp2_with fail
    clear x0 x1 x2 x3
    refine (toSt_any aD aU aT nD cD nU cU nT cT D U T k _ HL.out.1 HL.out.2.1 HL.out.2.2 bD bU bT (HA.out.1.below HS2.out.below) (HA.out.2.1.below HS2.out.below) (HA.out.2.2.below HS2.out.below)).mono ?_
    rintro e w3 ⟨gD, gU, gT, rfl, o1, o2, o3, r1, r2, r3, hb3⟩
    have b5 : Below w3.heap.size w3 (w3.alloc (.cells #[.slice (some ⟨gD, 0, none⟩) nD nD, .slice (some ⟨gU, 0, none⟩) nU nU, .int .i64 k, .slice (some ⟨gT, 0, none⟩) nT nT] 38)) := (Below.refl _ _).alloc (Nat.le_refl _) _
    have HS5 : Hid (LX w #[.slice aD nD cD, .slice aU nU cU, .int .i64 k, .slice aT nT cT] #[.int .u32 seq, .int .i64 kind, .int .u32 (a : Int), .int .u32 (b : Int)] (w3.alloc (.cells #[.slice (some ⟨gD, 0, none⟩) nD nD, .slice (some ⟨gU, 0, none⟩) nU nU, .int .i64 k, .slice (some ⟨gT, 0, none⟩) nT nT] 38))) := (HS2.out.call hb3 (by have := HS2.out.lt; omega)).call b5 (by have := (HS2.out.call hb3 (by have := HS2.out.lt; omega)).lt; omega)
    have HX5 : Hid ((w3.alloc (.cells #[.slice (some ⟨gD, 0, none⟩) nD nD, .slice (some ⟨gU, 0, none⟩) nU nU, .int .i64 k, .slice (some ⟨gT, 0, none⟩) nT nT] 38)).heap[w3.heap.size]? = some (.cells #[.slice (some ⟨gD, 0, none⟩) nD nD, .slice (some ⟨gU, 0, none⟩) nU nU, .int .i64 k, .slice (some ⟨gT, 0, none⟩) nT nT] 38 (0, 0))) := heap_alloc_new w3 _
    have HR5 : Hid (RowV (w3.alloc (.cells #[.slice (some ⟨gD, 0, none⟩) nD nD, .slice (some ⟨gU, 0, none⟩) nU nU, .int .i64 k, .slice (some ⟨gT, 0, none⟩) nT nT] 38)) gD 2 (iC D) ∧ RowV (w3.alloc (.cells #[.slice (some ⟨gD, 0, none⟩) nD nD, .slice (some ⟨gU, 0, none⟩) nU nU, .int .i64 k, .slice (some ⟨gT, 0, none⟩) nT nT] 38)) gU 2 (iC U) ∧ RowV (w3.alloc (.cells #[.slice (some ⟨gD, 0, none⟩) nD nD, .slice (some ⟨gU, 0, none⟩) nU nU, .int .i64 k, .slice (some ⟨gT, 0, none⟩) nT nT] 38)) gT 92 (iC T)) := ⟨r1.below b5, r2.below b5, r3.below b5⟩
    have HG5 : Hid ((w3.alloc (.cells #[.slice (some ⟨gD, 0, none⟩) nD nD, .slice (some ⟨gU, 0, none⟩) nU nU, .int .i64 k, .slice (some ⟨gT, 0, none⟩) nT nT] 38)).heap[G0]? = some (.cells #[.bool (apF D U k T nT kind a b).ok, .slice paD pnD pcD, .slice paU pnU pcU, .int .i64 (apF D U k T nT kind a b).k, .slice paT pnT pcT] 48 (0, 0))) := by show _ = _; rw [b5.block _ (by have := HGB.out.1; have := hb3.size; omega), hb3.block _ HGB.out.1]; exact HG2.out
    have HW5 : Hid (WPV w1.heap.size (w3.alloc (.cells #[.slice (some ⟨gD, 0, none⟩) nD nD, .slice (some ⟨gU, 0, none⟩) nU nU, .int .i64 k, .slice (some ⟨gT, 0, none⟩) nT nT] 38)) (.agg #[.bool (apF D U k T nT kind a b).ok, .slice paD pnD pcD, .slice paU pnU pcU, .int .i64 (apF D U k T nT kind a b).k, .slice paT pnT pcT]) (apF D U k T nT kind a b)) := (HW2.out.below hb3).below b5
    have HOR : Hid (w2.heap.size ≤ gD ∧ gD < gU ∧ gU < gT ∧ gT < (w3.alloc (.cells #[.slice (some ⟨gD, 0, none⟩) nD nD, .slice (some ⟨gU, 0, none⟩) nU nU, .int .i64 k, .slice (some ⟨gT, 0, none⟩) nT nT] 38)).heap.size ∧ w.heap.size + 2 ≤ w2.heap.size) := ⟨o1, o2, o3, by have := r3.lt; have := b5.size; omega, by have := HS2.out.lt; omega⟩
    have hX5 : w3.heap.size < (w3.alloc (.cells #[.slice (some ⟨gD, 0, none⟩) nD nD, .slice (some ⟨gU, 0, none⟩) nU nU, .int .i64 k, .slice (some ⟨gT, 0, none⟩) nT nT] 38)).heap.size := by simp
    clear o1 o2 o3 r1 r2 r3 hb3 b5 HS2 HG2 HW2
    go_wp2_with fail
    generalize (w3.alloc (.cells #[.slice (some ⟨gD, 0, none⟩) nD nD, .slice (some ⟨gU, 0, none⟩) nU nU, .int .i64 k, .slice (some ⟨gT, 0, none⟩) nT nT] 38)) = w5 at *
    generalize w3.heap.size = X at *
    refine wp_region_any (by kernel_rfl) ?_
    refine wpAny_slotsF 5 (fun _ a b => Below a.heap.size a b) (frame := (fun (c0 c1 c2 c3 c4 c5 c6 c7 c9 c10 c11 c12 c13 c14 c15 c16 c17 c18 c19 c20 c21 c22 c23 c24 c29 c30 c31 c32 c33 c34 c35 c36 c37 c38 c39 c40 c41 c42 c43 c44 c45 c46 c47 c48 c49 c50 c51 c52 c53 c54 c55 c56 c57 c58 c59 c60 c61 c62 c63 c64 c65 c66 c67 c68 : Value) => fun (t : Nat → Value) => ({ tmps := List.toArray (c0 :: c1 :: c2 :: c3 :: c4 :: c5 :: c6 :: c7 :: t 4 :: c9 :: c10 :: c11 :: c12 :: c13 :: c14 :: c15 :: c16 :: c17 :: c18 :: c19 :: c20 :: c21 :: c22 :: c23 :: c24 :: t 0 :: t 1 :: t 2 :: t 3 :: c29 :: c30 :: c31 :: c32 :: c33 :: c34 :: c35 :: c36 :: c37 :: c38 :: c39 :: c40 :: c41 :: c42 :: c43 :: c44 :: c45 :: c46 :: c47 :: c48 :: c49 :: c50 :: c51 :: c52 :: c53 :: c54 :: c55 :: c56 :: c57 :: c58 :: c59 :: c60 :: c61 :: c62 :: c63 :: c64 :: c65 :: c66 :: c67 :: c68 :: []), defers := [] } : Act)) _ _ _ _ _ _ _ _ _ _ _ _ _ _ _ _ _ _ _ _ _ _ _ _ _ _ _ _ _ _ _ _ _ _ _ _ _ _ _ _ _ _ _ _ _ _ _ _ _ _ _ _ _ _ _ _ _ _ _ _ _ _ _ _)
      (Ext := fun L u w' => ApH w5 [3, 4] L u w') (Good := fun i L w' v => if i = 0 then v = .agg #[.slice (some ⟨gD, 0, none⟩) nD nD, .slice (some ⟨gU, 0, none⟩) nU nU, .int .i64 k, .slice (some ⟨gT, 0, none⟩) nT nT] else if i = 1 then v = .agg #[.int .u32 seq, .int .i64 kind, .int .u32 (a : Int), .int .u32 (b : Int)] else if i = 2 then v = .agg #[.int .u32 seq, .int .i64 kind, .int .u32 (a : Int), .int .u32 (b : Int)] else if i = 3 then APV w5.heap.size w' v (apF D U k T nT kind a b) else if i = 4 then NwZ w5.heap.size w' v else True) (Fin := FinB APV 4 w5 (apF D U k T nT kind a b)) rfl (by kernel_rfl) ?hstab (by kernel_rfl) ?hop ?hend ?hdone _ _ ((fun (x0 x1 x2 x3 x4 : Value) => fun (i : Nat) => if i = 0 then x0 else if i = 1 then x1 else if i = 2 then x2 else if i = 3 then x3 else if i = 4 then x4 else undef) _ _ _ _ _) _ (by simp) ?none ?ext (by simp)
    case none => intro i; rw [Array.getD_eq_getD_getElem?, Array.getElem?_replicate]; split <;> rfl
    case ext => exact ApH.start w5 [3, 4] _ _ (fun i => by rw [Array.getD_eq_getD_getElem?, Array.getElem?_replicate]; split <;> rfl) ⟨rfl, rfl, rfl, Nat.le_refl _, fun _ _ => rfl⟩
    case hstab =>
      intro j L w9 w' i v _ hM _ _ h
      by_cases h3 : j = 3
      · subst h3
        simp at h ⊢
        exact h.below hM
      by_cases h4 : j = 4
      · subst h4
        simp at h ⊢
        exact h.below hM
      simp only [if_neg h3, if_neg h4] at h ⊢
      exact h
    case hop =>
      intro i o L t w' hi ho hLi hx hdep K hK
      obtain rfl | rfl | rfl | rfl | rfl : i = 0 ∨ i = 1 ∨ i = 2 ∨ i = 3 ∨ i = 4 := by omega
      all_goals (simp at ho; subst ho)
      · clear hdep
        have hr : w'.heap[X]? = some (.cells #[.slice (some ⟨gD, 0, none⟩) nD nD, .slice (some ⟨gU, 0, none⟩) nU nU, .int .i64 k, .slice (some ⟨gT, 0, none⟩) nT nT] 38 (0, 0)) := by rw [hx.below.block _ hX5]; exact HX5.out
        have hK' := hK w' (.agg #[.slice (some ⟨gD, 0, none⟩) nD nD, .slice (some ⟨gU, 0, none⟩) nU nU, .int .i64 k, .slice (some ⟨gT, 0, none⟩) nT nT]) (by simp) (hx.step 0 _ (Below.refl _ _) (fun h => absurd h (by decide))) (Below.refl _ _)
        clear hK
        rw [if_pos (by rfl)]
        refine wp_load_row 38 (.tmp 7) rfl (X) rfl 38 _ (0, 0) _ hr Try.underlying38 rfl HSS.out ?_
        go_simp
        simpa [upd] using hK'
      · clear hdep
        have hr : w'.heap[w.heap.size + 1]? = some (.cells #[.int .u32 seq, .int .i64 kind, .int .u32 (a : Int), .int .u32 (b : Int)] 45 (0, 0)) := by rw [hx.below.block _ HS5.out.lt]; exact HS5.out.b1
        have hK' := hK w' (.agg #[.int .u32 seq, .int .i64 kind, .int .u32 (a : Int), .int .u32 (b : Int)]) (by simp) (hx.step 1 _ (Below.refl _ _) (fun h => absurd h (by decide))) (Below.refl _ _)
        clear hK
        rw [if_pos (by rfl)]
        refine wp_load_row 45 (.tmp 3) rfl (w.heap.size + 1) rfl 45 _ (0, 0) _ hr Try.underlying45 rfl HSF.out ?_
        go_simp
        simpa [upd] using hK'
      · have d1 : t 1 = .agg #[.int .u32 seq, .int .i64 kind, .int .u32 (a : Int), .int .u32 (b : Int)] := by simpa using (hdep ⟨1, .data⟩ (by simp) rfl).2
        clear hdep
        have A := toFr_any seq kind a b w'
        have hK' : ∀ ww, Below w'.heap.size w' ww → K _ ww := fun ww hb => hK ww (.agg #[.int .u32 seq, .int .i64 kind, .int .u32 (a : Int), .int .u32 (b : Int)]) (by simp) (hx.step 2 _ hb (fun h => absurd h (by decide))) hb
        clear hK
        rw [if_pos (by rfl)]
        go_simp
        try simp only [d1]
        refine A.mono ?_
        rintro e w9 ⟨rfl, hb9⟩
        have hK2 := hK' w9 hb9
        clear hK' A hb9
        go_simp
        simpa [upd, d1] using hK2
      · have d0 : t 0 = .agg #[.slice (some ⟨gD, 0, none⟩) nD nD, .slice (some ⟨gU, 0, none⟩) nU nU, .int .i64 k, .slice (some ⟨gT, 0, none⟩) nT nT] := by simpa using (hdep ⟨0, .data⟩ (by simp) rfl).2
        have d2 : t 2 = .agg #[.int .u32 seq, .int .i64 kind, .int .u32 (a : Int), .int .u32 (b : Int)] := by simpa using (hdep ⟨2, .data⟩ (by simp) rfl).2
        clear hdep
        have hszw : w5.heap.size ≤ w'.heap.size := hx.below.size
        have A := iap_any (some ⟨gD, 0, none⟩) (some ⟨gU, 0, none⟩) (some ⟨gT, 0, none⟩) nD nD nU nU nT nT D U k T seq kind a b w' HL.out.1 HL.out.2.1 HL.out.2.2 bD bU bT (HR5.out.1.below hx.below).i64 (HR5.out.2.1.below hx.below).i64 (HR5.out.2.2.below hx.below).i64 (fun h => by cases h) HK.out.1 (by have := HK.out.2; omega) HAB.out.1 HAB.out.2
        have hK' : ∀ ww v, APV w'.heap.size ww v (apF D U k T nT kind a b) → Below w'.heap.size w' ww → K _ ww := fun ww v hv hb => hK ww v (by simpa using hv.mono hszw) (hx.step 3 v hb (fun _ => hv.fresh)) hb
        clear hK
        rw [if_pos (by rfl)]
        go_simp
        try simp only [d0, d2]
        refine A.mono ?_
        rintro e w9 ⟨v9, rfl, hv9, hb9⟩
        have hK2 := hK' w9 v9 hv9 hb9
        clear hK' A hv9 hb9
        go_simp
        simpa [upd, d0, d2] using hK2
      · clear hdep
        have hsz : w5.heap.size ≤ w'.heap.size := hx.below.size
        have bb : Below w'.heap.size w' (w'.alloc (.cells #[.bool false, .slice none 0 0, .slice none 0 0, .int .i64 0, .slice none 0 0] 48)) := (Below.refl _ _).alloc (Nat.le_refl _) _
        have hK' := hK (w'.alloc (.cells #[.bool false, .slice none 0 0, .slice none 0 0, .int .i64 0, .slice none 0 0] 48)) (.pointer (some ⟨w'.heap.size, 0, none⟩)) (by simpa using ⟨w'.heap.size, rfl, hsz, heap_alloc_new w' _⟩) (hx.step 4 _ bb (fun _ => fun j hj => by rw [has_ptr] at hj; subst hj; exact ⟨Nat.le_refl _, by simp⟩)) bb
        clear hK bb
        rw [if_pos (by rfl)]
        go_simp
        simpa [upd] using hK'
    case hend =>
      intro o L t w' ho hx hg K hK
      simp at ho; subst ho
      have l3 : L 3 = true := (hg 3 (by decide)).1
      have f3 : APV w5.heap.size w' (t 3) (apF D U k T nT kind a b) := by simpa using (hg 3 (by decide)).2
      have l4 : L 4 = true := (hg 4 (by decide)).1
      have f4 : NwZ w5.heap.size w' (t 4) := by simpa using (hg 4 (by decide)).2
      clear hg
      obtain ⟨G, e4, hG, hrow⟩ := f4
      have hap := hx.ap 3 (by decide) 4 (by decide) (by decide) l3 l4
      obtain ⟨cs, e3, h1, h2⟩ := f3.cells
      have hK' : ∀ ww, Wr G w' ww → ww.heap[G]? = some (.cells cs 48 (0, 0)) → K _ ww := fun ww hw hr => hK ww undef ⟨G, cs, by simp [upd]; exact e4, hG, hr, (e3 ▸ f3).wrG hw (fun j hj e => hap j (by rw [e3]; exact hj) (by rw [e4, has_ptr]; exact e)), fun j hj e => hap j (by rw [e3]; exact hj) (by rw [e4, has_ptr]; exact e), hx.below.trans (hw.below hG)⟩
      clear hK
      rw [if_pos (by rfl)]
      refine wp_store_row 48 (.tmp 8) (.tmp 28) rfl G cs e4 e3 48 _ hrow (by rw [h1]; exact HRZ.out) (by rw [h1]; rfl) h2 ?_
      have hK2 := hK' _ (Wr.setRow _ _ _) (setRow_heap _ _ _ _ _ _ hrow)
      clear hK'
      simpa [upd, Act.put] using hK2
    case hdone =>
      intro t w6 hf
      obtain ⟨G1, cs, e4, hG1, hrow, hpv, hne, hbw⟩ := hf
      obtain ⟨qaD, pnD', qcD, qaU, pnU', qcU, qaT, pnT', qcT, eq, Q⟩ := hpv
      cases eq
      have e1 : pnD' = pnD := by rw [← Q.nd, HN0.out.1]
      have e2 : pnU' = pnU := by rw [← Q.nu, HN0.out.2.1]
      have e3 : pnT' = pnT := by have := Q.nt; have := HN0.out.2.2; omega
      rw [e1, e2, e3] at hrow hne
      rw [e1, e2, e3] at Q
      clear e1 e2 e3
      have HS6 : Hid (LX w #[.slice aD nD cD, .slice aU nU cU, .int .i64 k, .slice aT nT cT] #[.int .u32 seq, .int .i64 kind, .int .u32 (a : Int), .int .u32 (b : Int)] w6) := HS5.out.call hbw (by have := HS5.out.lt; omega)
      have HG6 : Hid (w6.heap[G0]? = some (.cells #[.bool (apF D U k T nT kind a b).ok, .slice paD pnD pcD, .slice paU pnU pcU, .int .i64 (apF D U k T nT kind a b).k, .slice paT pnT pcT] 48 (0, 0)) ∧ w6.heap[G1]? = some (.cells #[.bool (apF D U k T nT kind a b).ok, .slice qaD pnD qcD, .slice qaU pnU qcU, .int .i64 (apF D U k T nT kind a b).k, .slice qaT pnT qcT] 48 (0, 0))) := ⟨by rw [hbw.block _ (Array.getElem?_eq_some_iff.1 HG5.out).1]; exact HG5.out, hrow⟩
      have HW6 : Hid (WPV w1.heap.size w6 (.agg #[.bool (apF D U k T nT kind a b).ok, .slice paD pnD pcD, .slice paU pnU pcU, .int .i64 (apF D U k T nT kind a b).k, .slice paT pnT pcT]) (apF D U k T nT kind a b)) := HW5.out.below hbw
      have HQ6 : Hid (APV w5.heap.size w6 (.agg #[.bool (apF D U k T nT kind a b).ok, .slice qaD pnD qcD, .slice qaU pnU qcU, .int .i64 (apF D U k T nT kind a b).k, .slice qaT pnT qcT]) (apF D U k T nT kind a b)) := ⟨qaD, _, qcD, qaU, _, qcU, qaT, _, qcT, rfl, Q⟩
      have HX6 : Hid (w6.heap[X]? = some (.cells #[.slice (some ⟨gD, 0, none⟩) nD nD, .slice (some ⟨gU, 0, none⟩) nU nU, .int .i64 k, .slice (some ⟨gT, 0, none⟩) nT nT] 38 (0, 0)) ∧ RowV w6 gD 2 (iC D) ∧ RowV w6 gU 2 (iC U) ∧ RowV w6 gT 92 (iC T)) := ⟨by rw [hbw.block _ hX5]; exact HX5.out, HR5.out.1.below hbw, HR5.out.2.1.below hbw, HR5.out.2.2.below hbw⟩
      have HGG : Hid (G0 < w2.heap.size ∧ w5.heap.size ≤ G1 ∧ ∀ j, Value.has (.agg #[.bool (apF D U k T nT kind a b).ok, .slice paD pnD pcD, .slice paU pnU pcU, .int .i64 (apF D U k T nT kind a b).k, .slice paT pnT pcT]) j → j < w2.heap.size) := ⟨HGB.out.1, hG1, HGB.out.2⟩
      have HG1N : Hid (∀ j, Value.has (.agg #[.bool (apF D U k T nT kind a b).ok, .slice qaD pnD qcD, .slice qaU pnU qcU, .int .i64 (apF D U k T nT kind a b).k, .slice qaT pnT qcT]) j → j ≠ G1) := hne
      have HGG2 : Hid (w.heap.size + 2 ≤ w5.heap.size) := by show _ ≤ _; have := HS5.out.lt; omega
      simp only [e4]
      clear hbw hrow Q hne HS5 HG5 HW5 HX5 HR5 hX5 HGB e4
      have q0 : w6.cell? ⟨G1, 0, none⟩ = some (.bool (apF D U k T nT kind a b).ok) := by rw [cell_of_row w6 _ 0 _ _ _ HG6.out.2]; rfl
      have q1 : w6.cell? ⟨G1, 1, none⟩ = some (.slice qaD pnD qcD) := by rw [cell_of_row w6 _ 1 _ _ _ HG6.out.2]; rfl
      have q2 : w6.cell? ⟨G1, 2, none⟩ = some (.slice qaU pnU qcU) := by rw [cell_of_row w6 _ 2 _ _ _ HG6.out.2]; rfl
      have q3 : w6.cell? ⟨G1, 3, none⟩ = some (.int .i64 (apF D U k T nT kind a b).k) := by rw [cell_of_row w6 _ 3 _ _ _ HG6.out.2]; rfl
      have q4 : w6.cell? ⟨G1, 4, none⟩ = some (.slice qaT pnT qcT) := by rw [cell_of_row w6 _ 4 _ _ _ HG6.out.2]; rfl
      have p0 : w6.cell? ⟨G0, 0, none⟩ = some (.bool (apF D U k T nT kind a b).ok) := by rw [cell_of_row w6 _ 0 _ _ _ HG6.out.1]; rfl
      have p1 : w6.cell? ⟨G0, 1, none⟩ = some (.slice paD pnD pcD) := by rw [cell_of_row w6 _ 1 _ _ _ HG6.out.1]; rfl
      have p2 : w6.cell? ⟨G0, 2, none⟩ = some (.slice paU pnU pcU) := by rw [cell_of_row w6 _ 2 _ _ _ HG6.out.1]; rfl
      have p3 : w6.cell? ⟨G0, 3, none⟩ = some (.int .i64 (apF D U k T nT kind a b).k) := by rw [cell_of_row w6 _ 3 _ _ _ HG6.out.1]; rfl
      have p4 : w6.cell? ⟨G0, 4, none⟩ = some (.slice paT pnT pcT) := by rw [cell_of_row w6 _ 4 _ _ _ HG6.out.1]; rfl
      have A := eqA_any (apF D U k T nT kind a b).ok qaD paD qaU paU qaT paT pnD qcD pcD pnU qcU pcU pnT qcT pcT (apF D U k T nT kind a b).D (apF D U k T nT kind a b).U (apF D U k T nT kind a b).T (apF D U k T nT kind a b).k w6 HN0.out.1 HN0.out.2.1 HN0.out.2.2 HLE.out.1 HLE.out.2.1 HLE.out.2.2 (HQ6.out.wpv.at5).1 (HW6.out.at5).1 (HQ6.out.wpv.at5).2.1 (HW6.out.at5).2.1 (HQ6.out.wpv.at5).2.2 (HW6.out.at5).2.2
      go_wp2_with fail
      clear q0 q1 q2 q3 q4 p0 p1 p2 p3 p4
      refine A.mono ?_
      rintro e w7 ⟨rfl, hb7⟩
      have HS7 : Hid (LX w #[.slice aD nD cD, .slice aU nU cU, .int .i64 k, .slice aT nT cT] #[.int .u32 seq, .int .i64 kind, .int .u32 (a : Int), .int .u32 (b : Int)] w7) := HS6.out.call hb7 (by have := HS6.out.lt; omega)
      have HG7 : Hid (w7.heap[G0]? = some (.cells #[.bool (apF D U k T nT kind a b).ok, .slice paD pnD pcD, .slice paU pnU pcU, .int .i64 (apF D U k T nT kind a b).k, .slice paT pnT pcT] 48 (0, 0)) ∧ w7.heap[G1]? = some (.cells #[.bool (apF D U k T nT kind a b).ok, .slice qaD pnD qcD, .slice qaU pnU qcU, .int .i64 (apF D U k T nT kind a b).k, .slice qaT pnT qcT] 48 (0, 0))) := ⟨by rw [hb7.block _ (Array.getElem?_eq_some_iff.1 HG6.out.1).1]; exact HG6.out.1, by rw [hb7.block _ (Array.getElem?_eq_some_iff.1 HG6.out.2).1]; exact HG6.out.2⟩
      have HW7 : Hid (WPV w1.heap.size w7 (.agg #[.bool (apF D U k T nT kind a b).ok, .slice paD pnD pcD, .slice paU pnU pcU, .int .i64 (apF D U k T nT kind a b).k, .slice paT pnT pcT]) (apF D U k T nT kind a b)) := HW6.out.below hb7
      have HQ7 : Hid (APV w5.heap.size w7 (.agg #[.bool (apF D U k T nT kind a b).ok, .slice qaD pnD qcD, .slice qaU pnU qcU, .int .i64 (apF D U k T nT kind a b).k, .slice qaT pnT qcT]) (apF D U k T nT kind a b)) := HQ6.out.below hb7
      have HX7 : Hid (w7.heap[X]? = some (.cells #[.slice (some ⟨gD, 0, none⟩) nD nD, .slice (some ⟨gU, 0, none⟩) nU nU, .int .i64 k, .slice (some ⟨gT, 0, none⟩) nT nT] 38 (0, 0)) ∧ RowV w7 gD 2 (iC D) ∧ RowV w7 gU 2 (iC U) ∧ RowV w7 gT 92 (iC T)) := ⟨by rw [hb7.block _ (Array.getElem?_eq_some_iff.1 HX6.out.1).1]; exact HX6.out.1, HX6.out.2.1.below hb7, HX6.out.2.2.1.below hb7, HX6.out.2.2.2.below hb7⟩
      clear A hb7 HS6 HG6 HW6 HQ6 HX6
      go_wp2_with fail
      refine wp_region_any (by kernel_rfl) ?_
      refine wpAny_slotsU (fun _ a b => Below a.heap.size a b) (frame := (fun (c0 c1 c2 c3 c4 c5 c6 c7 c8 c9 c10 c11 c12 c13 c14 c15 c16 c17 c18 c19 c20 c21 c22 c23 c24 c25 c26 c27 c28 c29 c30 c31 c32 c38 c39 c40 c41 c42 c43 c44 c45 c46 c47 c48 c49 c50 c51 c52 c53 c54 c55 c56 c57 c58 c59 c60 c61 c62 c63 c64 c65 c66 c67 c68 : Value) => fun (t : Nat → Value) => ({ tmps := List.toArray (c0 :: c1 :: c2 :: c3 :: c4 :: c5 :: c6 :: c7 :: c8 :: c9 :: c10 :: c11 :: c12 :: c13 :: c14 :: c15 :: c16 :: c17 :: c18 :: c19 :: c20 :: c21 :: c22 :: c23 :: c24 :: c25 :: c26 :: c27 :: c28 :: c29 :: c30 :: c31 :: c32 :: t 0 :: t 1 :: t 2 :: t 3 :: t 4 :: c38 :: c39 :: c40 :: c41 :: c42 :: c43 :: c44 :: c45 :: c46 :: c47 :: c48 :: c49 :: c50 :: c51 :: c52 :: c53 :: c54 :: c55 :: c56 :: c57 :: c58 :: c59 :: c60 :: c61 :: c62 :: c63 :: c64 :: c65 :: c66 :: c67 :: c68 :: []), defers := [] } : Act)) _ _ _ _ _ _ _ _ _ _ _ _ _ _ _ _ _ _ _ _ _ _ _ _ _ _ _ _ _ _ _ _ _ _ _ _ _ _ _ _ _ _ _ _ _ _ _ _ _ _ _ _ _ _ _ _ _ _ _ _ _ _ _ _)
        (Ext := fun L u w' => ApX w7 [] L u w') (Good := fun i L w' v => if i = 0 then v = .agg #[.slice (some ⟨gD, 0, none⟩) nD nD, .slice (some ⟨gU, 0, none⟩) nU nU, .int .i64 k, .slice (some ⟨gT, 0, none⟩) nT nT] else if i = 1 then v = .agg #[.slice aD nD cD, .slice aU nU cU, .int .i64 k, .slice aT nT cT] else if i = 2 then TStV D U T nD nU nT k w' v else if i = 3 then v = .bool true else if i = 4 then v = .bool false else True) ?hstab (by kernel_rfl) ?hop ?hdone _ _ ((fun (x0 x1 x2 x3 x4 : Value) => fun (i : Nat) => if i = 0 then x0 else if i = 1 then x1 else if i = 2 then x2 else if i = 3 then x3 else if i = 4 then x4 else undef) _ _ _ _ _) _ (by simp) ?ext ?start (by simp)
      case start => intro i hi h; exact absurd h (by rw [Array.getD_eq_getD_getElem?, Array.getElem?_replicate]; split <;> simp)
      case ext => exact (ApX.start w7 [] _ _ (fun i => by rw [Array.getD_eq_getD_getElem?, Array.getElem?_replicate]; split <;> rfl)).drew
      case hstab =>
        intro j L w9 w' i v hM _ _ h
        by_cases h2 : j = 2
        · subst h2
          simp at h ⊢
          exact h.below hM
        simp only [if_neg h2] at h ⊢
        exact h
      case hop =>
        intro i o L t w' ho hLi hx hdep K hK
        have hi : i < 5 := (Array.getElem?_eq_some_iff.1 ho).1
        obtain rfl | rfl | rfl | rfl | rfl : i = 0 ∨ i = 1 ∨ i = 2 ∨ i = 3 ∨ i = 4 := by omega
        all_goals (simp at ho; subst ho)
        · clear hdep
          have hr : w'.heap[X]? = some (.cells #[.slice (some ⟨gD, 0, none⟩) nD nD, .slice (some ⟨gU, 0, none⟩) nU nU, .int .i64 k, .slice (some ⟨gT, 0, none⟩) nT nT] 38 (0, 0)) := by rw [hx.below.block _ (Array.getElem?_eq_some_iff.1 HX7.out.1).1]; exact HX7.out.1
          have hK' := hK w' (.agg #[.slice (some ⟨gD, 0, none⟩) nD nD, .slice (some ⟨gU, 0, none⟩) nU nU, .int .i64 k, .slice (some ⟨gT, 0, none⟩) nT nT]) (by simp) (hx.step 0 _ (Below.refl _ _) (fun h => absurd h (by decide))) (Below.refl _ _)
          clear hK
          rw [if_pos (by rfl)]
          refine wp_load_row 38 (.tmp 7) rfl (X) rfl 38 _ (0, 0) _ hr Try.underlying38 rfl HSS.out ?_
          go_simp
          simpa [upd] using hK'
        · clear hdep
          have hr : w'.heap[w.heap.size]? = some (.cells #[.slice aD nD cD, .slice aU nU cU, .int .i64 k, .slice aT nT cT] 29 (0, 0)) := by rw [hx.below.block _ (Nat.lt_trans (Nat.lt_succ_self _) HS7.out.lt)]; exact HS7.out.b0
          have hK' := hK w' (.agg #[.slice aD nD cD, .slice aU nU cU, .int .i64 k, .slice aT nT cT]) (by simp) (hx.step 1 _ (Below.refl _ _) (fun h => absurd h (by decide))) (Below.refl _ _)
          clear hK
          rw [if_pos (by rfl)]
          refine wp_load_row 29 (.tmp 2) rfl (w.heap.size) rfl 29 _ (0, 0) _ hr Try.underlying29 rfl HSL.out ?_
          go_simp
          simpa [upd] using hK'
        · have d1 : t 1 = .agg #[.slice aD nD cD, .slice aU nU cU, .int .i64 k, .slice aT nT cT] := by simpa using (hdep ⟨1, .data⟩ (by simp) rfl).2
          clear hdep
          have bw : Below w.heap.size w w' := HS7.out.below.trans (hx.below.mono HS7.out.below.size)
          have A := toSt_any aD aU aT nD cD nU cU nT cT D U T k w' HL.out.1 HL.out.2.1 HL.out.2.2 bD bU bT (HA.out.1.below bw) (HA.out.2.1.below bw) (HA.out.2.2.below bw)
          have hK' : ∀ ww v, TStV D U T nD nU nT k ww v → Below w'.heap.size w' ww → K _ ww := fun ww v hv hb => hK ww v (by simpa using hv) (hx.step 2 v hb (fun h => absurd h (by decide))) hb
          clear hK
          rw [if_pos (by rfl)]
          go_simp
          try simp only [d1]
          refine A.mono ?_
          rintro e w9 ⟨gD, gU, gT, rfl, _, _, _, r1, r2, r3, hb9⟩
          have hK2 := hK' w9 _ ⟨gD, gU, gT, rfl, r1, r2, r3⟩  hb9
          clear hK' A r1 r2 r3 bw hb9
          go_simp
          simpa [upd, d1] using hK2
        · have d0 : t 0 = .agg #[.slice (some ⟨gD, 0, none⟩) nD nD, .slice (some ⟨gU, 0, none⟩) nU nU, .int .i64 k, .slice (some ⟨gT, 0, none⟩) nT nT] := by simpa using (hdep ⟨0, .data⟩ (by simp) rfl).2
          have f2 : TStV D U T nD nU nT k w' (t 2) := by simpa using (hdep ⟨2, .data⟩ (by simp) rfl).2
          clear hdep
          obtain ⟨hD, hU, hT, d2, r1, r2, r3⟩ := f2
          have A := eqSt_any (some ⟨gD, 0, none⟩) (some ⟨hD, 0, none⟩) (some ⟨gU, 0, none⟩) (some ⟨hU, 0, none⟩) (some ⟨gT, 0, none⟩) (some ⟨hT, 0, none⟩) nD nD nD nU nU nU nT nT nT D U T k w' HL.out.1 HL.out.2.1 HL.out.2.2 bD bU bT (HX7.out.2.1.below hx.below).i64 r1.i64 (HX7.out.2.2.1.below hx.below).i64 r2.i64 (HX7.out.2.2.2.below hx.below).i64 r3.i64
          have hK' : ∀ ww, Below w'.heap.size w' ww → K _ ww := fun ww hb => hK ww (.bool true) (by simp) (hx.step 3 _ hb (fun h => absurd h (by decide))) hb
          clear hK r1 r2 r3
          rw [if_pos (by rfl)]
          go_simp
          try simp only [d0, d2]
          refine A.mono ?_
          rintro e w9 ⟨rfl, hb⟩
          have hK2 := hK' w9 hb
          clear hK' A hb
          go_simp
          simpa [upd, d0, d2] using hK2
        · have d3 : t 3 = .bool true := by simpa using (hdep ⟨3, .data⟩ (by simp) rfl).2
          clear hdep
          have hK' := hK w' (.bool false) (by simp) (hx.step 4 _ (Below.refl _ _) (fun h => absurd h (by decide))) (Below.refl _ _)
          clear hK
          rw [if_pos (by rfl)]
          go_simp
          simpa [upd, d3] using hK'
      case hdone =>
        intro L t w8 hx hg
        have d4 : t 4 = .bool false := by simpa using hg 4 (by decide)
        clear hg
        have hb8 : Below w7.heap.size w7 w8 := hx.below
        have HS8 : Hid (LX w #[.slice aD nD cD, .slice aU nU cU, .int .i64 k, .slice aT nT cT] #[.int .u32 seq, .int .i64 kind, .int .u32 (a : Int), .int .u32 (b : Int)] w8) := HS7.out.call hb8 (by have := HS7.out.lt; omega)
        have HG8 : Hid (w8.heap[G0]? = some (.cells #[.bool (apF D U k T nT kind a b).ok, .slice paD pnD pcD, .slice paU pnU pcU, .int .i64 (apF D U k T nT kind a b).k, .slice paT pnT pcT] 48 (0, 0)) ∧ w8.heap[G1]? = some (.cells #[.bool (apF D U k T nT kind a b).ok, .slice qaD pnD qcD, .slice qaU pnU qcU, .int .i64 (apF D U k T nT kind a b).k, .slice qaT pnT qcT] 48 (0, 0))) := ⟨by rw [hb8.block _ (Array.getElem?_eq_some_iff.1 HG7.out.1).1]; exact HG7.out.1, by rw [hb8.block _ (Array.getElem?_eq_some_iff.1 HG7.out.2).1]; exact HG7.out.2⟩
        have HW8 : Hid (WPV w1.heap.size w8 (.agg #[.bool (apF D U k T nT kind a b).ok, .slice paD pnD pcD, .slice paU pnU pcU, .int .i64 (apF D U k T nT kind a b).k, .slice paT pnT pcT]) (apF D U k T nT kind a b)) := HW7.out.below hb8
        have HQ8 : Hid (APV w5.heap.size w8 (.agg #[.bool (apF D U k T nT kind a b).ok, .slice qaD pnD qcD, .slice qaU pnU qcU, .int .i64 (apF D U k T nT kind a b).k, .slice qaT pnT qcT]) (apF D U k T nT kind a b)) := HQ7.out.below hb8
        have HX8 : Hid (w8.heap[X]? = some (.cells #[.slice (some ⟨gD, 0, none⟩) nD nD, .slice (some ⟨gU, 0, none⟩) nU nU, .int .i64 k, .slice (some ⟨gT, 0, none⟩) nT nT] 38 (0, 0)) ∧ RowV w8 gD 2 (iC D) ∧ RowV w8 gU 2 (iC U) ∧ RowV w8 gT 92 (iC T)) := ⟨by rw [hb8.block _ (Array.getElem?_eq_some_iff.1 HX7.out.1).1]; exact HX7.out.1, HX7.out.2.1.below hb8, HX7.out.2.2.1.below hb8, HX7.out.2.2.2.below hb8⟩
        simp only [d4]
        clear hx d4 hb8 HS7 HG7 HW7 HQ7 HX7
        have CM := markS_any (some ⟨gD, 0, none⟩) (some ⟨gU, 0, none⟩) (some ⟨gT, 0, none⟩) nD nD nU nU nT nT k 1 w8 w2.heap.size (by have := HX8.out.2.1.lt; have := HOR.out.1; omega) (HX8.out.2.1.opn (by rw [iC_size]; exact HL.out.1)) (HX8.out.2.2.1.opn (by rw [iC_size]; exact HL.out.2.1)) (HX8.out.2.2.2.opn (by rw [iC_size]; exact HL.out.2.2)) (fun ad e => by cases e; exact ⟨HOR.out.1, HX8.out.2.1.lt⟩) (fun ad e => by cases e; exact ⟨by have := HOR.out; show _ ≤ gU; omega, HX8.out.2.2.1.lt⟩) (fun ad e => by cases e; exact ⟨by have := HOR.out; show _ ≤ gT; omega, HX8.out.2.2.2.lt⟩) (fun x y e1 e2 => by cases e1; cases e2; have := HOR.out; show gD ≠ gU; omega) (fun x y e1 e2 => by cases e1; cases e2; have := HOR.out; show gD ≠ gT; omega) (fun x y e1 e2 => by cases e1; cases e2; have := HOR.out; show gU ≠ gT; omega) (by decide) (by omega)
        have x0 : w8.cell? ⟨X, 0, none⟩ = some (.slice (some ⟨gD, 0, none⟩) nD nD) := by rw [cell_of_row w8 _ 0 _ _ _ HX8.out.1]; rfl
        have x1 : w8.cell? ⟨X, 1, none⟩ = some (.slice (some ⟨gU, 0, none⟩) nU nU) := by rw [cell_of_row w8 _ 1 _ _ _ HX8.out.1]; rfl
        have x2 : w8.cell? ⟨X, 2, none⟩ = some (.int .i64 k) := by rw [cell_of_row w8 _ 2 _ _ _ HX8.out.1]; rfl
        have x3 : w8.cell? ⟨X, 3, none⟩ = some (.slice (some ⟨gT, 0, none⟩) nT nT) := by rw [cell_of_row w8 _ 3 _ _ _ HX8.out.1]; rfl
        go_wp2_with fail
        refine CM.mono ?_
        rintro e w9 ⟨rfl, _, _, _, hb9, hn9⟩
        have hz9 := hb9.size
        have HNI : Hid (∀ j, w5.heap.size ≤ j → NotIn j (some ⟨gD, 0, none⟩) ∧ NotIn j (some ⟨gU, 0, none⟩) ∧ NotIn j (some ⟨gT, 0, none⟩)) := fun j hj => ⟨fun ad e => by cases e; have := HOR.out; show j ≠ gD; omega, fun ad e => by cases e; have := HOR.out; show j ≠ gU; omega, fun ad e => by cases e; have := HOR.out; show j ≠ gT; omega⟩
        have HS9 : Hid (LX w #[.slice aD nD cD, .slice aU nU cU, .int .i64 k, .slice aT nT cT] #[.int .u32 seq, .int .i64 kind, .int .u32 (a : Int), .int .u32 (b : Int)] w9) := HS8.out.call hb9 HOR.out.2.2.2.2
        have HG9 : Hid (w9.heap[G0]? = some (.cells #[.bool (apF D U k T nT kind a b).ok, .slice paD pnD pcD, .slice paU pnU pcU, .int .i64 (apF D U k T nT kind a b).k, .slice paT pnT pcT] 48 (0, 0)) ∧ w9.heap[G1]? = some (.cells #[.bool (apF D U k T nT kind a b).ok, .slice qaD pnD qcD, .slice qaU pnU qcU, .int .i64 (apF D U k T nT kind a b).k, .slice qaT pnT qcT] 48 (0, 0))) := ⟨by rw [hb9.block _ HGG.out.1]; exact HG8.out.1, by rw [hn9 _ (Array.getElem?_eq_some_iff.1 HG8.out.2).1 (HNI.out _ HGG.out.2.1).1 (HNI.out _ HGG.out.2.1).2.1 (HNI.out _ HGG.out.2.1).2.2]; exact HG8.out.2⟩
        have HW9 : Hid (WPV w1.heap.size w9 (.agg #[.bool (apF D U k T nT kind a b).ok, .slice paD pnD pcD, .slice paU pnU pcU, .int .i64 (apF D U k T nT kind a b).k, .slice paT pnT pcT]) (apF D U k T nT kind a b)) := HW8.out.keep hz9 (fun j hj _ => hb9.block _ (HGG.out.2.2 j hj))
        have HQ9 : Hid (APV w5.heap.size w9 (.agg #[.bool (apF D U k T nT kind a b).ok, .slice qaD pnD qcD, .slice qaU pnU qcU, .int .i64 (apF D U k T nT kind a b).k, .slice qaT pnT qcT]) (apF D U k T nT kind a b)) := HQ8.out.keep hz9 (fun j hj hl => hn9 j hl (HNI.out j (HQ8.out.lo hj)).1 (HNI.out j (HQ8.out.lo hj)).2.1 (HNI.out j (HQ8.out.lo hj)).2.2)
        have g9 : ¬ ((1 + (nD : Int) + nU + nT * 2) < 0) := by omega
        clear CM hb9 hn9 hz9 x0 x1 x2 x3 HS8 HG8 HW8 HQ8 HX8 HNI
        have q0 : w9.cell? ⟨G1, 0, none⟩ = some (.bool (apF D U k T nT kind a b).ok) := by rw [cell_of_row w9 _ 0 _ _ _ HG9.out.2]; rfl
        have q1 : w9.cell? ⟨G1, 1, none⟩ = some (.slice qaD pnD qcD) := by rw [cell_of_row w9 _ 1 _ _ _ HG9.out.2]; rfl
        have q2 : w9.cell? ⟨G1, 2, none⟩ = some (.slice qaU pnU qcU) := by rw [cell_of_row w9 _ 2 _ _ _ HG9.out.2]; rfl
        have q3 : w9.cell? ⟨G1, 3, none⟩ = some (.int .i64 (apF D U k T nT kind a b).k) := by rw [cell_of_row w9 _ 3 _ _ _ HG9.out.2]; rfl
        have q4 : w9.cell? ⟨G1, 4, none⟩ = some (.slice qaT pnT qcT) := by rw [cell_of_row w9 _ 4 _ _ _ HG9.out.2]; rfl
        have p0 : w9.cell? ⟨G0, 0, none⟩ = some (.bool (apF D U k T nT kind a b).ok) := by rw [cell_of_row w9 _ 0 _ _ _ HG9.out.1]; rfl
        have p1 : w9.cell? ⟨G0, 1, none⟩ = some (.slice paD pnD pcD) := by rw [cell_of_row w9 _ 1 _ _ _ HG9.out.1]; rfl
        have p2 : w9.cell? ⟨G0, 2, none⟩ = some (.slice paU pnU pcU) := by rw [cell_of_row w9 _ 2 _ _ _ HG9.out.1]; rfl
        have p3 : w9.cell? ⟨G0, 3, none⟩ = some (.int .i64 (apF D U k T nT kind a b).k) := by rw [cell_of_row w9 _ 3 _ _ _ HG9.out.1]; rfl
        have p4 : w9.cell? ⟨G0, 4, none⟩ = some (.slice paT pnT pcT) := by rw [cell_of_row w9 _ 4 _ _ _ HG9.out.1]; rfl
        have A := eqA_any (apF D U k T nT kind a b).ok qaD paD qaU paU qaT paT pnD qcD pcD pnU qcU pcU pnT qcT pcT (apF D U k T nT kind a b).D (apF D U k T nT kind a b).U (apF D U k T nT kind a b).T (apF D U k T nT kind a b).k w9 HN0.out.1 HN0.out.2.1 HN0.out.2.2 HLE.out.1 HLE.out.2.1 HLE.out.2.2 (HQ9.out.wpv.at5).1 (HW9.out.at5).1 (HQ9.out.wpv.at5).2.1 (HW9.out.at5).2.1 (HQ9.out.wpv.at5).2.2 (HW9.out.at5).2.2
        go_wp2_with fail
        clear q0 q1 q2 q3 q4 p0 p1 p2 p3 p4
        refine A.mono ?_
        rintro e w10 ⟨rfl, hb10⟩
        have HS10 : Hid (LX w #[.slice aD nD cD, .slice aU nU cU, .int .i64 k, .slice aT nT cT] #[.int .u32 seq, .int .i64 kind, .int .u32 (a : Int), .int .u32 (b : Int)] w10) := HS9.out.call hb10 (by have := HS9.out.lt; omega)
        have HG10 : Hid (w10.heap[G0]? = some (.cells #[.bool (apF D U k T nT kind a b).ok, .slice paD pnD pcD, .slice paU pnU pcU, .int .i64 (apF D U k T nT kind a b).k, .slice paT pnT pcT] 48 (0, 0)) ∧ w10.heap[G1]? = some (.cells #[.bool (apF D U k T nT kind a b).ok, .slice qaD pnD qcD, .slice qaU pnU qcU, .int .i64 (apF D U k T nT kind a b).k, .slice qaT pnT qcT] 48 (0, 0))) := ⟨by rw [hb10.block _ (Array.getElem?_eq_some_iff.1 HG9.out.1).1]; exact HG9.out.1, by rw [hb10.block _ (Array.getElem?_eq_some_iff.1 HG9.out.2).1]; exact HG9.out.2⟩
        have HW10 : Hid (WPV w1.heap.size w10 (.agg #[.bool (apF D U k T nT kind a b).ok, .slice paD pnD pcD, .slice paU pnU pcU, .int .i64 (apF D U k T nT kind a b).k, .slice paT pnT pcT]) (apF D U k T nT kind a b)) := HW9.out.below hb10
        have HQ10 : Hid (APV w5.heap.size w10 (.agg #[.bool (apF D U k T nT kind a b).ok, .slice qaD pnD qcD, .slice qaU pnU qcU, .int .i64 (apF D U k T nT kind a b).k, .slice qaT pnT qcT]) (apF D U k T nT kind a b)) := HQ9.out.below hb10
        clear A hb10 HS9 HG9 HW9 HQ9 g9
        have S10 := HQ10.out.s3
        have CA := markA_any (apF D U k T nT kind a b).ok qaD qaU qaT pnD qcD pnU qcU pnT qcT (apF D U k T nT kind a b).k 1 w10 w5.heap.size (by have := (Array.getElem?_eq_some_iff.1 HG10.out.2).1; have := HGG.out.2.1; omega) (S10.d.open_ S10.nd) (S10.u.open_ S10.nu) (S10.t.open_ S10.nt) S10.ld S10.lu S10.lt S10.du S10.dt S10.ut (by decide) (by have := HLE.out; omega)
        have q0 : w10.cell? ⟨G1, 0, none⟩ = some (.bool (apF D U k T nT kind a b).ok) := by rw [cell_of_row w10 _ 0 _ _ _ HG10.out.2]; rfl
        have q1 : w10.cell? ⟨G1, 1, none⟩ = some (.slice qaD pnD qcD) := by rw [cell_of_row w10 _ 1 _ _ _ HG10.out.2]; rfl
        have q2 : w10.cell? ⟨G1, 2, none⟩ = some (.slice qaU pnU qcU) := by rw [cell_of_row w10 _ 2 _ _ _ HG10.out.2]; rfl
        have q3 : w10.cell? ⟨G1, 3, none⟩ = some (.int .i64 (apF D U k T nT kind a b).k) := by rw [cell_of_row w10 _ 3 _ _ _ HG10.out.2]; rfl
        have q4 : w10.cell? ⟨G1, 4, none⟩ = some (.slice qaT pnT qcT) := by rw [cell_of_row w10 _ 4 _ _ _ HG10.out.2]; rfl
        clear S10
        go_wp2_with fail
        clear q0 q1 q2 q3 q4
        refine CA.mono ?_
        rintro e w11 ⟨rfl, m1, m2, m3, hb11, hn11⟩
        have HS11 : Hid (LX w #[.slice aD nD cD, .slice aU nU cU, .int .i64 k, .slice aT nT cT] #[.int .u32 seq, .int .i64 kind, .int .u32 (a : Int), .int .u32 (b : Int)] w11) := HS10.out.call hb11 HGG2.out
        have HG11 : Hid (w11.heap[G0]? = some (.cells #[.bool (apF D U k T nT kind a b).ok, .slice paD pnD pcD, .slice paU pnU pcU, .int .i64 (apF D U k T nT kind a b).k, .slice paT pnT pcT] 48 (0, 0)) ∧ w11.heap[G1]? = some (.cells #[.bool (apF D U k T nT kind a b).ok, .slice qaD pnD qcD, .slice qaU pnU qcU, .int .i64 (apF D U k T nT kind a b).k, .slice qaT pnT qcT] 48 (0, 0))) := ⟨by rw [hb11.block _ (by have := HGG.out.1; have := HOR.out; omega)]; exact HG10.out.1, by rw [hn11 _ (Array.getElem?_eq_some_iff.1 HG10.out.2).1 (fun ad e h => HG1N.out _ (has5' (.inl e)) h.symm) (fun ad e h => HG1N.out _ (has5' (.inr (.inl e))) h.symm) (fun ad e h => HG1N.out _ (has5' (.inr (.inr e))) h.symm)]; exact HG10.out.2⟩
        have HW11 : Hid (WPV w1.heap.size w11 (.agg #[.bool (apF D U k T nT kind a b).ok, .slice paD pnD pcD, .slice paU pnU pcU, .int .i64 (apF D U k T nT kind a b).k, .slice paT pnT pcT]) (apF D U k T nT kind a b)) := HW10.out.keep hb11.size (fun j hj _ => hb11.block _ (by have := HGG.out.2.2 j hj; have := HOR.out; omega))
        have CH := heldA_any (apF D U k T nT kind a b).ok qaD qaU qaT pnD qcD pnU qcU pnT qcT (apF D U k T nT kind a b).k 1 w11 m1 m2 m3 (by decide) (by have := HLE.out; omega)
        clear CA m1 m2 m3 hb11 hn11 HS10 HG10 HW10 HQ10
        have q0 : w11.cell? ⟨G1, 0, none⟩ = some (.bool (apF D U k T nT kind a b).ok) := by rw [cell_of_row w11 _ 0 _ _ _ HG11.out.2]; rfl
        have q1 : w11.cell? ⟨G1, 1, none⟩ = some (.slice qaD pnD qcD) := by rw [cell_of_row w11 _ 1 _ _ _ HG11.out.2]; rfl
        have q2 : w11.cell? ⟨G1, 2, none⟩ = some (.slice qaU pnU qcU) := by rw [cell_of_row w11 _ 2 _ _ _ HG11.out.2]; rfl
        have q3 : w11.cell? ⟨G1, 3, none⟩ = some (.int .i64 (apF D U k T nT kind a b).k) := by rw [cell_of_row w11 _ 3 _ _ _ HG11.out.2]; rfl
        have q4 : w11.cell? ⟨G1, 4, none⟩ = some (.slice qaT pnT qcT) := by rw [cell_of_row w11 _ 4 _ _ _ HG11.out.2]; rfl
        go_wp2_with fail
        clear q0 q1 q2 q3 q4
        refine CH.mono ?_
        rintro e w12 ⟨rfl, hb12⟩
        have HS12 : Hid (LX w #[.slice aD nD cD, .slice aU nU cU, .int .i64 k, .slice aT nT cT] #[.int .u32 seq, .int .i64 kind, .int .u32 (a : Int), .int .u32 (b : Int)] w12) := HS11.out.call hb12 (by have := HS11.out.lt; omega)
        have HG12 : Hid (w12.heap[G0]? = some (.cells #[.bool (apF D U k T nT kind a b).ok, .slice paD pnD pcD, .slice paU pnU pcU, .int .i64 (apF D U k T nT kind a b).k, .slice paT pnT pcT] 48 (0, 0))) := by show _ = _; rw [hb12.block _ (Array.getElem?_eq_some_iff.1 HG11.out.1).1]; exact HG11.out.1
        have HW12 : Hid (WPV w1.heap.size w12 (.agg #[.bool (apF D U k T nT kind a b).ok, .slice paD pnD pcD, .slice paU pnU pcU, .int .i64 (apF D U k T nT kind a b).k, .slice paT pnT pcT]) (apF D U k T nT kind a b)) := HW11.out.below hb12
        have g12 : ¬ ((1 + (pnD : Int) + pnU + pnT * 2) < 0) := by have := HLE.out; omega
        have t12 : ((1 + (pnD : Int) + pnU + pnT * 2) != (1 + (pnD : Int) + pnU + pnT * 2)) = false := by simp
        clear CH hb12 HS11 HG11 HW11
        go_wp2_with fail
        refine wp_region_any (by kernel_rfl) ?_
        refine wpAny_slotsF 6 (fun _ a b => Below a.heap.size a b) (frame := (fun (c0 c1 c2 c3 c4 c5 c6 c7 c8 c9 c10 c11 c13 c14 c15 c16 c17 c18 c19 c20 c21 c22 c23 c24 c25 c26 c27 c28 c29 c30 c31 c32 c33 c34 c35 c36 c37 c38 c39 c40 c41 c42 c43 c44 c45 c46 c47 c48 c49 c50 c51 c52 c53 c54 c55 c56 c57 c58 c59 c65 c66 c67 c68 : Value) => fun (t : Nat → Value) => ({ tmps := List.toArray (c0 :: c1 :: c2 :: c3 :: c4 :: c5 :: c6 :: c7 :: c8 :: c9 :: c10 :: c11 :: t 5 :: c13 :: c14 :: c15 :: c16 :: c17 :: c18 :: c19 :: c20 :: c21 :: c22 :: c23 :: c24 :: c25 :: c26 :: c27 :: c28 :: c29 :: c30 :: c31 :: c32 :: c33 :: c34 :: c35 :: c36 :: c37 :: c38 :: c39 :: c40 :: c41 :: c42 :: c43 :: c44 :: c45 :: c46 :: c47 :: c48 :: c49 :: c50 :: c51 :: c52 :: c53 :: c54 :: c55 :: c56 :: c57 :: c58 :: c59 :: t 0 :: t 1 :: t 2 :: t 3 :: t 4 :: c65 :: c66 :: c67 :: c68 :: []), defers := [] } : Act)) _ _ _ _ _ _ _ _ _ _ _ _ _ _ _ _ _ _ _ _ _ _ _ _ _ _ _ _ _ _ _ _ _ _ _ _ _ _ _ _ _ _ _ _ _ _ _ _ _ _ _ _ _ _ _ _ _ _ _ _ _ _ _)
          (Ext := fun L u w' => ApH w12 [4, 5] L u w') (Good := fun i L w' v => if i = 0 then v = .agg #[.slice aD nD cD, .slice aU nU cU, .int .i64 k, .slice aT nT cT] else if i = 1 then TStV D U T nD nU nT k w' v else if i = 2 then v = .agg #[.int .u32 seq, .int .i64 kind, .int .u32 (a : Int), .int .u32 (b : Int)] else if i = 3 then v = .agg #[.int .u32 seq, .int .i64 kind, .int .u32 (a : Int), .int .u32 (b : Int)] else if i = 4 then APV w12.heap.size w' v (apF D U k T nT kind a b) else if i = 5 then NwZ w12.heap.size w' v else True) (Fin := FinB APV 5 w12 (apF D U k T nT kind a b)) rfl (by kernel_rfl) ?hstab (by kernel_rfl) ?hop ?hend ?hdone _ _ ((fun (x0 x1 x2 x3 x4 x5 : Value) => fun (i : Nat) => if i = 0 then x0 else if i = 1 then x1 else if i = 2 then x2 else if i = 3 then x3 else if i = 4 then x4 else if i = 5 then x5 else undef) _ _ _ _ _ _) _ (by simp) ?none ?ext (by simp)
        case none => intro i; rw [Array.getD_eq_getD_getElem?, Array.getElem?_replicate]; split <;> rfl
        case ext => exact ApH.start w12 [4, 5] _ _ (fun i => by rw [Array.getD_eq_getD_getElem?, Array.getElem?_replicate]; split <;> rfl) ⟨rfl, rfl, rfl, Nat.le_refl _, fun _ _ => rfl⟩
        case hstab =>
          intro j L w9 w' i v _ hM _ _ h
          by_cases h1 : j = 1
          · subst h1
            simp at h ⊢
            exact h.below hM
          by_cases h4 : j = 4
          · subst h4
            simp at h ⊢
            exact h.below hM
          by_cases h5 : j = 5
          · subst h5
            simp at h ⊢
            exact h.below hM
          simp only [if_neg h1, if_neg h4, if_neg h5] at h ⊢
          exact h
        case hop =>
          intro i o L t w' hi ho hLi hx hdep K hK
          obtain rfl | rfl | rfl | rfl | rfl | rfl : i = 0 ∨ i = 1 ∨ i = 2 ∨ i = 3 ∨ i = 4 ∨ i = 5 := by omega
          all_goals (simp at ho; subst ho)
          · clear hdep
            have hr : w'.heap[w.heap.size]? = some (.cells #[.slice aD nD cD, .slice aU nU cU, .int .i64 k, .slice aT nT cT] 29 (0, 0)) := by rw [hx.below.block _ (Nat.lt_trans (Nat.lt_succ_self _) HS12.out.lt)]; exact HS12.out.b0
            have hK' := hK w' (.agg #[.slice aD nD cD, .slice aU nU cU, .int .i64 k, .slice aT nT cT]) (by simp) (hx.step 0 _ (Below.refl _ _) (fun h => absurd h (by decide))) (Below.refl _ _)
            clear hK
            rw [if_pos (by rfl)]
            refine wp_load_row 29 (.tmp 2) rfl (w.heap.size) rfl 29 _ (0, 0) _ hr Try.underlying29 rfl HSL.out ?_
            go_simp
            simpa [upd] using hK'
          · have d0 : t 0 = .agg #[.slice aD nD cD, .slice aU nU cU, .int .i64 k, .slice aT nT cT] := by simpa using (hdep ⟨0, .data⟩ (by simp) rfl).2
            clear hdep
            have bw : Below w.heap.size w w' := HS12.out.below.trans (hx.below.mono HS12.out.below.size)
            have A := toSt_any aD aU aT nD cD nU cU nT cT D U T k w' HL.out.1 HL.out.2.1 HL.out.2.2 bD bU bT (HA.out.1.below bw) (HA.out.2.1.below bw) (HA.out.2.2.below bw)
            have hK' : ∀ ww v, TStV D U T nD nU nT k ww v → Below w'.heap.size w' ww → K _ ww := fun ww v hv hb => hK ww v (by simpa using hv) (hx.step 1 v hb (fun h => absurd h (by decide))) hb
            clear hK
            rw [if_pos (by rfl)]
            go_simp
            try simp only [d0]
            refine A.mono ?_
            rintro e w9 ⟨gD, gU, gT, rfl, _, _, _, r1, r2, r3, hb9⟩
            have hK2 := hK' w9 _ ⟨gD, gU, gT, rfl, r1, r2, r3⟩  hb9
            clear hK' A r1 r2 r3 bw hb9
            go_simp
            simpa [upd, d0] using hK2
          · clear hdep
            have hr : w'.heap[w.heap.size + 1]? = some (.cells #[.int .u32 seq, .int .i64 kind, .int .u32 (a : Int), .int .u32 (b : Int)] 45 (0, 0)) := by rw [hx.below.block _ HS12.out.lt]; exact HS12.out.b1
            have hK' := hK w' (.agg #[.int .u32 seq, .int .i64 kind, .int .u32 (a : Int), .int .u32 (b : Int)]) (by simp) (hx.step 2 _ (Below.refl _ _) (fun h => absurd h (by decide))) (Below.refl _ _)
            clear hK
            rw [if_pos (by rfl)]
            refine wp_load_row 45 (.tmp 3) rfl (w.heap.size + 1) rfl 45 _ (0, 0) _ hr Try.underlying45 rfl HSF.out ?_
            go_simp
            simpa [upd] using hK'
          · have d2 : t 2 = .agg #[.int .u32 seq, .int .i64 kind, .int .u32 (a : Int), .int .u32 (b : Int)] := by simpa using (hdep ⟨2, .data⟩ (by simp) rfl).2
            clear hdep
            have A := toFr_any seq kind a b w'
            have hK' : ∀ ww, Below w'.heap.size w' ww → K _ ww := fun ww hb => hK ww (.agg #[.int .u32 seq, .int .i64 kind, .int .u32 (a : Int), .int .u32 (b : Int)]) (by simp) (hx.step 3 _ hb (fun h => absurd h (by decide))) hb
            clear hK
            rw [if_pos (by rfl)]
            go_simp
            try simp only [d2]
            refine A.mono ?_
            rintro e w9 ⟨rfl, hb9⟩
            have hK2 := hK' w9 hb9
            clear hK' A hb9
            go_simp
            simpa [upd, d2] using hK2
          · have f1 : TStV D U T nD nU nT k w' (t 1) := by simpa using (hdep ⟨1, .data⟩ (by simp) rfl).2
            have d3 : t 3 = .agg #[.int .u32 seq, .int .i64 kind, .int .u32 (a : Int), .int .u32 (b : Int)] := by simpa using (hdep ⟨3, .data⟩ (by simp) rfl).2
            clear hdep
            obtain ⟨gD, gU, gT, d1, r1, r2, r3⟩ := f1
            have hszw : w12.heap.size ≤ w'.heap.size := hx.below.size
            have A := iap_any (some ⟨gD, 0, none⟩) (some ⟨gU, 0, none⟩) (some ⟨gT, 0, none⟩) nD nD nU nU nT nT D U k T seq kind a b w' HL.out.1 HL.out.2.1 HL.out.2.2 bD bU bT r1.i64 r2.i64 r3.i64 (fun h => by cases h) HK.out.1 (by have := HK.out.2; omega) HAB.out.1 HAB.out.2
            have hK' : ∀ ww v, APV w'.heap.size ww v (apF D U k T nT kind a b) → Below w'.heap.size w' ww → K _ ww := fun ww v hv hb => hK ww v (by simpa using hv.mono hszw) (hx.step 4 v hb (fun _ => hv.fresh)) hb
            clear hK r1 r2 r3
            rw [if_pos (by rfl)]
            go_simp
            try simp only [d1, d3]
            refine A.mono ?_
            rintro e w9 ⟨v9, rfl, hv9, hb9⟩
            have hK2 := hK' w9 v9 hv9 hb9
            clear hK' A hv9 hb9
            go_simp
            simpa [upd, d1, d3] using hK2
          · clear hdep
            have hsz : w12.heap.size ≤ w'.heap.size := hx.below.size
            have bb : Below w'.heap.size w' (w'.alloc (.cells #[.bool false, .slice none 0 0, .slice none 0 0, .int .i64 0, .slice none 0 0] 48)) := (Below.refl _ _).alloc (Nat.le_refl _) _
            have hK' := hK (w'.alloc (.cells #[.bool false, .slice none 0 0, .slice none 0 0, .int .i64 0, .slice none 0 0] 48)) (.pointer (some ⟨w'.heap.size, 0, none⟩)) (by simpa using ⟨w'.heap.size, rfl, hsz, heap_alloc_new w' _⟩) (hx.step 5 _ bb (fun _ => fun j hj => by rw [has_ptr] at hj; subst hj; exact ⟨Nat.le_refl _, by simp⟩)) bb
            clear hK bb
            rw [if_pos (by rfl)]
            go_simp
            simpa [upd] using hK'
        case hend =>
          intro o L t w' ho hx hg K hK
          simp at ho; subst ho
          have l4 : L 4 = true := (hg 4 (by decide)).1
          have f4 : APV w12.heap.size w' (t 4) (apF D U k T nT kind a b) := by simpa using (hg 4 (by decide)).2
          have l5 : L 5 = true := (hg 5 (by decide)).1
          have f5 : NwZ w12.heap.size w' (t 5) := by simpa using (hg 5 (by decide)).2
          clear hg
          obtain ⟨G, e5, hG, hrow⟩ := f5
          have hap := hx.ap 4 (by decide) 5 (by decide) (by decide) l4 l5
          obtain ⟨cs, e4, h1, h2⟩ := f4.cells
          have hK' : ∀ ww, Wr G w' ww → ww.heap[G]? = some (.cells cs 48 (0, 0)) → K _ ww := fun ww hw hr => hK ww undef ⟨G, cs, by simp [upd]; exact e5, hG, hr, (e4 ▸ f4).wrG hw (fun j hj e => hap j (by rw [e4]; exact hj) (by rw [e5, has_ptr]; exact e)), fun j hj e => hap j (by rw [e4]; exact hj) (by rw [e5, has_ptr]; exact e), hx.below.trans (hw.below hG)⟩
          clear hK
          rw [if_pos (by rfl)]
          refine wp_store_row 48 (.tmp 12) (.tmp 64) rfl G cs e5 e4 48 _ hrow (by rw [h1]; exact HRZ.out) (by rw [h1]; rfl) h2 ?_
          have hK2 := hK' _ (Wr.setRow _ _ _) (setRow_heap _ _ _ _ _ _ hrow)
          clear hK'
          simpa [upd, Act.put] using hK2
        case hdone =>
          intro t w13 hf
          obtain ⟨G2, cs, e5, hG, hrow, hpv, hne, hbw⟩ := hf
          have HB13 : Hid (Below w.heap.size w w13) := HS12.out.below.trans (hbw.mono HS12.out.below.size)
          obtain ⟨qaD, pnD', qcD, qaU, pnU', qcU, qaT, pnT', qcT, eq, Q⟩ := hpv
          cases eq
          have e1 : pnD' = pnD := by rw [← Q.nd, HN0.out.1]
          have e2 : pnU' = pnU := by rw [← Q.nu, HN0.out.2.1]
          have e3 : pnT' = pnT := by have := Q.nt; have := HN0.out.2.2; omega
          rw [e1, e2, e3] at hrow hne
          rw [e1, e2, e3] at Q
          clear e1 e2 e3
          have HW13 : Hid (WPV w1.heap.size w13 (.agg #[.bool (apF D U k T nT kind a b).ok, .slice paD pnD pcD, .slice paU pnU pcU, .int .i64 (apF D U k T nT kind a b).k, .slice paT pnT pcT]) (apF D U k T nT kind a b)) := HW12.out.below hbw
          have hG0 : w13.heap[G0]? = some (.cells #[.bool (apF D U k T nT kind a b).ok, .slice paD pnD pcD, .slice paU pnU pcU, .int .i64 (apF D U k T nT kind a b).k, .slice paT pnT pcT] 48 (0, 0)) := by rw [hbw.block _ (Array.getElem?_eq_some_iff.1 HG12.out).1]; exact HG12.out
          have A := eqA_any (apF D U k T nT kind a b).ok qaD paD qaU paU qaT paT pnD qcD pcD pnU qcU pcU pnT qcT pcT (apF D U k T nT kind a b).D (apF D U k T nT kind a b).U (apF D U k T nT kind a b).T (apF D U k T nT kind a b).k w13 HN0.out.1 HN0.out.2.1 HN0.out.2.2 HLE.out.1 HLE.out.2.1 HLE.out.2.2 ((show At .i64 w13 qaD _ ∧ At .i64 w13 qaU _ ∧ At .i64 w13 qaT _ from ⟨Q.d.at_, Q.u.at_, Q.t.at_⟩)).1 (HW13.out.at5).1 ((show At .i64 w13 qaD _ ∧ At .i64 w13 qaU _ ∧ At .i64 w13 qaT _ from ⟨Q.d.at_, Q.u.at_, Q.t.at_⟩)).2.1 (HW13.out.at5).2.1 ((show At .i64 w13 qaD _ ∧ At .i64 w13 qaU _ ∧ At .i64 w13 qaT _ from ⟨Q.d.at_, Q.u.at_, Q.t.at_⟩)).2.2 (HW13.out.at5).2.2
          have q0 : w13.cell? ⟨G2, 0, none⟩ = some (.bool (apF D U k T nT kind a b).ok) := by rw [cell_of_row w13 _ 0 _ _ _ hrow]; rfl
          have q1 : w13.cell? ⟨G2, 1, none⟩ = some (.slice qaD pnD qcD) := by rw [cell_of_row w13 _ 1 _ _ _ hrow]; rfl
          have q2 : w13.cell? ⟨G2, 2, none⟩ = some (.slice qaU pnU qcU) := by rw [cell_of_row w13 _ 2 _ _ _ hrow]; rfl
          have q3 : w13.cell? ⟨G2, 3, none⟩ = some (.int .i64 (apF D U k T nT kind a b).k) := by rw [cell_of_row w13 _ 3 _ _ _ hrow]; rfl
          have q4 : w13.cell? ⟨G2, 4, none⟩ = some (.slice qaT pnT qcT) := by rw [cell_of_row w13 _ 4 _ _ _ hrow]; rfl
          have p0 : w13.cell? ⟨G0, 0, none⟩ = some (.bool (apF D U k T nT kind a b).ok) := by rw [cell_of_row w13 _ 0 _ _ _ hG0]; rfl
          have p1 : w13.cell? ⟨G0, 1, none⟩ = some (.slice paD pnD pcD) := by rw [cell_of_row w13 _ 1 _ _ _ hG0]; rfl
          have p2 : w13.cell? ⟨G0, 2, none⟩ = some (.slice paU pnU pcU) := by rw [cell_of_row w13 _ 2 _ _ _ hG0]; rfl
          have p3 : w13.cell? ⟨G0, 3, none⟩ = some (.int .i64 (apF D U k T nT kind a b).k) := by rw [cell_of_row w13 _ 3 _ _ _ hG0]; rfl
          have p4 : w13.cell? ⟨G0, 4, none⟩ = some (.slice paT pnT pcT) := by rw [cell_of_row w13 _ 4 _ _ _ hG0]; rfl
          simp only [e5]
          clear hbw hrow hG0 Q HW13 HS12 HW12 HG12 hne
          go_wp2_with fail
          refine A.mono ?_
          rintro e w14 ⟨rfl, hb14⟩
          have HF : Hid (Below w.heap.size w w14) := HB13.out.trans (hb14.mono HB13.out.size)
          clear A hb14 HB13
          go_wp2
          go_ret
          exact ⟨rfl, HF.out⟩
set_option maxRecDepth 100000 in
theorem lifted (os : Os) (started : os.Started) (H : Type) (enc : TypeId × Value → H) :
    ReturnsInHanded {} Try.checked os 4 .any (Rows.fnExactApplyFrameSpec.pre6 enc Try.prog Try.f4 Rows.fnExactApplyFrameRow.domain false) (Rows.fnExactApplyFrameSpec.post enc Try.prog Try.f4 false true false false) := by
  refine returnsInHanded_of_change (C := Try.checked) ownA started (by kernel_rfl) Try.func4
    (ChangeSpec.witness6 (enc := enc) (C := Try.checked) false ⟨#[], #[.agg #[.slice none 0 0, .slice none 0 0, .int .i64 0, .slice none 0 0], .agg #[.int .u32 0, .int .i64 0, .int .u32 0, .int .u32 0]], []⟩ 8 (by kernel_rfl) (by kernel_rfl) (by kernel_rfl) (by kernel_rfl)) ?_
  intro W base args ds gs before hval0 hW hcnd _
  have hval : ∀ (j : Nat) t v, Try.f4.params[j]? = some t → args[j]? = some v → Value.okWide Try.prog W .any base t v := hval0
  have hW' := hW
  obtain ⟨p, q, hA0, hV, rfl, hfz, hnd⟩ := hW
  have hA : DataW.TrodAll enc Try.prog W 0 (fun _ => true) true Try.f4.params.toList args.toList ds p := hA0
  rw [Try.params4] at hA hval
  obtain ⟨v0, vs0, d0, ds0, p0, q0, hargs, rfl, rfl, h0, r0⟩ := trodAll_cons hA
  obtain ⟨v1, vs1, d1, ds1, p1, q1, rfl, rfl, rfl, h1, r1⟩ := trodAll_cons r0
  obtain ⟨rfl, rfl, rfl⟩ := trodAll_nil r1
  obtain rfl : args = #[v0, v1] := by cases args; simp_all
  obtain ⟨rfl, rfl⟩ := trodVars_none hV
  have k0 := h0
  have k1 := h1
  have lt0 : ∀ x ∈ p0, x.block < W.heap.size := by obtain ⟨m, hm⟩ := k0; exact DataW.trod_lt m _ _ _ hm
  have lt1 : ∀ x ∈ p1, x.block < W.heap.size := by obtain ⟨m, hm⟩ := k1; exact DataW.trod_lt m _ _ _ hm
  obtain ⟨u0, u1, u2, u3, rfl, aD, nD, cD, D, aU, nU, cU, U, aT, nT, cT, T, k, rfl, rfl, rfl, rfl, hD, hU, hT, MD, MU, MT, AD, AU, AT, Wk⟩ := state_of (hval 0 29 v0 rfl rfl) h0
  obtain ⟨x0, x1, x2, x3, y0, y1, y2, y3, n, rfl, _, _, g0, g1, g2, g3⟩ := Go.Joins.open_agg4 Try.underlying45 (by kernel_rfl) (by kernel_rfl) (hval 1 45 v1 rfl rfl) h1
  obtain ⟨seq, e0, _, w0⟩ := DataW.trod_int (k := .u32) Try.underlying22 g0
  obtain ⟨kind, e1, _, w1⟩ := DataW.trod_int (k := .i64) Try.underlying2 g1
  obtain ⟨a, e2, _, w2⟩ := DataW.trod_int (k := .u32) Try.underlying22 g2
  obtain ⟨b, e3, _, w3⟩ := DataW.trod_int (k := .u32) Try.underlying22 g3
  simp at e0 e1 e2 e3
  subst e0 e1 e2 e3
  have ua := u32_of_wf w2
  have ub := u32_of_wf w3
  obtain ⟨a, rfl⟩ := Int.eq_ofNat_of_zero_le ua.1
  obtain ⟨b, rfl⟩ := Int.eq_ofNat_of_zero_le ub.1
  clear hA0 hval0
  refine (walk aD aU aT nD cD nU cU nT cT D U k T seq kind a b W hD hU hT MD MU MT AD AU AT Wk (by have := ua.2; omega) (by have := ub.2; omega)).mono fun e W' ⟨he, bel⟩ => ?_
  subst he
  exact ⟨_, rfl, _, _, _, [], _, [], hW', trodAll_mk1 (shut_bool Try.underlying4 _), (trodAll_cons_mk (Below.trod laidOutA (by kernel_rfl) (of_decide_eq_true (by kernel_rfl)) k0 bel lt0) (trodAll_cons_mk (Below.trod laidOutA (by kernel_rfl) (of_decide_eq_true (by kernel_rfl)) k1 bel lt1) trodAll_mk0)), rfl, bel.frame _, fun h => by cases h⟩

theorem over : Rows.fnExactApplyFrameRow.holds Try.pinned (OpenSpec.ofChange Rows.fnExactApplyFrameSpec) :=
  OpenClaim.holds_of_wide 4 Try.f4 rfl rfl rfl rfl rfl rfl rfl ⟨rfl, rfl, rfl, rfl, rfl⟩ rfl rfl rfl rfl rfl (by kernel_rfl) Try.func4 (by kernel_rfl)
    (of_decide_eq_true (by kernel_rfl)) (by unfold Func.isWrapper; first | (rw [if_pos (by decide +kernel)]; kernel_rfl) | (rw [if_neg (by decide +kernel)]; exact ⟨rfl, rfl⟩))
    (fun os started H enc _ => lifted os started H enc)
end Go.Proofs.Ythghkfncpdnpoad.fnExactApplyFrame
namespace Go.Proofs.Ythghkfncpdnpoad
theorem applyFrame_holds : Rows.FnExactApplyFrameSaid := fnExactApplyFrame.over
#print axioms applyFrame_holds
end Go.Proofs.Ythghkfncpdnpoad
