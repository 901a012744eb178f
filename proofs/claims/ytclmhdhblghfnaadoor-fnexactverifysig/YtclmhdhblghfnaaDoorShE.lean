/-
  Own work: a block's schedule, by the program (written by wip/mkshd.py).
-/
import Derived.Test.YtclmhdhblghfnaaDoorShD
namespace Go.Proofs.YtclmhdhblghfnaaDoor
open Go.ChangeShapes Go.WideShapes Go.ChangeAt Go.RowKit
set_option linter.unusedVariables false

set_option maxRecDepth 100000 in
set_option maxHeartbeats 4000000 in
theorem sched_any (g : Nat) (bs : List Int) (w : World) (hr : Row w g 79 bs) (hl : bs.length = 128) (hz : Byte bs) :
    Calls Tryd.prog 79 #[.pointer (some ⟨g, 0, none⟩)] w fun e w' => e = .returned (.agg ((schA bs 80).map (Value.int .u64)).toArray) ∧ Below w.heap.size w w' := by
  have HR := hid_ofS hr
  have HL := hid_ofS hl
  have HZ := hid_ofS hz
  have HU := hid_ofS (fun t => wd_u64 hz hl t)
  have hlt := hr.lt
  clear hr hl hz
  have HS : Hid (SC w bs 0 ((w.alloc (.cells zSch 101)).alloc (.cells zSch 101))) := by
    refine ⟨?_, ?_, ((Below.refl _ _).alloc (Nat.le_refl _) _).alloc (by simp) _⟩
    · unfold RowW; rw [heap_alloc2_old, zcSch]
    · unfold RowW; rw [heap_alloc2_new, zcSch, schA_zero]
  have z1 := zvSch
  have z2 := zsSch
  have z3 := znSch
  go_enter Tryd.func79, Tryd.ntmps79
  go_wp2
  go_loopw [5] (fun i wr => ∃ k : Nat, k ≤ 80 ∧ i = .int .i64 k ∧ SC w bs k wr) (fun i _ => 80 - (intOf i).toNat)
  case atStart => exact ⟨0, by omega, rfl, HS.out⟩
  case round =>
    clear HS
    obtain ⟨k, hk, rfl, hst⟩ := hrel
    by_cases h80 : k < 80
    · have h80' : (k : Int) < 80 := by omega
      by_cases h16 : k < 16
      · have h16' : (k : Int) < 16 := by omega
        have A := hid_ofS (wordI_any g (8 * k) bs wr (HR.out.below hst.below hlt) HL.out HZ.out (by omega))
        have hc := hst.cell0 k (Nat.le_refl _) h80
        have hf := hst.row.frozen k
        have e8 := hid_ofS (show ((8 * k : Nat) : Int) = 8 * (k : Int) by omega)
        have HN := hst.set h80
        rw [wd_lo _ _ h16] at HN
        have HX := hid_ofS HN
        clear HN hst
        go_wp2_with fail
        rw [← e8.out]
        refine A.out.mono ?_
        rintro e w9 ⟨rfl, h9⟩
        subst h9
        clear A
        generalize beV ((bs.drop (8 * k)).take 8) = v at *
        go_wp2
        go_roundw
        case rel => exact ⟨k + 1, by omega, by go_num, HX.out⟩
        case measure => simp [intOf]; omega
      · have h16' : ¬ ((k : Int) < 16) := by omega
        have HS0 := hid_ofS hst
        have HWD := wd_hi' bs k (by omega)
        have HST : Hid (∀ y, SC w bs k y → SC w bs (k + 1) (y.setCell ⟨w.heap.size + 1, k, none⟩ (.int .u64 (wd bs k)))) := fun y h => h.set h80
        have HCE : Hid (∀ y (L : Nat → Bool), (if L 23 = true then SC w bs (k + 1) y else SC w bs k y) → ∀ i, i < k → y.cell? ⟨w.heap.size + 1, i, none⟩ = some (.int .u64 (wd bs i))) := fun y L h i hi => ite_sc h i hi (by omega)
        obtain ⟨j0, hj0⟩ : ∃ i, i = k - 16 := ⟨_, rfl⟩
        obtain ⟨j1, hj1⟩ : ∃ i, i = k - 15 := ⟨_, rfl⟩
        obtain ⟨j9, hj9⟩ : ∃ i, i = k - 7 := ⟨_, rfl⟩
        obtain ⟨j14, hj14⟩ : ∃ i, i = k - 2 := ⟨_, rfl⟩
        rw [← hj0, ← hj1, ← hj9, ← hj14] at HWD
        have hJ0 : Hid ((k : Int) - 16 = (j0 : Int) ∧ j0 < k) := ⟨by omega, by omega⟩
        have hJ1 : Hid ((k : Int) - 15 = (j1 : Int) ∧ j1 < k) := ⟨by omega, by omega⟩
        have hJ9 : Hid ((k : Int) - 7 = (j9 : Int) ∧ j9 < k) := ⟨by omega, by omega⟩
        have hJ14 : Hid ((k : Int) - 2 = (j14 : Int) ∧ j14 < k) := ⟨by omega, by omega⟩
        clear hj0 hj1 hj9 hj14
        obtain ⟨x0, hx0⟩ : ∃ x, x = wd bs j0 := ⟨_, rfl⟩
        obtain ⟨x1, hx1⟩ : ∃ x, x = wd bs j1 := ⟨_, rfl⟩
        obtain ⟨x9, hx9⟩ : ∃ x, x = wd bs j9 := ⟨_, rfl⟩
        obtain ⟨x14, hx14⟩ : ∃ x, x = wd bs j14 := ⟨_, rfl⟩
        have U1 := hid_ofS (HU.out j1); rw [← hx1] at U1
        have U14 := hid_ofS (HU.out j14); rw [← hx14] at U14
        rw [← hx0, ← hx1, ← hx9, ← hx14] at HWD
        have hWD := hid_ofS HWD
        have hX0 := hid_ofS hx0; have hX1 := hid_ofS hx1; have hX9 := hid_ofS hx9; have hX14 := hid_ofS hx14
        clear HWD hx0 hx1 hx9 hx14 hst
        go_upto_region 7 with fail
        refine wp_region_any (by kernel_rfl) ?_
        refine wpAny_slotsU (fun _ _ _ => True) (frame := (fun (c0 c1 c2 c3 c4 c5 c6 c7 c8 c9 c10 c11 c12 c13 c14 c15 c39 c40 : Value) => fun (t : Nat → Value) => ({ tmps := List.toArray (c0 :: c1 :: c2 :: c3 :: c4 :: c5 :: c6 :: c7 :: c8 :: c9 :: c10 :: c11 :: c12 :: c13 :: c14 :: c15 :: t 0 :: t 1 :: t 2 :: t 3 :: t 4 :: t 5 :: t 6 :: t 7 :: t 8 :: t 9 :: t 10 :: t 11 :: t 12 :: t 13 :: t 14 :: t 15 :: t 16 :: t 17 :: t 18 :: t 19 :: t 20 :: t 21 :: t 22 :: c39 :: c40 :: []), defers := [] } : Act)) _ _ _ _ _ _ _ _ _ _ _ _ _ _ _ _ _ _)
          (Ext := fun L u w' => if L 23 = true then SC w bs (k + 1) w' else SC w bs k w') (Good := fun i L w' v => if i = 0 then v = .int .i64 (k : Int) else if i = 1 then v = .int .i64 (k : Int) else if i = 2 then v = .int .i64 (j14 : Int) else if i = 3 then v = .pointer (some ⟨w.heap.size + 1, j14, none⟩) else if i = 4 then v = .int .u64 (x14) else if i = 5 then v = .int .u64 (sg1 x14) else if i = 6 then v = .int .i64 (k : Int) else if i = 7 then v = .int .i64 (j9 : Int) else if i = 8 then v = .pointer (some ⟨w.heap.size + 1, j9, none⟩) else if i = 9 then v = .int .u64 (x9) else if i = 10 then v = .int .u64 (IntKind.u64.wrap (sg1 x14 + x9)) else if i = 11 then v = .int .i64 (k : Int) else if i = 12 then v = .int .i64 (j1 : Int) else if i = 13 then v = .pointer (some ⟨w.heap.size + 1, j1, none⟩) else if i = 14 then v = .int .u64 (x1) else if i = 15 then v = .int .u64 (sg0 x1) else if i = 16 then v = .int .u64 (IntKind.u64.wrap (IntKind.u64.wrap (sg1 x14 + x9) + sg0 x1)) else if i = 17 then v = .int .i64 (k : Int) else if i = 18 then v = .int .i64 (j0 : Int) else if i = 19 then v = .pointer (some ⟨w.heap.size + 1, j0, none⟩) else if i = 20 then v = .int .u64 (x0) else if i = 21 then v = .int .u64 (IntKind.u64.wrap (IntKind.u64.wrap (IntKind.u64.wrap (sg1 x14 + x9) + sg0 x1) + x0)) else if i = 22 then v = .pointer (some ⟨w.heap.size + 1, k, none⟩) else if i = 23 then L 23 = true else True) ?hstab (by kernel_rfl) ?hop ?hdone _ _ ((fun (x0 x1 x2 x3 x4 x5 x6 x7 x8 x9 x10 x11 x12 x13 x14 x15 x16 x17 x18 x19 x20 x21 x22 : Value) => fun (i : Nat) => if i = 0 then x0 else if i = 1 then x1 else if i = 2 then x2 else if i = 3 then x3 else if i = 4 then x4 else if i = 5 then x5 else if i = 6 then x6 else if i = 7 then x7 else if i = 8 then x8 else if i = 9 then x9 else if i = 10 then x10 else if i = 11 then x11 else if i = 12 then x12 else if i = 13 then x13 else if i = 14 then x14 else if i = 15 then x15 else if i = 16 then x16 else if i = 17 then x17 else if i = 18 then x18 else if i = 19 then x19 else if i = 20 then x20 else if i = 21 then x21 else if i = 22 then x22 else undef) _ _ _ _ _ _ _ _ _ _ _ _ _ _ _ _ _ _ _ _ _ _ _) _ (by simp) ?ext ?start (by simp)
        case start => intro i hi h; exact absurd h (by rw [Array.getD_eq_getD_getElem?, Array.getElem?_replicate]; split <;> simp)
        case ext =>
          rw [if_neg (by show ¬ (Array.getD _ _ _ = true); rw [Array.getD_eq_getD_getElem?, Array.getElem?_replicate]; split <;> simp)]
          exact HS0.out.drew
        case hstab =>
          intro j L w9 w' i v hM hij hLi h
          by_cases hl : j = 23
          · subst hl
            simp at h ⊢
            unfold updK; simp [h]
          · simp only [if_neg hl] at h ⊢
            exact h
        case hop =>
          intro i o L t w' ho hLi hx hdep K hK
          have hi : i < 24 := (Array.getElem?_eq_some_iff.1 ho).1
          obtain rfl | rfl | rfl | rfl | rfl | rfl | rfl | rfl | rfl | rfl | rfl | rfl | rfl | rfl | rfl | rfl | rfl | rfl | rfl | rfl | rfl | rfl | rfl | rfl : i = 0 ∨ i = 1 ∨ i = 2 ∨ i = 3 ∨ i = 4 ∨ i = 5 ∨ i = 6 ∨ i = 7 ∨ i = 8 ∨ i = 9 ∨ i = 10 ∨ i = 11 ∨ i = 12 ∨ i = 13 ∨ i = 14 ∨ i = 15 ∨ i = 16 ∨ i = 17 ∨ i = 18 ∨ i = 19 ∨ i = 20 ∨ i = 21 ∨ i = 22 ∨ i = 23 := by omega
          all_goals (simp at ho; subst ho)
          · clear hdep
            have hK' := hK w' (.int .i64 (k : Int)) (by simp) (by simpa [updK] using hx) trivial
            clear hK
            rw [if_pos (by rfl)]
            go_simp
            simpa [upd] using hK'
          · clear hdep
            have hK' := hK w' (.int .i64 (k : Int)) (by simp) (by simpa [updK] using hx) trivial
            clear hK
            rw [if_pos (by rfl)]
            go_simp
            simpa [upd] using hK'
          · have d1 : t 1 = .int .i64 (k : Int) := by simpa using (hdep ⟨1, .data⟩ (by simp) rfl).2
            clear hdep
            have e1 : (k : Int) - 2 = (j14 : Int) := hJ14.out.1
            have e4 : IntKind.i64.wrap (j14 : Int) = (j14 : Int) := by have := hJ14.out.2; rw [IntKind.wrap_i64]; omega
            have hK' := hK w' (.int .i64 (j14 : Int)) (by simp) (by simpa [updK] using hx) trivial
            clear hK
            rw [if_pos (by rfl)]
            go_simp
            simpa [upd, d1, e1, e4] using hK'
          · have d2 : t 2 = .int .i64 (j14 : Int) := by simpa using (hdep ⟨2, .data⟩ (by simp) rfl).2
            clear hdep
            have e2 : (j14 : Int) < 80 := by have := hJ14.out.2; omega
            have hK' := hK w' (.pointer (some ⟨w.heap.size + 1, j14, none⟩)) (by simp) (by simpa [updK] using hx) trivial
            clear hK
            rw [if_pos (by rfl)]
            go_simp
            simpa [upd, d2] using hK'
          · have d3 : t 3 = .pointer (some ⟨w.heap.size + 1, j14, none⟩) := by simpa using (hdep ⟨3, .data⟩ (by simp) rfl).2
            clear hdep
            have hc : w'.cell? ⟨w.heap.size + 1, j14, none⟩ = some (.int .u64 (x14)) := by rw [hX14.out]; exact HCE.out w' L hx j14 (hJ14.out.2)
            have hK' := hK w' (.int .u64 (x14)) (by simp) (by simpa [updK] using hx) trivial
            clear hK
            rw [if_pos (by rfl)]
            go_simp
            simpa [upd, d3] using hK'
          · have d4 : t 4 = .int .u64 (x14) := by simpa using (hdep ⟨4, .data⟩ (by simp) rfl).2
            clear hdep
            have A := s1_any x14 w' U14.out
            have hK' := hK w' (.int .u64 (sg1 x14)) (by simp) (by simpa [updK] using hx) trivial
            clear hK hx
            rw [if_pos (by rfl)]
            go_simp
            try simp only [d4]
            refine A.mono ?_
            rintro e w9 ⟨rfl, h9⟩
            subst h9
            clear A
            go_simp
            simpa [upd, d4] using hK'
          · clear hdep
            have hK' := hK w' (.int .i64 (k : Int)) (by simp) (by simpa [updK] using hx) trivial
            clear hK
            rw [if_pos (by rfl)]
            go_simp
            simpa [upd] using hK'
          · have d6 : t 6 = .int .i64 (k : Int) := by simpa using (hdep ⟨6, .data⟩ (by simp) rfl).2
            clear hdep
            have e1 : (k : Int) - 7 = (j9 : Int) := hJ9.out.1
            have e4 : IntKind.i64.wrap (j9 : Int) = (j9 : Int) := by have := hJ9.out.2; rw [IntKind.wrap_i64]; omega
            have hK' := hK w' (.int .i64 (j9 : Int)) (by simp) (by simpa [updK] using hx) trivial
            clear hK
            rw [if_pos (by rfl)]
            go_simp
            simpa [upd, d6, e1, e4] using hK'
          · have d7 : t 7 = .int .i64 (j9 : Int) := by simpa using (hdep ⟨7, .data⟩ (by simp) rfl).2
            clear hdep
            have e2 : (j9 : Int) < 80 := by have := hJ9.out.2; omega
            have hK' := hK w' (.pointer (some ⟨w.heap.size + 1, j9, none⟩)) (by simp) (by simpa [updK] using hx) trivial
            clear hK
            rw [if_pos (by rfl)]
            go_simp
            simpa [upd, d7] using hK'
          · have d8 : t 8 = .pointer (some ⟨w.heap.size + 1, j9, none⟩) := by simpa using (hdep ⟨8, .data⟩ (by simp) rfl).2
            clear hdep
            have hc : w'.cell? ⟨w.heap.size + 1, j9, none⟩ = some (.int .u64 (x9)) := by rw [hX9.out]; exact HCE.out w' L hx j9 (hJ9.out.2)
            have hK' := hK w' (.int .u64 (x9)) (by simp) (by simpa [updK] using hx) trivial
            clear hK
            rw [if_pos (by rfl)]
            go_simp
            simpa [upd, d8] using hK'
          · have d5 : t 5 = .int .u64 (sg1 x14) := by simpa using (hdep ⟨5, .data⟩ (by simp) rfl).2
            have d9 : t 9 = .int .u64 (x9) := by simpa using (hdep ⟨9, .data⟩ (by simp) rfl).2
            clear hdep
            have hK' := hK w' (.int .u64 (IntKind.u64.wrap (sg1 x14 + x9))) (by simp) (by simpa [updK] using hx) trivial
            clear hK
            rw [if_pos (by rfl)]
            go_simp
            simpa [upd, d5, d9] using hK'
          · clear hdep
            have hK' := hK w' (.int .i64 (k : Int)) (by simp) (by simpa [updK] using hx) trivial
            clear hK
            rw [if_pos (by rfl)]
            go_simp
            simpa [upd] using hK'
          · have d11 : t 11 = .int .i64 (k : Int) := by simpa using (hdep ⟨11, .data⟩ (by simp) rfl).2
            clear hdep
            have e1 : (k : Int) - 15 = (j1 : Int) := hJ1.out.1
            have e4 : IntKind.i64.wrap (j1 : Int) = (j1 : Int) := by have := hJ1.out.2; rw [IntKind.wrap_i64]; omega
            have hK' := hK w' (.int .i64 (j1 : Int)) (by simp) (by simpa [updK] using hx) trivial
            clear hK
            rw [if_pos (by rfl)]
            go_simp
            simpa [upd, d11, e1, e4] using hK'
          · have d12 : t 12 = .int .i64 (j1 : Int) := by simpa using (hdep ⟨12, .data⟩ (by simp) rfl).2
            clear hdep
            have e2 : (j1 : Int) < 80 := by have := hJ1.out.2; omega
            have hK' := hK w' (.pointer (some ⟨w.heap.size + 1, j1, none⟩)) (by simp) (by simpa [updK] using hx) trivial
            clear hK
            rw [if_pos (by rfl)]
            go_simp
            simpa [upd, d12] using hK'
          · have d13 : t 13 = .pointer (some ⟨w.heap.size + 1, j1, none⟩) := by simpa using (hdep ⟨13, .data⟩ (by simp) rfl).2
            clear hdep
            have hc : w'.cell? ⟨w.heap.size + 1, j1, none⟩ = some (.int .u64 (x1)) := by rw [hX1.out]; exact HCE.out w' L hx j1 (hJ1.out.2)
            have hK' := hK w' (.int .u64 (x1)) (by simp) (by simpa [updK] using hx) trivial
            clear hK
            rw [if_pos (by rfl)]
            go_simp
            simpa [upd, d13] using hK'
          · have d14 : t 14 = .int .u64 (x1) := by simpa using (hdep ⟨14, .data⟩ (by simp) rfl).2
            clear hdep
            have A := s0_any x1 w' U1.out
            have hK' := hK w' (.int .u64 (sg0 x1)) (by simp) (by simpa [updK] using hx) trivial
            clear hK hx
            rw [if_pos (by rfl)]
            go_simp
            try simp only [d14]
            refine A.mono ?_
            rintro e w9 ⟨rfl, h9⟩
            subst h9
            clear A
            go_simp
            simpa [upd, d14] using hK'
          · have d10 : t 10 = .int .u64 (IntKind.u64.wrap (sg1 x14 + x9)) := by simpa using (hdep ⟨10, .data⟩ (by simp) rfl).2
            have d15 : t 15 = .int .u64 (sg0 x1) := by simpa using (hdep ⟨15, .data⟩ (by simp) rfl).2
            clear hdep
            have hK' := hK w' (.int .u64 (IntKind.u64.wrap (IntKind.u64.wrap (sg1 x14 + x9) + sg0 x1))) (by simp) (by simpa [updK] using hx) trivial
            clear hK
            rw [if_pos (by rfl)]
            go_simp
            simpa [upd, d10, d15] using hK'
          · clear hdep
            have hK' := hK w' (.int .i64 (k : Int)) (by simp) (by simpa [updK] using hx) trivial
            clear hK
            rw [if_pos (by rfl)]
            go_simp
            simpa [upd] using hK'
          · have d17 : t 17 = .int .i64 (k : Int) := by simpa using (hdep ⟨17, .data⟩ (by simp) rfl).2
            clear hdep
            have e1 : (k : Int) - 16 = (j0 : Int) := hJ0.out.1
            have e4 : IntKind.i64.wrap (j0 : Int) = (j0 : Int) := by have := hJ0.out.2; rw [IntKind.wrap_i64]; omega
            have hK' := hK w' (.int .i64 (j0 : Int)) (by simp) (by simpa [updK] using hx) trivial
            clear hK
            rw [if_pos (by rfl)]
            go_simp
            simpa [upd, d17, e1, e4] using hK'
          · have d18 : t 18 = .int .i64 (j0 : Int) := by simpa using (hdep ⟨18, .data⟩ (by simp) rfl).2
            clear hdep
            have e2 : (j0 : Int) < 80 := by have := hJ0.out.2; omega
            have hK' := hK w' (.pointer (some ⟨w.heap.size + 1, j0, none⟩)) (by simp) (by simpa [updK] using hx) trivial
            clear hK
            rw [if_pos (by rfl)]
            go_simp
            simpa [upd, d18] using hK'
          · have d19 : t 19 = .pointer (some ⟨w.heap.size + 1, j0, none⟩) := by simpa using (hdep ⟨19, .data⟩ (by simp) rfl).2
            clear hdep
            have hc : w'.cell? ⟨w.heap.size + 1, j0, none⟩ = some (.int .u64 (x0)) := by rw [hX0.out]; exact HCE.out w' L hx j0 (hJ0.out.2)
            have hK' := hK w' (.int .u64 (x0)) (by simp) (by simpa [updK] using hx) trivial
            clear hK
            rw [if_pos (by rfl)]
            go_simp
            simpa [upd, d19] using hK'
          · have d16 : t 16 = .int .u64 (IntKind.u64.wrap (IntKind.u64.wrap (sg1 x14 + x9) + sg0 x1)) := by simpa using (hdep ⟨16, .data⟩ (by simp) rfl).2
            have d20 : t 20 = .int .u64 (x0) := by simpa using (hdep ⟨20, .data⟩ (by simp) rfl).2
            clear hdep
            have hK' := hK w' (.int .u64 (IntKind.u64.wrap (IntKind.u64.wrap (IntKind.u64.wrap (sg1 x14 + x9) + sg0 x1) + x0))) (by simp) (by simpa [updK] using hx) trivial
            clear hK
            rw [if_pos (by rfl)]
            go_simp
            simpa [upd, d16, d20] using hK'
          · have d0 : t 0 = .int .i64 (k : Int) := by simpa using (hdep ⟨0, .data⟩ (by simp) rfl).2
            clear hdep
            have hK' := hK w' (.pointer (some ⟨w.heap.size + 1, k, none⟩)) (by simp) (by simpa [updK] using hx) trivial
            clear hK
            rw [if_pos (by rfl)]
            go_simp
            simpa [upd, d0] using hK'
          · have d21 : t 21 = .int .u64 (IntKind.u64.wrap (IntKind.u64.wrap (IntKind.u64.wrap (sg1 x14 + x9) + sg0 x1) + x0)) := by simpa using (hdep ⟨21, .data⟩ (by simp) rfl).2
            have d22 : t 22 = .pointer (some ⟨w.heap.size + 1, k, none⟩) := by simpa using (hdep ⟨22, .data⟩ (by simp) rfl).2
            clear hdep
            rw [hLi, if_neg (by decide)] at hx
            have hc : w'.cell? ⟨w.heap.size + 1, k, none⟩ = some (.int .u64 0) := hx.cell0 k (Nat.le_refl _) (by omega)
            have hf : w'.frozen? ⟨w.heap.size + 1, k, none⟩ = false := hx.row.frozen _
            have hn := HST.out w' hx
            rw [hWD.out] at hn
            have hK' := hK _ undef (by simp [updK]) (by rw [if_pos (by simp [updK])]; exact hn) trivial
            clear hK hx hn
            rw [if_pos (by rfl)]
            go_simp
            simpa [upd, d21, d22] using hK'
        case hdone =>
          intro L t w4 hx hg
          have hlast : L 23 = true := by simpa using hg 23 (by decide)
          rw [if_pos hlast] at hx
          clear hg hlast
          have HX := hid_ofS hx
          clear hx
          go_wp2
          go_roundw
          case rel => exact ⟨k + 1, by omega, by go_num, HX.out⟩
          case measure => simp [intOf]; omega
    · obtain rfl : k = 80 := by omega
      have H1 := hid_ofS hst.row
      have H2 := hid_ofS hst.res
      have H3 := hid_ofS hst.below
      clear hst
      go_wp2_with (first
        | (refine wpList_loadW rfl (.tmp 3) rfl Tryd.underlying101 Tryd.sizeSch (w.heap.size + 1) (schA bs 80) rfl (schA_len _ _) H1.out ?_)
        | (refine wpList_storeW rfl (.tmp 2) (.tmp 40) rfl Tryd.sizeSch w.heap.size (schA bs 80) (List.replicate 80 0) rfl rfl (schA_len _ _) (by simp) H2.out ?_)
        | fail)
      intro w3 hr3 hw3
      have HB3 : Hid (Below w.heap.size w w3) := H3.out.trans (hw3.below (Nat.le_refl _))
      have HR3 := hid_ofS hr3
      clear hr3 hw3 H1 H2 H3
      go_wp2
      exact bodyPost_ret (v := .agg ((schA bs 80).map (Value.int .u64)).toArray) (results_cell_row rfl _ _ w.heap.size 101 _ (0, 0) _ rfl HR3.out Tryd.underlying101 rfl (by rw [Tryd.sizeSch]; simp [schA_len])) rfl ⟨rfl, HB3.out⟩
end Go.Proofs.YtclmhdhblghfnaaDoor
