/-
  Own work: the law on EncodeSnap (written by wip/mklsn.py).
-/
import Derived.Test.YthghkfncpdnpoacArSn
import Derived.Test.YthghkfncpdnpoacToSn
import Derived.Test.YthghkfncpdnpoacEqSn
import Derived.Test.YthghkfncpdnpoacSzSn
import Derived.Test.YthghkfncpdnpoacSnZ
import Derived.Deep.Cut
namespace Go.Proofs.Ythghkfncpdnpoac.fnExactEncodeSnap
open Go.ChangeShapes Go.WideShapes Go.ChangeAt Go.RowKit
set_option linter.unusedVariables false

/-- A copy, as a value. -/
def TSnV (D U : List Int) (nD nU : Nat) (gn tl : Int) (w : World) (v : Value) : Prop := ∃ gD gU, v = .agg #[.int .u32 gn, .int .u32 tl, .slice (some ⟨gD, 0, none⟩) nD nD, .slice (some ⟨gU, 0, none⟩) nU nU] ∧ RowV w gD 2 (iC D) ∧ RowV w gU 2 (iC U)
theorem TSnV.below {D U : List Int} {nD nU : Nat} {gn tl : Int} {w w' : World} {v : Value} (h : TSnV D U nD nU gn tl w v) (b : Below w.heap.size w w') : TSnV D U nD nU gn tl w' v := by
  obtain ⟨gD, gU, e, rD, rU⟩ := h
  exact ⟨gD, gU, e, rD.below b, rU.below b⟩
theorem TSnV.elim_ {D U : List Int} {nD nU : Nat} {gn tl : Int} {w : World} {v : Value} {C : Prop} (h : TSnV D U nD nU gn tl w v) (q : ∀ gD gU, v = .agg #[.int .u32 gn, .int .u32 tl, .slice (some ⟨gD, 0, none⟩) nD nD, .slice (some ⟨gU, 0, none⟩) nU nU] → RowV w gD 2 (iC D) → RowV w gU 2 (iC U) → C) : C := by
  obtain ⟨gD, gU, e, rD, rU⟩ := h
  exact q gD gU e rD rU
/-- The two answers, and where they lie. -/
structure LQ (zs : List Int) (m : Nat) (a4 a6 : Option Addr) (gD gU X L3 L5 : Nat) (w' : World) : Prop where
  at4 : At .u8 w' a4 zs
  at6 : At .u8 w' a6 zs
  op6 : Open w' a6 m
  l4 : ∀ ad, a4 = some ad → ad.block < L3
  l6 : ∀ ad, a6 = some ad → L5 ≤ ad.block ∧ ad.block < w'.heap.size
  h1 : L3 ≤ gD
  h2 : gD < gU
  h3 : gU < X
  h4 : X < L5
  h5 : L5 ≤ w'.heap.size
theorem At.same {k : IntKind} {w w' : World} {a : Option Addr} {zs : List Int} (h : At k w a zs) (hs : w.heap.size ≤ w'.heap.size) (hb : ∀ ad, a = some ad → w'.heap[ad.block]? = w.heap[ad.block]?) : At k w' a zs := by
  rcases h with h | ⟨b, o, rfl, hl, hc⟩
  · exact .inl h
  · exact .inr ⟨b, o, rfl, by omega, fun i hi => by rw [World.cell?_of_block (w := w) (a := ⟨b, o + i, none⟩) (hb ⟨b, o, none⟩ rfl)]; exact hc i hi⟩
theorem Open.same {w w' : World} {a : Option Addr} {m : Nat} (h : Open w a m) (hs : w.heap.size ≤ w'.heap.size) (hb : ∀ ad, a = some ad → w'.heap[ad.block]? = w.heap[ad.block]?) : Open w' a m := by
  rcases h with h | ⟨b, o, rfl, hl, hc⟩
  · exact .inl h
  · exact .inr ⟨b, o, rfl, by omega, fun i hi => by rw [World.cell?_of_block (w := w) (a := ⟨b, o + i, none⟩) (hb ⟨b, o, none⟩ rfl), World.frozen?_of_block (w := w) (a := ⟨b, o + i, none⟩) (hb ⟨b, o, none⟩ rfl)]; exact hc i hi⟩
section
variable {zs : List Int} {m : Nat} {a4 a6 : Option Addr} {gD gU X L3 L5 : Nat} {w w' : World}
theorem LQ.lt4 (h : LQ zs m a4 a6 gD gU X L3 L5 w) : ∀ ad, a4 = some ad → ad.block < w.heap.size := fun ad e => by
  have := h.l4 ad e; have := h.h1; have := h.h2; have := h.h3; have := h.h4; have := h.h5; omega
theorem LQ.below (h : LQ zs m a4 a6 gD gU X L3 L5 w) (b : Below w.heap.size w w') : LQ zs m a4 a6 gD gU X L3 L5 w' :=
  ⟨At.same h.at4 b.size (fun ad e => b.block _ (h.lt4 ad e)), At.same h.at6 b.size (fun ad e => b.block _ (h.l6 ad e).2), Open.same h.op6 b.size (fun ad e => b.block _ (h.l6 ad e).2), h.l4, fun ad e => ⟨(h.l6 ad e).1, Nat.lt_of_lt_of_le (h.l6 ad e).2 b.size⟩, h.h1, h.h2, h.h3, h.h4, Nat.le_trans h.h5 b.size⟩
theorem LQ.mark (h : LQ zs m a4 a6 gD gU X L3 L5 w) (hs : w.heap.size ≤ w'.heap.size) (hb : ∀ j, j < w.heap.size → j ≠ gD → j ≠ gU → w'.heap[j]? = w.heap[j]?) : LQ zs m a4 a6 gD gU X L3 L5 w' := by
  have h1 := h.h1; have h2 := h.h2; have h3 := h.h3; have h4 := h.h4
  have e6 : ∀ ad, a6 = some ad → w'.heap[ad.block]? = w.heap[ad.block]? := fun ad e => by have := h.l6 ad e; exact hb _ this.2 (by omega) (by omega)
  exact ⟨At.same h.at4 hs (fun ad e => by have := h.l4 ad e; exact hb _ (h.lt4 ad e) (by omega) (by omega)), At.same h.at6 hs e6, Open.same h.op6 hs e6, h.l4, fun ad e => ⟨(h.l6 ad e).1, Nat.lt_of_lt_of_le (h.l6 ad e).2 hs⟩, h.h1, h.h2, h.h3, h.h4, Nat.le_trans h.h5 hs⟩
end
set_option maxRecDepth 100000 in
set_option maxHeartbeats 8000000 in
theorem walk (aD aU : Option Addr) (nD cD nU cU : Nat) (D U : List Int) (gn tl : Int) (w : World) (hD : D.length = nD) (hU : U.length = nU) (MD : nD ≤ 9223372036854775807) (MU : nU ≤ 9223372036854775807) (AD : At .i64 w aD D) (AU : At .i64 w aU U) (ug : U32 gn) (ut : U32 tl) :
    Calls Try.prog 8 #[.agg #[.int .u32 gn, .int .u32 tl, .slice aD nD cD, .slice aU nU cU]] w fun e w' => e = .returned (.bool true) ∧ Below w.heap.size w w' := by
  have HZ : Hid (∀ left n, szQ left n = if left < n then -1 else left - n) := fun _ _ => rfl
  have HS0 : Hid (OE w 50 #[.int .u32 gn, .int .u32 tl, .slice aD nD cD, .slice aU nU cU] (w.alloc (.cells #[.int .u32 gn, .int .u32 tl, .slice aD nD cD, .slice aU nU cU] 50))) := OE.start _ _ _
  have HAD : Hid (At .i64 w aD D) := AD
  have HLD : Hid (D.length = nD) := hD
  have HAU : Hid (At .i64 w aU U) := AU
  have HLU : Hid (U.length = nU) := hU
  have HUU : Hid (U32 gn ∧ U32 tl) := ⟨ug, ut⟩
  clear AD AU hD hU ug ut
  go_enter Try.func8, Try.ntmps8
  go_wp2_with fail
  refine (szSn_any aD aU nD cD nU cU gn tl 1048576 _ (by decide) (by decide) MD MU).mono ?_
  rintro e w1 ⟨rfl, hb1⟩
  have HS1 : Hid (OE w 50 #[.int .u32 gn, .int .u32 tl, .slice aD nD cD, .slice aU nU cU] w1) := HS0.out.call hb1
  clear HS0 hb1
  by_cases hbig : (1048576 : Int) < ((nD + nU : Nat) : Int)
  · have hr : szQ 1048576 (nD + nU) = -1 := by rw [HZ.out, if_pos hbig]
    rw [hr]
    have HB1 : Hid (Below w.heap.size w w1) := HS1.out.below
    clear HS1 hr hbig
    go_wp2
    go_ret
    exact ⟨rfl, HB1.out⟩
  have hr : szQ 1048576 (nD + nU) = 1048576 - ((nD + nU : Nat) : Int) := by rw [HZ.out, if_neg hbig]
  have mD : nD ≤ 1048576 := by omega
  have mU : nU ≤ 1048576 := by omega
  have hneg : ¬ (szQ 1048576 (nD + nU) < 0) := by rw [hr]; omega
  generalize szQ 1048576 (nD + nU) = left at *
  clear hr hbig MD MU HZ
  have x0 : w1.cell? ⟨w.heap.size, 0, none⟩ = some (.int .u32 gn) := by rw [cell_of_row w1 w.heap.size 0 _ _ _ HS1.out.b0]; rfl
  have x1 : w1.cell? ⟨w.heap.size, 1, none⟩ = some (.int .u32 tl) := by rw [cell_of_row w1 w.heap.size 1 _ _ _ HS1.out.b0]; rfl
  have x2 : w1.cell? ⟨w.heap.size, 2, none⟩ = some (.slice aD nD cD) := by rw [cell_of_row w1 w.heap.size 2 _ _ _ HS1.out.b0]; rfl
  have x3 : w1.cell? ⟨w.heap.size, 3, none⟩ = some (.slice aU nU cU) := by rw [cell_of_row w1 w.heap.size 3 _ _ _ HS1.out.b0]; rfl
  go_wp2_with fail
  clear x0 x1 x2 x3
  refine (toSn_any aD aU nD cD nU cU D U gn tl _ HLD.out HLU.out mD mU (HAD.out.below HS1.out.below) (HAU.out.below HS1.out.below)).mono ?_
  rintro e w2 ⟨gD, gU, rfl, oD, oU, rD, rU, hb2⟩
  have HS2 : Hid (OE w 50 #[.int .u32 gn, .int .u32 tl, .slice aD nD cD, .slice aU nU cU] w2) := HS1.out.call hb2
  have HC := hid_of (sesV_any gn tl (some ⟨gD, 0, none⟩) (some ⟨gU, 0, none⟩) nD nD nU nU D U w2 HLD.out HLU.out mD mU rD.i64 rU.i64 HUU.out.1 HUU.out.2)
  clear oD oU rD rU hb2 HS1
  go_wp2_with fail
  refine HC.out.mono ?_
  rintro e w3 ⟨v4, rfl, hv4, hb3⟩
  have HS3 : Hid (OE w 50 #[.int .u32 gn, .int .u32 tl, .slice aD nD cD, .slice aU nU cU] w3) := HS2.out.call hb3
  clear HC HS2 hb3
  generalize hq : snE gn tl D U = zs at *
  have HQ : Hid (snE gn tl D U = zs ∧ zs.length ≤ 1048576) := ⟨hq, by rw [← hq]; have := snE_len gn tl D U; omega⟩
  obtain ⟨a4, c4, rfl, A4, _, l4⟩ := hv4
  have E4 : Hid (At .u8 w3 a4 zs ∧ ∀ ad, a4 = some ad → ad.block < w3.heap.size) := ⟨A4, fun ad e => (l4 ad e).2⟩
  clear hq A4 l4
  generalize hm : zs.length = m at *
  have HM := hid_of hm
  clear hm
  have x0 : w3.cell? ⟨w.heap.size, 0, none⟩ = some (.int .u32 gn) := by rw [cell_of_row w3 w.heap.size 0 _ _ _ HS3.out.b0]; rfl
  have x1 : w3.cell? ⟨w.heap.size, 1, none⟩ = some (.int .u32 tl) := by rw [cell_of_row w3 w.heap.size 1 _ _ _ HS3.out.b0]; rfl
  have x2 : w3.cell? ⟨w.heap.size, 2, none⟩ = some (.slice aD nD cD) := by rw [cell_of_row w3 w.heap.size 2 _ _ _ HS3.out.b0]; rfl
  have x3 : w3.cell? ⟨w.heap.size, 3, none⟩ = some (.slice aU nU cU) := by rw [cell_of_row w3 w.heap.size 3 _ _ _ HS3.out.b0]; rfl
  go_wp2_with fail
  clear x0 x1 x2 x3
  refine (toSn_any aD aU nD cD nU cU D U gn tl _ HLD.out HLU.out mD mU (HAD.out.below HS3.out.below) (HAU.out.below HS3.out.below)).mono ?_
  rintro e w4 ⟨gD, gU, rfl, oD, oU, rD, rU, hb4⟩
  have b5 : Below w4.heap.size w4 (w4.alloc (.cells #[.int .u32 gn, .int .u32 tl, .slice (some ⟨gD, 0, none⟩) nD nD, .slice (some ⟨gU, 0, none⟩) nU nU] 53)) := (Below.refl _ _).alloc (Nat.le_refl _) _
  have HS5 : Hid (OE w 50 #[.int .u32 gn, .int .u32 tl, .slice aD nD cD, .slice aU nU cU] (w4.alloc (.cells #[.int .u32 gn, .int .u32 tl, .slice (some ⟨gD, 0, none⟩) nD nD, .slice (some ⟨gU, 0, none⟩) nU nU] 53))) := (HS3.out.call hb4).call b5
  have HX5 : Hid ((w4.alloc (.cells #[.int .u32 gn, .int .u32 tl, .slice (some ⟨gD, 0, none⟩) nD nD, .slice (some ⟨gU, 0, none⟩) nU nU] 53)).heap[w4.heap.size]? = some (.cells #[.int .u32 gn, .int .u32 tl, .slice (some ⟨gD, 0, none⟩) nD nD, .slice (some ⟨gU, 0, none⟩) nU nU] 53 (0, 0))) := heap_alloc_new w4 _
  have HPD : Hid (RowV (w4.alloc (.cells #[.int .u32 gn, .int .u32 tl, .slice (some ⟨gD, 0, none⟩) nD nD, .slice (some ⟨gU, 0, none⟩) nU nU] 53)) gD 2 (iC D)) := rD.below b5
  have HPU : Hid (RowV (w4.alloc (.cells #[.int .u32 gn, .int .u32 tl, .slice (some ⟨gD, 0, none⟩) nD nD, .slice (some ⟨gU, 0, none⟩) nU nU] 53)) gU 2 (iC U)) := rU.below b5
  have E5 : Hid (At .u8 (w4.alloc (.cells #[.int .u32 gn, .int .u32 tl, .slice (some ⟨gD, 0, none⟩) nD nD, .slice (some ⟨gU, 0, none⟩) nU nU] 53)) a4 zs ∧ (∀ ad, a4 = some ad → ad.block < w3.heap.size) ∧ w3.heap.size ≤ gD ∧ gD < gU ∧ gU < w4.heap.size ∧ w4.heap.size < (w4.alloc (.cells #[.int .u32 gn, .int .u32 tl, .slice (some ⟨gD, 0, none⟩) nD nD, .slice (some ⟨gU, 0, none⟩) nU nU] 53)).heap.size) := ⟨(E4.out.1.below hb4).below b5, E4.out.2, oD, oU, rU.lt, by simp⟩
  have HGL : Hid (w.heap.size < gD) := Nat.lt_of_lt_of_le HS3.out.lt oD
  have HC := hid_of (iesV_any gn tl (some ⟨gD, 0, none⟩) (some ⟨gU, 0, none⟩) nD nD nU nU D U (w4.alloc (.cells #[.int .u32 gn, .int .u32 tl, .slice (some ⟨gD, 0, none⟩) nD nD, .slice (some ⟨gU, 0, none⟩) nU nU] 53)) HLD.out HLU.out mD mU HPD.out.i64 HPU.out.i64 HUU.out.1 HUU.out.2)
  rw [HQ.out.1] at HC
  clear oD oU rD rU hb4 HS3 b5 E4
  go_wp2_with fail
  generalize (w4.alloc (.cells #[.int .u32 gn, .int .u32 tl, .slice (some ⟨gD, 0, none⟩) nD nD, .slice (some ⟨gU, 0, none⟩) nU nU] 53)) = w5 at *
  generalize w4.heap.size = X at *
  generalize w3.heap.size = L3 at *
  refine HC.out.mono ?_
  rintro e w6 ⟨v6, rfl, hv6, hb6⟩
  obtain ⟨a6, c6, rfl, A6, O6, l6⟩ := hv6
  rw [HM.out] at O6
  have HQ6 : Hid (LQ zs m a4 a6 gD gU X L3 w5.heap.size w6) := ⟨E5.out.1.below hb6, A6, O6, E5.out.2.1, l6, E5.out.2.2.1, E5.out.2.2.2.1, E5.out.2.2.2.2.1, E5.out.2.2.2.2.2, hb6.size⟩
  have HS6 : Hid (OE w 50 #[.int .u32 gn, .int .u32 tl, .slice aD nD cD, .slice aU nU cU] w6) := HS5.out.call hb6
  have hX5 : X < w5.heap.size := (Array.getElem?_eq_some_iff.1 HX5.out).1
  have HX6 : Hid (w6.heap[X]? = some (.cells #[.int .u32 gn, .int .u32 tl, .slice (some ⟨gD, 0, none⟩) nD nD, .slice (some ⟨gU, 0, none⟩) nU nU] 53 (0, 0))) := by show _ = _; rw [hb6.block _ hX5]; exact HX5.out
  have HR6 : Hid (RowV w6 gD 2 (iC D) ∧ RowV w6 gU 2 (iC U)) := ⟨HPD.out.below hb6, HPU.out.below hb6⟩
  clear HC HS5 HX5 hb6 hX5 HPD HPU E5 A6 O6 l6
  generalize w5.heap.size = L5 at *
  simp only [HM.out]
  go_wp2_with fail
  refine (eqB_any a6 a4 m c6 c4 zs w6 HM.out HQ.out.2 HQ6.out.at6 HQ6.out.at4).mono ?_
  rintro e w7 ⟨rfl, q, hw7⟩
  have hb7 : Below w6.heap.size w6 w7 := by rw [hw7]; exact ⟨rfl, rfl, rfl, Nat.le_refl _, fun _ _ => rfl⟩
  have HS7 : Hid (OE w 50 #[.int .u32 gn, .int .u32 tl, .slice aD nD cD, .slice aU nU cU] w7) := HS6.out.call hb7
  have HQ7 : Hid (LQ zs m a4 a6 gD gU X L3 L5 w7) := HQ6.out.below hb7
  have hX6 : X < w6.heap.size := (Array.getElem?_eq_some_iff.1 HX6.out).1
  have HX7 : Hid (w7.heap[X]? = some (.cells #[.int .u32 gn, .int .u32 tl, .slice (some ⟨gD, 0, none⟩) nD nD, .slice (some ⟨gU, 0, none⟩) nU nU] 53 (0, 0))) := by show _ = _; rw [hb7.block _ hX6]; exact HX6.out
  have hX7 : X < w7.heap.size := (Array.getElem?_eq_some_iff.1 HX7.out).1
  have HRD : Hid (RowV w7 gD 2 (iC D)) := HR6.out.1.below hb7
  have HRU : Hid (RowV w7 gU 2 (iC U)) := HR6.out.2.below hb7
  have HSZ : Hid ((Try.prog.info? 53).map (·.size) = some 4) := by show _ = _; kernel_rfl
  have HSL : Hid ((Try.prog.info? 50).map (·.size) = some 4) := by show _ = _; kernel_rfl
  clear hw7 hb7 HS6 HQ6 hX6 HX6 HR6
  go_wp2_with fail
  refine wp_region_any (by kernel_rfl) ?_
  refine wpAny_slotsU (fun _ a b => Below a.heap.size a b) (frame := (fun (c0 c1 c2 c3 c4 c5 c6 c7 c8 c9 c10 c11 c12 c13 c14 c15 c16 c17 c18 c19 c20 c21 c22 c23 c24 c25 c26 c32 c33 c34 c35 c36 c37 c38 c39 c40 c41 c42 c43 c44 c45 c46 c47 c48 c49 c50 c51 c52 c53 c54 c55 c56 c57 c58 c59 c60 : Value) => fun (t : Nat → Value) => ({ tmps := List.toArray (c0 :: c1 :: c2 :: c3 :: c4 :: c5 :: c6 :: c7 :: c8 :: c9 :: c10 :: c11 :: c12 :: c13 :: c14 :: c15 :: c16 :: c17 :: c18 :: c19 :: c20 :: c21 :: c22 :: c23 :: c24 :: c25 :: c26 :: t 0 :: t 1 :: t 2 :: t 3 :: t 4 :: c32 :: c33 :: c34 :: c35 :: c36 :: c37 :: c38 :: c39 :: c40 :: c41 :: c42 :: c43 :: c44 :: c45 :: c46 :: c47 :: c48 :: c49 :: c50 :: c51 :: c52 :: c53 :: c54 :: c55 :: c56 :: c57 :: c58 :: c59 :: c60 :: []), defers := [] } : Act)) _ _ _ _ _ _ _ _ _ _ _ _ _ _ _ _ _ _ _ _ _ _ _ _ _ _ _ _ _ _ _ _ _ _ _ _ _ _ _ _ _ _ _ _ _ _ _ _ _ _ _ _ _ _ _ _)
    (Ext := fun L u w' => ApX w7 [] L u w') (Good := fun i L w' v => if i = 0 then v = .agg #[.int .u32 gn, .int .u32 tl, .slice (some ⟨gD, 0, none⟩) nD nD, .slice (some ⟨gU, 0, none⟩) nU nU] else if i = 1 then v = .agg #[.int .u32 gn, .int .u32 tl, .slice aD nD cD, .slice aU nU cU] else if i = 2 then TSnV D U nD nU gn tl w' v else if i = 3 then v = .bool true else if i = 4 then v = .bool false else True) ?hstab (by kernel_rfl) ?hop ?hdone _ _ ((fun (x0 x1 x2 x3 x4 : Value) => fun (i : Nat) => if i = 0 then x0 else if i = 1 then x1 else if i = 2 then x2 else if i = 3 then x3 else if i = 4 then x4 else undef) _ _ _ _ _) _ (by simp) ?ext ?start (by simp)
  case start => intro i hi h; exact absurd h (by rw [Array.getD_eq_getD_getElem?, Array.getElem?_replicate]; split <;> simp)
  case ext => exact (ApX.start w7 [] _ _ (fun i => by rw [Array.getD_eq_getD_getElem?, Array.getElem?_replicate]; split <;> rfl)).drew
  case hstab =>
    intro j L w9 w' i v hM _ _ h
    by_cases h2 : j = 2
    · subst h2
      simp at h ⊢
      exact h.below hM
    simp only [if_neg h2] at h ⊢
    exact h
  case hop =>
    intro i o L t w' ho hLi hx hdep K hK
    have hi : i < 5 := (Array.getElem?_eq_some_iff.1 ho).1
    obtain rfl | rfl | rfl | rfl | rfl : i = 0 ∨ i = 1 ∨ i = 2 ∨ i = 3 ∨ i = 4 := by omega
    all_goals (simp at ho; subst ho)
    · clear hdep
      have hr : w'.heap[X]? = some (.cells #[.int .u32 gn, .int .u32 tl, .slice (some ⟨gD, 0, none⟩) nD nD, .slice (some ⟨gU, 0, none⟩) nU nU] 53 (0, 0)) := by rw [hx.below.block _ hX7]; exact HX7.out
      have hK' := hK w' (.agg #[.int .u32 gn, .int .u32 tl, .slice (some ⟨gD, 0, none⟩) nD nD, .slice (some ⟨gU, 0, none⟩) nU nU]) (by simp) (hx.step 0 _ (Below.refl _ _) (fun h => absurd h (by decide))) (Below.refl _ _)
      clear hK
      rw [if_pos (by rfl)]
      refine wp_load_row 53 (.tmp 5) rfl X rfl 53 _ (0, 0) _ hr Try.underlying53 rfl HSZ.out ?_
      go_simp
      simpa [upd] using hK'
    · clear hdep
      have hr : w'.heap[w.heap.size]? = some (.cells #[.int .u32 gn, .int .u32 tl, .slice aD nD cD, .slice aU nU cU] 50 (0, 0)) := by rw [hx.below.block _ HS7.out.lt]; exact HS7.out.b0
      have hK' := hK w' (.agg #[.int .u32 gn, .int .u32 tl, .slice aD nD cD, .slice aU nU cU]) (by simp) (hx.step 1 _ (Below.refl _ _) (fun h => absurd h (by decide))) (Below.refl _ _)
      clear hK
      rw [if_pos (by rfl)]
      refine wp_load_row 50 (.tmp 1) rfl w.heap.size rfl 50 _ (0, 0) _ hr Try.underlying50 rfl HSL.out ?_
      go_simp
      simpa [upd] using hK'
    · have d1 : t 1 = .agg #[.int .u32 gn, .int .u32 tl, .slice aD nD cD, .slice aU nU cU] := by simpa using (hdep ⟨1, .data⟩ (by simp) rfl).2
      clear hdep
      have bw : Below w.heap.size w w' := HS7.out.below.trans (hx.below.mono HS7.out.below.size)
      have A := toSn_any aD aU nD cD nU cU D U gn tl w' HLD.out HLU.out mD mU (HAD.out.below bw) (HAU.out.below bw)
      have hK' : ∀ ww v, TSnV D U nD nU gn tl ww v → Below w'.heap.size w' ww → K _ ww := fun ww v hv hb => hK ww v (by simpa using hv) (hx.step 2 v hb (fun h => absurd h (by decide))) hb
      clear hK
      rw [if_pos (by rfl)]
      go_simp
      try simp only [d1]
      refine A.mono ?_
      rintro e w9 ⟨hD', hU', rfl, _, _, rD, rU, hb9⟩
      have hK2 := hK' w9 _ ⟨hD', hU', rfl, rD, rU⟩  hb9
      clear hK' A rD rU bw hb9
      go_simp
      simpa [upd, d1] using hK2
    · have d0 : t 0 = .agg #[.int .u32 gn, .int .u32 tl, .slice (some ⟨gD, 0, none⟩) nD nD, .slice (some ⟨gU, 0, none⟩) nU nU] := by simpa using (hdep ⟨0, .data⟩ (by simp) rfl).2
      have f2 : TSnV D U nD nU gn tl w' (t 2) := by simpa using (hdep ⟨2, .data⟩ (by simp) rfl).2
      clear hdep
      refine f2.elim_ fun hD' hU' d2 rD rU => ?_
      have A := eqSn_any (some ⟨gD, 0, none⟩) (some ⟨hD', 0, none⟩) (some ⟨gU, 0, none⟩) (some ⟨hU', 0, none⟩) nD nD nD nU nU nU D U gn tl w' HLD.out HLU.out mD mU (HRD.out.i64.below hx.below) rD.i64 (HRU.out.i64.below hx.below) rU.i64
      have hK' : ∀ ww, Below w'.heap.size w' ww → K _ ww := fun ww hb => hK ww (.bool true) (by simp) (hx.step 3 _ hb (fun h => absurd h (by decide))) hb
      clear hK rD rU
      rw [if_pos (by rfl)]
      go_simp
      try simp only [d0, d2]
      refine A.mono ?_
      rintro e w9 ⟨rfl, hb⟩
      have hK2 := hK' w9 hb
      clear hK' A hb
      go_simp
      simpa [upd, d0, d2] using hK2
    · have d3 : t 3 = .bool true := by simpa using (hdep ⟨3, .data⟩ (by simp) rfl).2
      clear hdep
      have hK' := hK w' (.bool false) (by simp) (hx.step 4 _ (Below.refl _ _) (fun h => absurd h (by decide))) (Below.refl _ _)
      clear hK
      rw [if_pos (by rfl)]
      go_simp
      simpa [upd, d3] using hK'
  case hdone =>
    intro L t w8 hx hg
    have d4 : t 4 = .bool false := by simpa using hg 4 (by decide)
    clear hg
    have HS8 : Hid (OE w 50 #[.int .u32 gn, .int .u32 tl, .slice aD nD cD, .slice aU nU cU] w8) := HS7.out.call hx.below
    have HX8 : Hid (w8.heap[X]? = some (.cells #[.int .u32 gn, .int .u32 tl, .slice (some ⟨gD, 0, none⟩) nD nD, .slice (some ⟨gU, 0, none⟩) nU nU] 53 (0, 0))) := by show _ = _; rw [hx.below.block _ hX7]; exact HX7.out
    have HQ8 : Hid (LQ zs m a4 a6 gD gU X L3 L5 w8) := HQ7.out.below hx.below
    have HR8 : Hid (RowV w8 gD 2 (iC D) ∧ RowV w8 gU 2 (iC U)) := ⟨HRD.out.below hx.below, HRU.out.below hx.below⟩
    simp only [d4]
    clear hx d4 HS7 HX7 HQ7 HRD HRU hX7
    have y0 : w8.cell? ⟨X, 0, none⟩ = some (.int .u32 gn) := by rw [cell_of_row w8 X 0 _ _ _ HX8.out]; rfl
    have y1 : w8.cell? ⟨X, 1, none⟩ = some (.int .u32 tl) := by rw [cell_of_row w8 X 1 _ _ _ HX8.out]; rfl
    have y2 : w8.cell? ⟨X, 2, none⟩ = some (.slice (some ⟨gD, 0, none⟩) nD nD) := by rw [cell_of_row w8 X 2 _ _ _ HX8.out]; rfl
    have y3 : w8.cell? ⟨X, 3, none⟩ = some (.slice (some ⟨gU, 0, none⟩) nU nU) := by rw [cell_of_row w8 X 3 _ _ _ HX8.out]; rfl
    go_wp2_with fail
    clear y0 y1 y2 y3
    refine (markSn_any gn tl gD gU nD nU 1 w8 (HR8.out.1.opn2 HLD.out) (HR8.out.2.opn2 HLU.out) HQ8.out.h2 HR8.out.2.lt (by decide) (by omega)).mono ?_
    rintro e w9 ⟨rfl, hs9, hb9, hj9⟩
    have HQ9 : Hid (LQ zs m a4 a6 gD gU X L3 L5 w9) := HQ8.out.mark hs9 hj9
    have HS9 : Hid (OE w 50 #[.int .u32 gn, .int .u32 tl, .slice aD nD cD, .slice aU nU cU] w9) := by
      have hlt := HGL.out
      exact ⟨HS8.out.below.trans (hb9.mono (by omega)), by rw [hb9.block _ (by omega)]; exact HS8.out.b0⟩
    clear hs9 hb9 hj9 HR8 HX8 HS8 HQ8
    have hng : ¬ ((1 : Int) + nD + nU < 0) := by omega
    generalize (1 : Int) + nD + nU = r9 at *
    go_wp2_with fail
    refine (eqB_any a6 a4 m c6 c4 zs w9 HM.out HQ.out.2 HQ9.out.at6 HQ9.out.at4).mono ?_
    rintro e w10 ⟨rfl, q1, hw10⟩
    have hb10 : Below w9.heap.size w9 w10 := by rw [hw10]; exact ⟨rfl, rfl, rfl, Nat.le_refl _, fun _ _ => rfl⟩
    have HS10 : Hid (OE w 50 #[.int .u32 gn, .int .u32 tl, .slice aD nD cD, .slice aU nU cU] w10) := HS9.out.call hb10
    have HQ10 : Hid (LQ zs m a4 a6 gD gU X L3 L5 w10) := HQ9.out.below hb10
    clear hw10 hb10 HS9 HQ9
    go_wp2_with fail
    have hm20 : m ≤ 1048576 := HQ.out.2
    refine (markB_any a6 m c6 1 w10 HQ10.out.op6 (by decide) (by omega)).mono ?_
    rintro e w11 ⟨rfl, hm11, hw11⟩
    have hG := HGL.out
    have h1 := HQ10.out.h1; have h2 := HQ10.out.h2; have h3 := HQ10.out.h3; have h4 := HQ10.out.h4
    have HA11 : Hid (At .u8 w11 a4 zs) := At.same HQ10.out.at4 (by rw [hw11.size]; exact Nat.le_refl _) (fun ad e => hw11.block _ (fun ad6 e6 => by have := HQ10.out.l4 ad e; have := (HQ10.out.l6 ad6 e6).1; omega))
    have b11 : Below L5 w10 w11 := hw11.below L5 (fun ad e => (HQ10.out.l6 ad e).1)
    have HS11 : Hid (OE w 50 #[.int .u32 gn, .int .u32 tl, .slice aD nD cD, .slice aU nU cU] w11) := ⟨HS10.out.below.trans (b11.mono (by omega)), by rw [b11.block _ (by omega)]; exact HS10.out.b0⟩
    have HM11 : Hid (At .u8 w11 a6 (marks 1 m)) := hm11
    clear hw11 b11 hm11 hG h1 h2 h3 h4 HS10 HQ10 HGL
    go_wp2_with fail
    refine (heldB_any a6 m c6 1 w11 HM11.out (by decide) (by omega)).mono ?_
    rintro e w12 ⟨rfl, hw12⟩
    subst w12
    clear HM11
    have hn1 : ¬ ((1 : Int) + m < 0) := by omega
    have hn2 : ((1 : Int) + m != 1 + m) = false := by simp
    have x0 : w11.cell? ⟨w.heap.size, 0, none⟩ = some (.int .u32 gn) := by rw [cell_of_row w11 w.heap.size 0 _ _ _ HS11.out.b0]; rfl
    have x1 : w11.cell? ⟨w.heap.size, 1, none⟩ = some (.int .u32 tl) := by rw [cell_of_row w11 w.heap.size 1 _ _ _ HS11.out.b0]; rfl
    have x2 : w11.cell? ⟨w.heap.size, 2, none⟩ = some (.slice aD nD cD) := by rw [cell_of_row w11 w.heap.size 2 _ _ _ HS11.out.b0]; rfl
    have x3 : w11.cell? ⟨w.heap.size, 3, none⟩ = some (.slice aU nU cU) := by rw [cell_of_row w11 w.heap.size 3 _ _ _ HS11.out.b0]; rfl
    go_wp2_with fail
    clear x0 x1 x2 x3 hn1 hn2
    refine (toSn_any aD aU nD cD nU cU D U gn tl _ HLD.out HLU.out mD mU (HAD.out.below HS11.out.below) (HAU.out.below HS11.out.below)).mono ?_
    rintro e w13 ⟨hD2, hU2, rfl, _, _, rD, rU, hb13⟩
    have HS13 : Hid (OE w 50 #[.int .u32 gn, .int .u32 tl, .slice aD nD cD, .slice aU nU cU] w13) := HS11.out.call hb13
    have HA13 : Hid (At .u8 w13 a4 zs) := HA11.out.below hb13
    have HC := hid_of (iesV_any gn tl (some ⟨hD2, 0, none⟩) (some ⟨hU2, 0, none⟩) nD nD nU nU D U w13 HLD.out HLU.out mD mU rD.i64 rU.i64 HUU.out.1 HUU.out.2)
    rw [HQ.out.1] at HC
    clear rD rU hb13 HS11 HA11
    go_wp2_with fail
    refine HC.out.mono ?_
    rintro e w14 ⟨v10, rfl, hv10, hb14⟩
    obtain ⟨a10, c10, rfl, A10, _, _⟩ := hv10
    have HS14 : Hid (OE w 50 #[.int .u32 gn, .int .u32 tl, .slice aD nD cD, .slice aU nU cU] w14) := HS13.out.call hb14
    have HA14 : Hid (At .u8 w14 a4 zs ∧ At .u8 w14 a10 zs) := ⟨HA13.out.below hb14, A10⟩
    clear HC hb14 A10 HS13 HA13
    simp only [HM.out]
    go_wp2_with fail
    refine (eqB_any a10 a4 m c10 c4 zs w14 HM.out HQ.out.2 HA14.out.2 HA14.out.1).mono ?_
    rintro e w15 ⟨rfl, q2, hw15⟩
    have HF : Hid (Below w.heap.size w w15) := by
      have hb15 : Below w14.heap.size w14 w15 := by rw [hw15]; exact ⟨rfl, rfl, rfl, Nat.le_refl _, fun _ _ => rfl⟩
      exact (HS14.out.call hb15).below
    clear hw15 HS14 HA14
    go_wp2
    go_ret
    exact ⟨rfl, HF.out⟩

set_option maxRecDepth 100000 in
theorem lifted (os : Os) (started : os.Started) (H : Type) (enc : TypeId × Value → H) :
    ReturnsInHanded {} Try.checked os 8 .any (Rows.fnExactEncodeSnapSpec.pre6 enc Try.prog Try.f8 Rows.fnExactEncodeSnapRow.domain false) (Rows.fnExactEncodeSnapSpec.post enc Try.prog Try.f8 false true false false) := by
  refine returnsInHanded_of_change (C := Try.checked) ownA started (by kernel_rfl) Try.func8
    (ChangeSpec.witness6 (enc := enc) (C := Try.checked) false ⟨#[], #[.agg #[.int .u32 0, .int .u32 0, .slice none 0 0, .slice none 0 0]], []⟩ 8 (by kernel_rfl) (by kernel_rfl) (by kernel_rfl) (by kernel_rfl)) ?_
  intro W base args ds gs before hval0 hW hcnd _
  have hval : ∀ (j : Nat) t v, Try.f8.params[j]? = some t → args[j]? = some v → Value.okWide Try.prog W .any base t v := hval0
  have hW' := hW
  obtain ⟨p, q, hA0, hV, rfl, hfz, hnd⟩ := hW
  have hA : DataW.TrodAll enc Try.prog W 0 (fun _ => true) true Try.f8.params.toList args.toList ds p := hA0
  rw [Try.params8] at hA hval
  obtain ⟨v0, vs0, d0, ds0, p0, q0, hargs, rfl, rfl, h0, r0⟩ := trodAll_cons hA
  obtain ⟨rfl, rfl, rfl⟩ := trodAll_nil r0
  obtain rfl : args = #[v0] := by cases args; simp_all
  obtain ⟨rfl, rfl⟩ := trodVars_none hV
  have k0 := h0
  have lt0 : ∀ x ∈ p0, x.block < W.heap.size := by obtain ⟨m, hm⟩ := k0; exact DataW.trod_lt m _ _ _ hm
  obtain ⟨u0, u1, u2, u3, rfl, aD, nD, cD, D, aU, nU, cU, U, gn, tl, rfl, rfl, rfl, rfl, hD, hU, MD, MU, AD, AU, Wgn, Wtl⟩ := snap_of (hval 0 50 v0 rfl rfl) h0
  clear hA0 hval0
  refine (walk aD aU nD cD nU cU D U gn tl W hD hU MD MU AD AU Wgn Wtl).mono fun e W' ⟨he, bel⟩ => ?_
  subst he
  exact ⟨_, rfl, _, _, _, [], _, [], hW', trodAll_mk1 (shut_bool Try.underlying4 _), (trodAll_cons_mk (Below.trod laidOutA (by kernel_rfl) (of_decide_eq_true (by kernel_rfl)) k0 bel lt0) trodAll_mk0), rfl, bel.frame _, fun h => by cases h⟩

theorem over : Rows.fnExactEncodeSnapRow.holds Try.pinned (OpenSpec.ofChange Rows.fnExactEncodeSnapSpec) :=
  OpenClaim.holds_of_wide 8 Try.f8 rfl rfl rfl rfl rfl rfl rfl ⟨rfl, rfl, rfl, rfl, rfl⟩ rfl rfl rfl rfl rfl (by kernel_rfl) Try.func8 (by kernel_rfl)
    (of_decide_eq_true (by kernel_rfl)) (by unfold Func.isWrapper; first | (rw [if_pos (by decide +kernel)]; kernel_rfl) | (rw [if_neg (by decide +kernel)]; exact ⟨rfl, rfl⟩))
    (fun os started H enc _ => lifted os started H enc)
end Go.Proofs.Ythghkfncpdnpoac.fnExactEncodeSnap
namespace Go.Proofs.Ythghkfncpdnpoac
theorem encodeSnap_holds : Rows.FnExactEncodeSnapSaid := fnExactEncodeSnap.over
#print axioms encodeSnap_holds
end Go.Proofs.Ythghkfncpdnpoac
