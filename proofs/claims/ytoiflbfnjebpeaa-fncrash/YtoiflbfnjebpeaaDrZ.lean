/-
  Own work: a drawn device and crash: DrawDevCrash (written by wip/mkdrz.py).
-/
import Derived.Test.YtoiflbfnjebpeaaDrY
import Derived.Test.YtoiflbfnjebpeaaRegV
namespace Go.Proofs.Ytoiflbfnjebpeaa
open Go.ChangeShapes Go.WideShapes Go.ChangeAt Go.RowKit
set_option linter.unusedVariables false

theorem results_dc {fn : Func} {p q : Tmp} (h : fn.results = #[.cell p 25, .cell q 44]) (tmps : Array Value) (w : World) (g g' : Nat) (c0 c1 c2 c3 b0 b1 b2 : Value)
    (hp : tmps.getD p undef = .pointer (some ⟨g, 0, none⟩)) (hq : tmps.getD q undef = .pointer (some ⟨g', 0, none⟩)) (hg : w.heap[g]? = some (.cells #[c0, c1, c2, c3] 25 (0, 0))) (hg' : w.heap[g']? = some (.cells #[b0, b1, b2] 44 (0, 0))) :
    (results fn tmps).run Try.prog w = .ok (.tuple #[.agg #[c0, c1, c2, c3], .agg #[b0, b1, b2]]) w := by
  have hp' : tmps[p]?.getD undef = .pointer (some ⟨g, 0, none⟩) := by simpa using hp
  have hq' : tmps[q]?.getD undef = .pointer (some ⟨g', 0, none⟩) := by simpa using hq
  have h1 := run_loadVar_row (P := Try.prog) w g 25 25 #[c0, c1, c2, c3] (0, 0) _ hg Try.underlying25 rfl Try.sizeDv
  have h2 := run_loadVar_row (P := Try.prog) w g' 44 44 #[b0, b1, b2] (0, 0) _ hg' Try.underlying44 rfl Try.sizeCr
  simp [results, h, hp', hq', asAddr, h1, h2]
theorem updK_neS2 (L : Nat → Bool) {i j : Nat} (h : j ≠ i) : updK L i j = L j := by unfold updK; rw [if_neg h]
/-- The results. -/
structure TZ (W : World) (R1 R2 : Nat) (C1 C2 : Array Value) (L : Nat → Bool) (w' : World) : Prop where
  os : w'.os = W.os
  tape : w'.tape = W.tape
  output : w'.output = W.output
  size : w'.heap.size = W.heap.size
  block : ∀ k, k ≠ R1 → k ≠ R2 → w'.heap[k]? = W.heap[k]?
  r1 : w'.heap[R1]? = some (.cells (if L 2 = true then C1 else #[.slice none 0 0, .slice none 0 0, .int .i64 0, .bool false]) 25 (0, 0))
  r2 : w'.heap[R2]? = some (.cells (if L 3 = true then C2 else #[.slice none 0 0, .int .i64 0, .int .i64 0]) 44 (0, 0))
section
variable {W : World} {R1 R2 : Nat} {C1 C2 : Array Value} {L : Nat → Bool} {w' : World}
theorem TZ.pure (h : TZ W R1 R2 C1 C2 L w') (i : Nat) (h2 : 2 ≠ i) (h3 : 3 ≠ i) : TZ W R1 R2 C1 C2 (updK L i) w' :=
  ⟨h.os, h.tape, h.output, h.size, h.block, by rw [updK_neS2 L h2]; exact h.r1, by rw [updK_neS2 L h3]; exact h.r2⟩
theorem TZ.one (h : TZ W R1 R2 C1 C2 L w') (hne : R1 ≠ R2) : TZ W R1 R2 C1 C2 (updK L 2) (w'.setRow R1 C1) :=
  ⟨h.os, h.tape, h.output, (size_setRow _ _ _).trans h.size, fun k h1 h2 => (setRow_other _ _ _ _ h1).trans (h.block k h1 h2), by rw [setRow_heap _ _ _ _ _ _ h.r1]; simp [updK], by rw [setRow_other _ _ _ _ (Ne.symm hne), updK_neS2 L (by decide)]; exact h.r2⟩
theorem TZ.two (h : TZ W R1 R2 C1 C2 L w') (hne : R1 ≠ R2) : TZ W R1 R2 C1 C2 (updK L 3) (w'.setRow R2 C2) :=
  ⟨h.os, h.tape, h.output, (size_setRow _ _ _).trans h.size, fun k h1 h2 => (setRow_other _ _ _ _ h2).trans (h.block k h1 h2), by rw [setRow_other _ _ _ _ hne, updK_neS2 L (by decide)]; exact h.r1, by rw [setRow_heap _ _ _ _ _ _ h.r2]; simp [updK]⟩
end
/-- What DrawDevCrash answers. -/
def DcPost (w : World) (e : Ending) (w' : World) : Prop :=
  ∃ v vc zs ps f d bs t u, e = .returned (.tuple #[v, vc]) ∧ DX w.heap.size w' v zs ps f d ∧ BdS zs ps f ∧ CAt w' vc bs t u ∧ bs.length ≤ 100 ∧ Below w.heap.size w w'
set_option maxRecDepth 100000 in
set_option maxHeartbeats 1000000 in
theorem drawDC_any (a : Option Addr) (n cap : Nat) (zs0 : List Int) (w : World) (hl : zs0.length = n) (hn : n ≤ 1048576) (hz : Byte zs0) (ha : At .u8 w a zs0) :
    Calls Try.prog 23 #[.slice a n cap] w (DcPost w) := by
  have HSD : Hid _ := Try.sizeDv
  have HSC : Hid _ := Try.sizeCr
  have hb0 : Below w.heap.size w ((w.alloc (.cells #[.slice none 0 0, .slice none 0 0, .int .i64 0, .bool false] 25)).alloc (.cells #[.slice none 0 0, .int .i64 0, .int .i64 0] 44)) := ((Below.refl _ _).alloc (Nat.le_refl _) _).alloc (by simp) _
  have hr1 : ((w.alloc (.cells #[.slice none 0 0, .slice none 0 0, .int .i64 0, .bool false] 25)).alloc (.cells #[.slice none 0 0, .int .i64 0, .int .i64 0] 44)).heap[w.heap.size]? = some (.cells #[.slice none 0 0, .slice none 0 0, .int .i64 0, .bool false] 25 (0, 0)) := by rw [Below.heap_alloc _ _ w.heap.size (by simp)]; exact heap_alloc_new w _
  have hr2 : ((w.alloc (.cells #[.slice none 0 0, .slice none 0 0, .int .i64 0, .bool false] 25)).alloc (.cells #[.slice none 0 0, .int .i64 0, .int .i64 0] 44)).heap[w.heap.size + 1]? = some (.cells #[.slice none 0 0, .int .i64 0, .int .i64 0] 44 (0, 0)) := by
    have := heap_alloc_new (w.alloc (.cells #[.slice none 0 0, .slice none 0 0, .int .i64 0, .bool false] 25)) (.cells #[.slice none 0 0, .int .i64 0, .int .i64 0] 44)
    rw [World.size_alloc] at this
    exact this
  have hs0 : ((w.alloc (.cells #[.slice none 0 0, .slice none 0 0, .int .i64 0, .bool false] 25)).alloc (.cells #[.slice none 0 0, .int .i64 0, .int .i64 0] 44)).heap.size = w.heap.size + 1 + 1 := by simp
  have ha0 := ha.below hb0
  go_enter Try.func23, Try.ntmps23
  go_wp2_with fail
  generalize ((w.alloc (.cells #[.slice none 0 0, .slice none 0 0, .int .i64 0, .bool false] 25)).alloc (.cells #[.slice none 0 0, .int .i64 0, .int .i64 0] 44)) = w1 at *
  refine (new_any a n cap zs0 _ hl hn hz ha0).mono ?_
  rintro e w2 ⟨rfl, hc2, hb2, hs2⟩
  have ht2 : CurT w2 w1.heap.size a n := by
    refine ⟨hn, zs0, hl, hz, ?_⟩
    rcases ha with h | ⟨b, off, e, hb, hcc⟩
    · exact .inl h
    · exact .inr ⟨b, off, e, by omega, fun i hi => by rw [World.cell?_of_block (a := ⟨b, off + i, none⟩) (w := w1) (hb2.block b (by omega)), World.cell?_of_block (a := ⟨b, off + i, none⟩) (w := w) (hb0.block b hb)]; exact hcc i hi⟩
  have HR2 : Hid (w2.heap[w.heap.size]? = some (.cells #[.slice none 0 0, .slice none 0 0, .int .i64 0, .bool false] 25 (0, 0)) ∧ w2.heap[w.heap.size + 1]? = some (.cells #[.slice none 0 0, .int .i64 0, .int .i64 0] 44 (0, 0)) ∧ Below w.heap.size w w2) := ⟨by rw [hb2.block _ (by omega)]; exact hr1, by rw [hb2.block _ (by omega)]; exact hr2, hb0.trans (hb2.mono hb0.size)⟩
  obtain ⟨g, hg⟩ : ∃ g, g = w1.heap.size := ⟨_, rfl⟩
  rw [← hg] at hc2 ht2 hs2 hs0 ⊢
  have hgw : w.heap.size + 1 < g := by omega
  have hgl : g < w2.heap.size := by omega
  clear hs0 hs2
  have A := hid_ofD (anyDev_any g a n cap w2 hc2 ht2 hgl)
  have HT2 := hid_ofD ht2
  clear hr1 hr2 hb0 ha0 ha hc2 hb2 ht2 hg
  go_wp2_with fail
  refine A.out.mono ?_
  rintro e w3 ⟨v, zs, ps, f, d, rfl, dx3, bd, hc3, hw3⟩
  obtain ⟨da, dc, ca, cc, E0, rfl, _⟩ := id dx3
  obtain ⟨L, hL⟩ : ∃ L, L = zs.length := ⟨_, rfl⟩
  obtain ⟨M, hM⟩ : ∃ M, M = ps.length := ⟨_, rfl⟩
  rw [← hL, ← hM] at dx3 ⊢
  have hs3 := hw3.size
  have hM7 : M ≤ 7 := by have := bd.2.1; omega
  have HBD := hid_ofD bd
  have hbn : Below w3.heap.size w3 (w3.alloc (.cells #[.slice none 0 0, .slice none 0 0, .int .i64 0, .bool false] 25)) := (Below.refl _ _).alloc (Nat.le_refl _) _
  have HN3 : Hid ((w3.alloc (.cells #[.slice none 0 0, .slice none 0 0, .int .i64 0, .bool false] 25)).heap[w3.heap.size]? = some (.cells #[.slice none 0 0, .slice none 0 0, .int .i64 0, .bool false] 25 (0, 0))) := heap_alloc_new w3 _
  have hw4 : Wr w3.heap.size (w3.alloc (.cells #[.slice none 0 0, .slice none 0 0, .int .i64 0, .bool false] 25)) ((w3.alloc (.cells #[.slice none 0 0, .slice none 0 0, .int .i64 0, .bool false] 25)).setRow w3.heap.size #[.slice da L dc, .slice ca M cc, .int .i64 f, .bool d]) := Wr.setRow _ _ _
  have hb4 : Below w3.heap.size w3 ((w3.alloc (.cells #[.slice none 0 0, .slice none 0 0, .int .i64 0, .bool false] 25)).setRow w3.heap.size #[.slice da L dc, .slice ca M cc, .int .i64 f, .bool d]) := hbn.trans (hw4.below (Nat.le_refl _))
  have hf4 : ((w3.alloc (.cells #[.slice none 0 0, .slice none 0 0, .int .i64 0, .bool false] 25)).setRow w3.heap.size #[.slice da L dc, .slice ca M cc, .int .i64 f, .bool d]).heap[w3.heap.size]? = some (.cells #[.slice da L dc, .slice ca M cc, .int .i64 f, .bool d] 25 (0, 0)) := setRow_heap _ _ _ _ _ _ HN3.out
  have HG4 := hid_ofD (hw3.trans (WrG.of_below hb4))
  have HX4 := hid_ofD (dx3.below hb4)
  have HC4 := hid_ofD (hc3.keepS (hb4.block g (by omega)))
  have HF4 := hid_ofD hf4
  have HLM := hid_ofD (And.intro hL hM)
  have HB4 := hid_ofD hb4
  clear A dx3 bd hc3 hw3 hbn hw4 hf4 hL hM hb4
  obtain ⟨y0, y1, y2, y3⟩ := row4 HF4.out
  go_wp2_with (first
    | (refine wpList_store_row rfl 25 (.tmp 5) (.tmp 10) rfl w3.heap.size #[.slice da L dc, .slice ca M cc, .int .i64 f, .bool d] rfl rfl 25 _ HN3.out HSD.out rfl (all4x _ _ _ _ _ _ _ _) ?_)
    | fail)
  clear y0 y1 y2 y3
  have hs4 := HB4.out.size
  have hlt4 : w3.heap.size < ((w3.alloc (.cells #[.slice none 0 0, .slice none 0 0, .int .i64 0, .bool false] 25)).setRow w3.heap.size #[.slice da L dc, .slice ca M cc, .int .i64 f, .bool d]).heap.size := (Array.getElem?_eq_some_iff.1 HF4.out).1
  clear HN3 HB4
  generalize (w3.alloc (.cells #[.slice none 0 0, .slice none 0 0, .int .i64 0, .bool false] 25)).setRow w3.heap.size #[.slice da L dc, .slice ca M cc, .int .i64 f, .bool d] = w4 at *
  obtain ⟨F5, hF5⟩ : ∃ F5, F5 = w3.heap.size := ⟨_, rfl⟩
  rw [← hF5] at HF4 hlt4 ⊢
  have hf5 : w.heap.size + 1 < F5 ∧ g < F5 := by omega
  clear hF5
  have B := hid_ofD (crash_any g a n cap M w4 (by omega) HC4.out (HT2.out.wr (fun k hk => HG4.out.block k (by omega) (by omega))) (by omega))
  refine B.out.mono ?_
  rintro e w5 ⟨vc, bs, tt, uu, rfl, hca5, hbl, hc5, hw5⟩
  obtain ⟨xa, xc, rfl, hba5⟩ := id hca5
  obtain ⟨bl, hbl'⟩ : ∃ b, b = bs.length := ⟨_, rfl⟩
  rw [← hbl'] at hca5 ⊢
  have hs5 := hw5.size
  have hbn : Below w5.heap.size w5 (w5.alloc (.cells #[.slice none 0 0, .int .i64 0, .int .i64 0] 44)) := (Below.refl _ _).alloc (Nat.le_refl _) _
  have HN5 : Hid ((w5.alloc (.cells #[.slice none 0 0, .int .i64 0, .int .i64 0] 44)).heap[w5.heap.size]? = some (.cells #[.slice none 0 0, .int .i64 0, .int .i64 0] 44 (0, 0))) := heap_alloc_new w5 _
  have hw6 : Wr w5.heap.size (w5.alloc (.cells #[.slice none 0 0, .int .i64 0, .int .i64 0] 44)) ((w5.alloc (.cells #[.slice none 0 0, .int .i64 0, .int .i64 0] 44)).setRow w5.heap.size #[.slice xa bl xc, .int .i64 tt, .int .i64 uu]) := Wr.setRow _ _ _
  have hb6 : Below w5.heap.size w5 ((w5.alloc (.cells #[.slice none 0 0, .int .i64 0, .int .i64 0] 44)).setRow w5.heap.size #[.slice xa bl xc, .int .i64 tt, .int .i64 uu]) := hbn.trans (hw6.below (Nat.le_refl _))
  have HF6 : Hid (((w5.alloc (.cells #[.slice none 0 0, .int .i64 0, .int .i64 0] 44)).setRow w5.heap.size #[.slice xa bl xc, .int .i64 tt, .int .i64 uu]).heap[w5.heap.size]? = some (.cells #[.slice xa bl xc, .int .i64 tt, .int .i64 uu] 44 (0, 0))) := setRow_heap _ _ _ _ _ _ HN5.out
  have HX6 := hid_ofD ((HX4.out.keep (fun j hj hj' => hw5.block j hj' (by omega)) hw5.size).below hb6)
  have HCA6 := hid_ofD (hca5.keep (fun k hk hk' => hb6.block k hk'))
  have HG6 := hid_ofD ((HG4.out.trans hw5).trans (WrG.of_below hb6))
  have HF5 : Hid (((w5.alloc (.cells #[.slice none 0 0, .int .i64 0, .int .i64 0] 44)).setRow w5.heap.size #[.slice xa bl xc, .int .i64 tt, .int .i64 uu]).heap[F5]? = some (.cells #[.slice da L dc, .slice ca M cc, .int .i64 f, .bool d] 25 (0, 0))) := by show _ = _; rw [hb6.block F5 (by omega), hw5.block F5 hlt4 (by omega)]; exact HF4.out
  have HBLL := hid_ofD (And.intro hbl' hbl)
  have HB6 := hid_ofD hb6
  clear B hca5 hba5 hc5 hw5 hbn hw6 HX4 HG4 HC4 HF4 hbl' hbl hb6
  go_wp2_with (first
    | (refine wpList_store_row rfl 44 (.tmp 6) (.tmp 15) rfl w5.heap.size #[.slice xa bl xc, .int .i64 tt, .int .i64 uu] rfl rfl 44 _ HN5.out HSC.out rfl (all3c _ _ _ _ _) ?_)
    | fail)
  have hs6 := HB6.out.size
  have hlt6 : w5.heap.size < ((w5.alloc (.cells #[.slice none 0 0, .int .i64 0, .int .i64 0] 44)).setRow w5.heap.size #[.slice xa bl xc, .int .i64 tt, .int .i64 uu]).heap.size := (Array.getElem?_eq_some_iff.1 HF6.out).1
  clear HN5 HB6
  generalize (w5.alloc (.cells #[.slice none 0 0, .int .i64 0, .int .i64 0] 44)).setRow w5.heap.size #[.slice xa bl xc, .int .i64 tt, .int .i64 uu] = W at *
  obtain ⟨F6, hF6⟩ : ∃ F6, F6 = w5.heap.size := ⟨_, rfl⟩
  rw [← hF6] at HF6 hlt6 ⊢
  have hf6 : w.heap.size + 1 < F6 := by omega
  clear hF6
  have HR6 : Hid (W.heap[w.heap.size]? = some (.cells #[.slice none 0 0, .slice none 0 0, .int .i64 0, .bool false] 25 (0, 0)) ∧ W.heap[w.heap.size + 1]? = some (.cells #[.slice none 0 0, .int .i64 0, .int .i64 0] 44 (0, 0))) := ⟨by rw [HG6.out.block _ (by omega) (by omega)]; exact HR2.out.1, by rw [HG6.out.block _ (by omega) (by omega)]; exact HR2.out.2.1⟩
  have HNE : Hid (w.heap.size < F5 ∧ w.heap.size + 1 < F5 ∧ w.heap.size < F6 ∧ w.heap.size + 1 < F6 ∧ w.heap.size + 1 < w2.heap.size) := ⟨by omega, by omega, by omega, by omega, by omega⟩
  have FIN : Hid (∀ (Ls : Nat → Bool) (w' : World), TZ W w.heap.size (w.heap.size + 1) #[.slice da L dc, .slice ca M cc, .int .i64 f, .bool d] #[.slice xa bl xc, .int .i64 tt, .int .i64 uu] Ls w' → Ls 2 = true → Ls 3 = true → DcPost w (.returned (.tuple #[.agg #[.slice da L dc, .slice ca M cc, .int .i64 f, .bool d], .agg #[.slice xa bl xc, .int .i64 tt, .int .i64 uu]])) w' ∧ w'.heap[w.heap.size]? = some (.cells #[.slice da L dc, .slice ca M cc, .int .i64 f, .bool d] 25 (0, 0)) ∧ w'.heap[w.heap.size + 1]? = some (.cells #[.slice xa bl xc, .int .i64 tt, .int .i64 uu] 44 (0, 0))) := fun Ls w' h h2 h3 => by
    have e1 := h.r1
    have e2 := h.r2
    rw [h2, if_pos rfl] at e1
    rw [h3, if_pos rfl] at e2
    have hne := HNE.out
    refine ⟨⟨_, _, zs, ps, f, d, bs, tt, uu, rfl, (HX6.out.keep (fun j hj hj' => h.block j (by omega) (by omega)) (by rw [h.size]; exact Nat.le_refl _)).mono (by omega), HBD.out, ?_, HBLL.out.2, ?_⟩, e1, e2⟩
    · rw [HBLL.out.1] at HCA6 ⊢
      exact (HCA6.out.keep (fun k hk _ => h.block k (by omega) (by omega))).at_
    · have hb := HR2.out.2.2
      exact ⟨h.os.trans (HG6.out.os.trans hb.os), h.tape.trans (HG6.out.tape.trans hb.tape), h.output.trans (HG6.out.output.trans hb.output), by rw [h.size]; have := HG6.out.size; have := hb.size; omega, fun k hk => (h.block k (by omega) (by omega)).trans ((HG6.out.block k (by have := hb.size; omega) (by omega)).trans (hb.block k hk))⟩
  clear HX6 HCA6 HG6 HR2 HT2 HBD
  go_wp2_with fail
  refine wp_region_any (by kernel_rfl) ?_
  refine wpAny_slotsV (fun _ _ _ => True) (frame := (fun (c0 c1 c2 c3 c4 c5 c6 c7 c8 c9 c10 c11 c12 c13 c14 c15 : Value) => fun (t : Nat → Value) => ({ tmps := List.toArray (c0 :: c1 :: c2 :: c3 :: c4 :: c5 :: c6 :: c7 :: c8 :: c9 :: c10 :: c11 :: c12 :: c13 :: c14 :: c15 :: t 0 :: t 1 :: []), defers := [] } : Act)) _ _ _ _ _ _ _ _ _ _ _ _ _ _ _ _)
    (Ext := fun Ls u w' => TZ W w.heap.size (w.heap.size + 1) #[.slice da L dc, .slice ca M cc, .int .i64 f, .bool d] #[.slice xa bl xc, .int .i64 tt, .int .i64 uu] Ls w') (Good := fun i Ls w' v => if i = 0 then v = .agg #[.slice da L dc, .slice ca M cc, .int .i64 f, .bool d] else if i = 1 then v = .agg #[.slice xa bl xc, .int .i64 tt, .int .i64 uu] else if i = 2 then Ls 2 = true else if i = 3 then Ls 3 = true else True) ?hstab (by kernel_rfl) ?hop ?hdone _ _ ((fun (x0 x1 : Value) => fun (i : Nat) => if i = 0 then x0 else if i = 1 then x1 else undef) _ _) _ (by simp) ?ext ?start (by simp)
  case start => intro i hi h; exact absurd h (by rw [Array.getD_eq_getD_getElem?, Array.getElem?_replicate]; split <;> simp)
  case ext =>
    have hf : ∀ i, (Array.replicate 4 false).getD i false = false := fun i => by rw [Array.getD_eq_getD_getElem?, Array.getElem?_replicate]; split <;> rfl
    exact ⟨rfl, rfl, rfl, rfl, fun _ _ _ => rfl, by rw [if_neg (by rw [Array.getD_eq_getD_getElem?, Array.getElem?_replicate]; split <;> simp)]; exact HR6.out.1, by rw [if_neg (by rw [Array.getD_eq_getD_getElem?, Array.getElem?_replicate]; split <;> simp)]; exact HR6.out.2⟩
  case hstab =>
    intro j Ls w9 w' i v hM hij hLi h
    have hu : ∀ k, Ls k = true → updK Ls i k = true := fun k hk => by unfold updK; split <;> simp [hk]
    by_cases h2 : j = 2
    · subst h2; simp at h ⊢; exact hu _ h
    by_cases h3 : j = 3
    · subst h3; simp at h ⊢; exact hu _ h
    simp only [if_neg h2, if_neg h3] at h ⊢
    exact h
  case hop =>
    intro i o Ls t w' ho hLi hx hdep K hK
    have hi : i < 4 := (Array.getElem?_eq_some_iff.1 ho).1
    obtain rfl | rfl | rfl | rfl : i = 0 ∨ i = 1 ∨ i = 2 ∨ i = 3 := by omega
    all_goals (simp at ho; subst ho)
    · clear hdep
      have haf : w'.heap[F5]? = some (.cells #[.slice da L dc, .slice ca M cc, .int .i64 f, .bool d] 25 (0, 0)) := by rw [hx.block F5 (by have := HNE.out; omega) (by have := HNE.out; omega)]; exact HF5.out
      obtain ⟨y0, y1, y2, y3⟩ := row4 haf
      have hK' := hK w' (.agg #[.slice da L dc, .slice ca M cc, .int .i64 f, .bool d]) (by simp) (hx.pure 0 (by decide) (by decide)) trivial
      clear hK haf
      rw [if_pos (by rfl)]
      go_simp
      simpa [upd] using hK'
    · clear hdep
      have haf : w'.heap[F6]? = some (.cells #[.slice xa bl xc, .int .i64 tt, .int .i64 uu] 44 (0, 0)) := by rw [hx.block F6 (by have := HNE.out; omega) (by have := HNE.out; omega)]; exact HF6.out
      have y0 : w'.cell? ⟨F6, 0, none⟩ = some (.slice xa bl xc) := cell_of_row _ _ _ _ _ _ haf
      have y1 : w'.cell? ⟨F6, 1, none⟩ = some (.int .i64 tt) := cell_of_row _ _ _ _ _ _ haf
      have y2 : w'.cell? ⟨F6, 2, none⟩ = some (.int .i64 uu) := cell_of_row _ _ _ _ _ _ haf
      have hK' := hK w' (.agg #[.slice xa bl xc, .int .i64 tt, .int .i64 uu]) (by simp) (hx.pure 1 (by decide) (by decide)) trivial
      clear hK haf
      rw [if_pos (by rfl)]
      go_simp
      simpa [upd] using hK'
    · have d0 : t 0 = .agg #[.slice da L dc, .slice ca M cc, .int .i64 f, .bool d] := by simpa using (hdep ⟨0, .data⟩ (by simp) rfl).2
      clear hdep
      have hr := hx.r1
      rw [hLi, if_neg (by decide)] at hr
      have hK' := hK (w'.setRow w.heap.size #[.slice da L dc, .slice ca M cc, .int .i64 f, .bool d]) undef (by simp [updK]) (hx.one (by omega)) trivial
      clear hK
      rw [if_pos (by rfl)]
      refine wp_store_row 25 (.tmp 2) (.tmp 16) rfl w.heap.size #[.slice da L dc, .slice ca M cc, .int .i64 f, .bool d] rfl d0 25 _ hr HSD.out rfl (all4x _ _ _ _ _ _ _ _) ?_
      simpa [upd, Act.put] using hK'
    · have d1 : t 1 = .agg #[.slice xa bl xc, .int .i64 tt, .int .i64 uu] := by simpa using (hdep ⟨1, .data⟩ (by simp) rfl).2
      clear hdep
      have hr := hx.r2
      rw [hLi, if_neg (by decide)] at hr
      have hK' := hK (w'.setRow (w.heap.size + 1) #[.slice xa bl xc, .int .i64 tt, .int .i64 uu]) undef (by simp [updK]) (hx.two (by omega)) trivial
      clear hK
      rw [if_pos (by rfl)]
      refine wp_store_row 44 (.tmp 3) (.tmp 17) rfl (w.heap.size + 1) #[.slice xa bl xc, .int .i64 tt, .int .i64 uu] rfl d1 44 _ hr HSC.out rfl (all3c _ _ _ _ _) ?_
      simpa [upd, Act.put] using hK'
  case hdone =>
    intro Ls t w9 hx hg
    have h2 : Ls 2 = true := by simpa using hg 2 (by decide)
    have h3 : Ls 3 = true := by simpa using hg 3 (by decide)
    obtain ⟨e0, e1, e2⟩ := FIN.out Ls w9 hx h2 h3
    have HF := hid_ofD e0
    have HE1 := hid_ofD e1
    have HE2 := hid_ofD e2
    clear hg hx e0 e1 e2 FIN
    go_wp2_with fail
    (try simp only [Exit.inBlock, Exit.then])
    exact bodyPost_ret (v := .tuple #[.agg #[.slice da L dc, .slice ca M cc, .int .i64 f, .bool d], .agg #[.slice xa bl xc, .int .i64 tt, .int .i64 uu]]) (results_dc rfl _ _ w.heap.size (w.heap.size + 1) _ _ _ _ _ _ _ rfl rfl HE1.out HE2.out) rfl HF.out
end Go.Proofs.Ytoiflbfnjebpeaa
