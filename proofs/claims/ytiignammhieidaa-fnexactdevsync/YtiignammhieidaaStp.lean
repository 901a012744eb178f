/-
  Own work: the model's step of fuel.
-/
import Derived.Test.YtiignammhieidaaCpy2
namespace Go.Proofs.Ytiignammhieidaa
open Go.ChangeShapes Go.WideShapes Go.ChangeAt Go.RowKit
set_option linter.unusedVariables false

theorem DMine.refit {B U : Nat} {w : World} {a b : Value} {zs : List Int} {ps : List PD} {f : Int} {d : Bool} (h : DMine B U w (.agg #[a, b, .int .i64 f, .bool d]) zs ps f d) (f' : Int) (d' : Bool) : DMine B U w (.agg #[a, b, .int .i64 f', .bool d']) zs ps f' d' := by
  obtain ⟨da, dc, ca, cc, B1, hv, h1, h2, h3, h4, h5, h5', h6, h7⟩ := h
  simp at hv
  obtain ⟨rfl, rfl⟩ := hv
  exact ⟨da, dc, ca, cc, B1, rfl, h1, h2, h3, h4, h5, h5', h6, h7⟩
def stF (f : Int) : Int := if f > 0 then f - 1 else f
def stD (f : Int) (d : Bool) : Bool := if f = 0 then true else d

set_option maxHeartbeats 1000000 in
set_option maxRecDepth 100000 in
theorem sst_any (v : Value) (zs : List Int) (ps : List PD) (f : Int) (d : Bool) (w : World) (h : DAt w v zs ps f d) (hz : zs.length ≤ 1048576) (hn : ps.length ≤ 1048576) (hps : ∀ i, (ps.getD i (0, [])).2.length ≤ 1048576) (hf : f ≤ 9223372036854775807) :
    Calls Try.prog 22 #[v] w fun e w' => ∃ r, e = .returned r ∧ DvOwn w' w.heap.size r zs ps (stF f) (stD f d) ∧ Below w.heap.size w w' := by
  have HSD : Hid _ := Try.sizeDv
  have HCP := scp_any v zs ps f d
  have hD := h
  obtain ⟨a, cap, x, cx, rfl, hA, hP, hcap⟩ := h
  obtain ⟨L, hL⟩ : ∃ L, zs.length = L := ⟨_, rfl⟩
  obtain ⟨m, hm⟩ : ∃ m, ps.length = m := ⟨_, rfl⟩
  have HHL : Hid (zs.length = L ∧ ps.length = m) := ⟨hL, hm⟩
  rw [hL] at hz HCP hD ⊢
  rw [hm] at hn HCP hD ⊢
  clear hL hm hA hP hcap
  have HCP' : Hid (∀ ww : World, DAt ww (.agg #[.slice a L cap, .slice x m cx, .int .i64 f, .bool d]) zs ps f d → Calls Try.prog 21 #[.agg #[.slice a L cap, .slice x m cx, .int .i64 f, .bool d]] ww fun e w' => ∃ r, e = .returned r ∧ DvOwn w' ww.heap.size r zs ps f d ∧ Below ww.heap.size ww w') := fun ww hh => HCP ww hh hz hn hps
  clear HCP hps hz hn
  have HS0 : Hid (B2 w _ #[.slice a L cap, .slice x m cx, .int .i64 f, .bool d]) := B2.start w #[.slice a L cap, .slice x m cx, .int .i64 f, .bool d]
  have HDD : Hid (DAt w (.agg #[.slice a L cap, .slice x m cx, .int .i64 f, .bool d]) zs ps f d) := hD
  clear hD
  go_enter Try.func22, Try.ntmps22
  go_wp2_with fail
  have st1 := HS0.out
  clear HS0
  generalize ((w.alloc (.cells #[.slice a L cap, .slice x m cx, .int .i64 f, .bool d] 29)).alloc (.cells #[.slice none 0 0, .slice none 0 0, .int .i64 0, .bool false] 29)) = w1 at *
  refine (HCP'.out w1 (DAt.below HDD.out st1.below)).mono ?_
  rintro e w2 ⟨r, rfl, D2, hb2⟩
  have hs1 : w.heap.size + 1 < w1.heap.size := (Array.getElem?_eq_some_iff.1 st1.b1).1
  have hs2 := hb2.size
  have st2 := st1.grow hb2
  have D2' := D2
  obtain ⟨da, dc, ca, cc, B1, hr2, _⟩ := D2'.mine
  subst hr2
  rw [HHL.out.1, HHL.out.2] at D2 ⊢
  have HD2 : Hid (DvOwn w2 w1.heap.size (.agg #[.slice da L dc, .slice ca m cc, .int .i64 f, .bool d]) zs ps f d) := D2
  have HS2 : Hid (B2 w w2 #[.slice a L cap, .slice x m cx, .int .i64 f, .bool d]) := st2
  clear st1 st2 D2 hb2 HCP' HDD
  go_wp2_with (refine wpList_storeW rfl 29 (.tmp 3) (.tmp 5) rfl w2.heap.size #[.slice da L dc, .slice ca m cc, .int .i64 f, .bool d] rfl rfl 29 _ (heap_alloc_new w2 _) HSD.out rfl (all4e _ _ _ _ _ _ _ _) ?_)
  intro w3 hr3 hw3
  have hb3 : Below w2.heap.size w2 w3 := ((Below.refl _ _).alloc (Nat.le_refl _) _).trans (hw3.below (Nat.le_refl _))
  have st3 := B2.grow HS2.out hb3
  have D3 := DvOwn.grow HD2.out hb3
  have hAl : w2.heap.size < w3.heap.size := (Array.getElem?_eq_some_iff.1 hr3).1
  obtain ⟨a0, a1, a2, a3⟩ := row4 hr3
  have f2 := frozen_of_row w3 w2.heap.size 2 _ _ hr3
  have f3 := frozen_of_row w3 w2.heap.size 3 _ _ hr3
  have HD3 : Hid (DvOwn w3 w1.heap.size (.agg #[.slice da L dc, .slice ca m cc, .int .i64 f, .bool d]) zs ps f d) := D3
  have HR3 : Hid (w3.heap[w2.heap.size]? = some (.cells #[.slice da L dc, .slice ca m cc, .int .i64 f, .bool d] 29 (0, 0))) := hr3
  have HS3 : Hid (B2 w w3 #[.slice a L cap, .slice x m cx, .int .i64 f, .bool d]) := st3
  clear st3 D3 hr3 hw3 hb3 HS2 HD2
  generalize w2.heap.size = A at *
  have key : ∀ (w4 : World) (f' : Int) (d' : Bool), w4.heap.size = w3.heap.size → w4.os = w3.os → w4.tape = w3.tape → w4.output = w3.output → (∀ j, j ≠ A → w4.heap[j]? = w3.heap[j]?) →
      w4.heap[w.heap.size + 1]? = some (.cells #[.slice none 0 0, .slice none 0 0, .int .i64 0, .bool false] 29 (0, 0)) ∧ DvOwn (w4.setRow (w.heap.size + 1) #[.slice da L dc, .slice ca m cc, .int .i64 f', .bool d']) w.heap.size (.agg #[.slice da L dc, .slice ca m cc, .int .i64 f', .bool d']) zs ps f' d' ∧ Below w.heap.size w (w4.setRow (w.heap.size + 1) #[.slice da L dc, .slice ca m cc, .int .i64 f', .bool d']) := by
    intro w4 f' d' hsz ho ht hu hoth
    have hwr := Wr.setRow (w.heap.size + 1) w4 #[.slice da L dc, .slice ca m cc, .int .i64 f', .bool d']
    refine ⟨by rw [hoth _ (by omega)]; exact B2.b1 HS3.out, ?_, ?_⟩
    · have h1 : DvOwn (w4.setRow (w.heap.size + 1) #[.slice da L dc, .slice ca m cc, .int .i64 f', .bool d']) w1.heap.size (.agg #[.slice da L dc, .slice ca m cc, .int .i64 f, .bool d]) zs ps f d :=
        DvOwn.keep HD3.out (fun j cur t hj hh ht => (hwr.block j (by omega)).trans (hoth j (fun e => by rw [e, HR3.out] at hh; simp at hh; exact ht hh.2.symm))) (by rw [hwr.size, hsz]; exact Nat.le_refl _)
      exact (h1.refit f' d').mono (by omega)
    · have hb4 : Below w.heap.size w3 w4 := ⟨ho, ht, hu, by omega, fun j hj => hoth j (by omega)⟩
      exact ((B2.below HS3.out).trans hb4).trans (hwr.below (by omega))
  have KEY : Hid _ := key
  clear key
  obtain hf0 | hf1 | hf2 : f = 0 ∨ 0 < f ∨ f < 0 := by omega
  · subst hf0
    have E12 : Hid (stF 0 = 0 ∧ stD 0 d = true) := ⟨rfl, rfl⟩
    obtain ⟨k1, k2, k3⟩ := KEY.out (w3.setCell ⟨A, 3, none⟩ (.bool true)) 0 true (by simp [World.setCell]) rfl rfl rfl (fun j hj => heap_setCell_other w3 ⟨A, 3, none⟩ j (.bool true) (by simpa using hj))
    have K1 : Hid _ := k1
    have K2 : Hid _ := And.intro k2 k3
    clear k1 k2 k3
    go_wp2_with (refine wpList_store_row rfl 29 (.tmp 2) (.tmp 17) rfl (w.heap.size + 1) #[.slice da L dc, .slice ca m cc, .int .i64 0, .bool true] rfl rfl 29 _ K1.out HSD.out rfl (all4e _ _ _ _ _ _ _ _) ?_)
    (try simp only [Exit.inBlock, Exit.then])
    refine bodyPost_ret (v := .agg #[.slice da L dc, .slice ca m cc, .int .i64 0, .bool true]) (results_cell_row rfl _ _ (w.heap.size + 1) 29 _ (0, 0) _ rfl (setRow_heap _ _ _ _ _ _ K1.out) Try.underlying29 rfl HSD.out) rfl ⟨_, rfl, ?_, K2.out.2⟩
    rw [E12.out.1, E12.out.2]
    exact K2.out.1
  · have E12 : Hid (stF f = f - 1 ∧ stD f d = d) := ⟨by unfold stF; rw [if_pos hf1], by unfold stD; rw [if_neg (by omega)]⟩
    obtain ⟨k1, k2, k3⟩ := KEY.out (w3.setCell ⟨A, 2, none⟩ (.int .i64 (f - 1))) (f - 1) d (by simp [World.setCell]) rfl rfl rfl (fun j hj => heap_setCell_other w3 ⟨A, 2, none⟩ j (.int .i64 (f - 1)) (by simpa using hj))
    have K1 : Hid _ := k1
    have K2 : Hid _ := And.intro k2 k3
    have hne : (f == 0) = false := by simp; omega
    have hwr : IntKind.i64.wrap (f - 1) = f - 1 := by rw [IntKind.wrap_i64]; omega
    clear k1 k2 k3
    go_wp2_with (refine wpList_store_row rfl 29 (.tmp 2) (.tmp 17) rfl (w.heap.size + 1) #[.slice da L dc, .slice ca m cc, .int .i64 (f - 1), .bool d] rfl rfl 29 _ K1.out HSD.out rfl (all4e _ _ _ _ _ _ _ _) ?_)
    (try simp only [Exit.inBlock, Exit.then])
    refine bodyPost_ret (v := .agg #[.slice da L dc, .slice ca m cc, .int .i64 (f - 1), .bool d]) (results_cell_row rfl _ _ (w.heap.size + 1) 29 _ (0, 0) _ rfl (setRow_heap _ _ _ _ _ _ K1.out) Try.underlying29 rfl HSD.out) rfl ⟨_, rfl, ?_, K2.out.2⟩
    rw [E12.out.1, E12.out.2]
    exact K2.out.1
  · have E12 : Hid (stF f = f ∧ stD f d = d) := ⟨by unfold stF; rw [if_neg (by omega)], by unfold stD; rw [if_neg (by omega)]⟩
    obtain ⟨k1, k2, k3⟩ := KEY.out w3 f d rfl rfl rfl rfl (fun j hj => rfl)
    have K1 : Hid _ := k1
    have K2 : Hid _ := And.intro k2 k3
    have hne : (f == 0) = false := by simp; omega
    have hng : ¬ f > 0 := by omega
    clear k1 k2 k3
    go_wp2_with (refine wpList_store_row rfl 29 (.tmp 2) (.tmp 17) rfl (w.heap.size + 1) #[.slice da L dc, .slice ca m cc, .int .i64 f, .bool d] rfl rfl 29 _ K1.out HSD.out rfl (all4e _ _ _ _ _ _ _ _) ?_)
    (try simp only [Exit.inBlock, Exit.then])
    refine bodyPost_ret (v := .agg #[.slice da L dc, .slice ca m cc, .int .i64 f, .bool d]) (results_cell_row rfl _ _ (w.heap.size + 1) 29 _ (0, 0) _ rfl (setRow_heap _ _ _ _ _ _ K1.out) Try.underlying29 rfl HSD.out) rfl ⟨_, rfl, ?_, K2.out.2⟩
    rw [E12.out.1, E12.out.2]
    exact K2.out.1
end Go.Proofs.Ytiignammhieidaa
