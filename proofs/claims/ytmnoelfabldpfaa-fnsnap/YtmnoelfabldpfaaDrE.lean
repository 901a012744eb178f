/-
  Own work: spoilt snaps, and DrawEncodeSnap (written by wip/mkdre.py).
-/
import Derived.Test.YtmnoelfabldpfaaDrN
namespace Go.Proofs.Ytmnoelfabldpfaa
open Go.ChangeShapes Go.WideShapes Go.ChangeAt Go.RowKit
set_option linter.unusedVariables false

/-- A snap, as a value: its lists from block lo on. -/
def SnV (lo : Nat) (w : World) (v : Value) : Prop := ∃ gn tl aD nD cD aU nU cU D U, v = .agg #[.int .u32 gn, .int .u32 tl, .slice aD nD cD, .slice aU nU cU] ∧ U32 gn ∧ U32 tl ∧ D.length ≤ 400 ∧ U.length ≤ 400 ∧ Iow lo w (.slice aD nD cD) D ∧ Iow lo w (.slice aU nU cU) U
structure SP0 (w : World) (L lo : Nat) (cs : Array Value) (vD vU : Value) (D U : List Int) (wr : World) : Prop where
  below : Below L w wr
  bx : wr.heap[w.heap.size]? = some (.cells cs 26 (0, 0))
  rz : wr.heap[w.heap.size + 1]? = some (.cells #[.int .u32 0, .int .u32 0, .slice none 0 0, .slice none 0 0] 26 (0, 0))
  d : Iow lo wr vD D
  u : Iow lo wr vU U
  hl : L ≤ w.heap.size
  ty : ∀ (k : Nat) (cs : Array Value) (T : TypeId) (fr : Nat × Nat), w.heap[k]? = some (.cells cs T fr) → T ≠ 2 → T ≠ 71 → wr.heap[k]? = some (.cells cs T fr)
theorem lt_of_get {w : World} {k : Nat} {o : Obj} (h : w.heap[k]? = some o) : k < w.heap.size := (Array.getElem?_eq_some_iff.1 h).1
section
variable {w wr w' : World} {L lo : Nat} {cs cs' : Array Value} {vD vU v : Value} {D U : List Int}
theorem SP0.set (h : SP0 w L lo cs vD vU D U wr) {i : Nat} (e : cs.setIfInBounds i v = cs') : SP0 w L lo cs' vD vU D U (wr.setCell ⟨w.heap.size, i, none⟩ v) := by
  have hw : Wr w.heap.size wr (wr.setCell ⟨w.heap.size, i, none⟩ v) := (Wr.refl _ wr).setCell i v
  exact ⟨h.below.trans (hw.below h.hl), by rw [heap_setCell_same wr _ i _ _ v h.bx, e], by rw [hw.block _ (by omega)]; exact h.rz, h.d.keepN h.bx (by decide) hw, h.u.keepN h.bx (by decide) hw, h.hl, fun k cs T fr hk h1 h2 => by rw [hw.block k (by have := lt_of_get hk; omega)]; exact h.ty k cs T fr hk h1 h2⟩
theorem SP0.cell (h : SP0 w L lo cs vD vU D U wr) (i : Nat) : wr.cell? ⟨w.heap.size, i, none⟩ = cs[i]? ∧ wr.frozen? ⟨w.heap.size, i, none⟩ = false := ⟨cell_of_row _ _ _ _ _ _ h.bx, frozen_of_row _ _ _ _ _ h.bx⟩
end
theorem own_ne {a : Option Addr} {n c q : Nat} (h : ∀ ad, a = some ad → ad.block ≠ q) (e : (Value.slice a n c).ownBlock = some q) : False := by
  cases a with
  | none => simp [Value.ownBlock] at e
  | some ad => simp [Value.ownBlock] at e; exact h ad rfl e
set_option maxRecDepth 100000 in
set_option maxHeartbeats 8000000 in
theorem spoil_any (g : Nat) (x : Option Addr) (n cap : Nat) (gn tl : Int) (aD aU : Option Addr) (nD cD nU cU : Nat) (D U : List Int) (L lo : Nat) (w : World) (hc : CurB w g x n cap) (ht : CurT w g x n) (ug : U32 gn) (ut : U32 tl) (lD : D.length ≤ 300) (lU : U.length ≤ 300)
    (hD : Iow lo w (.slice aD nD cD) D) (hU : Iow lo w (.slice aU nU cU) U) (ap : ApV (.slice aD nD cD) (.slice aU nU cU)) (hL1 : L ≤ g) (hL2 : L ≤ lo) (hlo : lo ≤ w.heap.size) :
    Calls Try.prog 28 #[.pointer (some ⟨g, 0, none⟩), .agg #[.int .u32 gn, .int .u32 tl, .slice aD nD cD, .slice aU nU cU]] w fun e w' => ∃ v, e = .returned v ∧ SnV lo w' v ∧ Below L w w' ∧ ∀ (k : Nat) (cs : Array Value) (T : TypeId) (fr : Nat × Nat), w.heap[k]? = some (.cells cs T fr) → T ≠ 2 → T ≠ 71 → w'.heap[k]? = some (.cells cs T fr) := by
  have hg := hc.lt
  have b2 : Below w.heap.size w ((w.alloc (.cells #[.int .u32 gn, .int .u32 tl, .slice aD nD cD, .slice aU nU cU] 26)).alloc (.cells #[.int .u32 0, .int .u32 0, .slice none 0 0, .slice none 0 0] 26)) := ((Below.refl _ _).alloc (Nat.le_refl _) _).alloc (by simp) _
  have HC2 : Hid (CurB ((w.alloc (.cells #[.int .u32 gn, .int .u32 tl, .slice aD nD cD, .slice aU nU cU] 26)).alloc (.cells #[.int .u32 0, .int .u32 0, .slice none 0 0, .slice none 0 0] 26)) g x n cap ∧ CurT ((w.alloc (.cells #[.int .u32 gn, .int .u32 tl, .slice aD nD cD, .slice aU nU cU] 26)).alloc (.cells #[.int .u32 0, .int .u32 0, .slice none 0 0, .slice none 0 0] 26)) g x n) := ⟨hc.keep (b2.block g hg), ht.wr (fun q hq => b2.block q (by omega))⟩
  have HV : Hid (U32 gn ∧ U32 tl ∧ D.length ≤ 300 ∧ U.length ≤ 300) := ⟨ug, ut, lD, lU⟩
  have HAP : Hid (ApV (.slice aD nD cD) (.slice aU nU cU)) := ap
  have HSN : Hid ((Try.prog.info? 26).map (·.size) = some 4) := by show _ = _; kernel_rfl
  have HP2 : Hid (SP0 w L lo #[.int .u32 gn, .int .u32 tl, .slice aD nD cD, .slice aU nU cU] (.slice aD nD cD) (.slice aU nU cU) D U ((w.alloc (.cells #[.int .u32 gn, .int .u32 tl, .slice aD nD cD, .slice aU nU cU] 26)).alloc (.cells #[.int .u32 0, .int .u32 0, .slice none 0 0, .slice none 0 0] 26))) := ⟨b2.mono (by omega), heap_alloc2_old _ _ _, heap_alloc2_new _ _ _, hD.below b2, hU.below b2, by omega, fun k cs T fr hk _ _ => by rw [b2.block k (lt_of_get hk)]; exact hk⟩
  clear hc ht ug ut lD lU hD hU ap b2
  go_enter Try.func28, Try.ntmps28
  go_wp2_with fail
  generalize ((w.alloc (.cells #[.int .u32 gn, .int .u32 tl, .slice aD nD cD, .slice aU nU cU] 26)).alloc (.cells #[.int .u32 0, .int .u32 0, .slice none 0 0, .slice none 0 0] 26)) = w2 at *
  refine (below_any g x n cap 5 w2 HC2.out.1 HC2.out.2 (by decide) (by decide)).mono ?_
  rintro e w3 ⟨q, rfl, q0, q1, hc3, hw3⟩
  have HP3 : Hid (SP0 w L lo #[.int .u32 gn, .int .u32 tl, .slice aD nD cD, .slice aU nU cU] (.slice aD nD cD) (.slice aU nU cU) D U w3) := by
    obtain ⟨i, h, _, _, _, _, hcc⟩ := HC2.out.1
    exact ⟨HP2.out.below.trans (hw3.below hL1), by rw [hw3.block _ (by omega)]; exact HP2.out.bx, by rw [hw3.block _ (by omega)]; exact HP2.out.rz, HP2.out.d.keepN hcc (by decide) hw3, HP2.out.u.keepN hcc (by decide) hw3, HP2.out.hl, fun k cs T fr hk h1 h2 => by
      rw [hw3.block k (fun e => by subst e; have h3 := HP2.out.ty k cs T fr hk h1 h2; rw [hcc] at h3; simp at h3; exact h2 h3.2.1.symm)]; exact HP2.out.ty k cs T fr hk h1 h2⟩
  have hz3 : w.heap.size ≤ w3.heap.size := by have := (Array.getElem?_eq_some_iff.1 HP3.out.bx).1; omega
  clear hc3 hw3 HP2 HC2
  obtain rfl | rfl | rfl | rfl | rfl : q = 0 ∨ q = 1 ∨ q = 2 ∨ q = 3 ∨ q = 4 := by omega
  · have c := (HP3.out.cell 0).1
    have f := (HP3.out.cell 0).2
    have HP := hid_of (HP3.out.set (i := 0) (v := .int .u32 4000000001) (cs' := #[.int .u32 4000000001, .int .u32 tl, .slice aD nD cD, .slice aU nU cU]) rfl)
    go_upto_region 12 with fail
    clear c f HP3
    generalize w3.setCell ⟨w.heap.size, 0, none⟩ (.int .u32 4000000001) = w9 at *
    go_wp2_with (first
      | (refine wpList_load_row rfl 26 (.tmp 3) rfl w.heap.size rfl 26 _ (0, 0) _ HP.out.bx Try.underlying26 rfl HSN.out ?_)
      | (refine wpList_store_row rfl 26 (.tmp 4) (.tmp 31) rfl (w.heap.size + 1) #[.int .u32 4000000001, .int .u32 tl, .slice aD nD cD, .slice aU nU cU] rfl rfl 26 _ HP.out.rz HSN.out rfl (all4n _ _ _ _ _ _ _ _) ?_)
      | fail)
    (try simp only [Exit.inBlock, Exit.then])
    refine bodyPost_ret (v := .agg #[.int .u32 4000000001, .int .u32 tl, .slice aD nD cD, .slice aU nU cU]) (results_cell_row rfl _ _ (w.heap.size + 1) 26 _ (0, 0) _ rfl (setRow_heap _ _ _ _ _ _ HP.out.rz) Try.underlying26 rfl HSN.out) rfl ⟨_, rfl, ?_, HP.out.below.trans ((Wr.setRow _ _ _).below (by have := HP.out.hl; omega)), fun k cs T fr hk h1 h2 => by rw [(Wr.setRow (w.heap.size + 1) w9 #[.int .u32 4000000001, .int .u32 tl, .slice aD nD cD, .slice aU nU cU]).block k (by have := lt_of_get hk; omega)]; exact HP.out.ty k cs T fr hk h1 h2⟩
    have hw := Wr.setRow (w.heap.size + 1) w9 #[.int .u32 4000000001, .int .u32 tl, .slice aD nD cD, .slice aU nU cU]
    exact ⟨_, _, _, _, _, _, _, _, D, U, rfl, by first | exact HV.out.1 | exact ⟨by decide, by decide⟩, by first | exact HV.out.2.1 | exact ⟨by decide, by decide⟩, by have h1 := HV.out.2.2.1; simp; omega, by have h1 := HV.out.2.2.2; simp; omega, HP.out.d.keepN HP.out.rz (by decide) hw, HP.out.u.keepN HP.out.rz (by decide) hw⟩
  · have c := (HP3.out.cell 1).1
    have f := (HP3.out.cell 1).2
    have HP := hid_of (HP3.out.set (i := 1) (v := .int .u32 0) (cs' := #[.int .u32 gn, .int .u32 0, .slice aD nD cD, .slice aU nU cU]) rfl)
    go_upto_region 12 with fail
    clear c f HP3
    generalize w3.setCell ⟨w.heap.size, 1, none⟩ (.int .u32 0) = w9 at *
    go_wp2_with (first
      | (refine wpList_load_row rfl 26 (.tmp 3) rfl w.heap.size rfl 26 _ (0, 0) _ HP.out.bx Try.underlying26 rfl HSN.out ?_)
      | (refine wpList_store_row rfl 26 (.tmp 4) (.tmp 31) rfl (w.heap.size + 1) #[.int .u32 gn, .int .u32 0, .slice aD nD cD, .slice aU nU cU] rfl rfl 26 _ HP.out.rz HSN.out rfl (all4n _ _ _ _ _ _ _ _) ?_)
      | fail)
    (try simp only [Exit.inBlock, Exit.then])
    refine bodyPost_ret (v := .agg #[.int .u32 gn, .int .u32 0, .slice aD nD cD, .slice aU nU cU]) (results_cell_row rfl _ _ (w.heap.size + 1) 26 _ (0, 0) _ rfl (setRow_heap _ _ _ _ _ _ HP.out.rz) Try.underlying26 rfl HSN.out) rfl ⟨_, rfl, ?_, HP.out.below.trans ((Wr.setRow _ _ _).below (by have := HP.out.hl; omega)), fun k cs T fr hk h1 h2 => by rw [(Wr.setRow (w.heap.size + 1) w9 #[.int .u32 gn, .int .u32 0, .slice aD nD cD, .slice aU nU cU]).block k (by have := lt_of_get hk; omega)]; exact HP.out.ty k cs T fr hk h1 h2⟩
    have hw := Wr.setRow (w.heap.size + 1) w9 #[.int .u32 gn, .int .u32 0, .slice aD nD cD, .slice aU nU cU]
    exact ⟨_, _, _, _, _, _, _, _, D, U, rfl, by first | exact HV.out.1 | exact ⟨by decide, by decide⟩, by first | exact HV.out.2.1 | exact ⟨by decide, by decide⟩, by have h1 := HV.out.2.2.1; simp; omega, by have h1 := HV.out.2.2.2; simp; omega, HP.out.d.keepN HP.out.rz (by decide) hw, HP.out.u.keepN HP.out.rz (by decide) hw⟩
  · have c := (HP3.out.cell 1).1
    have f := (HP3.out.cell 1).2
    have HP := hid_of (HP3.out.set (i := 1) (v := .int .u32 4000000001) (cs' := #[.int .u32 gn, .int .u32 4000000001, .slice aD nD cD, .slice aU nU cU]) rfl)
    go_upto_region 12 with fail
    clear c f HP3
    generalize w3.setCell ⟨w.heap.size, 1, none⟩ (.int .u32 4000000001) = w9 at *
    go_wp2_with (first
      | (refine wpList_load_row rfl 26 (.tmp 3) rfl w.heap.size rfl 26 _ (0, 0) _ HP.out.bx Try.underlying26 rfl HSN.out ?_)
      | (refine wpList_store_row rfl 26 (.tmp 4) (.tmp 31) rfl (w.heap.size + 1) #[.int .u32 gn, .int .u32 4000000001, .slice aD nD cD, .slice aU nU cU] rfl rfl 26 _ HP.out.rz HSN.out rfl (all4n _ _ _ _ _ _ _ _) ?_)
      | fail)
    (try simp only [Exit.inBlock, Exit.then])
    refine bodyPost_ret (v := .agg #[.int .u32 gn, .int .u32 4000000001, .slice aD nD cD, .slice aU nU cU]) (results_cell_row rfl _ _ (w.heap.size + 1) 26 _ (0, 0) _ rfl (setRow_heap _ _ _ _ _ _ HP.out.rz) Try.underlying26 rfl HSN.out) rfl ⟨_, rfl, ?_, HP.out.below.trans ((Wr.setRow _ _ _).below (by have := HP.out.hl; omega)), fun k cs T fr hk h1 h2 => by rw [(Wr.setRow (w.heap.size + 1) w9 #[.int .u32 gn, .int .u32 4000000001, .slice aD nD cD, .slice aU nU cU]).block k (by have := lt_of_get hk; omega)]; exact HP.out.ty k cs T fr hk h1 h2⟩
    have hw := Wr.setRow (w.heap.size + 1) w9 #[.int .u32 gn, .int .u32 4000000001, .slice aD nD cD, .slice aU nU cU]
    exact ⟨_, _, _, _, _, _, _, _, D, U, rfl, by first | exact HV.out.1 | exact ⟨by decide, by decide⟩, by first | exact HV.out.2.1 | exact ⟨by decide, by decide⟩, by have h1 := HV.out.2.2.1; simp; omega, by have h1 := HV.out.2.2.2; simp; omega, HP.out.d.keepN HP.out.rz (by decide) hw, HP.out.u.keepN HP.out.rz (by decide) hw⟩
  · have c : w3.cell? ⟨w.heap.size, 2, none⟩ = some (.slice aD nD cD) := (HP3.out.cell 2).1
    have b4 := below_new w3 (.cells #[.int .i64 1] 2)
    have c4 : (w3.alloc (.cells #[.int .i64 1] 2)).cell? ⟨w.heap.size, 2, none⟩ = some (.slice aD nD cD) := (b4.cell (p := ⟨w.heap.size, 2, none⟩) (Array.getElem?_eq_some_iff.1 HP3.out.bx).1).trans c
    have HO : Hid (Iow lo (w3.alloc (.cells #[.int .i64 1] 2)) (.slice aD nD cD) D) := HP3.out.d.alloc _
    have HLE : Hid (D.length ≤ 1048576) := by have := HV.out.2.2.1; show _ ≤ _; omega
    have HLO : Hid (lo ≤ (w3.alloc (.cells #[.int .i64 1] 2)).heap.size) := Nat.le_trans (Nat.le_trans hlo hz3) b4.size
    have HB4 := hid_of b4
    clear b4
    go_wp2_with (first
      | (refine wpList_app1g _ rfl (.tmp 20) (.tmp 21) rfl lo _ D rfl HO.out w3 1 rfl rfl HLE.out HLO.out ?_)
      | fail)
    intro v5 w5 h5 hg5 hb5
    obtain ⟨a5, n5, c5, rfl⟩ := h5.form
    have hbx5 : w5.heap[w.heap.size]? = some (.cells #[.int .u32 gn, .int .u32 tl, .slice aD nD cD, .slice aU nU cU] 26 (0, 0)) := by
      rw [hg5.block _ (Nat.lt_of_lt_of_le (Array.getElem?_eq_some_iff.1 HP3.out.bx).1 HB4.out.size) (fun e => by
        obtain ⟨cs, hcs⟩ : ∃ cs, w3.heap[w.heap.size]? = some (.cells cs 26 (0, 0)) := ⟨_, HP3.out.bx⟩
        have hne := HP3.out.d.ne hcs (by decide)
        have e' : (Value.slice aD nD cD).ownBlock = some w.heap.size := e.symm
        exact own_ne hne e'), HB4.out.block _ (Array.getElem?_eq_some_iff.1 HP3.out.bx).1]; exact HP3.out.bx
    have hrz5 : w5.heap[w.heap.size + 1]? = some (.cells #[.int .u32 0, .int .u32 0, .slice none 0 0, .slice none 0 0] 26 (0, 0)) := by
      rw [hg5.block _ (Nat.lt_of_lt_of_le (Array.getElem?_eq_some_iff.1 HP3.out.rz).1 HB4.out.size) (fun e => by
        obtain ⟨cs, hcs⟩ : ∃ cs, w3.heap[w.heap.size + 1]? = some (.cells cs 26 (0, 0)) := ⟨_, HP3.out.rz⟩
        have hne := HP3.out.d.ne hcs (by decide)
        have e' : (Value.slice aD nD cD).ownBlock = some (w.heap.size + 1) := e.symm
        exact own_ne hne e'), HB4.out.block _ (Array.getElem?_eq_some_iff.1 HP3.out.rz).1]; exact HP3.out.rz
    have hoth : Iow lo w5 (.slice aU nU cU) U := (HP3.out.u.alloc _).grown hg5 (fun q hq e => HAP.out q e hq)
    have HP5 : Hid (SP0 w L lo #[.int .u32 gn, .int .u32 tl, .slice aD nD cD, .slice aU nU cU] (.slice a5 n5 c5) (.slice aU nU cU) (D ++ [1]) U w5) := ⟨HP3.out.below.trans (((HB4.out.mono (Nat.le_trans (Nat.le_trans hL2 hlo) hz3)).grown hg5 (Nat.le_trans (Nat.le_trans (Nat.le_trans hL2 hlo) hz3) HB4.out.size) (fun q hq => Nat.le_trans hL2 (HP3.out.d.ownlt q hq).1))), hbx5, hrz5, h5, hoth, HP3.out.hl, fun k cs T fr hk h1 h2 => by
      have h3 := HP3.out.ty k cs T fr hk h1 h2
      rw [hg5.block k (Nat.lt_of_lt_of_le (lt_of_get h3) HB4.out.size) (fun e => own_ne (HP3.out.d.ne h3 h1) (e.symm : (Value.slice aD nD cD).ownBlock = some k)), HB4.out.block k (lt_of_get h3)]; exact h3⟩
    have c5' : w5.cell? ⟨w.heap.size, 2, none⟩ = some (.slice aD nD cD) := (HP5.out.cell 2).1
    have f5 := (HP5.out.cell 2).2
    have HP := hid_of (HP5.out.set (i := 2) (v := .slice a5 n5 c5) (cs' := #[.int .u32 gn, .int .u32 tl, .slice a5 n5 c5, .slice aU nU cU]) rfl)
    clear h5 hg5 hb5 hbx5 hrz5 hoth HO HLE HLO HB4 c c4 HP3
    go_upto_region 12 with fail
    clear c5' f5 HP5
    generalize w5.setCell ⟨w.heap.size, 2, none⟩ (.slice a5 n5 c5) = w9 at *
    go_wp2_with (first
      | (refine wpList_load_row rfl 26 (.tmp 3) rfl w.heap.size rfl 26 _ (0, 0) _ HP.out.bx Try.underlying26 rfl HSN.out ?_)
      | (refine wpList_store_row rfl 26 (.tmp 4) (.tmp 31) rfl (w.heap.size + 1) #[.int .u32 gn, .int .u32 tl, .slice a5 n5 c5, .slice aU nU cU] rfl rfl 26 _ HP.out.rz HSN.out rfl (all4n _ _ _ _ _ _ _ _) ?_)
      | fail)
    (try simp only [Exit.inBlock, Exit.then])
    refine bodyPost_ret (v := .agg #[.int .u32 gn, .int .u32 tl, .slice a5 n5 c5, .slice aU nU cU]) (results_cell_row rfl _ _ (w.heap.size + 1) 26 _ (0, 0) _ rfl (setRow_heap _ _ _ _ _ _ HP.out.rz) Try.underlying26 rfl HSN.out) rfl ⟨_, rfl, ?_, HP.out.below.trans ((Wr.setRow _ _ _).below (by have := HP.out.hl; omega)), fun k cs T fr hk h1 h2 => by rw [(Wr.setRow (w.heap.size + 1) w9 #[.int .u32 gn, .int .u32 tl, .slice a5 n5 c5, .slice aU nU cU]).block k (by have := lt_of_get hk; omega)]; exact HP.out.ty k cs T fr hk h1 h2⟩
    have hw := Wr.setRow (w.heap.size + 1) w9 #[.int .u32 gn, .int .u32 tl, .slice a5 n5 c5, .slice aU nU cU]
    exact ⟨_, _, _, _, _, _, _, _, (D ++ [1]), U, rfl, by first | exact HV.out.1 | exact ⟨by decide, by decide⟩, by first | exact HV.out.2.1 | exact ⟨by decide, by decide⟩, by have h1 := HV.out.2.2.1; simp; omega, by have h1 := HV.out.2.2.2; simp; omega, HP.out.d.keepN HP.out.rz (by decide) hw, HP.out.u.keepN HP.out.rz (by decide) hw⟩
  · have c : w3.cell? ⟨w.heap.size, 3, none⟩ = some (.slice aU nU cU) := (HP3.out.cell 3).1
    have b4 := below_new w3 (.cells #[.int .i64 256] 2)
    have c4 : (w3.alloc (.cells #[.int .i64 256] 2)).cell? ⟨w.heap.size, 3, none⟩ = some (.slice aU nU cU) := (b4.cell (p := ⟨w.heap.size, 3, none⟩) (Array.getElem?_eq_some_iff.1 HP3.out.bx).1).trans c
    have HO : Hid (Iow lo (w3.alloc (.cells #[.int .i64 256] 2)) (.slice aU nU cU) U) := HP3.out.u.alloc _
    have HLE : Hid (U.length ≤ 1048576) := by have := HV.out.2.2.2; show _ ≤ _; omega
    have HLO : Hid (lo ≤ (w3.alloc (.cells #[.int .i64 256] 2)).heap.size) := Nat.le_trans (Nat.le_trans hlo hz3) b4.size
    have HB4 := hid_of b4
    clear b4
    go_wp2_with (first
      | (refine wpList_app1g _ rfl (.tmp 27) (.tmp 28) rfl lo _ U rfl HO.out w3 256 rfl rfl HLE.out HLO.out ?_)
      | fail)
    intro v5 w5 h5 hg5 hb5
    obtain ⟨a5, n5, c5, rfl⟩ := h5.form
    have hbx5 : w5.heap[w.heap.size]? = some (.cells #[.int .u32 gn, .int .u32 tl, .slice aD nD cD, .slice aU nU cU] 26 (0, 0)) := by
      rw [hg5.block _ (Nat.lt_of_lt_of_le (Array.getElem?_eq_some_iff.1 HP3.out.bx).1 HB4.out.size) (fun e => by
        obtain ⟨cs, hcs⟩ : ∃ cs, w3.heap[w.heap.size]? = some (.cells cs 26 (0, 0)) := ⟨_, HP3.out.bx⟩
        have hne := HP3.out.u.ne hcs (by decide)
        have e' : (Value.slice aU nU cU).ownBlock = some w.heap.size := e.symm
        exact own_ne hne e'), HB4.out.block _ (Array.getElem?_eq_some_iff.1 HP3.out.bx).1]; exact HP3.out.bx
    have hrz5 : w5.heap[w.heap.size + 1]? = some (.cells #[.int .u32 0, .int .u32 0, .slice none 0 0, .slice none 0 0] 26 (0, 0)) := by
      rw [hg5.block _ (Nat.lt_of_lt_of_le (Array.getElem?_eq_some_iff.1 HP3.out.rz).1 HB4.out.size) (fun e => by
        obtain ⟨cs, hcs⟩ : ∃ cs, w3.heap[w.heap.size + 1]? = some (.cells cs 26 (0, 0)) := ⟨_, HP3.out.rz⟩
        have hne := HP3.out.u.ne hcs (by decide)
        have e' : (Value.slice aU nU cU).ownBlock = some (w.heap.size + 1) := e.symm
        exact own_ne hne e'), HB4.out.block _ (Array.getElem?_eq_some_iff.1 HP3.out.rz).1]; exact HP3.out.rz
    have hoth : Iow lo w5 (.slice aD nD cD) D := (HP3.out.d.alloc _).grown hg5 (fun q hq e => HAP.out q hq e)
    have HP5 : Hid (SP0 w L lo #[.int .u32 gn, .int .u32 tl, .slice aD nD cD, .slice aU nU cU] (.slice aD nD cD) (.slice a5 n5 c5) D (U ++ [256]) w5) := ⟨HP3.out.below.trans (((HB4.out.mono (Nat.le_trans (Nat.le_trans hL2 hlo) hz3)).grown hg5 (Nat.le_trans (Nat.le_trans (Nat.le_trans hL2 hlo) hz3) HB4.out.size) (fun q hq => Nat.le_trans hL2 (HP3.out.u.ownlt q hq).1))), hbx5, hrz5, hoth, h5, HP3.out.hl, fun k cs T fr hk h1 h2 => by
      have h3 := HP3.out.ty k cs T fr hk h1 h2
      rw [hg5.block k (Nat.lt_of_lt_of_le (lt_of_get h3) HB4.out.size) (fun e => own_ne (HP3.out.u.ne h3 h1) (e.symm : (Value.slice aU nU cU).ownBlock = some k)), HB4.out.block k (lt_of_get h3)]; exact h3⟩
    have c5' : w5.cell? ⟨w.heap.size, 3, none⟩ = some (.slice aU nU cU) := (HP5.out.cell 3).1
    have f5 := (HP5.out.cell 3).2
    have HP := hid_of (HP5.out.set (i := 3) (v := .slice a5 n5 c5) (cs' := #[.int .u32 gn, .int .u32 tl, .slice aD nD cD, .slice a5 n5 c5]) rfl)
    clear h5 hg5 hb5 hbx5 hrz5 hoth HO HLE HLO HB4 c c4 HP3
    go_upto_region 12 with fail
    clear c5' f5 HP5
    generalize w5.setCell ⟨w.heap.size, 3, none⟩ (.slice a5 n5 c5) = w9 at *
    go_wp2_with (first
      | (refine wpList_load_row rfl 26 (.tmp 3) rfl w.heap.size rfl 26 _ (0, 0) _ HP.out.bx Try.underlying26 rfl HSN.out ?_)
      | (refine wpList_store_row rfl 26 (.tmp 4) (.tmp 31) rfl (w.heap.size + 1) #[.int .u32 gn, .int .u32 tl, .slice aD nD cD, .slice a5 n5 c5] rfl rfl 26 _ HP.out.rz HSN.out rfl (all4n _ _ _ _ _ _ _ _) ?_)
      | fail)
    (try simp only [Exit.inBlock, Exit.then])
    refine bodyPost_ret (v := .agg #[.int .u32 gn, .int .u32 tl, .slice aD nD cD, .slice a5 n5 c5]) (results_cell_row rfl _ _ (w.heap.size + 1) 26 _ (0, 0) _ rfl (setRow_heap _ _ _ _ _ _ HP.out.rz) Try.underlying26 rfl HSN.out) rfl ⟨_, rfl, ?_, HP.out.below.trans ((Wr.setRow _ _ _).below (by have := HP.out.hl; omega)), fun k cs T fr hk h1 h2 => by rw [(Wr.setRow (w.heap.size + 1) w9 #[.int .u32 gn, .int .u32 tl, .slice aD nD cD, .slice a5 n5 c5]).block k (by have := lt_of_get hk; omega)]; exact HP.out.ty k cs T fr hk h1 h2⟩
    have hw := Wr.setRow (w.heap.size + 1) w9 #[.int .u32 gn, .int .u32 tl, .slice aD nD cD, .slice a5 n5 c5]
    exact ⟨_, _, _, _, _, _, _, _, D, (U ++ [256]), rfl, by first | exact HV.out.1 | exact ⟨by decide, by decide⟩, by first | exact HV.out.2.1 | exact ⟨by decide, by decide⟩, by have h1 := HV.out.2.2.1; simp; omega, by have h1 := HV.out.2.2.2; simp; omega, HP.out.d.keepN HP.out.rz (by decide) hw, HP.out.u.keepN HP.out.rz (by decide) hw⟩
set_option maxRecDepth 100000 in
set_option maxHeartbeats 8000000 in
theorem drawE_any (a : Option Addr) (n cap : Nat) (zs : List Int) (w : World) (hl : zs.length = n) (hn : n ≤ 1048576) (hz : Byte zs) (ha : At .u8 w a zs) :
    Calls Try.prog 13 #[.slice a n cap] w fun e w' => ∃ v, e = .returned v ∧ SnV w.heap.size w' v ∧ Below w.heap.size w w' := by
  have b1 := below_new w (.cells #[.int .u32 0, .int .u32 0, .slice none 0 0, .slice none 0 0] 26)
  have HSN : Hid ((Try.prog.info? 26).map (·.size) = some 4) := by show _ = _; kernel_rfl
  have HA1 : Hid (At .u8 (w.alloc (.cells #[.int .u32 0, .int .u32 0, .slice none 0 0, .slice none 0 0] 26)) a zs) := ha.below b1
  have HR1 : Hid ((w.alloc (.cells #[.int .u32 0, .int .u32 0, .slice none 0 0, .slice none 0 0] 26)).heap[w.heap.size]? = some (.cells #[.int .u32 0, .int .u32 0, .slice none 0 0, .slice none 0 0] 26 (0, 0))) := heap_alloc_new w _
  have hz1 : (w.alloc (.cells #[.int .u32 0, .int .u32 0, .slice none 0 0, .slice none 0 0] 26)).heap.size = w.heap.size + 1 := by simp
  have HB1 := hid_of b1
  have HZ : Hid (zs.length = n ∧ Byte zs ∧ At .u8 w a zs) := ⟨hl, hz, ha⟩
  clear b1 ha hl hz
  go_enter Try.func13, Try.ntmps13
  go_wp2_with fail
  generalize (w.alloc (.cells #[.int .u32 0, .int .u32 0, .slice none 0 0, .slice none 0 0] 26)) = w1 at *
  refine (new_any a n cap zs w1 HZ.out.1 hn HZ.out.2.1 HA1.out).mono ?_
  rintro e w2 ⟨rfl, hcb, hb2, hz2⟩
  obtain ⟨g, hgg⟩ : ∃ g, w1.heap.size = g := ⟨_, rfl⟩
  rw [hgg] at hcb hb2 hz2 ⊢
  have HCT : Hid (CurT w2 g a n) := by
    refine ⟨hn, zs, HZ.out.1, HZ.out.2.1, ?_⟩
    rcases HZ.out.2.2 with h | ⟨b, off, e, hb, hc⟩
    · exact .inl h
    · exact .inr ⟨b, off, e, by omega, fun i hi => by rw [hb2.cell (p := ⟨b, off + i, none⟩) (by show b < g; omega), HB1.out.cell (p := ⟨b, off + i, none⟩) hb]; exact hc i hi⟩
  have HB2 : Hid (Below w.heap.size w w2) := HB1.out.trans (hb2.mono (by omega))
  have HR2 : Hid (w2.heap[w.heap.size]? = some (.cells #[.int .u32 0, .int .u32 0, .slice none 0 0, .slice none 0 0] 26 (0, 0))) := by show _ = _; rw [hb2.block _ (by omega)]; exact HR1.out
  have HCB := hid_of hcb
  have HG : Hid (g = w.heap.size + 1 ∧ w2.heap.size = g + 1) := ⟨by omega, hz2⟩
  clear hcb hb2 HA1 HR1 HB1 hz1 hz2 hgg
  go_wp2_with fail
  refine (drawSn_any g a n cap w2 HCB.out HCT.out).mono ?_
  rintro e w3 ⟨v, rfl, hv⟩
  obtain ⟨gn, tl, aD, nD, cD, aU, nU, cU, D, U, rfl, ug, ut, _, lD, lU, i1, i2, ap, cb, wg⟩ := hv
  have b4 := below_new w3 (.cells #[.int .u32 gn, .int .u32 tl, .slice aD nD cD, .slice aU nU cU] 26)
  have HV : Hid (U32 gn ∧ U32 tl ∧ D.length ≤ 300 ∧ U.length ≤ 300) := ⟨ug, ut, lD, lU⟩
  have HAP : Hid (ApV (.slice aD nD cD) (.slice aU nU cU)) := ap
  have HWE : Hid ((w3.alloc (.cells #[.int .u32 0, .int .u32 0, .slice none 0 0, .slice none 0 0] 26)).setRow w3.heap.size #[.int .u32 gn, .int .u32 tl, .slice aD nD cD, .slice aU nU cU] = (w3.alloc (.cells #[.int .u32 gn, .int .u32 tl, .slice aD nD cD, .slice aU nU cU] 26))) := World.setRow_alloc_new _ _ _ _
  have HNB : Hid ((w3.alloc (.cells #[.int .u32 0, .int .u32 0, .slice none 0 0, .slice none 0 0] 26)).heap[w3.heap.size]? = some (.cells #[.int .u32 0, .int .u32 0, .slice none 0 0, .slice none 0 0] 26 (0, 0))) := heap_alloc_new w3 _
  have HX4 : Hid ((w3.alloc (.cells #[.int .u32 gn, .int .u32 tl, .slice aD nD cD, .slice aU nU cU] 26)).heap[w3.heap.size]? = some (.cells #[.int .u32 gn, .int .u32 tl, .slice aD nD cD, .slice aU nU cU] 26 (0, 0))) := heap_alloc_new w3 _
  have HI4 : Hid (Iow w2.heap.size (w3.alloc (.cells #[.int .u32 gn, .int .u32 tl, .slice aD nD cD, .slice aU nU cU] 26)) (.slice aD nD cD) D ∧ Iow w2.heap.size (w3.alloc (.cells #[.int .u32 gn, .int .u32 tl, .slice aD nD cD, .slice aU nU cU] 26)) (.slice aU nU cU) U) := ⟨i1.below b4, i2.below b4⟩
  have HC4 : Hid (CurB (w3.alloc (.cells #[.int .u32 gn, .int .u32 tl, .slice aD nD cD, .slice aU nU cU] 26)) g a n cap) := cb.keep (b4.block g cb.lt)
  have HR4 : Hid ((w3.alloc (.cells #[.int .u32 gn, .int .u32 tl, .slice aD nD cD, .slice aU nU cU] 26)).heap[w.heap.size]? = some (.cells #[.int .u32 0, .int .u32 0, .slice none 0 0, .slice none 0 0] 26 (0, 0))) := by show _ = _; rw [b4.block _ (by have := HG.out; have := wg.size; omega), wg.block _ (by have := HG.out; omega) (by have := HG.out; omega)]; exact HR2.out
  have HB4 : Hid (Below w.heap.size w (w3.alloc (.cells #[.int .u32 gn, .int .u32 tl, .slice aD nD cD, .slice aU nU cU] 26))) := (HB2.out.trans (wg.below w.heap.size (by have := HG.out; omega) (by have := HG.out; omega))).trans (b4.mono (by have := HG.out; have := wg.size; omega))
  have HT4 : Hid (CurT (w3.alloc (.cells #[.int .u32 gn, .int .u32 tl, .slice aD nD cD, .slice aU nU cU] 26)) g a n) := (HCT.out.wr (fun q hq => wg.block q (by have := HG.out; omega) (by omega))).wr (fun q hq => b4.block q (by have := HG.out; have := wg.size; omega))
  have HS3 : Hid (g < w3.heap.size ∧ w2.heap.size ≤ w3.heap.size ∧ w3.heap.size < (w3.alloc (.cells #[.int .u32 gn, .int .u32 tl, .slice aD nD cD, .slice aU nU cU] 26)).heap.size) := ⟨cb.lt, wg.size, by simp⟩
  clear ug ut lD lU i1 i2 ap cb wg b4 HCB HCT HR2 HB2
  go_upto_region 3 with (first
    | (refine wpList_store_row rfl 26 (.tmp 4) (.tmp 8) rfl w3.heap.size #[.int .u32 gn, .int .u32 tl, .slice aD nD cD, .slice aU nU cU] rfl rfl 26 _ HNB.out HSN.out rfl (all4n _ _ _ _ _ _ _ _) ?_)
    | fail)
  rw [HWE.out]
  clear HWE HNB
  generalize (w3.alloc (.cells #[.int .u32 gn, .int .u32 tl, .slice aD nD cD, .slice aU nU cU] 26)) = w4 at *
  generalize w3.heap.size = Bx at *
  go_wp2_with fail
  refine (once_any g a n cap 6 w4 HC4.out HT4.out (by decide) (by decide)).mono ?_
  rintro e w5 ⟨b5, rfl, hc5, hw5⟩
  obtain ⟨ci, ch, _, _, _, _, hcc⟩ := HC4.out
  have HX5 : Hid (w5.heap[Bx]? = some (.cells #[.int .u32 gn, .int .u32 tl, .slice aD nD cD, .slice aU nU cU] 26 (0, 0))) := by show _ = _; rw [hw5.block Bx (by have := HS3.out; omega)]; exact HX4.out
  have HR5 : Hid (w5.heap[w.heap.size]? = some (.cells #[.int .u32 0, .int .u32 0, .slice none 0 0, .slice none 0 0] 26 (0, 0))) := by show _ = _; rw [hw5.block _ (by have := HG.out; omega)]; exact HR4.out
  have HI5 : Hid (Iow w2.heap.size w5 (.slice aD nD cD) D ∧ Iow w2.heap.size w5 (.slice aU nU cU) U) := ⟨HI4.out.1.keepN hcc (by decide) hw5, HI4.out.2.keepN hcc (by decide) hw5⟩
  have HB5 : Hid (Below w.heap.size w w5) := HB4.out.trans (hw5.below (by have := HG.out; omega))
  have HC5 := hid_of hc5
  have HT5 : Hid (CurT w5 g a n) := HT4.out.wr (fun q hq => hw5.block q (by omega))
  have HZ5 : Hid (w2.heap.size ≤ w5.heap.size) := by show _ ≤ _; rw [hw5.size]; have := HS3.out; omega
  have HLO : Hid (w.heap.size ≤ w2.heap.size) := by show _ ≤ _; have := HG.out; omega
  clear hc5 hw5 hcc HX4 HR4 HI4 HB4 HC4 HT4
  cases b5
  · have HX9 := HX5
    have HR9 := HR5
    have HI9 := HI5
    have HB9 := HB5
    have HV9 : Hid (U32 gn ∧ U32 tl ∧ D.length ≤ 400 ∧ U.length ≤ 400) := ⟨HV.out.1, HV.out.2.1, Nat.le_trans HV.out.2.2.1 (by decide), Nat.le_trans HV.out.2.2.2 (by decide)⟩
    generalize w5 = w9 at *
    go_wp2_with (first
      | (refine wpList_load_row rfl 26 (.tmp 4) rfl Bx rfl 26 _ (0, 0) _ HX9.out Try.underlying26 rfl HSN.out ?_)
      | (refine wpList_store_row rfl 26 (.tmp 2) (.tmp 14) rfl w.heap.size #[.int .u32 gn, .int .u32 tl, .slice aD nD cD, .slice aU nU cU] rfl rfl 26 _ HR9.out HSN.out rfl (all4n _ _ _ _ _ _ _ _) ?_)
      | fail)
    (try simp only [Exit.inBlock, Exit.then])
    refine bodyPost_ret (v := .agg #[.int .u32 gn, .int .u32 tl, .slice aD nD cD, .slice aU nU cU]) (results_cell_row rfl _ _ w.heap.size 26 _ (0, 0) _ rfl (setRow_heap _ _ _ _ _ _ HR9.out) Try.underlying26 rfl HSN.out) rfl ⟨_, rfl, ?_, HB9.out.trans ((Wr.setRow _ _ _).below (Nat.le_refl _))⟩
    have hw := Wr.setRow w.heap.size w9 #[.int .u32 gn, .int .u32 tl, .slice aD nD cD, .slice aU nU cU]
    exact ⟨_, _, _, _, _, _, _, _, D, U, rfl, HV9.out.1, HV9.out.2.1, HV9.out.2.2.1, HV9.out.2.2.2, Iow.mono (HI9.out.1.keepN HR9.out (by decide) hw) HLO.out, Iow.mono (HI9.out.2.keepN HR9.out (by decide) hw) HLO.out⟩
  · have A := hid_of (spoil_any g a n cap gn tl aD aU nD cD nU cU D U (w.heap.size + 1) w2.heap.size w5 HC5.out HT5.out HV.out.1 HV.out.2.1 HV.out.2.2.1 HV.out.2.2.2 HI5.out.1 HI5.out.2 HAP.out (by have := HG.out; omega) (by have := HG.out; omega) HZ5.out)
    go_wp2_with (first
      | (refine wpList_load_row rfl 26 (.tmp 4) rfl Bx rfl 26 _ (0, 0) _ HX5.out Try.underlying26 rfl HSN.out ?_)
      | fail)
    refine A.out.mono ?_
    rintro e w6 ⟨v6, rfl, hv6, hb6, hty⟩
    obtain ⟨gn', tl', aD', nD', cD', aU', nU', cU', D', U', rfl, ug, ut, lD, lU, j1, j2⟩ := hv6
    have HX6 : Hid (w6.heap[Bx]? = some (.cells #[.int .u32 gn, .int .u32 tl, .slice aD nD cD, .slice aU nU cU] 26 (0, 0))) := hty _ _ _ _ HX5.out (by decide) (by decide)
    have hR6 : w6.heap[w.heap.size]? = some (.cells #[.int .u32 0, .int .u32 0, .slice none 0 0, .slice none 0 0] 26 (0, 0)) := hty _ _ _ _ HR5.out (by decide) (by decide)
    have hw7 := Wr.setRow Bx w6 #[.int .u32 gn', .int .u32 tl', .slice aD' nD' cD', .slice aU' nU' cU']
    have hne : w.heap.size ≠ Bx := by have := HS3.out; have := HG.out; omega
    have HX9 : Hid ((w6.setRow Bx #[.int .u32 gn', .int .u32 tl', .slice aD' nD' cD', .slice aU' nU' cU']).heap[Bx]? = some (.cells #[.int .u32 gn', .int .u32 tl', .slice aD' nD' cD', .slice aU' nU' cU'] 26 (0, 0))) := setRow_heap _ _ _ _ _ _ HX6.out
    have HR9 : Hid ((w6.setRow Bx #[.int .u32 gn', .int .u32 tl', .slice aD' nD' cD', .slice aU' nU' cU']).heap[w.heap.size]? = some (.cells #[.int .u32 0, .int .u32 0, .slice none 0 0, .slice none 0 0] 26 (0, 0))) := by show _ = _; rw [hw7.block _ hne]; exact hR6
    have HI9 : Hid (Iow w2.heap.size (w6.setRow Bx #[.int .u32 gn', .int .u32 tl', .slice aD' nD' cD', .slice aU' nU' cU']) (.slice aD' nD' cD') D' ∧ Iow w2.heap.size (w6.setRow Bx #[.int .u32 gn', .int .u32 tl', .slice aD' nD' cD', .slice aU' nU' cU']) (.slice aU' nU' cU') U') := ⟨j1.keepN HX6.out (by decide) hw7, j2.keepN HX6.out (by decide) hw7⟩
    have HV9 : Hid (U32 gn' ∧ U32 tl' ∧ D'.length ≤ 400 ∧ U'.length ≤ 400) := ⟨ug, ut, lD, lU⟩
    have HB9 : Hid (Below w.heap.size w (w6.setRow Bx #[.int .u32 gn', .int .u32 tl', .slice aD' nD' cD', .slice aU' nU' cU'])) := (HB5.out.trans (hb6.mono (Nat.le_succ _))).trans (hw7.below (by have := HS3.out; have := HG.out; omega))
    clear A hb6 hty ug ut lD lU j1 j2 hR6 hw7 hne
    go_upto_region 5 with (first
      | (refine wpList_store_row rfl 26 (.tmp 4) (.tmp 13) rfl Bx #[.int .u32 gn', .int .u32 tl', .slice aD' nD' cD', .slice aU' nU' cU'] rfl rfl 26 _ HX6.out HSN.out rfl (all4n _ _ _ _ _ _ _ _) ?_)
      | fail)
    clear HX6 HX5 HR5 HI5 HB5
    generalize w6.setRow Bx #[.int .u32 gn', .int .u32 tl', .slice aD' nD' cD', .slice aU' nU' cU'] = w9 at *
    go_wp2_with (first
      | (refine wpList_load_row rfl 26 (.tmp 4) rfl Bx rfl 26 _ (0, 0) _ HX9.out Try.underlying26 rfl HSN.out ?_)
      | (refine wpList_store_row rfl 26 (.tmp 2) (.tmp 14) rfl w.heap.size #[.int .u32 gn', .int .u32 tl', .slice aD' nD' cD', .slice aU' nU' cU'] rfl rfl 26 _ HR9.out HSN.out rfl (all4n _ _ _ _ _ _ _ _) ?_)
      | fail)
    (try simp only [Exit.inBlock, Exit.then])
    refine bodyPost_ret (v := .agg #[.int .u32 gn', .int .u32 tl', .slice aD' nD' cD', .slice aU' nU' cU']) (results_cell_row rfl _ _ w.heap.size 26 _ (0, 0) _ rfl (setRow_heap _ _ _ _ _ _ HR9.out) Try.underlying26 rfl HSN.out) rfl ⟨_, rfl, ?_, HB9.out.trans ((Wr.setRow _ _ _).below (Nat.le_refl _))⟩
    have hw := Wr.setRow w.heap.size w9 #[.int .u32 gn', .int .u32 tl', .slice aD' nD' cD', .slice aU' nU' cU']
    exact ⟨_, _, _, _, _, _, _, _, D', U', rfl, HV9.out.1, HV9.out.2.1, HV9.out.2.2.1, HV9.out.2.2.2, Iow.mono (HI9.out.1.keepN HR9.out (by decide) hw) HLO.out, Iow.mono (HI9.out.2.keepN HR9.out (by decide) hw) HLO.out⟩
end Go.Proofs.Ytmnoelfabldpfaa
