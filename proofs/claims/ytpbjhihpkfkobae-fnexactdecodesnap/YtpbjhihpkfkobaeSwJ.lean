/-
  Own work: ApplyFrame, by the program.
-/
import Derived.Test.YtpbjhihpkfkobaeSwI
import Derived.Test.YtpbjhihpkfkobaeSwH
import Derived.Deep.Cut
namespace Go.Proofs.Ytpbjhihpkfkobae
open Go.ChangeShapes Go.WideShapes Go.ChangeAt Go.RowKit
set_option linter.unusedVariables false

theorem apR_no {D U : List Int} {k : Int} {T : List Int} {n : Nat} {kind : Int} {a b : Nat} (h : (apR D U k T n kind a b).ok = false) : apR D U k T n kind a b = apNo := by
  unfold apR at h ⊢
  split
  · split
    · rename_i h1 h2; rw [if_pos h1, if_pos h2] at h; cases h
    · rfl
  · split
    · rename_i h1 h2
      rw [if_neg h1, if_pos h2] at h
      split
      · rename_i h3; rw [if_pos h3] at h; cases h
      · rename_i h3
        rw [if_neg h3] at h
        split
        · rename_i h4; rw [if_pos h4] at h; cases h
        · rfl
    · rename_i h1 h2
      rw [if_neg h1, if_neg h2] at h
      split
      · rename_i h3
        rw [if_pos h3] at h
        split
        · rename_i h4; rw [if_pos h4] at h; cases h
        · rfl
      · rfl
theorem withS_ser (xs : List Int) (a : Nat) : SerP (withS xs a) := upTo_ser _
theorem apR_ser {D U : List Int} {k : Int} {T : List Int} {n : Nat} {kind : Int} {a b : Nat} (hD : SerP D) (hU : SerP U) : SerP (apR D U k T n kind a b).D ∧ SerP (apR D U k T n kind a b).U := by
  have hn : SerP ([] : List Int) := fun i hi => by simp at hi
  unfold apR
  split
  · split
    · exact ⟨hD, withS_ser _ _⟩
    · exact ⟨hn, hn⟩
  · split
    · split
      · exact ⟨withS_ser _ _, hU⟩
      · split
        · exact ⟨without_ser hD _, hU⟩
        · exact ⟨hn, hn⟩
    · split
      · split
        · exact ⟨hD, hU⟩
        · exact ⟨hn, hn⟩
      · exact ⟨hn, hn⟩
open Classical in
/-- What ApplyFrame answers. -/
noncomputable def apF (D U : List Int) (k : Int) (T : List Int) (n : Nat) (kind : Int) (a b : Nat) : ApR := if stB D U k T n = true then apR D U k T n kind a b else apNo
theorem stP_of {D U : List Int} {k : Int} {T : List Int} {n : Nat} (h : stB D U k T n = true) : StP D U k T n := by
  unfold stB at h; simpa using h
/-- An answer of ApplyFrame, as a value. -/
def APV (lo : Nat) (w : World) (v : Value) (r : ApR) : Prop :=
  ∃ aD nD cD aU nU cU aT nT cT, v = .agg #[.bool r.ok, .slice aD nD cD, .slice aU nU cU, .int .i64 r.k, .slice aT nT cT] ∧ S3 lo w aD aU aT nD nU nT r.D r.U r.T
theorem APV.no (lo : Nat) (w : World) : APV lo w (.agg #[.bool false, .slice none 0 0, .slice none 0 0, .int .i64 0, .slice none 0 0]) apNo :=
  ⟨none, 0, 0, none, 0, 0, none, 0, 0, rfl, .inl rfl, .inl rfl, .inl rfl, rfl, rfl, rfl, fun _ h => (by cases h), fun _ h => (by cases h), fun _ h => (by cases h), fun _ _ h => (by cases h), fun _ _ h => (by cases h), fun _ _ h => (by cases h)⟩
theorem Iow.sat {B : Nat} {w : World} {a : Option Addr} {n c : Nat} {xs : List Int} (h : Iow B w (.slice a n c) xs) : SAt w a xs ∧ xs.length = n ∧ Lies B w a := by
  rcases h.2 with ⟨h', h0⟩ | ⟨g, cap, cur, h', hb, hh, hc, hm, hs, ht⟩
  · cases h'
    have : xs = [] := List.eq_nil_of_length_eq_zero h0
    exact ⟨.inl this, h0, fun _ e => (by cases e)⟩
  · cases h'
    have hlt := (Array.getElem?_eq_some_iff.1 hh).1
    refine ⟨.inr ⟨g, 0, rfl, hlt, fun i hi => ?_⟩, rfl, fun ad e => (by cases e; exact ⟨hb, hlt⟩)⟩
    rw [Nat.zero_add]
    refine ⟨?_, frozen_of_row _ _ _ _ _ hh⟩
    have := World.ownsRow.cellAt h i (by omega)
    rw [this]; simp [hi]
theorem TapV.sat {B : Nat} {w : World} {a : Option Addr} {n c : Nat} {T : List Int} (h : TapV B w (.slice a n c) T n) : SAt w a T ∧ T.length = n * 2 ∧ Lies B w a := by
  obtain ⟨hl, ⟨h1, h2⟩ | ⟨t, o, c', h1, hB, ht, hc, hm, hx⟩⟩ := h
  · cases h1
    exact ⟨.inl (List.eq_nil_of_length_eq_zero (by omega)), hl, fun _ e => (by cases e)⟩
  · cases h1
    exact ⟨.inr ⟨t, o, rfl, ht, fun i hi => hx i (by omega)⟩, hl, fun ad e => (by cases e; exact ⟨hB, ht⟩)⟩
/-- The boxes of ApplyFrame. -/
structure IX (w : World) (fr : Array Value) (wr : World) : Prop where
  below : Below w.heap.size w wr
  fb : wr.heap[w.heap.size + 1]? = some (.cells fr 64 (0, 0))
  rb : wr.heap[w.heap.size + 2]? = some (.cells #[.bool false, .slice none 0 0, .slice none 0 0, .int .i64 0, .slice none 0 0] 61 (0, 0))
theorem IX.call {w wr w' : World} {fr : Array Value} {B : Nat} (h : IX w fr wr) (b : Below B wr w') (hB : w.heap.size + 3 ≤ B) : IX w fr w' :=
  ⟨h.below.trans (b.mono (by omega)), by rw [b.block _ (by omega)]; exact h.fb, by rw [b.block _ (by omega)]; exact h.rb⟩
theorem IX.start (w : World) (sc fr : Array Value) : IX w fr (((w.alloc (.cells sc 59)).alloc (.cells fr 64)).alloc (.cells #[.bool false, .slice none 0 0, .slice none 0 0, .int .i64 0, .slice none 0 0] 61)) := by
  refine ⟨(((Below.refl _ _).alloc (Nat.le_refl _) _).alloc (by simp) _).alloc (by simp; omega) _, ?_, ?_⟩
  · rw [Below.heap_alloc _ _ (w.heap.size + 1) (by simp)]
    have := heap_alloc_new (w.alloc (.cells sc 59)) (.cells fr 64)
    rwa [show (w.alloc (.cells sc 59)).heap.size = w.heap.size + 1 by simp] at this
  · have := heap_alloc_new ((w.alloc (.cells sc 59)).alloc (.cells fr 64)) (.cells #[.bool false, .slice none 0 0, .slice none 0 0, .int .i64 0, .slice none 0 0] 61)
    rwa [show ((w.alloc (.cells sc 59)).alloc (.cells fr 64)).heap.size = w.heap.size + 2 by simp] at this
set_option maxRecDepth 100000 in
set_option maxHeartbeats 4000000 in
theorem iap_any (aD aU aT : Option Addr) (nD cD nU cU nT cT : Nat) (D U : List Int) (k : Int) (T : List Int) (seq kind : Int) (a b : Nat) (w : World) (hD : D.length = nD) (hU : U.length = nU) (hT : T.length = nT * 2) (mD : nD ≤ 1048576) (mU : nU ≤ 1048576) (mT : nT ≤ 1048576)
    (haD : At .i64 w aD D) (haU : At .i64 w aU U) (haT : At .i64 w aT T) (hnil : aT = none → nT = 0 ∧ cT = 0) (hk0 : -9223372036854775808 ≤ k) (hk1 : k < 9223372036854775808) (ha : a < 4294967296) (hbb : b < 4294967296) :
    Calls Try.prog 34 #[.agg #[.slice aD nD cD, .slice aU nU cU, .int .i64 k, .slice aT nT cT], .agg #[.int .u32 seq, .int .i64 kind, .int .u32 a, .int .u32 b]] w fun e w' => ∃ v, e = .returned v ∧ APV w.heap.size w' v (apF D U k T nT kind a b) ∧ Below w.heap.size w w' := by
  have HX0 : Hid (IX w #[.int .u32 seq, .int .i64 kind, .int .u32 a, .int .u32 b] (((w.alloc (.cells #[.slice aD nD cD, .slice aU nU cU, .int .i64 k, .slice aT nT cT] 59)).alloc (.cells #[.int .u32 seq, .int .i64 kind, .int .u32 a, .int .u32 b] 64)).alloc (.cells #[.bool false, .slice none 0 0, .slice none 0 0, .int .i64 0, .slice none 0 0] 61))) := IX.start _ _ _
  have HZ0 : Hid ((((w.alloc (.cells #[.slice aD nD cD, .slice aU nU cU, .int .i64 k, .slice aT nT cT] 59)).alloc (.cells #[.int .u32 seq, .int .i64 kind, .int .u32 a, .int .u32 b] 64)).alloc (.cells #[.bool false, .slice none 0 0, .slice none 0 0, .int .i64 0, .slice none 0 0] 61)).heap.size = w.heap.size + 3) := by show _ = _; simp
  have HC := openBook_any aD aU aT nD cD nU cU nT cT D U k T _ hD hU hT mD mU mT (haD.below HX0.out.below) (haU.below HX0.out.below) (haT.below HX0.out.below) hnil hk0 hk1
  have HLU : Hid (U.length = nU) := hU
  have HRZ : Hid ((Try.prog.info? 61).map (·.size) = some 5) := by show _ = _; kernel_rfl
  clear haD haU haT hnil hk0 hk1 hD hU hT
  go_enter Try.func34, Try.ntmps34
  go_wp2_with fail
  generalize (((w.alloc (.cells #[.slice aD nD cD, .slice aU nU cU, .int .i64 k, .slice aT nT cT] 59)).alloc (.cells #[.int .u32 seq, .int .i64 kind, .int .u32 a, .int .u32 b] 64)).alloc (.cells #[.bool false, .slice none 0 0, .slice none 0 0, .int .i64 0, .slice none 0 0] 61)) = w0 at *
  refine HC.mono ?_
  rintro e w1 ⟨bk, rfl, hs, ho, hb, hbk⟩
  have HX1 : Hid (IX w #[.int .u32 seq, .int .i64 kind, .int .u32 a, .int .u32 b] w1) := HX0.out.call hb (by rw [HZ0.out]; omega)
  have HB1 : Hid (w.heap.size + 3 ≤ w1.heap.size) := by show _ ≤ _; have := hb.size; rw [HZ0.out] at this; exact this
  have HN : Hid ((w1.alloc (.cells Try.zeroCells132 132)).heap[w1.heap.size]? = some (.cells Try.zeroCells132 132 (0, 0))) := heap_alloc_new w1 _
  have HSZ : Hid ((Try.prog.info? 132).map (·.size) = some bk.size) := by show _ = _; rw [hs]; exact Try.sizeBook
  have HEQ : Hid ((Try.zeroCells132).size = bk.size) := by show _ = _; rw [hs]; exact zc_size
  have HOK : Hid (bk.all (fun x => x.oneCell') = true) := ho
  have b2 : ∀ cs, Below w1.heap.size w1 ((w1.alloc (.cells Try.zeroCells132 132)).setRow w1.heap.size cs) := fun cs => ((Below.refl _ _).alloc (Nat.le_refl _) _).trans ((Wr.setRow _ _ _).below (Nat.le_refl _))
  have HB2 : Hid (Below w1.heap.size w1 ((w1.alloc (.cells Try.zeroCells132 132)).setRow w1.heap.size bk)) := b2 bk
  have HR2 : Hid (((w1.alloc (.cells Try.zeroCells132 132)).setRow w1.heap.size bk).heap[w1.heap.size]? = some (.cells bk 132 (0, 0))) := setRow_heap _ _ _ _ _ _ HN.out
  have HBK : Hid (stB D U k T nT = true → ∃ db ub v, bk = bkC db ub k v ∧ SetB db (fun v => (v : Int) ∈ D) ∧ SetB ub (fun v => (v : Int) ∈ U) ∧ TapO (w.heap.size + 3) w1 v T nT) := by
    intro h; obtain ⟨db, ub, v, h1, h2, h3, h4⟩ := hbk h; rw [HZ0.out] at h4; exact ⟨db, ub, v, h1, h2, h3, h4⟩
  have HX2 : Hid (IX w #[.int .u32 seq, .int .i64 kind, .int .u32 a, .int .u32 b] ((w1.alloc (.cells Try.zeroCells132 132)).setRow w1.heap.size bk)) := HX1.out.call (b2 bk) HB1.out
  have HAF : Hid (apF D U k T nT kind a b = if stB D U k T nT = true then apR D U k T nT kind a b else apNo) := rfl
  have HST : Hid (stB D U k T nT = true → StP D U k T nT) := stP_of
  clear hs ho hb HC HX0 HZ0 hbk b2 HX1
  generalize hq : stB D U k T nT = q at *
  have HQ : Hid (stB D U k T nT = q) := hq
  clear hq
  go_upto_region 2 with (first
    | (refine wpList_store_row rfl 132 (.tmp 5) (.tmp 10) rfl w1.heap.size bk rfl rfl 132 _ HN.out HSZ.out HEQ.out HOK.out ?_)
    | fail)
  clear HN HSZ HEQ HOK
  generalize (w1.alloc (.cells Try.zeroCells132 132)).setRow w1.heap.size bk = w2 at *
  cases q with
  | false =>
    have HF2 : Hid (apF D U k T nT kind a b = apNo) := by show _ = _; rw [HAF.out]; rfl
    go_upto_region 3 with fail
    have HRB : Hid (w2.heap[w.heap.size + 2]? = some (.cells #[.bool false, .slice none 0 0, .slice none 0 0, .int .i64 0, .slice none 0 0] 61 (0, 0))) := HX2.out.rb
    have HF : Hid (APV w.heap.size (w2.setRow (w.heap.size + 2) #[.bool false, .slice none 0 0, .slice none 0 0, .int .i64 0, .slice none 0 0]) (.agg #[.bool false, .slice none 0 0, .slice none 0 0, .int .i64 0, .slice none 0 0]) (apF D U k T nT kind a b) ∧ Below w.heap.size w (w2.setRow (w.heap.size + 2) #[.bool false, .slice none 0 0, .slice none 0 0, .int .i64 0, .slice none 0 0])) :=
      ⟨by rw [HF2.out]; exact APV.no _ _, HX2.out.below.trans ((Wr.setRow _ _ _).below (by omega))⟩
    go_wp2_with (first
      | (refine wpList_store_row rfl 61 (.tmp 4) (.tmp 19) rfl (w.heap.size + 2) #[.bool false, .slice none 0 0, .slice none 0 0, .int .i64 0, .slice none 0 0] rfl rfl 61 _ HRB.out HRZ.out rfl (by simp [Value.oneCell']) ?_)
      | fail)
    exact bodyPost_ret (v := .agg #[.bool false, .slice none 0 0, .slice none 0 0, .int .i64 0, .slice none 0 0]) (results_cell_row rfl _ _ (w.heap.size + 2) 61 _ (0, 0) _ rfl (setRow_heap _ _ _ _ _ _ HRB.out) Try.underlying61 rfl HRZ.out) rfl ⟨_, rfl, HF.out.1, HF.out.2⟩
  | true =>
    have HF2 : Hid (apF D U k T nT kind a b = apR D U k T nT kind a b) := by show _ = _; rw [HAF.out]; rfl
    obtain ⟨db, ub, v9, rfl, hsd, hsu, hto⟩ := HBK.out rfl
    have hst := HST.out rfl
    have hbk : Bk w2 w1.heap.size db ub k v9 := ⟨HR2.out, hsd.1, hsu.1, hsd.2.1, hsu.2.1⟩
    have hne : NeG w1.heap.size v9 := fun t ht e => by
      rcases hto.2 with ⟨h', _⟩ | ⟨g, c, cur, h', hb, hh, _⟩
      · rw [h'] at ht; simp [Value.ownBlock] at ht
      · rw [h'] at ht; simp [Value.ownBlock] at ht
        have := (Array.getElem?_eq_some_iff.1 hh).1
        omega
    have hto2 : TapO (w.heap.size + 3) w2 v9 T nT := by
      refine ⟨hto.1, ?_⟩
      rcases hto.2 with h' | ⟨g, c, cur, h1, h2, h3, h4⟩
      · exact .inl h'
      · exact .inr ⟨g, c, cur, h1, h2, by rw [HB2.out.block g (Array.getElem?_eq_some_iff.1 h3).1]; exact h3, h4⟩
    have hkn : k + nT = (nU : Int) := by have := hst.2.2.2.2.1; rw [HLU.out] at this; exact this
    have HC := apply_any seq kind a b ha hbb (H := w.heap.size + 3) (B := w.heap.size + 3) hbk hsd hsu hto2 hst.1 hst.2.2.2.1 (by omega) mT HB1.out (Nat.le_refl _) hne (by have := HB2.out.size; have := HB1.out; omega)
    have HSR := apR_ser (k := k) (T := T) (n := nT) (kind := kind) (a := a) (b := b) hst.1 hst.2.2.1
    have HNO : Hid ((apR D U k T nT kind a b).ok = false → apR D U k T nT kind a b = apNo) := apR_no
    have HSER : Hid (SerP (apR D U k T nT kind a b).D ∧ SerP (apR D U k T nT kind a b).U) := HSR
    have HG : Hid (w1.heap.size < w2.heap.size) := hbk.lt
    have f0 : w2.cell? ⟨w.heap.size + 1, 0, none⟩ = some (.int .u32 seq) := by rw [cell_of_row w2 _ 0 _ _ _ HX2.out.fb]; rfl
    have f1 : w2.cell? ⟨w.heap.size + 1, 1, none⟩ = some (.int .i64 kind) := by rw [cell_of_row w2 _ 1 _ _ _ HX2.out.fb]; rfl
    have f2 : w2.cell? ⟨w.heap.size + 1, 2, none⟩ = some (.int .u32 a) := by rw [cell_of_row w2 _ 2 _ _ _ HX2.out.fb]; rfl
    have f3 : w2.cell? ⟨w.heap.size + 1, 3, none⟩ = some (.int .u32 b) := by rw [cell_of_row w2 _ 3 _ _ _ HX2.out.fb]; rfl
    clear hsd hsu hto hst hbk hto2 hkn HSR HBK HST hne HR2 HB2 HAF
    generalize apR D U k T nT kind a b = r at *
    go_wp2_with fail
    refine HC.mono ?_
    rintro e w3 ⟨rfl, hb3, hp⟩
    have HX3 : Hid (IX w #[.int .u32 seq, .int .i64 kind, .int .u32 a, .int .u32 b] w3) := HX2.out.call hb3 (Nat.le_refl _)
    have HRB : Hid (w3.heap[w.heap.size + 2]? = some (.cells #[.bool false, .slice none 0 0, .slice none 0 0, .int .i64 0, .slice none 0 0] 61 (0, 0))) := HX3.out.rb
    clear f0 f1 f2 f3 HC HX2
    cases hr : r.ok with
    | false =>
      have HF3 : Hid (apF D U k T nT kind a b = apNo) := by show _ = _; rw [HF2.out, HNO.out hr]
      have HF : Hid (APV w.heap.size (w3.setRow (w.heap.size + 2) #[.bool false, .slice none 0 0, .slice none 0 0, .int .i64 0, .slice none 0 0]) (.agg #[.bool false, .slice none 0 0, .slice none 0 0, .int .i64 0, .slice none 0 0]) (apF D U k T nT kind a b) ∧ Below w.heap.size w (w3.setRow (w.heap.size + 2) #[.bool false, .slice none 0 0, .slice none 0 0, .int .i64 0, .slice none 0 0])) :=
        ⟨by rw [HF3.out]; exact APV.no _ _, HX3.out.below.trans ((Wr.setRow _ _ _).below (by omega))⟩
      clear hp hb3 HNO HSER hr
      go_upto_region 3 with fail
      go_wp2_with (first
        | (refine wpList_store_row rfl 61 (.tmp 4) (.tmp 19) rfl (w.heap.size + 2) #[.bool false, .slice none 0 0, .slice none 0 0, .int .i64 0, .slice none 0 0] rfl rfl 61 _ HRB.out HRZ.out rfl (by simp [Value.oneCell']) ?_)
        | fail)
      exact bodyPost_ret (v := .agg #[.bool false, .slice none 0 0, .slice none 0 0, .int .i64 0, .slice none 0 0]) (results_cell_row rfl _ _ (w.heap.size + 2) 61 _ (0, 0) _ rfl (setRow_heap _ _ _ _ _ _ HRB.out) Try.underlying61 rfl HRZ.out) rfl ⟨_, rfl, HF.out.1, HF.out.2⟩
    | true =>
      obtain ⟨d', u', v', r1, r2, r3, r4, r5⟩ := hp hr
      obtain ⟨aT', cT', rfl⟩ := r4.slice
      have HS := state_any aT' r.n cT' (fun v => decide ((v : Int) ∈ r.D)) (fun v => decide ((v : Int) ∈ r.U)) r1 (r2.congr (fun v _ => by simp)) (r3.congr (fun v _ => by simp))
      rw [HSER.out.1.eq_upTo _ (fun v _ => by simp), HSER.out.2.eq_upTo _ (fun v _ => by simp)] at HS
      have HTV : Hid (TapV (w.heap.size + 3) w3 (.slice aT' r.n cT') r.T r.n) := r4
      have HRK : Hid (r.ok = true) := hr
      clear r1 r2 r3 r4 r5 hp HSER HNO hb3 hr
      go_wp2_with fail
      refine HS.mono ?_
      rintro e w4 ⟨aD', nD', cD', aU', nU', cU', rfl, g1, g2, g3, hb4⟩
      have HRB4 : Hid (w4.heap[w.heap.size + 2]? = some (.cells #[.bool false, .slice none 0 0, .slice none 0 0, .int .i64 0, .slice none 0 0] 61 (0, 0))) := by show _ = _; rw [hb4.block _ (Array.getElem?_eq_some_iff.1 HRB.out).1]; exact HRB.out
      have hw5 : Wr (w.heap.size + 2) w4 (w4.setRow (w.heap.size + 2) #[.bool true, .slice aD' nD' cD', .slice aU' nU' cU', .int .i64 r.k, .slice aT' r.n cT']) := Wr.setRow _ _ _
      have HF : Hid (APV w.heap.size (w4.setRow (w.heap.size + 2) #[.bool true, .slice aD' nD' cD', .slice aU' nU' cU', .int .i64 r.k, .slice aT' r.n cT']) (.agg #[.bool true, .slice aD' nD' cD', .slice aU' nU' cU', .int .i64 r.k, .slice aT' r.n cT']) (apF D U k T nT kind a b) ∧ Below w.heap.size w (w4.setRow (w.heap.size + 2) #[.bool true, .slice aD' nD' cD', .slice aU' nU' cU', .int .i64 r.k, .slice aT' r.n cT'])) := by
        have hlt := (Array.getElem?_eq_some_iff.1 HRB.out).1
        obtain ⟨s1, s2, s3⟩ := g1.sat
        obtain ⟨t1, t2, t3⟩ := g2.sat
        obtain ⟨q1, q2, q3⟩ := HTV.out.sat
        have q4 : SAt w4 aT' r.T := q1.below hb4
        have q5 : Lies (w.heap.size + 3) w4 aT' := q3.mono (Nat.le_refl _) hb4.size
        refine ⟨⟨aD', nD', cD', aU', nU', cU', aT', r.n, cT', by rw [HF2.out, HRK.out], ?_⟩, (HX3.out.below.trans (hb4.mono HX3.out.below.size)).trans (hw5.below (by omega))⟩
        rw [HF2.out]
        have z : (w4.setRow (w.heap.size + 2) #[.bool true, .slice aD' nD' cD', .slice aU' nU' cU', .int .i64 r.k, .slice aT' r.n cT']).heap.size = w4.heap.size := hw5.size
        refine ⟨s1.keep (by rw [z]; exact Nat.le_refl _) (fun ad e _ => hw5.block _ (by have := (s3 ad e).1; omega)), t1.keep (by rw [z]; exact Nat.le_refl _) (fun ad e _ => hw5.block _ (by have := (t3 ad e).1; omega)), q4.keep (by rw [z]; exact Nat.le_refl _) (fun ad e _ => hw5.block _ (by have := (q5 ad e).1; omega)), s2, t2, q2, ?_, ?_, ?_, ?_, ?_, ?_⟩
        · exact s3.mono (by omega) (by rw [z]; exact Nat.le_refl _)
        · exact t3.mono (by omega) (by rw [z]; exact Nat.le_refl _)
        · exact q5.mono (by omega) (by rw [z]; exact Nat.le_refl _)
        · exact fun x y hx hy e => g3 x.block (by rw [hx]; rfl) (by rw [hy, e]; rfl)
        · exact fun x y hx hy e => by have := (s3 x hx).1; have := (q3 y hy).2; omega
        · exact fun x y hx hy e => by have := (t3 x hx).1; have := (q3 y hy).2; omega
      clear g1 g2 g3 hb4 hw5 HS HTV
      go_wp2_with (first
        | (refine wpList_store_row rfl 61 (.tmp 4) (.tmp 21) rfl (w.heap.size + 2) #[.bool true, .slice aD' nD' cD', .slice aU' nU' cU', .int .i64 r.k, .slice aT' r.n cT'] rfl rfl 61 _ HRB4.out HRZ.out rfl (by simp [Value.oneCell']) ?_)
        | fail)
      exact bodyPost_ret (v := .agg #[.bool true, .slice aD' nD' cD', .slice aU' nU' cU', .int .i64 r.k, .slice aT' r.n cT']) (results_cell_row rfl _ _ (w.heap.size + 2) 61 _ (0, 0) _ rfl (setRow_heap _ _ _ _ _ _ HRB4.out) Try.underlying61 rfl HRZ.out) rfl ⟨_, rfl, HF.out.1, HF.out.2⟩
end Go.Proofs.Ytpbjhihpkfkobae
