/-
  Own work: a book is opened, by the program.
-/
import Derived.Test.YtmnoelfabldpfaaMSvM
import Derived.Test.YtmnoelfabldpfaaMReg8
import Derived.Deep.Cut
namespace Go.Proofs.Ytmnoelfabldpfaa
open Go.ChangeShapes Go.WideShapes Go.ChangeAt Go.RowKit
set_option linter.unusedVariables false

/-- A valid state: denied, used, acknowledged, the taps (flat). -/
def StP (D U : List Int) (k : Int) (T : List Int) (n : Nat) : Prop := SerP D ∧ D.length ≤ 16 ∧ SerP U ∧ 0 ≤ k ∧ k + n = U.length ∧ TapP U T n
open Classical in
noncomputable def stB (D U : List Int) (k : Int) (T : List Int) (n : Nat) : Bool := decide (StP D U k T n)
theorem stB_no {D U : List Int} {k : Int} {T : List Int} {n : Nat} (h : ¬ StP D U k T n) : stB D U k T n = false := by unfold stB; simp [h]
theorem stB_yes {D U : List Int} {k : Int} {T : List Int} {n : Nat} (h : StP D U k T n) : stB D U k T n = true := by unfold stB; simp [h]
theorem zc_size : (Try.zeroCells96).size = 66 := by kernel_rfl
theorem bkZ_one : (Try.zeroCells96).all (fun x => x.oneCell') = true := by kernel_rfl
theorem results_bk {fn : Func} {p u : Tmp} (h : fn.results = #[.cell p 96, .tmp u]) (tmps : Array Value) (w : World) (g : Nat) (cs : Array Value) (v : Value) (hv : tmps.getD u undef = v)
    (hp : tmps.getD p undef = .pointer (some ⟨g, 0, none⟩)) (hr : w.heap[g]? = some (.cells cs 96 (0, 0))) (hs : (Try.prog.info? 96).map (·.size) = some cs.size) :
    (results fn tmps).run Try.prog w = .ok (.tuple #[.agg cs, v]) w := by
  have hp' : tmps[p]?.getD undef = .pointer (some ⟨g, 0, none⟩) := by simpa using hp
  have hv' : tmps[u]?.getD undef = v := by simpa using hv
  have hl := run_loadVar_row (P := Try.prog) w g 96 96 cs (0, 0) _ hr Try.underlying96 rfl hs
  simp [results, h, hp', hv', asAddr, hl]
/-- What openBook answers. -/
def ObP (w : World) (D U : List Int) (k : Int) (T : List Int) (n : Nat) (e : Ending) (w' : World) : Prop :=
  ∃ bk : Array Value, e = .returned (.tuple #[.agg bk, .bool (stB D U k T n)]) ∧ bk.size = 66 ∧ bk.all (fun x => x.oneCell') = true ∧ Below w.heap.size w w' ∧
    (stB D U k T n = true → ∃ db ub v, bk = bkC db ub k v ∧ SetB db (fun v => (v : Int) ∈ D) ∧ SetB ub (fun v => (v : Int) ∈ U) ∧ TapO w.heap.size w' v T n)
structure OBE (w : World) (sc : Array Value) (wr : World) : Prop where
  below : Below w.heap.size w wr
  box : wr.heap[w.heap.size]? = some (.cells sc 74 (0, 0))
  res : wr.heap[w.heap.size + 1]? = some (.cells Try.zeroCells96 96 (0, 0))
theorem OBE.lt {w wr : World} {sc : Array Value} (h : OBE w sc wr) : w.heap.size < wr.heap.size := (Array.getElem?_eq_some_iff.1 h.box).1
theorem OBE.lt2 {w wr : World} {sc : Array Value} (h : OBE w sc wr) : w.heap.size + 1 < wr.heap.size := (Array.getElem?_eq_some_iff.1 h.res).1
theorem OBE.call {w wr w' : World} {sc : Array Value} (h : OBE w sc wr) (b : Below wr.heap.size wr w') : OBE w sc w' :=
  ⟨h.below.trans (b.mono h.below.size), by rw [b.block _ h.lt]; exact h.box, by rw [b.block _ h.lt2]; exact h.res⟩
theorem wpList_newSS {w : World} {ops : Array Oper} {rest : List Oper} {o : Oper} {a : Act} {Q : Exit → Act → World → Prop} (hgd : o.guard = none) (x y : Operand) (ho : o.op = .store 83 x y)
    (bs : List Int) (hx : a.eval x = .pointer (some ⟨w.heap.size, 0, none⟩)) (hy : a.eval y = .agg (bs.map (Value.int .u8)).toArray) (hl : bs.length = 32)
    {wa : World} (hwa : wa = w.alloc (.cells #[.int .u8 0, .int .u8 0, .int .u8 0, .int .u8 0, .int .u8 0, .int .u8 0, .int .u8 0, .int .u8 0, .int .u8 0, .int .u8 0, .int .u8 0, .int .u8 0, .int .u8 0, .int .u8 0, .int .u8 0, .int .u8 0, .int .u8 0, .int .u8 0, .int .u8 0, .int .u8 0, .int .u8 0, .int .u8 0, .int .u8 0, .int .u8 0, .int .u8 0, .int .u8 0, .int .u8 0, .int .u8 0, .int .u8 0, .int .u8 0, .int .u8 0, .int .u8 0] 83)) (hK : ∀ w', Row w' w.heap.size 83 bs → Below w.heap.size w w' → wpList Try.prog ops Q rest (a.put o.dst undef) w') :
    wpList Try.prog ops Q (o :: rest) a wa := by
  subst hwa
  exact wpList_store_row hgd 83 x y ho w.heap.size ((bs.map (Value.int .u8)).toArray) hx hy 83 _ (heap_alloc_new w _) (by rw [Try.sizeSS]; simp [hl]) (by simp [hl]) (all_oneCell_toArray (ints_oneCell _ _))
    (hK _ (setRow_heap _ _ _ _ _ _ (heap_alloc_new w _)) (((Below.refl _ _).alloc (Nat.le_refl _) _).trans ((Wr.setRow _ _ _).below (Nat.le_refl _))))
theorem wpList_loadG {w : World} {ops : Array Oper} {rest : List Oper} {o : Oper} {a : Act} {Q : Exit → Act → World → Prop} (x : Operand) (ho : o.op = .load 83 x) (hw : Region.wanted o (yielded ops a.tmps) = true)
    (g : Nat) (bs : List Int) (hx : a.eval x = .pointer (some ⟨g, 0, none⟩)) (hr : Row w g 83 bs) (hl : bs.length = 32) (hK : wpList Try.prog ops Q rest (a.put o.dst (.agg (bs.map (Value.int .u8)).toArray)) w) :
    wpList Try.prog ops Q (o :: rest) a w :=
  wpList_step fun K hK' => by
    rw [if_pos hw]
    exact wp_load_row 83 x ho g hx 83 _ (0, 0) _ hr Try.underlying83 rfl (by rw [Try.sizeSS]; simp [hl]) (hK' _ _ hK)
theorem wpList_skipG {w : World} {ops : Array Oper} {rest : List Oper} {o : Oper} {a : Act} {Q : Exit → Act → World → Prop} (x : Operand) (ho : o.op = .load 83 x) (hw : Region.wanted o (yielded ops a.tmps) = false)
    (hK : wpList Try.prog ops Q rest (a.put o.dst undef) w) : wpList Try.prog ops Q (o :: rest) a w := by
  unfold wpList; rw [if_neg (by rw [hw]; simp)]; exact hK
theorem wp_bookB {w : World} {o : Oper} {a : Act} {K : Act → World → Prop} {Q : Exit → Act → World → Prop} (ho : o.op = .build 96 #[(0, .tmp 56), (1, .tmp 57), (2, .tmp 59), (3, .tmp 62)]) {db ub : List Int} {k : Int} {v : Value}
    (h0 : a.eval (.tmp 56) = .agg (db.map (Value.int .u8)).toArray) (h1 : a.eval (.tmp 57) = .agg (ub.map (Value.int .u8)).toArray) (h3 : a.eval (.tmp 59) = .int .i64 k) (h6 : a.eval (.tmp 62) = v) (hd : db.length = 32) (hu : ub.length = 32) (hv : v.cells = #[v])
    (hK : K (a.put o.dst (.agg (bkC db ub k v))) w) : o.wp Try.prog a w K Q := by
  have e : ((#[(0, .tmp 56), (1, .tmp 57), (2, .tmp 59), (3, .tmp 62)] : Array (Nat × Operand)).map fun (x : Nat × Operand) => (x.1, a.eval x.2)).toList = [(0, .agg (db.map (Value.int .u8)).toArray), (1, .agg (ub.map (Value.int .u8)).toArray), (2, .int .i64 k), (3, v)] := by
    simp only [List.map_toArray, List.map_cons, List.map_nil, h0, h1, h3, h6]
  have hb := builtB db ub hd hu k v hv
  rw [← e] at hb
  refine wp_build 96 _ ho ?_ ?_
  · exact (congrArg Option.isSome hb).trans rfl
  · have e2 : ((Try.prog.built 96 ((#[(0, .tmp 56), (1, .tmp 57), (2, .tmp 59), (3, .tmp 62)] : Array (Nat × Operand)).map fun (x : Nat × Operand) => (x.1, a.eval x.2)).toList).getD #[]) = bkC db ub k v := by rw [hb]; rfl
    exact e2 ▸ hK
theorem TapO.mono {B B' : Nat} {w : World} {v : Value} {T : List Int} {n : Nat} (h : TapO B' w v T n) (hB : B ≤ B') : TapO B w v T n := by
  obtain ⟨h1, h2⟩ := h
  refine ⟨h1, ?_⟩
  rcases h2 with h | ⟨g, c, cur, h4, h5, h6⟩
  · exact .inl h
  · exact .inr ⟨g, c, cur, h4, by omega, h6⟩
theorem TapO.wrh {B R : Nat} {w w' : World} {v : Value} {T : List Int} {n : Nat} (h : TapO B w v T n) (hR : R < B) (hw : WrH R w w') : TapO B w' v T n := by
  obtain ⟨h1, h2⟩ := h
  refine ⟨h1, ?_⟩
  rcases h2 with h | ⟨g, c, cur, h4, h5, h6, h7⟩
  · exact .inl h
  · exact .inr ⟨g, c, cur, h4, h5, by rw [hw.block g (Array.getElem?_eq_some_iff.1 h6).1 (by omega)]; exact h6, h7⟩
theorem cells_own {B : Nat} {w : World} {v : Value} {T : List Int} {n : Nat} (h : TapO B w v T n) : v.cells = #[v] := by
  rcases h.2 with ⟨h, _⟩ | ⟨g, c, cur, h, _⟩
  · rw [h]; rfl
  · rw [h]; rfl
/-- A copy of the taps, as a slot's value. -/
def ClV (H : Nat) (w : World) (v : Value) (T : List Int) (n : Nat) : Prop := ∃ B, H + 1 < B ∧ TapO B w v T n ∧ v.oneCell' = true
theorem ClV.wrh {H : Nat} {w w' : World} {v : Value} {T : List Int} {n : Nat} (h : ClV H w v T n) (hw : WrH (H + 1) w w') : ClV H w' v T n := by
  obtain ⟨B, a, b, c⟩ := h; exact ⟨B, a, b.wrh a hw, c⟩
def BlV (H : Nat) (w : World) (v : Value) (d u : List Int) (k : Int) (T : List Int) (n : Nat) : Prop := ∃ v6, v = .agg (bkC d u k v6) ∧ ClV H w v6 T n
theorem BlV.wrh {H : Nat} {w w' : World} {v : Value} {d u : List Int} {k : Int} {T : List Int} {n : Nat} (h : BlV H w v d u k T n) (hw : WrH (H + 1) w w') : BlV H w' v d u k T n := by
  obtain ⟨v6, a, b⟩ := h; exact ⟨v6, a, b.wrh hw⟩
/-- The world while the book is built. -/
def ExB (w W : World) (d u : List Int) (k : Int) (T : List Int) (n : Nat) (L : Nat → Bool) (w' : World) : Prop :=
  WrH (w.heap.size + 1) W w' ∧ (L 8 = false → w'.heap[w.heap.size + 1]? = some (.cells Try.zeroCells96 96 (0, 0))) ∧
    (L 8 = true → ∃ v6, w'.heap[w.heap.size + 1]? = some (.cells (bkC d u k v6) 96 (0, 0)) ∧ ClV w.heap.size w' v6 T n)
section
variable {w W w' ww : World} {d u : List Int} {k : Int} {T : List Int} {n : Nat} {L : Nat → Bool}
theorem ExB.ref (h : ExB w W d u k T n L w') (i : Nat) (hi : i ≠ 8) : ExB w W d u k T n (updK L i) w' :=
  ⟨h.1, by unfold updK; simpa [Ne.symm hi] using h.2.1, by unfold updK; simpa [Ne.symm hi] using h.2.2⟩
theorem ExB.low {sc : Array Value} (h : ExB w W d u k T n L w') (i : Nat) (hi : i ≠ 8) (hE : OBE w sc W) (b : Below w'.heap.size w' ww) : ExB w W d u k T n (updK L i) ww := by
  have hlt : w.heap.size + 1 < w'.heap.size := Nat.lt_of_lt_of_le hE.lt2 h.1.size
  refine ⟨h.1.trans (WrH.of_below b), ?_, ?_⟩
  · unfold updK; simp only [Ne.symm hi, if_false]
    intro q; rw [b.block _ hlt]; exact h.2.1 (by simpa using q)
  · unfold updK; simp only [Ne.symm hi, if_false]
    intro q
    obtain ⟨v6, a, c⟩ := h.2.2 (by simpa using q)
    exact ⟨v6, by rw [b.block _ hlt]; exact a, c.wrh (WrH.of_below b)⟩
theorem ExB.put {v6 : Value} (h : ExB w W d u k T n L w') (hr : ww.heap[w.heap.size + 1]? = some (.cells (bkC d u k v6) 96 (0, 0))) (hw : Wr (w.heap.size + 1) w' ww) (hc : ClV w.heap.size w' v6 T n) : ExB w W d u k T n (updK L 8) ww :=
  ⟨h.1.trans hw.wrH, fun q => by unfold updK at q; simp at q, fun _ => ⟨v6, hr, hc.wrh hw.wrH⟩⟩
end
theorem WrH.row8 {R g : Nat} {w w' : World} {t : TypeId} {bs : List Int} (h : WrH R w w') (hr : Row w g t bs) (hg : g ≠ R) : Row w' g t bs := by
  unfold Row; rw [h.block g hr.lt hg]; exact hr
theorem At.wrh9 {w W w' : World} {a : Option Addr} {T : List Int} (h : At .i64 w a T) (hb : Below w.heap.size w W) (hw : WrH (w.heap.size + 1) W w') : At .i64 w' a T := by
  rcases h with h | ⟨b, off, rfl, hl, hc⟩
  · exact .inl h
  · refine .inr ⟨b, off, rfl, by have := hb.size; have := hw.size; omega, fun i hi => ?_⟩
    rw [World.cell?_of_block (a := ⟨b, off + i, none⟩) (w := W) (hw.block b (by have := hb.size; omega) (by omega)), hb.cell (p := ⟨b, off + i, none⟩) hl]; exact hc i hi

set_option maxRecDepth 100000 in
set_option maxHeartbeats 8000000 in
theorem openBook_any (aD aU aT : Option Addr) (nD cD nU cU nT cT : Nat) (D U : List Int) (k : Int) (T : List Int) (w : World) (hD : D.length = nD) (hU : U.length = nU) (hT : T.length = nT * 2) (mD : nD ≤ 1048576) (mU : nU ≤ 1048576) (mT : nT ≤ 1048576)
    (haD : At .i64 w aD D) (haU : At .i64 w aU U) (haT : At .i64 w aT T) (hnil : aT = none → nT = 0 ∧ cT = 0) (hk0 : -9223372036854775808 ≤ k) (hk1 : k < 9223372036854775808) :
    Calls Try.prog 61 #[.agg #[.slice aD nD cD, .slice aU nU cU, .int .i64 k, .slice aT nT cT]] w (ObP w D U k T nT) := by
  have HE0 : Hid (OBE w #[.slice aD nD cD, .slice aU nU cU, .int .i64 k, .slice aT nT cT] ((w.alloc (.cells #[.slice aD nD cD, .slice aU nU cU, .int .i64 k, .slice aT nT cT] 74)).alloc (.cells Try.zeroCells96 96))) := by
    refine ⟨((Below.refl _ _).alloc (Nat.le_refl _) _).alloc (by simp) _, ?_, ?_⟩
    · rw [Below.heap_alloc _ _ w.heap.size (by simp)]; exact heap_alloc_new w _
    · have := heap_alloc_new (w.alloc (.cells #[.slice aD nD cD, .slice aU nU cU, .int .i64 k, .slice aT nT cT] 74)) (.cells Try.zeroCells96 96)
      rwa [show (w.alloc (.cells #[.slice aD nD cD, .slice aU nU cU, .int .i64 k, .slice aT nT cT] 74)).heap.size = w.heap.size + 1 by simp] at this
  have HAD : Hid (At .i64 w aD D) := haD
  have HAU : Hid (At .i64 w aU U) := haU
  have HAT : Hid (At .i64 w aT T) := haT
  have HNT : Hid (T.length = nT * 2 ∧ nT ≤ 1048576 ∧ (aT = none → nT = 0 ∧ cT = 0)) := ⟨hT, mT, hnil⟩
  have HLN : Hid (D.length = nD ∧ U.length = nU) := ⟨hD, hU⟩
  clear haD haU haT hT hnil hD hU
  go_enter Try.func61, Try.ntmps61
  go_wp2_with fail
  generalize ((w.alloc (.cells #[.slice aD nD cD, .slice aU nU cU, .int .i64 k, .slice aT nT cT] 74)).alloc (.cells Try.zeroCells96 96)) = w0 at *
  refine (setOf_any aD nD cD D _ HLN.out.1 mD (HAD.out.below HE0.out.below)).mono ?_
  rintro e w1 ⟨db, rfl, dl, dby, dset, b1⟩
  have HE1 : Hid (OBE w #[.slice aD nD cD, .slice aU nU cU, .int .i64 k, .slice aT nT cT] w1) := HE0.out.call b1
  clear b1 HE0
  go_wp2_with (first
    | (refine wpList_newSS rfl (.tmp 4) (.tmp 12) rfl db rfl rfl dl rfl ?_)
    | fail)
  intro w2 hr2 hb2
  have HE2 : Hid (OBE w #[.slice aD nD cD, .slice aU nU cU, .int .i64 k, .slice aT nT cT] w2) := HE1.out.call hb2
  have HRD2 : Hid (Row w2 w1.heap.size 83 db) := hr2
  have hGd : w.heap.size + 1 < w1.heap.size := HE1.out.lt2
  have c1 : w2.cell? ⟨w.heap.size, 1, none⟩ = some (.slice aU nU cU) := by rw [cell_of_row w2 w.heap.size 1 _ _ _ HE2.out.box]; rfl
  clear hr2 hb2 HE1
  generalize w1.heap.size = Gd at *
  go_wp2_with fail
  refine (setOf_any aU nU cU U _ HLN.out.2 mU (HAU.out.below HE2.out.below)).mono ?_
  rintro e w3 ⟨ub, rfl, ul, uby, uset, b3⟩
  have HE3 : Hid (OBE w #[.slice aD nD cD, .slice aU nU cU, .int .i64 k, .slice aT nT cT] w3) := HE2.out.call b3
  have HRD3 : Hid (Row w3 Gd 83 db) := HRD2.out.low b3 HRD2.out.lt
  clear b3 HE2 HRD2 c1
  go_wp2_with (first
    | (refine wpList_newSS rfl (.tmp 6) (.tmp 18) rfl ub rfl rfl ul rfl ?_)
    | fail)
  intro W hr4 hb4
  have HEV : Hid (OBE w #[.slice aD nD cD, .slice aU nU cU, .int .i64 k, .slice aT nT cT] W) := HE3.out.call hb4
  have HRD : Hid (Row W Gd 83 db) := HRD3.out.low hb4 HRD3.out.lt
  have HRU : Hid (Row W w3.heap.size 83 ub) := hr4
  have hGu : w.heap.size + 1 < w3.heap.size := HE3.out.lt2
  have c0 : W.cell? ⟨w.heap.size, 0, none⟩ = some (.slice aD nD cD) := by rw [cell_of_row W w.heap.size 0 _ _ _ HEV.out.box]; rfl
  have c1 : W.cell? ⟨w.heap.size, 1, none⟩ = some (.slice aU nU cU) := by rw [cell_of_row W w.heap.size 1 _ _ _ HEV.out.box]; rfl
  have c2 : W.cell? ⟨w.heap.size, 2, none⟩ = some (.int .i64 k) := by rw [cell_of_row W w.heap.size 2 _ _ _ HEV.out.box]; rfl
  have c3 : W.cell? ⟨w.heap.size, 3, none⟩ = some (.slice aT nT cT) := by rw [cell_of_row W w.heap.size 3 _ _ _ HEV.out.box]; rfl
  clear hr4 hb4 HE3 HRD3
  generalize w3.heap.size = Gu at *
  have HLD : Hid (db.length = 32 ∧ ub.length = 32) := ⟨dl, ul⟩
  have HDS : Hid (SerP D → SetB db (fun v => (v : Int) ∈ D)) := dset
  have HUS : Hid (SerP U → SetB ub (fun v => (v : Int) ∈ U)) := uset
  have HGD : Hid (Gd ≠ w.heap.size + 1) := by show _ ≠ _; omega
  have HGU : Hid (Gu ≠ w.heap.size + 1) := by show _ ≠ _; omega
  have HSZd : Hid ((Try.prog.info? 83).map (·.size) = some ((db.map (Value.int .u8)).toArray).size) := by show _ = _; rw [Try.sizeSS]; simp [dl]
  have HSZu : Hid ((Try.prog.info? 83).map (·.size) = some ((ub.map (Value.int .u8)).toArray).size) := by show _ = _; rw [Try.sizeSS]; simp [ul]
  clear dl ul dset uset dby uby
  cases hsD : serB D with
  | false =>
    have HPD : Hid (¬ SerP D) := fun h => by rw [serB_yes h] at hsD; cases hsD
    have HRS : Hid (W.heap[w.heap.size + 1]? = some (.cells Try.zeroCells96 96 (0, 0))) := HEV.out.res
    have HFB : Hid (stB D U k T nT = false) := stB_no (fun h => HPD.out h.1)
    go_upto_region 4 with fail
    go_wp2_with (first
      | (refine wpList_skipG (.tmp 6) rfl (by simp [Region.wanted, yielded]) ?_)
      | (refine wpList_store_row rfl 96 (.tmp 2) (.tmp 32) rfl (w.heap.size + 1) Try.zeroCells96 rfl rfl 96 _ HRS.out Try.sizeBook rfl bkZ_one ?_)
      | fail)
    refine bodyPost_ret (v := .tuple #[.agg Try.zeroCells96, .bool false]) (results_bk rfl _ _ (w.heap.size + 1) _ _ rfl rfl (setRow_heap _ _ _ _ _ _ HRS.out) Try.sizeBook) rfl ?_
    exact ⟨Try.zeroCells96, by rw [HFB.out], zc_size, bkZ_one, HEV.out.below.trans ((Wr.setRow _ _ _).below (by omega)), fun h => by rw [HFB.out] at h; cases h⟩
  | true =>
  cases hsU : serB U with
  | false =>
    have HPU : Hid (¬ SerP U) := fun h => by rw [serB_yes h] at hsU; cases hsU
    have HRS : Hid (W.heap[w.heap.size + 1]? = some (.cells Try.zeroCells96 96 (0, 0))) := HEV.out.res
    have HFB : Hid (stB D U k T nT = false) := stB_no (fun h => HPU.out h.2.2.1)
    go_upto_region 4 with fail
    go_wp2_with (first
      | (refine wpList_skipG (.tmp 6) rfl (by simp [Region.wanted, yielded]) ?_)
      | (refine wpList_store_row rfl 96 (.tmp 2) (.tmp 32) rfl (w.heap.size + 1) Try.zeroCells96 rfl rfl 96 _ HRS.out Try.sizeBook rfl bkZ_one ?_)
      | fail)
    refine bodyPost_ret (v := .tuple #[.agg Try.zeroCells96, .bool false]) (results_bk rfl _ _ (w.heap.size + 1) _ _ rfl rfl (setRow_heap _ _ _ _ _ _ HRS.out) Try.sizeBook) rfl ?_
    exact ⟨Try.zeroCells96, by rw [HFB.out], zc_size, bkZ_one, HEV.out.below.trans ((Wr.setRow _ _ _).below (by omega)), fun h => by rw [HFB.out] at h; cases h⟩
  | true =>
  have HPD : Hid (SerP D) := (serB_iff D).1 hsD
  have HPU : Hid (SerP U) := (serB_iff U).1 hsU
  by_cases h16 : nD ≤ 16
  · have h16' : (nD : Int) ≤ 16 := by omega
    by_cases hk : k < 0
    · have HK9 : Hid (k < 0) := hk
      have hkb : decide (k < 0) = true := decide_eq_true hk
      clear hk hk0 hk1 c1 c3
      have HRS : Hid (W.heap[w.heap.size + 1]? = some (.cells Try.zeroCells96 96 (0, 0))) := HEV.out.res
      have HFB : Hid (stB D U k T nT = false) := stB_no (fun h => by have := h.2.2.2.1; have := HK9.out; omega)
      go_upto_region 6 with fail
      go_wp2_with (first
        | (refine wpList_skipG (.tmp 6) rfl (by simp [Region.wanted, yielded]) ?_)
        | (refine wpList_store_row rfl 96 (.tmp 2) (.tmp 55) rfl (w.heap.size + 1) Try.zeroCells96 rfl rfl 96 _ HRS.out Try.sizeBook rfl bkZ_one ?_)
        | fail)
      refine bodyPost_ret (v := .tuple #[.agg Try.zeroCells96, .bool false]) (results_bk rfl _ _ (w.heap.size + 1) _ _ rfl rfl (setRow_heap _ _ _ _ _ _ HRS.out) Try.sizeBook) rfl ?_
      exact ⟨Try.zeroCells96, by rw [HFB.out], zc_size, bkZ_one, HEV.out.below.trans ((Wr.setRow _ _ _).below (by omega)), fun h => by rw [HFB.out] at h; cases h⟩
    · by_cases hka : k = (nU : Int) - nT
      · have HKA : Hid (k + nT = U.length) := by show _ = _; rw [HLN.out.2]; omega
        have hka' : (k == (nU : Int) - nT) = true := by simpa using hka
        have HK9 : Hid (0 ≤ k) := by show _ ≤ _; omega
        have HKE : Hid (k = (nU : Int) - nT) := hka
        have hkb : decide (k < 0) = false := decide_eq_false hk
        clear hka hk hk0 hk1
        have HCT := tapsFit_any aT nT cT U T ub W HNT.out.1 HNT.out.2.1 (HAT.out.below HEV.out.below) HPU.out (HUS.out HPU.out)
        go_wp2_with (first
          | (refine wpList_loadG (.tmp 6) rfl (by first | (simp [Region.wanted, yielded]; done) | (simp [Region.wanted, yielded]; exact HKE.out)) Gu ub rfl HRU.out HLD.out.2 ?_)
          | fail)
        refine HCT.mono ?_
        rintro e W2 ⟨rfl, hb7⟩
        cases htb : tapB U T nT with
        | false =>
          have HPT : Hid (¬ TapP U T nT) := fun h => by rw [tapB_yes h] at htb; cases htb
          have HEV2 : Hid (OBE w #[.slice aD nD cD, .slice aU nU cU, .int .i64 k, .slice aT nT cT] W2) := HEV.out.call hb7
          clear HEV hb7 HCT
          have HRS : Hid (W2.heap[w.heap.size + 1]? = some (.cells Try.zeroCells96 96 (0, 0))) := HEV2.out.res
          have HFB : Hid (stB D U k T nT = false) := stB_no (fun h => HPT.out h.2.2.2.2.2)
          go_upto_region 6 with fail
          go_wp2_with (first
            | (refine wpList_skipG (.tmp 6) rfl (by simp [Region.wanted, yielded]) ?_)
            | (refine wpList_store_row rfl 96 (.tmp 2) (.tmp 55) rfl (w.heap.size + 1) Try.zeroCells96 rfl rfl 96 _ HRS.out Try.sizeBook rfl bkZ_one ?_)
            | fail)
          refine bodyPost_ret (v := .tuple #[.agg Try.zeroCells96, .bool false]) (results_bk rfl _ _ (w.heap.size + 1) _ _ rfl rfl (setRow_heap _ _ _ _ _ _ HRS.out) Try.sizeBook) rfl ?_
          exact ⟨Try.zeroCells96, by rw [HFB.out], zc_size, bkZ_one, HEV2.out.below.trans ((Wr.setRow _ _ _).below (by omega)), fun h => by rw [HFB.out] at h; cases h⟩
        | true =>
          have HPT : Hid (TapP U T nT) := by
            show TapP U T nT
            by_cases h : TapP U T nT
            · exact h
            · rw [tapB_no h] at htb; cases htb
          have HYE : Hid (stB D U k T nT = true) := stB_yes ⟨HPD.out, by rw [HLN.out.1]; exact h16, HPU.out, HK9.out, HKA.out, HPT.out⟩
          have HSD : Hid (SetB db (fun v => (v : Int) ∈ D)) := HDS.out HPD.out
          have HSU : Hid (SetB ub (fun v => (v : Int) ∈ U)) := HUS.out HPU.out
          have HEV2 : Hid (OBE w #[.slice aD nD cD, .slice aU nU cU, .int .i64 k, .slice aT nT cT] W2) := HEV.out.call hb7
          have HRD2 : Hid (Row W2 Gd 83 db) := HRD.out.low hb7 HRD.out.lt
          have HRU2 : Hid (Row W2 Gu 83 ub) := HRU.out.low hb7 HRU.out.lt
          clear HEV hb7 HCT HRD HRU c0 c1 c2 c3 hka' hkb
          go_wp2_with fail
          refine wp_region_any (by kernel_rfl) ?_
          refine wpAny_slotsG (fun _ a b => WrH (w.heap.size + 1) a b) (frame := (fun (c0 c1 c2 c4 c5 c6 c7 c8 c9 c10 c11 c12 c13 c14 c15 c16 c17 c18 c19 c20 c21 c22 c23 c24 c25 c26 c27 c28 c29 c30 c31 c32 c33 c34 c35 c36 c37 c38 c39 c40 c41 c42 c43 c44 c45 c46 c47 c48 c49 c50 c51 c52 c53 c54 c55 : Value) => fun (t : Nat → Value) => ({ tmps := List.toArray (c0 :: c1 :: c2 :: t 9 :: c4 :: c5 :: c6 :: c7 :: c8 :: c9 :: c10 :: c11 :: c12 :: c13 :: c14 :: c15 :: c16 :: c17 :: c18 :: c19 :: c20 :: c21 :: c22 :: c23 :: c24 :: c25 :: c26 :: c27 :: c28 :: c29 :: c30 :: c31 :: c32 :: c33 :: c34 :: c35 :: c36 :: c37 :: c38 :: c39 :: c40 :: c41 :: c42 :: c43 :: c44 :: c45 :: c46 :: c47 :: c48 :: c49 :: c50 :: c51 :: c52 :: c53 :: c54 :: c55 :: t 0 :: t 1 :: t 2 :: t 3 :: t 4 :: t 5 :: t 6 :: t 7 :: []), defers := [] } : Act)) _ _ _ _ _ _ _ _ _ _ _ _ _ _ _ _ _ _ _ _ _ _ _ _ _ _ _ _ _ _ _ _ _ _ _ _ _ _ _ _ _ _ _ _ _ _ _ _ _ _ _ _ _ _ _)
            (Ext := ExB w W2 db ub k T nT) (Good := fun i L w' v => if i = 0 then v = .agg (db.map (Value.int .u8)).toArray else if i = 1 then v = .agg (ub.map (Value.int .u8)).toArray else if i = 2 then v = .pointer (some ⟨w.heap.size, 2, none⟩) else if i = 3 then v = .int .i64 k else if i = 4 then v = .pointer (some ⟨w.heap.size, 3, none⟩) else if i = 5 then v = .slice aT nT cT else if i = 6 then ClV w.heap.size w' v T nT else if i = 7 then BlV w.heap.size w' v db ub k T nT else if i = 8 then L 8 = true else if i = 9 then v = .bool true else True) ?hstab (by kernel_rfl) ?hop ?hdone _ _ ((fun (x0 x1 x2 x3 x4 x5 x6 x7 x9 : Value) => fun (i : Nat) => if i = 0 then x0 else if i = 1 then x1 else if i = 2 then x2 else if i = 3 then x3 else if i = 4 then x4 else if i = 5 then x5 else if i = 6 then x6 else if i = 7 then x7 else if i = 9 then x9 else undef) _ _ _ _ _ _ _ _ _) _ (by simp) ?ext ?start (by simp)
          case start => intro i hi h; exact absurd h (by rw [Array.getD_eq_getD_getElem?, Array.getElem?_replicate]; split <;> simp)
          case ext => exact ⟨⟨rfl, rfl, rfl, Nat.le_refl _, fun _ _ _ => rfl⟩, fun _ => HEV2.out.res, fun h => by simp at h⟩
          case hstab =>
            intro j L w9 w' i v hM _ _ h
            by_cases h6 : j = 6
            · subst h6
              simp at h ⊢
              exact h.wrh hM
            by_cases h7 : j = 7
            · subst h7
              simp at h ⊢
              exact h.wrh hM
            by_cases h8 : j = 8
            · subst h8
              simp at h ⊢
              unfold updK; simp [h]
            simp only [if_neg h6, if_neg h7, if_neg h8] at h ⊢
            exact h
          case hop =>
            intro i o L t w' ho hLi hx hdep K hK
            have hi : i < 10 := (Array.getElem?_eq_some_iff.1 ho).1
            obtain rfl | rfl | rfl | rfl | rfl | rfl | rfl | rfl | rfl | rfl : i = 0 ∨ i = 1 ∨ i = 2 ∨ i = 3 ∨ i = 4 ∨ i = 5 ∨ i = 6 ∨ i = 7 ∨ i = 8 ∨ i = 9 := by omega
            all_goals (simp at ho; subst ho)
            · clear hdep
              have hK' := hK w' (.agg (db.map (Value.int .u8)).toArray) (by simp) (hx.ref 0 (by decide)) (WrH.refl _ _)
              have hr := hx.1.row8 HRD2.out HGD.out
              clear hK
              rw [if_pos (by rfl)]
              refine wp_load_row 83 (.tmp 4) rfl Gd rfl 83 _ (0, 0) _ hr Try.underlying83 rfl HSZd.out ?_
              go_simp
              simpa [upd] using hK'
            · clear hdep
              have hK' := hK w' (.agg (ub.map (Value.int .u8)).toArray) (by simp) (hx.ref 1 (by decide)) (WrH.refl _ _)
              have hr := hx.1.row8 HRU2.out HGU.out
              clear hK
              rw [if_pos (by rfl)]
              refine wp_load_row 83 (.tmp 6) rfl Gu rfl 83 _ (0, 0) _ hr Try.underlying83 rfl HSZu.out ?_
              go_simp
              simpa [upd] using hK'
            · clear hdep
              have hK' := hK w' (.pointer (some ⟨w.heap.size, 2, none⟩)) (by simp) (hx.ref 2 (by decide)) (WrH.refl _ _)
              clear hK
              rw [if_pos (by rfl)]
              go_simp
              simpa [upd] using hK'
            · have d2 : t 2 = .pointer (some ⟨w.heap.size, 2, none⟩) := by simpa using hdep ⟨2, .data⟩ (by simp) rfl
              clear hdep
              have cc : w'.cell? ⟨w.heap.size, 2, none⟩ = some (.int .i64 k) := by rw [World.cell?_of_block (a := ⟨w.heap.size, 2, none⟩) (w := W2) (hx.1.block _ HEV2.out.lt (by show w.heap.size ≠ w.heap.size + 1; omega)), cell_of_row W2 w.heap.size 2 _ _ _ HEV2.out.box]; rfl
              have hK' := hK w' (.int .i64 k) (by simp) (hx.ref 3 (by decide)) (WrH.refl _ _)
              clear hK
              rw [if_pos (by rfl)]
              go_simp
              rw [HKE.out] at hK'
              simpa [upd, d2] using hK'
            · clear hdep
              have hK' := hK w' (.pointer (some ⟨w.heap.size, 3, none⟩)) (by simp) (hx.ref 4 (by decide)) (WrH.refl _ _)
              clear hK
              rw [if_pos (by rfl)]
              go_simp
              simpa [upd] using hK'
            · have d4 : t 4 = .pointer (some ⟨w.heap.size, 3, none⟩) := by simpa using hdep ⟨4, .data⟩ (by simp) rfl
              clear hdep
              have cc : w'.cell? ⟨w.heap.size, 3, none⟩ = some (.slice aT nT cT) := by rw [World.cell?_of_block (a := ⟨w.heap.size, 3, none⟩) (w := W2) (hx.1.block _ HEV2.out.lt (by show w.heap.size ≠ w.heap.size + 1; omega)), cell_of_row W2 w.heap.size 3 _ _ _ HEV2.out.box]; rfl
              have hK' := hK w' (.slice aT nT cT) (by simp) (hx.ref 5 (by decide)) (WrH.refl _ _)
              clear hK
              rw [if_pos (by rfl)]
              go_simp
              simpa [upd, d4] using hK'
            · have d5 : t 5 = .slice aT nT cT := by simpa using hdep ⟨5, .data⟩ (by simp) rfl
              clear hdep
              have A := clnT_any aT nT cT T w' HNT.out.1 HNT.out.2.1 (HAT.out.wrh9 (HEV2.out.below) hx.1) HNT.out.2.2
              have hK' : ∀ ww v, ClV w.heap.size ww v T nT → Below w'.heap.size w' ww → K _ ww := fun ww v hv hb => hK ww v (by simpa using hv) (hx.low 6 (by decide) HEV2.out hb) (WrH.of_below hb)
              clear hK
              rw [if_pos (by rfl)]
              go_simp
              try simp only [d5]
              refine A.mono ?_
              rintro e w9 ⟨v9, rfl, hv9, ho9, hb9⟩
              have hK2 := hK' w9 v9 ⟨w'.heap.size, by have := hx.1.size; have := HEV2.out.lt2; omega, hv9, ho9⟩ hb9
              clear hK' A hv9 ho9 hb9
              go_simp
              simpa [upd, d5] using hK2
            · have d0 : t 0 = .agg (db.map (Value.int .u8)).toArray := by simpa using hdep ⟨0, .data⟩ (by simp) rfl
              have d1 : t 1 = .agg (ub.map (Value.int .u8)).toArray := by simpa using hdep ⟨1, .data⟩ (by simp) rfl
              have d3 : t 3 = .int .i64 k := by simpa using hdep ⟨3, .data⟩ (by simp) rfl
              have f6 : ClV w.heap.size w' (t 6) T nT := by simpa using hdep ⟨6, .data⟩ (by simp) rfl
              clear hdep
              obtain ⟨B9, hB9, hv9, ho9⟩ := f6
              have hK' := hK w' (.agg (bkC db ub k (t 6))) (by simpa using ⟨t 6, rfl, B9, hB9, hv9, ho9⟩) (hx.ref 7 (by decide)) (WrH.refl _ _)
              clear hK
              rw [if_pos (by rfl)]
              refine wp_bookB rfl d0 d1 d3 (show _ = t 6 from rfl) HLD.out.1 HLD.out.2 (cells_own hv9) ?_
              simpa [upd, Act.put] using hK'
            · have f7 : BlV w.heap.size w' (t 7) db ub k T nT := by simpa using hdep ⟨7, .data⟩ (by simp) rfl
              clear hdep
              obtain ⟨v9, e9, B9, hB9, hv9, ho9⟩ := f7
              have hrs := hx.2.1 hLi
              have hK' : ∀ ww, ww.heap[w.heap.size + 1]? = some (.cells (bkC db ub k v9) 96 (0, 0)) → Wr (w.heap.size + 1) w' ww → K _ ww := fun ww hr hw => hK ww undef (by simp [updK]) (hx.put hr hw ⟨B9, hB9, hv9, ho9⟩) hw.wrH
              clear hK
              rw [if_pos (by rfl)]
              refine wp_store_row 96 (.tmp 2) (.tmp 63) rfl (w.heap.size + 1) (bkC db ub k v9) rfl e9 96 _ hrs (by rw [bkC_size HLD.out.1 HLD.out.2]; exact Try.sizeBook) (by rw [bkC_size HLD.out.1 HLD.out.2]; exact zc_size) (bkC_one _ _ _ ho9) ?_
              have hK2 := hK' _ (setRow_heap _ _ _ _ _ _ hrs) (Wr.setRow _ _ _)
              clear hK'
              simpa [upd, Act.put] using hK2
            · clear hdep
              have hK' := hK w' (.bool true) (by simp) (hx.ref 9 (by decide)) (WrH.refl _ _)
              clear hK
              rw [if_pos (by rfl)]
              go_simp
              simpa [upd] using hK'
          case hdone =>
            intro L t w9 hx hg
            have l8 : L 8 = true := by simpa using hg 8 (by decide)
            have d9 : t 9 = .bool true := by simpa using hg 9 (by decide)
            clear hg
            obtain ⟨v9, hr9, B9, hB9, hv9, ho9⟩ := hx.2.2 l8
            have HF : Hid (ObP w D U k T nT (.returned (.tuple #[.agg (bkC db ub k v9), .bool true])) w9) :=
              ⟨bkC db ub k v9, by rw [HYE.out], bkC_size HLD.out.1 HLD.out.2 _ _, bkC_one _ _ _ ho9, (HEV2.out.below).trans (hx.1.below w.heap.size (by omega) HEV2.out.below.size), fun _ => ⟨db, ub, v9, rfl, HSD.out, HSU.out, hv9.mono (by omega)⟩⟩
            have HR9 : Hid (w9.heap[w.heap.size + 1]? = some (.cells (bkC db ub k v9) 96 (0, 0))) := hr9
            have HZ9 : Hid ((Try.prog.info? 96).map (·.size) = some (bkC db ub k v9).size) := by show _ = _; rw [bkC_size HLD.out.1 HLD.out.2]; exact Try.sizeBook
            simp only [d9]
            clear hx hr9 hv9 ho9 d9
            go_wp2_with fail
            exact bodyPost_ret (v := .tuple #[.agg (bkC db ub k v9), .bool true]) (results_bk rfl _ _ (w.heap.size + 1) _ _ rfl rfl HR9.out HZ9.out) rfl HF.out
      · have hka' : (k == (nU : Int) - nT) = false := by simpa using hka
        have HKN : Hid (¬ k = (nU : Int) - nT) := hka
        have hkb : decide (k < 0) = false := decide_eq_false hk
        clear hka hk hk0 hk1
        have HRS : Hid (W.heap[w.heap.size + 1]? = some (.cells Try.zeroCells96 96 (0, 0))) := HEV.out.res
        have HFB : Hid (stB D U k T nT = false) := stB_no (fun h => by have := h.2.2.2.2.1; rw [HLN.out.2] at this; exact HKN.out (by omega))
        go_upto_region 6 with fail
        go_wp2_with (first
          | (refine wpList_skipG (.tmp 6) rfl (by simp [Region.wanted, yielded]) ?_)
          | (refine wpList_store_row rfl 96 (.tmp 2) (.tmp 55) rfl (w.heap.size + 1) Try.zeroCells96 rfl rfl 96 _ HRS.out Try.sizeBook rfl bkZ_one ?_)
          | fail)
        refine bodyPost_ret (v := .tuple #[.agg Try.zeroCells96, .bool false]) (results_bk rfl _ _ (w.heap.size + 1) _ _ rfl rfl (setRow_heap _ _ _ _ _ _ HRS.out) Try.sizeBook) rfl ?_
        exact ⟨Try.zeroCells96, by rw [HFB.out], zc_size, bkZ_one, HEV.out.below.trans ((Wr.setRow _ _ _).below (by omega)), fun h => by rw [HFB.out] at h; cases h⟩
  · have h16' : 16 < (nD : Int) := by omega
    have HRS : Hid (W.heap[w.heap.size + 1]? = some (.cells Try.zeroCells96 96 (0, 0))) := HEV.out.res
    have HFB : Hid (stB D U k T nT = false) := stB_no (fun h => by have := h.2.1; rw [HLN.out.1] at this; omega)
    go_upto_region 4 with fail
    go_wp2_with (first
      | (refine wpList_skipG (.tmp 6) rfl (by simp [Region.wanted, yielded]) ?_)
      | (refine wpList_store_row rfl 96 (.tmp 2) (.tmp 32) rfl (w.heap.size + 1) Try.zeroCells96 rfl rfl 96 _ HRS.out Try.sizeBook rfl bkZ_one ?_)
      | fail)
    refine bodyPost_ret (v := .tuple #[.agg Try.zeroCells96, .bool false]) (results_bk rfl _ _ (w.heap.size + 1) _ _ rfl rfl (setRow_heap _ _ _ _ _ _ HRS.out) Try.sizeBook) rfl ?_
    exact ⟨Try.zeroCells96, by rw [HFB.out], zc_size, bkZ_one, HEV.out.below.trans ((Wr.setRow _ _ _).below (by omega)), fun h => by rw [HFB.out] at h; cases h⟩
end Go.Proofs.Ytmnoelfabldpfaa
