/-
  Own work: copies of a device, as the program and the model make them.
-/
import Derived.Test.YtiignammhieidaaQRow
import Derived.Test.YtiignammhieidaaICr
import Derived.Test.YtiignammhieidaaReg5
namespace Go.Proofs.Ytiignammhieidaa
open Go.ChangeShapes Go.WideShapes Go.ChangeAt Go.RowKit
set_option linter.unusedVariables false

theorem At.none_nil {w : World} {zs : List Int} (h : At .u8 w none zs) : zs = [] := by
  rcases h with h | ⟨b, off, e, _⟩
  · exact h
  · cases e
set_option maxHeartbeats 400000 in
set_option maxRecDepth 100000 in
theorem clone2_any (a : Option Addr) (n cap : Nat) (zs : List Int) (w : World) (hn : zs.length = n) (hm : n ≤ 1048576) (ha : At .u8 w a zs) :
    Calls Try.prog 39 #[.slice a n cap] w fun e w' => ∃ v, e = .returned v ∧ OwnN w' w.heap.size v zs ∧ Below w.heap.size w w' := by
  cases a with
  | none =>
    have h0 := ha.none_nil
    have E := run_nilSlice w none n cap
    go_enter Try.func39, Try.ntmps39
    go_wp2
    go_ret
    exact ⟨_, rfl, .inl ⟨rfl, h0⟩, Below.refl _ _⟩
  | some ad => exact clone_any (some ad) n cap zs w hn hm ha (fun h => by cases h)

/-- An entry more, in the world as it stands. -/
theorem POwn.snoc2 {w1 w' : World} {B S : Nat} {v v' : Value} {qs : List Q1} {q : Q1} (h : POwn w1 B v qs) (hlt : ∀ (i : Nat) (p : Q1) (k : Nat), qs[i]? = some p → p.v.ownBlock = some k → k < S) (hq : QOk w1 S q) (hB : B ≤ S)
    (hr : w'.ownsRow B 44 2 v' (qs.length + 1) (qcells qs ++ [.int .i64 q.s, .slice q.a q.z.length q.c])) (hg : w1.grownBy w' v.ownBlock) : POwn w' B v' (qs ++ [q]) := by
  have hne : ∀ k cur t, w1.heap[k]? = some (.cells cur t (0, 0)) → t ≠ 44 → some k ≠ v.ownBlock := fun k cur t hh ht e => by
    obtain ⟨_, h2, cur', h3⟩ := ownsRow_lt h.row k e.symm
    rw [h3] at hh
    simp at hh
    exact ht hh.2.symm
  have hkp : ∀ {C : Nat} {p : Q1}, QOk w1 C p → QOk w' C p := fun {C p} hp => hp.keep (fun k e => by obtain ⟨_, h3, cur, t, h4, h5, _⟩ := hp.lt k e; exact hg.block k h3 (hne k cur t h4 h5))
  refine ⟨by rw [List.length_append, qcells_snoc]; exact hr, fun i p hp => ?_, fun i j p p' k k' hp hp' hij hk hk' => ?_⟩
  · by_cases hi : i < qs.length
    · rw [List.getElem?_append_left hi] at hp
      exact hkp (h.each i p hp)
    · rw [List.getElem?_append_right (by omega)] at hp
      have : i - qs.length = 0 := by
        have := (List.getElem?_eq_some_iff.1 hp).1
        simp at this; omega
      rw [this] at hp
      simp at hp
      subst hp
      exact (hkp hq).mono hB
  · have hi : i < qs.length := by have := (List.getElem?_eq_some_iff.1 hp').1; simp at this; omega
    rw [List.getElem?_append_left hi] at hp
    by_cases hj : j < qs.length
    · rw [List.getElem?_append_left hj] at hp'
      exact h.ord i j p p' k k' hp hp' hij hk hk'
    · rw [List.getElem?_append_right (by omega)] at hp'
      have : j - qs.length = 0 := by
        have := (List.getElem?_eq_some_iff.1 hp').1
        simp at this; omega
      rw [this] at hp'
      simp at hp'
      subst hp'
      have := (hq.lt k' hk').1
      have := hlt i p k hp hk
      omega

/-- The state of a copy: E parts the older blocks from those of the new list. -/
structure CS (w wr : World) (C1 : Array Value) (A E : Nat) (dv cv : Value) (zs : List Int) (f : Int) (d : Bool) (qs : List Q1) : Prop where
  below : Below w.heap.size w wr
  b0 : wr.heap[w.heap.size]? = some (.cells C1 29 (0, 0))
  b1 : wr.heap[w.heap.size + 1]? = some (.cells #[.slice none 0 0, .slice none 0 0, .int .i64 0, .bool false] 29 (0, 0))
  aft : wr.heap[A]? = some (.cells #[dv, cv, .int .i64 f, .bool d] 29 (0, 0))
  own : OwnN wr (w.heap.size + 2) dv zs
  pow : POwn wr E cv qs
  hE : w.heap.size + 2 ≤ A ∧ A < E ∧ E ≤ wr.heap.size
  hdv : ∀ k, dv.ownBlock = some k → k < E ∧ k ≠ A
theorem CS.grow {w wr w' : World} {C1 : Array Value} {A E : Nat} {dv cv : Value} {zs : List Int} {f : Int} {d : Bool} {qs : List Q1} (h : CS w wr C1 A E dv cv zs f d qs) (hb : Below wr.heap.size wr w') : CS w w' C1 A E dv cv zs f d qs := by
  have hE := h.hE
  have hs := hb.size
  exact ⟨h.below.trans (hb.mono h.below.size), by rw [hb.block _ (by omega)]; exact h.b0, by rw [hb.block _ (by omega)]; exact h.b1, by rw [hb.block _ (by omega)]; exact h.aft, h.own.keep (fun k hk => hb.block k (h.own.lt k hk).2.1), h.pow.below hb, ⟨hE.1, hE.2.1, by omega⟩, h.hdv⟩
theorem CS.turn {w wr w' : World} {C1 : Array Value} {A E : Nat} {dv cv cv' : Value} {zs : List Int} {f : Int} {d : Bool} {qs qs' : List Q1} (h : CS w wr C1 A E dv cv zs f d qs) (ho : w'.os = wr.os) (ht : w'.tape = wr.tape) (hu : w'.output = wr.output) (hs : wr.heap.size ≤ w'.heap.size)
    (hk : ∀ k, k < E → k ≠ A → w'.heap[k]? = wr.heap[k]?) (ha : w'.heap[A]? = some (.cells #[dv, cv', .int .i64 f, .bool d] 29 (0, 0))) (hp : POwn w' E cv' qs') : CS w w' C1 A E dv cv' zs f d qs' := by
  have hE := h.hE
  exact ⟨h.below.trans ⟨ho, ht, hu, hs, fun k hk' => hk k (by omega) (by omega)⟩, by rw [hk _ (by omega) (by omega)]; exact h.b0, by rw [hk _ (by omega) (by omega)]; exact h.b1, ha, h.own.keep (fun k e => hk k (h.hdv k e).1 (h.hdv k e).2), hp, ⟨hE.1, hE.2.1, by omega⟩, h.hdv⟩
theorem DMine.mono {B B' U : Nat} {w : World} {v : Value} {zs : List Int} {ps : List PD} {f : Int} {d : Bool} (h : DMine B U w v zs ps f d) (hB : B' ≤ B) : DMine B' U w v zs ps f d := by
  obtain ⟨da, dc, ca, cc, B1, hv, h1, h2, h3, h4, h5, h5', h6, h7⟩ := h
  exact ⟨da, dc, ca, cc, B1, hv, h1, h2, fun ad e => by have := h3 ad e; omega, by omega, h5, h5', h6, h7⟩
theorem CS.mine {w wr : World} {C1 : Array Value} {A E : Nat} {dv cv : Value} {zs : List Int} {f : Int} {d : Bool} {qs : List Q1} (h : CS w wr C1 A E dv cv zs f d qs) : DMine (w.heap.size + 2) wr.heap.size wr (.agg #[dv, cv, .int .i64 f, .bool d]) zs (qps qs) f d := by
  have hE := h.hE
  obtain ⟨ca, cc, rfl, hP⟩ := h.pow.mine
  have hq : (qps qs).length = qs.length := by simp [qps]
  rcases h.own with ⟨rfl, rfl⟩ | hO
  · exact ⟨none, 0, ca, cc, E, by rw [hq]; rfl, .inl rfl, .inl rfl, (fun ad e => by cases e), by omega, by omega, Nat.le_refl _, hP, Nat.le_refl _⟩
  · obtain ⟨g, c, rfl, hb, hg, hc, hA, hOp⟩ := hO.at_
    exact ⟨_, c, ca, cc, E, by rw [hq], hA, hOp, fun ad e => by cases e; exact ⟨hb, (h.hdv g rfl).1⟩, by omega, by omega, Nat.le_refl _, hP, hc⟩

/-- A device of the call's own, its blocks by their types. -/
def DvOwn (w : World) (B : Nat) (r : Value) (zs : List Int) (ps : List PD) (f : Int) (d : Bool) : Prop := ∃ dv cv qs E, r = .agg #[dv, cv, .int .i64 f, .bool d] ∧ OwnN w B dv zs ∧ POwn w E cv qs ∧ qps qs = ps ∧ B ≤ E ∧ E ≤ w.heap.size ∧ ∀ k, dv.ownBlock = some k → k < E
theorem DvOwn.mine {w : World} {B : Nat} {r : Value} {zs : List Int} {ps : List PD} {f : Int} {d : Bool} (h : DvOwn w B r zs ps f d) : DMine B w.heap.size w r zs ps f d := by
  obtain ⟨dv, cv, qs, E, rfl, hO, hP, rfl, hBE, hEw, hdv⟩ := h
  obtain ⟨ca, cc, rfl, hPm⟩ := hP.mine
  have hq : (qps qs).length = qs.length := by simp [qps]
  rcases hO with ⟨rfl, rfl⟩ | hO
  · exact ⟨none, 0, ca, cc, E, by rw [hq]; rfl, .inl rfl, .inl rfl, (fun ad e => by cases e), hBE, hEw, Nat.le_refl _, hPm, Nat.le_refl _⟩
  · obtain ⟨g, c, rfl, hb, hg, hc, hA, hOp⟩ := hO.at_
    exact ⟨_, c, ca, cc, E, by rw [hq], hA, hOp, fun ad e => by cases e; exact ⟨hb, hdv g rfl⟩, hBE, hEw, Nat.le_refl _, hPm, hc⟩
/-- Blocks below B, and blocks that are of the type of a device, may turn. -/
theorem DvOwn.keep {w w' : World} {B : Nat} {r : Value} {zs : List Int} {ps : List PD} {f : Int} {d : Bool} (h : DvOwn w B r zs ps f d) (hk : ∀ k cur t, B ≤ k → w.heap[k]? = some (.cells cur t (0, 0)) → t ≠ 29 → w'.heap[k]? = w.heap[k]?) (hs : w.heap.size ≤ w'.heap.size) : DvOwn w' B r zs ps f d := by
  obtain ⟨dv, cv, qs, E, hr, hO, hP, hq, hBE, hEw, hdv⟩ := h
  refine ⟨dv, cv, qs, E, hr, hO.keep (fun k e => ?_), ⟨ownsRow_keep hP.row (fun k e => ?_), fun i q hi => (hP.each i q hi).keep (fun k e => ?_), hP.ord⟩, hq, hBE, by omega, hdv⟩
  · obtain ⟨h1, _, cur, h2⟩ := hO.lt k e; exact hk k cur _ h1 h2 (by decide)
  · obtain ⟨h1, _, cur, h2⟩ := ownsRow_lt hP.row k e; exact hk k cur _ (by omega) h2 (by decide)
  · obtain ⟨h1, _, cur, t, h2, _, h3⟩ := (hP.each i q hi).lt k e; exact hk k cur t (by omega) h2 h3
theorem DvOwn.grow {w w' : World} {B : Nat} {r : Value} {zs : List Int} {ps : List PD} {f : Int} {d : Bool} (h : DvOwn w B r zs ps f d) (hb : Below w.heap.size w w') : DvOwn w' B r zs ps f d :=
  h.keep (fun k cur t _ h2 _ => hb.block k (Array.getElem?_eq_some_iff.1 h2).1) hb.size
theorem DvOwn.mono {w : World} {B B' : Nat} {r : Value} {zs : List Int} {ps : List PD} {f : Int} {d : Bool} (h : DvOwn w B r zs ps f d) (hB : B' ≤ B) : DvOwn w B' r zs ps f d := by
  obtain ⟨dv, cv, qs, E, hr, hO, hP, hq, hBE, hEw, hdv⟩ := h
  exact ⟨dv, cv, qs, E, hr, hO.mono hB, hP, hq, by omega, hEw, hdv⟩
theorem DvOwn.refit {w : World} {B : Nat} {a b : Value} {zs : List Int} {ps : List PD} {f : Int} {d : Bool} (h : DvOwn w B (.agg #[a, b, .int .i64 f, .bool d]) zs ps f d) (f' : Int) (d' : Bool) : DvOwn w B (.agg #[a, b, .int .i64 f', .bool d']) zs ps f' d' := by
  obtain ⟨dv, cv, qs, E, hr, h⟩ := h
  simp at hr
  obtain ⟨rfl, rfl⟩ := hr
  exact ⟨_, _, qs, E, rfl, h⟩
theorem CS.typed {w wr : World} {C1 : Array Value} {A E : Nat} {dv cv : Value} {zs : List Int} {f : Int} {d : Bool} {qs : List Q1} (h : CS w wr C1 A E dv cv zs f d qs) : DvOwn wr (w.heap.size + 2) (.agg #[dv, cv, .int .i64 f, .bool d]) zs (qps qs) f d :=
  ⟨dv, cv, qs, E, rfl, h.own, h.pow, rfl, by have := h.hE; omega, h.hE.2.2, fun k e => (h.hdv k e).1⟩

def GA (S D L cap : Nat) (a : Option Addr) (zs : List Int) (f : Int) (d : Bool) : Nat → World → Value → Prop
  | 0, _, v => v = .pointer (some ⟨D, 0, none⟩)
  | 1, _, v => v = .slice a L cap
  | 2, w, v => OwnN w S v zs
  | 3, _, v => v = .pointer (some ⟨D, 2, none⟩)
  | 4, _, v => v = .int .i64 f
  | 5, _, v => v = .pointer (some ⟨D, 3, none⟩)
  | 6, _, v => v = .bool d
  | 7, w, v => ∃ dv, v = .agg #[dv, .slice none 0 0, .int .i64 f, .bool d] ∧ OwnN w S dv zs
  | _, w, v => ∃ A, v = .pointer (some ⟨A, 0, none⟩) ∧ S ≤ A ∧ w.heap[A]? = some (.cells #[.slice none 0 0, .slice none 0 0, .int .i64 0, .bool false] 29 (0, 0))
theorem OwnN.grow {w w' : World} {B : Nat} {v : Value} {zs : List Int} (h : OwnN w B v zs) (hb : Below w.heap.size w w') : OwnN w' B v zs := h.keep (fun k hk => hb.block k (h.lt k hk).2.1)
theorem GA_mono (S D L cap : Nat) (a : Option Addr) (zs : List Int) (f : Int) (d : Bool) (i : Nat) (w w' : World) (v : Value) (hm : Below w.heap.size w w') (h : GA S D L cap a zs f d i w v) : GA S D L cap a zs f d i w' v := by
  unfold GA at *
  split at h
  all_goals first
    | exact h
    | exact h.grow hm
    | (obtain ⟨dv, e, h⟩ := h; exact ⟨dv, e, h.grow hm⟩)
    | (obtain ⟨W, e, h1, h2⟩ := h; exact ⟨W, e, h1, by rw [hm.block _ (Array.getElem?_eq_some_iff.1 h2).1]; exact h2⟩)
theorem OwnN.sl' {w : World} {B : Nat} {v : Value} {z : List Int} (h : OwnN w B v z) : ∃ a c, v = .slice a z.length c := by
  rcases h with ⟨rfl, rfl⟩ | h
  · exact ⟨none, 0, rfl⟩
  · obtain ⟨g, c, rfl, _⟩ := h.base; exact ⟨_, c, rfl⟩

def GQ (A P S E : Nat) (cv : Value) (qs : List Q1) (s : Int) (xa : Option Addr) (c : Nat) (z : List Int) : Nat → (Nat → Bool) → World → Value → Prop
  | 0, _, _, v => v = .pointer (some ⟨A, 1, none⟩)
  | 1, _, _, v => v = cv
  | 2, _, _, v => v = .pointer (some ⟨P, 0, none⟩)
  | 3, _, _, v => v = .int .i64 s
  | 4, _, _, v => v = .pointer (some ⟨P, 1, none⟩)
  | 5, _, _, v => v = .slice xa z.length c
  | 6, _, w, v => OwnN w S v z
  | 7, _, w, v => ∃ a c', v = .agg #[.int .i64 s, .slice a z.length c'] ∧ OwnN w S (.slice a z.length c') z
  | 8, _, w, v => ∃ K a c', v = .slice (some ⟨K, 0, none⟩) 1 1 ∧ S ≤ K ∧ w.heap[K]? = some (.cells #[.int .i64 s, .slice a z.length c'] 44 (0, 0)) ∧ OwnN w S (.slice a z.length c') z
  | 9, _, w, v => ∃ q : Q1, q.s = s ∧ q.z = z ∧ POwn w E v (qs ++ [q])
  | _, _, _, v => v = .pointer (some ⟨A, 1, none⟩)
theorem grown_of_below {w w' : World} {r : Option Nat} (h : Below w.heap.size w w') : w.grownBy w' r := ⟨h.os, h.tape, h.output, h.size, fun k hk _ => h.block k hk⟩
theorem grown_trans {w w' w'' : World} {r : Option Nat} (h : w.grownBy w' r) (k : w'.grownBy w'' r) : w.grownBy w'' r :=
  ⟨k.os.trans h.os, k.tape.trans h.tape, k.output.trans h.output, Nat.le_trans h.size k.size, fun i hi hr => (k.block i (by have := h.size; omega) hr).trans (h.block i hi hr)⟩
theorem OwnN.grown {w w' : World} {S : Nat} {v : Value} {z : List Int} {r : Option Nat} (h : OwnN w S v z) (hg : w.grownBy w' r) (hr : ∀ k, r = some k → k < S) : OwnN w' S v z :=
  h.keep (fun k e => hg.block k (h.lt k e).2.1 (fun er => by have := hr k er.symm; have := (h.lt k e).1; omega))
theorem GQ_stab (A P S E : Nat) (cv : Value) (qs : List Q1) (s : Int) (xa : Option Addr) (c : Nat) (z : List Int) (hr : ∀ k, cv.ownBlock = some k → k < S) (j : Nat) (L : Nat → Bool) (w w' : World) (i : Nat) (v : Value)
    (hM : (i ≠ 9 → Below w.heap.size w w') ∧ w.grownBy w' cv.ownBlock) (hij : i ≠ j) (hL : L i = false) (h : GQ A P S E cv qs s xa c z j L w v) : GQ A P S E cv qs s xa c z j (updK L i) w' v := by
  have hg := hM.2
  unfold GQ at *
  split at h
  all_goals first
    | exact h
    | exact OwnN.grown h hg hr
    | (obtain ⟨a, c', e, h⟩ := h; exact ⟨a, c', e, OwnN.grown h hg hr⟩)
    | (obtain ⟨K, a, c', e, h1, h2, h⟩ := h; exact ⟨K, a, c', e, h1, by rw [hg.block _ (Array.getElem?_eq_some_iff.1 h2).1 (fun er => by have := hr K er.symm; omega)]; exact h2, OwnN.grown h hg hr⟩)
    | (obtain ⟨q, e1, e2, h⟩ := h; exact ⟨q, e1, e2, h.below (hM.1 hij)⟩)
theorem Try.infoPend' : (Try.prog.info? 44).map (fun i => (i.zero, i.size, i.bytes)) = some (some (.agg #[.int .i64 0, .slice none 0 0]), 2, 32) := by kernel_rfl
/-- append of one entry to a list of the call's own. -/
theorem wp_appP (w : World) {o : Oper} {a : Act} {K : Act → World → Prop} {Q : Exit → Act → World → Prop} (s x : Operand) (hop : o.op = Op.call { callee := Callee.builtin Builtin.append, args := #[s, x], argTypes := #[27, 27] })
    (E S : Nat) (cv : Value) (qs : List Q1) (q : Q1) (hs : a.eval s = cv) (hP : POwn w E cv qs) (hlt : ∀ (i : Nat) (p : Q1) (k : Nat), qs[i]? = some p → p.v.ownBlock = some k → k < S) (B : Nat) (hx : a.eval x = .slice (some ⟨B, 0, none⟩) 1 1)
    (hB : w.heap[B]? = some (.cells #[.int .i64 q.s, .slice q.a q.z.length q.c] 44 (0, 0))) (hq : QOk w S q) (hES : E ≤ S) (hSw : E ≤ w.heap.size) (hb : qs.length ≤ 1048576)
    (h : ∀ v' w', POwn w' E v' (qs ++ [q]) → w.grownBy w' cv.ownBlock → K (a.put o.dst v') w') : o.wp Try.prog a w K Q := by
  obtain ⟨i0, hi, hz0, hz1, hz2⟩ := info_parts Try.infoPend'
  refine wp_append_own w s x 27 hop E 44 i0 (.agg #[.int .i64 0, .slice none 0 0]) 2 32 Try.underlying27 hi hz0 hz1 hz2 rfl (by decide) cv qs.length _ hs hP.row ⟨B, 0, none⟩ 1 1 [.int .i64 q.s, .slice q.a q.z.length q.c] hx rfl ?_ (by simp [Value.oneCell']) (by unfold maxLen; omega) (by omega) hSw ?_
  · intro j u hu
    rw [Addr.add_lit, cell_of_row w B (0 + j) _ _ _ hB, Nat.zero_add]
    simpa using hu
  · intro v' w' h1 h2 _
    exact h v' w' (hP.snoc2 hlt hq hES h1 h2) h2

/-- The box of the one parameter, and the box of the result. -/
structure B2 (w wr : World) (C1 : Array Value) : Prop where
  below : Below w.heap.size w wr
  b0 : wr.heap[w.heap.size]? = some (.cells C1 29 (0, 0))
  b1 : wr.heap[w.heap.size + 1]? = some (.cells #[.slice none 0 0, .slice none 0 0, .int .i64 0, .bool false] 29 (0, 0))
theorem B2.grow {w wr w' : World} {C1 : Array Value} (h : B2 w wr C1) (hb : Below wr.heap.size wr w') : B2 w w' C1 :=
  ⟨h.below.trans (hb.mono h.below.size), by rw [hb.block _ (Array.getElem?_eq_some_iff.1 h.b0).1]; exact h.b0, by rw [hb.block _ (Array.getElem?_eq_some_iff.1 h.b1).1]; exact h.b1⟩
theorem B2.start (w : World) (C1 : Array Value) : B2 w ((w.alloc (.cells C1 29)).alloc (.cells #[.slice none 0 0, .slice none 0 0, .int .i64 0, .bool false] 29)) C1 := by
  have h2 := (Below.refl _ (w.alloc (.cells C1 29))).alloc (Nat.le_refl _) (.cells #[.slice none 0 0, .slice none 0 0, .int .i64 0, .bool false] 29)
  refine ⟨((Below.refl w.heap.size w).alloc (Nat.le_refl _) (.cells C1 29)).alloc (by simp) (.cells #[.slice none 0 0, .slice none 0 0, .int .i64 0, .bool false] 29), ?_, ?_⟩
  · rw [h2.block _ (by simp)]; exact heap_alloc_new w _
  · have := heap_alloc_new (w.alloc (.cells C1 29)) (.cells #[.slice none 0 0, .slice none 0 0, .int .i64 0, .bool false] 29)
    simpa using this

set_option maxHeartbeats 2000000 in
set_option maxRecDepth 100000 in
theorem icp_any (v : Value) (zs : List Int) (ps : List PD) (f : Int) (d : Bool) (w : World) (h : DAt w v zs ps f d) (hz : zs.length ≤ 1048576) (hn : ps.length ≤ 1048576) (hps : ∀ i, (ps.getD i (0, [])).2.length ≤ 1048576) :
    Calls Try.prog 24 #[v] w fun e w' => ∃ r, e = .returned r ∧ DvOwn w' w.heap.size r zs ps f d ∧ Below w.heap.size w w' := by
  have HSD : Hid _ := Try.sizeDv
  have HSP : Hid _ := Try.sizePd
  obtain ⟨a, cap, x, cx, rfl, hA, hP, hcap⟩ := h
  have HCL : Hid (∀ ww : World, Below w.heap.size w ww → Calls Try.prog 39 #[.slice a zs.length cap] ww fun e w' => ∃ v, e = .returned v ∧ OwnN w' ww.heap.size v zs ∧ Below ww.heap.size ww w') := fun ww hb => clone2_any a zs.length cap zs ww rfl hz (hA.below hb)
  have HP : Hid (PAt w x ps) := hP
  have HPS : Hid (∀ i, (ps.getD i (0, [])).2.length ≤ 1048576) := hps
  obtain ⟨L, hL⟩ : ∃ L, zs.length = L := ⟨_, rfl⟩
  obtain ⟨m, hm⟩ : ∃ m, ps.length = m := ⟨_, rfl⟩
  rw [hL] at HCL ⊢
  rw [hm] at hn ⊢
  have HHM : Hid (ps.length = m) := hm
  clear hL hm hA hP hcap hps hz
  have HS0 : Hid (B2 w _ #[.slice a L cap, .slice x m cx, .int .i64 f, .bool d]) := B2.start w #[.slice a L cap, .slice x m cx, .int .i64 f, .bool d]
  go_enter Try.func24, Try.ntmps24
  go_wp2_with fail
  have st1 := HS0.out
  clear HS0
  generalize ((w.alloc (.cells #[.slice a L cap, .slice x m cx, .int .i64 f, .bool d] 29)).alloc (.cells #[.slice none 0 0, .slice none 0 0, .int .i64 0, .bool false] 29)) = w1 at *
  have HS1 : Hid (B2 w w1 #[.slice a L cap, .slice x m cx, .int .i64 f, .bool d]) := st1
  have hs1 : w.heap.size + 1 < w1.heap.size := (Array.getElem?_eq_some_iff.1 st1.b1).1
  clear st1
  refine wp_region_any (by kernel_rfl) ?_
  refine wpAny_slotsL 9 (fun w w' => Below w.heap.size w w') (frame := (fun (c0 c1 c2 c4 c5 c14 c15 c16 c17 c18 c19 c20 c21 c22 c23 c24 c25 c26 c27 c28 c29 c30 c31 c32 c33 : Value) => fun (t : Nat → Value) => ({ tmps := List.toArray (c0 :: c1 :: c2 :: t 8 :: c4 :: c5 :: t 0 :: t 1 :: t 2 :: t 3 :: t 4 :: t 5 :: t 6 :: t 7 :: c14 :: c15 :: c16 :: c17 :: c18 :: c19 :: c20 :: c21 :: c22 :: c23 :: c24 :: c25 :: c26 :: c27 :: c28 :: c29 :: c30 :: c31 :: c32 :: c33 :: []), defers := [] } : Act)) _ _ _ _ _ _ _ _ _ _ _ _ _ _ _ _ _ _ _ _ _ _ _ _ _)
    (Ext := fun w' => B2 w w' #[.slice a L cap, .slice x m cx, .int .i64 f, .bool d] ∧ Below w1.heap.size w1 w') (Good := GA w1.heap.size w.heap.size L cap a zs f d) (by rfl) (by kernel_rfl) (GA_mono _ _ _ _ _ _ _ _) (by kernel_rfl) (by kernel_rfl) ?hop ?hend _ _ ((fun (x0 x1 x2 x3 x4 x5 x6 x7 x8 : Value) => fun (i : Nat) => if i = 0 then x0 else if i = 1 then x1 else if i = 2 then x2 else if i = 3 then x3 else if i = 4 then x4 else if i = 5 then x5 else if i = 6 then x6 else if i = 7 then x7 else if i = 8 then x8 else undef) _ _ _ _ _ _ _ _ _) _ (by simp) (by simp) ?ext ?start (by simp)
  case start => intro i hi h; exact absurd h (by rw [Array.getD_eq_getD_getElem?, Array.getElem?_replicate]; split <;> simp)
  case ext => exact ⟨B2.grow HS1.out (Below.refl _ _).drew, (Below.refl _ _).drew⟩
  case hop =>
    intro i o t w' hil ho hx hdep K hK
    obtain ⟨hx, hxb⟩ := hx
    obtain ⟨c0, c1, c2, c3⟩ := row4 hx.b0
    obtain rfl | rfl | rfl | rfl | rfl | rfl | rfl | rfl | rfl : i = 0 ∨ i = 1 ∨ i = 2 ∨ i = 3 ∨ i = 4 ∨ i = 5 ∨ i = 6 ∨ i = 7 ∨ i = 8 := by omega
    all_goals (simp at ho; subst ho)
    · clear hdep
      go_simp
      exact hK w' (.pointer (some ⟨w.heap.size, 0, none⟩)) rfl ⟨hx, hxb⟩ (Below.refl _ _)
    · have d0 : t 0 = _ := hdep ⟨0, .data⟩ (by simp) rfl
      clear hdep
      go_simp
      simpa [upd, d0] using hK w' (.slice a L cap) rfl ⟨hx, hxb⟩ (Below.refl _ _)
    · have d1 : t 1 = _ := hdep ⟨1, .data⟩ (by simp) rfl
      clear hdep
      go_simp
      refine (HCL.out w' hx.below).mono ?_
      rintro e w9 ⟨v9, rfl, O9, hb9⟩
      have O9' := O9.mono hxb.size
      clear O9
      go_simp
      simpa [upd, d1] using hK w9 v9 O9' ⟨hx.grow hb9, hxb.trans (hb9.mono hxb.size)⟩ hb9
    · clear hdep
      go_simp
      exact hK w' (.pointer (some ⟨w.heap.size, 2, none⟩)) rfl ⟨hx, hxb⟩ (Below.refl _ _)
    · have d3 : t 3 = _ := hdep ⟨3, .data⟩ (by simp) rfl
      clear hdep
      go_simp
      simpa [upd, d3] using hK w' (.int .i64 f) rfl ⟨hx, hxb⟩ (Below.refl _ _)
    · clear hdep
      go_simp
      exact hK w' (.pointer (some ⟨w.heap.size, 3, none⟩)) rfl ⟨hx, hxb⟩ (Below.refl _ _)
    · have d5 : t 5 = _ := hdep ⟨5, .data⟩ (by simp) rfl
      clear hdep
      go_simp
      simpa [upd, d5] using hK w' (.bool d) rfl ⟨hx, hxb⟩ (Below.refl _ _)
    · have d2 : OwnN w' w1.heap.size (t 2) zs := hdep ⟨2, .data⟩ (by simp) rfl
      have d4 : t 4 = _ := hdep ⟨4, .data⟩ (by simp) rfl
      have d6 : t 6 = _ := hdep ⟨6, .data⟩ (by simp) rfl
      clear hdep
      obtain ⟨da, dc, e2⟩ := d2.sl'
      rw [e2] at d2
      have hK' := hK w' (.agg #[.slice da zs.length dc, .slice none 0 0, .int .i64 f, .bool d]) ⟨_, rfl, d2⟩ ⟨hx, hxb⟩ (Below.refl _ _)
      clear d2 hK
      go_simp
      simpa [upd, e2, d4, d6] using hK'
    · clear hdep
      have hb9 := (Below.refl w'.heap.size w').alloc (Nat.le_refl _) (.cells #[.slice none 0 0, .slice none 0 0, .int .i64 0, .bool false] 29)
      have hK' := hK (w'.alloc (.cells #[.slice none 0 0, .slice none 0 0, .int .i64 0, .bool false] 29)) (.pointer (some ⟨w'.heap.size, 0, none⟩)) ⟨w'.heap.size, rfl, hxb.size, heap_alloc_new w' _⟩ ⟨hx.grow hb9, hxb.trans (hb9.mono hxb.size)⟩ hb9
      clear hK
      go_simp
      simpa [upd] using hK'
  case hend =>
    intro o t w' ho hx hg K hK
    simp at ho; subst ho
    obtain ⟨hx, hxb⟩ := hx
    obtain ⟨dv, h7, O7⟩ := hg 7 (by decide)
    obtain ⟨A, h8, hA1, hbA⟩ := hg 8 (by decide)
    clear hg
    obtain ⟨da, dc, rfl⟩ := O7.sl'
    have hAl := (Array.getElem?_eq_some_iff.1 hbA).1
    refine wp_store_row 29 (.tmp 3) (.tmp 13) rfl A #[.slice da zs.length dc, .slice none 0 0, .int .i64 f, .bool d] h8 h7 29 _ hbA HSD.out rfl (all4e _ _ _ _ _ _ _ _) ?_
    apply hK
    have hwr := Wr.setRow A w' #[.slice da zs.length dc, .slice none 0 0, .int .i64 f, .bool d]
    have hrow : (w'.setRow A #[.slice da zs.length dc, .slice none 0 0, .int .i64 f, .bool d]).heap[A]? = some (.cells #[.slice da zs.length dc, .slice none 0 0, .int .i64 f, .bool d] 29 (0, 0)) := setRow_heap _ _ _ _ _ _ hbA
    have hne : ∀ k, (Value.slice da zs.length dc).ownBlock = some k → k ≠ A := fun k e ek => by
      obtain ⟨_, _, cur, h3⟩ := O7.lt k e
      rw [ek, hbA] at h3; simp at h3
    have hsx := hxb.size
    have st3 : CS w (w'.setRow A #[.slice da zs.length dc, .slice none 0 0, .int .i64 f, .bool d]) #[.slice a L cap, .slice x m cx, .int .i64 f, .bool d] A w'.heap.size (.slice da zs.length dc) (.slice none 0 0) zs f d [] :=
      ⟨hx.below.trans (hwr.below (by omega)), by rw [hwr.block _ (by omega)]; exact hx.b0, by rw [hwr.block _ (by omega)]; exact hx.b1, hrow, (O7.keep (fun k e => hwr.block k (hne k e))).mono (by omega), POwn.nil _ _, ⟨by omega, hAl, by rw [hwr.size]; exact Nat.le_refl _⟩, fun k e => ⟨(O7.lt k e).2.1, hne k e⟩⟩
    clear hwr hrow O7 hx hxb hbA h7 hK hne hsx hA1 hAl
    generalize (w'.setRow A #[.slice da zs.length dc, .slice none 0 0, .int .i64 f, .bool d]) = w3 at *
    generalize w'.heap.size = E at *
    obtain ⟨c0, c1, c2, c3⟩ := row4 st3.b0
    have HS3 : Hid (CS w w3 #[.slice a L cap, .slice x m cx, .int .i64 f, .bool d] A E (.slice da zs.length dc) (.slice none 0 0) zs f d []) := st3
    clear st3 HS1
    go_wp2
    clear h8
    have st3 := HS3.out
    clear HS3 c0 c1 c2 c3
    go_loopw [17] (fun i wr => ∃ (k : Nat) (cv : Value) (qs : List Q1), k ≤ m ∧ i = .int .i64 k ∧ qps qs = ps.take k ∧ CS w wr #[.slice a L cap, .slice x m cx, .int .i64 f, .bool d] A E (.slice da zs.length dc) cv zs f d qs) (fun i _ => m - (intOf i).toNat)
    case atStart => exact ⟨0, _, [], Nat.zero_le _, rfl, rfl, st3⟩
    case round =>
      obtain ⟨k, cv, qs, hk, rfl, hqs, st⟩ := hrel
      clear st3
      by_cases hlt : k < m
      · obtain ⟨b5, o5, rfl, hb5, hc5⟩ := PAt.get HP.out (by rw [HHM.out]; omega)
        obtain ⟨xa, xc, q1, q2, q4⟩ := hc5 k (by rw [HHM.out]; exact hlt)
        have hzl := HPS.out k
        have hnew : ps.take (k + 1) = ps.take k ++ [((ps.getD k (0, [])).1, (ps.getD k (0, [])).2)] := by
          have hk' : k < ps.length := by rw [HHM.out]; exact hlt
          have e : ps.getD k (0, []) = ps[k] := by simp [List.getD, hk']
          rw [e]; exact List.take_succ_eq_append_getElem hk'
        have hql : qs.length = k := by
          have h1 : (qps qs).length = (ps.take k).length := by rw [hqs]
          have h2 : ps.length = m := HHM.out
          simp [qps] at h1; omega
        rw [← hqs] at hnew
        have HNEW : Hid (ps.take (k + 1) = qps qs ++ [((ps.getD k (0, [])).1, (ps.getD k (0, [])).2)]) := hnew
        clear hnew hqs hc5
        generalize (ps.getD k (0, [])).1 = s at *
        generalize (ps.getD k (0, [])).2 = z at *
        rw [← st.below.cell (p := ⟨b5, o5 + k * 2, none⟩) hb5] at q1
        rw [← st.below.cell (p := ⟨b5, o5 + k * 2 + 1, none⟩) hb5] at q2
        have hlt' : (k : Int) < m := by omega
        have HST : Hid (CS w wr #[.slice a L cap, .slice (some ⟨b5, o5, none⟩) m cx, .int .i64 f, .bool d] A E (.slice da zs.length dc) cv zs f d qs) := st
        have HQ4 : Hid (At .u8 w xa z) := q4
        clear st q4
        go_wp2_with (refine wpList_storeW rfl 44 (.tmp 5) (.tmp 20) rfl wr.heap.size #[.int .i64 s, .slice xa z.length xc] rfl rfl 44 _ (heap_alloc_new wr _) HSP.out rfl (all2p _ _ _ _) ?_)
        intro w3' hr3 hw3
        have hb3 : Below wr.heap.size wr w3' := ((Below.refl _ _).alloc (Nat.le_refl _) _).trans (hw3.below (Nat.le_refl _))
        have hPl : wr.heap.size < w3'.heap.size := (Array.getElem?_eq_some_iff.1 hr3).1
        have HS3 : Hid (CS w w3' #[.slice a L cap, .slice (some ⟨b5, o5, none⟩) m cx, .int .i64 f, .bool d] A E (.slice da zs.length dc) cv zs f d qs) := CS.grow HST.out hb3
        have HR3 : Hid (w3'.heap[wr.heap.size]? = some (.cells #[.int .i64 s, .slice xa z.length xc] 44 (0, 0))) := hr3
        have HCB : Hid (∀ j, cv.ownBlock = some j → E ≤ j ∧ j < wr.heap.size) := fun j e => ⟨(ownsRow_lt (CS.pow HST.out).row j e).1, (ownsRow_lt (CS.pow HST.out).row j e).2.1⟩
        have hEw := (CS.hE HST.out)
        clear hr3 hw3 hb3 HST q1 q2 hb5
        generalize wr.heap.size = P at *
        have HLT : Hid (∀ (i : Nat) (p : Q1) (k : Nat), qs[i]? = some p → p.v.ownBlock = some k → k < w3'.heap.size) := fun i p k hp e => ((CS.pow HS3.out).each i p hp).lt k e |>.2.1
        have hcS : ∀ k, cv.ownBlock = some k → k < w3'.heap.size := fun j e => by have := HCB.out j e; omega
        go_wp2_with fail
        refine wp_region_any (by kernel_rfl) ?_
        refine wpAny_slotsK 11 (fun i w w' => (i ≠ 9 → Below w.heap.size w w') ∧ w.grownBy w' cv.ownBlock) (frame := (fun (c0 c1 c2 c3 c4 c5 c6 c7 c8 c9 c10 c11 c12 c13 c14 c15 c16 c17 c18 c19 c20 c32 c33 : Value) => fun (t : Nat → Value) => ({ tmps := List.toArray (c0 :: c1 :: c2 :: c3 :: c4 :: c5 :: c6 :: c7 :: c8 :: c9 :: c10 :: c11 :: c12 :: c13 :: c14 :: c15 :: c16 :: c17 :: c18 :: c19 :: c20 :: t 0 :: t 1 :: t 2 :: t 3 :: t 4 :: t 5 :: t 6 :: t 7 :: t 8 :: t 9 :: t 10 :: c32 :: c33 :: []), defers := [] } : Act)) _ _ _ _ _ _ _ _ _ _ _ _ _ _ _ _ _ _ _ _ _ _ _)
          (Ext := fun Ls w' => w3'.grownBy w' cv.ownBlock ∧ (Ls 9 = false → Below w3'.heap.size w3' w')) (Good := GQ A P w3'.heap.size E cv qs s xa xc z) (by rfl) (by kernel_rfl) (GQ_stab _ _ _ _ _ _ _ _ _ _ hcS) (by kernel_rfl) (by kernel_rfl) ?hop ?hend _ _ ((fun (x0 x1 x2 x3 x4 x5 x6 x7 x8 x9 x10 : Value) => fun (i : Nat) => if i = 0 then x0 else if i = 1 then x1 else if i = 2 then x2 else if i = 3 then x3 else if i = 4 then x4 else if i = 5 then x5 else if i = 6 then x6 else if i = 7 then x7 else if i = 8 then x8 else if i = 9 then x9 else if i = 10 then x10 else undef) _ _ _ _ _ _ _ _ _ _ _) _ (by simp) (by simp) ?ext ?start (by simp)
        case start => intro i hi h; exact absurd h (by rw [Array.getD_eq_getD_getElem?, Array.getElem?_replicate]; split <;> simp)
        case ext => exact ⟨grown_of_below (Below.refl _ _).drew, fun _ => (Below.refl _ _).drew⟩
        case hop =>
          intro i o Ls t w' hil ho hLi hx hdep K hK
          obtain ⟨hxg, hx9⟩ := hx
          have hgr : ∀ ww : World, Below w'.heap.size w' ww → w3'.grownBy ww cv.ownBlock := fun ww hb => grown_trans hxg (grown_of_below hb)
          have h9 : ∀ (j : Nat) (ww : World), j ≠ 9 → Below w'.heap.size w' ww → updK Ls j 9 = false → Below w3'.heap.size w3' ww := fun j ww hj hb hL => by
            have hL' : Ls 9 = false := by simpa [updK, Ne.symm hj] using hL
            exact (hx9 hL').trans (hb.mono hxg.size)
          have hE3 := hEw
          have haf : w'.heap[A]? = some (.cells #[.slice da zs.length dc, cv, .int .i64 f, .bool d] 29 (0, 0)) := by
            rw [hxg.block A (by omega) (fun e => by have := HCB.out A e.symm; omega)]; exact CS.aft HS3.out
          have hpb : w'.heap[P]? = some (.cells #[.int .i64 s, .slice xa z.length xc] 44 (0, 0)) := by
            rw [hxg.block P hPl (fun e => by have := HCB.out P e.symm; omega)]; exact HR3.out
          obtain ⟨a0, a1, a2, a3⟩ := row4 haf
          obtain ⟨p0, p1⟩ := row2 hpb
          have hbw : Below w.heap.size w w' := by
            have hb0 := CS.below HS3.out
            have hsz := hb0.size
            exact hb0.trans ⟨hxg.os, hxg.tape, hxg.output, hxg.size, fun k hk => hxg.block k (by omega) (fun e => by have := HCB.out k e.symm; omega)⟩
          have REF : Hid (∀ j, j ≠ 9 → (w3'.grownBy w' cv.ownBlock ∧ (updK Ls j 9 = false → Below w3'.heap.size w3' w'))) := fun j hj => ⟨hxg, h9 j w' hj (Below.refl _ _)⟩
          have RM : Hid (∀ j, (j ≠ 9 → Below w'.heap.size w' w') ∧ w'.grownBy w' cv.ownBlock) := fun j => ⟨fun _ => Below.refl _ _, grown_of_below (Below.refl _ _)⟩
          have H9 : Hid _ := h9
          have HGR : Hid _ := hgr
          have HX9 : Hid _ := hx9
          have HXG : Hid _ := hxg
          clear h9 hgr hx9 hxg haf hpb
          obtain rfl | rfl | rfl | rfl | rfl | rfl | rfl | rfl | rfl | rfl | rfl : i = 0 ∨ i = 1 ∨ i = 2 ∨ i = 3 ∨ i = 4 ∨ i = 5 ∨ i = 6 ∨ i = 7 ∨ i = 8 ∨ i = 9 ∨ i = 10 := by omega
          all_goals (simp at ho; subst ho)
          · clear hdep
            go_simp
            exact hK w' (.pointer (some ⟨A, 1, none⟩)) rfl (REF.out 0 (by decide)) (RM.out 0)
          · have d0 : t 0 = _ := hdep ⟨0, .data⟩ (by simp) rfl
            clear hdep
            go_simp
            simpa [upd, d0] using hK w' cv rfl (REF.out 1 (by decide)) (RM.out 1)
          · clear hdep
            go_simp
            exact hK w' (.pointer (some ⟨P, 0, none⟩)) rfl (REF.out 2 (by decide)) (RM.out 2)
          · have d2 : t 2 = _ := hdep ⟨2, .data⟩ (by simp) rfl
            clear hdep
            go_simp
            simpa [upd, d2] using hK w' (.int .i64 s) rfl (REF.out 3 (by decide)) (RM.out 3)
          · clear hdep
            go_simp
            exact hK w' (.pointer (some ⟨P, 1, none⟩)) rfl (REF.out 4 (by decide)) (RM.out 4)
          · have d4 : t 4 = _ := hdep ⟨4, .data⟩ (by simp) rfl
            clear hdep
            go_simp
            simpa [upd, d4] using hK w' (.slice xa z.length xc) rfl (REF.out 5 (by decide)) (RM.out 5)
          · have d5 : t 5 = _ := hdep ⟨5, .data⟩ (by simp) rfl
            clear hdep
            have e := clone2_any xa z.length xc z w' rfl hzl (At.below HQ4.out hbw)
            go_simp
            refine e.mono ?_
            rintro e w9 ⟨v9, rfl, O9, hb9⟩
            have hs9 := (show w3'.grownBy w' cv.ownBlock from HXG.out).size
            have O9' := O9.mono hs9
            clear O9
            have hK' := hK w9 v9 O9' ⟨HGR.out w9 hb9, H9.out 6 w9 (by decide) hb9⟩ ⟨fun _ => hb9, grown_of_below hb9⟩
            clear hK
            go_simp
            simpa [upd, d5] using hK'
          · have d3 : t 3 = _ := hdep ⟨3, .data⟩ (by simp) rfl
            have d6 : OwnN w' w3'.heap.size (t 6) z := hdep ⟨6, .data⟩ (by simp) rfl
            clear hdep
            obtain ⟨ea, ec, e6⟩ := d6.sl'
            rw [e6] at d6
            have hK' := hK w' (.agg #[.int .i64 s, .slice ea z.length ec]) ⟨ea, ec, rfl, d6⟩ (REF.out 7 (by decide)) (RM.out 7)
            clear d6 hK
            go_simp
            simpa [upd, e6, d3] using hK'
          · obtain ⟨ea, ec, e7, O7⟩ := hdep ⟨7, .data⟩ (by simp) rfl
            clear hdep
            have hb9 := (Below.refl w'.heap.size w').alloc (Nat.le_refl _) (.cells #[.int .i64 s, .slice ea z.length ec] 44)
            have hs9 := (show w3'.grownBy w' cv.ownBlock from HXG.out).size
            have hK' := hK (w'.alloc (.cells #[.int .i64 s, .slice ea z.length ec] 44)) (.slice (some ⟨w'.heap.size, 0, none⟩) 1 1) ⟨w'.heap.size, ea, ec, rfl, hs9, heap_alloc_new w' _, O7.grow hb9⟩ ⟨HGR.out _ hb9, H9.out 8 _ (by decide) hb9⟩ ⟨fun _ => hb9, grown_of_below hb9⟩
            clear hK O7 hb9
            go_simp
            simpa [upd, e7] using hK'
          · have d1 : t 1 = _ := hdep ⟨1, .data⟩ (by simp) rfl
            obtain ⟨B, ea, ec, e8, hB, hbB, O8⟩ := hdep ⟨8, .data⟩ (by simp) rfl
            clear hdep
            have hP9 := (CS.pow HS3.out).below (HX9.out hLi)
            have hsz9 := (show w3'.grownBy w' cv.ownBlock from HXG.out).size
            refine wp_appP w' (.tmp 22) (.tmp 29) rfl E w3'.heap.size cv qs ⟨s, ea, ec, z⟩ d1 hP9 HLT.out B e8 hbB (.inl O8) (by omega) (by omega) (by omega) ?_
            intro v9 w9 hP9' hg9
            exact hK w9 v9 ⟨_, rfl, rfl, hP9'⟩ ⟨grown_trans HXG.out hg9, fun h => by simp [updK] at h⟩ ⟨fun h => absurd rfl h, hg9⟩
          · clear hdep
            go_simp
            exact hK w' (.pointer (some ⟨A, 1, none⟩)) rfl (REF.out 10 (by decide)) (RM.out 10)
        case hend =>
          intro o Ls t w' ho hx hg K hK
          simp at ho; subst ho
          obtain ⟨hxg, _⟩ := hx
          obtain ⟨q', hq1, hq2, hP9⟩ := hg 9 (by decide)
          have h10 : t 10 = _ := hg 10 (by decide)
          clear hg
          obtain ⟨na, nc, e9, _⟩ := hP9.mine
          obtain ⟨n9, hn9⟩ : ∃ n9, (qs ++ [q']).length = n9 := ⟨_, rfl⟩
          rw [hn9] at e9
          clear hn9
          rw [e9] at hP9
          have haf : w'.heap[A]? = some (.cells #[.slice da zs.length dc, cv, .int .i64 f, .bool d] 29 (0, 0)) := by
            rw [hxg.block A (by omega) (fun e => by have := HCB.out A e.symm; omega)]; exact CS.aft HS3.out
          obtain ⟨a0, a1, a2, a3⟩ := row4 haf
          have f1 := frozen_of_row w' A 1 _ _ haf
          have hA9 := row_setCell (i := 1) (.slice na n9 nc) haf rfl
          have hoth : ∀ j, j ≠ A → (w'.setCell ⟨A, 1, none⟩ (.slice na n9 nc)).heap[j]? = w'.heap[j]? := fun j hj => heap_setCell_other w' ⟨A, 1, none⟩ j (.slice na n9 nc) (by simpa using hj)
          have hsz : (w'.setCell ⟨A, 1, none⟩ (.slice na n9 nc)).heap.size = w'.heap.size := by simp [World.setCell]
          have hPn : POwn (w'.setCell ⟨A, 1, none⟩ (.slice na n9 nc)) E (.slice na n9 nc) (qs ++ [q']) := hP9.keep (fun j hj _ => hoth j (by omega))
          have st' : CS w (w'.setCell ⟨A, 1, none⟩ (.slice na n9 nc)) #[.slice a L cap, .slice (some ⟨b5, o5, none⟩) m cx, .int .i64 f, .bool d] A E (.slice da zs.length dc) (.slice na n9 nc) zs f d (qs ++ [q']) :=
            CS.turn HS3.out hxg.os hxg.tape hxg.output (by rw [hsz]; exact hxg.size) (fun j hj hjA => (hoth j hjA).trans (hxg.block j (by omega) (fun e => by have := HCB.out j e.symm; omega))) hA9 hPn
          have hqn : qps (qs ++ [q']) = ps.take (k + 1) := by rw [HNEW.out]; simp [qps, hq1, hq2]
          have HS' : Hid (CS w (w'.setCell ⟨A, 1, none⟩ (.slice na n9 nc)) #[.slice a L cap, .slice (some ⟨b5, o5, none⟩) m cx, .int .i64 f, .bool d] A E (.slice da zs.length dc) (.slice na n9 nc) zs f d (qs ++ [q'])) := st'
          have HQN : Hid (qps (qs ++ [q']) = ps.take (k + 1)) := hqn
          clear st' hqn hPn hsz hoth hA9 haf hP9 hxg a0 a2 a3
          go_simp
          apply hK
          clear e9 h10
          go_wp2
          go_roundw
          case rel => exact ⟨k + 1, .slice na n9 nc, qs ++ [q'], by omega, by go_num, HQN.out, HS'.out⟩
          case measure => simp [intOf]; omega
      · have hkm : k = m := by omega
        subst hkm
        have hall : qps qs = ps := by rw [hqs, ← HHM.out, List.take_length]
        have hlt' : ¬ (k : Int) < k := by omega
        obtain ⟨a0, a1, a2, a3⟩ := row4 st.aft
        obtain ⟨ca, cc, rfl, _⟩ := st.pow.mine
        have hM := st.typed
        have hE := st.hE
        have HM : Hid (DvOwn wr (w.heap.size + 2) (.agg #[.slice da zs.length dc, .slice ca qs.length cc, .int .i64 f, .bool d]) zs (qps qs) f d) := hM
        have HB1 : Hid (wr.heap[w.heap.size + 1]? = some (.cells #[.slice none 0 0, .slice none 0 0, .int .i64 0, .bool false] 29 (0, 0))) := st.b1
        have HBL : Hid (Below w.heap.size w wr) := st.below
        have HALL : Hid (qps qs = ps) := hall
        clear st hM hall hqs
        generalize qs.length = n9 at *
        go_wp2_with (refine wpList_store_row rfl 29 (.tmp 2) (.tmp 33) rfl (w.heap.size + 1) #[.slice da zs.length dc, .slice ca n9 cc, .int .i64 f, .bool d] rfl rfl 29 _ HB1.out HSD.out rfl (all4e _ _ _ _ _ _ _ _) ?_)
        (try simp only [Exit.inBlock, Exit.then])
        refine bodyPost_ret (v := .agg #[.slice da zs.length dc, .slice ca n9 cc, .int .i64 f, .bool d]) (results_cell_row rfl _ _ (w.heap.size + 1) 29 _ (0, 0) _ rfl (setRow_heap _ _ _ _ _ _ HB1.out) Try.underlying29 rfl HSD.out) rfl ⟨_, rfl, ?_, ?_⟩
        · have hM := HM.out
          rw [HALL.out] at hM
          exact (hM.keep (fun j _ _ hj _ _ => (Wr.setRow _ _ _).block j (by omega)) (by rw [size_setRow]; exact Nat.le_refl _)).mono (by omega)
        · exact HBL.out.trans ((Wr.setRow _ _ _).below (by omega))
end Go.Proofs.Ytiignammhieidaa
