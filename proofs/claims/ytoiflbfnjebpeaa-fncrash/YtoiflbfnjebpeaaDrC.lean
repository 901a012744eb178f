/-
  Own work: a drawn device (1): where the drawing stands; a new device of the model whose cache may be appended to.
-/
import Derived.Test.YtoiflbfnjebpeaaDraw
import Derived.Test.YtoiflbfnjebpeaaDvX
import Derived.Test.YtoiflbfnjebpeaaSSy
import Derived.Test.YtoiflbfnjebpeaaSWr
import Derived.Test.YtoiflbfnjebpeaaCatZ
namespace Go.Proofs.Ytoiflbfnjebpeaa
open Go.ChangeShapes Go.WideShapes Go.ChangeAt Go.RowKit
set_option linter.unusedVariables false

theorem all4x (a a' : Option Addr) (l l' c c' : Nat) (f : Int) (d : Bool) : (#[Value.slice a l c, .slice a' l' c', .int .i64 f, .bool d].all (fun v => v.oneCell')) = true := by simp [Value.oneCell']
theorem wrG_set {g : Nat} {w w' : World} (h : WrG g w w') (p : Addr) (v : Value) (hp : w.heap.size ≤ p.block) : WrG g w (w'.setCell p v) :=
  ⟨h.os, h.tape, h.output, by simp only [World.setCell, Array.size_modify]; exact h.size, fun k hk hg => (heap_setCell_other w' p k v (by omega)).trans (h.block k hk hg)⟩
/-- A device's block may turn. -/
theorem DX.keepD {B F : Nat} {w w' : World} {v : Value} {zs : List Int} {ps : List PD} {f : Int} {d : Bool} {cs : Array Value} (h : DX B w v zs ps f d) (hF : w.heap[F]? = some (.cells cs 25 (0, 0))) (hcs : ∀ (i : Nat) (k : Int), cs[i]? ≠ some (.int .u8 k))
    (hw : ∀ j, j ≠ F → w'.heap[j]? = w.heap[j]?) (hs : w.heap.size ≤ w'.heap.size) : DX B w' v zs ps f d := by
  obtain ⟨da, dc, ca, cc, E, e, h1, h2, h3, h4, h5, ⟨qs, hP, hq⟩, h7⟩ := h
  have hPk : POwn w' E (.slice ca ps.length cc) qs := ⟨ownsRow_keep hP.row (fun k e => hw k (fun ek => by
      obtain ⟨_, _, cur, h2⟩ := ownsRow_lt hP.row k e
      rw [ek, hF] at h2; simp at h2)), fun i q hi => (hP.each i q hi).keep (fun k e => hw k (fun ek => by
      obtain ⟨_, _, cur, t, h2, _, h3⟩ := (hP.each i q hi).lt k e
      rw [ek, hF] at h2; simp at h2; exact h3 h2.2.symm)), hP.ord⟩
  rcases Nat.eq_zero_or_pos zs.length with h0 | h0
  · have hz : zs = [] := List.eq_nil_of_length_eq_zero h0
    exact ⟨da, dc, ca, cc, E, e, .inl hz, .inl h0, h3, h4, by omega, ⟨qs, hPk, hq⟩, h7⟩
  · obtain ⟨b, o, ea, hb, hc⟩ := h1.get h0
    have hne : b ≠ F := fun eb => by
      have c0 := hc 0 h0
      rw [eb, cell_of_row w F (o + 0) cs _ (0, 0) hF] at c0
      exact hcs _ _ c0
    have hk : ∀ ad, da = some ad → w'.heap[ad.block]? = w.heap[ad.block]? := fun ad ead => by rw [ea] at ead; cases ead; exact hw b hne
    exact ⟨da, dc, ca, cc, E, e, h1.keep hk hs, h2.keep hk hs, h3, h4, by omega, ⟨qs, hPk, hq⟩, h7⟩
theorem dev_cs (a a' : Option Addr) (l l' c c' : Nat) (f : Int) (d : Bool) (i : Nat) (k : Int) : (#[Value.slice a l c, .slice a' l' c', .int .i64 f, .bool d])[i]? ≠ some (.int .u8 k) := by
  match i with
  | 0 => simp
  | 1 => simp
  | 2 => simp
  | 3 => simp
  | i + 4 => simp

def Bd (k : Nat) (zs : List Int) (ps : List PD) (f : Int) : Prop := 512 ≤ zs.length ∧ zs.length ≤ 704 ∧ ps.length ≤ k ∧ (∀ i, (ps.getD i (0, [])).2.length ≤ 64) ∧ -2 ≤ f ∧ f ≤ 1000001
theorem Bd.mono {k k' : Nat} {zs : List Int} {ps : List PD} {f : Int} (h : Bd k zs ps f) (hk : k ≤ k') : Bd k' zs ps f := ⟨h.1, h.2.1, by have := h.2.2.1; omega, h.2.2.2⟩
theorem getD_snoc (ps : List PD) (p : PD) (i : Nat) : (ps ++ [p]).getD i (0, []) = if i = ps.length then p else ps.getD i (0, []) := by
  by_cases h : i = ps.length
  · subst h; simp
  · rw [if_neg h]
    by_cases h' : i < ps.length
    · rw [List.getD_eq_getElem?_getD, List.getD_eq_getElem?_getD, List.getElem?_append_left h']
    · have h1 : ps.length + 1 ≤ i := by omega
      rw [List.getD_eq_getElem?_getD, List.getD_eq_getElem?_getD, List.getElem?_eq_none (by simpa using h1), List.getElem?_eq_none (by omega)]
theorem Bd.write {k : Nat} {zs : List Int} {ps : List PD} {f : Int} (h : Bd k zs ps f) (d : Bool) (s : Int) (z : List Int) (hz : z.length = 64) : Bd (k + 1) zs (wrP zs.length ps f d s z) (wrF zs.length ps f d s z.length) := by
  obtain ⟨h1, h2, h3, h4, h5, h6⟩ := h
  refine ⟨h1, h2, ?_, ?_, ?_, ?_⟩
  · unfold wrP; split
    · rw [List.length_append]; simp; omega
    · omega
  · intro i
    unfold wrP; split
    · rw [getD_snoc]; split
      · exact Nat.le_of_eq hz
      · exact h4 i
    · exact h4 i
  · unfold wrF stF; split <;> (try split) <;> omega
  · unfold wrF stF; split <;> (try split) <;> omega
theorem Bd.sync {k : Nat} {zs : List Int} {ps : List PD} {f : Int} (h : Bd k zs ps f) (d : Bool) : Bd k (syZ zs ps f d) (syP zs.length ps f d) (syF zs.length ps f d) := by
  obtain ⟨h1, h2, h3, h4, h5, h6⟩ := h
  have hl : (syZ zs ps f d).length = zs.length := by
    unfold syZ; split
    · next hs =>
      unfold syOn at hs
      simp only [Bool.and_eq_true] at hs
      exact syL_len (validB_of hs.1.1).2 (validB_of hs.1.1).1.1 _ (Nat.le_refl _)
    · rfl
  refine ⟨by omega, by omega, ?_, ?_, ?_, ?_⟩
  · unfold syP; split
    · simp
    · exact h3
  · intro i
    unfold syP; split
    · simp
    · exact h4 i
  · unfold syF stF; split <;> (try split) <;> omega
  · unfold syF stF; split <;> (try split) <;> omega

/-- Where the drawing of a device stands. -/
structure DS (w w' : World) (g : Nat) (x : Option Addr) (n cap R F : Nat) (va vc : Value) (zs : List Int) (ps : List PD) (f : Int) (d : Bool) : Prop where
  cur : CurB w' g x n cap
  txt : CurT w' g x n
  res : w'.heap[R]? = some (.cells #[.slice none 0 0, .slice none 0 0, .int .i64 0, .bool false] 25 (0, 0))
  fr : w'.heap[F]? = some (.cells #[va, vc, .int .i64 f, .bool d] 25 (0, 0))
  wr : WrG g w w'
  dx : DX w.heap.size w' (.agg #[va, vc, .int .i64 f, .bool d]) zs ps f d
  gl : g < w.heap.size
  rl : w.heap.size ≤ R
  fl : R ≠ F ∧ w.heap.size ≤ F
section
variable {w w' w'' : World} {g : Nat} {x : Option Addr} {n cap R F : Nat} {va vc : Value} {zs : List Int} {ps : List PD} {f : Int} {d : Bool}
theorem DS.flt (h : DS w w' g x n cap R F va vc zs ps f d) : F < w'.heap.size := (Array.getElem?_eq_some_iff.1 h.fr).1
theorem DS.far (h : DS w w' g x n cap R F va vc zs ps f d) (hg : WrG g w' w'') (hc : CurB w'' g x n cap) : DS w w'' g x n cap R F va vc zs ps f d := by
  have h1 := h.gl
  have h2 := h.rl
  have h3 := h.fl
  have h4 := h.flt
  have h5 := h.wr.size
  have h6 : R < w'.heap.size := (Array.getElem?_eq_some_iff.1 h.res).1
  exact ⟨hc, h.txt.wr (fun k hk => hg.block k (by omega) (by omega)), by rw [hg.block R (by omega) (by omega)]; exact h.res, by rw [hg.block F (by omega) (by omega)]; exact h.fr, h.wr.trans hg, h.dx.keep (fun j hj hj' => hg.block j hj' (by omega)) hg.size, h.gl, h.rl, h.fl⟩
theorem DS.below (h : DS w w' g x n cap R F va vc zs ps f d) (hb : Below w'.heap.size w' w'') : DS w w'' g x n cap R F va vc zs ps f d := by
  refine h.far (WrG.of_below hb) ?_
  obtain ⟨i0, h0, p1, p2, p3, p4, p5⟩ := h.cur
  exact ⟨i0, h0, p1, p2, p3, p4, by rw [hb.block g (by have := h.gl; have := h.wr.size; omega)]; exact p5⟩
theorem DS.shape (h : DS w w' g x n cap R F va vc zs ps f d) : ∃ da dc ca cc, va = .slice da zs.length dc ∧ vc = .slice ca ps.length cc := by
  obtain ⟨da, dc, ca, cc, E, e, _⟩ := h.dx
  simp at e
  exact ⟨da, dc, ca, cc, e.1, e.2⟩
/-- Another device is put in. -/
theorem DS.put (h : DS w w' g x n cap R F va vc zs ps f d) {va' vc' : Value} {zs' : List Int} {ps' : List PD} {f' : Int} {d' : Bool} (hx : DX w.heap.size w' (.agg #[va', vc', .int .i64 f', .bool d']) zs' ps' f' d') (hw : w''.heap[F]? = some (.cells #[va', vc', .int .i64 f', .bool d'] 25 (0, 0)))
    (ho : w''.os = w'.os) (ht : w''.tape = w'.tape) (hu : w''.output = w'.output) (hs : w''.heap.size = w'.heap.size) (hk : ∀ j, j ≠ F → w''.heap[j]? = w'.heap[j]?) : DS w w'' g x n cap R F va' vc' zs' ps' f' d' := by
  have h1 := h.gl
  have h2 := h.rl
  have h3 := h.fl
  obtain ⟨da, dc, ca, cc, e1, e2⟩ := h.shape
  subst e1 e2
  obtain ⟨i0, h0, p1, p2, p3, p4, p5⟩ := h.cur
  exact ⟨⟨i0, h0, p1, p2, p3, p4, by rw [hk g (by omega)]; exact p5⟩, h.txt.wr (fun k hk' => hk k (by omega)), by rw [hk R (by omega)]; exact h.res, hw, ⟨ho.trans h.wr.os, ht.trans h.wr.tape, hu.trans h.wr.output, by rw [hs]; exact h.wr.size, fun k hk' hg => (hk k (by omega)).trans (h.wr.block k hk' hg)⟩,
    hx.keepD h.fr (dev_cs _ _ _ _ _ _ _ _) hk (by rw [hs]; exact Nat.le_refl _), h.gl, h.rl, h.fl⟩
theorem DS.setRow (h : DS w w' g x n cap R F va vc zs ps f d) {va' vc' : Value} {zs' : List Int} {ps' : List PD} {f' : Int} {d' : Bool} (hx : DX w.heap.size w' (.agg #[va', vc', .int .i64 f', .bool d']) zs' ps' f' d') : DS w (w'.setRow F #[va', vc', .int .i64 f', .bool d']) g x n cap R F va' vc' zs' ps' f' d' :=
  h.put hx (setRow_heap _ _ _ _ _ _ h.fr) rfl rfl rfl (size_setRow _ _ _) (fun j hj => setRow_other _ _ _ _ hj)
theorem DS.fuel (h : DS w w' g x n cap R F va vc zs ps f d) (f' : Int) : DS w (w'.setCell ⟨F, 2, none⟩ (.int .i64 f')) g x n cap R F va vc zs ps f' d :=
  h.put (h.dx.refit f' d) (heap_setCell_same w' F 2 _ _ _ h.fr) rfl rfl rfl (by simp [World.setCell]) (fun j hj => heap_setCell_other w' ⟨F, 2, none⟩ j _ hj)
theorem DS.dead (h : DS w w' g x n cap R F va vc zs ps f d) (d' : Bool) : DS w (w'.setCell ⟨F, 3, none⟩ (.bool d')) g x n cap R F va vc zs ps f d' :=
  h.put (h.dx.refit f d') (heap_setCell_same w' F 3 _ _ _ h.fr) rfl rfl rfl (by simp [World.setCell]) (fun j hj => heap_setCell_other w' ⟨F, 3, none⟩ j _ hj)
theorem DS.cells (h : DS w w' g x n cap R F va vc zs ps f d) :
    (w'.cell? ⟨F, 0, none⟩ = some va ∧ w'.cell? ⟨F, 1, none⟩ = some vc ∧ w'.cell? ⟨F, 2, none⟩ = some (.int .i64 f) ∧ w'.cell? ⟨F, 3, none⟩ = some (.bool d)) ∧ (∀ i, w'.frozen? ⟨F, i, none⟩ = false) :=
  ⟨⟨cell_of_row _ _ _ _ _ _ h.fr, cell_of_row _ _ _ _ _ _ h.fr, cell_of_row _ _ _ _ _ _ h.fr, cell_of_row _ _ _ _ _ _ h.fr⟩, fun i => frozen_of_row _ _ _ _ _ h.fr⟩
end
/-- What a draw of a device answers. -/
def DevPost (k : Nat) (w : World) (g : Nat) (x : Option Addr) (n cap : Nat) (e : Ending) (w' : World) : Prop :=
  ∃ v zs ps f d, e = .returned v ∧ DX w.heap.size w' v zs ps f d ∧ Bd k zs ps f ∧ CurB w' g x n cap ∧ WrG g w w'
theorem ds_end {w w' : World} {g : Nat} {x : Option Addr} {n cap F k : Nat} {va vc : Value} {zs : List Int} {ps : List PD} {f : Int} {d : Bool} (h : DS w w' g x n cap w.heap.size F va vc zs ps f d) :
    DX w.heap.size (w'.setRow w.heap.size #[va, vc, .int .i64 f, .bool d]) (.agg #[va, vc, .int .i64 f, .bool d]) zs ps f d ∧ CurB (w'.setRow w.heap.size #[va, vc, .int .i64 f, .bool d]) g x n cap ∧ WrG g w (w'.setRow w.heap.size #[va, vc, .int .i64 f, .bool d]) := by
  have h1 := h.gl
  obtain ⟨i0, h0, p1, p2, p3, p4, p5⟩ := h.cur
  exact ⟨h.dx.keepD h.res (dev_cs _ _ _ _ _ _ _ _) (fun j hj => setRow_other _ _ _ _ hj) (by rw [size_setRow]; exact Nat.le_refl _), ⟨i0, h0, p1, p2, p3, p4, by rw [setRow_other _ _ _ _ (by omega)]; exact p5⟩,
    ⟨h.wr.os, h.wr.tape, h.wr.output, by rw [size_setRow]; exact h.wr.size, fun j hj hg => (setRow_other _ _ _ _ (by omega)).trans (h.wr.block j hj hg)⟩⟩

set_option maxHeartbeats 1000000 in
theorem sdnX_any (n : Int) (w : World) (h0 : 8 ≤ n) (h1 : n ≤ 11) :
    Calls Try.prog 8 #[.int .i64 n] w fun e w' => ∃ da dc, e = .returned (.agg #[.slice da (n * 64).toNat dc, .slice none 0 0, .int .i64 (-1), .bool false]) ∧ DX w.heap.size w' (.agg #[.slice da (n * 64).toNat dc, .slice none 0 0, .int .i64 (-1), .bool false]) (List.replicate (n * 64).toNat 0) [] (-1) false ∧ Below w.heap.size w w' := by
  have HSD : Hid _ := Try.sizeDv
  have t1 : ¬ n < 8 := by omega
  have t2 : ¬ 256 < n := by omega
  go_enter Try.func8, Try.ntmps8
  go_wp2_with fail
  refine (zeros_any (n * 64) _ (by omega) (by omega)).mono ?_
  rintro e w1 ⟨v, rfl, hown, hb1⟩
  have hres : w1.heap[w.heap.size]? = some (.cells #[.slice none 0 0, .slice none 0 0, .int .i64 0, .bool false] 25 (0, 0)) := by
    rw [hb1.block w.heap.size (by simp)]; exact heap_alloc_new w _
  obtain ⟨b, c, rfl, hbl, hg, hc, hA, hO⟩ := hown.at_
  have hbb : w.heap.size + 1 ≤ b := by simpa using hbl
  have hlen : (List.replicate (n * 64).toNat (0 : Int)).length = (n * 64).toNat := by simp
  have hdx : DX w.heap.size w1 (.agg #[.slice (some ⟨b, 0, none⟩) (List.replicate (n * 64).toNat (0 : Int)).length c, .slice none 0 0, .int .i64 (-1), .bool false]) (List.replicate (n * 64).toNat 0) [] (-1) false :=
    ⟨_, c, none, 0, w1.heap.size, rfl, hA, hO, fun ad e => by cases e; exact ⟨by simp only; omega, hg⟩, by omega, Nat.le_refl _, ⟨[], POwn.nil _ _, rfl⟩, hc⟩
  rw [hlen] at hdx ⊢
  have HDX : Hid (DX w.heap.size (w1.setRow w.heap.size #[.slice (some ⟨b, 0, none⟩) (n * 64).toNat c, .slice none 0 0, .int .i64 (-1), .bool false]) (.agg #[.slice (some ⟨b, 0, none⟩) (n * 64).toNat c, .slice none 0 0, .int .i64 (-1), .bool false]) (List.replicate (n * 64).toNat 0) [] (-1) false) :=
    hdx.keepD hres (dev_cs _ _ _ _ _ _ _ _) (fun j hj => setRow_other _ _ _ _ hj) (by rw [size_setRow]; exact Nat.le_refl _)
  have HB : Hid (Below w.heap.size w w1) := ((Below.refl _ _).alloc (Nat.le_refl _) _).trans (hb1.mono (by simp))
  have HR : Hid _ := hres
  clear hown hb1 hres hc hlen hdx hA hO
  generalize hL : (n * 64).toNat = L at *
  have HL := hL
  have HL : Hid ((n * 64).toNat = L) := HL
  clear hL
  go_wp2_with (refine wpList_store_row rfl 25 (.tmp 2) (.tmp 13) rfl w.heap.size #[.slice (some ⟨b, 0, none⟩) L c, .slice none 0 0, .int .i64 (-1), .bool false] rfl rfl 25 _ HR.out HSD.out rfl (all4x _ _ _ _ _ _ _ _) ?_)
  (try simp only [Exit.inBlock, Exit.then])
  refine bodyPost_ret (v := .agg #[.slice (some ⟨b, 0, none⟩) L c, .slice none 0 0, .int .i64 (-1), .bool false]) (results_cell_row rfl _ _ w.heap.size 25 _ (0, 0) _ rfl (setRow_heap _ _ _ _ _ _ HR.out) Try.underlying25 rfl HSD.out) rfl ⟨some ⟨b, 0, none⟩, c, by rw [HL.out], by rw [HL.out]; exact HDX.out, ?_⟩
  exact HB.out.trans ((Wr.setRow _ _ _).below (Nat.le_refl _))
end Go.Proofs.Ytoiflbfnjebpeaa
