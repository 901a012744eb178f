/-
  Own work: a drawn device (3): l1SpoilDev (written by wip/mkdrw.py).
-/
import Derived.Test.YtoiflbfnjebpeaaDrV
namespace Go.Proofs.Ytoiflbfnjebpeaa
open Go.ChangeShapes Go.WideShapes Go.ChangeAt Go.RowKit
set_option linter.unusedVariables false

/-- At most the cursor's block, block r, and new ones have turned. -/
structure WX (g : Nat) (r : Option Nat) (w w' : World) : Prop where
  os : w'.os = w.os
  tape : w'.tape = w.tape
  output : w'.output = w.output
  size : w.heap.size ≤ w'.heap.size
  block : ∀ k, k < w.heap.size → k ≠ g → some k ≠ r → w'.heap[k]? = w.heap[k]?
theorem WX.of_wrG {g : Nat} {r : Option Nat} {w w' : World} (h : WrG g w w') : WX g r w w' := ⟨h.os, h.tape, h.output, h.size, fun k hk hg _ => h.block k hk hg⟩
theorem WX.of_grown {g : Nat} {r : Option Nat} {w w' : World} (h : w.grownBy w' r) : WX g r w w' := ⟨h.os, h.tape, h.output, h.size, fun k hk _ hr => h.block k hk hr⟩
theorem WX.trans {g : Nat} {r : Option Nat} {a b c : World} (h : WX g r a b) (k : WX g r b c) : WX g r a c :=
  ⟨k.os.trans h.os, k.tape.trans h.tape, k.output.trans h.output, Nat.le_trans h.size k.size, fun i hi hg hr => (k.block i (Nat.lt_of_lt_of_le hi h.size) hg hr).trans (h.block i hi hg hr)⟩
theorem WX.refl (g : Nat) (r : Option Nat) (w : World) : WX g r w w := ⟨rfl, rfl, rfl, Nat.le_refl _, fun _ _ _ _ => rfl⟩
theorem WrG.drewS {g : Nat} {w w' : World} (h : WrG g w w') : WrG g w w'.drew := ⟨h.os, h.tape, h.output, h.size, h.block⟩
theorem CurB.keepS {w w' : World} {g : Nat} {x : Option Addr} {n cap : Nat} (h : CurB w g x n cap) (hk : w'.heap[g]? = w.heap[g]?) : CurB w' g x n cap := by
  obtain ⟨i0, h0, p1, p2, p3, p4, p5⟩ := h
  exact ⟨i0, h0, p1, p2, p3, p4, by rw [hk]; exact p5⟩
section
variable {g S E : Nat} {r : Option Nat} {w w' : World} {v : Value} {z : List Int} {qs : List Q1}
def PO (w : World) (S : Nat) (v : Value) (z : List Int) : Prop := OwnN w S v z
def PA (w : World) (S : Nat) (v : Value) (z : List Int) : Prop := ∃ (s : Int) (a : Option Addr) (c : Nat), v = .agg #[.int .i64 s, .slice a z.length c] ∧ OwnN w S (.slice a z.length c) z
def PR (w : World) (S : Nat) (v : Value) (z : List Int) : Prop := ∃ (s : Int) (K : Nat) (a : Option Addr) (c : Nat), v = .slice (some ⟨K, 0, none⟩) 1 1 ∧ S ≤ K ∧ w.heap[K]? = some (.cells #[.int .i64 s, .slice a z.length c] 63 (0, 0)) ∧ OwnN w S (.slice a z.length c) z
def PP (w : World) (E : Nat) (qs : List Q1) (v : Value) (z : List Int) : Prop := ∃ q : Q1, q.z = z ∧ POwn w E v (qs ++ [q])
theorem ownN_wx {u : Value} (h : OwnN w S u z) (hw : WX g r w w') (hg : g < S) (hr : ∀ k, r = some k → k < S) : OwnN w' S u z :=
  h.keep (fun k e => hw.block k (h.lt k e).2.1 (by have := (h.lt k e).1; omega) (fun er => by have := hr k er.symm; have := (h.lt k e).1; omega))
theorem PO.wx (h : PO w S v z) (hw : WX g r w w') (hg : g < S) (hr : ∀ k, r = some k → k < S) : PO w' S v z := ownN_wx h hw hg hr
theorem PA.wx (h : PA w S v z) (hw : WX g r w w') (hg : g < S) (hr : ∀ k, r = some k → k < S) : PA w' S v z := by
  obtain ⟨s, a, c, e, h⟩ := h
  exact ⟨s, a, c, e, ownN_wx h hw hg hr⟩
theorem PR.wx (h : PR w S v z) (hw : WX g r w w') (hg : g < S) (hr : ∀ k, r = some k → k < S) : PR w' S v z := by
  obtain ⟨s, K, a, c, e, hK, hh, h⟩ := h
  exact ⟨s, K, a, c, e, hK, by rw [hw.block K (Array.getElem?_eq_some_iff.1 hh).1 (by omega) (fun er => by have := hr K er.symm; omega)]; exact hh, ownN_wx h hw hg hr⟩
theorem PP.wr (h : PP w E qs v z) (hw : WrG g w w') (hg : g < E) : PP w' E qs v z := by
  obtain ⟨q, e, h⟩ := h
  exact ⟨q, e, h.keep (fun k hk hk' => hw.block k hk' (by omega))⟩
end
/-- What a region that appends to the cache knows. -/
structure SE (W : World) (g : Nat) (x : Option Addr) (n cap : Nat) (r : Option Nat) (ap : Nat) (L : Nat → Bool) (w' : World) : Prop where
  wx : WX g r W w'
  wg : L ap = false → WrG g W w'
  cur : CurB w' g x n cap
theorem SE.step {W : World} {g : Nat} {x : Option Addr} {n cap : Nat} {r : Option Nat} {ap : Nat} {L : Nat → Bool} {w' w'' : World} (h : SE W g x n cap r ap L w') (i : Nat) (hi : ap ≠ i) (hw : WrG g w' w'') (hc : CurB w'' g x n cap) : SE W g x n cap r ap (updK L i) w'' :=
  ⟨h.wx.trans (WX.of_wrG hw), fun hl => (h.wg (by unfold updK at hl; rw [if_neg hi] at hl; exact hl)).trans hw, hc⟩
theorem SE.same {W : World} {g : Nat} {x : Option Addr} {n cap : Nat} {r : Option Nat} {ap : Nat} {L : Nat → Bool} {w' : World} (h : SE W g x n cap r ap L w') (i : Nat) (hi : ap ≠ i) : SE W g x n cap r ap (updK L i) w' := h.step i hi (WrG.refl _ _) h.cur
theorem SE.app {W : World} {g : Nat} {x : Option Addr} {n cap : Nat} {r : Option Nat} {ap : Nat} {L : Nat → Bool} {w' w'' : World} (h : SE W g x n cap r ap L w') (hw : w'.grownBy w'' r) (hc : CurB w'' g x n cap) : SE W g x n cap r ap (updK L ap) w'' :=
  ⟨h.wx.trans (WX.of_grown hw), fun hl => (by unfold updK at hl; rw [if_pos rfl] at hl; cases hl), hc⟩

/-- The cache with one more entry is put in. -/
theorem ds_app {w W w' : World} {g : Nat} {x : Option Addr} {n cap R F L M : Nat} {da ca na : Option Addr} {dc cc nc E : Nat} {zs : List Int} {ps : List PD} {f : Int} {d : Bool} {qs : List Q1} {q : Q1}
    (h : DS w W g x n cap R F (.slice da L dc) (.slice ca M cc) zs ps f d) (hL : L = zs.length) (hM : M = ps.length) (hAt : At .u8 W da zs) (hOp : Open W da zs.length) (h3 : ∀ ad, da = some ad → w.heap.size ≤ ad.block ∧ ad.block < E) (h4 : w.heap.size ≤ E) (h5 : E ≤ W.heap.size)
    (hP : POwn W E (.slice ca M cc) qs) (hq : qps qs = ps) (h7 : zs.length ≤ dc) (hX : WX g (Value.slice ca M cc).ownBlock W w') (hc : CurB w' g x n cap) (hP' : POwn w' E (.slice na (M + 1) nc) (qs ++ [q])) :
    DS w (w'.setCell ⟨F, 1, none⟩ (.slice na (M + 1) nc)) g x n cap R F (.slice da L dc) (.slice na (M + 1) nc) zs (ps ++ [(q.s, q.z)]) f d ∧ (w'.heap[F]? = some (.cells #[.slice da L dc, .slice ca M cc, .int .i64 f, .bool d] 25 (0, 0))) := by
  have g1 := h.gl
  have g2 := h.rl
  have g3 := h.fl
  have g4 := h.flt
  have g5 := h.wr.size
  have hr : ∀ k, (Value.slice ca M cc).ownBlock = some k → E ≤ k ∧ k < W.heap.size ∧ ∃ cur, W.heap[k]? = some (.cells cur 63 (0, 0)) := ownsRow_lt hP.row
  have hne : ∀ k cs, W.heap[k]? = some (.cells cs 25 (0, 0)) → some k ≠ (Value.slice ca M cc).ownBlock := fun k cs hk e => by
    obtain ⟨_, _, cur, hh⟩ := hr k e.symm
    rw [hk] at hh; simp at hh
  have hRl : R < W.heap.size := (Array.getElem?_eq_some_iff.1 h.res).1
  have hF : w'.heap[F]? = some (.cells #[.slice da L dc, .slice ca M cc, .int .i64 f, .bool d] 25 (0, 0)) := by rw [hX.block F g4 (by omega) (hne _ _ h.fr)]; exact h.fr
  have hR : w'.heap[R]? = some (.cells #[.slice none 0 0, .slice none 0 0, .int .i64 0, .bool false] 25 (0, 0)) := by rw [hX.block R hRl (by omega) (hne _ _ h.res)]; exact h.res
  have hdk : ∀ ad, da = some ad → w'.heap[ad.block]? = W.heap[ad.block]? := fun ad e => hX.block ad.block (by have := h3 ad e; omega) (by have := h3 ad e; omega) (fun er => by have := (hr _ er.symm).1; have := h3 ad e; omega)
  have hdx : DX w.heap.size w' (.agg #[.slice da L dc, .slice na (M + 1) nc, .int .i64 f, .bool d]) zs (ps ++ [(q.s, q.z)]) f d := by
    refine ⟨da, dc, na, nc, E, by rw [hL, List.length_append, hM]; rfl, hAt.keep hdk hX.size, hOp.keep hdk hX.size, h3, h4, by have := hX.size; omega, ⟨qs ++ [q], by rw [List.length_append, ← hM]; exact hP', by rw [← hq]; simp [qps]⟩, h7⟩
  have hwr : WrG g w w' := ⟨hX.os.trans h.wr.os, hX.tape.trans h.wr.tape, hX.output.trans h.wr.output, Nat.le_trans h.wr.size hX.size, fun k hk hg => (hX.block k (by omega) hg (fun er => by have := (hr _ er.symm).1; omega)).trans (h.wr.block k hk hg)⟩
  have ht : CurT w' g x n := h.txt.wr (fun k hk => hX.block k (by omega) (by omega) (fun er => by have := (hr _ er.symm).1; omega))
  have hs : (w'.setCell ⟨F, 1, none⟩ (.slice na (M + 1) nc)).heap.size = w'.heap.size := by simp [World.setCell]
  have hk : ∀ j, j ≠ F → (w'.setCell ⟨F, 1, none⟩ (.slice na (M + 1) nc)).heap[j]? = w'.heap[j]? := fun j hj => heap_setCell_other w' ⟨F, 1, none⟩ j _ hj
  refine ⟨⟨hc.keepS (hk g (by omega)), ht.wr (fun k hk' => hk k (by omega)), by rw [hk R g3.1]; exact hR, heap_setCell_same w' F 1 _ _ _ hF, ⟨hwr.os, hwr.tape, hwr.output, by rw [hs]; exact hwr.size, fun k hk' hg => (hk k (by omega)).trans (hwr.block k hk' hg)⟩, hdx.keepD hF (dev_cs _ _ _ _ _ _ _ _) hk (by rw [hs]; exact Nat.le_refl _), g1, g2, g3⟩, hF⟩

def BdS (zs : List Int) (ps : List PD) (f : Int) : Prop := zs.length ≤ 704 ∧ ps.length ≤ 7 ∧ (∀ i, (ps.getD i (0, [])).2.length ≤ 64) ∧ -2 ≤ f ∧ f ≤ 1000001
theorem Bd.s {zs : List Int} {ps : List PD} {f : Int} (h : Bd 6 zs ps f) : BdS zs ps f := ⟨h.2.1, by have := h.2.2.1; omega, h.2.2.2⟩
/-- What l1SpoilDev answers; blocks of devices stand. -/
def SpPost (w0 w : World) (g : Nat) (x : Option Addr) (n cap : Nat) (e : Ending) (w' : World) : Prop :=
  ∃ v zs ps f d, e = .returned v ∧ DX w0.heap.size w' v zs ps f d ∧ BdS zs ps f ∧ CurB w' g x n cap ∧ WrG g w0 w' ∧ w.heap.size ≤ w'.heap.size ∧ ∀ k cs, w0.heap.size ≤ k → k < w.heap.size → w.heap[k]? = some (.cells cs 25 (0, 0)) → w'.heap[k]? = w.heap[k]?
theorem run_slice1 (w : World) (b o L c : Nat) (hL : 2 ≤ L) (hc : L ≤ c) : (Instr.sliceAt 22 (.slice (some ⟨b, o, none⟩) L c) (some (.int .i64 1)) none none).run Try.prog w = .ok (.slice (some ⟨b, o + 1, none⟩) (L - 1) (c - 1)) w := by
  have h4 : ¬ (c = 1) := by omega
  have h5 : (1 : Int) ≤ (L : Int) := by omega
  unfold Instr.sliceAt
  simp [run_underlying Try.underlying22, go_sem, Instr.sliceBounds, h4, h5, Addr.add]
  try omega
theorem run_sliceT (w : World) (b o L c : Nat) (y : Int) (h0 : 0 ≤ y) (hy : y ≤ (c : Int)) : (Instr.sliceAt 22 (.slice (some ⟨b, o, none⟩) L c) none (some (.int .i64 y)) none).run Try.prog w = .ok (.slice (some ⟨b, o, none⟩) y.toNat c) w := by
  unfold Instr.sliceAt
  simp [run_underlying Try.underlying22, go_sem, Instr.sliceBounds, h0, hy, Addr.add]
  try omega

theorem DX.sub {B b o L dc M cc : Nat} {w : World} {ca : Option Addr} {zs : List Int} {ps : List PD} {f : Int} {d : Bool} (h : DX B w (.agg #[.slice (some ⟨b, o, none⟩) L dc, .slice ca M cc, .int .i64 f, .bool d]) zs ps f d) (i m c' : Nat) (him : i + m ≤ L) (hm : m ≤ c') :
    DX B w (.agg #[.slice (some ⟨b, o + i, none⟩) m c', .slice ca M cc, .int .i64 f, .bool d]) ((zs.drop i).take m) ps f d := by
  obtain ⟨da, dc', ca', cc', E, e, h1, h2, h3, h4, h5, h6, h7⟩ := h
  simp at e
  obtain ⟨⟨rfl, rfl, rfl⟩, rfl, rfl, rfl⟩ := e
  have hl : ((zs.drop i).take m).length = m := by rw [List.length_take, List.length_drop]; omega
  refine ⟨some ⟨b, o + i, none⟩, c', ca, cc, E, by rw [hl], ?_, ?_, fun ad e => by cases e; exact h3 ⟨b, o, none⟩ rfl, h4, h5, h6, by rw [hl]; exact hm⟩
  · rcases Nat.eq_zero_or_pos m with h0 | h0
    · exact .inl (List.eq_nil_of_length_eq_zero (by rw [hl]; exact h0))
    · obtain ⟨b', o', e, hb, hc⟩ := h1.get (by omega)
      cases e
      refine .inr ⟨b, o + i, rfl, hb, fun j hj => ?_⟩
      rw [hl] at hj
      rw [Nat.add_assoc, hc (i + j) (by omega), List.getD_eq_getElem?_getD, List.getD_eq_getElem?_getD, List.getElem?_take_of_lt hj, List.getElem?_drop]
  · rw [hl]
    rcases Nat.eq_zero_or_pos m with h0 | h0
    · exact .inl h0
    · rcases h2 with h2 | ⟨g, o', e, hg, hc⟩
      · omega
      · cases e
        exact .inr ⟨b, o + i, rfl, hg, fun j hj => by rw [Nat.add_assoc]; exact hc (i + j) (by omega)⟩
theorem ds_endR {w w' : World} {g : Nat} {x : Option Addr} {n cap R F : Nat} {va vc : Value} {zs : List Int} {ps : List PD} {f : Int} {d : Bool} (h : DS w w' g x n cap R F va vc zs ps f d) :
    DX w.heap.size (w'.setRow R #[va, vc, .int .i64 f, .bool d]) (.agg #[va, vc, .int .i64 f, .bool d]) zs ps f d ∧ CurB (w'.setRow R #[va, vc, .int .i64 f, .bool d]) g x n cap ∧ WrG g w (w'.setRow R #[va, vc, .int .i64 f, .bool d]) := by
  have h1 := h.gl
  have h2 := h.rl
  exact ⟨h.dx.keepD h.res (dev_cs _ _ _ _ _ _ _ _) (fun j hj => setRow_other _ _ _ _ hj) (by rw [size_setRow]; exact Nat.le_refl _), h.cur.keepS (setRow_other _ _ _ _ (by omega)),
    ⟨h.wr.os, h.wr.tape, h.wr.output, by rw [size_setRow]; exact h.wr.size, fun j hj hg => (setRow_other _ _ _ _ (by omega)).trans (h.wr.block j hj hg)⟩⟩
def KP (w0 w w' : World) : Prop := w.heap.size ≤ w'.heap.size ∧ ∀ k cs, w0.heap.size ≤ k → k < w.heap.size → w.heap[k]? = some (.cells cs 25 (0, 0)) → w'.heap[k]? = w.heap[k]?
theorem KP.wrG {w0 w w' w'' : World} {g : Nat} (h : KP w0 w w') (hw : WrG g w' w'') (hg : g < w0.heap.size) : KP w0 w w'' :=
  ⟨Nat.le_trans h.1 hw.size, fun k cs h1 h2 h3 => (hw.block k (by have := h.1; omega) (by omega)).trans (h.2 k cs h1 h2 h3)⟩
theorem KP.turn {w0 w w' w'' : World} {F : Nat} (h : KP w0 w w') (hs : w''.heap.size = w'.heap.size) (hk : ∀ j, j ≠ F → w''.heap[j]? = w'.heap[j]?) (hF : w.heap.size ≤ F) : KP w0 w w'' :=
  ⟨by rw [hs]; exact h.1, fun k cs h1 h2 h3 => (hk k (by omega)).trans (h.2 k cs h1 h2 h3)⟩
theorem KP.wx {w0 w w' w'' : World} {g E : Nat} {ca : Option Addr} {M cc : Nat} {qs : List Q1} (h : KP w0 w w') (hP : POwn w' E (.slice ca M cc) qs) (hw : WX g (Value.slice ca M cc).ownBlock w' w'') (hg : g < w0.heap.size) : KP w0 w w'' :=
  ⟨Nat.le_trans h.1 hw.size, fun k cs h1 h2 h3 => (hw.block k (by have := h.1; omega) (by omega) (fun e => by
    obtain ⟨_, _, cur, hh⟩ := ownsRow_lt hP.row k e.symm
    rw [h.2 k cs h1 h2 h3, h3] at hh; simp at hh)).trans (h.2 k cs h1 h2 h3)⟩

set_option maxRecDepth 100000 in
set_option maxHeartbeats 8000000 in
theorem spoil_any (w0 : World) (g : Nat) (x : Option Addr) (n cap : Nat) (v : Value) (zs : List Int) (ps : List PD) (f : Int) (d : Bool) (w : World) (hc : CurB w g x n cap) (ht : CurT w g x n) (hg0 : g < w0.heap.size) (hw : WrG g w0 w) (hx : DX w0.heap.size w v zs ps f d) (bd : Bd 6 zs ps f) :
    Calls Try.prog 73 #[.pointer (some ⟨g, 0, none⟩), v] w (SpPost w0 w g x n cap) := by
  have HSD : Hid _ := Try.sizeDv
  obtain ⟨da, dc, ca, cc, E0, rfl, _⟩ := id hx
  obtain ⟨L, hL⟩ : ∃ L, L = zs.length := ⟨_, rfl⟩
  obtain ⟨M, hM⟩ : ∃ M, M = ps.length := ⟨_, rfl⟩
  rw [← hL, ← hM] at hx ⊢
  have HLM := hid_ofD (And.intro hL hM)
  have HBD := hid_ofD bd
  have hws := hw.size
  have hb0 : Below w.heap.size w ((w.alloc (.cells #[.slice da L dc, .slice ca M cc, .int .i64 f, .bool d] 25)).alloc (.cells #[.slice none 0 0, .slice none 0 0, .int .i64 0, .bool false] 25)) := ((Below.refl _ _).alloc (Nat.le_refl _) _).alloc (by simp) _
  have st0 : DS w0 ((w.alloc (.cells #[.slice da L dc, .slice ca M cc, .int .i64 f, .bool d] 25)).alloc (.cells #[.slice none 0 0, .slice none 0 0, .int .i64 0, .bool false] 25)) g x n cap (w.heap.size + 1) w.heap.size (.slice da L dc) (.slice ca M cc) zs ps f d := by
    refine ⟨hc.keepS (hb0.block g (by omega)), ht.wr (fun k hk => hb0.block k (by omega)), ?_, ?_, hw.trans (WrG.of_below hb0), hx.below hb0, hg0, by omega, by omega, by omega⟩
    · have := heap_alloc_new (w.alloc (.cells #[.slice da L dc, .slice ca M cc, .int .i64 f, .bool d] 25)) (.cells #[.slice none 0 0, .slice none 0 0, .int .i64 0, .bool false] 25)
      simpa using this
    · rw [Below.heap_alloc _ _ w.heap.size (by simp)]; exact heap_alloc_new w _
  have HS0 := hid_ofD st0
  have HKP0 : Hid (KP w0 w ((w.alloc (.cells #[.slice da L dc, .slice ca M cc, .int .i64 f, .bool d] 25)).alloc (.cells #[.slice none 0 0, .slice none 0 0, .int .i64 0, .bool false] 25))) := ⟨hb0.size, fun k cs _ h2 _ => hb0.block k h2⟩
  clear st0 hb0 hc ht hx hw hL hM bd
  have FIN : Hid (∀ (w' : World) (va vc : Value) (zs' : List Int) (ps' : List PD) (f' : Int) (d' : Bool), DS w0 w' g x n cap (w.heap.size + 1) w.heap.size va vc zs' ps' f' d' → BdS zs' ps' f' → KP w0 w w' →
      SpPost w0 w g x n cap (.returned (.agg #[va, vc, .int .i64 f', .bool d'])) (w'.setRow (w.heap.size + 1) #[va, vc, .int .i64 f', .bool d'])) := fun w' va vc zs' ps' f' d' h hb hk => by
    obtain ⟨e1, e2, e3⟩ := ds_endR h
    have hk2 := hk.turn (w'' := w'.setRow (w.heap.size + 1) #[va, vc, .int .i64 f', .bool d']) (size_setRow _ _ _) (fun j hj => setRow_other _ _ _ _ hj) (by omega)
    exact ⟨_, zs', ps', f', d', rfl, e1, hb, e2, e3, hk2.1, hk2.2⟩
  go_enter Try.func73, Try.ntmps73
  go_wp2_with fail
  generalize ((w.alloc (.cells #[.slice da L dc, .slice ca M cc, .int .i64 f, .bool d] 25)).alloc (.cells #[.slice none 0 0, .slice none 0 0, .int .i64 0, .bool false] 25)) = w1 at *
  refine (below_any g x n cap 6 _ HS0.out.cur HS0.out.txt (by decide) (by decide)).mono ?_
  rintro e W ⟨k, rfl, hk0, hk1, hc2, hw2⟩
  have HST := hid_ofD (HS0.out.far hw2.wrG hc2)
  have HKP := hid_ofD (HKP0.out.wrG hw2.wrG hg0)
  clear HS0 HKP0 hc2 hw2
  obtain ⟨F, hF⟩ : ∃ F, F = w.heap.size := ⟨_, rfl⟩
  have HFW : Hid (w.heap.size ≤ F) := by show _ ≤ _; omega
  have HFE := hid_ofD hF
  have HST' := HST.out
  have FIN' := FIN.out
  rw [← hF] at HST' FIN' ⊢
  clear HST FIN
  have HST := hid_ofD HST'
  have FIN := hid_ofD FIN'
  clear HST' FIN' hF
  obtain rfl | rfl | rfl | rfl | rfl | rfl : k = 0 ∨ k = 1 ∨ k = 2 ∨ k = 3 ∨ k = 4 ∨ k = 5 := by omega
  · obtain ⟨b, ob, rfl, hdcL⟩ : ∃ b ob, da = some ⟨b, ob, none⟩ ∧ L ≤ dc := by
      obtain ⟨da', dc', ca', cc', E, e, h1, h2, h3, h4, h5, h6, h7⟩ := HST.out.dx
      simp at e
      obtain ⟨⟨rfl, e1, rfl⟩, _⟩ := e
      have := HBD.out.1
      obtain ⟨b, o, e2, _⟩ := h1.get (by omega)
      exact ⟨b, o, e2, by omega⟩
    have hL5 : 512 ≤ L ∧ L ≤ 704 := by have := HBD.out.1; have := HBD.out.2.1; have := HLM.out.1; omega
    have hsl := fun w => run_slice1 w b ob L dc (by omega) hdcL
    have hdx := HST.out.dx.sub 1 (L - 1) (dc - 1) (by omega) (by omega)
    have HDS := hid_ofD (HST.out.put hdx (heap_setCell_same W F 0 _ _ (.slice (some ⟨b, ob + 1, none⟩) (L - 1) (dc - 1)) HST.out.fr) rfl rfl rfl (by simp [World.setCell]) (fun j hj => heap_setCell_other W ⟨F, 0, none⟩ j _ hj))
    have HKP2 : Hid (KP w0 w (W.setCell ⟨F, 0, none⟩ (.slice (some ⟨b, ob + 1, none⟩) (L - 1) (dc - 1)))) := HKP.out.turn (by simp [World.setCell]) (fun j hj => heap_setCell_other W ⟨F, 0, none⟩ j _ hj) HFW.out
    have HBS : Hid (BdS ((zs.drop 1).take (L - 1)) ps f) := ⟨by rw [List.length_take]; omega, by have := HBD.out.2.2.1; omega, HBD.out.2.2.2⟩
    obtain ⟨⟨y0, y1, y2, y3⟩, yf⟩ := HST.out.cells
    have yf0 := yf 0
    obtain ⟨⟨z0, z1, z2, z3⟩, zf⟩ := HDS.out.cells
    have HF := hid_ofD (FIN.out _ _ _ _ _ _ _ HDS.out HBS.out HKP2.out)
    clear hdx yf zf
    go_wp2_with (first
      | (refine wpList_store_row rfl 25 (.tmp 4) (.tmp 56) rfl (F + 1) #[.slice (some ⟨b, ob + 1, none⟩) (L - 1) (dc - 1), .slice ca M cc, .int .i64 f, .bool d] rfl rfl 25 _ HDS.out.res HSD.out rfl (all4x _ _ _ _ _ _ _ _) ?_)
      | fail)
    (try simp only [Exit.inBlock, Exit.then])
    exact bodyPost_ret (v := .agg #[.slice (some ⟨b, ob + 1, none⟩) (L - 1) (dc - 1), .slice ca M cc, .int .i64 f, .bool d]) (results_cell_row rfl _ _ (F + 1) 25 _ (0, 0) _ rfl (setRow_heap _ _ _ _ _ _ HDS.out.res) Try.underlying25 rfl HSD.out) rfl HF.out
  · have HDS := hid_ofD (HST.out.fuel (-2))
    have HKP2 : Hid (KP w0 w (W.setCell ⟨F, 2, none⟩ (.int .i64 (-2)))) := HKP.out.turn (by simp [World.setCell]) (fun j hj => heap_setCell_other W ⟨F, 2, none⟩ j _ hj) HFW.out
    have HBS : Hid (BdS zs ps (-2)) := ⟨HBD.out.2.1, by have := HBD.out.2.2.1; omega, HBD.out.2.2.2.1, by omega, by omega⟩
    obtain ⟨⟨y0, y1, y2, y3⟩, yf⟩ := HST.out.cells
    have yf2 := yf 2
    obtain ⟨⟨z0, z1, z2, z3⟩, zf⟩ := HDS.out.cells
    have HF := hid_ofD (FIN.out _ _ _ _ _ _ _ HDS.out HBS.out HKP2.out)
    clear yf zf
    go_wp2_with (first
      | (refine wpList_store_row rfl 25 (.tmp 4) (.tmp 56) rfl (F + 1) #[.slice da L dc, .slice ca M cc, .int .i64 (-2), .bool d] rfl rfl 25 _ HDS.out.res HSD.out rfl (all4x _ _ _ _ _ _ _ _) ?_)
      | fail)
    (try simp only [Exit.inBlock, Exit.then])
    exact bodyPost_ret (v := .agg #[.slice da L dc, .slice ca M cc, .int .i64 (-2), .bool d]) (results_cell_row rfl _ _ (F + 1) 25 _ (0, 0) _ rfl (setRow_heap _ _ _ _ _ _ HDS.out.res) Try.underlying25 rfl HSD.out) rfl HF.out
  · go_wp2_with fail
    refine (below_any g x n cap 2 _ HST.out.cur HST.out.txt (by decide) (by decide)).mono ?_
    rintro e W2 ⟨y, rfl, hy0, hy1, hc3, hw3⟩
    have HS2 := hid_ofD (HST.out.far hw3.wrG hc3)
    have HK2 := hid_ofD (HKP.out.wrG hw3.wrG hg0)
    clear HST HKP hc3 hw3
    have HDS := hid_ofD (HS2.out.fuel (1000000 + y))
    have HKP2 : Hid (KP w0 w (W2.setCell ⟨F, 2, none⟩ (.int .i64 (1000000 + y)))) := HK2.out.turn (by simp [World.setCell]) (fun j hj => heap_setCell_other W2 ⟨F, 2, none⟩ j _ hj) HFW.out
    have HBS : Hid (BdS zs ps (1000000 + y)) := ⟨HBD.out.2.1, by have := HBD.out.2.2.1; omega, HBD.out.2.2.2.1, by omega, by omega⟩
    obtain ⟨⟨y0, y1, y2, y3⟩, yf⟩ := HS2.out.cells
    have yf2 := yf 2
    obtain ⟨⟨z0, z1, z2, z3⟩, zf⟩ := HDS.out.cells
    have HF := hid_ofD (FIN.out _ _ _ _ _ _ _ HDS.out HBS.out HKP2.out)
    clear yf zf
    go_wp2_with (first
      | (refine wpList_store_row rfl 25 (.tmp 4) (.tmp 56) rfl (F + 1) #[.slice da L dc, .slice ca M cc, .int .i64 (1000000 + y), .bool d] rfl rfl 25 _ HDS.out.res HSD.out rfl (all4x _ _ _ _ _ _ _ _) ?_)
      | fail)
    (try simp only [Exit.inBlock, Exit.then])
    exact bodyPost_ret (v := .agg #[.slice da L dc, .slice ca M cc, .int .i64 (1000000 + y), .bool d]) (results_cell_row rfl _ _ (F + 1) 25 _ (0, 0) _ rfl (setRow_heap _ _ _ _ _ _ HDS.out.res) Try.underlying25 rfl HSD.out) rfl HF.out
  · obtain ⟨da', dc', ca', cc', E, e, h1, h2, h3, h4, h5, ⟨qs, hP, hq⟩, h7⟩ := HST.out.dx
    simp at e
    obtain ⟨⟨rfl, e1, rfl⟩, rfl, e2, rfl⟩ := e
    rw [← e2] at hP
    have HCU : Hid (CurB W.drew g x n cap) := HST.out.cur
    have HTX : Hid (CurT W g x n) := HST.out.txt
    have hws := HST.out.wr.size
    have HGS : Hid (g < W.heap.size) := by show _ < _; omega
    have HGE : Hid (g < E) := by show _ < _; omega
    have HRE : Hid (∀ k, (Value.slice ca M cc).ownBlock = some k → E ≤ k) := fun k e => (ownsRow_lt hP.row k e).1
    have HRS : Hid (∀ k, (Value.slice ca M cc).ownBlock = some k → k < W.heap.size) := fun k e => (ownsRow_lt hP.row k e).2.1
    have HGR : Hid (some g ≠ (Value.slice ca M cc).ownBlock) := fun e => by have := HRE.out g e.symm; have := HGE.out; omega
    have HFL : Hid (F < W.heap.size ∧ F ≠ g ∧ some F ≠ (Value.slice ca M cc).ownBlock) := ⟨HST.out.flt, by have := HST.out.fl.2; omega, fun e => by
      obtain ⟨_, _, cur, hh⟩ := ownsRow_lt hP.row F e.symm
      rw [HST.out.fr] at hh; simp at hh⟩
    have HPW := hid_ofD hP
    have HLT : Hid (∀ (i : Nat) (p : Q1) (k : Nat), qs[i]? = some p → p.v.ownBlock = some k → k < W.heap.size) := fun i p k hp e => ((hP.each i p hp).lt k e).2.1
    have HEW := hid_ofD h5
    have HQM : Hid (qs.length = M) := by have h1 : (qps qs).length = ps.length := by rw [hq]
                                         simp [qps] at h1; show _ = _; omega
    have HQL : Hid (qs.length ≤ 1048576) := by have := HQM.out; have := HBD.out.2.2.1; show _ ≤ _; omega
    have HQP := hid_ofD hq
    have HDK := hid_ofD (And.intro h1 (And.intro h2 (And.intro h3 (And.intro h4 h7))))
    have HL7 : Hid (L ≤ 1048576) := by have := HBD.out.2.1; show _ ≤ _; omega
    clear h1 h2 h3 h4 h5 h7 hP hq e1 e2 hws
    obtain ⟨zz, hzz⟩ : ∃ zz : List Int, zz = List.replicate 64 0 := ⟨_, rfl⟩
    have HZZ := hid_ofD hzz
    have HZL : Hid (zz.length ≤ 64) := by rw [hzz]; show _ ≤ _; simp
    clear hzz
    go_wp2_with fail
    refine wp_region_any (by kernel_rfl) ?_
    refine wpAny_slotsK 12 (fun i a b => (i ≠ 10 → WrG g a b) ∧ WX g (Value.slice ca M cc).ownBlock a b) (frame := (fun (c0 c1 c2 c3 c4 c5 c6 c7 c8 c9 c10 c11 c12 c13 c14 c15 c16 c17 c18 c19 c20 c21 c22 c23 c24 c37 c38 c39 c40 c41 c42 c43 c44 c45 c46 c47 c48 c49 c50 c51 c52 c53 c54 c55 c56 : Value) => fun (t : Nat → Value) => ({ tmps := List.toArray (c0 :: c1 :: c2 :: c3 :: c4 :: c5 :: c6 :: c7 :: c8 :: c9 :: c10 :: c11 :: c12 :: c13 :: c14 :: c15 :: c16 :: c17 :: c18 :: c19 :: c20 :: c21 :: c22 :: c23 :: c24 :: t 0 :: t 1 :: t 2 :: t 3 :: t 4 :: t 5 :: t 6 :: t 7 :: t 8 :: t 9 :: t 10 :: t 11 :: c37 :: c38 :: c39 :: c40 :: c41 :: c42 :: c43 :: c44 :: c45 :: c46 :: c47 :: c48 :: c49 :: c50 :: c51 :: c52 :: c53 :: c54 :: c55 :: c56 :: []), defers := [] } : Act)) _ _ _ _ _ _ _ _ _ _ _ _ _ _ _ _ _ _ _ _ _ _ _ _ _ _ _ _ _ _ _ _ _ _ _ _ _ _ _ _ _ _ _ _ _)
      (Ext := fun Ls w' => SE W g x n cap (Value.slice ca M cc).ownBlock 10 Ls w') (Good := fun i Ls w' v => if i = 0 then v = .pointer (some ⟨F, 1, none⟩) else if i = 1 then v = .slice ca M cc else if i = 2 then v = .agg #[.slice da L dc, .slice ca M cc, .int .i64 f, .bool d] else if i = 3 then v = .int .i64 ((L : Int) / 64) else if i = 4 then v = .pointer (some ⟨g, 0, none⟩) else if i = 5 then (∃ y : Int, v = .int .i64 y ∧ 0 ≤ y ∧ y ≤ 1) else if i = 6 then (∃ y : Int, v = .int .i64 y) else if i = 7 then PO w' W.heap.size v zz else if i = 8 then PA w' W.heap.size v zz else if i = 9 then PR w' W.heap.size v zz else if i = 10 then PP w' E qs v zz else if i = 11 then v = .pointer (some ⟨F, 1, none⟩) else True) (by rfl) (by kernel_rfl) ?hstab (by kernel_rfl) (by kernel_rfl) ?hop ?hend _ _ ((fun (x0 x1 x2 x3 x4 x5 x6 x7 x8 x9 x10 x11 : Value) => fun (i : Nat) => if i = 0 then x0 else if i = 1 then x1 else if i = 2 then x2 else if i = 3 then x3 else if i = 4 then x4 else if i = 5 then x5 else if i = 6 then x6 else if i = 7 then x7 else if i = 8 then x8 else if i = 9 then x9 else if i = 10 then x10 else if i = 11 then x11 else undef) _ _ _ _ _ _ _ _ _ _ _ _) _ (by simp) (by simp) ?ext ?start (by simp)
    case start => intro i hi h; exact absurd h (by rw [Array.getD_eq_getD_getElem?, Array.getElem?_replicate]; split <;> simp)
    case ext => exact ⟨WX.of_wrG (WrG.refl _ _).drewS, fun _ => (WrG.refl _ _).drewS, HCU.out⟩
    case hstab =>
      intro j Ls w9 w' i v hM hij hLi h
      by_cases h7 : j = 7
      · subst h7
        simp at h ⊢
        exact h.wx hM.2 HGS.out HRS.out
      by_cases h8 : j = 8
      · subst h8
        simp at h ⊢
        exact h.wx hM.2 HGS.out HRS.out
      by_cases h9 : j = 9
      · subst h9
        simp at h ⊢
        exact h.wx hM.2 HGS.out HRS.out
      by_cases h10 : j = 10
      · subst h10
        simp at h ⊢
        exact h.wr (hM.1 hij) HGE.out
      simp only [if_neg h7, if_neg h8, if_neg h9, if_neg h10] at h ⊢
      exact h
    case hop =>
      intro i o Ls t w' hil ho hLi hx hdep K hK
      obtain rfl | rfl | rfl | rfl | rfl | rfl | rfl | rfl | rfl | rfl | rfl | rfl : i = 0 ∨ i = 1 ∨ i = 2 ∨ i = 3 ∨ i = 4 ∨ i = 5 ∨ i = 6 ∨ i = 7 ∨ i = 8 ∨ i = 9 ∨ i = 10 ∨ i = 11 := by omega
      all_goals (simp at ho; subst ho)
      · clear hdep
        have hK' := hK w' (.pointer (some ⟨F, 1, none⟩)) (by simp) (hx.same 0 (by decide)) ⟨fun _ => WrG.refl _ _, WX.refl _ _ _⟩
        clear hK
        go_simp
        simpa [upd] using hK'
      · have d0 : t 0 = .pointer (some ⟨F, 1, none⟩) := by simpa using hdep ⟨0, .data⟩ (by simp) rfl
        clear hdep
        have haf : w'.heap[F]? = some (.cells #[.slice da L dc, .slice ca M cc, .int .i64 f, .bool d] 25 (0, 0)) := by rw [hx.wx.block F HFL.out.1 HFL.out.2.1 HFL.out.2.2]; exact HST.out.fr
        obtain ⟨y0, y1, y2, y3⟩ := row4 haf
        clear haf
        have hK' := hK w' (.slice ca M cc) (by simp) (hx.same 1 (by decide)) ⟨fun _ => WrG.refl _ _, WX.refl _ _ _⟩
        clear hK
        go_simp
        simpa [upd, d0] using hK'
      · clear hdep
        have haf : w'.heap[F]? = some (.cells #[.slice da L dc, .slice ca M cc, .int .i64 f, .bool d] 25 (0, 0)) := by rw [hx.wx.block F HFL.out.1 HFL.out.2.1 HFL.out.2.2]; exact HST.out.fr
        obtain ⟨y0, y1, y2, y3⟩ := row4 haf
        clear haf
        have hK' := hK w' (.agg #[.slice da L dc, .slice ca M cc, .int .i64 f, .bool d]) (by simp) (hx.same 2 (by decide)) ⟨fun _ => WrG.refl _ _, WX.refl _ _ _⟩
        clear hK
        go_simp
        simpa [upd] using hK'
      · have d2 : t 2 = .agg #[.slice da L dc, .slice ca M cc, .int .i64 f, .bool d] := by simpa using hdep ⟨2, .data⟩ (by simp) rfl
        clear hdep
        have A := lsec_any da L dc (.slice ca M cc) f d w' HL7.out ⟨_, _, _, rfl⟩
        have hK' : ∀ ww, WrG g w' ww → CurB ww g x n cap → K _ ww := fun ww hb hc => hK ww (.int .i64 ((L : Int) / 64)) (by simp) (hx.step 3 (by decide) hb hc) ⟨fun _ => hb, WX.of_wrG hb⟩
        clear hK
        go_simp
        try simp only [d2]
        refine A.mono ?_
        rintro e w9 ⟨rfl, hb9⟩
        have hK2 := hK' w9 (WrG.of_below hb9) (hx.cur.keepS (hb9.block g (by have := hx.wx.size; have := HGS.out; omega)))
        clear hK' A hb9
        go_simp
        simpa [upd, d2] using hK2
      · clear hdep
        have hK' := hK w' (.pointer (some ⟨g, 0, none⟩)) (by simp) (hx.same 4 (by decide)) ⟨fun _ => WrG.refl _ _, WX.refl _ _ _⟩
        clear hK
        go_simp
        simpa [upd] using hK'
      · have d4 : t 4 = .pointer (some ⟨g, 0, none⟩) := by simpa using hdep ⟨4, .data⟩ (by simp) rfl
        clear hdep
        have A := below_any g x n cap 2 w' hx.cur (HTX.out.wr (fun k hk => hx.wx.block k (by have := HGS.out; omega) (by omega) (fun e => by have := HRE.out k e.symm; have := HGE.out; omega))) (by decide) (by decide)
        have hK' : ∀ ww (y : Int), 0 ≤ y → y ≤ 1 → WrG g w' ww → CurB ww g x n cap → K _ ww := fun ww y h0 h1 hb hc => hK ww (.int .i64 y) (by simpa using ⟨h0, h1⟩) (hx.step 5 (by decide) hb hc) ⟨fun _ => hb, WX.of_wrG hb⟩
        clear hK
        go_simp
        try simp only [d4]
        refine A.mono ?_
        rintro e w9 ⟨y, rfl, hy0, hy1, hc9, hw9⟩
        have hK2 := hK' w9 y hy0 (by omega) hw9.wrG hc9
        clear hK' A hc9 hw9
        go_simp
        simpa [upd, d4] using hK2
      · have d3 : t 3 = .int .i64 ((L : Int) / 64) := by simpa using hdep ⟨3, .data⟩ (by simp) rfl
        have f5 : (∃ y : Int, (t 5) = .int .i64 y ∧ 0 ≤ y ∧ y ≤ 1) := by simpa using hdep ⟨5, .data⟩ (by simp) rfl
        clear hdep
        obtain ⟨y, d5, hy0, hy1⟩ := f5
        have hK' := hK w' (.int .i64 ((L : Int) / 64 - y)) (by simp) (hx.same 6 (by decide)) ⟨fun _ => WrG.refl _ _, WX.refl _ _ _⟩
        clear hK
        have hL7 := HL7.out
        have hwr : IntKind.i64.wrap ((L : Int) / 64 - y) = (L : Int) / 64 - y := by rw [IntKind.wrap_i64]; omega
        go_simp
        simpa [upd, d3, d5, hwr] using hK'
      · clear hdep
        have A := zeros_any 64 w' (by decide) (by decide)
        have hK' : ∀ ww v, PO ww W.heap.size v zz → WrG g w' ww → CurB ww g x n cap → K _ ww := fun ww v hv hb hc => hK ww v (by simpa using hv) (hx.step 7 (by decide) hb hc) ⟨fun _ => hb, WX.of_wrG hb⟩
        clear hK
        go_simp
        refine A.mono ?_
        rintro e w9 ⟨v9, rfl, o9, hb9⟩
        have hK2 := hK' w9 v9 (by rw [HZZ.out]; exact .inr (o9.mono hx.wx.size)) (WrG.of_below hb9) (hx.cur.keepS (hb9.block g (by have := hx.wx.size; have := HGS.out; omega)))
        clear hK' A o9 hb9
        go_simp
        simpa [upd] using hK2
      · have f6 : (∃ y : Int, (t 6) = .int .i64 y) := by simpa using hdep ⟨6, .data⟩ (by simp) rfl
        have f7 : PO w' W.heap.size (t 7) zz := by simpa using hdep ⟨7, .data⟩ (by simp) rfl
        clear hdep
        obtain ⟨y6, d6⟩ := f6
        obtain ⟨ea, ec, e6⟩ := OwnN.sl' f7
        rw [e6] at f7
        have hK' := hK w' (.agg #[.int .i64 y6, .slice ea zz.length ec]) (by simp; exact ⟨_, ea, ec, rfl, f7⟩) (hx.same 8 (by decide)) ⟨fun _ => WrG.refl _ _, WX.refl _ _ _⟩
        clear hK
        clear f7
        go_simp
        simpa [upd, e6, d6] using hK'
      · have f8 : PA w' W.heap.size (t 8) zz := by simpa using hdep ⟨8, .data⟩ (by simp) rfl
        clear hdep
        obtain ⟨s, ea, ec, e7, o7⟩ := f8
        have hb9 := (Below.refl w'.heap.size w').alloc (Nat.le_refl _) (.cells #[.int .i64 s, .slice ea zz.length ec] 63)
        have hw9 : WrG g w' (w'.alloc (.cells #[.int .i64 s, .slice ea zz.length ec] 63)) := WrG.of_below hb9
        have hK' := hK (w'.alloc (.cells #[.int .i64 s, .slice ea zz.length ec] 63)) (.slice (some ⟨w'.heap.size, 0, none⟩) 1 1) (by simp; exact ⟨s, w'.heap.size, ea, ec, rfl, hx.wx.size, heap_alloc_new w' (.cells #[.int .i64 s, .slice ea zz.length ec] 63), o7.grow hb9⟩) (hx.step 9 (by decide) hw9 (hx.cur.keepS (hb9.block g (by have := hx.wx.size; have := HGS.out; omega)))) ⟨fun _ => hw9, WX.of_wrG hw9⟩
        clear hK o7 hb9 hw9
        go_simp
        simpa [upd, e7] using hK'
      · have d1 : t 1 = .slice ca M cc := by simpa using hdep ⟨1, .data⟩ (by simp) rfl
        have f9 : PR w' W.heap.size (t 9) zz := by simpa using hdep ⟨9, .data⟩ (by simp) rfl
        clear hdep
        obtain ⟨s, KB, ea, ec, e8, hKB, hbB, o8⟩ := f9
        have hP9 := POwn.keep HPW.out (fun k hk hk' => (hx.wg hLi).block k hk' (by have := HGE.out; omega))
        refine wp_appP w' (.tmp 26) (.tmp 34) rfl E W.heap.size (.slice ca M cc) qs ⟨s, ea, ec, zz⟩ d1 hP9 HLT.out KB e8 hbB (.inl o8) HEW.out (by have := hx.wx.size; have := HEW.out; omega) HQL.out ?_
        intro v9 w9 hP9' hg9
        exact hK w9 v9 (by simp; exact ⟨_, rfl, hP9'⟩) (hx.app hg9 (hx.cur.keepS (hg9.block g (by have := hx.wx.size; have := HGS.out; omega) HGR.out))) ⟨fun h => absurd rfl h, WX.of_grown hg9⟩
      · clear hdep
        have hK' := hK w' (.pointer (some ⟨F, 1, none⟩)) (by simp) (hx.same 11 (by decide)) ⟨fun _ => WrG.refl _ _, WX.refl _ _ _⟩
        clear hK
        go_simp
        simpa [upd] using hK'
    case hend =>
      intro o Ls t w' ho hx hg K hK
      simp at ho; subst ho
      obtain ⟨q', hq1, hP9⟩ : PP w' E qs (t 10) zz := by simpa using hg 10 (by decide)
      have h11 : t 11 = .pointer (some ⟨F, 1, none⟩) := by simpa using hg 11 (by decide)
      clear hg
      obtain ⟨na, nc, e9, _⟩ := hP9.mine
      have hn9 : (qs ++ [q']).length = M + 1 := by rw [List.length_append, HQM.out]; rfl
      rw [hn9] at e9
      rw [e9] at hP9
      obtain ⟨hDS, haf⟩ := ds_app HST.out HLM.out.1 HLM.out.2 HDK.out.1 HDK.out.2.1 HDK.out.2.2.1 HDK.out.2.2.2.1 HEW.out HPW.out HQP.out HDK.out.2.2.2.2 hx.wx hx.cur hP9
      have HDS := hid_ofD hDS
      have HKP2 : Hid (KP w0 w (w'.setCell ⟨F, 1, none⟩ (.slice na (M + 1) nc))) := (HKP.out.wx HPW.out hx.wx hg0).turn (by simp [World.setCell]) (fun j hj => heap_setCell_other w' ⟨F, 1, none⟩ j _ hj) HFW.out
      have HBS : Hid (BdS zs (ps ++ [(q'.s, q'.z)]) f) := by
        refine ⟨HBD.out.2.1, by rw [List.length_append]; have := HBD.out.2.2.1; simp; omega, fun i => ?_, HBD.out.2.2.2.2⟩
        rw [getD_snoc]
        split
        · rw [hq1]; exact HZL.out
        · exact HBD.out.2.2.2.1 i
      obtain ⟨y0, y1, y2, y3⟩ := row4 haf
      have yf := frozen_of_row w' F 1 _ _ haf
      clear hDS hP9 hx hq1
      go_simp
      apply hK
      clear e9 h11 y0 y1 y2 y3 yf haf
      obtain ⟨⟨y0, y1, y2, y3⟩, yf⟩ := HDS.out.cells
      have HF := hid_ofD (FIN.out _ _ _ _ _ _ _ HDS.out HBS.out HKP2.out)
      go_wp2_with (first
        | (refine wpList_store_row rfl 25 (.tmp 4) (.tmp 56) rfl (F + 1) #[.slice da L dc, .slice na (M + 1) nc, .int .i64 f, .bool d] rfl rfl 25 _ HDS.out.res HSD.out rfl (all4x _ _ _ _ _ _ _ _) ?_)
        | fail)
      (try simp only [Exit.inBlock, Exit.then])
      exact bodyPost_ret (v := .agg #[.slice da L dc, .slice na (M + 1) nc, .int .i64 f, .bool d]) (results_cell_row rfl _ _ (F + 1) 25 _ (0, 0) _ rfl (setRow_heap _ _ _ _ _ _ HDS.out.res) Try.underlying25 rfl HSD.out) rfl HF.out
  · obtain ⟨da', dc', ca', cc', E, e, h1, h2, h3, h4, h5, ⟨qs, hP, hq⟩, h7⟩ := HST.out.dx
    simp at e
    obtain ⟨⟨rfl, e1, rfl⟩, rfl, e2, rfl⟩ := e
    rw [← e2] at hP
    have HCU : Hid (CurB W.drew g x n cap) := HST.out.cur
    have HTX : Hid (CurT W g x n) := HST.out.txt
    have hws := HST.out.wr.size
    have HGS : Hid (g < W.heap.size) := by show _ < _; omega
    have HGE : Hid (g < E) := by show _ < _; omega
    have HRE : Hid (∀ k, (Value.slice ca M cc).ownBlock = some k → E ≤ k) := fun k e => (ownsRow_lt hP.row k e).1
    have HRS : Hid (∀ k, (Value.slice ca M cc).ownBlock = some k → k < W.heap.size) := fun k e => (ownsRow_lt hP.row k e).2.1
    have HGR : Hid (some g ≠ (Value.slice ca M cc).ownBlock) := fun e => by have := HRE.out g e.symm; have := HGE.out; omega
    have HFL : Hid (F < W.heap.size ∧ F ≠ g ∧ some F ≠ (Value.slice ca M cc).ownBlock) := ⟨HST.out.flt, by have := HST.out.fl.2; omega, fun e => by
      obtain ⟨_, _, cur, hh⟩ := ownsRow_lt hP.row F e.symm
      rw [HST.out.fr] at hh; simp at hh⟩
    have HPW := hid_ofD hP
    have HLT : Hid (∀ (i : Nat) (p : Q1) (k : Nat), qs[i]? = some p → p.v.ownBlock = some k → k < W.heap.size) := fun i p k hp e => ((hP.each i p hp).lt k e).2.1
    have HEW := hid_ofD h5
    have HQM : Hid (qs.length = M) := by have h1 : (qps qs).length = ps.length := by rw [hq]
                                         simp [qps] at h1; show _ = _; omega
    have HQL : Hid (qs.length ≤ 1048576) := by have := HQM.out; have := HBD.out.2.2.1; show _ ≤ _; omega
    have HQP := hid_ofD hq
    have HDK := hid_ofD (And.intro h1 (And.intro h2 (And.intro h3 (And.intro h4 h7))))
    have HL7 : Hid (L ≤ 1048576) := by have := HBD.out.2.1; show _ ≤ _; omega
    clear h1 h2 h3 h4 h5 h7 hP hq e1 e2 hws
    obtain ⟨zz, hzz⟩ : ∃ zz : List Int, zz = List.replicate 63 0 := ⟨_, rfl⟩
    have HZZ := hid_ofD hzz
    have HZL : Hid (zz.length ≤ 64) := by rw [hzz]; show _ ≤ _; simp
    clear hzz
    go_wp2_with fail
    refine wp_region_any (by kernel_rfl) ?_
    refine wpAny_slotsK 7 (fun i a b => (i ≠ 5 → WrG g a b) ∧ WX g (Value.slice ca M cc).ownBlock a b) (frame := (fun (c0 c1 c2 c3 c4 c5 c6 c7 c8 c9 c10 c11 c12 c13 c14 c15 c16 c17 c18 c19 c20 c21 c22 c23 c24 c25 c26 c27 c28 c29 c30 c31 c32 c33 c34 c35 c36 c37 c38 c46 c47 c48 c49 c50 c51 c52 c53 c54 c55 c56 : Value) => fun (t : Nat → Value) => ({ tmps := List.toArray (c0 :: c1 :: c2 :: c3 :: c4 :: c5 :: c6 :: c7 :: c8 :: c9 :: c10 :: c11 :: c12 :: c13 :: c14 :: c15 :: c16 :: c17 :: c18 :: c19 :: c20 :: c21 :: c22 :: c23 :: c24 :: c25 :: c26 :: c27 :: c28 :: c29 :: c30 :: c31 :: c32 :: c33 :: c34 :: c35 :: c36 :: c37 :: c38 :: t 0 :: t 1 :: t 2 :: t 3 :: t 4 :: t 5 :: t 6 :: c46 :: c47 :: c48 :: c49 :: c50 :: c51 :: c52 :: c53 :: c54 :: c55 :: c56 :: []), defers := [] } : Act)) _ _ _ _ _ _ _ _ _ _ _ _ _ _ _ _ _ _ _ _ _ _ _ _ _ _ _ _ _ _ _ _ _ _ _ _ _ _ _ _ _ _ _ _ _ _ _ _ _ _)
      (Ext := fun Ls w' => SE W g x n cap (Value.slice ca M cc).ownBlock 5 Ls w') (Good := fun i Ls w' v => if i = 0 then v = .pointer (some ⟨F, 1, none⟩) else if i = 1 then v = .slice ca M cc else if i = 2 then PO w' W.heap.size v zz else if i = 3 then PA w' W.heap.size v zz else if i = 4 then PR w' W.heap.size v zz else if i = 5 then PP w' E qs v zz else if i = 6 then v = .pointer (some ⟨F, 1, none⟩) else True) (by rfl) (by kernel_rfl) ?hstab (by kernel_rfl) (by kernel_rfl) ?hop ?hend _ _ ((fun (x0 x1 x2 x3 x4 x5 x6 : Value) => fun (i : Nat) => if i = 0 then x0 else if i = 1 then x1 else if i = 2 then x2 else if i = 3 then x3 else if i = 4 then x4 else if i = 5 then x5 else if i = 6 then x6 else undef) _ _ _ _ _ _ _) _ (by simp) (by simp) ?ext ?start (by simp)
    case start => intro i hi h; exact absurd h (by rw [Array.getD_eq_getD_getElem?, Array.getElem?_replicate]; split <;> simp)
    case ext => exact ⟨WX.of_wrG (WrG.refl _ _).drewS, fun _ => (WrG.refl _ _).drewS, HCU.out⟩
    case hstab =>
      intro j Ls w9 w' i v hM hij hLi h
      by_cases h2 : j = 2
      · subst h2
        simp at h ⊢
        exact h.wx hM.2 HGS.out HRS.out
      by_cases h3 : j = 3
      · subst h3
        simp at h ⊢
        exact h.wx hM.2 HGS.out HRS.out
      by_cases h4 : j = 4
      · subst h4
        simp at h ⊢
        exact h.wx hM.2 HGS.out HRS.out
      by_cases h5 : j = 5
      · subst h5
        simp at h ⊢
        exact h.wr (hM.1 hij) HGE.out
      simp only [if_neg h2, if_neg h3, if_neg h4, if_neg h5] at h ⊢
      exact h
    case hop =>
      intro i o Ls t w' hil ho hLi hx hdep K hK
      obtain rfl | rfl | rfl | rfl | rfl | rfl | rfl : i = 0 ∨ i = 1 ∨ i = 2 ∨ i = 3 ∨ i = 4 ∨ i = 5 ∨ i = 6 := by omega
      all_goals (simp at ho; subst ho)
      · clear hdep
        have hK' := hK w' (.pointer (some ⟨F, 1, none⟩)) (by simp) (hx.same 0 (by decide)) ⟨fun _ => WrG.refl _ _, WX.refl _ _ _⟩
        clear hK
        go_simp
        simpa [upd] using hK'
      · have d0 : t 0 = .pointer (some ⟨F, 1, none⟩) := by simpa using hdep ⟨0, .data⟩ (by simp) rfl
        clear hdep
        have haf : w'.heap[F]? = some (.cells #[.slice da L dc, .slice ca M cc, .int .i64 f, .bool d] 25 (0, 0)) := by rw [hx.wx.block F HFL.out.1 HFL.out.2.1 HFL.out.2.2]; exact HST.out.fr
        obtain ⟨y0, y1, y2, y3⟩ := row4 haf
        clear haf
        have hK' := hK w' (.slice ca M cc) (by simp) (hx.same 1 (by decide)) ⟨fun _ => WrG.refl _ _, WX.refl _ _ _⟩
        clear hK
        go_simp
        simpa [upd, d0] using hK'
      · clear hdep
        have A := zeros_any 63 w' (by decide) (by decide)
        have hK' : ∀ ww v, PO ww W.heap.size v zz → WrG g w' ww → CurB ww g x n cap → K _ ww := fun ww v hv hb hc => hK ww v (by simpa using hv) (hx.step 2 (by decide) hb hc) ⟨fun _ => hb, WX.of_wrG hb⟩
        clear hK
        go_simp
        refine A.mono ?_
        rintro e w9 ⟨v9, rfl, o9, hb9⟩
        have hK2 := hK' w9 v9 (by rw [HZZ.out]; exact .inr (o9.mono hx.wx.size)) (WrG.of_below hb9) (hx.cur.keepS (hb9.block g (by have := hx.wx.size; have := HGS.out; omega)))
        clear hK' A o9 hb9
        go_simp
        simpa [upd] using hK2
      · have f2 : PO w' W.heap.size (t 2) zz := by simpa using hdep ⟨2, .data⟩ (by simp) rfl
        clear hdep
        obtain ⟨ea, ec, e6⟩ := OwnN.sl' f2
        rw [e6] at f2
        have hK' := hK w' (.agg #[.int .i64 1, .slice ea zz.length ec]) (by simp; exact ⟨_, ea, ec, rfl, f2⟩) (hx.same 3 (by decide)) ⟨fun _ => WrG.refl _ _, WX.refl _ _ _⟩
        clear hK
        clear f2
        go_simp
        simpa [upd, e6] using hK'
      · have f3 : PA w' W.heap.size (t 3) zz := by simpa using hdep ⟨3, .data⟩ (by simp) rfl
        clear hdep
        obtain ⟨s, ea, ec, e7, o7⟩ := f3
        have hb9 := (Below.refl w'.heap.size w').alloc (Nat.le_refl _) (.cells #[.int .i64 s, .slice ea zz.length ec] 63)
        have hw9 : WrG g w' (w'.alloc (.cells #[.int .i64 s, .slice ea zz.length ec] 63)) := WrG.of_below hb9
        have hK' := hK (w'.alloc (.cells #[.int .i64 s, .slice ea zz.length ec] 63)) (.slice (some ⟨w'.heap.size, 0, none⟩) 1 1) (by simp; exact ⟨s, w'.heap.size, ea, ec, rfl, hx.wx.size, heap_alloc_new w' (.cells #[.int .i64 s, .slice ea zz.length ec] 63), o7.grow hb9⟩) (hx.step 4 (by decide) hw9 (hx.cur.keepS (hb9.block g (by have := hx.wx.size; have := HGS.out; omega)))) ⟨fun _ => hw9, WX.of_wrG hw9⟩
        clear hK o7 hb9 hw9
        go_simp
        simpa [upd, e7] using hK'
      · have d1 : t 1 = .slice ca M cc := by simpa using hdep ⟨1, .data⟩ (by simp) rfl
        have f4 : PR w' W.heap.size (t 4) zz := by simpa using hdep ⟨4, .data⟩ (by simp) rfl
        clear hdep
        obtain ⟨s, KB, ea, ec, e8, hKB, hbB, o8⟩ := f4
        have hP9 := POwn.keep HPW.out (fun k hk hk' => (hx.wg hLi).block k hk' (by have := HGE.out; omega))
        refine wp_appP w' (.tmp 40) (.tmp 43) rfl E W.heap.size (.slice ca M cc) qs ⟨s, ea, ec, zz⟩ d1 hP9 HLT.out KB e8 hbB (.inl o8) HEW.out (by have := hx.wx.size; have := HEW.out; omega) HQL.out ?_
        intro v9 w9 hP9' hg9
        exact hK w9 v9 (by simp; exact ⟨_, rfl, hP9'⟩) (hx.app hg9 (hx.cur.keepS (hg9.block g (by have := hx.wx.size; have := HGS.out; omega) HGR.out))) ⟨fun h => absurd rfl h, WX.of_grown hg9⟩
      · clear hdep
        have hK' := hK w' (.pointer (some ⟨F, 1, none⟩)) (by simp) (hx.same 6 (by decide)) ⟨fun _ => WrG.refl _ _, WX.refl _ _ _⟩
        clear hK
        go_simp
        simpa [upd] using hK'
    case hend =>
      intro o Ls t w' ho hx hg K hK
      simp at ho; subst ho
      obtain ⟨q', hq1, hP9⟩ : PP w' E qs (t 5) zz := by simpa using hg 5 (by decide)
      have h11 : t 6 = .pointer (some ⟨F, 1, none⟩) := by simpa using hg 6 (by decide)
      clear hg
      obtain ⟨na, nc, e9, _⟩ := hP9.mine
      have hn9 : (qs ++ [q']).length = M + 1 := by rw [List.length_append, HQM.out]; rfl
      rw [hn9] at e9
      rw [e9] at hP9
      obtain ⟨hDS, haf⟩ := ds_app HST.out HLM.out.1 HLM.out.2 HDK.out.1 HDK.out.2.1 HDK.out.2.2.1 HDK.out.2.2.2.1 HEW.out HPW.out HQP.out HDK.out.2.2.2.2 hx.wx hx.cur hP9
      have HDS := hid_ofD hDS
      have HKP2 : Hid (KP w0 w (w'.setCell ⟨F, 1, none⟩ (.slice na (M + 1) nc))) := (HKP.out.wx HPW.out hx.wx hg0).turn (by simp [World.setCell]) (fun j hj => heap_setCell_other w' ⟨F, 1, none⟩ j _ hj) HFW.out
      have HBS : Hid (BdS zs (ps ++ [(q'.s, q'.z)]) f) := by
        refine ⟨HBD.out.2.1, by rw [List.length_append]; have := HBD.out.2.2.1; simp; omega, fun i => ?_, HBD.out.2.2.2.2⟩
        rw [getD_snoc]
        split
        · rw [hq1]; exact HZL.out
        · exact HBD.out.2.2.2.1 i
      obtain ⟨y0, y1, y2, y3⟩ := row4 haf
      have yf := frozen_of_row w' F 1 _ _ haf
      clear hDS hP9 hx hq1
      go_simp
      apply hK
      clear e9 h11 y0 y1 y2 y3 yf haf
      obtain ⟨⟨y0, y1, y2, y3⟩, yf⟩ := HDS.out.cells
      have HF := hid_ofD (FIN.out _ _ _ _ _ _ _ HDS.out HBS.out HKP2.out)
      go_wp2_with (first
        | (refine wpList_store_row rfl 25 (.tmp 4) (.tmp 56) rfl (F + 1) #[.slice da L dc, .slice na (M + 1) nc, .int .i64 f, .bool d] rfl rfl 25 _ HDS.out.res HSD.out rfl (all4x _ _ _ _ _ _ _ _) ?_)
        | fail)
      (try simp only [Exit.inBlock, Exit.then])
      exact bodyPost_ret (v := .agg #[.slice da L dc, .slice na (M + 1) nc, .int .i64 f, .bool d]) (results_cell_row rfl _ _ (F + 1) 25 _ (0, 0) _ rfl (setRow_heap _ _ _ _ _ _ HDS.out.res) Try.underlying25 rfl HSD.out) rfl HF.out
  · obtain ⟨b, ob, rfl, hdcL⟩ : ∃ b ob, da = some ⟨b, ob, none⟩ ∧ L ≤ dc := by
      obtain ⟨da', dc', ca', cc', E, e, h1, h2, h3, h4, h5, h6, h7⟩ := HST.out.dx
      simp at e
      obtain ⟨⟨rfl, e1, rfl⟩, _⟩ := e
      have := HBD.out.1
      obtain ⟨b, o, e2, _⟩ := h1.get (by omega)
      exact ⟨b, o, e2, by omega⟩
    have hL5 : 512 ≤ L ∧ L ≤ 704 := by have := HBD.out.1; have := HBD.out.2.1; have := HLM.out.1; omega
    have HDC : Hid (512 ≤ L ∧ L ≤ dc) := ⟨hL5.1, hdcL⟩
    have HCU : Hid (CurB W.drew g x n cap) := HST.out.cur
    have HTX : Hid (CurT W g x n) := HST.out.txt
    have hws := HST.out.wr.size
    have HGS : Hid (g < W.heap.size) := by show _ < _; omega
    have HFL : Hid (F < W.heap.size ∧ F ≠ g ∧ some F ≠ none) := ⟨HST.out.flt, by have := HST.out.fl.2; omega, by simp⟩
    clear hws
    go_wp2_with fail
    refine wp_region_any (by kernel_rfl) ?_
    refine wpAny_slotsK 8 (fun i a b => (i ≠ 99 → WrG g a b) ∧ WX g none a b) (frame := (fun (c0 c1 c2 c3 c4 c5 c6 c7 c8 c9 c10 c11 c12 c13 c14 c15 c16 c17 c18 c19 c20 c21 c22 c23 c24 c25 c26 c27 c28 c29 c30 c31 c32 c33 c34 c35 c36 c37 c38 c39 c40 c41 c42 c43 c44 c45 c46 c47 c56 : Value) => fun (t : Nat → Value) => ({ tmps := List.toArray (c0 :: c1 :: c2 :: c3 :: c4 :: c5 :: c6 :: c7 :: c8 :: c9 :: c10 :: c11 :: c12 :: c13 :: c14 :: c15 :: c16 :: c17 :: c18 :: c19 :: c20 :: c21 :: c22 :: c23 :: c24 :: c25 :: c26 :: c27 :: c28 :: c29 :: c30 :: c31 :: c32 :: c33 :: c34 :: c35 :: c36 :: c37 :: c38 :: c39 :: c40 :: c41 :: c42 :: c43 :: c44 :: c45 :: c46 :: c47 :: t 0 :: t 1 :: t 2 :: t 3 :: t 4 :: t 5 :: t 6 :: t 7 :: c56 :: []), defers := [] } : Act)) _ _ _ _ _ _ _ _ _ _ _ _ _ _ _ _ _ _ _ _ _ _ _ _ _ _ _ _ _ _ _ _ _ _ _ _ _ _ _ _ _ _ _ _ _ _ _ _ _)
      (Ext := fun Ls w' => SE W g x n cap none 99 Ls w') (Good := fun i Ls w' v => if i = 0 then v = .pointer (some ⟨F, 0, none⟩) else if i = 1 then v = .slice (some ⟨b, ob, none⟩) L dc else if i = 2 then v = .pointer (some ⟨g, 0, none⟩) else if i = 3 then (∃ y : Int, v = .int .i64 y ∧ 0 ≤ y ∧ y ≤ 1) else if i = 4 then (∃ y : Int, v = .int .i64 (8 - y) ∧ 0 ≤ y ∧ y ≤ 1) else if i = 5 then (∃ y : Int, v = .int .i64 (64 * (8 - y)) ∧ 0 ≤ y ∧ y ≤ 1) else if i = 6 then (∃ m : Nat, v = .slice (some ⟨b, ob, none⟩) m dc ∧ m ≤ 512) else if i = 7 then v = .pointer (some ⟨F, 0, none⟩) else True) (by rfl) (by kernel_rfl) ?hstab (by kernel_rfl) (by kernel_rfl) ?hop ?hend _ _ ((fun (x0 x1 x2 x3 x4 x5 x6 x7 : Value) => fun (i : Nat) => if i = 0 then x0 else if i = 1 then x1 else if i = 2 then x2 else if i = 3 then x3 else if i = 4 then x4 else if i = 5 then x5 else if i = 6 then x6 else if i = 7 then x7 else undef) _ _ _ _ _ _ _ _) _ (by simp) (by simp) ?ext ?start (by simp)
    case start => intro i hi h; exact absurd h (by rw [Array.getD_eq_getD_getElem?, Array.getElem?_replicate]; split <;> simp)
    case ext => exact ⟨WX.of_wrG (WrG.refl _ _).drewS, fun _ => (WrG.refl _ _).drewS, HCU.out⟩
    case hstab =>
      intro j Ls w9 w' i v hM hij hLi h
      exact h
    case hop =>
      intro i o Ls t w' hil ho hLi hx hdep K hK
      obtain rfl | rfl | rfl | rfl | rfl | rfl | rfl | rfl : i = 0 ∨ i = 1 ∨ i = 2 ∨ i = 3 ∨ i = 4 ∨ i = 5 ∨ i = 6 ∨ i = 7 := by omega
      all_goals (simp at ho; subst ho)
      · clear hdep
        have hK' := hK w' (.pointer (some ⟨F, 0, none⟩)) (by simp) (hx.same 0 (by decide)) ⟨fun _ => WrG.refl _ _, WX.refl _ _ _⟩
        clear hK
        go_simp
        simpa [upd] using hK'
      · have d0 : t 0 = .pointer (some ⟨F, 0, none⟩) := by simpa using hdep ⟨0, .data⟩ (by simp) rfl
        clear hdep
        have haf : w'.heap[F]? = some (.cells #[.slice (some ⟨b, ob, none⟩) L dc, .slice ca M cc, .int .i64 f, .bool d] 25 (0, 0)) := by rw [hx.wx.block F HFL.out.1 HFL.out.2.1 HFL.out.2.2]; exact HST.out.fr
        obtain ⟨y0, y1, y2, y3⟩ := row4 haf
        clear haf
        have hK' := hK w' (.slice (some ⟨b, ob, none⟩) L dc) (by simp) (hx.same 1 (by decide)) ⟨fun _ => WrG.refl _ _, WX.refl _ _ _⟩
        clear hK
        go_simp
        simpa [upd, d0] using hK'
      · clear hdep
        have hK' := hK w' (.pointer (some ⟨g, 0, none⟩)) (by simp) (hx.same 2 (by decide)) ⟨fun _ => WrG.refl _ _, WX.refl _ _ _⟩
        clear hK
        go_simp
        simpa [upd] using hK'
      · have d2 : t 2 = .pointer (some ⟨g, 0, none⟩) := by simpa using hdep ⟨2, .data⟩ (by simp) rfl
        clear hdep
        have A := below_any g x n cap 2 w' hx.cur (HTX.out.wr (fun k hk => hx.wx.block k (by have := HGS.out; omega) (by omega) (by simp))) (by decide) (by decide)
        have hK' : ∀ ww (y : Int), 0 ≤ y → y ≤ 1 → WrG g w' ww → CurB ww g x n cap → K _ ww := fun ww y h0 h1 hb hc => hK ww (.int .i64 y) (by simpa using ⟨h0, h1⟩) (hx.step 3 (by decide) hb hc) ⟨fun _ => hb, WX.of_wrG hb⟩
        clear hK
        go_simp
        try simp only [d2]
        refine A.mono ?_
        rintro e w9 ⟨y, rfl, hy0, hy1, hc9, hw9⟩
        have hK2 := hK' w9 y hy0 (by omega) hw9.wrG hc9
        clear hK' A hc9 hw9
        go_simp
        simpa [upd, d2] using hK2
      · have f3 : (∃ y : Int, (t 3) = .int .i64 y ∧ 0 ≤ y ∧ y ≤ 1) := by simpa using hdep ⟨3, .data⟩ (by simp) rfl
        clear hdep
        obtain ⟨y, d3, hy0, hy1⟩ := f3
        have hK' := hK w' (.int .i64 (8 - y)) (by simp; omega) (hx.same 4 (by decide)) ⟨fun _ => WrG.refl _ _, WX.refl _ _ _⟩
        clear hK
        have hwr : IntKind.i64.wrap (8 - y) = 8 - y := by rw [IntKind.wrap_i64]; omega
        go_simp
        simpa [upd, d3, hwr] using hK'
      · have f4 : (∃ y : Int, (t 4) = .int .i64 (8 - y) ∧ 0 ≤ y ∧ y ≤ 1) := by simpa using hdep ⟨4, .data⟩ (by simp) rfl
        clear hdep
        obtain ⟨y, d4, hy0, hy1⟩ := f4
        have hK' := hK w' (.int .i64 (64 * (8 - y))) (by simp; exact ⟨y, rfl, hy0, hy1⟩) (hx.same 5 (by decide)) ⟨fun _ => WrG.refl _ _, WX.refl _ _ _⟩
        clear hK
        have hwr : IntKind.i64.wrap (64 * (8 - y)) = 64 * (8 - y) := by rw [IntKind.wrap_i64]; omega
        go_simp
        simpa [upd, d4, hwr] using hK'
      · have d1 : t 1 = .slice (some ⟨b, ob, none⟩) L dc := by simpa using hdep ⟨1, .data⟩ (by simp) rfl
        have f5 : (∃ y : Int, (t 5) = .int .i64 (64 * (8 - y)) ∧ 0 ≤ y ∧ y ≤ 1) := by simpa using hdep ⟨5, .data⟩ (by simp) rfl
        clear hdep
        obtain ⟨y, d5, hy0, hy1⟩ := f5
        have hsl := run_sliceT w' b ob L dc (64 * (8 - y)) (by omega) (by have := HDC.out; omega)
        have hK' := hK w' (.slice (some ⟨b, ob, none⟩) (64 * (8 - y)).toNat dc) (by simp; omega) (hx.same 6 (by decide)) ⟨fun _ => WrG.refl _ _, WX.refl _ _ _⟩
        clear hK
        go_simp
        simpa [upd, d1, d5, hsl] using hK'
      · clear hdep
        have hK' := hK w' (.pointer (some ⟨F, 0, none⟩)) (by simp) (hx.same 7 (by decide)) ⟨fun _ => WrG.refl _ _, WX.refl _ _ _⟩
        clear hK
        go_simp
        simpa [upd] using hK'
    case hend =>
      intro o Ls t w' ho hx hg K hK
      simp at ho; subst ho
      obtain ⟨m, e6, hm⟩ : ∃ m : Nat, t 6 = .slice (some ⟨b, ob, none⟩) m dc ∧ m ≤ 512 := by simpa using hg 6 (by decide)
      have h7 : t 7 = .pointer (some ⟨F, 0, none⟩) := by simpa using hg 7 (by decide)
      clear hg
      have hG : WrG g W w' := ⟨hx.wx.os, hx.wx.tape, hx.wx.output, hx.wx.size, fun k hk hg => hx.wx.block k hk hg (by simp)⟩
      have S1 := HST.out.far hG hx.cur
      have hdx := S1.dx.sub 0 m dc (by have := HDC.out; omega) (by have := HDC.out; omega)
      rw [Nat.add_zero] at hdx
      have hDS := S1.put hdx (heap_setCell_same w' F 0 _ _ (.slice (some ⟨b, ob, none⟩) m dc) S1.fr) rfl rfl rfl (by simp [World.setCell]) (fun j hj => heap_setCell_other w' ⟨F, 0, none⟩ j _ hj)
      have HDS := hid_ofD hDS
      have HKP2 : Hid (KP w0 w (w'.setCell ⟨F, 0, none⟩ (.slice (some ⟨b, ob, none⟩) m dc))) := (HKP.out.wrG hG hg0).turn (by simp [World.setCell]) (fun j hj => heap_setCell_other w' ⟨F, 0, none⟩ j _ hj) HFW.out
      have HBS : Hid (BdS ((zs.drop 0).take m) ps f) := ⟨by rw [List.length_take]; omega, by have := HBD.out.2.2.1; omega, HBD.out.2.2.2⟩
      obtain ⟨⟨y0, y1, y2, y3⟩, yf⟩ := S1.cells
      have yf0 := yf 0
      clear hDS hdx S1 hG hx yf
      go_simp
      apply hK
      clear e6 h7 y0 y1 y2 y3 yf0
      obtain ⟨⟨y0, y1, y2, y3⟩, yf⟩ := HDS.out.cells
      have HF := hid_ofD (FIN.out _ _ _ _ _ _ _ HDS.out HBS.out HKP2.out)
      go_wp2_with (first
        | (refine wpList_store_row rfl 25 (.tmp 4) (.tmp 56) rfl (F + 1) #[.slice (some ⟨b, ob, none⟩) m dc, .slice ca M cc, .int .i64 f, .bool d] rfl rfl 25 _ HDS.out.res HSD.out rfl (all4x _ _ _ _ _ _ _ _) ?_)
        | fail)
      (try simp only [Exit.inBlock, Exit.then])
      exact bodyPost_ret (v := .agg #[.slice (some ⟨b, ob, none⟩) m dc, .slice ca M cc, .int .i64 f, .bool d]) (results_cell_row rfl _ _ (F + 1) 25 _ (0, 0) _ rfl (setRow_heap _ _ _ _ _ _ HDS.out.res) Try.underlying25 rfl HSD.out) rfl HF.out
end Go.Proofs.Ytoiflbfnjebpeaa
