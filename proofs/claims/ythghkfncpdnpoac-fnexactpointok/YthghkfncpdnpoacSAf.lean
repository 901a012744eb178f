/-
  Own work: the model's points in memory.
-/
import Derived.Test.YthghkfncpdnpoacSFb
namespace Go.Proofs.Ythghkfncpdnpoac
open Go.ChangeShapes Go.WideShapes Go.ChangeAt Go.RowKit
set_option linter.unusedVariables false

/-- A block that holds a point of the model: four slices. -/
def PtW (w : World) (g : Nat) (cs : Array Value) : Prop := w.heap[g]? = some (.cells cs 76 (0, 0))
theorem PtW.below {w w' : World} {g B : Nat} {cs : Array Value} (h : PtW w g cs) (b : Below B w w') (hg : g < B) : PtW w' g cs := by unfold PtW; rw [b.block g hg]; exact h
theorem PtW.lt {w : World} {g : Nat} {cs : Array Value} (h : PtW w g cs) : g < w.heap.size := (Array.getElem?_eq_some_iff.1 h).1
theorem PtW.new (w : World) : PtW (w.alloc (.cells #[.slice none 0 0, .slice none 0 0, .slice none 0 0, .slice none 0 0] 76)) w.heap.size #[.slice none 0 0, .slice none 0 0, .slice none 0 0, .slice none 0 0] := heap_alloc_new w _
theorem Try.sizePt : (Try.prog.info? 76).map (·.size) = some 4 := by kernel_rfl
theorem wpList_storePt {w : World} {ops : Array Oper} {rest : List Oper} {o : Oper} {a : Act} {Q : Exit → Act → World → Prop} (hgd : o.guard = none) (x y : Operand) (ho : o.op = .store 76 x y)
    (G : Nat) (s1 s2 s3 s4 : Value) (old : Array Value) (h1 : s1.oneCell' = true) (h2 : s2.oneCell' = true) (h3 : s3.oneCell' = true) (h4 : s4.oneCell' = true) (hx : a.eval x = .pointer (some ⟨G, 0, none⟩)) (hy : a.eval y = .agg #[s1, s2, s3, s4]) (hl : old.size = 4) (hr : PtW w G old)
    (hK : ∀ w', PtW w' G #[s1, s2, s3, s4] → Wr G w w' → wpList Try.prog ops Q rest (a.put o.dst undef) w') :
    wpList Try.prog ops Q (o :: rest) a w :=
  wpList_store_row hgd 76 x y ho G #[s1, s2, s3, s4] hx hy 76 _ hr Try.sizePt (by simp [hl]) (by simp [h1, h2, h3, h4]) (hK _ (setRow_heap _ _ _ _ _ _ hr) (Wr.setRow _ _ _))

/-- What l4Affine answers. -/
def AfP (w : World) (a a' : Option Addr) (cap cap' : Nat) (x y : Int) (e : Ending) (w' : World) : Prop :=
  ∃ gz cz gt ct, e = .returned (.agg #[.slice a 16 cap, .slice a' 16 cap', .slice (some ⟨gz, 0, none⟩) 16 cz, .slice (some ⟨gt, 0, none⟩) 16 ct]) ∧ FeA w' (some ⟨gz, 0, none⟩) (1 % fp) ∧ FeA w' (some ⟨gt, 0, none⟩) (x * y % fp) ∧ Below w.heap.size w w' ∧ w.heap.size ≤ gz ∧ w.heap.size ≤ gt
theorem FeA.wr {w w' : World} {g V : Nat} {x : Int} (h : FeA w (some ⟨g, 0, none⟩) x) (hw : Wr V w w') (hne : g ≠ V) : FeA w' (some ⟨g, 0, none⟩) x := by
  obtain ⟨zs, h1, h2, h3⟩ := h
  refine ⟨zs, ?_, h2, h3⟩
  obtain ⟨b, o, e, hb, hc⟩ := h1.get (by have := h2.1; omega)
  cases e
  exact .inr ⟨g, 0, rfl, by rw [hw.size]; exact hb, fun i hi => by rw [World.cell?_of_block (a := ⟨g, 0 + i, none⟩) (w := w) (hw.block g hne)]; exact hc i hi⟩

set_option maxHeartbeats 2000000 in
theorem affine_any (a a' : Option Addr) (cap cap' : Nat) (x y : Int) (w : World) (ha : FeA w a x) (ha' : FeA w a' y) :
    Calls Try.prog 92 #[.slice a 16 cap, .slice a' 16 cap'] w (AfP w a a' cap cap' x y) := by
  have b0 : Below w.heap.size w (w.alloc (.cells #[.slice none 0 0, .slice none 0 0, .slice none 0 0, .slice none 0 0] 76)) := below_new3 _ _
  have HP0 : Hid (PtW (w.alloc (.cells #[.slice none 0 0, .slice none 0 0, .slice none 0 0, .slice none 0 0] 76)) w.heap.size #[.slice none 0 0, .slice none 0 0, .slice none 0 0, .slice none 0 0]) := PtW.new w
  have HS0 : Hid (SR w (w.alloc (.cells #[.slice none 0 0, .slice none 0 0, .slice none 0 0, .slice none 0 0] 76)) [(a, x), (a', y)]) := ⟨b0, fun e he => by
    simp only [List.mem_cons, List.not_mem_nil, or_false] at he
    rcases he with rfl | rfl
    · exact ha.below b0
    · exact ha'.below b0⟩
  clear ha ha' b0
  go_enter Try.func92, Try.ntmps92
  go_wp2_with fail
  refine (small_any 1 _ (by decide) (by decide)).mono ?_
  rintro e w1 ⟨g1, c1, rfl, k1, l1, hf, hb⟩
  have HP1 : Hid (PtW w1 w.heap.size #[.slice none 0 0, .slice none 0 0, .slice none 0 0, .slice none 0 0]) := HP0.out.below hb HP0.out.lt
  have HS1 : Hid (SR w w1 [(some ⟨g1, 0, none⟩, 1 % fp), (a, x), (a', y)]) := HS0.out.add hf hb
  have hg1 : w.heap.size < g1 := by have := HP0.out.lt; omega
  clear hf hb HS0 HP0
  go_wp2_with fail
  refine (fmul_any _ _ cap cap' x y _ (HS1.out.at 1 _ _ rfl) (HS1.out.at 2 _ _ rfl)).mono ?_
  rintro e w2 ⟨g2, c2, rfl, k2, l2, hf, hb⟩
  have HP2 : Hid (PtW w2 w.heap.size #[.slice none 0 0, .slice none 0 0, .slice none 0 0, .slice none 0 0]) := HP1.out.below hb HP1.out.lt
  have HS2 : Hid (SR w w2 [(some ⟨g2, 0, none⟩, x * y % fp), (some ⟨g1, 0, none⟩, 1 % fp), (a, x), (a', y)]) := HS1.out.add hf hb
  have hg2 : w.heap.size < g2 := by have := HP1.out.lt; omega
  clear hf hb HS1 HP1
  go_wp2_with (first
    | (refine wpList_storePt rfl (.tmp 4) (.tmp 11) rfl w.heap.size _ _ _ _ _ rfl rfl rfl rfl rfl rfl rfl HP2.out ?_)
    | fail)
  intro w3 hp3 hw3
  have HP3 : Hid (PtW w3 w.heap.size #[.slice a 16 cap, .slice a' 16 cap', .slice (some ⟨g1, 0, none⟩) 16 c1, .slice (some ⟨g2, 0, none⟩) 16 c2]) := hp3
  have HF : Hid (FeA w3 (some ⟨g1, 0, none⟩) (1 % fp) ∧ FeA w3 (some ⟨g2, 0, none⟩) (x * y % fp) ∧ Below w.heap.size w w3) :=
    ⟨(HS2.out.at 1 _ _ rfl).wr hw3 (by omega), (HS2.out.at 0 _ _ rfl).wr hw3 (by omega), HS2.out.below.trans (hw3.below (Nat.le_refl _))⟩
  clear hp3 hw3 HS2 HP2
  go_wp2
  exact bodyPost_ret (v := .agg #[.slice a 16 cap, .slice a' 16 cap', .slice (some ⟨g1, 0, none⟩) 16 c1, .slice (some ⟨g2, 0, none⟩) 16 c2]) (results_cell_row rfl _ _ w.heap.size 76 _ (0, 0) _ rfl HP3.out Try.underlying76 rfl Try.sizePt) rfl ⟨g1, c1, g2, c2, rfl, HF.out.1, HF.out.2.1, HF.out.2.2, by omega, by omega⟩
end Go.Proofs.Ythghkfncpdnpoac
