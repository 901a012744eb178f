/-
  Own work: a sector of the disk, read and written by the program.
-/
import Derived.Test.YthghkfncpdnpoadDevTo
import Derived.Test.YthghkfncpdnpoadSec
namespace Go.Proofs.Ythghkfncpdnpoad
open Go.ChangeShapes Go.WideShapes Go.ChangeAt Go.RowKit
set_option linter.unusedVariables false

def secV (z : List Int) : Value := .agg (z.map (Value.int .u8)).toArray

theorem At.drop {w : World} {b off : Nat} {zs : List Int} (h : At .u8 w (some ⟨b, off, none⟩) zs) (k : Nat) : At .u8 w (some ⟨b, off + k, none⟩) (zs.drop k) := by
  rcases h with h | ⟨b', off', e, hl, hc⟩
  · left; simp [h]
  · cases e
    exact .inr ⟨b, off + k, rfl, hl, fun i hi => by
      rw [Nat.add_assoc, hc (k + i) (by simp at hi; omega)]; simp [List.getD]⟩

set_option maxHeartbeats 400000 in
theorem dur_any (g : Nat) (a x : Option Addr) (L c m cx : Nat) (f : Int) (s : Nat) (d : Bool) (zs : List Int) (w : World) (h : w.heap[g]? = some (.cells #[.slice a L c, .slice x m cx, .int .i64 f, .bool d] 69 (0, 0))) (hL : L ≤ 1048576) (hc : L ≤ c) (hl : zs.length = L) (hs : s * 64 + 64 ≤ L) (hA : At .u8 w a zs) :
    Calls Try.prog 65 #[.pointer (some ⟨g, 0, none⟩), .int .i64 s] w fun e w' => e = .returned (secV ((zs.drop (s * 64)).take 64)) ∧ Below w.heap.size w w' := by
  have c0 := cell_of_row w g 0 _ _ _ h
  simp at c0
  have hg : g < w.heap.size := (Array.getElem?_eq_some_iff.1 h).1
  clear h
  obtain ⟨b, off, rfl, hbl, _⟩ := hA.get (by omega)
  have HA : Hid _ := hA.drop (s * 64)
  clear hA
  have t1 : (s : Int) * 64 ≤ L := by omega
  have t2 : ¬ (c = s * 64) := by omega
  go_enter Try.func65, Try.ntmps65
  go_wp2_with fail
  have hb1 := (Below.refl w.heap.size w).alloc (Nat.le_refl _) (.cells (List.replicate 64 (Value.int .u8 0)).toArray 117)
  have hz : ((zs.drop (s * 64)).take 64).length = 64 := by simp; omega
  have HZ : Hid _ := hz
  have HN : Hid (Row (w.alloc (.cells (List.replicate 64 (Value.int .u8 0)).toArray 117)) w.heap.size 117 (List.replicate 64 0)) := heap_alloc_new w _
  refine (sectorOf_any _ (L - s * 64) _ (zs.drop (s * 64)) _ (by simp; omega) (by omega) (At.below HA.out hb1)).mono ?_
  rintro e w2 ⟨rfl, hb2⟩
  have hr : Row w2 w.heap.size 117 (List.replicate 64 0) := by unfold Row; rw [hb2.block _ (by simp)]; exact HN.out
  have HR : Hid _ := hr
  have HB : Hid (Below w.heap.size w w2) := hb1.trans (hb2.mono (by simp))
  clear hb1 hb2 hr HN hz HA
  generalize hzz : (zs.drop (s * 64)).take 64 = z at *
  have HZZ : Hid _ := hzz
  clear hzz
  have hs1 : (Try.prog.info? 117).map (·.size) = some ((z.map (Value.int .u8)).toArray).size := by rw [Try.sizeSec]; simp [HZ.out]
  have HS1 : Hid _ := hs1
  clear hs1
  go_wp2_with (refine wpList_store_row rfl 117 (.tmp 4) (.tmp 12) rfl w.heap.size ((z.map (Value.int .u8)).toArray) rfl rfl 117 _ HR.out HS1.out (by simp [HZ.out]) (all_oneCell_toArray (ints_oneCell _ _)) ?_)
  refine bodyPost_ret (v := .agg (z.map (Value.int .u8)).toArray) (results_cell_row rfl _ _ w.heap.size 117 _ (0, 0) _ rfl (setRow_heap _ _ _ _ _ _ HR.out) Try.underlying117 rfl HS1.out) rfl ⟨by rw [HZZ.out]; rfl, ?_⟩
  exact HB.out.trans ((Wr.setRow _ _ _).below (Nat.le_refl _))

theorem wp_world {P : Program} {c : Code} {Q : Exit → Act → World → Prop} {a : Act} {w w' : World} (h : w' = w) (k : Code.wp P c Q a w') : Code.wp P c Q a w := h ▸ k
end Go.Proofs.Ythghkfncpdnpoad
