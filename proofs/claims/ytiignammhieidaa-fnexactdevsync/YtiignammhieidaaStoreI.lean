/-
  Own work: a sector of the disk stored by the program.
-/
import Derived.Test.YtiignammhieidaaCloneI
namespace Go.Proofs.Ytiignammhieidaa
open Go.ChangeShapes Go.WideShapes Go.ChangeAt Go.RowKit
set_option linter.unusedVariables false

def GS (D g n c s S B : Nat) (zs z : List Int) : Nat → World → (Nat → Value) → Prop
  | 0, _, u => u 0 = .pointer (some ⟨D, 0, none⟩)
  | 1, _, u => u 1 = .pointer (some ⟨D, 0, none⟩)
  | 2, _, u => u 2 = .pointer (some ⟨D, 0, none⟩)
  | 3, _, u => u 3 = .slice (some ⟨g, 0, none⟩) n c
  | 4, _, u => u 4 = .int .i64 s
  | 5, _, u => u 5 = .int .i64 ((s * 64 : Nat) : Int)
  | 6, _, u => u 6 = .slice (some ⟨g, s * 64, none⟩) (n - s * 64) (c - s * 64)
  | 7, _, u => u 7 = .slice (some ⟨S, 0, none⟩) 64 64
  | _, w, _ => Own w B (.slice (some ⟨g, 0, none⟩) n c) (overL zs s z)
structure XS (w w' : World) (g n c s B : Nat) (zs z : List Int) : Prop where
  ch : Ch g (g + 1) w w'
  own : ∃ y, Own w' B (.slice (some ⟨g, 0, none⟩) n c) y ∧ y.length = n ∧ y.take (s * 64) = zs.take (s * 64) ∧ y.drop (s * 64 + 64) = zs.drop (s * 64 + 64)
  z : Row w' w.heap.size 50 z

set_option maxHeartbeats 1000000 in
set_option maxRecDepth 100000 in
theorem store_any (D : Nat) (g n c : Nat) (x : Option Addr) (m cx : Nat) (f : Int) (dd : Bool) (s : Nat) (B : Nat) (zs z : List Int) (w : World) (hD : w.heap[D]? = some (.cells #[.slice (some ⟨g, 0, none⟩) n c, .slice x m cx, .int .i64 f, .bool dd] 29 (0, 0)))
    (hO : Own w B (.slice (some ⟨g, 0, none⟩) n c) zs) (hn : zs.length = n) (hn2 : n ≤ 1048576) (hz : z.length = 64) (hs : s * 64 + 64 ≤ n) :
    Calls Try.prog 44 #[.pointer (some ⟨D, 0, none⟩), .int .i64 s, secV z] w fun e w' => e = .returned (.tuple #[]) ∧ Own w' B (.slice (some ⟨g, 0, none⟩) n c) (overL zs s z) ∧ Ch g (g + 1) w w' := by
  have c0 := cell_of_row w D 0 _ _ _ hD
  simp at c0
  have hDl : D < w.heap.size := (Array.getElem?_eq_some_iff.1 hD).1
  obtain ⟨gg, cc, ee, hBg, hgl, hnc⟩ := hO.base
  rw [hn] at ee hnc
  cases ee
  have hDg : D ≠ g := by
    intro e
    subst e
    obtain ⟨h1, ⟨h2, _⟩ | ⟨g', cap, cur, hv, hb, hh, _⟩⟩ := hO.1
    · cases h2
    · cases hv; rw [hD] at hh; simp at hh
  have HO : Hid _ := hO
  have HZ : Hid _ := hz
  have HN : Hid _ := hn
  have hcs : ¬ (c = s * 64) := by omega
  clear hD hO hz hn
  unfold secV
  have t1 : (s : Int) * 64 ≤ n := by omega
  go_enter Try.func44, Try.ntmps44
  go_wp2_with fail
  have hb1 := (Below.refl w.heap.size w).alloc (Nat.le_refl _) (.cells (z.map (Value.int .u8)).toArray 50)
  have st0 : XS w (w.alloc (.cells (z.map (Value.int .u8)).toArray 50)) g n c s B zs z := ⟨Ch.of_below hb1, ⟨zs, (show Own _ _ _ _ from HO.out).alloc _, HN.out, rfl, rfl⟩, heap_alloc_new w _⟩
  clear hb1
  generalize (w.alloc (.cells (z.map (Value.int .u8)).toArray 50)) = w1 at *
  refine wp_region_any (by kernel_rfl) ?_
  refine wpAny_slots2 (frame := fun t => { tmps := #[Value.pointer (some { block := D, off := 0 }), Value.int IntKind.i64 ↑s, Value.agg (List.map (Value.int IntKind.u8) z).toArray, undef, undef, Value.pointer (some { block := w.heap.size, off := 0 }), t 0, t 1, t 2, t 3, t 4, t 5, t 6, t 7, t 8], defers := [] })
    (Ext := fun w' => XS w w' g n c s B zs z) (Good := GS D g n c s w.heap.size B zs z) (M := fun i w w' => i ≠ 8 → w' = w) ?hstab (by kernel_rfl) ?hop ?hdone _ _ (fun _ => undef) _ (by simp) ?ext ?start ?clo (by simp)
  case start => intro i hi h; exact absurd h (by rw [Array.getD_eq_getD_getElem?, Array.getElem?_replicate]; split <;> simp)
  case clo => intro i o ho h; exact absurd h (by rw [Array.getD_eq_getD_getElem?, Array.getElem?_replicate]; split <;> simp)
  case ext => exact ⟨⟨st0.ch.os, st0.ch.tape, st0.ch.output, st0.ch.size, st0.ch.block⟩, st0.own, st0.z⟩
  case hstab =>
    intro j o w1 w2 u i v ho hM hij _ hg
    have hj : j < 9 := (Array.getElem?_eq_some_iff.1 ho).1
    obtain rfl | rfl | rfl | rfl | rfl | rfl | rfl | rfl | rfl : j = 0 ∨ j = 1 ∨ j = 2 ∨ j = 3 ∨ j = 4 ∨ j = 5 ∨ j = 6 ∨ j = 7 ∨ j = 8 := by omega
    all_goals simp only [GS] at hg ⊢
    all_goals first
      | (rw [upd_ne2 hij]; exact hg)
      | (rw [hM hij]; exact hg)
  case hdone =>
    intro t w2 hx hg
    have h8 : Own w2 B (.slice (some ⟨g, 0, none⟩) n c) (overL zs s z) := hg 8 (by decide)
    have H8 : Hid _ := h8
    have HC : Hid _ := hx.ch
    clear hg hx h8
    go_wp2
    go_end0
    exact ⟨rfl, H8.out, HC.out⟩
  case hop =>
    intro i o t w' ho hx hdep K hK
    have hi : i < 9 := (Array.getElem?_eq_some_iff.1 ho).1
    have k0 : w'.cell? ⟨D, 0, none⟩ = some (.slice (some ⟨g, 0, none⟩) n c) := by
      rw [World.cell?_of_block (a := ⟨D, 0, none⟩) (w := w) (hx.ch.block D hDl (by omega))]; exact c0
    obtain rfl | rfl | rfl | rfl | rfl | rfl | rfl | rfl | rfl : i = 0 ∨ i = 1 ∨ i = 2 ∨ i = 3 ∨ i = 4 ∨ i = 5 ∨ i = 6 ∨ i = 7 ∨ i = 8 := by omega
    all_goals (simp at ho; subst ho)
    · clear hdep
      go_simp
      exact hK w' _ rfl hx (fun _ => rfl)
    · have d : t 0 = _ := hdep ⟨0, .data⟩ (by simp) rfl
      clear hdep
      go_simp
      simpa [upd, d] using hK w' (.pointer (some ⟨D, 0, none⟩)) rfl hx (fun _ => rfl)
    · have d : t 1 = _ := hdep ⟨1, .data⟩ (by simp) rfl
      clear hdep
      go_simp
      simpa [upd, d] using hK w' (.pointer (some ⟨D, 0, none⟩)) rfl hx (fun _ => rfl)
    · have d : t 2 = _ := hdep ⟨2, .data⟩ (by simp) rfl
      clear hdep
      go_simp
      simpa [upd, d] using hK w' (.slice (some ⟨g, 0, none⟩) n c) rfl hx (fun _ => rfl)
    · clear hdep
      go_simp
      exact hK w' _ rfl hx (fun _ => rfl)
    · have d : t 4 = _ := hdep ⟨4, .data⟩ (by simp) rfl
      clear hdep
      have hwr : IntKind.i64.wrap ((s : Int) * 64) = (s : Int) * 64 := by rw [IntKind.wrap_i64]; omega
      go_simp
      simpa [upd, d] using hK w' (.int .i64 ((s * 64 : Nat) : Int)) rfl hx (fun _ => rfl)
    · have d3 : t 3 = _ := hdep ⟨3, .data⟩ (by simp) rfl
      have d5 : t 5 = _ := hdep ⟨5, .data⟩ (by simp) rfl
      clear hdep
      have hnc' : (n : Int) ≤ c := by omega
      have hsn' : ((s * 64 : Nat) : Int) ≤ n := by omega
      have hfin := hK w' (.slice (some ⟨g, s * 64, none⟩) (n - s * 64) (c - s * 64)) rfl hx (fun _ => rfl)
      clear hK hx k0 st0
      generalize s * 64 = s64 at *
      go_simp
      simpa [upd, d3, d5, hcs] using hfin
    · clear hdep
      go_simp
      exact hK w' _ rfl hx (fun _ => rfl)
    · have d6 : t 6 = _ := hdep ⟨6, .data⟩ (by simp) rfl
      have d7 : t 7 = _ := hdep ⟨7, .data⟩ (by simp) rfl
      obtain ⟨y, hy, hyl, hyt, hyd⟩ := hx.own
      have hzl := HZ.out
      obtain ⟨cur, hcur, hcs2⟩ : ∃ cur, w'.heap[g]? = some (.cells cur 5 (0, 0)) ∧ cur.size = c := by
        obtain ⟨h1, ⟨h2, _⟩ | ⟨g', cap, cur, hv, hb, hh, _, _, hcz, _⟩⟩ := hy.1
        · cases h2
        · cases hv; exact ⟨cur, hh, by omega⟩
      rw [if_pos (by rfl)]
      refine wp_copyG (.tmp 12) (.tmp 13) rfl (some ⟨g, s * 64, none⟩) (some ⟨w.heap.size, 0, none⟩) g (s * 64) (n - s * 64) (c - s * 64) 64 64 d6 d7 cur 5 hcur z (by rw [hzl]; exact (Nat.min_eq_left (by omega)).symm) (fun _ => ⟨rfl, _, rfl, fun j hj => ?_⟩) (by rw [hzl]; omega) ?_
      · rw [Addr.add_lit, Nat.zero_add, Row.cell hx.z j hj]
      · intro w2 h2 hw2
        have hnew := hy.splice (s * 64) (by omega) hcur h2
        rw [hzl] at hnew
        have he : y.take (s * 64) ++ (z ++ y.drop (s * 64 + 64)) = overL zs s z := by unfold overL; rw [hyt, hyd, hzl]
        rw [he] at hnew
        have hsl : w.heap.size ≠ g := by omega
        refine hK w2 _ hnew ⟨hx.ch.trans ⟨hw2.os, hw2.tape, hw2.output, by rw [hw2.size]; exact Nat.le_refl _, fun j _ hj => hw2.block j (by omega)⟩, ⟨_, hnew, by rw [overL_len zs s z (by have := HN.out; omega)]; exact HN.out, ?_, ?_⟩, hw2.row hx.z hsl⟩ (fun h => absurd rfl h)
        · have hn := HN.out
          unfold overL
          rw [List.take_append_of_le_length (by simp; omega), List.take_take, Nat.min_self]
        · have hn := HN.out
          unfold overL
          rw [hzl, ← List.append_assoc, List.drop_append_of_le_length (by simp; omega), List.drop_eq_nil_of_le (by simp; omega)]; simp
end Go.Proofs.Ytiignammhieidaa
