/-
  Own work: a sector as a value: sectorOf.
-/
import Derived.Test.YtiignammhieidaaRowB
import Derived.Deep.MidRow
import Derived.Laws.CopyOwn
namespace Go.Proofs.Ytiignammhieidaa
open Go.ChangeShapes Go.WideShapes Go.ChangeAt Go.RowKit
set_option linter.unusedVariables false

theorem Try.sizeU8 : (Try.prog.info? 5).map (·.size) = some 1 := by kernel_rfl
theorem Try.sizeSec : (Try.prog.info? 50).map (·.size) = some 64 := by kernel_rfl

/-- copy into a row of bytes, from its place 'off' on. -/
theorem wpList_copy8 {w : World} {ops : Array Oper} {rest : List Oper} {o : Oper} {a : Act} {Q : Exit → Act → World → Prop} (hgd : o.guard = none) (d s : Operand)
    (ho : o.op = .call { callee := .builtin .copy, args := #[d, s], argTypes := #[22, 22] }) (g off dLen dCap : Nat) (sp : Option Addr) (sLen sCap : Nat)
    (hd : a.eval d = .slice (some ⟨g, off, none⟩) dLen dCap) (hs : a.eval s = .slice sp sLen sCap) (t : TypeId) (ds zs : List Int) (hr : Row w g t ds) (hz : zs.length = sLen) (ha : At .u8 w sp zs)
    (m : Nat) (hmn : Nat.min sLen dLen = m) (hfit : off + m ≤ ds.length)
    (h : ∀ w', Row w' g t (ds.take off ++ (zs.take m ++ ds.drop (off + m))) → Wr g w w' → wpList Try.prog ops Q rest (a.put o.dst (goInt m)) w') :
    wpList Try.prog ops Q (o :: rest) a w := by
  have hle : m ≤ sLen := hmn ▸ Nat.min_le_left _ _
  by_cases h0 : m = 0
  · refine wpList_copy_nothing hgd d s 22 22 ho 5 Try.underlying22 Try.sizeU8 _ _ _ _ _ _ hd hs (hmn.trans h0) ?_
    have := h w (by rw [h0]; simp; exact hr) (Wr.refl _ _)
    rw [h0] at this; exact this
  · have hpos : 0 < zs.length := by omega
    obtain ⟨b, o2, rfl, hb, hc⟩ := ha.get hpos
    have hlen : ((zs.take m).map (Value.int .u8)).length = m := by simp; omega
    refine wpList_copy_own hgd d s 22 22 ho 5 Try.underlying22 Try.sizeU8 g off dLen dCap _ sLen sCap hd hs _ t hr ((zs.take m).map (Value.int .u8)) (hlen.trans hmn.symm) ?_ ?_ (ints_oneCell _ _) ?_
    · intro j v hv
      have hj : j < m := by have := (List.getElem?_eq_some_iff.1 hv).1; rw [hlen] at this; exact this
      rw [Addr.add_lit, hc j (by omega)]
      simp [hj, show j < zs.length by omega] at hv
      simp [hv, show j < zs.length by omega]
    · rw [hlen]; simpa using hfit
    · rw [hlen]
      refine h _ ?_ (Wr.setRow _ _ _)
      unfold Row
      rw [setRow_heap _ _ _ _ _ _ hr]
      simp [List.map_append, List.map_take, List.map_drop]

set_option maxHeartbeats 1000000 in
theorem sectorOf_any (a : Option Addr) (n cap : Nat) (zs : List Int) (w : World) (hn : zs.length = n) (hm : 64 ≤ n) (ha : At .u8 w a zs) :
    Calls Try.prog 30 #[.slice a n cap] w fun e w' => e = .returned (.agg ((zs.take 64).map (Value.int .u8)).toArray) ∧ Below w.heap.size w w' := by
  have hmin : Nat.min n 64 = 64 := Nat.min_eq_right hm
  go_enter Try.func30, Try.ntmps30
  go_wp2_with (refine wpList_copy8 rfl (.tmp 4) (.tmp 5) rfl (w.heap.size + 1) 0 64 64 a n cap rfl rfl 50 (List.replicate 64 0) zs (heap_alloc2_new _ _ _) hn (ha.below (((Below.refl _ _).alloc (Nat.le_refl _) _).alloc (by simp) _)) 64 hmin (by simp) ?_)
  intro w3 hrow hwr
  have hr1 : Row w3 (w.heap.size + 1) 50 (zs.take 64) := by simpa using hrow
  have hr0 : Row w3 w.heap.size 50 (List.replicate 64 0) := hwr.row (heap_alloc2_old _ _ _) (by omega)
  have hbel : Below w.heap.size w w3 := (((Below.refl _ _).alloc (Nat.le_refl _) _).alloc (by simp) _).trans (hwr.below (by omega))
  clear hrow hwr
  have hl : (zs.take 64).length = 64 := by simp; omega
  generalize hz : zs.take 64 = z at *
  have HZ : Hid (zs.take 64 = z) := hz
  have hs1 : (Try.prog.info? 50).map (·.size) = some ((z.map (Value.int .u8)).toArray).size := by rw [Try.sizeSec]; simp [hl]
  have HS1 : Hid _ := hs1
  have HR0 : Hid _ := hr0
  have HR1 : Hid _ := hr1
  have HB : Hid _ := hbel
  clear hs1 hr0 hr1 hbel hz ha hmin
  go_wp2_with (first
    | (refine wpList_load_row rfl 50 _ rfl (w.heap.size + 1) rfl 50 _ (0, 0) _ HR1.out Try.underlying50 rfl HS1.out ?_)
    | (refine wpList_store_row rfl 50 (.tmp 2) (.tmp 7) rfl w.heap.size ((z.map (Value.int .u8)).toArray) rfl rfl 50 _ HR0.out HS1.out (by simp [hl]) (all_oneCell_toArray (ints_oneCell _ _)) ?_))
  refine bodyPost_ret (v := .agg (z.map (Value.int .u8)).toArray) (results_cell_row rfl _ _ w.heap.size 50 _ (0, 0) _ rfl (setRow_heap _ _ _ _ _ _ HR0.out) Try.underlying50 rfl HS1.out) rfl ⟨by rw [HZ.out], ?_⟩
  exact HB.out.trans ((Wr.setRow _ _ _).below (Nat.le_refl _))
end Go.Proofs.Ytiignammhieidaa
