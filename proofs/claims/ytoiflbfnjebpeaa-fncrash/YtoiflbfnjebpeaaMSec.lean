/-
  Own work: a sector as a value: sectorOf.
-/
import Derived.Test.YtoiflbfnjebpeaaRowB
import Derived.Deep.MidRow
import Derived.Laws.CopyOwn
import Derived.Test.YtoiflbfnjebpeaaDevTo
namespace Go.Proofs.Ytoiflbfnjebpeaa
open Go.ChangeShapes Go.WideShapes Go.ChangeAt Go.RowKit
set_option linter.unusedVariables false

theorem Try.sizeU8 : (Try.prog.info? 5).map (·.size) = some 1 := by kernel_rfl
theorem Try.sizeSec : (Try.prog.info? 66).map (·.size) = some 64 := by kernel_rfl

/-- copy into a row of bytes, from its place 'off' on. -/
theorem wpList_copy8 {w : World} {ops : Array Oper} {rest : List Oper} {o : Oper} {a : Act} {Q : Exit → Act → World → Prop} (hgd : o.guard = none) (d s : Operand)
    (ho : o.op = .call { callee := .builtin .copy, args := #[d, s], argTypes := #[22, 22] }) (g off dLen dCap : Nat) (sp : Option Addr) (sLen sCap : Nat)
    (hd : a.eval d = .slice (some ⟨g, off, none⟩) dLen dCap) (hs : a.eval s = .slice sp sLen sCap) (t : TypeId) (ds zs : List Int) (hr : Row w g t ds) (hz : zs.length = sLen) (ha : At .u8 w sp zs)
    (m : Nat) (hmn : Nat.min sLen dLen = m) (hfit : off + m ≤ ds.length)
    (h : ∀ w', Row w' g t (ds.take off ++ (zs.take m ++ ds.drop (off + m))) → Wr g w w' → wpList Try.prog ops Q rest (a.put o.dst (goInt m)) w') :
    wpList Try.prog ops Q (o :: rest) a w := by
  have hle : m ≤ sLen := hmn ▸ Nat.min_le_left _ _
  by_cases h0 : m = 0
  · refine wpList_copy_nothing hgd d s 22 22 ho 5 Try.underlying22 Try.sizeU8 _ _ _ _ _ _ hd hs (hmn.trans h0) ?_
    have := h w (by rw [h0]; simp; exact hr) (Wr.refl _ _)
    rw [h0] at this; exact this
  · have hpos : 0 < zs.length := by omega
    obtain ⟨b, o2, rfl, hb, hc⟩ := ha.get hpos
    have hlen : ((zs.take m).map (Value.int .u8)).length = m := by simp; omega
    refine wpList_copy_own hgd d s 22 22 ho 5 Try.underlying22 Try.sizeU8 g off dLen dCap _ sLen sCap hd hs _ t hr ((zs.take m).map (Value.int .u8)) (hlen.trans hmn.symm) ?_ ?_ (ints_oneCell _ _) ?_
    · intro j v hv
      have hj : j < m := by have := (List.getElem?_eq_some_iff.1 hv).1; rw [hlen] at this; exact this
      rw [Addr.add_lit, hc j (by omega)]
      simp [hj, show j < zs.length by omega] at hv
      simp [hv, show j < zs.length by omega]
    · rw [hlen]; simpa using hfit
    · rw [hlen]
      refine h _ ?_ (Wr.setRow _ _ _)
      unfold Row
      rw [setRow_heap _ _ _ _ _ _ hr]
      simp [List.map_append, List.map_take, List.map_drop]

set_option maxHeartbeats 1000000 in
theorem sectorOf_any (a : Option Addr) (n cap : Nat) (zs : List Int) (w : World) (hn : zs.length = n) (hm : 64 ≤ n) (ha : At .u8 w a zs) :
    Calls Try.prog 50 #[.slice a n cap] w fun e w' => e = .returned (.agg ((zs.take 64).map (Value.int .u8)).toArray) ∧ Below w.heap.size w w' := by
  have hmin : Nat.min n 64 = 64 := Nat.min_eq_right hm
  go_enter Try.func50, Try.ntmps50
  go_wp2_with (refine wpList_copy8 rfl (.tmp 4) (.tmp 5) rfl (w.heap.size + 1) 0 64 64 a n cap rfl rfl 66 (List.replicate 64 0) zs (heap_alloc2_new _ _ _) hn (ha.below (((Below.refl _ _).alloc (Nat.le_refl _) _).alloc (by simp) _)) 64 hmin (by simp) ?_)
  intro w3 hrow hwr
  have hr1 : Row w3 (w.heap.size + 1) 66 (zs.take 64) := by simpa using hrow
  have hr0 : Row w3 w.heap.size 66 (List.replicate 64 0) := hwr.row (heap_alloc2_old _ _ _) (by omega)
  have hbel : Below w.heap.size w w3 := (((Below.refl _ _).alloc (Nat.le_refl _) _).alloc (by simp) _).trans (hwr.below (by omega))
  clear hrow hwr
  have hl : (zs.take 64).length = 64 := by simp; omega
  generalize hz : zs.take 64 = z at *
  have HZ : Hid (zs.take 64 = z) := hz
  have hs1 : (Try.prog.info? 66).map (·.size) = some ((z.map (Value.int .u8)).toArray).size := by rw [Try.sizeSec]; simp [hl]
  have HS1 : Hid _ := hs1
  have HR0 : Hid _ := hr0
  have HR1 : Hid _ := hr1
  have HB : Hid _ := hbel
  clear hs1 hr0 hr1 hbel hz ha hmin
  go_wp2_with (first
    | (refine wpList_load_row rfl 66 _ rfl (w.heap.size + 1) rfl 66 _ (0, 0) _ HR1.out Try.underlying66 rfl HS1.out ?_)
    | (refine wpList_store_row rfl 66 (.tmp 2) (.tmp 7) rfl w.heap.size ((z.map (Value.int .u8)).toArray) rfl rfl 66 _ HR0.out HS1.out (by simp [hl]) (all_oneCell_toArray (ints_oneCell _ _)) ?_))
  refine bodyPost_ret (v := .agg (z.map (Value.int .u8)).toArray) (results_cell_row rfl _ _ w.heap.size 66 _ (0, 0) _ rfl (setRow_heap _ _ _ _ _ _ HR0.out) Try.underlying66 rfl HS1.out) rfl ⟨by rw [HZ.out], ?_⟩
  exact HB.out.trans ((Wr.setRow _ _ _).below (Nat.le_refl _))
end Go.Proofs.Ytoiflbfnjebpeaa
namespace Go.Proofs.Ytoiflbfnjebpeaa
open Go.ChangeShapes Go.WideShapes Go.ChangeAt Go.RowKit
set_option linter.unusedVariables false

def secV (z : List Int) : Value := .agg (z.map (Value.int .u8)).toArray

theorem At.drop {w : World} {b off : Nat} {zs : List Int} (h : At .u8 w (some ⟨b, off, none⟩) zs) (k : Nat) : At .u8 w (some ⟨b, off + k, none⟩) (zs.drop k) := by
  rcases h with h | ⟨b', off', e, hl, hc⟩
  · left; simp [h]
  · cases e
    exact .inr ⟨b, off + k, rfl, hl, fun i hi => by
      rw [Nat.add_assoc, hc (k + i) (by simp at hi; omega)]; simp [List.getD]⟩

set_option maxHeartbeats 400000 in
theorem dur_any (g : Nat) (a x : Option Addr) (L c m cx : Nat) (f : Int) (s : Nat) (d : Bool) (zs : List Int) (w : World) (h : w.heap[g]? = some (.cells #[.slice a L c, .slice x m cx, .int .i64 f, .bool d] 25 (0, 0))) (hL : L ≤ 1048576) (hc : L ≤ c) (hl : zs.length = L) (hs : s * 64 + 64 ≤ L) (hA : At .u8 w a zs) :
    Calls Try.prog 55 #[.pointer (some ⟨g, 0, none⟩), .int .i64 s] w fun e w' => e = .returned (secV ((zs.drop (s * 64)).take 64)) ∧ Below w.heap.size w w' := by
  have c0 := cell_of_row w g 0 _ _ _ h
  simp at c0
  have hg : g < w.heap.size := (Array.getElem?_eq_some_iff.1 h).1
  clear h
  obtain ⟨b, off, rfl, hbl, _⟩ := hA.get (by omega)
  have HA : Hid _ := hA.drop (s * 64)
  clear hA
  have t1 : (s : Int) * 64 ≤ L := by omega
  have t2 : ¬ (c = s * 64) := by omega
  go_enter Try.func55, Try.ntmps55
  go_wp2_with fail
  have hb1 := (Below.refl w.heap.size w).alloc (Nat.le_refl _) (.cells (List.replicate 64 (Value.int .u8 0)).toArray 66)
  have hz : ((zs.drop (s * 64)).take 64).length = 64 := by simp; omega
  have HZ : Hid _ := hz
  have HN : Hid (Row (w.alloc (.cells (List.replicate 64 (Value.int .u8 0)).toArray 66)) w.heap.size 66 (List.replicate 64 0)) := heap_alloc_new w _
  refine (sectorOf_any _ (L - s * 64) _ (zs.drop (s * 64)) _ (by simp; omega) (by omega) (At.below HA.out hb1)).mono ?_
  rintro e w2 ⟨rfl, hb2⟩
  have hr : Row w2 w.heap.size 66 (List.replicate 64 0) := by unfold Row; rw [hb2.block _ (by simp)]; exact HN.out
  have HR : Hid _ := hr
  have HB : Hid (Below w.heap.size w w2) := hb1.trans (hb2.mono (by simp))
  clear hb1 hb2 hr HN hz HA
  generalize hzz : (zs.drop (s * 64)).take 64 = z at *
  have HZZ : Hid _ := hzz
  clear hzz
  have hs1 : (Try.prog.info? 66).map (·.size) = some ((z.map (Value.int .u8)).toArray).size := by rw [Try.sizeSec]; simp [HZ.out]
  have HS1 : Hid _ := hs1
  clear hs1
  go_wp2_with (refine wpList_store_row rfl 66 (.tmp 4) (.tmp 12) rfl w.heap.size ((z.map (Value.int .u8)).toArray) rfl rfl 66 _ HR.out HS1.out (by simp [HZ.out]) (all_oneCell_toArray (ints_oneCell _ _)) ?_)
  refine bodyPost_ret (v := .agg (z.map (Value.int .u8)).toArray) (results_cell_row rfl _ _ w.heap.size 66 _ (0, 0) _ rfl (setRow_heap _ _ _ _ _ _ HR.out) Try.underlying66 rfl HS1.out) rfl ⟨by rw [HZZ.out]; rfl, ?_⟩
  exact HB.out.trans ((Wr.setRow _ _ _).below (Nat.le_refl _))

theorem wp_world {P : Program} {c : Code} {Q : Exit → Act → World → Prop} {a : Act} {w w' : World} (h : w' = w) (k : Code.wp P c Q a w') : Code.wp P c Q a w := h ▸ k
end Go.Proofs.Ytoiflbfnjebpeaa
