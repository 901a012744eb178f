/-
  Own work: a sector as a value: sectorOf.
-/
import Derived.Test.YtmnoelfabldpfaaMRowB
import Derived.Deep.MidRow
import Derived.Laws.CopyOwn
import Derived.Test.YtmnoelfabldpfaaMWrd
namespace Go.Proofs.Ytmnoelfabldpfaa
open Go.ChangeShapes Go.WideShapes Go.ChangeAt Go.RowKit
set_option linter.unusedVariables false

theorem Try.sizeU8 : (Try.prog.info? 5).map (·.size) = some 1 := by kernel_rfl
theorem Try.sizeSec : (Try.prog.info? 42).map (·.size) = some 64 := by kernel_rfl

/-- copy into a row of bytes, from its place 'off' on. -/
theorem wpList_copy8 {w : World} {ops : Array Oper} {rest : List Oper} {o : Oper} {a : Act} {Q : Exit → Act → World → Prop} (hgd : o.guard = none) (d s : Operand)
    (ho : o.op = .call { callee := .builtin .copy, args := #[d, s], argTypes := #[22, 22] }) (g off dLen dCap : Nat) (sp : Option Addr) (sLen sCap : Nat)
    (hd : a.eval d = .slice (some ⟨g, off, none⟩) dLen dCap) (hs : a.eval s = .slice sp sLen sCap) (t : TypeId) (ds zs : List Int) (hr : Row w g t ds) (hz : zs.length = sLen) (ha : At .u8 w sp zs)
    (m : Nat) (hmn : Nat.min sLen dLen = m) (hfit : off + m ≤ ds.length)
    (h : ∀ w', Row w' g t (ds.take off ++ (zs.take m ++ ds.drop (off + m))) → Wr g w w' → wpList Try.prog ops Q rest (a.put o.dst (goInt m)) w') :
    wpList Try.prog ops Q (o :: rest) a w := by
  have hle : m ≤ sLen := hmn ▸ Nat.min_le_left _ _
  by_cases h0 : m = 0
  · refine wpList_copy_nothing hgd d s 22 22 ho 5 Try.underlying22 Try.sizeU8 _ _ _ _ _ _ hd hs (hmn.trans h0) ?_
    have := h w (by rw [h0]; simp; exact hr) (Wr.refl _ _)
    rw [h0] at this; exact this
  · have hpos : 0 < zs.length := by omega
    obtain ⟨b, o2, rfl, hb, hc⟩ := ha.get hpos
    have hlen : ((zs.take m).map (Value.int .u8)).length = m := by simp; omega
    refine wpList_copy_own hgd d s 22 22 ho 5 Try.underlying22 Try.sizeU8 g off dLen dCap _ sLen sCap hd hs _ t hr ((zs.take m).map (Value.int .u8)) (hlen.trans hmn.symm) ?_ ?_ (ints_oneCell _ _) ?_
    · intro j v hv
      have hj : j < m := by have := (List.getElem?_eq_some_iff.1 hv).1; rw [hlen] at this; exact this
      rw [Addr.add_lit, hc j (by omega)]
      simp [hj, show j < zs.length by omega] at hv
      simp [hv, show j < zs.length by omega]
    · rw [hlen]; simpa using hfit
    · rw [hlen]
      refine h _ ?_ (Wr.setRow _ _ _)
      unfold Row
      rw [setRow_heap _ _ _ _ _ _ hr]
      simp [List.map_append, List.map_take, List.map_drop]

set_option maxHeartbeats 1000000 in
theorem sectorOf_any (a : Option Addr) (n cap : Nat) (zs : List Int) (w : World) (hn : zs.length = n) (hm : 64 ≤ n) (ha : At .u8 w a zs) :
    Calls Try.prog 20 #[.slice a n cap] w fun e w' => e = .returned (.agg ((zs.take 64).map (Value.int .u8)).toArray) ∧ Below w.heap.size w w' := by
  have hmin : Nat.min n 64 = 64 := Nat.min_eq_right hm
  go_enter Try.func20, Try.ntmps20
  go_wp2_with (refine wpList_copy8 rfl (.tmp 4) (.tmp 5) rfl (w.heap.size + 1) 0 64 64 a n cap rfl rfl 42 (List.replicate 64 0) zs (heap_alloc2_new _ _ _) hn (ha.below (((Below.refl _ _).alloc (Nat.le_refl _) _).alloc (by simp) _)) 64 hmin (by simp) ?_)
  intro w3 hrow hwr
  have hr1 : Row w3 (w.heap.size + 1) 42 (zs.take 64) := by simpa using hrow
  have hr0 : Row w3 w.heap.size 42 (List.replicate 64 0) := hwr.row (heap_alloc2_old _ _ _) (by omega)
  have hbel : Below w.heap.size w w3 := (((Below.refl _ _).alloc (Nat.le_refl _) _).alloc (by simp) _).trans (hwr.below (by omega))
  clear hrow hwr
  have hl : (zs.take 64).length = 64 := by simp; omega
  generalize hz : zs.take 64 = z at *
  have HZ : Hid (zs.take 64 = z) := hz
  have hs1 : (Try.prog.info? 42).map (·.size) = some ((z.map (Value.int .u8)).toArray).size := by rw [Try.sizeSec]; simp [hl]
  have HS1 : Hid _ := hs1
  have HR0 : Hid _ := hr0
  have HR1 : Hid _ := hr1
  have HB : Hid _ := hbel
  clear hs1 hr0 hr1 hbel hz ha hmin
  go_wp2_with (first
    | (refine wpList_load_row rfl 42 _ rfl (w.heap.size + 1) rfl 42 _ (0, 0) _ HR1.out Try.underlying42 rfl HS1.out ?_)
    | (refine wpList_store_row rfl 42 (.tmp 2) (.tmp 7) rfl w.heap.size ((z.map (Value.int .u8)).toArray) rfl rfl 42 _ HR0.out HS1.out (by simp [hl]) (all_oneCell_toArray (ints_oneCell _ _)) ?_))
  refine bodyPost_ret (v := .agg (z.map (Value.int .u8)).toArray) (results_cell_row rfl _ _ w.heap.size 42 _ (0, 0) _ rfl (setRow_heap _ _ _ _ _ _ HR0.out) Try.underlying42 rfl HS1.out) rfl ⟨by rw [HZ.out], ?_⟩
  exact HB.out.trans ((Wr.setRow _ _ _).below (Nat.le_refl _))
end Go.Proofs.Ytmnoelfabldpfaa
namespace Go.Proofs.Ytmnoelfabldpfaa
open Go.ChangeShapes Go.WideShapes Go.ChangeAt Go.RowKit
set_option linter.unusedVariables false

theorem wp_copyG {w : World} {o : Oper} {a : Act} {K : Act → World → Prop} {Q : Exit → Act → World → Prop} (d s : Operand)
    (ho : o.op = .call { callee := .builtin .copy, args := #[d, s], argTypes := #[22, 22] }) (dp sp : Option Addr) (g off dLen dCap sLen sCap : Nat)
    (hd : a.eval d = .slice dp dLen dCap) (hs : a.eval s = .slice sp sLen sCap) (cur : Array Value) (t : TypeId) (hg : w.heap[g]? = some (.cells cur t (0, 0))) (news : List Int) (hn : news.length = Nat.min sLen dLen)
    (hpos : 0 < news.length → dp = some ⟨g, off, none⟩ ∧ ∃ ad, sp = some ad ∧ ∀ j, j < news.length → w.cell? (ad.add j) = some (.int .u8 (news.getD j 0))) (hfit : off + news.length ≤ cur.size)
    (h : ∀ w', w'.heap[g]? = some (.cells (cur.toList.take off ++ (news.map (Value.int .u8) ++ cur.toList.drop (off + news.length))).toArray t (0, 0)) → Wr g w w' → K (a.put o.dst (goInt news.length)) w') : o.wp Try.prog a w K Q := by
  by_cases h0 : news.length = 0
  · obtain rfl : news = [] := List.eq_nil_of_length_eq_zero h0
    have hrun := run_copy_none (P := Try.prog) w 22 22 o.type 5 dp sp dLen dCap sLen sCap Try.underlying22 Try.sizeU8 (by simpa using hn.symm)
    unfold Oper.wp
    simp [execOp, ho, resolve, invoke, builtin, hd, hs, hrun, Result.andThen]
    exact h w (by simpa using hg) (Wr.refl _ _)
  · obtain ⟨rfl, ad, rfl, hsrc⟩ := hpos (by omega)
    have hrun := run_copy_row (P := Try.prog) w 22 22 o.type 5 g off dLen dCap ad sLen sCap cur t (news.map (Value.int .u8)) Try.underlying22 Try.sizeU8 hg (by simpa using hn) (fun j v hv => by
      have hj : j < news.length := by have := (List.getElem?_eq_some_iff.1 hv).1; simpa using this
      rw [hsrc j hj]; simp [hj] at hv; simp [hj, hv]) (by simpa using hfit) (ints_oneCell _ _)
    unfold Oper.wp
    simp [execOp, ho, resolve, invoke, builtin, hd, hs, hrun, Result.andThen]
    exact h _ (by rw [setRow_heap _ _ _ _ _ _ hg]) (Wr.setRow _ _ _)

/-- A row of the call's own, a stretch of it replaced. -/
theorem Own.splice {w w' : World} {B g n c : Nat} {zs news : List Int} {cur : Array Value} (h : Own w B (.slice (some ⟨g, 0, none⟩) n c) zs) (off : Nat) (hfit : off + news.length ≤ zs.length) (hg : w.heap[g]? = some (.cells cur 5 (0, 0)))
    (hw : w'.heap[g]? = some (.cells (cur.toList.take off ++ (news.map (Value.int .u8) ++ cur.toList.drop (off + news.length))).toArray 5 (0, 0))) : Own w' B (.slice (some ⟨g, 0, none⟩) n c) (zs.take off ++ (news ++ zs.drop (off + news.length))) := by
  obtain ⟨g', c', e⟩ := h.2
  cases e
  have hl : (zs.take off ++ (news ++ zs.drop (off + news.length))).length = zs.length := by simp; omega
  obtain ⟨h1, ⟨h2, _⟩ | ⟨g', cap, cur', hv, hb, hh, hc, hm, hs, ht⟩⟩ := h.1
  · cases h2
  · cases hv
    rw [hg] at hh
    obtain rfl := (by simpa using hh : cur = cur')
    refine ⟨⟨by rw [List.length_map, Nat.mul_one], .inr ⟨g, c, _, ?_, hb, hw, by omega, hm, ?_, ?_⟩⟩, g, c, by rw [hl]⟩
    · rw [hl]
    · simp; omega
    · rw [hl]
      have e1 : cur.toList.take off = (zs.take off).map (Value.int .u8) := by
        have : (cur.toList.take (zs.length * 1)).take off = (zs.map (Value.int .u8)).take off := by rw [ht]
        rw [List.take_take, Nat.min_eq_left (by omega)] at this
        rw [this, List.map_take]
      have e2 : (cur.toList.drop (off + news.length)).take (zs.length - (off + news.length)) = (zs.drop (off + news.length)).map (Value.int .u8) := by
        have : (cur.toList.take (zs.length * 1)).drop (off + news.length) = (zs.map (Value.int .u8)).drop (off + news.length) := by rw [ht]
        rw [List.drop_take] at this
        rw [Nat.mul_one] at this
        rw [this, List.map_drop]
      have hl1 : (cur.toList.take off).length = off := by simp; omega
      have hsum : zs.length * 1 = (cur.toList.take off).length + ((news.map (Value.int .u8)).length + (zs.length - (off + news.length))) := by rw [hl1, List.length_map]; omega
      rw [hsum, List.take_length_add_append, List.take_length_add_append, e1, e2]
      simp
end Go.Proofs.Ytmnoelfabldpfaa
