/-
  Own work: copy into a row of the call's own, as one operation.
-/
import Derived.Test.YtiignammhieidaaOwnB
import Derived.Test.YtiignammhieidaaSec
namespace Go.Proofs.Ytiignammhieidaa
open Go.ChangeShapes Go.WideShapes Go.ChangeAt Go.RowKit
set_option linter.unusedVariables false

theorem wp_copyG {w : World} {o : Oper} {a : Act} {K : Act → World → Prop} {Q : Exit → Act → World → Prop} (d s : Operand)
    (ho : o.op = .call { callee := .builtin .copy, args := #[d, s], argTypes := #[22, 22] }) (dp sp : Option Addr) (g off dLen dCap sLen sCap : Nat)
    (hd : a.eval d = .slice dp dLen dCap) (hs : a.eval s = .slice sp sLen sCap) (cur : Array Value) (t : TypeId) (hg : w.heap[g]? = some (.cells cur t (0, 0))) (news : List Int) (hn : news.length = Nat.min sLen dLen)
    (hpos : 0 < news.length → dp = some ⟨g, off, none⟩ ∧ ∃ ad, sp = some ad ∧ ∀ j, j < news.length → w.cell? (ad.add j) = some (.int .u8 (news.getD j 0))) (hfit : off + news.length ≤ cur.size)
    (h : ∀ w', w'.heap[g]? = some (.cells (cur.toList.take off ++ (news.map (Value.int .u8) ++ cur.toList.drop (off + news.length))).toArray t (0, 0)) → Wr g w w' → K (a.put o.dst (goInt news.length)) w') : o.wp Try.prog a w K Q := by
  by_cases h0 : news.length = 0
  · obtain rfl : news = [] := List.eq_nil_of_length_eq_zero h0
    have hrun := run_copy_none (P := Try.prog) w 22 22 o.type 5 dp sp dLen dCap sLen sCap Try.underlying22 Try.sizeU8 (by simpa using hn.symm)
    unfold Oper.wp
    simp [execOp, ho, resolve, invoke, builtin, hd, hs, hrun, Result.andThen]
    exact h w (by simpa using hg) (Wr.refl _ _)
  · obtain ⟨rfl, ad, rfl, hsrc⟩ := hpos (by omega)
    have hrun := run_copy_row (P := Try.prog) w 22 22 o.type 5 g off dLen dCap ad sLen sCap cur t (news.map (Value.int .u8)) Try.underlying22 Try.sizeU8 hg (by simpa using hn) (fun j v hv => by
      have hj : j < news.length := by have := (List.getElem?_eq_some_iff.1 hv).1; simpa using this
      rw [hsrc j hj]; simp [hj] at hv; simp [hj, hv]) (by simpa using hfit) (ints_oneCell _ _)
    unfold Oper.wp
    simp [execOp, ho, resolve, invoke, builtin, hd, hs, hrun, Result.andThen]
    exact h _ (by rw [setRow_heap _ _ _ _ _ _ hg]) (Wr.setRow _ _ _)

/-- A row of the call's own, a stretch of it replaced. -/
theorem Own.splice {w w' : World} {B g n c : Nat} {zs news : List Int} {cur : Array Value} (h : Own w B (.slice (some ⟨g, 0, none⟩) n c) zs) (off : Nat) (hfit : off + news.length ≤ zs.length) (hg : w.heap[g]? = some (.cells cur 5 (0, 0)))
    (hw : w'.heap[g]? = some (.cells (cur.toList.take off ++ (news.map (Value.int .u8) ++ cur.toList.drop (off + news.length))).toArray 5 (0, 0))) : Own w' B (.slice (some ⟨g, 0, none⟩) n c) (zs.take off ++ (news ++ zs.drop (off + news.length))) := by
  obtain ⟨g', c', e⟩ := h.2
  cases e
  have hl : (zs.take off ++ (news ++ zs.drop (off + news.length))).length = zs.length := by simp; omega
  obtain ⟨h1, ⟨h2, _⟩ | ⟨g', cap, cur', hv, hb, hh, hc, hm, hs, ht⟩⟩ := h.1
  · cases h2
  · cases hv
    rw [hg] at hh
    obtain rfl := (by simpa using hh : cur = cur')
    refine ⟨⟨by rw [List.length_map, Nat.mul_one], .inr ⟨g, c, _, ?_, hb, hw, by omega, hm, ?_, ?_⟩⟩, g, c, by rw [hl]⟩
    · rw [hl]
    · simp; omega
    · rw [hl]
      have e1 : cur.toList.take off = (zs.take off).map (Value.int .u8) := by
        have : (cur.toList.take (zs.length * 1)).take off = (zs.map (Value.int .u8)).take off := by rw [ht]
        rw [List.take_take, Nat.min_eq_left (by omega)] at this
        rw [this, List.map_take]
      have e2 : (cur.toList.drop (off + news.length)).take (zs.length - (off + news.length)) = (zs.drop (off + news.length)).map (Value.int .u8) := by
        have : (cur.toList.take (zs.length * 1)).drop (off + news.length) = (zs.map (Value.int .u8)).drop (off + news.length) := by rw [ht]
        rw [List.drop_take] at this
        rw [Nat.mul_one] at this
        rw [this, List.map_drop]
      have hl1 : (cur.toList.take off).length = off := by simp; omega
      have hsum : zs.length * 1 = (cur.toList.take off).length + ((news.map (Value.int .u8)).length + (zs.length - (off + news.length))) := by rw [hl1, List.length_map]; omega
      rw [hsum, List.take_length_add_append, List.take_length_add_append, e1, e2]
      simp
end Go.Proofs.Ytiignammhieidaa
