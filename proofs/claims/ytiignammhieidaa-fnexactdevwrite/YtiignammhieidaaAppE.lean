/-
  Own work: append of bytes to an empty slice that was just made.
-/
import Derived.Test.YtiignammhieidaaCpy
namespace Go.Proofs.Ytiignammhieidaa
open Go.ChangeShapes Go.WideShapes Go.ChangeAt Go.RowKit
set_option linter.unusedVariables false

theorem run_appE0 (w : World) (ty : TypeId) (v : Addr) (x : Option Addr) (c : Nat) : (Builtin.append_ #[22, 22] ty #[.slice (some v) 0 0, .slice x 0 c]).run Try.prog w = .ok (.slice (some v) 0 0) w := by
  obtain ⟨i0, hi, hz0, hz1, hz2⟩ := info_parts Try.infoU8'
  have hf := fun ad => run_firstCells_some (P := Try.prog) w i0.size 0 ad 0 c [] (by simp) (fun j v hv => by simp at hv)
  have hs : ∀ p, (storeCells p []).run Try.prog w = .ok () w := fun _ => rfl
  cases x with
  | none => simp [Builtin.append_, run_underlying Try.underlying22, sizeOf, typeInfo, zeroValue, hi, hz0, Builtin.lenOf, run_firstCells_none, hs]
  | some ad => simp [Builtin.append_, run_underlying Try.underlying22, sizeOf, typeInfo, zeroValue, hi, hz0, Builtin.lenOf, hf, hs]
theorem wp_appE (w : World) {o : Oper} {a : Act} {K : Act → World → Prop} {Q : Exit → Act → World → Prop} (s x : Operand) (hop : o.op = Op.call { callee := Callee.builtin Builtin.append, args := #[s, x], argTypes := #[22, 22] })
    (S B : Nat) (hs : a.eval s = .slice (some ⟨B, 0, none⟩) 0 0) (hown : Own w S (.slice (some ⟨B, 0, none⟩) 0 0) []) (xa : Option Addr) (n c : Nat) (zs : List Int) (hx : a.eval x = .slice xa n c) (hl : zs.length = n) (hA : At .u8 w xa zs) (hb : n ≤ 1048576) (hSw : S ≤ w.heap.size)
    (h : ∀ v' w', Own w' S v' zs → Below w.heap.size w w' → K (a.put o.dst v') w') : o.wp Try.prog a w K Q := by
  by_cases h0 : n = 0
  · subst h0
    have hz : zs = [] := List.eq_nil_of_length_eq_zero hl
    have hk := h (.slice (some ⟨B, 0, none⟩) 0 0) w (by rw [hz]; exact hown) (Below.refl _ _)
    have hr := run_appE0 w o.type ⟨B, 0, none⟩ xa c
    unfold Oper.wp execOp
    simp only [hop, resolve, invoke, builtin, Sem.run_bind, Sem.run_pure, Result.andThen_ok, List.map_toArray, List.map_cons, List.map_nil, hs, hx, hr]
    exact hk
  · obtain ⟨b, off, rfl, hbl, hc⟩ := hA.get (by omega)
    obtain ⟨i0, hi, hz0, hz1, hz2⟩ := info_parts Try.infoU8'
    have hnews : ∀ j u, (zs.map (Value.int .u8))[j]? = some u → w.cell? ((⟨b, off, none⟩ : Addr).add j) = some u := by
      intro j u hu
      have hj : j < zs.length := by have := (List.getElem?_eq_some_iff.1 hu).1; simpa using this
      rw [Addr.add_lit, hc j hj]
      simp [hj] at hu; simp [hj, hu]
    have hfit : Builtin.nextslicecap (0 + n) 0 * i0.bytes ≤ 281474976710656 := by rw [Nat.zero_add, nextslicecap_zero (by omega), hz2]; omega
    have hg := run_append_grow (P := Try.prog) w 22 o.type 5 i0 (.int .u8 0) Try.underlying22 hi hz0 ⟨B, 0, none⟩ 0 0 [] (by simp) (fun j v hv => by simp at hv) ⟨b, off, none⟩ n c (zs.map (Value.int .u8)) (by simp [hz1, hl]) hnews (by omega) (by omega) hfit
    obtain ⟨v', w', hr, h2, h3, h4⟩ := run_append_own (P := Try.prog) w S 22 o.type 5 i0 (.int .u8 0) 1 1 Try.underlying22 hi hz0 hz1 hz2 rfl (by decide) _ 0 [] hown.1 ⟨b, off, none⟩ n c (zs.map (Value.int .u8)) (by simp [hl]) hnews (ints_oneCell _ _) (by unfold maxLen; omega) (by omega) hSw
    have he := hr.symm.trans hg
    injection he with e1 e2
    have hB : Below w.heap.size w w' := by rw [e2]; exact (Below.refl _ _).drew.alloc (Nat.le_refl _) _
    have hO : Own w' S v' zs := by
      refine ⟨?_, w.heap.size, grownCap w (0 + n) 0 5, by rw [e1, hl, Nat.zero_add]⟩
      rw [hl]
      simpa using h2
    have hk := h v' w' hO hB
    unfold Oper.wp execOp
    simp only [hop, resolve, invoke, builtin, Sem.run_bind, Sem.run_pure, Result.andThen_ok, List.map_toArray, List.map_cons, List.map_nil, hs, hx, hr]
    exact hk
end Go.Proofs.Ytiignammhieidaa
