/-
  Own work: append to an empty slice that was just made, whatever its elements are made of.
-/
import Derived.Test.YthghkfncpdnpoadCpe
namespace Go.Proofs.Ythghkfncpdnpoad
open Go.ChangeShapes Go.WideShapes Go.ChangeAt Go.RowKit
set_option linter.unusedVariables false

theorem run_appG0 (tS tE : TypeId) (z : Value) (size bytes : Nat) (hinfo : (Try.prog.info? tE).map (fun i => (i.zero, i.size, i.bytes)) = some (some z, size, bytes)) (hu : Try.prog.underlying tS = some (.slice tE))
    (w : World) (ty : TypeId) (v : Addr) (x : Option Addr) (c : Nat) : (Builtin.append_ #[tS, tS] ty #[.slice (some v) 0 0, .slice x 0 c]).run Try.prog w = .ok (.slice (some v) 0 0) w := by
  obtain ⟨i0, hi, hz0, hz1, hz2⟩ := info_parts hinfo
  have hf := fun ad => run_firstCells_some (P := Try.prog) w i0.size 0 ad 0 c [] (by simp) (fun j v hv => by simp at hv)
  have hs : ∀ p, (storeCells p []).run Try.prog w = .ok () w := fun _ => rfl
  cases x with
  | none => simp [Builtin.append_, run_underlying hu, sizeOf, typeInfo, zeroValue, hi, hz0, Builtin.lenOf, run_firstCells_none, hs]
  | some ad => simp [Builtin.append_, run_underlying hu, sizeOf, typeInfo, zeroValue, hi, hz0, Builtin.lenOf, hf, hs]
/-- An empty slice that was just made. -/
def EmS (lo : Nat) (tE : TypeId) (w : World) (v : Value) : Prop := ∃ g, v = .slice (some ⟨g, 0, none⟩) 0 0 ∧ lo ≤ g ∧ w.heap[g]? = some (.cells #[] tE (0, 0))
theorem EmS.below {lo : Nat} {tE : TypeId} {w w' : World} {v : Value} (h : EmS lo tE w v) (b : Below w.heap.size w w') : EmS lo tE w' v := by
  obtain ⟨g, e, h1, h2⟩ := h; exact ⟨g, e, h1, by rw [b.block g (Array.getElem?_eq_some_iff.1 h2).1]; exact h2⟩
theorem EmS.wr {lo R : Nat} {tE : TypeId} {w w' : World} {v : Value} (h : EmS lo tE w v) (hw : Wr R w w') (hR : R < lo) : EmS lo tE w' v := by
  obtain ⟨g, e, h1, h2⟩ := h; exact ⟨g, e, h1, by rw [hw.block g (by omega)]; exact h2⟩
theorem EmS.new {lo : Nat} (tE : TypeId) (w : World) (h : lo ≤ w.heap.size) : EmS lo tE (w.alloc (.cells #[] tE)) (.slice (some ⟨w.heap.size, 0, none⟩) 0 0) := ⟨_, rfl, h, heap_alloc_new w _⟩
theorem EmS.owns {lo : Nat} {tE : TypeId} {w : World} {g : Nat} (size : Nat) (h1 : lo ≤ g) (h2 : w.heap[g]? = some (.cells #[] tE (0, 0))) : w.ownsRow lo tE size (.slice (some ⟨g, 0, none⟩) 0 0) 0 [] :=
  ⟨by simp, .inr ⟨g, 0, #[], rfl, h1, h2, Nat.le_refl _, by simp [maxLen], by simp, by simp⟩⟩
theorem wp_appG (tS tE : TypeId) (z : Value) (size bytes : Nat) (hinfo : (Try.prog.info? tE).map (fun i => (i.zero, i.size, i.bytes)) = some (some z, size, bytes)) (hu : Try.prog.underlying tS = some (.slice tE)) (hzs : z.cells.size = size) (hsz : 0 < size) (hby : bytes ≤ 64)
    (w : World) {o : Oper} {a : Act} {K : Act → World → Prop} {Q : Exit → Act → World → Prop} (s x : Operand) (hop : o.op = Op.call { callee := Callee.builtin Builtin.append, args := #[s, x], argTypes := #[tS, tS] })
    (S : Nat) (v : Value) (hs : a.eval s = v) (hem : EmS S tE w v) (xa : Option Addr) (n c : Nat) (zs : List Int) (hx : a.eval x = .slice xa n c) (hl : zs.length = n * size) (hA : At .i64 w xa zs) (hb : n ≤ 1048576) (hSw : S ≤ w.heap.size)
    (h : ∀ v' w', w'.ownsRow S tE size v' n (zs.map (Value.int .i64)) → Below w.heap.size w w' → K (a.put o.dst v') w') : o.wp Try.prog a w K Q := by
  obtain ⟨B, rfl, hB, hrow⟩ := hem
  have hown := EmS.owns size hB hrow
  by_cases h0 : n = 0
  · subst h0
    have hz : zs = [] := List.eq_nil_of_length_eq_zero (by omega)
    have hk := h (.slice (some ⟨B, 0, none⟩) 0 0) w (by rw [hz]; exact hown) (Below.refl _ _)
    have hr := run_appG0 tS tE z size bytes hinfo hu w o.type ⟨B, 0, none⟩ xa c
    unfold Oper.wp execOp
    simp only [hop, resolve, invoke, builtin, Sem.run_bind, Sem.run_pure, Result.andThen_ok, List.map_toArray, List.map_cons, List.map_nil, hs, hx, hr]
    exact hk
  · have hz0' : 0 < zs.length := by rw [hl]; exact Nat.mul_pos (by omega) hsz
    obtain ⟨b, off, rfl, hbl, hc⟩ := hA.get hz0'
    obtain ⟨i0, hi, hz0, hz1, hz2⟩ := info_parts hinfo
    have hnews : ∀ j u, (zs.map (Value.int .i64))[j]? = some u → w.cell? ((⟨b, off, none⟩ : Addr).add j) = some u := by
      intro j u hu
      have hj : j < zs.length := by have := (List.getElem?_eq_some_iff.1 hu).1; simpa using this
      rw [Addr.add_lit, hc j hj]
      simp [hj] at hu; simp [hj, hu]
    have hle : n * bytes ≤ 1048576 * 64 := Nat.mul_le_mul hb hby
    have hfit : Builtin.nextslicecap (0 + n) 0 * i0.bytes ≤ 281474976710656 := by rw [Nat.zero_add, nextslicecap_zero (by omega), hz2]; omega
    have hg := run_append_grow (P := Try.prog) w tS o.type tE i0 z hu hi hz0 ⟨B, 0, none⟩ 0 0 [] (by simp) (fun j v hv => by simp at hv) ⟨b, off, none⟩ n c (zs.map (Value.int .i64)) (by simp [hz1, hl]) hnews (by omega) (by omega) hfit
    obtain ⟨v', w', hr, h2, h3, h4⟩ := run_append_own (P := Try.prog) w S tS o.type tE i0 z size bytes hu hi hz0 hz1 hz2 hzs hsz _ 0 [] hown ⟨b, off, none⟩ n c (zs.map (Value.int .i64)) (by simp [hl]) hnews (ints_oneCell _ _) (by unfold maxLen; omega) (by rw [Nat.zero_add]; omega) hSw
    have he := hr.symm.trans hg
    injection he with e1 e2
    have hBl : Below w.heap.size w w' := by rw [e2]; exact (Below.refl _ _).drew.alloc (Nat.le_refl _) _
    have hk := h v' w' (by simpa using h2) hBl
    unfold Oper.wp execOp
    simp only [hop, resolve, invoke, builtin, Sem.run_bind, Sem.run_pure, Result.andThen_ok, List.map_toArray, List.map_cons, List.map_nil, hs, hx, hr]
    exact hk
theorem wpList_appG (tS tE : TypeId) (z : Value) (size bytes : Nat) (hinfo : (Try.prog.info? tE).map (fun i => (i.zero, i.size, i.bytes)) = some (some z, size, bytes)) (hu : Try.prog.underlying tS = some (.slice tE)) (hzs : z.cells.size = size) (hsz : 0 < size) (hby : bytes ≤ 64)
    (w : World) {ops : Array Oper} {rest : List Oper} {o : Oper} {a : Act} {Q : Exit → Act → World → Prop} (hgd : o.guard = none) (s x : Operand) (hop : o.op = Op.call { callee := Callee.builtin Builtin.append, args := #[s, x], argTypes := #[tS, tS] })
    (S : Nat) (v : Value) (hs : a.eval s = v) (hem : EmS S tE w v) (xa : Option Addr) (n c : Nat) (zs : List Int) (hx : a.eval x = .slice xa n c) (hl : zs.length = n * size) (hA : At .i64 w xa zs) (hb : n ≤ 1048576) (hSw : S ≤ w.heap.size)
    (h : ∀ v' w', w'.ownsRow S tE size v' n (zs.map (Value.int .i64)) → Below w.heap.size w w' → wpList Try.prog ops Q rest (a.put o.dst v') w') : wpList Try.prog ops Q (o :: rest) a w :=
  wpList_plain hgd fun _ hK => wp_appG tS tE z size bytes hinfo hu hzs hsz hby w s x hop S v hs hem xa n c zs hx hl hA hb hSw fun v' w' h1 h2 => hK _ _ (h v' w' h1 h2)
end Go.Proofs.Ythghkfncpdnpoad
