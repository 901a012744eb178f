/-
  Own work: elements read whole and stored whole; squares and powers.
-/
import Derived.Test.YthghkfncpdnpoacITm
import Derived.Deep.MidRow
namespace Go.Proofs.Ythghkfncpdnpoac
open Go.ChangeShapes Go.WideShapes Go.ChangeAt Go.RowKit
set_option linter.unusedVariables false

theorem wpList_loadE {w : World} {ops : Array Oper} {rest : List Oper} {o : Oper} {a : Act} {Q : Exit → Act → World → Prop} (hgd : o.guard = none) (x : Operand) (ho : o.op = .load 82 x)
    (g p : Nat) (es : List Int) (hx : a.eval x = .pointer (some ⟨g, p, none⟩)) (h : EAt w g p es) (hK : wpList Try.prog ops Q rest (a.put o.dst (.agg (es.map (Value.int .u64)).toArray)) w) :
    wpList Try.prog ops Q (o :: rest) a w := by
  have hr : w.rangeAt g p (es.map (Value.int .u64)) := fun j v hv => by
    have hj : j < es.length := by have := (List.getElem?_eq_some_iff.1 hv).1; simpa using this
    rw [h.2.2 j (by have := h.2.1.1; omega)]
    simp [hj] at hv; simp [hj, hv]
  have hl := h.2.1.1
  exact wpList_load_mid hgd 82 x ho g p hx (es.map (Value.int .u64)) _ hr Try.underlying82 rfl (by rw [Try.sizeEl]; simp [hl]) hK
theorem wpList_storeE {w : World} {ops : Array Oper} {rest : List Oper} {o : Oper} {a : Act} {Q : Exit → Act → World → Prop} (hgd : o.guard = none) (x y : Operand) (ho : o.op = .store 82 x y)
    (G : Nat) (es zs : List Int) (hx : a.eval x = .pointer (some ⟨G, 0, none⟩)) (hy : a.eval y = .agg (es.map (Value.int .u64)).toArray) (hl : es.length = 5) (hz : zs.length = 5) (hr : RowW w G 82 zs)
    (hK : ∀ w', RowW w' G 82 es → Wr G w w' → wpList Try.prog ops Q rest (a.put o.dst undef) w') :
    wpList Try.prog ops Q (o :: rest) a w :=
  wpList_store_row hgd 82 x y ho G ((es.map (Value.int .u64)).toArray) hx hy 82 _ hr (sizeEl hl) (by simp [hl, hz]) (all_oneCell_toArray (ints_oneCell _ _)) (hK _ (hr.setRow es) (Wr.setRow _ _ _))
theorem EAt.of_row {w : World} {g : Nat} {es : List Int} (h : RowW w g 82 es) (hk : EOk es) : EAt w g 0 es :=
  ⟨h.lt, hk, fun i hi => by rw [Nat.zero_add]; exact h.cell i (by have := hk.1; omega)⟩
theorem row0 (w : World) : RowW (w.alloc (.cells #[.int .u64 0, .int .u64 0, .int .u64 0, .int .u64 0, .int .u64 0] 82)) w.heap.size 82 [0, 0, 0, 0, 0] := heap_alloc_new w _
theorem resE {fn : Func} {p : Tmp} (h : fn.results = #[.cell p 82]) (tmps : Array Value) (w : World) (g : Nat) (es : List Int) (hl : es.length = 5) (hp : tmps.getD p undef = .pointer (some ⟨g, 0, none⟩)) (hr : RowW w g 82 es) :
    (results fn tmps).run Try.prog w = .ok (.agg (es.map (Value.int .u64)).toArray) w :=
  results_cell_row h tmps w g 82 _ (0, 0) _ hp hr Try.underlying82 rfl (sizeEl hl)

/-- x squared n times. -/
def sqN (x : Int) : Nat → Int
  | 0 => x
  | n + 1 => sqN x n * sqN x n % fp
/-- The state of squared: the answer's block and the block that turns. -/
structure SqS (w : World) (x : Int) (wr : World) : Prop where
  res : RowW wr w.heap.size 82 [0, 0, 0, 0, 0]
  row : ∃ es, RowW wr (w.heap.size + 1) 82 es ∧ EOk es ∧ ev es = x
  below : Below w.heap.size w wr

set_option maxHeartbeats 1000000 in
theorem squared_any (g o : Nat) (xs : List Int) (n : Nat) (w : World) (hn : n ≤ 1048576) (h : EAt w g o xs) :
    Calls Try.prog 125 #[.pointer (some ⟨g, o, none⟩), .int .i64 n] w (EP w (sqN (ev xs) n)) := by
  have HX : Hid (EAt (w.alloc (.cells #[.int .u64 0, .int .u64 0, .int .u64 0, .int .u64 0, .int .u64 0] 82)) g o xs) := h.below (below_new2 _ _)
  have HK : Hid (EOk xs) := h.2.1
  clear h
  go_enter Try.func125, Try.ntmps125
  go_wp2_with (first
    | (refine wpList_loadE rfl (.tmp 7) rfl g o xs rfl HX.out ?_)
    | (refine wpList_storeE rfl (.tmp 5) (.tmp 8) rfl (w.heap.size + 1) xs [0, 0, 0, 0, 0] rfl rfl HK.out.1 rfl (heap_alloc2_new _ _ _) ?_)
    | fail)
  intro w1 hr1 hw1
  have HS : Hid (SqS w (sqN (ev xs) 0) w1) := by
    refine ⟨hw1.rowW (heap_alloc2_old _ _ _) (by omega), ⟨xs, hr1, HK.out, rfl⟩, ?_⟩
    exact (((Below.refl _ _).alloc (Nat.le_refl _) _).alloc (by simp) _).trans (hw1.below (by omega))
  clear hr1 hw1 HX
  go_wp2
  go_loopw [10] (fun i wr => ∃ k : Nat, k ≤ n ∧ i = .int .i64 k ∧ SqS w (sqN (ev xs) k) wr) (fun i _ => n - (intOf i).toNat)
  case atStart => exact ⟨0, Nat.zero_le _, rfl, HS.out⟩
  case round =>
    clear HS
    obtain ⟨k, hk, rfl, hst⟩ := hrel
    obtain ⟨hres, ⟨es, hrow, hok, hev⟩, hbel⟩ := hst
    by_cases hlt : k < n
    · have hlt' : (k : Int) < (n : Int) := by omega
      have E := EAt.of_row hrow hok
      go_wp2_with fail
      refine (times_any _ _ _ _ es es _ E E).mono ?_
      rintro e w2 ⟨fs, hfk, hfv, rfl, b2⟩
      have s2 := hbel.size
      have hl1 := hrow.lt
      have HR2 : Hid (RowW w2 (w.heap.size + 1) 82 es) := hrow.below b2 hl1
      have HRS : Hid (RowW w2 w.heap.size 82 [0, 0, 0, 0, 0]) := hres.below b2 hres.lt
      have HB2 : Hid (Below w.heap.size w w2) := hbel.trans (b2.mono s2)
      have HF : Hid (EOk fs ∧ ev fs = sqN (ev xs) (k + 1)) := ⟨hfk, by rw [hfv, hev]; rfl⟩
      have HL : Hid (es.length = 5) := hok.1
      clear E hrow hok hev hres hbel b2 hfk hfv
      go_wp2_with (first
        | (refine wpList_storeE rfl (.tmp 5) (.tmp 12) rfl (w.heap.size + 1) fs es rfl rfl HF.out.1.1 HL.out HR2.out ?_)
        | fail)
      intro w3 hr3 hw3
      have HS3 : Hid (SqS w (sqN (ev xs) (k + 1)) w3) := ⟨hw3.rowW HRS.out (by omega), ⟨fs, hr3, HF.out.1, HF.out.2⟩, HB2.out.trans (hw3.below (by omega))⟩
      clear hr3 hw3 HR2 HRS HB2
      go_wp2
      go_roundw
      case rel => exact ⟨k + 1, by omega, by go_num, HS3.out⟩
      case measure => simp [intOf]; omega
    · obtain rfl : k = n := by omega
      have HR2 : Hid (EAt wr (w.heap.size + 1) 0 es) := EAt.of_row hrow hok
      have HRS : Hid (RowW wr w.heap.size 82 [0, 0, 0, 0, 0]) := hres
      have HB2 : Hid (Below w.heap.size w wr) := hbel
      have HF : Hid (EOk es ∧ ev es = sqN (ev xs) k) := ⟨hok, hev⟩
      clear hrow hok hev hres hbel
      go_wp2_with (first
        | (refine wpList_loadE rfl (.tmp 5) rfl (w.heap.size + 1) 0 es rfl HR2.out ?_)
        | (refine wpList_storeE rfl (.tmp 4) (.tmp 14) rfl w.heap.size es [0, 0, 0, 0, 0] rfl rfl HF.out.1.1 rfl HRS.out ?_)
        | fail)
      intro w3 hr3 hw3
      have HB3 : Hid (Below w.heap.size w w3) := HB2.out.trans (hw3.below (Nat.le_refl _))
      have HR3 : Hid (RowW w3 w.heap.size 82 es) := hr3
      clear hr3 hw3 HR2 HRS HB2
      go_wp2
      exact bodyPost_ret (v := .agg (es.map (Value.int .u64)).toArray) (resE rfl _ _ w.heap.size es HF.out.1.1 rfl HR3.out) rfl ⟨es, HF.out.1, HF.out.2, rfl, HB3.out⟩
end Go.Proofs.Ythghkfncpdnpoac
