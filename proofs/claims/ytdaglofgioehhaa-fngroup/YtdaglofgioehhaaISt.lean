/-
  Own work: the state of a straight run over elements: rows of the call's own, elements that were there.
-/
import Derived.Test.YtdaglofgioehhaaIPow
namespace Go.Proofs.Ytdaglofgioehhaa
open Go.ChangeShapes Go.WideShapes Go.ChangeAt Go.RowKit
set_option linter.unusedVariables false

/-- Rows R of the call's own (the newest first), elements E that were there before. -/
structure Run (w wr : World) (R : List (Nat × List Int)) (E : List (Nat × Nat × List Int)) : Prop where
  below : Below w.heap.size w wr
  rows : ∀ r ∈ R, w.heap.size ≤ r.1 ∧ RowW wr r.1 43 r.2 ∧ EOk r.2
  order : R.Pairwise fun a b => b.1 < a.1
  els : ∀ e ∈ E, e.1 < w.heap.size ∧ EAt wr e.1 e.2.1 e.2.2
theorem Run.start (w : World) (E : List (Nat × Nat × List Int)) (h : ∀ e ∈ E, EAt w e.1 e.2.1 e.2.2) : Run w w [] E :=
  ⟨Below.refl _ _, by simp, List.Pairwise.nil, fun e he => ⟨(h e he).1, h e he⟩⟩
theorem Run.call {w wr w' : World} {R : List (Nat × List Int)} {E : List (Nat × Nat × List Int)} (h : Run w wr R E) (b : Below wr.heap.size wr w') : Run w w' R E :=
  ⟨h.below.trans (b.mono h.below.size), fun r hr => ⟨(h.rows r hr).1, (h.rows r hr).2.1.below b (h.rows r hr).2.1.lt, (h.rows r hr).2.2⟩, h.order, fun e he => ⟨(h.els e he).1, (h.els e he).2.below b⟩⟩
theorem Run.push {w wr w' : World} {R : List (Nat × List Int)} {E : List (Nat × Nat × List Int)} (h : Run w wr R E) (b : Below wr.heap.size wr w') {es : List Int} (hr : RowW w' wr.heap.size 43 es) (hk : EOk es) :
    Run w w' ((wr.heap.size, es) :: R) E := by
  have c := h.call b
  refine ⟨c.below, ?_, ?_, c.els⟩
  · intro r hm
    rcases List.mem_cons.1 hm with rfl | hm
    · exact ⟨h.below.size, hr, hk⟩
    · exact c.rows r hm
  · exact List.Pairwise.cons (fun r hm => (h.rows r hm).2.1.lt) h.order
theorem zero_ok : EOk [0, 0, 0, 0, 0] := ⟨rfl, fun i => by rcases i with _ | _ | _ | _ | _ | i <;> simp, fun i _ => by rcases i with _ | _ | _ | _ | _ | i <;> simp, by decide⟩
theorem Run.room {w wr : World} {R : List (Nat × List Int)} {E : List (Nat × Nat × List Int)} (h : Run w wr R E) :
    Run w (wr.alloc (.cells #[.int .u64 0, .int .u64 0, .int .u64 0, .int .u64 0, .int .u64 0] 43)) ((wr.heap.size, [0, 0, 0, 0, 0]) :: R) E :=
  h.push (below_new2 _ _) (row0 wr) zero_ok
theorem Run.el {w wr : World} {R : List (Nat × List Int)} {E : List (Nat × Nat × List Int)} (h : Run w wr R E) (i : Nat) (g o : Nat) (es : List Int) (hi : E[i]? = some (g, o, es)) : EAt wr g o es :=
  (h.els _ (List.mem_of_getElem? hi)).2
theorem Run.row {w wr : World} {R : List (Nat × List Int)} {E : List (Nat × Nat × List Int)} (h : Run w wr R E) (i : Nat) (g : Nat) (es : List Int) (hi : R[i]? = some (g, es)) : RowW wr g 43 es :=
  (h.rows _ (List.mem_of_getElem? hi)).2.1
theorem Run.ok {w wr : World} {R : List (Nat × List Int)} {E : List (Nat × Nat × List Int)} (h : Run w wr R E) (i : Nat) (g : Nat) (es : List Int) (hi : R[i]? = some (g, es)) : EOk es :=
  (h.rows _ (List.mem_of_getElem? hi)).2.2
theorem Run.re {w wr : World} {R : List (Nat × List Int)} {E : List (Nat × Nat × List Int)} (h : Run w wr R E) (i : Nat) (g : Nat) (es : List Int) (hi : R[i]? = some (g, es)) : EAt wr g 0 es :=
  EAt.of_row (h.row i g es hi) (h.ok i g es hi)
theorem Run.put {w wr w' : World} {R : List (Nat × List Int)} {E : List (Nat × Nat × List Int)} (h : Run w wr R E) (i : Nat) (g : Nat) (zs es : List Int) (hi : R[i]? = some (g, zs)) (hw : Wr g wr w') (hr : RowW w' g 43 es) (hk : EOk es) :
    Run w w' (R.set i (g, es)) E := by
  have hg : w.heap.size ≤ g := (h.rows _ (List.mem_of_getElem? hi)).1
  have hil : i < R.length := (List.getElem?_eq_some_iff.1 hi).1
  have hie : R[i] = (g, zs) := (List.getElem?_eq_some_iff.1 hi).2
  have ho := List.pairwise_iff_getElem.1 h.order
  refine ⟨h.below.trans (hw.below hg), ?_, ?_, fun e he => ⟨(h.els e he).1, (h.els e he).2.wr hw (by have := (h.els e he).1; omega)⟩⟩
  · intro r hm
    obtain ⟨j, hj, rfl⟩ := List.getElem_of_mem hm
    rw [List.length_set] at hj
    rw [List.getElem_set]
    split
    · exact ⟨hg, hr, hk⟩
    · rename_i hne
      have q := h.rows _ (List.getElem_mem hj)
      refine ⟨q.1, hw.rowW q.2.1 ?_, q.2.2⟩
      rcases Nat.lt_or_gt_of_ne hne with hlt | hgt
      · have := ho i j hil hj hlt; rw [hie] at this; simp only at this; omega
      · have := ho j i hj hil hgt; rw [hie] at this; simp only at this; omega
  · rw [List.pairwise_iff_getElem]
    intro a b ha hb hab
    rw [List.length_set] at ha hb
    have := ho a b ha hb hab
    rw [List.getElem_set, List.getElem_set]
    split <;> split <;> simp_all

/-- A new variable and the value that it is given. -/
theorem wpList_storeN {w wr : World} {R : List (Nat × List Int)} {E : List (Nat × Nat × List Int)} (S : Run w wr R E)
    {ops : Array Oper} {rest : List Oper} {o : Oper} {a : Act} {Q : Exit → Act → World → Prop} (hgd : o.guard = none) (x y : Operand) (ho : o.op = .store 43 x y)
    (es : List Int) (hx : a.eval x = .pointer (some ⟨wr.heap.size, 0, none⟩)) (hy : a.eval y = .agg (es.map (Value.int .u64)).toArray) (hk : EOk es)
    {wa : World} (hwa : wa = wr.alloc (.cells #[.int .u64 0, .int .u64 0, .int .u64 0, .int .u64 0, .int .u64 0] 43))
    (hK : ∀ w', Run w w' ((wr.heap.size, es) :: R) E → wpList Try.prog ops Q rest (a.put o.dst undef) w') :
    wpList Try.prog ops Q (o :: rest) a wa := by
  subst hwa
  exact wpList_storeE hgd x y ho wr.heap.size es [0, 0, 0, 0, 0] hx hy hk.1 rfl (row0 wr) fun w' hr hw => hK w' (S.push ((below_new2 _ _).trans (hw.below (Nat.le_refl _))) hr hk)
/-- A variable of the call's own that is given a value. -/
theorem wpList_storeR {w wr : World} {R : List (Nat × List Int)} {E : List (Nat × Nat × List Int)} (S : Run w wr R E)
    {ops : Array Oper} {rest : List Oper} {o : Oper} {a : Act} {Q : Exit → Act → World → Prop} (hgd : o.guard = none) (x y : Operand) (ho : o.op = .store 43 x y)
    (i g : Nat) (zs es : List Int) (hi : R[i]? = some (g, zs)) (hx : a.eval x = .pointer (some ⟨g, 0, none⟩)) (hy : a.eval y = .agg (es.map (Value.int .u64)).toArray) (hk : EOk es)
    {wa : World} (hwa : wa = wr)
    (hK : ∀ w', Run w w' (R.set i (g, es)) E → wpList Try.prog ops Q rest (a.put o.dst undef) w') :
    wpList Try.prog ops Q (o :: rest) a wa := by
  subst hwa
  exact wpList_storeE hgd x y ho g es zs hx hy hk.1 (S.ok i g zs hi).1 (S.row i g zs hi) fun w' hr hw => hK w' (S.put i g zs es hi hw hr hk)
/-- The answer out of its variable. -/
theorem Run.ret {w wr : World} {R : List (Nat × List Int)} {E : List (Nat × Nat × List Int)} (S : Run w wr R E) {fn : Func} {p : Tmp} (h : fn.results = #[.cell p 43]) (tmps : Array Value)
    (i g : Nat) (es : List Int) (hi : R[i]? = some (g, es)) (hp : tmps.getD p undef = .pointer (some ⟨g, 0, none⟩)) :
    (results fn tmps).run Try.prog wr = .ok (.agg (es.map (Value.int .u64)).toArray) wr :=
  resE h tmps wr g es (S.ok i g es hi).1 hp (S.row i g es hi)

def m250 (n : Nat) : Nat := 2 ^ n - 1
def M250 : Nat := m250 250
theorem ones250_any (g o : Nat) (xs : List Int) (w : World) (h : EAt w g o xs) :
    Calls Try.prog 83 #[.pointer (some ⟨g, o, none⟩), .int .i64 250] w (EP w (ev xs ^ M250 % fp)) := ones_any 250 g o xs w (by decide) (by decide) h
theorem e250 (x : Int) (m k r : Nat) : sqN (x ^ m % fp) k * (x ^ r % fp) % fp = x ^ (m * 2 ^ k + r) % fp := by
  have b : 0 ≤ x ^ m % fp ∧ x ^ m % fp < fp := by unfold fp; omega
  rw [sqN_eq _ b.1 b.2, pow_mod_pow, mod_mul_mod, ← Int.pow_add]
theorem pow1_mod (x : Int) (h0 : 0 ≤ x) (h1 : x < fp) : x ^ 1 % fp = x := by
  rw [Int.pow_succ, Int.pow_zero, Int.one_mul]; exact Int.emod_eq_of_lt h0 h1

set_option maxHeartbeats 2000000 in
theorem rootPower_of (g o : Nat) (xs : List Int) (w : World) (h : EAt w g o xs) (v1 goalv : Int) (hv1 : ev xs ^ M250 % fp = v1) (hgoal : sqN v1 2 * ev xs % fp = goalv) :
    Calls Try.prog 86 #[.pointer (some ⟨g, o, none⟩)] w (EP w goalv) := by
  have hev := ev_bd xs
  have HE : Hid (sqN v1 2 * ev xs % fp = goalv) := hgoal
  have HV1 : Hid (ev xs ^ M250 % fp = v1) := hv1
  have S0 := (Run.start w [(g, o, xs)] (fun e he => by rcases List.mem_singleton.1 he with rfl; exact h)).room
  have HO : Hid (Run w (w.alloc (.cells #[.int .u64 0, .int .u64 0, .int .u64 0, .int .u64 0, .int .u64 0] 43)) [(w.heap.size, [0, 0, 0, 0, 0])] [(g, o, xs)]) := S0
  clear S0 h hv1 hev hgoal
  go_enter Try.func86, Try.ntmps86
  go_wp2_with fail
  refine (ones250_any g o xs _ (HO.out.el 0 _ _ _ rfl)).mono ?_
  rintro e w1 ⟨es, hk, hv, rfl, b⟩
  have HK1 : Hid (EOk es ∧ ev es = v1) := ⟨hk, hv.trans HV1.out⟩
  have S1 := HO.out.call b
  have H1 : Hid (Run w w1 [(w.heap.size, [0, 0, 0, 0, 0])] [(g, o, xs)]) := S1
  clear S1 hk hv b HV1
  go_wp2_with (first
    | (refine wpList_storeN H1.out rfl (.tmp 3) (.tmp 6) rfl es rfl rfl HK1.out.1 rfl ?_)
    | fail)
  intro w2 S2
  have H2 : Hid (Run w w2 [(w1.heap.size, es), (w.heap.size, [0, 0, 0, 0, 0])] [(g, o, xs)]) := S2
  clear S2 H1 HO
  generalize w1.heap.size = G1 at *
  go_wp2_with fail
  refine (squared_any G1 0 es 2 _ (by decide) (H2.out.re 0 _ _ rfl)).mono ?_
  rintro e w3 ⟨fs, hk, hv, rfl, b⟩
  have HK2 : Hid (EOk fs ∧ ev fs = sqN v1 2) := ⟨hk, by rw [hv, HK1.out.2]⟩
  have H3 : Hid (Run w w3 [(G1, es), (w.heap.size, [0, 0, 0, 0, 0])] [(g, o, xs)]) := H2.out.call b
  clear H2 hk hv b
  go_wp2_with (first
    | (refine wpList_storeN H3.out rfl (.tmp 4) (.tmp 7) rfl fs rfl rfl HK2.out.1 rfl ?_)
    | fail)
  intro w4 S4
  have H4 : Hid (Run w w4 [(w3.heap.size, fs), (G1, es), (w.heap.size, [0, 0, 0, 0, 0])] [(g, o, xs)]) := S4
  clear S4 H3
  generalize w3.heap.size = G2 at *
  go_wp2_with fail
  refine (times_any G2 0 g o fs xs _ (H4.out.re 0 _ _ rfl) (H4.out.el 0 _ _ _ rfl)).mono ?_
  rintro e w5 ⟨us, hk, hv, rfl, b⟩
  have HK3 : Hid (EOk us ∧ ev us = goalv) := ⟨hk, by rw [hv, HK2.out.2]; exact HE.out⟩
  have H5 : Hid (Run w w5 [(G2, fs), (G1, es), (w.heap.size, [0, 0, 0, 0, 0])] [(g, o, xs)]) := H4.out.call b
  clear H4 hk hv b
  go_wp2_with (first
    | (refine wpList_storeR H5.out rfl (.tmp 2) (.tmp 9) rfl 2 w.heap.size [0, 0, 0, 0, 0] us rfl rfl rfl HK3.out.1 rfl ?_)
    | fail)
  intro w6 S6
  have H6 : Hid (Run w w6 [(G2, fs), (G1, es), (w.heap.size, us)] [(g, o, xs)]) := S6
  clear S6 H5
  go_wp2
  exact bodyPost_ret (v := .agg (us.map (Value.int .u64)).toArray) (H6.out.ret rfl _ 2 w.heap.size us rfl rfl) rfl ⟨us, HK3.out.1, HK3.out.2, rfl, H6.out.below⟩
theorem rootPower_any (g o : Nat) (xs : List Int) (w : World) (h : EAt w g o xs) :
    Calls Try.prog 86 #[.pointer (some ⟨g, o, none⟩)] w (EP w (ev xs ^ (M250 * 4 + 1) % fp)) := by
  have hev := ev_bd xs
  have e := e250 (ev xs) M250 2 1
  rw [pow1_mod _ hev.1 hev.2] at e
  exact rootPower_of g o xs w h _ _ rfl e
end Go.Proofs.Ytdaglofgioehhaa
