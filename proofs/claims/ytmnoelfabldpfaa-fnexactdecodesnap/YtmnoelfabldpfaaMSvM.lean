/-
  Own work: small laws that the texts on states share.
-/
import Derived.Test.YtmnoelfabldpfaaMRowB
import Derived.Test.YtmnoelfabldpfaaMReg8
import Derived.Deep.MidRow
import Derived.Laws.Tables
import Derived.Maps.AppendAt
import Derived.Test.YtmnoelfabldpfaaSvT
namespace Go.Proofs.Ytmnoelfabldpfaa
open Go.ChangeShapes Go.WideShapes Go.ChangeAt Go.RowKit
set_option linter.unusedVariables false

theorem dN (w : World) (q p : Nat) : (w.drewN q).drewN p = w.drewN (q + p) := by simp [World.drewN, Nat.add_assoc]
theorem below_dq {B : Nat} {a w : World} (h : Below B a w) (n : Nat) : Below B a (w.drewN n) := ⟨h.os, h.tape, h.output, h.size, h.block⟩
theorem Try.infoTap : (Try.prog.info? 94).map (fun i => (i.zero, i.size, i.bytes)) = some (some (.agg #[.int .i64 0, .int .i64 0]), 2, 16) := by kernel_rfl
end Go.Proofs.Ytmnoelfabldpfaa
namespace Go.Proofs.Ytmnoelfabldpfaa
open Go.ChangeShapes Go.WideShapes Go.ChangeAt Go.RowKit
set_option linter.unusedVariables false

/-- Taps in memory of the call's own, from block B on. -/
def TapO (B : Nat) (w : World) (v : Value) (T : List Int) (n : Nat) : Prop := w.ownsRow B 94 2 v n (T.map (Value.int .i64))
theorem run_nilT (w : World) (a : Option Addr) (n c : Nat) : (binOp .eql 72 (.slice a n c) (.slice none 0 0)).run Try.prog w = .ok (.bool a.isNone) w := by
  have h : ∀ d, (Op.equalIn (d + 1) 72 (.slice a n c) (.slice none 0 0)).run Try.prog w = .ok a.isNone w := fun d => by
    cases a <;> simp [Op.equalIn, run_underlying Try.underlying72]
  have h' : (Op.equal 72 (.slice a n c) (.slice none 0 0)).run Try.prog w = .ok a.isNone w := h 9999
  simp only [binOp]
  simp [h']

/-- What a copy of taps is. -/
def ClT (w : World) (T : List Int) (n : Nat) (e : Ending) (w' : World) : Prop := ∃ v, e = .returned v ∧ TapO w.heap.size w' v T n ∧ v.oneCell' = true ∧ Below w.heap.size w w'
theorem wpList_appT (w : World) {ops : Array Oper} {rest : List Oper} {o : Oper} {a : Act} {Q : Exit → Act → World → Prop} (hg : o.guard = none) (sx x : Operand)
    (hop : o.op = Op.call { callee := Callee.builtin Builtin.append, args := #[sx, x], argTypes := #[72, 72] }) (B : Nat) (v : Value) (xs : List Value) (hs : a.eval sx = v) (hown : w.ownsRow B 94 2 v 0 xs)
    (ad : Addr) (n c : Nat) (T : List Int) (hx : a.eval x = .slice (some ad) n c) (hl : (T.map (Value.int .i64)).length = n * 2) (hnews : ∀ j u, (T.map (Value.int .i64))[j]? = some u → w.cell? (ad.add j) = some u) (hm : n ≤ 1048576) (hB : B ≤ w.heap.size)
    (hK : ∀ v' w', w'.ownsRow B 94 2 v' n (xs ++ T.map (Value.int .i64)) → w.grownBy w' v.ownBlock → wpList Try.prog ops Q rest (a.put o.dst v') w') :
    wpList Try.prog ops Q (o :: rest) a w := by
  obtain ⟨i0, hi, hz0, hz1, hz2⟩ := info_parts Try.infoTap
  refine wpList_append_own_at w hg sx x 72 hop B 94 i0 (.agg #[.int .i64 0, .int .i64 0]) 2 16 Try.underlying72 hi hz0 hz1 hz2 rfl (by decide) v 0 xs hs hown ad n c (T.map (Value.int .i64)) hx hl hnews (ints_oneCell _ _) (by unfold maxLen; omega) (by omega) hB ?_
  intro v' w' h1 h2 _ _
  rw [Nat.zero_add] at h1
  exact hK v' w' h1 h2
set_option maxRecDepth 100000 in
set_option maxHeartbeats 1000000 in
theorem clnT_any (a : Option Addr) (n cap : Nat) (T : List Int) (w : World) (hn : T.length = n * 2) (hm : n ≤ 1048576) (ha : At .i64 w a T) (hnil : a = none → n = 0 ∧ cap = 0) :
    Calls Try.prog 68 #[.slice a n cap] w (ClT w T n) := by
  cases a with
  | none =>
    obtain ⟨rfl, rfl⟩ := hnil rfl
    have hT : T = [] := List.eq_nil_of_length_eq_zero (by omega)
    subst hT
    have HP : Hid (ClT w [] 0 (.returned (.slice none 0 0)) w) := ⟨_, rfl, ⟨by simp, .inl ⟨rfl, rfl⟩⟩, rfl, Below.refl _ _⟩
    have E := run_nilT w none 0 0
    clear hn ha hnil hm
    go_enter Try.func68, Try.ntmps68
    go_wp2
    go_ret
    exact HP.out
  | some ad =>
    have HNW : Hid (∀ j u, (T.map (Value.int .i64))[j]? = some u → (w.alloc (.cells #[] 94)).cell? (ad.add j) = some u) := by
      intro j u hu
      have hj : j < T.length := by have := (List.getElem?_eq_some_iff.1 hu).1; simpa using this
      obtain ⟨b, off, e, hb, hc⟩ := ha.get (by omega)
      cases e
      rw [Addr.add_lit, World.cell?_alloc_old _ _ _ (by show b ≠ w.heap.size; omega), hc j hj]
      simp [hj] at hu; simp [hj, hu]
    have HO : Hid ((w.alloc (.cells #[] 94)).ownsRow w.heap.size 94 2 (.slice (some ⟨w.heap.size, 0, none⟩) 0 0) 0 []) :=
      ⟨by simp, .inr ⟨w.heap.size, 0, #[], rfl, Nat.le_refl _, heap_alloc_new w _, Nat.le_refl _, by simp [maxLen], rfl, rfl⟩⟩
    have HL : Hid ((T.map (Value.int .i64)).length = n * 2 ∧ n ≤ 1048576) := ⟨by simp [hn], hm⟩
    have E := run_nilT w (some ad) n cap
    clear hn ha hnil hm
    go_enter Try.func68, Try.ntmps68
    go_wp2_with (first
      | (refine wpList_appT _ rfl (.tmp 5) (.tmp 6) rfl w.heap.size _ [] rfl HO.out ad n cap T rfl HL.out.1 HNW.out HL.out.2 (by simp) ?_)
      | fail)
    intro v' w3 ho hgr
    have HF : Hid (ClT w T n (.returned v') w3) := by
      have hB : Below w.heap.size (w.alloc (.cells #[] 94)) w3 := (Below.refl _ _).grown hgr (by simp) (fun k hk => by simp [Value.ownBlock] at hk; omega)
      refine ⟨v', rfl, by unfold TapO; simpa using ho, ?_, ((Below.refl _ _).alloc (Nat.le_refl _) _).trans hB⟩
      rcases ho.2 with ⟨h, _⟩ | ⟨g, c, cur, h, _⟩
      · rw [h]; rfl
      · rw [h]; rfl
    clear ho hgr HNW HO HL
    go_wp2
    go_ret
    exact HF.out
end Go.Proofs.Ytmnoelfabldpfaa
namespace Go.Proofs.Ytmnoelfabldpfaa
open Go.ChangeShapes Go.WideShapes Go.ChangeAt Go.RowKit
set_option linter.unusedVariables false

theorem fold_size (off : Nat) (vs : List Value) (n : Nat) (cs : Array Value) : ((vs.zipIdx n).foldl (fun cs (x : Value × Nat) => cs.setIfInBounds (off + x.2) x.1) cs).size = cs.size := by
  induction vs generalizing n cs with
  | nil => rfl
  | cons v vs ih => rw [List.zipIdx_cons, List.foldl_cons, ih]; simp
theorem fold_get (off : Nat) (vs : List Value) (n : Nat) (cs : Array Value) (h : off + n + vs.length ≤ cs.size) (i : Nat) :
    ((vs.zipIdx n).foldl (fun cs (x : Value × Nat) => cs.setIfInBounds (off + x.2) x.1) cs)[i]? = if off + n ≤ i ∧ i < off + n + vs.length then vs[i - (off + n)]? else cs[i]? := by
  induction vs generalizing n cs with
  | nil => rw [if_neg (by simp)]; rfl
  | cons v vs ih =>
    simp only [List.length_cons] at h
    rw [List.zipIdx_cons, List.foldl_cons, ih (n + 1) _ (by simp; omega)]
    by_cases h1 : off + (n + 1) ≤ i ∧ i < off + (n + 1) + vs.length
    · rw [if_pos h1, if_pos (by simp only [List.length_cons]; omega), show i - (off + n) = (i - (off + (n + 1))) + 1 by omega, List.getElem?_cons_succ]
    · rw [if_neg h1]
      by_cases h2 : i = off + n
      · subst h2
        rw [if_pos (by simp only [List.length_cons]; omega), Nat.sub_self, List.getElem?_cons_zero, Array.getElem?_setIfInBounds_self_of_lt (by omega)]
      · rw [if_neg (by simp only [List.length_cons]; omega), Array.getElem?_setIfInBounds_ne (by omega)]
/-- The cells of a book. -/
def bkC (d u : List Int) (k : Int) (v : Value) : Array Value := (d.map (Value.int .u8) ++ u.map (Value.int .u8) ++ [.int .i64 k, v]).toArray
theorem bkC_size {d u : List Int} (hd : d.length = 32) (hu : u.length = 32) (k : Int) (v : Value) : (bkC d u k v).size = 66 := by unfold bkC; simp [hd, hu]
theorem bkC_one (d u : List Int) (k : Int) {v : Value} (hv : v.oneCell' = true) : (bkC d u k v).all (fun x => x.oneCell') = true := by
  unfold bkC
  rw [List.all_toArray]
  simp only [List.all_append, List.all_map, List.all_cons, List.all_nil, hv]
  simp [Function.comp_def, Value.oneCell']
/-- vs laid over cs from off on. -/
def ovl (off : Nat) (vs cs : Array Value) : Array Value := vs.zipIdx.foldl (fun cs (x : Value × Nat) => cs.setIfInBounds (off + x.2) x.1) cs
theorem ovl_eq (off : Nat) (vs cs : Array Value) : ovl off vs cs = ((vs.toList.zipIdx 0).foldl (fun cs (x : Value × Nat) => cs.setIfInBounds (off + x.2) x.1) cs) := by
  unfold ovl; rw [← Array.foldl_toList]; simp
theorem ovl_size (off : Nat) (vs cs : Array Value) : (ovl off vs cs).size = cs.size := by rw [ovl_eq]; exact fold_size _ _ _ _
theorem ovl_get (off : Nat) (vs cs : Array Value) (h : off + vs.size ≤ cs.size) (i : Nat) : (ovl off vs cs)[i]? = if off ≤ i ∧ i < off + vs.size then vs[i - off]? else cs[i]? := by
  rw [ovl_eq, fold_get off vs.toList 0 cs (by simpa using h) i]
  simp
theorem fill_cons (places : Nat → Option (Nat × Nat)) (cs : Array Value) (i off size : Nat) (v : Value) (rest : List (Nat × Value)) (hp : places i = some (off, size)) (hs : v.cells.size = size) (hc : off + size ≤ cs.size) :
    Instr.fill places cs ((i, v) :: rest) = Instr.fill places (ovl off v.cells cs) rest := by
  rw [Instr.fill, hp]
  simp only []
  rw [if_neg (by simp [hs]; omega)]
  rfl
theorem fillB (places : Nat → Option (Nat × Nat)) (p0 : places 0 = some (0, 32)) (p1 : places 1 = some (32, 32)) (p2 : places 2 = some (64, 1)) (p3 : places 3 = some (65, 1)) (z : Array Value) (hz : z.size = 66) (d u : List Int) (hd : d.length = 32) (hu : u.length = 32) (k : Int) (v : Value) (hv : v.cells = #[v]) :
    Instr.fill places z [(0, .agg (d.map (Value.int .u8)).toArray), (1, .agg (u.map (Value.int .u8)).toArray), (2, .int .i64 k), (3, v)] = some (bkC d u k v) := by
  have sd : ((d.map (Value.int .u8)).toArray).size = 32 := by simp [hd]
  have su : ((u.map (Value.int .u8)).toArray).size = 32 := by simp [hu]
  have s1 : (ovl 0 (d.map (Value.int .u8)).toArray z).size = 66 := by rw [ovl_size]; exact hz
  have s2 : (ovl 32 (u.map (Value.int .u8)).toArray (ovl 0 (d.map (Value.int .u8)).toArray z)).size = 66 := by rw [ovl_size]; exact s1
  have s3 : (ovl 64 #[.int .i64 k] (ovl 32 (u.map (Value.int .u8)).toArray (ovl 0 (d.map (Value.int .u8)).toArray z))).size = 66 := by rw [ovl_size]; exact s2
  have key : ovl 65 #[v] (ovl 64 #[.int .i64 k] (ovl 32 (u.map (Value.int .u8)).toArray (ovl 0 (d.map (Value.int .u8)).toArray z))) = bkC d u k v := by
    apply Array.ext_getElem?
    intro i
    rw [ovl_get _ _ _ (by rw [s3]; simp), ovl_get _ _ _ (by rw [s2]; simp), ovl_get _ _ _ (by rw [s1, su]; omega), ovl_get _ _ _ (by rw [hz, sd]; omega), sd, su]
    have e : (bkC d u k v)[i]? = (d.map (Value.int .u8) ++ u.map (Value.int .u8) ++ [.int .i64 k, v])[i]? := by unfold bkC; simp
    rw [e]
    simp only [List.size_toArray, List.length_cons, List.length_nil]
    by_cases h0 : i < 32
    · rw [if_neg (by omega), if_neg (by omega), if_neg (by omega), if_pos (by omega)]
      rw [List.getElem?_append_left (by simp [hd, hu]; omega), List.getElem?_append_left (by simp [hd]; omega)]
      simp
    · by_cases h1 : i < 64
      · rw [if_neg (by omega), if_neg (by omega), if_pos (by omega)]
        rw [List.getElem?_append_left (by simp [hd, hu]; omega), List.getElem?_append_right (by simp [hd]; omega)]
        simp [hd]
      · by_cases h2 : i = 64
        · subst h2
          rw [if_neg (by omega), if_pos (by omega), List.getElem?_append_right (by simp [hd, hu])]
          simp [hd, hu]
        · by_cases h3 : i = 65
          · subst h3
            rw [if_pos (by omega), List.getElem?_append_right (by simp [hd, hu])]
            simp [hd, hu]
          · rw [if_neg (by omega), if_neg (by omega), if_neg (by omega), if_neg (by omega), Array.getElem?_eq_none (by omega), List.getElem?_eq_none (by simp [hd, hu]; omega)]
  rw [fill_cons places z 0 0 32 (.agg (d.map (Value.int .u8)).toArray) _ p0 sd (by omega)]
  rw [fill_cons places _ 1 32 32 (.agg (u.map (Value.int .u8)).toArray) _ p1 su (by show _ ≤ (ovl 0 (d.map (Value.int .u8)).toArray z).size; omega)]
  rw [fill_cons places _ 2 64 1 (.int .i64 k) _ p2 rfl (by show _ ≤ (ovl 32 (u.map (Value.int .u8)).toArray (ovl 0 (d.map (Value.int .u8)).toArray z)).size; omega)]
  rw [fill_cons places _ 3 65 1 v _ p3 (by rw [hv]; rfl) (by show _ ≤ (ovl 64 #[.int .i64 k] (ovl 32 (u.map (Value.int .u8)).toArray (ovl 0 (d.map (Value.int .u8)).toArray z))).size; omega)]
  rw [hv, Instr.fill]
  exact congrArg some key
def bkZ : Array Value := #[.int .u8 0, .int .u8 0, .int .u8 0, .int .u8 0, .int .u8 0, .int .u8 0, .int .u8 0, .int .u8 0, .int .u8 0, .int .u8 0, .int .u8 0, .int .u8 0, .int .u8 0, .int .u8 0, .int .u8 0, .int .u8 0, .int .u8 0, .int .u8 0, .int .u8 0, .int .u8 0, .int .u8 0, .int .u8 0, .int .u8 0, .int .u8 0, .int .u8 0, .int .u8 0, .int .u8 0, .int .u8 0, .int .u8 0, .int .u8 0, .int .u8 0, .int .u8 0, .int .u8 0, .int .u8 0, .int .u8 0, .int .u8 0, .int .u8 0, .int .u8 0, .int .u8 0, .int .u8 0, .int .u8 0, .int .u8 0, .int .u8 0, .int .u8 0, .int .u8 0, .int .u8 0, .int .u8 0, .int .u8 0, .int .u8 0, .int .u8 0, .int .u8 0, .int .u8 0, .int .u8 0, .int .u8 0, .int .u8 0, .int .u8 0, .int .u8 0, .int .u8 0, .int .u8 0, .int .u8 0, .int .u8 0, .int .u8 0, .int .u8 0, .int .u8 0, .int .i64 0, .slice none 0 0]
theorem Try.infoBook : (Try.prog.info? 96).map (fun i => i.zero) = some (some (.agg bkZ)) := by kernel_rfl
theorem Try.sizeBook : (Try.prog.info? 96).map (·.size) = some 66 := by kernel_rfl
theorem Try.placesBook : ((Try.prog.underlying 96).bind fun d => match d with | .struct fs => fs.toList.mapM (fun f => (Try.prog.info? f.type).map fun i => (f.offset, i.size)) | _ => none) = some [(0, 32), (32, 32), (64, 1), (65, 1)] := by kernel_rfl
theorem builtB (d u : List Int) (hd : d.length = 32) (hu : u.length = 32) (k : Int) (v : Value) (hv : v.cells = #[v]) :
    Try.prog.built 96 [(0, .agg (d.map (Value.int .u8)).toArray), (1, .agg (u.map (Value.int .u8)).toArray), (2, .int .i64 k), (3, v)] = some (bkC d u k v) := by
  have hb : ∃ places z, (places 0 = some (0, 32) ∧ places 1 = some (32, 32) ∧ places 2 = some (64, 1) ∧ places 3 = some (65, 1)) ∧ z.size = 66 ∧ ∀ parts, Try.prog.built 96 parts = Instr.fill places z parts := by
    have h1 := Try.infoBook
    have h2 := Try.placesBook
    obtain ⟨F, hF⟩ : ∃ F, Try.prog.underlying 96 = some (.struct F) := ⟨_, Try.underlying96⟩
    rw [hF] at h2
    have h2' : F.toList.mapM (fun f => (Try.prog.info? f.type).map fun i => (f.offset, i.size)) = some [(0, 32), (32, 32), (64, 1), (65, 1)] := h2
    cases hi : Try.prog.info? 96 with
    | none => rw [hi] at h1; cases h1
    | some it =>
      rw [hi] at h1
      have hz : it.zero = some (.agg bkZ) := by simpa using h1
      refine ⟨fun i => [(0, 32), (32, 32), (64, 1), (65, 1)].toArray[i]?, bkZ, ⟨rfl, rfl, rfl, rfl⟩, rfl, fun parts => ?_⟩
      simp only [Program.built, hi, hF, hz, h2']
      rfl
  obtain ⟨places, z, ⟨p0, p1, p2, p3⟩, hz, h⟩ := hb
  rw [h]
  exact fillB places p0 p1 p2 p3 z hz d u hd hu k v hv
end Go.Proofs.Ytmnoelfabldpfaa
