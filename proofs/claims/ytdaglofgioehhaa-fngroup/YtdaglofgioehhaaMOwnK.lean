/-
  Own work: a slice of integers of the call's own, whatever their kind, and what append makes of it.
-/
import Derived.Test.YtdaglofgioehhaaMBase
import Derived.Deep.AppendLies
import Derived.Test.YtdaglofgioehhaaFe
import Derived.BigRegion
namespace Go.Proofs.Ytdaglofgioehhaa
open Go.ChangeShapes Go.WideShapes Go.ChangeAt Go.RowKit
set_option linter.unusedVariables false

/-- The type t holds integers of kind k, s is the type of their slices. -/
structure KT (k : IntKind) (t s : TypeId) (by' : Nat) : Prop where
  info : (Try.prog.info? t).map (fun i => (i.zero, i.size, i.bytes)) = some (some (.int k 0), 1, by')
  und : Try.prog.underlying s = some (.slice t)
  pos : by' ≠ 0
  le : by' ≤ 8

/-- A slice of the call's own that holds the numbers zs, in a block from B on. -/
def OwnK (k : IntKind) (t : TypeId) (w : World) (B : Nat) (v : Value) (zs : List Int) : Prop :=
  w.ownsRow B t 1 v zs.length (zs.map (Value.int k)) ∧ ∃ g c, v = .slice (some ⟨g, 0, none⟩) zs.length c

variable {k : IntKind} {t s : TypeId} {by' : Nat}
theorem OwnK.base {w : World} {B : Nat} {v : Value} {zs : List Int} (h : OwnK k t w B v zs) : ∃ g c, v = .slice (some ⟨g, 0, none⟩) zs.length c ∧ B ≤ g ∧ g < w.heap.size ∧ zs.length ≤ c := by
  obtain ⟨h, g, c, rfl⟩ := h
  rcases h.2 with ⟨h', _⟩ | ⟨g', c', cur, h', hb, hh, hc, _⟩
  · cases h'
  · cases h'
    exact ⟨g, c, rfl, hb, (Array.getElem?_eq_some_iff.1 hh).1, hc⟩
theorem OwnK.at_ {w : World} {B : Nat} {v : Value} {zs : List Int} (h : OwnK k t w B v zs) : ∃ g c, v = .slice (some ⟨g, 0, none⟩) zs.length c ∧ B ≤ g ∧ g < w.heap.size ∧ At k w (some ⟨g, 0, none⟩) zs := by
  obtain ⟨g, c, rfl, hb, hg, hc⟩ := h.base
  exact ⟨g, c, rfl, hb, hg, .inr ⟨g, 0, rfl, hg, fun i hi => by rw [Nat.zero_add, h.1.cellAt i (by omega)]; simp [hi]⟩⟩
theorem OwnK.atS {w : World} {B g n c : Nat} {zs : List Int} (h : OwnK k t w B (.slice (some ⟨g, 0, none⟩) n c) zs) : At k w (some ⟨g, 0, none⟩) zs ∧ B ≤ g ∧ g < w.heap.size := by
  obtain ⟨g', c', e, h1, h2, h3⟩ := h.at_
  simp at e
  obtain ⟨rfl, _⟩ := e
  exact ⟨h3, h1, h2⟩
theorem OwnK.empty (w : World) (B : Nat) (hB : B ≤ w.heap.size) : OwnK k t (w.alloc (.cells #[] t)) B (.slice (some ⟨w.heap.size, 0, none⟩) 0 0) [] :=
  ⟨World.ownsRow_lit w #[] 0 hB (by simp) (by simp), _, _, rfl⟩
theorem OwnK.alloc {w : World} {B : Nat} {v : Value} {zs : List Int} (h : OwnK k t w B v zs) (o : Obj) : OwnK k t (w.alloc o) B v zs := ⟨h.1.alloc _, h.2⟩
theorem OwnK.lit (w : World) (B : Nat) (zs : List Int) (hB : B ≤ w.heap.size) (hl : zs.length ≤ 1024) : OwnK k t (w.alloc (.cells (zs.map (Value.int k)).toArray t)) B (.slice (some ⟨w.heap.size, 0, none⟩) zs.length zs.length) zs :=
  ⟨by
    have := World.ownsRow_lit w (e := t) (size := 1) (base := B) (zs.map (Value.int k)).toArray zs.length hB (by unfold maxLen; omega) (by simp)
    exact this, _, _, rfl⟩
theorem OwnK.grow {w w' : World} {B : Nat} {v : Value} {zs : List Int} (h : OwnK k t w B v zs) (hb : Below w.heap.size w w') : OwnK k t w' B v zs := by
  refine ⟨⟨h.1.1, ?_⟩, h.2⟩
  rcases h.1.2 with h' | ⟨g, c, cur, h1, h2, h3, h4⟩
  · exact .inl h'
  · exact .inr ⟨g, c, cur, h1, h2, by rw [hb.block g (Array.getElem?_eq_some_iff.1 h3).1]; exact h3, h4⟩
theorem OwnK.lower {w : World} {B B' : Nat} {v : Value} {zs : List Int} (h : OwnK k t w B' v zs) (hB : B ≤ B') : OwnK k t w B v zs := by
  obtain ⟨⟨h1, h2⟩, h3⟩ := h
  refine ⟨⟨h1, ?_⟩, h3⟩
  rcases h2 with h | ⟨g, c, cur, h4, h5, h6⟩
  · exact .inl h
  · exact .inr ⟨g, c, cur, h4, by omega, h6⟩
/-- One cell set. -/
theorem OwnK.set {w : World} {B : Nat} {g c : Nat} {zs : List Int} {n : Nat} (hn : zs.length = n) (h : OwnK k t w B (.slice (some ⟨g, 0, none⟩) n c) zs) (i : Nat) (x : Int) (hi : i < n) :
    w.cell? ⟨g, i, none⟩ = some (.int k (zs.getD i 0)) ∧ w.frozen? ⟨g, i, none⟩ = false ∧ OwnK k t (w.setCell ⟨g, i, none⟩ (.int k x)) B (.slice (some ⟨g, 0, none⟩) n c) (zs.set i x) := by
  subst hn
  refine ⟨?_, h.1.frozenAt i, ?_, ?_⟩
  · rw [h.1.cellAt i (by omega)]; simp [hi]
  · have := (h.1.stored i (.int k x)).1
    rw [← List.map_set] at this
    rw [List.length_set]; exact this
  · rw [List.length_set]; exact ⟨_, _, rfl⟩
theorem OwnK.cellAt {w : World} {B : Nat} {g c : Nat} {zs : List Int} {n : Nat} (hn : zs.length = n) (h : OwnK k t w B (.slice (some ⟨g, 0, none⟩) n c) zs) (i : Nat) (hi : i < n) : w.cell? ⟨g, i, none⟩ = some (.int k (zs.getD i 0)) := by
  subst hn
  rw [h.1.cellAt i (by omega)]; simp [hi]

/-- append of numbers to a slice of the call's own. -/
theorem wpList_appK (w : World) {ops : Array Oper} {rest : List Oper} {o : Oper} {a : Act} {Q : Exit → Act → World → Prop} (hk : KT k t s by')
    (hg : o.guard = none) (sx x : Operand) (hop : o.op = Op.call { callee := Callee.builtin Builtin.append, args := #[sx, x], argTypes := #[s, s] })
    (B : Nat) (v : Value) (xs : List Int) (hs : a.eval sx = v) (hown : OwnK k t w B v xs) (ad : Addr) (m c : Nat) (news : List Int) (hx : a.eval x = .slice (some ad) m c) (hl : news.length = m)
    (hnews : ∀ j, j < m → w.cell? (ad.add j) = some (.int k (news.getD j 0))) (hb : xs.length + m ≤ 1099511627776) (hB : B ≤ w.heap.size)
    (hK : ∀ v' w', OwnK k t w' B v' (xs ++ news) → Below B w w' → w.grownBy w' v.ownBlock → wpList Try.prog ops Q rest (a.put o.dst v') w') :
    wpList Try.prog ops Q (o :: rest) a w := by
  obtain ⟨i0, hi, hz0, hz1, hz2⟩ := info_parts hk.info
  have hbase := hown.base
  have hp := hk.pos
  have hle := hk.le
  refine wpList_append_own w hg sx x s hop B t i0 (.int k 0) 1 by' hk.und hi hz0 hz1 hz2 rfl (by omega) v xs.length _ hs hown.1 ad m c (news.map (Value.int k)) hx (by simp [hl]) ?_ (ints_oneCell _ _) (by unfold maxLen; omega) ?_ hB ?_
  · intro j u hu
    have hj : j < news.length := by have := (List.getElem?_eq_some_iff.1 hu).1; simpa using this
    rw [hnews j (by omega)]
    simp [hj] at hu; simp [hj, hu]
  · have := Nat.mul_le_mul hb hle
    omega
  · intro v' w' h1 h2 h3
    obtain ⟨g, c0, hv, hBg, _, _⟩ := hbase
    have hbel : Below B w w' := (Below.refl _ _).grown h2 hB (fun k hk => by rw [hv] at hk; simp [Value.ownBlock] at hk; omega)
    refine hK v' w' ⟨?_, ?_⟩ hbel h2
    · rw [List.map_append, List.length_append, hl]; exact h1
    · rcases h1.2 with ⟨h', _⟩ | ⟨g', c', cur, h', _⟩
      · exact absurd (h3.1 h').1 (by rw [hv]; simp)
      · exact ⟨g', c', by rw [h', List.length_append, hl]⟩
end Go.Proofs.Ytdaglofgioehhaa
namespace Go.Proofs.Ytdaglofgioehhaa
open Go.ChangeShapes Go.WideShapes Go.ChangeAt Go.RowKit
set_option linter.unusedVariables false

theorem ktI : KT .i64 2 48 8 := ⟨by kernel_rfl, Try.underlying48, by decide, by decide⟩
abbrev OwnI := OwnK .i64 2

/-- An answer: a row of sixteen digits of the call's own. -/
def FeR (w : World) (zs : List Int) (e : Ending) (w' : World) : Prop :=
  ∃ g c, e = .returned (.slice (some ⟨g, 0, none⟩) 16 c) ∧ OwnI w' w.heap.size (.slice (some ⟨g, 0, none⟩) 16 c) zs ∧ Below w.heap.size w w'

structure CarS (w : World) (g c : Nat) (zs : List Int) (wr : World) : Prop where
  own : OwnI wr w.heap.size (.slice (some ⟨g, 0, none⟩) 16 c) zs
  below : Below w.heap.size w wr

set_option maxHeartbeats 1000000 in
theorem carry_any (a : Option Addr) (cap : Nat) (xs : List Int) (w : World) (hx : xs.length = 16) (ha : At .i64 w a xs) (M C : Int) (hM : Bd M xs) (hM0 : 0 ≤ M) (hM1 : M ≤ 4611686018427387904) (hC : M ≤ 65535 * C) (hC1 : C ≤ 140737488355328) :
    Calls Try.prog 62 #[.slice a 16 cap] w (FeR w (carryL xs)) := by
  obtain ⟨b0, off, rfl, hb0, hc⟩ := ha.get (by omega)
  have HN : Hid (∀ i, i < 16 → (w.alloc (.cells #[] 2)).cell? ((⟨b0, off, none⟩ : Addr).add i) = some (.int .i64 (xs.getD i 0))) := fun i hi => by
    rw [Addr.add_lit, ((Below.refl w.heap.size w).alloc (Nat.le_refl _) (.cells #[] 2)).cell (p := ⟨b0, off + i, none⟩) hb0]; exact hc i (by omega)
  have HX : Hid (xs.length = 16) := hx
  have HBD : Hid (∀ i, -C ≤ cy xs i ∧ cy xs i ≤ C) := cy_bd hM hC hM0
  have HM : Hid (Bd M xs) := hM
  clear hc ha hx hM
  go_enter Try.func62, Try.ntmps62
  go_wp2_with (at_builtin; refine wpList_appK _ ktI rfl _ _ rfl w.heap.size _ [] rfl (OwnK.empty _ _ (Nat.le_refl _)) ⟨b0, off, none⟩ 16 _ xs rfl HX.out HN.out ?c2 ?c3 ?_)
  case c2 => decide
  case c3 => simp
  intro v' w1 hown' hbel' _
  have hB1 : Below w.heap.size w w1 := ((Below.refl _ _).alloc (Nat.le_refl _) _).trans hbel'
  obtain ⟨g, c, rfl, hg, hg', _⟩ := hown'.at_
  rw [HX.out] at hown' ⊢
  have HS : Hid (CarS w g c (cst xs 0) w1) := ⟨by rw [cst_zero xs HX.out]; exact hown', hB1⟩
  clear hown' hB1 hbel' HN
  go_wp2
  go_loopw [4] (fun i wr => ∃ k : Nat, k ≤ 16 ∧ i = .int .i64 k ∧ ((k < 16 ∧ CarS w g c (cst xs k) wr) ∨ (k = 16 ∧ CarS w g c (carryL xs) wr))) (fun i _ => 16 - (intOf i).toNat)
  case atStart => exact ⟨0, by decide, rfl, .inl ⟨by decide, HS.out⟩⟩
  case round =>
    clear HS
    obtain ⟨k, hk, rfl, hst⟩ := hrel
    by_cases hlt : k < 16
    · have hst' : CarS w g c (cst xs k) wr := by
        rcases hst with ⟨_, h⟩ | ⟨h, _⟩
        · exact h
        · omega
      obtain ⟨hown, hbel⟩ := hst'
      clear hst
      obtain ⟨hcl, hch⟩ := HBD.out k
      obtain ⟨hcl', hch'⟩ := HBD.out (k + 1)
      obtain ⟨hml, hmh⟩ := HM.out k
      obtain ⟨hml', hmh'⟩ := HM.out (k + 1)
      have hcs : cy xs (k + 1) = (xs.getD k 0 + cy xs k) / 65536 := rfl
      have hget : (cst xs k).getD k 0 = xs.getD k 0 + cy xs k := by rw [cst_get _ _ _ hlt]; unfold cdig; simp
      obtain ⟨c0, f0, o0⟩ := OwnK.set (cst_len xs k) hown k ((xs.getD k 0 + cy xs k) % 65536) hlt
      rw [hget] at c0
      by_cases hk15 : k < 15
      · have hget2 : ((cst xs k).set k ((xs.getD k 0 + cy xs k) % 65536)).getD (k + 1) 0 = xs.getD (k + 1) 0 := by
          rw [getD_set_eq _ _ _ _ (by rw [cst_len]; omega), if_neg (by omega), cst_get _ _ _ (by omega)]; unfold cdig; rw [if_neg (by omega), if_neg (by omega)]
        obtain ⟨c1, f1, o1⟩ := OwnK.set (by rw [List.length_set, cst_len]) o0 (k + 1) (xs.getD (k + 1) 0 + cy xs (k + 1)) (by omega)
        rw [hget2] at c1
        rw [cst_step xs k hk15] at o1
        have HO : Hid (CarS w g c (cst xs (k + 1)) ((wr.setCell ⟨g, k, none⟩ (.int .i64 ((xs.getD k 0 + cy xs k) % 65536))).setCell ⟨g, k + 1, none⟩ (.int .i64 (xs.getD (k + 1) 0 + cy xs (k + 1))))) := ⟨o1, (hbel.setCell hg _).setCell hg _⟩
        have HCS : Hid (cy xs (k + 1) = (xs.getD k 0 + cy xs k) / 65536) := hcs
        clear o0 o1 hget hget2 hown hbel hcs
        generalize cy xs (k + 1) = c' at *
        generalize cy xs k = cc at *
        generalize xs.getD k 0 = x at *
        generalize xs.getD (k + 1) 0 = x' at *
        have hq0 : x + cc - (x + cc) / 65536 * 65536 = (x + cc) % 65536 := by omega
        have hlt' : (k : Int) < 15 := by omega
        have hcs2 : c' = (x + cc) / 65536 := HCS.out
        clear HCS
        subst hcs2
        go_wp2
        exact ⟨⟨k + 1, by omega, by go_num, .inl ⟨by omega, HO.out⟩⟩, by simp [intOf]; omega⟩
      · have hke : k = 15 := by omega
        have hget0 : 0 ≤ ((cst xs 15).set 15 ((xs.getD 15 0 + cy xs 15) % 65536)).getD 0 0 ∧ ((cst xs 15).set 15 ((xs.getD 15 0 + cy xs 15) % 65536)).getD 0 0 < 65536 := by
          rw [getD_set_eq _ _ _ _ (by rw [cst_len]; decide), if_neg (by decide), cst_get _ _ _ (by decide)]; unfold cdig; rw [if_pos (by decide)]; omega
        obtain ⟨c1, f1, o1⟩ := OwnK.set (by rw [List.length_set, cst_len]) o0 0 (((cst xs k).set k ((xs.getD k 0 + cy xs k) % 65536)).getD 0 0 + 38 * cy xs (k + 1)) (by decide)
        have hl := cst_last xs
        have e16 : cy xs 16 = cy xs (k + 1) := by rw [hke]
        rw [e16] at hl
        have HK : Hid (k = 15) := hke
        rw [← hke] at hl hget0
        rw [hl] at o1
        have HO : Hid (CarS w g c (carryL xs) ((wr.setCell ⟨g, k, none⟩ (.int .i64 ((xs.getD k 0 + cy xs k) % 65536))).setCell ⟨g, 0, none⟩ (.int .i64 (((cst xs k).set k ((xs.getD k 0 + cy xs k) % 65536)).getD 0 0 + 38 * cy xs (k + 1))))) := ⟨o1, (hbel.setCell hg _).setCell hg _⟩
        have HCS : Hid (cy xs (k + 1) = (xs.getD k 0 + cy xs k) / 65536) := hcs
        clear o0 o1 hget hown hbel hcs hl e16 hke
        generalize ((cst xs k).set k ((xs.getD k 0 + cy xs k) % 65536)).getD 0 0 = y at *
        generalize cy xs (k + 1) = c' at *
        generalize cy xs k = cc at *
        generalize xs.getD k 0 = x at *
        obtain ⟨hy0, hy1⟩ := hget0
        have hq0 : x + cc - (x + cc) / 65536 * 65536 = (x + cc) % 65536 := by omega
        have hlt' : ¬ (k : Int) < 15 := by omega
        have hcs2 : c' = (x + cc) / 65536 := HCS.out
        clear HCS
        subst hcs2
        go_wp2
        exact ⟨⟨k + 1, by omega, by go_num, .inr ⟨by have := HK.out; omega, HO.out⟩⟩, by simp [intOf]; omega⟩
    · have hst' : CarS w g c (carryL xs) wr := by
        rcases hst with ⟨_, h⟩ | ⟨_, h⟩
        · omega
        · exact h
      have HP : Hid (FeR w (carryL xs) (.returned (.slice (some ⟨g, 0, none⟩) 16 c)) wr) := ⟨g, c, rfl, hst'.own, hst'.below⟩
      clear hst hst'
      go_wp2
      go_ret
      exact HP.out
end Go.Proofs.Ytdaglofgioehhaa
