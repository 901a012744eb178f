/-
  Own work: the model's torn text: the first bytes of one, the last of the other.
-/
import Derived.Test.YthghkfncpdnpoacSEnc
import Derived.Test.YthghkfncpdnpoacIDec
import Derived.Test.YthghkfncpdnpoacReg3
import Derived.Laws.AppendOwn
namespace Go.Proofs.Ythghkfncpdnpoac
open Go.ChangeShapes Go.WideShapes Go.ChangeAt Go.RowKit
set_option linter.unusedVariables false

theorem wp_appR (w : World) {o : Oper} {a : Act} {K : Act → World → Prop} {Q : Exit → Act → World → Prop} (s x : Operand)
    (hop : o.op = Op.call { callee := Callee.builtin Builtin.append, args := #[s, x], argTypes := #[22, 22] })
    (B : Nat) (v : Value) (xs : List Int) (hs : a.eval s = v) (hown : Own w B v xs) (ad : Addr) (m c : Nat) (news : List Int) (hx : a.eval x = .slice (some ad) m c) (hl : news.length = m)
    (hnews : ∀ j, j < m → w.cell? (ad.add j) = some (.int .u8 (news.getD j 0))) (hb : xs.length + m ≤ 1099511627776) (hB : B ≤ w.heap.size)
    (hK : ∀ v' w', Own w' B v' (xs ++ news) → Below B w w' → w.grownBy w' v.ownBlock → K (a.put o.dst v') w') : o.wp Try.prog a w K Q := by
  obtain ⟨i0, hi, hz0, hz1, hz2⟩ := info_parts Try.infoU8'
  have hbase := hown.base
  refine wp_append_own w s x 22 hop B 5 i0 (.int .u8 0) 1 1 Try.underlying22 hi hz0 hz1 hz2 rfl (by decide) v xs.length _ hs hown.1 ad m c (news.map (Value.int .u8)) hx (by simp [hl]) ?_ (ints_oneCell _ _) (by unfold maxLen; omega) (by omega) hB ?_
  · intro j u hu
    have hj : j < news.length := by have := (List.getElem?_eq_some_iff.1 hu).1; simpa using this
    rw [hnews j (by omega)]
    simp [hj] at hu; simp [hj, hu]
  · intro v' w' h1 h2 h3
    obtain ⟨g, c0, hv, hBg, _, _⟩ := hbase
    have hbel : Below B w w' := (Below.refl _ _).grown h2 hB (fun k hk => by rw [hv] at hk; simp [Value.ownBlock] at hk; omega)
    refine hK v' w' ⟨?_, ?_⟩ hbel h2
    · rw [List.map_append, List.length_append, hl]; exact h1
    · rcases h1.2 with ⟨h', _⟩ | ⟨g', c', cur, h', _⟩
      · exact absurd (h3.1 h').1 (by rw [hv]; simp)
      · exact ⟨g', c', by rw [h', List.length_append, hl]⟩

/-- What a step of the statement may do: rows of bytes are written by the two appends alone. -/
def MR (i : Nat) (w w' : World) : Prop :=
  w.heap.size ≤ w'.heap.size ∧ (i ≠ 4 → i ≠ 8 → ∀ (b : Nat) (cs : Array Value), w.heap[b]? = some (Obj.cells cs 5 (0, 0)) → w'.heap[b]? = some (Obj.cells cs 5 (0, 0)))
theorem MR.of_below {i : Nat} {w w' : World} (h : Below w.heap.size w w') : MR i w w' :=
  ⟨h.size, fun _ _ b cs hb => by rw [h.block b (Array.getElem?_eq_some_iff.1 hb).1]; exact hb⟩
theorem MR.of_grown {i : Nat} {w w' : World} {r : Option Nat} (hi : i = 4 ∨ i = 8) (h : w.grownBy w' r) : MR i w w' := ⟨h.size, fun h4 h8 => by omega⟩
theorem Own.keepU {w w' : World} {B : Nat} {v : Value} {xs : List Int} (h : Own w B v xs) (hk : ∀ (b : Nat) (cs : Array Value), w.heap[b]? = some (Obj.cells cs 5 (0, 0)) → w'.heap[b]? = some (Obj.cells cs 5 (0, 0))) : Own w' B v xs := by
  refine ⟨⟨h.1.1, ?_⟩, h.2⟩
  rcases h.1.2 with h' | ⟨g', c', cur, h', hBg, hh, r⟩
  · exact .inl h'
  · exact .inr ⟨g', c', cur, h', hBg, hk _ _ hh, r⟩

def GR (A z : List Int) (bA oA bB oB xc yc j H : Nat) : Nat → (Nat → Bool) → World → (Nat → Value) → Prop
  | 0, L, w, u => L 4 = false → Own w H (u 0) []
  | 1, _, _, u => u 1 = .slice (some ⟨bA, oA, none⟩) 64 xc
  | 2, _, _, u => u 2 = .int .i64 j
  | 3, _, _, u => u 3 = .slice (some ⟨bA, oA, none⟩) j xc
  | 4, L, w, u => L 8 = false → Own w H (u 4) (A.take j)
  | 5, _, _, u => u 5 = .slice (some ⟨bB, oB, none⟩) 64 yc
  | 6, _, _, u => u 6 = .int .i64 j
  | 7, _, _, u => u 7 = .slice (some ⟨bB, oB + j, none⟩) (64 - j) (yc - j)
  | 8, _, w, u => Own w H (u 8) z
  | _, _, w, u => Own w H (u 9) z
theorem GR_stab (A z : List Int) (bA oA bB oB xc yc j H : Nat) (q : Nat) (L : Nat → Bool) (w w' : World) (u : Nat → Value) (i : Nat) (v : Value) (hM : MR i w w') (hij : i ≠ q) (hi8 : i = 8 → L 4 = true) (h8 : q = 8 → i ≠ 4) (h9 : q = 9 → i ≠ 4 ∧ i ≠ 8) (hq : q ≤ 9)
    (h : GR A z bA oA bB oB xc yc j H q L w u) : GR A z bA oA bB oB xc yc j H q (updL L i) w' (upd u i v) := by
  obtain rfl | rfl | rfl | rfl | rfl | rfl | rfl | rfl | rfl | rfl : q = 0 ∨ q = 1 ∨ q = 2 ∨ q = 3 ∨ q = 4 ∨ q = 5 ∨ q = 6 ∨ q = 7 ∨ q = 8 ∨ q = 9 := by omega
  all_goals simp only [GR] at h ⊢
  · rw [upd_ne hij]
    intro l4
    have n4 : i ≠ 4 := fun e => by subst e; simp [updL] at l4
    have l4' : L 4 = false := by simpa [updL, Ne.symm n4] using l4
    have n8 : i ≠ 8 := fun e => by have := hi8 e; rw [l4'] at this; cases this
    exact (h l4').keepU (hM.2 n4 n8)
  · rw [upd_ne hij]; exact h
  · rw [upd_ne hij]; exact h
  · rw [upd_ne hij]; exact h
  · rw [upd_ne hij]
    intro l8
    have n8 : i ≠ 8 := fun e => by subst e; simp [updL] at l8
    have l8' : L 8 = false := by simpa [updL, Ne.symm n8] using l8
    exact (h l8').keepU (hM.2 hij n8)
  · rw [upd_ne hij]; exact h
  · rw [upd_ne hij]; exact h
  · rw [upd_ne hij]; exact h
  · rw [upd_ne hij]; exact h.keepU (hM.2 (h8 rfl) hij)
  · rw [upd_ne hij]; exact h.keepU (hM.2 (h9 rfl).1 (h9 rfl).2)

set_option maxHeartbeats 1000000 in
theorem tornR_any (bA oA xc bB oB yc j : Nat) (A B : List Int) (w : World) (hA : A.length = 64) (hB : B.length = 64) (hx : 64 ≤ xc) (hy : 64 ≤ yc) (hj : j < 64) (atA : At .u8 w (some ⟨bA, oA, none⟩) A) (atB : At .u8 w (some ⟨bB, oB, none⟩) B) :
    Calls Try.prog 46 #[.slice (some ⟨bA, oA, none⟩) 64 xc, .slice (some ⟨bB, oB, none⟩) 64 yc, .int .i64 j] w fun e w' => ∃ v, e = .returned v ∧ Own w' w.heap.size v (A.take j ++ B.drop j) ∧ Below w.heap.size w w' := by
  have HAA : Hid _ := atA
  have HBB : Hid _ := atB
  have HLA : Hid _ := hA
  have HLB : Hid _ := hB
  clear atA atB hA hB
  have hjy : ¬ (yc = j) := by omega
  go_enter Try.func46, Try.ntmps46
  go_wp2
  refine wp_region_any (by kernel_rfl) ?_
  refine wpAny_slots3 (frame := fun t => { tmps := #[Value.slice (some { block := bA, off := oA }) 64 xc, Value.slice (some { block := bB, off := oB }) 64 yc, Value.int IntKind.i64 ↑j, undef, undef, undef, t 9, t 0, t 1, t 2, t 3, t 4, t 5, t 6, t 7, t 8], defers := [] })
    (Ext := fun w' => Below w.heap.size w w') (Good := GR A (A.take j ++ B.drop j) bA oA bB oB xc yc j w.heap.size) (M := MR) ?hstab (by kernel_rfl) ?hop ?hdone _ _ (fun i => if i = 9 then Value.slice none 0 0 else undef) _ (by simp) ?ext ?start ?clo (by simp)
  case start => intro i hi h; exact absurd h (by rw [Array.getD_eq_getD_getElem?, Array.getElem?_replicate]; split <;> simp)
  case clo => intro i o ho h; exact absurd h (by rw [Array.getD_eq_getD_getElem?, Array.getElem?_replicate]; split <;> simp)
  case ext => exact (Below.refl _ _).drew
  case hstab =>
    intro q o L w1 w2 t i oi v ho hoi hdi hM hij hLi hd hg
    have hq : q < 10 := (Array.getElem?_eq_some_iff.1 ho).1
    refine GR_stab _ _ _ _ _ _ _ _ _ _ q L w1 w2 t i v hM hij (fun h8 => ?_) (fun h8 => ?_) (fun h9 => ?_) (by omega) hg
    · subst h8
      simp at hoi; subst hoi
      exact hdi ⟨4, .data⟩ (by simp) rfl
    · subst h8
      simp at ho; subst ho
      exact fun e => hd ⟨4, .data⟩ (by simp) rfl e.symm
    · subst h9
      simp at ho; subst ho
      exact ⟨fun e => hd ⟨4, .phase⟩ (by simp) rfl e.symm, fun e => hd ⟨8, .data⟩ (by simp) rfl e.symm⟩
  case hdone =>
    intro L t w6 hx hg
    have h9 : Own w6 w.heap.size (t 9) (A.take j ++ B.drop j) := hg 9 (by decide)
    have HX : Hid _ := hx
    have H9 : Hid _ := h9
    clear hg hx h9
    go_wp2
    go_ret
    exact ⟨_, rfl, H9.out, HX.out⟩
  case hop =>
    intro i o L t w6 ho hLi hx hdep K hK
    have hsz := hx.size
    have hi : i < 10 := (Array.getElem?_eq_some_iff.1 ho).1
    obtain rfl | rfl | rfl | rfl | rfl | rfl | rfl | rfl | rfl | rfl : i = 0 ∨ i = 1 ∨ i = 2 ∨ i = 3 ∨ i = 4 ∨ i = 5 ∨ i = 6 ∨ i = 7 ∨ i = 8 ∨ i = 9 := by omega
    all_goals (simp at ho; subst ho)
    · have hb := below_new w6 (.cells #[] 5)
      clear hdep
      go_simp
      exact hK _ _ (fun _ => Own.empty w6 w.heap.size hsz) (hx.trans (hb.mono hsz)) (MR.of_below hb)
    · clear hdep
      go_simp
      exact hK w6 _ rfl hx (MR.of_below (Below.refl _ _))
    · clear hdep
      go_simp
      exact hK w6 _ rfl hx (MR.of_below (Below.refl _ _))
    · have d1 : t 1 = _ := hdep ⟨1, .data⟩ (by simp) rfl
      have d2 : t 2 = _ := hdep ⟨2, .data⟩ (by simp) rfl
      clear hdep
      have hjx : (j : Int) ≤ (xc : Int) := by omega
      go_simp
      simpa [upd, d1, d2] using hK w6 (.slice (some ⟨bA, oA, none⟩) j xc) rfl hx (MR.of_below (Below.refl _ _))
    · have d0 : Own w6 w.heap.size (t 0) [] := hdep ⟨0, .data⟩ (by simp) rfl hLi
      have d3 : t 3 = _ := hdep ⟨3, .data⟩ (by simp) rfl
      rw [if_pos (by rfl)]
      refine wp_appR w6 (.tmp 7) (.tmp 10) rfl w.heap.size (t 0) [] rfl d0 ⟨bA, oA, none⟩ j xc (A.take j) d3 (by have := HLA.out; simp; omega) ?_ (by simp; omega) hsz ?_
      · intro i hi
        obtain ⟨b9, o9, e9, hb9, hc9⟩ := At.get (At.below HAA.out hx) (by have := HLA.out; omega)
        cases e9
        rw [Addr.add_lit, hc9 i (by have := HLA.out; omega)]
        simp [List.getD, hi]
      · intro v' w7 ho7 hb7 hg7
        refine hK w7 v' (fun _ => ?_) (hx.trans hb7) (MR.of_grown (.inl rfl) hg7)
        show Own w7 w.heap.size v' (A.take j)
        simpa using ho7
    · clear hdep
      go_simp
      exact hK w6 _ rfl hx (MR.of_below (Below.refl _ _))
    · clear hdep
      go_simp
      exact hK w6 _ rfl hx (MR.of_below (Below.refl _ _))
    · have d1 : t 5 = _ := hdep ⟨5, .data⟩ (by simp) rfl
      have d2 : t 6 = _ := hdep ⟨6, .data⟩ (by simp) rfl
      clear hdep
      have hj64 : (j : Int) ≤ 64 := by omega
      go_simp
      simpa [upd, d1, d2, hjy] using hK w6 (.slice (some ⟨bB, oB + j, none⟩) (64 - j) (yc - j)) rfl hx (MR.of_below (Below.refl _ _))
    · have d4 : Own w6 w.heap.size (t 4) (A.take j) := hdep ⟨4, .data⟩ (by simp) rfl hLi
      have d7 : t 7 = _ := hdep ⟨7, .data⟩ (by simp) rfl
      rw [if_pos (by rfl)]
      refine wp_appR w6 (.tmp 11) (.tmp 14) rfl w.heap.size (t 4) (A.take j) rfl d4 ⟨bB, oB + j, none⟩ (64 - j) (yc - j) (B.drop j) d7 (by have := HLB.out; simp; omega) ?_ (by simp; omega) hsz ?_
      · intro i hi
        obtain ⟨b9, o9, e9, hb9, hc9⟩ := At.get (At.below HBB.out hx) (by have := HLB.out; omega)
        cases e9
        rw [Addr.add_lit, Nat.add_assoc, hc9 (j + i) (by have := HLB.out; omega)]
        simp [List.getD]
      · intro v' w7 ho7 hb7 hg7
        exact hK w7 v' ho7 (hx.trans hb7) (MR.of_grown (.inr rfl) hg7)
    · have d8 : Own w6 w.heap.size (t 8) (A.take j ++ B.drop j) := hdep ⟨8, .data⟩ (by simp) rfl
      clear hdep
      go_simp
      exact hK w6 (t 8) d8 hx (MR.of_below (Below.refl _ _))
end Go.Proofs.Ythghkfncpdnpoac
