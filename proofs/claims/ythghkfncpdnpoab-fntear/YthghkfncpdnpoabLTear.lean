/-
  Own work: the law on torn sectors.
-/
import Derived.Test.YthghkfncpdnpoabTearM
import Derived.Test.YthghkfncpdnpoabDrawF
import Derived.Test.YthghkfncpdnpoabReg3
import Derived.Test.YthghkfncpdnpoabFrEq
import Derived.Laws.AppendOwn
namespace Go.Proofs.Ythghkfncpdnpoab.ltear
open Go.ChangeShapes Go.WideShapes Go.ChangeAt Go.RowKit
open Go.ChangeMaps (open_string shut_string)
set_option linter.unusedVariables false

theorem own : ownKnob Try.prog.godebug = none := by kernel_rfl
theorem laidOut : laidOutB Try.prog = true := by kernel_rfl

def IsRow (k : IntKind) (w : World) (a : Option Addr) (len cap : Nat) (zs : List Int) : Prop :=
  (a = none ∧ len = 0 ∧ cap = 0 ∧ zs = []) ∨
  ∃ x, a = some x ∧ len ≤ cap ∧ cap ≤ maxLen ∧ zs.length = cap ∧ (∀ i, i < zs.length → w.cell? (x.add i) = some (.int k (zs.getD i 0))) ∧ ∀ n ∈ zs, (Lit.int k n).wf = true

theorem IsRow.at_ {w : World} {a : Option Addr} {len cap : Nat} {z : List Int} (h : IsRow .u8 w a len cap z) : ∃ zs, zs.length = len ∧ Byte zs ∧ At .u8 w a zs := by
  rcases h with ⟨rfl, rfl, rfl, rfl⟩ | ⟨x, rfl, hl, hm, hz, hc, hw⟩
  · exact ⟨[], rfl, by simp [Byte], .inl rfl⟩
  · refine ⟨z.take len, by simp; omega, fun n hn => ?_, ?_⟩
    · have := hw n (List.mem_of_mem_take hn)
      simp [Lit.wf, IntKind.min, IntKind.max, IntKind.signed, IntKind.bits] at this
      omega
    · by_cases h0 : len = 0
      · left; simp [h0]
      · right
        obtain ⟨b, off, spot⟩ := x
        have hc0 := hc 0 (by omega)
        have hs : spot = none := by simpa [Addr.add] using World.cell?_spot hc0
        subst hs
        refine ⟨b, off, rfl, block_lt_of_cell (a := (⟨b, off, none⟩ : Addr).add 0) hc0, fun i hi => ?_⟩
        have hi' : i < len := by simp at hi; omega
        have := hc i (by omega)
        rw [Addr.add_lit] at this
        rw [this]
        simp [List.getD, hi']


theorem encZ_byte' (s k a b : Int) (us : U32 s) (ua : U32 a) (ub : U32 b) : Byte (encZ s k a b) := encZ_byte s k a b us ua ub

theorem ienc_cap (s k a b : Int) (w : World) (us : U32 s) (ua : U32 a) (ub : U32 b) :
    Calls Try.prog 24 #[.agg #[.int .u32 s, .int .i64 k, .int .u32 a, .int .u32 b]] w fun e w' => ∃ x c, e = .returned (.slice x (encZ s k a b).length c) ∧ At .u8 w' x (encZ s k a b) ∧ (encZ s k a b).length ≤ c ∧ Below w.heap.size w w' := by
  by_cases hk : 1 ≤ k ∧ k ≤ 3
  · refine (ienc_yes s k a b w us ua ub hk).mono ?_
    rintro e w' ⟨g, rfl, hg, hr, hb⟩
    rw [enc_eq s k a b us ua ub] at hr
    have e : encZ s k a b = encS s k a b := by unfold encZ; rw [if_pos hk]
    have hl : (encS s k a b).length = 64 := encS_len _ _ _ _
    rw [e, hl]
    exact ⟨_, 64, rfl, hr.at_, Nat.le_refl _, hb⟩
  · refine (ienc_no s k a b w hk).mono ?_
    rintro e w' ⟨rfl, hb⟩
    have e : encZ s k a b = [] := by unfold encZ; rw [if_neg hk]
    rw [e]
    exact ⟨none, 0, rfl, .inl rfl, Nat.le_refl _, hb⟩

structure TS (w w' : World) (F G : Nat) (s k a b s' k' a' b' : Int) (x y : Option Addr) (A B : List Int) : Prop where
  below : Below w.heap.size w w'
  fF : w'.heap[F]? = some (.cells #[.int .u32 s, .int .i64 k, .int .u32 a, .int .u32 b] 29 (0, 0))
  fG : w'.heap[G]? = some (.cells #[.int .u32 s', .int .i64 k', .int .u32 a', .int .u32 b'] 29 (0, 0))
  A : At .u8 w' x A
  B : At .u8 w' y B
theorem TS.grow {w w' w'' : World} {F G : Nat} {s k a b s' k' a' b' : Int} {x y : Option Addr} {A B : List Int} (h : TS w w' F G s k a b s' k' a' b' x y A B) (hb : Below w'.heap.size w' w'') : TS w w'' F G s k a b s' k' a' b' x y A B :=
  ⟨h.below.trans (hb.mono h.below.size), by rw [hb.block F (Array.getElem?_eq_some_iff.1 h.fF).1]; exact h.fF, by rw [hb.block G (Array.getElem?_eq_some_iff.1 h.fG).1]; exact h.fG, h.A.below hb, h.B.below hb⟩
theorem TS.keepH {w w' w'' : World} {F G : Nat} {s k a b s' k' a' b' : Int} {bA oA bB oB : Nat} {A B : List Int} (h : TS w w' F G s k a b s' k' a' b' (some ⟨bA, oA, none⟩) (some ⟨bB, oB, none⟩) A B) {H : Nat} (hb : Below H w' w'') (hH : w.heap.size ≤ H)
    (hF : F < H) (hG : G < H) (hA : bA < H) (hB : bB < H) : TS w w'' F G s k a b s' k' a' b' (some ⟨bA, oA, none⟩) (some ⟨bB, oB, none⟩) A B := by
  refine ⟨h.below.trans (hb.mono hH), by rw [hb.block F hF]; exact h.fF, by rw [hb.block G hG]; exact h.fG, ?_, ?_⟩
  · rcases h.A with h' | ⟨b1, o1, e, hl, hc⟩
    · exact .inl h'
    · cases e
      exact .inr ⟨_, _, rfl, by have := hb.size; omega, fun i hi => by rw [hb.cell (p := ⟨bA, oA + i, none⟩) hA]; exact hc i hi⟩
  · rcases h.B with h' | ⟨b1, o1, e, hl, hc⟩
    · exact .inl h'
    · cases e
      exact .inr ⟨_, _, rfl, by have := hb.size; omega, fun i hi => by rw [hb.cell (p := ⟨bB, oB + i, none⟩) hB]; exact hc i hi⟩
theorem TS.cells {w w' : World} {F G : Nat} {s k a b s' k' a' b' : Int} {x y : Option Addr} {A B : List Int} (h : TS w w' F G s k a b s' k' a' b' x y A B) :
    (w'.cell? ⟨F, 0, none⟩ = some (.int .u32 s) ∧ w'.cell? ⟨F, 1, none⟩ = some (.int .i64 k) ∧ w'.cell? ⟨F, 2, none⟩ = some (.int .u32 a) ∧ w'.cell? ⟨F, 3, none⟩ = some (.int .u32 b)) ∧
    (w'.cell? ⟨G, 0, none⟩ = some (.int .u32 s') ∧ w'.cell? ⟨G, 1, none⟩ = some (.int .i64 k') ∧ w'.cell? ⟨G, 2, none⟩ = some (.int .u32 a') ∧ w'.cell? ⟨G, 3, none⟩ = some (.int .u32 b')) :=
  ⟨⟨cell_of_row _ _ _ _ _ _ h.fF, cell_of_row _ _ _ _ _ _ h.fF, cell_of_row _ _ _ _ _ _ h.fF, cell_of_row _ _ _ _ _ _ h.fF⟩, ⟨cell_of_row _ _ _ _ _ _ h.fG, cell_of_row _ _ _ _ _ _ h.fG, cell_of_row _ _ _ _ _ _ h.fG, cell_of_row _ _ _ _ _ _ h.fG⟩⟩


theorem wp_app (w : World) {o : Oper} {a : Act} {K : Act → World → Prop} {Q : Exit → Act → World → Prop} (s x : Operand)
    (hop : o.op = Op.call { callee := Callee.builtin Builtin.append, args := #[s, x], argTypes := #[22, 22] })
    (B : Nat) (v : Value) (xs : List Int) (hs : a.eval s = v) (hown : Own w B v xs) (ad : Addr) (m c : Nat) (news : List Int) (hx : a.eval x = .slice (some ad) m c) (hl : news.length = m)
    (hnews : ∀ j, j < m → w.cell? (ad.add j) = some (.int .u8 (news.getD j 0))) (hb : xs.length + m ≤ 1099511627776) (hB : B ≤ w.heap.size)
    (hK : ∀ v' w', Own w' B v' (xs ++ news) → Below B w w' → w.grownBy w' v.ownBlock → K (a.put o.dst v') w') : o.wp Try.prog a w K Q := by
  obtain ⟨i0, hi, hz0, hz1, hz2⟩ := info_parts Try.infoU8'
  have hbase := hown.base
  refine wp_append_own w s x 22 hop B 5 i0 (.int .u8 0) 1 1 Try.underlying22 hi hz0 hz1 hz2 rfl (by decide) v xs.length _ hs hown.1 ad m c (news.map (Value.int .u8)) hx (by simp [hl]) ?_ (ints_oneCell _ _) (by unfold maxLen; omega) (by omega) hB ?_
  · intro j u hu
    have hj : j < news.length := by have := (List.getElem?_eq_some_iff.1 hu).1; simpa using this
    rw [hnews j (by omega)]
    simp [hj] at hu; simp [hj, hu]
  · intro v' w' h1 h2 h3
    obtain ⟨g, c0, hv, hBg, _, _⟩ := hbase
    have hbel : Below B w w' := (Below.refl _ _).grown h2 hB (fun k hk => by rw [hv] at hk; simp [Value.ownBlock] at hk; omega)
    refine hK v' w' ⟨?_, ?_⟩ hbel h2
    · rw [List.map_append, List.length_append, hl]; exact h1
    · rcases h1.2 with ⟨h', _⟩ | ⟨g', c', cur, h', _⟩
      · exact absurd (h3.1 h').1 (by rw [hv]; simp)
      · exact ⟨g', c', by rw [h', List.length_append, hl]⟩

/-- What a step of the statement may do. -/
def MT (i : Nat) (w w' : World) : Prop :=
  w.heap.size ≤ w'.heap.size ∧
  (∀ (b : Nat) (cs : Array Value), w.heap[b]? = some (Obj.cells cs 31 (0, 0)) → ∃ cs' : Array Value, w'.heap[b]? = some (Obj.cells cs' 31 (0, 0)) ∧ cs'.size = cs.size ∧ (i ≠ 11 → cs' = cs)) ∧
  (i ≠ 4 → i ≠ 8 → ∀ (b : Nat) (cs : Array Value), w.heap[b]? = some (Obj.cells cs 5 (0, 0)) → w'.heap[b]? = some (Obj.cells cs 5 (0, 0)))
theorem MT.of_below {i : Nat} {w w' : World} (h : Below w.heap.size w w') : MT i w w' :=
  ⟨h.size, fun b cs hb => ⟨cs, by rw [h.block b (Array.getElem?_eq_some_iff.1 hb).1]; exact hb, rfl, fun _ => rfl⟩, fun _ _ b cs hb => by rw [h.block b (Array.getElem?_eq_some_iff.1 hb).1]; exact hb⟩
theorem MT.of_grown {i : Nat} {w w' : World} {B : Nat} {v : Value} {xs : List Int} (hi : i = 4 ∨ i = 8) (ho : Own w B v xs) (h : w.grownBy w' v.ownBlock) : MT i w w' := by
  refine ⟨h.size, fun b cs hb => ⟨cs, ?_, rfl, fun _ => rfl⟩, fun h4 h8 => by omega⟩
  rw [h.block b (Array.getElem?_eq_some_iff.1 hb).1 ?_]; exact hb
  intro e
  obtain ⟨ho1, g, c, rfl⟩ := ho
  rcases ho1.2 with ⟨h', _⟩ | ⟨g', c', cur, h', hBg, hh, _⟩
  · cases h'
  · cases h'
    simp [Value.ownBlock] at e
    subst e
    rw [hh] at hb; simp at hb
theorem Own.keep {w w' : World} {B : Nat} {v : Value} {xs : List Int} (h : Own w B v xs) (hk : ∀ (b : Nat) (cs : Array Value), w.heap[b]? = some (Obj.cells cs 5 (0, 0)) → w'.heap[b]? = some (Obj.cells cs 5 (0, 0))) : Own w' B v xs := by
  refine ⟨⟨h.1.1, ?_⟩, h.2⟩
  rcases h.1.2 with h' | ⟨g', c', cur, h', hBg, hh, r⟩
  · exact .inl h'
  · exact .inr ⟨g', c', cur, h', hBg, hk _ _ hh, r⟩

def GT (A z : List Int) (bA oA bB oB xc yc j H : Nat) (V : Array Value) : Nat → (Nat → Bool) → World → (Nat → Value) → Prop
  | 0, L, w, u => L 4 = false → Own w H (u 0) []
  | 1, _, _, u => u 1 = .slice (some ⟨bA, oA, none⟩) 64 xc
  | 2, _, _, u => u 2 = .int .i64 j
  | 3, _, _, u => u 3 = .slice (some ⟨bA, oA, none⟩) j xc
  | 4, L, w, u => L 8 = false → Own w H (u 4) (A.take j)
  | 5, _, _, u => u 5 = .slice (some ⟨bB, oB, none⟩) 64 yc
  | 6, _, _, u => u 6 = .int .i64 j
  | 7, _, _, u => ∃ ad, u 7 = .slice (some ad) (64 - j) (yc - j) ∧ (j < 64 → ad = ⟨bB, oB + j, none⟩)
  | 8, _, w, u => Own w H (u 8) z
  | 9, _, _, u => u 9 = .agg V
  | 10, _, w, u => ∃ g cs, u 10 = .pointer (some ⟨g, 0, none⟩) ∧ H ≤ g ∧ w.heap[g]? = some (Obj.cells cs 31 (0, 0)) ∧ cs.size = 5
  | _, _, w, u => ∃ g, u 10 = .pointer (some ⟨g, 0, none⟩) ∧ H ≤ g ∧ w.heap[g]? = some (Obj.cells V 31 (0, 0))

theorem GT_stab (A z : List Int) (bA oA bB oB xc yc j H : Nat) (V : Array Value) (q : Nat) (L : Nat → Bool) (w w' : World) (u : Nat → Value) (i : Nat) (v : Value) (hM : MT i w w') (hij : i ≠ q) (hi8 : i = 8 → L 4 = true) (h8 : q = 8 → i ≠ 4) (h11 : q ≥ 11 → i ≠ 10) (hq : q ≤ 11)
    (h : GT A z bA oA bB oB xc yc j H V q L w u) : GT A z bA oA bB oB xc yc j H V q (updL L i) w' (upd u i v) := by
  obtain rfl | rfl | rfl | rfl | rfl | rfl | rfl | rfl | rfl | rfl | rfl | rfl : q = 0 ∨ q = 1 ∨ q = 2 ∨ q = 3 ∨ q = 4 ∨ q = 5 ∨ q = 6 ∨ q = 7 ∨ q = 8 ∨ q = 9 ∨ q = 10 ∨ q = 11 := by omega
  all_goals simp only [GT] at h ⊢
  · rw [upd_ne hij]
    intro l4
    have n4 : i ≠ 4 := fun e => by subst e; simp [updL] at l4
    have l4' : L 4 = false := by simpa [updL, Ne.symm n4] using l4
    have n8 : i ≠ 8 := fun e => by have := hi8 e; rw [l4'] at this; cases this
    exact Own.keep (h l4') (hM.2.2 n4 n8)
  · rw [upd_ne hij]; exact h
  · rw [upd_ne hij]; exact h
  · rw [upd_ne hij]; exact h
  · rw [upd_ne hij]
    intro l8
    have n8 : i ≠ 8 := fun e => by subst e; simp [updL] at l8
    have l8' : L 8 = false := by simpa [updL, Ne.symm n8] using l8
    exact Own.keep (h l8') (hM.2.2 hij n8)
  · rw [upd_ne hij]; exact h
  · rw [upd_ne hij]; exact h
  · rw [upd_ne hij]; exact h
  · rw [upd_ne hij]; exact Own.keep h (hM.2.2 (h8 rfl) hij)
  · rw [upd_ne hij]; exact h
  · rw [upd_ne hij]
    obtain ⟨g, cs, e1, e2, e3, e4⟩ := h
    obtain ⟨cs', f1, f2, _⟩ := hM.2.1 g cs e3
    exact ⟨g, cs', e1, e2, f1, by omega⟩
  · rw [upd_ne (h11 (by omega))]
    obtain ⟨g, e1, e2, e3⟩ := h
    obtain ⟨cs', f1, f2, f3⟩ := hM.2.1 g _ e3
    exact ⟨g, e1, e2, by rw [f1, f3 hij]⟩

set_option maxRecDepth 100000 in
set_option maxHeartbeats 1600000 in
theorem walk (a0 a1 : Option Addr) (len0 cap0 len1 cap1 : Nat) (z0 z1 : List Int) (w : World) (w0 : IsRow .u8 w a0 len0 cap0 z0) (w1 : IsRow .u8 w a1 len1 cap1 z1) :
    Calls Try.prog 6 #[.slice a0 len0 cap0, .slice a1 len1 cap1] w fun e w' => e = .returned (.bool true) ∧ Below w.heap.size w w' := by
  by_cases hl : (1048576 : Int) < (len0 : Int)
  · have hl2 : decide ((1048576 : Int) < (len0 : Int)) = true := by simpa using hl
    go_enter Try.func6, Try.ntmps6
    go_wp2
    go_ret
    exact ⟨rfl, Below.refl _ _⟩
  by_cases hl1 : (1048576 : Int) < (len1 : Int)
  · go_enter Try.func6, Try.ntmps6
    go_wp2
    go_ret
    exact ⟨rfl, Below.refl _ _⟩
  obtain ⟨zs, hn, hz, ha⟩ := IsRow.at_ w0
  obtain ⟨ys, hn1, hz1, ha1⟩ := IsRow.at_ w1
  have hl' : len0 ≤ 1048576 := by omega
  have hl1' : len1 ≤ 1048576 := by omega
  clear w0 w1
  have HZF : Hid _ := Try.sizeFrame
  have hsF : (Try.prog.info? 31).map (·.size) = some 5 := by kernel_rfl
  have HSF : Hid _ := hsF
  clear hsF
  go_enter Try.func6, Try.ntmps6
  go_wp2_with fail
  refine (drawEnc_any a0 len0 cap0 zs _ hn hl' hz ha).mono ?_
  rintro e w1 ⟨s, k, a, b, rfl, us, ua, ub, hb1⟩
  have hwz : ((w1.alloc (.cells #[.int .u32 0, .int .i64 0, .int .u32 0, .int .u32 0] 29)).setRow w1.heap.size #[.int .u32 s, .int .i64 k, .int .u32 a, .int .u32 b]) = w1.alloc (.cells #[.int .u32 s, .int .i64 k, .int .u32 a, .int .u32 b] 29) := World.setRow_alloc_new _ _ _ _
  have HWZ : Hid _ := hwz
  clear hwz
  go_wp2_with (refine wpList_store_row rfl 29 (.tmp 5) (.tmp 20) rfl w1.heap.size #[.int .u32 s, .int .i64 k, .int .u32 a, .int .u32 b] rfl rfl 29 _ (heap_alloc_new w1 _) HZF.out rfl (all4f _ _ _ _) ?_)
  (try rw [HWZ.out])
  clear HWZ
  have hb2 := (Below.refl w1.heap.size w1).alloc (Nat.le_refl _) (.cells #[.int .u32 s, .int .i64 k, .int .u32 a, .int .u32 b] 29)
  have f2 : (w1.alloc (.cells #[.int .u32 s, .int .i64 k, .int .u32 a, .int .u32 b] 29)).heap[w1.heap.size]? = some (.cells #[.int .u32 s, .int .i64 k, .int .u32 a, .int .u32 b] 29 (0, 0)) := heap_alloc_new w1 _
  generalize w1.alloc (.cells #[.int .u32 s, .int .i64 k, .int .u32 a, .int .u32 b] 29) = w2 at *
  have hB2 : Below w.heap.size w w2 := hb1.trans (hb2.mono hb1.size)
  have ha2 := ha1.below hB2
  have hs2 : w1.heap.size < w2.heap.size := (Array.getElem?_eq_some_iff.1 f2).1
  generalize w1.heap.size = F at *
  clear hb1 hb2
  refine (drawEnc_any a1 len1 cap1 ys _ hn1 hl1' hz1 ha2).mono ?_
  rintro e w3 ⟨s', k', a', b', rfl, us', ua', ub', hb3⟩
  have f3 : w3.heap[F]? = some (.cells #[.int .u32 s, .int .i64 k, .int .u32 a, .int .u32 b] 29 (0, 0)) := by rw [hb3.block F hs2]; exact f2
  have hB3 : Below w.heap.size w w3 := hB2.trans (hb3.mono hB2.size)
  have hwz : ((w3.alloc (.cells #[.int .u32 0, .int .i64 0, .int .u32 0, .int .u32 0] 29)).setRow w3.heap.size #[.int .u32 s', .int .i64 k', .int .u32 a', .int .u32 b']) = w3.alloc (.cells #[.int .u32 s', .int .i64 k', .int .u32 a', .int .u32 b'] 29) := World.setRow_alloc_new _ _ _ _
  have hb4 := (Below.refl w3.heap.size w3).alloc (Nat.le_refl _) (.cells #[.int .u32 s', .int .i64 k', .int .u32 a', .int .u32 b'] 29)
  have f4 : (w3.alloc (.cells #[.int .u32 s', .int .i64 k', .int .u32 a', .int .u32 b'] 29)).heap[F]? = some (.cells #[.int .u32 s, .int .i64 k, .int .u32 a, .int .u32 b] 29 (0, 0)) := by rw [hb4.block F (Array.getElem?_eq_some_iff.1 f3).1]; exact f3
  have g4 : (w3.alloc (.cells #[.int .u32 s', .int .i64 k', .int .u32 a', .int .u32 b'] 29)).heap[w3.heap.size]? = some (.cells #[.int .u32 s', .int .i64 k', .int .u32 a', .int .u32 b'] 29 (0, 0)) := heap_alloc_new w3 _
  have HWZ : Hid _ := hwz
  have hB4 : Below w.heap.size w (w3.alloc (.cells #[.int .u32 s', .int .i64 k', .int .u32 a', .int .u32 b'] 29)) := hB3.trans (hb4.mono hB3.size)
  have q0 : (w3.alloc (.cells #[.int .u32 s', .int .i64 k', .int .u32 a', .int .u32 b'] 29)).cell? ⟨F, 0, none⟩ = some (.int .u32 s) := cell_of_row _ _ _ _ _ _ f4
  have q1 : (w3.alloc (.cells #[.int .u32 s', .int .i64 k', .int .u32 a', .int .u32 b'] 29)).cell? ⟨F, 1, none⟩ = some (.int .i64 k) := cell_of_row _ _ _ _ _ _ f4
  have q2 : (w3.alloc (.cells #[.int .u32 s', .int .i64 k', .int .u32 a', .int .u32 b'] 29)).cell? ⟨F, 2, none⟩ = some (.int .u32 a) := cell_of_row _ _ _ _ _ _ f4
  have q3 : (w3.alloc (.cells #[.int .u32 s', .int .i64 k', .int .u32 a', .int .u32 b'] 29)).cell? ⟨F, 3, none⟩ = some (.int .u32 b) := cell_of_row _ _ _ _ _ _ f4
  have HF4 : Hid _ := f4
  have HG4 : Hid _ := g4
  have HB4 : Hid _ := hB4
  clear hwz hb4 f4 g4 hB4 hb3 f2 hB3 hB2
  have r0 : w3.cell? ⟨F, 0, none⟩ = some (.int .u32 s) := cell_of_row _ _ _ _ _ _ f3
  have r1 : w3.cell? ⟨F, 1, none⟩ = some (.int .i64 k) := cell_of_row _ _ _ _ _ _ f3
  have r2 : w3.cell? ⟨F, 2, none⟩ = some (.int .u32 a) := cell_of_row _ _ _ _ _ _ f3
  have r3 : w3.cell? ⟨F, 3, none⟩ = some (.int .u32 b) := cell_of_row _ _ _ _ _ _ f3
  have hFl : F < w3.heap.size := (Array.getElem?_eq_some_iff.1 f3).1
  clear f3 q0 q1 q2 q3 HWZ
  go_wp2_with fail
  have f4 := HF4.out
  have g4 := HG4.out
  have hB4 := HB4.out
  clear HF4 HG4 HB4 r0 r1 r2 r3
  have hG4 : w3.heap.size < (w3.alloc (.cells #[.int .u32 s', .int .i64 k', .int .u32 a', .int .u32 b'] 29)).heap.size := by simp
  generalize w3.alloc (.cells #[.int .u32 s', .int .i64 k', .int .u32 a', .int .u32 b'] 29) = w4 at *
  generalize w3.heap.size = G at *
  have bA := encZ_byte s k a b us ua ub
  have bB := encZ_byte s' k' a' b' us' ua' ub'
  have lA := encZ_len s k a b
  have lB := encZ_len s' k' a' b'
  refine (ienc_cap s k a b _ us ua ub).mono ?_
  rintro e w5 ⟨xa, xc, rfl, XA, hxc, hb5⟩
  have f5 : w5.heap[F]? = some (.cells #[.int .u32 s, .int .i64 k, .int .u32 a, .int .u32 b] 29 (0, 0)) := by rw [hb5.block F (by omega)]; exact f4
  have g5 : w5.heap[G]? = some (.cells #[.int .u32 s', .int .i64 k', .int .u32 a', .int .u32 b'] 29 (0, 0)) := by rw [hb5.block G hG4]; exact g4
  have hB5 : Below w.heap.size w w5 := hB4.trans (hb5.mono hB4.size)
  have q0 : w5.cell? ⟨G, 0, none⟩ = some (.int .u32 s') := cell_of_row _ _ _ _ _ _ g5
  have q1 : w5.cell? ⟨G, 1, none⟩ = some (.int .i64 k') := cell_of_row _ _ _ _ _ _ g5
  have q2 : w5.cell? ⟨G, 2, none⟩ = some (.int .u32 a') := cell_of_row _ _ _ _ _ _ g5
  have q3 : w5.cell? ⟨G, 3, none⟩ = some (.int .u32 b') := cell_of_row _ _ _ _ _ _ g5
  have HF5 : Hid _ := f5
  have HG5 : Hid _ := g5
  have HB5 : Hid _ := hB5
  have HXA : Hid (At .u8 w5 xa (encZ s k a b)) := XA
  clear f5 g5 hB5 XA f4 g4 hB4 hb5
  go_wp2_with fail
  clear q0 q1 q2 q3
  refine (ienc_cap s' k' a' b' _ us' ua' ub').mono ?_
  rintro e w6 ⟨ya, yc, rfl, YB, hyc, hb6⟩
  have st : TS w w6 F G s k a b s' k' a' b' xa ya (encZ s k a b) (encZ s' k' a' b') :=
    ⟨HB5.out.trans (hb6.mono HB5.out.size), by rw [hb6.block F (Array.getElem?_eq_some_iff.1 HF5.out).1]; exact HF5.out, by rw [hb6.block G (Array.getElem?_eq_some_iff.1 HG5.out).1]; exact HG5.out, HXA.out.below hb6, YB⟩
  clear HF5 HG5 HB5 HXA YB hb6 hs2 hG4 hFl
  obtain ⟨⟨q0, q1, q2, q3⟩, ⟨r0, r1, r2, r3⟩⟩ := st.cells
  have HST : Hid _ := st
  clear st r0 r1 r2 r3
  go_wp2_with fail
  clear q0 q1 q2 q3
  refine (senc_any s k a b _ us ua ub).mono ?_
  rintro e w7 ⟨v, rfl, hp, hb7⟩
  have st7 := HST.out.grow hb7
  obtain ⟨bs, os, cs, rfl, hbs, P7⟩ := part_at hp
  clear HST hp hb7
  go_wp2_with fail
  refine (lwB_any _ _ _ _ _ _ (encZ s k a b) (encZ s k a b) _ rfl rfl st7.A P7 bA bA).mono ?_
  rintro e w8 ⟨rfl, rfl⟩
  have hd1 : decide (encZ s k a b = encZ s k a b) = true := by simp
  rw [hd1]
  clear P7 hd1
  obtain ⟨⟨q0, q1, q2, q3⟩, ⟨r0, r1, r2, r3⟩⟩ := st7.cells
  have HST : Hid _ := st7
  clear st7 q0 q1 q2 q3
  go_wp2_with fail
  clear r0 r1 r2 r3
  refine (senc_any s' k' a' b' _ us' ua' ub').mono ?_
  rintro e w9 ⟨v, rfl, hp, hb9⟩
  have st9 := HST.out.grow hb9
  obtain ⟨bt, ot, ct, rfl, hbt, P9⟩ := part_at hp
  clear HST hp hb9
  go_wp2_with fail
  refine (lwB_any _ _ _ _ _ _ (encZ s' k' a' b') (encZ s' k' a' b') _ rfl rfl st9.B P9 bB bB).mono ?_
  rintro e w10 ⟨rfl, rfl⟩
  have hd1 : decide (encZ s' k' a' b' = encZ s' k' a' b') = true := by simp
  rw [hd1]
  clear P9 hd1
  obtain ⟨⟨q0, q1, q2, q3⟩, ⟨r0, r1, r2, r3⟩⟩ := st9.cells
  have HST : Hid _ := st9
  clear st9 q1 q2 q3 r1 r2 r3
  by_cases hk : 1 ≤ k ∧ k ≤ 3
  rotate_left
  · have e0 : (encZ s k a b).length = 0 := by unfold encZ; rw [if_neg hk]; rfl
    rw [e0]
    have t0 : (((0 : Nat) : Int) != 64) = true := by decide
    go_wp2
    go_ret
    exact ⟨rfl, HST.out.below⟩
  have eA : encZ s k a b = encS s k a b := by unfold encZ; rw [if_pos hk]
  by_cases hk' : 1 ≤ k' ∧ k' ≤ 3
  rotate_left
  · have e0 : (encZ s' k' a' b').length = 0 := by unfold encZ; rw [if_neg hk']; rfl
    have e1 : (encZ s k a b).length = 64 := by rw [eA]; exact encS_len _ _ _ _
    rw [e0, e1]
    go_wp2
    go_ret
    exact ⟨rfl, HST.out.below⟩
  have eB : encZ s' k' a' b' = encS s' k' a' b' := by unfold encZ; rw [if_pos hk']
  have e1 : (encZ s k a b).length = 64 := by rw [eA]; exact encS_len _ _ _ _
  have e2 : (encZ s' k' a' b').length = 64 := by rw [eB]; exact encS_len _ _ _ _
  rw [e1, e2]
  by_cases hss : s = s'
  · have t1 : (s == s') = true := by simpa using hss
    clear e1 e2 eA eB
    go_wp2
    go_ret
    exact ⟨rfl, HST.out.below⟩
  have t1 : (s == s') = false := by simpa using hss
  have HT : Hid (∀ j, j ≤ 64 → decB ((encZ s k a b).take j ++ (encZ s' k' a' b').drop j) = true → (encZ s k a b).take j ++ (encZ s' k' a' b').drop j = encZ s k a b ∨ (encZ s k a b).take j ++ (encZ s' k' a' b').drop j = encZ s' k' a' b') := by
    intro j hj h
    refine torn _ _ e1 e2 bA bB ?_ ?_ ?_ j hj h
    · obtain ⟨c, uc, he⟩ := encS_lit s k a b
      rw [eA, encS_tail _ _ _ _ us]
      obtain ⟨h0, h1⟩ := us
      rw [he]; simp [num4, four]; omega
    · obtain ⟨c, uc, he⟩ := encS_lit s' k' a' b'
      rw [eB, encS_tail _ _ _ _ us']
      obtain ⟨h0, h1⟩ := us'
      rw [he]; simp [num4, four]; omega
    · obtain ⟨c, uc, he⟩ := encS_lit s k a b
      obtain ⟨c', uc', he'⟩ := encS_lit s' k' a' b'
      have n1 : num4 (encS s k a b) 0 = s := by obtain ⟨h0, h1⟩ := us; rw [he]; simp [num4, four]; omega
      have n2 : num4 (encS s' k' a' b') 0 = s' := by obtain ⟨h0, h1⟩ := us'; rw [he']; simp [num4, four]; omega
      rw [eA, eB, n1, n2]; exact hss
  have HDA : Hid (decV (encZ s k a b) = fOk s k a b) := by unfold Hid; rw [eA]; exact encS_dec s k a b us ua ub hk
  have HDB : Hid (decV (encZ s' k' a' b') = fOk s' k' a' b') := by unfold Hid; rw [eB]; exact encS_dec s' k' a' b' us' ua' ub' hk'
  clear eA eB lA lB us ua ub us' ua' ub' hk hk'
  generalize encZ s k a b = A at *
  generalize encZ s' k' a' b' = B at *
  have hA : A.length = 64 := e1
  have hB : B.length = 64 := e2
  rw [hA] at hxc
  rw [hB] at hyc
  have HYA : Hid (Byte A) := bA
  have HYB : Hid (Byte B) := bB
  clear bA bB
  have HLA : Hid _ := hA
  have HLB : Hid _ := hB
  clear e1 e2 hA hB
  go_wp2
  have st0 := HST.out
  clear HST q0 r0
  go_loopw [9] (fun i wr => ∃ j : Nat, j ≤ 65 ∧ i = .int .i64 j ∧ TS w wr F G s k a b s' k' a' b' xa ya A B) (fun i _ => 65 - (intOf i).toNat)
  case atStart => exact ⟨0, by omega, rfl, st0⟩
  case round =>
    obtain ⟨j, hj, rfl, st⟩ := hrel
    by_cases hlt : j ≤ 64
    · obtain ⟨bA, oA, rfl, hbA, hcA⟩ := st.A.get (by have := HLA.out; omega)
      obtain ⟨bB, oB, rfl, hbB, hcB⟩ := st.B.get (by have := HLB.out; omega)
      have HCA : Hid _ := hcA
      have HCB : Hid _ := hcB
      have hFH : F < wr.heap.size := (Array.getElem?_eq_some_iff.1 st.fF).1
      have hGH : G < wr.heap.size := (Array.getElem?_eq_some_iff.1 st.fG).1
      have HST : Hid _ := st
      clear hcA hcB st
      have hjt : decide ((j : Int) ≤ 64) = true := by simp; omega
      go_wp2
      obtain ⟨xb, s2, k2, a2, b2, hdv⟩ := decV_form (A.take j ++ B.drop j)
      have HDV : Hid _ := hdv
      have hzz : Byte (A.take j ++ B.drop j) := fun v hv => by
        rcases List.mem_append.1 hv with h | h
        · exact HYA.out v (List.mem_of_mem_take h)
        · exact HYB.out v (List.mem_of_mem_drop h)
      have hzl : (A.take j ++ B.drop j).length = 64 := by have := HLA.out; have := HLB.out; simp; omega
      clear hdv
      refine wp_region_any (by kernel_rfl) ?_
      refine wpAny_slots3 (frame := fun t => { tmps := #[Value.slice a0 len0 cap0, Value.slice a1 len1 cap1, undef, undef, u4, Value.pointer (some { block := F, off := 0 }), Value.pointer (some { block := G, off := 0 }), Value.slice (some { block := bA, off := oA }) 64 xc, Value.slice (some { block := bB, off := oB }) 64 yc, Value.int IntKind.i64 ↑j, t 10, Value.slice a0 len0 cap0, Value.int IntKind.i64 ↑len0, Value.bool false, Value.bool false, Value.slice a1 len1 cap1, Value.int IntKind.i64 ↑len1, Value.bool false, Value.bool false, Value.slice a0 len0 cap0, Value.agg #[Value.int IntKind.u32 s, Value.int IntKind.i64 k, Value.int IntKind.u32 a, Value.int IntKind.u32 b], Value.slice a1 len1 cap1, Value.agg #[Value.int IntKind.u32 s', Value.int IntKind.i64 k', Value.int IntKind.u32 a', Value.int IntKind.u32 b'], Value.agg #[Value.int IntKind.u32 s, Value.int IntKind.i64 k, Value.int IntKind.u32 a, Value.int IntKind.u32 b], Value.slice (some { block := bA, off := oA }) 64 xc, Value.agg #[Value.int IntKind.u32 s', Value.int IntKind.i64 k', Value.int IntKind.u32 a', Value.int IntKind.u32 b'], Value.slice (some { block := bB, off := oB }) 64 yc, Value.slice (some { block := bA, off := oA }) 64 xc, Value.agg #[Value.int IntKind.u32 s, Value.int IntKind.i64 k, Value.int IntKind.u32 a, Value.int IntKind.u32 b], Value.slice (some { block := bs, off := os }) 64 cs, Value.bool true, Value.bool false, Value.bool false, Value.slice (some { block := bB, off := oB }) 64 yc, Value.agg #[Value.int IntKind.u32 s', Value.int IntKind.i64 k', Value.int IntKind.u32 a', Value.int IntKind.u32 b'], Value.slice (some { block := bt, off := ot }) 64 ct, Value.bool true, Value.bool false, Value.bool false, Value.slice (some { block := bA, off := oA }) 64 xc, Value.int IntKind.i64 64, Value.bool false, Value.bool false, Value.slice (some { block := bB, off := oB }) 64 yc, Value.int IntKind.i64 64, Value.bool false, Value.bool false, Value.bool false, Value.pointer (some { block := F, off := 0 }), Value.int IntKind.u32 s, Value.pointer (some { block := G, off := 0 }), Value.int IntKind.u32 s', Value.bool false, Value.bool false, Value.int IntKind.i64 ↑j, Value.bool true, u56, u57, t 0, t 1, t 2, t 3, t 4, t 5, t 6, t 7, t 8, t 9, u68, u69, u70, u71, u72, u73, u74, u75, u76, u77, u78, u79, u80, u81, u82, u83, u84, u85, u86, u87, u88, u89, u90, u91, u92, u93, u94, u95, u96, u97, u98, u99], defers := [] })
        (Ext := fun w' => TS w w' F G s k a b s' k' a' b' (some ⟨bA, oA, none⟩) (some ⟨bB, oB, none⟩) A B ∧ wr.heap.size ≤ w'.heap.size)
        (Good := GT A (A.take j ++ B.drop j) bA oA bB oB xc yc j wr.heap.size #[.bool xb, .int .u32 s2, .int .i64 k2, .int .u32 a2, .int .u32 b2]) (M := MT) ?hstab (by kernel_rfl) ?hop ?hdone _ _ (fun i => if i = 10 then u10 else if i = 0 then u58 else if i = 1 then u59 else if i = 2 then u60 else if i = 3 then u61 else if i = 4 then u62 else if i = 5 then u63 else if i = 6 then u64 else if i = 7 then u65 else if i = 8 then u66 else if i = 9 then u67 else undef) _ (by simp) ?ext ?start ?clo (by simp)
      case start => intro i hi h; exact absurd h (by rw [Array.getD_eq_getD_getElem?, Array.getElem?_replicate]; split <;> simp)
      case clo => intro i o ho h; exact absurd h (by rw [Array.getD_eq_getD_getElem?, Array.getElem?_replicate]; split <;> simp)
      case ext => exact ⟨HST.out.grow ((Below.refl _ _).drew), Nat.le_refl _⟩
      case hstab =>
        intro q o L w1 w2 t i oi v ho hoi hdi hM hij hLi hd hg
        have hq : q < 12 := (Array.getElem?_eq_some_iff.1 ho).1
        refine GT_stab _ _ _ _ _ _ _ _ _ _ _ q L w1 w2 t i v hM hij (fun h8 => ?_) (fun h8 => ?_) (fun h11 => ?_) (by omega) hg
        · subst h8
          simp at hoi; subst hoi
          exact hdi ⟨4, .data⟩ (by simp) rfl
        · subst h8
          simp at ho; subst ho
          exact fun e => hd ⟨4, .data⟩ (by simp) rfl e.symm
        · obtain rfl : q = 11 := by omega
          simp at ho; subst ho
          exact fun e => hd ⟨10, .data⟩ (by simp) rfl e.symm
      case hdone =>
        intro L t w6 hx hg
        obtain ⟨hx, hsz⟩ := hx
        obtain ⟨g, h10, hgl, hblk⟩ := hg 11 (by decide)
        clear hg
        obtain ⟨⟨q0, q1, q2, q3⟩, ⟨r0, r1, r2, r3⟩⟩ := hx.cells
        have p0 : w6.cell? ⟨g, 0, none⟩ = some (.bool xb) := cell_of_row _ _ _ _ _ _ hblk
        have p1 : w6.cell? ⟨g, 1, none⟩ = some (.int .u32 s2) := cell_of_row _ _ _ _ _ _ hblk
        have p2 : w6.cell? ⟨g, 2, none⟩ = some (.int .i64 k2) := cell_of_row _ _ _ _ _ _ hblk
        have p3 : w6.cell? ⟨g, 3, none⟩ = some (.int .u32 a2) := cell_of_row _ _ _ _ _ _ hblk
        have p4 : w6.cell? ⟨g, 4, none⟩ = some (.int .u32 b2) := cell_of_row _ _ _ _ _ _ hblk
        have HX6 : Hid _ := hx
        clear hx hblk
        rw [h10]
        clear h10
        -- which of the three
        have hwh : (fOk s k a b = .agg #[.bool xb, .int .u32 s2, .int .i64 k2, .int .u32 a2, .int .u32 b2] ∧ j ≠ 0) ∨ (fOk s' k' a' b' = .agg #[.bool xb, .int .u32 s2, .int .i64 k2, .int .u32 a2, .int .u32 b2] ∧ j ≠ 64) ∨ (xb = false ∧ j ≠ 0 ∧ j ≠ 64) := by
          by_cases hj0 : j = 0
          · right; left
            subst hj0
            have e : A.take 0 ++ B.drop 0 = B := by simp
            have := HDV.out; rw [e, HDB.out] at this
            exact ⟨this, by omega⟩
          by_cases hj64 : j = 64
          · left
            subst hj64
            have e : A.take 64 ++ B.drop 64 = A := by rw [List.take_of_length_le (by have := HLA.out; omega), List.drop_eq_nil_of_le (by have := HLB.out; omega)]; simp
            have := HDV.out; rw [e, HDA.out] at this
            exact ⟨this, hj0⟩
          cases hd : decB (A.take j ++ B.drop j)
          · right; right
            have := HDV.out
            rw [decV_no hd] at this
            simp [fNo] at this
            exact ⟨this.1, hj0, hj64⟩
          · rcases HT.out j hlt hd with e | e
            · left
              have := HDV.out; rw [e, HDA.out] at this
              exact ⟨this, hj0⟩
            · right; left
              have := HDV.out; rw [e, HDB.out] at this
              exact ⟨this, hj64⟩
        clear HDV hzz hzl
        have n1 : (s == s') = false := by simpa using hss
        have n2 : (s' == s) = false := by simpa using fun h => hss (Eq.symm h)
        have hjn : 65 - (j + 1) < 65 - j := by omega
        rcases hwh with ⟨e, hj0⟩ | ⟨e, hj64⟩ | ⟨rfl, hj0, hj64⟩
        · simp [fOk] at e
          obtain ⟨rfl, rfl, rfl, rfl, rfl⟩ := e
          have E1 := run_eqFr w6 s k a b s k a b
          simp only [beq_self_eq_true, Bool.and_self] at E1
          have E2 := run_eqFr w6 s k a b s' k' a' b'
          rw [n1, Bool.false_and] at E2
          have z0 : ((j : Int) == 0) = false := by simp; omega
          by_cases hj64 : j = 64
          · subst hj64
            go_wp2
            exact ⟨⟨65, by omega, rfl, HX6.out⟩, by simp [intOf]⟩
          · have z4 : ((j : Int) == 64) = false := by simp; omega
            go_wp2
            exact ⟨⟨j + 1, by omega, by simp, HX6.out⟩, by simp [intOf]; omega⟩
        · simp [fOk] at e
          obtain ⟨rfl, rfl, rfl, rfl, rfl⟩ := e
          have E1 := run_eqFr w6 s' k' a' b' s' k' a' b'
          simp only [beq_self_eq_true, Bool.and_self] at E1
          have E2 := run_eqFr w6 s' k' a' b' s k a b
          rw [n2, Bool.false_and] at E2
          have z4 : ((j : Int) == 64) = false := by simp; omega
          by_cases hj0 : j = 0
          · subst hj0
            go_wp2
            exact ⟨⟨1, by omega, rfl, HX6.out⟩, by simp [intOf]⟩
          · have z0 : ((j : Int) == 0) = false := by simp; omega
            go_wp2
            exact ⟨⟨j + 1, by omega, by simp, HX6.out⟩, by simp [intOf]; omega⟩
        · have z4 : ((j : Int) == 64) = false := by simp; omega
          have z0 : ((j : Int) == 0) = false := by simp; omega
          go_wp2
          exact ⟨⟨j + 1, by omega, by simp, HX6.out⟩, by simp [intOf]; omega⟩
      case hop =>
        intro i o L t w6 ho hLi hx hdep K hK
        obtain ⟨hx, hsz⟩ := hx
        have hi : i < 12 := (Array.getElem?_eq_some_iff.1 ho).1
        obtain rfl | rfl | rfl | rfl | rfl | rfl | rfl | rfl | rfl | rfl | rfl | rfl : i = 0 ∨ i = 1 ∨ i = 2 ∨ i = 3 ∨ i = 4 ∨ i = 5 ∨ i = 6 ∨ i = 7 ∨ i = 8 ∨ i = 9 ∨ i = 10 ∨ i = 11 := by omega
        all_goals (simp at ho; subst ho)
        · have hb := below_new w6 (.cells #[] 5)
          clear hdep
          go_simp
          exact hK _ _ (fun _ => Own.empty w6 wr.heap.size hsz) ⟨hx.grow hb, by have := hb.size; omega⟩ (MT.of_below hb)
        · clear hdep
          go_simp
          exact hK w6 _ rfl ⟨hx, hsz⟩ (MT.of_below (Below.refl _ _))
        · clear hdep
          go_simp
          exact hK w6 _ rfl ⟨hx, hsz⟩ (MT.of_below (Below.refl _ _))
        · have d1 : t 1 = _ := hdep ⟨1, .data⟩ (by simp) rfl
          have d2 : t 2 = _ := hdep ⟨2, .data⟩ (by simp) rfl
          clear hdep
          have hjx : (j : Int) ≤ (xc : Int) := by omega
          go_simp
          simpa [upd, d1, d2] using hK w6 (.slice (some ⟨bA, oA, none⟩) j xc) rfl ⟨hx, hsz⟩ (MT.of_below (Below.refl _ _))
        · have d0 : Own w6 wr.heap.size (t 0) [] := hdep ⟨0, .data⟩ (by simp) rfl hLi
          have d3 : t 3 = _ := hdep ⟨3, .data⟩ (by simp) rfl
          rw [if_pos (by rfl)]
          refine wp_app w6 (.tmp 58) (.tmp 61) rfl wr.heap.size (t 0) [] rfl d0 ⟨bA, oA, none⟩ j xc (A.take j) d3 (by have := HLA.out; simp; omega) ?_ (by simp; omega) hsz ?_
          · intro i hi
            have hcA := HCA.out i (by have := HLA.out; omega)
            rw [Addr.add_lit]
            obtain ⟨b9, o9, e9, hb9, hc9⟩ := hx.A.get (by have := HLA.out; omega)
            cases e9
            rw [hc9 i (by have := HLA.out; omega)]
            simp [List.getD, hi]
          · intro v' w7 ho7 hb7 hg7
            refine hK w7 v' (fun _ => ?_) ⟨?_, ?_⟩ (MT.of_grown (.inl rfl) d0 hg7)
            · show Own w7 wr.heap.size v' (A.take j)
              simpa using ho7
            · exact hx.keepH hb7 HST.out.below.size hFH hGH hbA hbB
            · have := hb7.size; omega
        · clear hdep
          go_simp
          exact hK w6 _ rfl ⟨hx, hsz⟩ (MT.of_below (Below.refl _ _))
        · clear hdep
          go_simp
          exact hK w6 _ rfl ⟨hx, hsz⟩ (MT.of_below (Below.refl _ _))
        · have d1 : t 5 = _ := hdep ⟨5, .data⟩ (by simp) rfl
          have d2 : t 6 = _ := hdep ⟨6, .data⟩ (by simp) rfl
          clear hdep
          have hgood : ∃ ad, (Value.slice (if yc = j then some ⟨bB, oB, none⟩ else some ⟨bB, oB + j, none⟩) (64 - j) (yc - j)) = .slice (some ad) (64 - j) (yc - j) ∧ (j < 64 → ad = ⟨bB, oB + j, none⟩) := by
            by_cases h : yc = j
            · exact ⟨⟨bB, oB, none⟩, by rw [if_pos h], fun h' => by omega⟩
            · exact ⟨_, by rw [if_neg h], fun _ => rfl⟩
          have HGD : Hid _ := hgood
          clear hgood
          have hj64 : (j : Int) ≤ 64 := by omega
          go_simp
          simpa [upd, d1, d2] using hK w6 (.slice (if yc = j then some ⟨bB, oB, none⟩ else some ⟨bB, oB + j, none⟩) (64 - j) (yc - j)) HGD.out ⟨hx, hsz⟩ (MT.of_below (Below.refl _ _))
        · have hdep4 := hdep ⟨4, .data⟩ (by simp) rfl
          have d4 : Own w6 wr.heap.size (t 4) (A.take j) := hdep4 hLi
          obtain ⟨ad, d7, had⟩ := hdep ⟨7, .data⟩ (by simp) rfl
          rw [if_pos (by rfl)]
          refine wp_app w6 (.tmp 62) (.tmp 65) rfl wr.heap.size (t 4) (A.take j) rfl d4 ad (64 - j) (yc - j) (B.drop j) d7 (by have := HLB.out; simp; omega) ?_ (by simp; omega) hsz ?_
          · intro i hi
            obtain ⟨b9, o9, e9, hb9, hc9⟩ := hx.B.get (by have := HLB.out; omega)
            cases e9
            rw [had (by omega), Addr.add_lit, Nat.add_assoc, hc9 (j + i) (by have := HLB.out; omega)]
            simp [List.getD]
          · intro v' w7 ho7 hb7 hg7
            refine hK w7 v' ho7 ⟨?_, ?_⟩ (MT.of_grown (.inr rfl) d4 hg7)
            · exact hx.keepH hb7 HST.out.below.size hFH hGH hbA hbB
            · have := hb7.size; omega
        · have d8 : Own w6 wr.heap.size (t 8) (A.take j ++ B.drop j) := hdep ⟨8, .data⟩ (by simp) rfl
          obtain ⟨b9, o9, c9, d, hl9, hc9⟩ := d8.part
          rw [hzl] at d
          have at9 : At .u8 w6 (some ⟨b9, o9, none⟩) (A.take j ++ B.drop j) := .inr ⟨b9, o9, rfl, hl9, hc9⟩
          clear hdep d8 hc9
          go_simp
          refine (idec_any _ 64 c9 (A.take j ++ B.drop j) _ hzl (by decide) hzz at9).mono ?_
          rintro e w7 ⟨rfl, hb7⟩
          rw [HDV.out]
          go_simp
          simpa [upd, d] using hK w7 (.agg #[.bool xb, .int .u32 s2, .int .i64 k2, .int .u32 a2, .int .u32 b2]) rfl ⟨hx.grow hb7, by have := hb7.size; omega⟩ (MT.of_below hb7)
        · have hb := below_new w6 (.cells #[.bool false, .int .u32 0, .int .i64 0, .int .u32 0, .int .u32 0] 31)
          clear hdep
          go_simp
          exact hK _ _ ⟨w6.heap.size, _, rfl, hsz, heap_alloc_new w6 _, rfl⟩ ⟨hx.grow hb, by have := hb.size; omega⟩ (MT.of_below hb)
        · have d9 : t 9 = _ := hdep ⟨9, .data⟩ (by simp) rfl
          obtain ⟨g, cs, d10, hg, hh, hcs⟩ := hdep ⟨10, .data⟩ (by simp) rfl
          rw [if_pos (by rfl)]
          refine wp_store_row 31 (.tmp 10) (.tmp 67) rfl g _ d10 d9 31 cs hh HSF.out hcs (all5 _ _ _ _ _) ?_
          refine hK (w6.setRow g #[.bool xb, .int .u32 s2, .int .i64 k2, .int .u32 a2, .int .u32 b2]) undef ⟨g, d10, hg, setRow_heap _ _ _ _ _ _ hh⟩ ⟨?_, ?_⟩ ⟨?_, ?_, ?_⟩
          · exact hx.keepH ((Wr.setRow g w6 _).below hg) HST.out.below.size hFH hGH hbA hbB
          · rw [size_setRow]; exact hsz
          · rw [size_setRow]; exact Nat.le_refl _
          · intro b2 cs2 hb2
            by_cases hbg : b2 = g
            · subst hbg
              rw [hh] at hb2
              obtain rfl := (by simpa using hb2 : cs = cs2)
              exact ⟨_, setRow_heap _ _ _ _ _ _ hh, by rw [hcs]; rfl, fun h => absurd rfl h⟩
            · exact ⟨cs2, by rw [setRow_other w6 g b2 _ hbg]; exact hb2, rfl, fun _ => rfl⟩
          · intro _ _ b2 cs2 hb2
            by_cases hbg : b2 = g
            · subst hbg; rw [hh] at hb2; simp at hb2
            · rw [setRow_other w6 g b2 _ hbg]; exact hb2
    · go_wp2
      go_ret
      exact ⟨rfl, st.below⟩

set_option maxRecDepth 100000 in
theorem lifted (os : Os) (started : os.Started) (H : Type) (enc : TypeId × Value → H) :
    ReturnsInHanded {} Try.checked os 6 .any (Rows.fnTearSpec.pre6 enc Try.prog Try.f6 Rows.fnTearRow.domain false) (Rows.fnTearSpec.post enc Try.prog Try.f6 false true false false) := by
  refine returnsInHanded_of_change (C := Try.checked) own started (by kernel_rfl) Try.func6
    (ChangeSpec.witness6 (enc := enc) (C := Try.checked) false ⟨#[], #[.slice none 0 0, .slice none 0 0], []⟩ 8 (by kernel_rfl) (by kernel_rfl) (by kernel_rfl) (by kernel_rfl)) ?_
  intro W base args ds gs before hval0 hW hcnd _
  have hval : ∀ (j : Nat) t v, Try.f6.params[j]? = some t → args[j]? = some v → Value.okWide Try.prog W .any base t v := hval0
  have hW' := hW
  obtain ⟨p, q, hA0, hV, rfl, hfz, hnd⟩ := hW
  have hA : DataW.TrodAll enc Try.prog W 0 (fun _ => true) true Try.f6.params.toList args.toList ds p := hA0
  rw [Try.params6] at hA hval
  obtain ⟨v0, vs0, d0, ds0, p0, q0, hargs, rfl, rfl, h0, r0⟩ := trodAll_cons hA
  obtain ⟨v1, vs1, d1, ds1, p1, q1, hargs1, rfl, rfl, h1, r1⟩ := trodAll_cons r0
  obtain ⟨rfl, rfl, rfl⟩ := trodAll_nil r1
  obtain rfl : args = #[v0, v1] := by cases args; simp_all
  obtain ⟨rfl, rfl⟩ := trodVars_none hV
  obtain ⟨a0, len0, cap0, rfl⟩ := okWide_slice Try.underlying22 (hval 0 22 v0 rfl rfl)
  obtain ⟨a1, len1, cap1, rfl⟩ := okWide_slice Try.underlying22 (hval 1 22 v1 rfl rfl)
  have k0 := h0
  have k1 := h1
  have lt0 : ∀ x ∈ p0, x.block < W.heap.size := by obtain ⟨m, hm⟩ := k0; exact DataW.trod_lt m _ _ _ hm
  have lt1 : ∀ x ∈ p1, x.block < W.heap.size := by obtain ⟨m, hm⟩ := k1; exact DataW.trod_lt m _ _ _ hm
  obtain ⟨z0, w0⟩ : ∃ zs, IsRow .u8 W a0 len0 cap0 zs := by
    obtain ⟨fuel, hf⟩ := h0
    rcases open_ints Try.underlying22 Try.underlying5 (by kernel_rfl) hf with ⟨hcs, _⟩ | ⟨x, l, c, zs, hcs, _, hl, hm, hz, _, hcell, hwz⟩
    · simp [Value.cells] at hcs
      obtain ⟨rfl, rfl, rfl⟩ := hcs
      exact ⟨[], .inl ⟨rfl, rfl, rfl, rfl⟩⟩
    · simp [Value.cells] at hcs
      obtain ⟨rfl, rfl, rfl⟩ := hcs
      exact ⟨zs, .inr ⟨_, rfl, hl, hm, by simpa using hz, hcell, hwz⟩⟩
  obtain ⟨z1, w1⟩ : ∃ zs, IsRow .u8 W a1 len1 cap1 zs := by
    obtain ⟨fuel, hf⟩ := h1
    rcases open_ints Try.underlying22 Try.underlying5 (by kernel_rfl) hf with ⟨hcs, _⟩ | ⟨x, l, c, zs, hcs, _, hl, hm, hz, _, hcell, hwz⟩
    · simp [Value.cells] at hcs
      obtain ⟨rfl, rfl, rfl⟩ := hcs
      exact ⟨[], .inl ⟨rfl, rfl, rfl, rfl⟩⟩
    · simp [Value.cells] at hcs
      obtain ⟨rfl, rfl, rfl⟩ := hcs
      exact ⟨zs, .inr ⟨_, rfl, hl, hm, by simpa using hz, hcell, hwz⟩⟩
  clear hA0 hval0
  refine (walk a0 a1 len0 cap0 len1 cap1 z0 z1 W w0 w1).mono fun e W' ⟨he, bel⟩ => ?_
  subst he
  exact ⟨_, rfl, _, _, _, [], _, [], hW', trodAll_mk1 (shut_bool Try.underlying4 _), (trodAll_cons_mk (Below.trod laidOut (by kernel_rfl) (of_decide_eq_true (by kernel_rfl)) k0 bel lt0) (trodAll_cons_mk (Below.trod laidOut (by kernel_rfl) (of_decide_eq_true (by kernel_rfl)) k1 bel lt1) trodAll_mk0)), rfl, bel.frame _, fun h => by cases h⟩

theorem over : Rows.fnTearRow.holds Try.pinned (OpenSpec.ofChange Rows.fnTearSpec) :=
  OpenClaim.holds_of_wide 6 Try.f6 rfl rfl rfl rfl rfl rfl rfl ⟨rfl, rfl, rfl, rfl, rfl⟩ rfl rfl rfl rfl rfl (by kernel_rfl) Try.func6 (by kernel_rfl)
    (of_decide_eq_true (by kernel_rfl)) (by unfold Func.isWrapper; first | (rw [if_pos (by decide +kernel)]; kernel_rfl) | (rw [if_neg (by decide +kernel)]; exact ⟨rfl, rfl⟩))
    (fun os started H enc _ => lifted os started H enc)

end Go.Proofs.Ythghkfncpdnpoab.ltear
namespace Go.Proofs.Ythghkfncpdnpoab
theorem tear_holds : Rows.FnTearSaid := ltear.over
#print axioms tear_holds
end Go.Proofs.Ythghkfncpdnpoab
