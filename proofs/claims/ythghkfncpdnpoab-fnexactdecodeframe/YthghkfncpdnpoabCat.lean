/-
  Own work: the model's pieces of text: four bytes of a number, zeros, one behind the other.
-/
import Derived.Test.YthghkfncpdnpoabRows8
import Derived.Deep.AppendLies
namespace Go.Proofs.Ythghkfncpdnpoab
open Go.ChangeShapes Go.WideShapes Go.ChangeAt Go.RowKit
set_option linter.unusedVariables false

theorem Try.infoU8' : (Try.prog.info? 5).map (fun i => (i.zero, i.size, i.bytes)) = some (some (.int .u8 0), 1, 1) := by kernel_rfl

def four (x : Int) : List Int := [x % 256, x / 256 % 256, x / 65536 % 256, x / 16777216]

set_option maxHeartbeats 400000 in
theorem four_any (x : Int) (w : World) (hx : U32 x) :
    Calls Try.prog 56 #[.int .u32 x] w fun e w' => e = .returned (.slice (some ⟨w.heap.size, 0, none⟩) 4 4) ∧
      w' = w.alloc (.cells #[.int .u8 (x % 256), .int .u8 (x / 256 % 256), .int .u8 (x / 65536 % 256), .int .u8 (x / 16777216)] 5) := by
  obtain ⟨h0, h1⟩ := hx
  go_enter Try.func56, Try.ntmps56
  go_wp2
  go_ret
  exact ⟨rfl, rfl⟩

/-- The value v is a slice of the bytes zs. -/
def Part (w : World) (v : Value) (zs : List Int) : Prop :=
  ∃ b o c, v = .slice (some ⟨b, o, none⟩) zs.length c ∧ b < w.heap.size ∧ ∀ i, i < zs.length → w.cell? ⟨b, o + i, none⟩ = some (.int .u8 (zs.getD i 0))

/-- A slice of the call's own that holds the bytes zs, in a block from B on. -/
def Own (w : World) (B : Nat) (v : Value) (zs : List Int) : Prop :=
  w.ownsRow B 5 1 v zs.length (zs.map (Value.int .u8)) ∧ ∃ g c, v = .slice (some ⟨g, 0, none⟩) zs.length c

theorem Own.base {w : World} {B : Nat} {v : Value} {zs : List Int} (h : Own w B v zs) : ∃ g c, v = .slice (some ⟨g, 0, none⟩) zs.length c ∧ B ≤ g ∧ g < w.heap.size ∧ zs.length ≤ c := by
  obtain ⟨h, g, c, rfl⟩ := h
  rcases h.2 with ⟨h', _⟩ | ⟨g', c', cur, h', hb, hh, hc, _⟩
  · cases h'
  · cases h'
    exact ⟨g, c, rfl, hb, (Array.getElem?_eq_some_iff.1 hh).1, hc⟩

theorem Own.part {w : World} {B : Nat} {v : Value} {zs : List Int} (h : Own w B v zs) : Part w v zs := by
  obtain ⟨g, c, rfl, hb, hg, hc⟩ := h.base
  refine ⟨g, 0, c, rfl, hg, fun i hi => ?_⟩
  rw [Nat.zero_add, h.1.cellAt i (by omega)]; simp [hi]

theorem Part.below {w w' : World} {v : Value} {zs : List Int} (h : Part w v zs) (hb : Below w.heap.size w w') : Part w' v zs := by
  obtain ⟨b, o, c, rfl, hl, hc⟩ := h
  exact ⟨b, o, c, rfl, by have := hb.size; omega, fun i hi => by rw [hb.cell (p := ⟨b, o + i, none⟩) hl]; exact hc i hi⟩

theorem Own.empty (w : World) (B : Nat) (hB : B ≤ w.heap.size) : Own (w.alloc (.cells #[] 5)) B (.slice (some ⟨w.heap.size, 0, none⟩) 0 0) [] :=
  ⟨World.ownsRow_lit w #[] 0 hB (by simp) (by simp), _, _, rfl⟩

theorem Own.alloc {w : World} {B : Nat} {v : Value} {zs : List Int} (h : Own w B v zs) (o : Obj) : Own (w.alloc o) B v zs := ⟨h.1.alloc _, h.2⟩

/-- append of bytes to a slice of the call's own. -/
theorem wpList_app (w : World) {ops : Array Oper} {rest : List Oper} {o : Oper} {a : Act} {Q : Exit → Act → World → Prop}
    (hg : o.guard = none) (s x : Operand) (hop : o.op = Op.call { callee := Callee.builtin Builtin.append, args := #[s, x], argTypes := #[22, 22] })
    (B : Nat) (v : Value) (xs : List Int) (hs : a.eval s = v) (hown : Own w B v xs) (ad : Addr) (m c : Nat) (news : List Int) (hx : a.eval x = .slice (some ad) m c) (hl : news.length = m)
    (hnews : ∀ j, j < m → w.cell? (ad.add j) = some (.int .u8 (news.getD j 0))) (hb : xs.length + m ≤ 1099511627776) (hB : B ≤ w.heap.size)
    (hK : ∀ v' w', Own w' B v' (xs ++ news) → Below B w w' → w.grownBy w' v.ownBlock → wpList Try.prog ops Q rest (a.put o.dst v') w') :
    wpList Try.prog ops Q (o :: rest) a w := by
  obtain ⟨i0, hi, hz0, hz1, hz2⟩ := info_parts Try.infoU8'
  have hbase := hown.base
  refine wpList_append_own w hg s x 22 hop B 5 i0 (.int .u8 0) 1 1 Try.underlying22 hi hz0 hz1 hz2 rfl (by decide) v xs.length _ hs hown.1 ad m c (news.map (Value.int .u8)) hx (by simp [hl]) ?_ (ints_oneCell _ _) (by unfold maxLen; omega) (by omega) hB ?_
  · intro j u hu
    have hj : j < news.length := by have := (List.getElem?_eq_some_iff.1 hu).1; simpa using this
    rw [hnews j (by omega)]
    simp [hj] at hu; simp [hj, hu]
  · intro v' w' h1 h2 h3
    obtain ⟨g, c0, hv, hBg, _, _⟩ := hbase
    have hbel : Below B w w' := (Below.refl _ _).grown h2 hB (fun k hk => by rw [hv] at hk; simp [Value.ownBlock] at hk; omega)
    refine hK v' w' ⟨?_, ?_⟩ hbel h2
    · rw [List.map_append, List.length_append, hl]; exact h1
    · rcases h1.2 with ⟨h', _⟩ | ⟨g', c', cur, h', _⟩
      · exact absurd (h3.1 h').1 (by rw [hv]; simp)
      · exact ⟨g', c', by rw [h', List.length_append, hl]⟩

set_option maxHeartbeats 400000 in
theorem zeros_any (n : Int) (w : World) (h0 : 0 ≤ n) (h1 : n ≤ 1048576) :
    Calls Try.prog 47 #[.int .i64 n] w fun e w' => ∃ v, e = .returned v ∧ Own w' w.heap.size v (List.replicate n.toNat 0) ∧ Below w.heap.size w w' := by
  obtain ⟨n, rfl⟩ := Int.eq_ofNat_of_zero_le h0
  go_enter Try.func47, Try.ntmps47
  go_wp2
  go_loopw [3, 4] (fun v i wr => ∃ k : Nat, k ≤ n ∧ i = .int .i64 k ∧ Own wr w.heap.size v (List.replicate k 0) ∧ Below w.heap.size w wr) (fun _ i _ => n - (intOf i).toNat)
  case atStart => exact ⟨0, Nat.zero_le _, rfl, Own.empty _ _ (Nat.le_refl _), (Below.refl _ _).alloc (Nat.le_refl _) _⟩
  case round =>
    obtain ⟨k, hk, rfl, hown, hbel⟩ := hrel
    by_cases hlt : k < n
    · have hsz := hbel.size
      go_wp2_with (at_builtin; refine wpList_app _ rfl _ _ rfl w.heap.size _ _ rfl (hown.alloc _) ⟨wr.heap.size, 0, none⟩ 1 1 [0] rfl rfl ?c1 ?c2 ?c3 ?_)
      case c1 => intro j hj; obtain rfl : j = 0 := by omega
                 simp [Addr.add]
      case c2 => simp; omega
      case c3 => simp; omega
      intro v' w1 hown' hbel' _
      have HO : Hid (Own w1 w.heap.size v' (List.replicate (k + 1) 0)) := by rw [List.replicate_succ']; exact hown'
      have HB : Hid (Below w.heap.size w w1) := (hbel.alloc (by omega) _).trans hbel'
      clear hown hown' hbel hbel'
      go_wp2
      go_roundw
      case rel => exact ⟨k + 1, by omega, by go_num, HO.out, HB.out⟩
      case measure => simp [intOf]; omega
    · have hkn : k = n := by omega
      subst hkn
      have HO : Hid _ := hown
      clear hown
      go_wp2
      go_ret
      exact ⟨_, rfl, HO.out, hbel⟩

theorem flat_snoc (zss : List (List Int)) (k : Nat) (h : k < zss.length) : (zss.take (k + 1)).flatten = (zss.take k).flatten ++ zss.getD k [] := by
  rw [List.take_succ_eq_append_getElem h, List.flatten_append]
  simp [h]
theorem flat_le (zss : List (List Int)) (k : Nat) : (zss.take k).flatten.length ≤ zss.flatten.length := by
  conv => rhs; rw [← List.take_append_drop k zss]
  rw [List.flatten_append, List.length_append]; omega

set_option maxHeartbeats 400000 in
theorem cat_any (p m cap : Nat) (vs : List Value) (zss : List (List Int)) (w : World) (hm : zss.length = m) (hp : p < w.heap.size) (hc : ∀ i, i < m → w.cell? ⟨p, i, none⟩ = some (vs.getD i undef))
    (hz : ∀ i, i < m → Part w (vs.getD i undef) (zss.getD i [])) (ht : zss.flatten.length ≤ 1048576) (hm' : m ≤ 1048576) :
    Calls Try.prog 55 #[.slice (some ⟨p, 0, none⟩) m cap] w fun e w' => ∃ v, e = .returned v ∧ Own w' w.heap.size v zss.flatten ∧ Below w.heap.size w w' := by
  go_enter Try.func55, Try.ntmps55
  go_wp2
  go_loopw [3, 4] (fun v i wr => ∃ k : Nat, k ≤ m ∧ i = .int .i64 k ∧ Own wr w.heap.size v (zss.take k).flatten ∧ Below w.heap.size w wr) (fun _ i _ => m - (intOf i).toNat)
  case atStart => exact ⟨0, Nat.zero_le _, rfl, Own.empty _ _ (Nat.le_refl _), (Below.refl _ _).alloc (Nat.le_refl _) _⟩
  case round =>
    obtain ⟨k, hk, rfl, hown, hbel⟩ := hrel
    by_cases hlt : k < m
    · have hsz := hbel.size
      obtain ⟨b, o, c, hv, hb, hcell⟩ := hz k hlt
      have hck : wr.cell? ⟨p, k, none⟩ = some (.slice (some ⟨b, o, none⟩) (zss.getD k []).length c) := by rw [hbel.cell (p := ⟨p, k, none⟩) hp, hc k hlt, hv]
      have hnews : ∀ j, j < (zss.getD k []).length → wr.cell? ((⟨b, o, none⟩ : Addr).add j) = some (.int .u8 ((zss.getD k []).getD j 0)) := by
        intro j hj; rw [Addr.add_lit, hbel.cell (p := ⟨b, o + j, none⟩) hb]; exact hcell j hj
      have hfl := flat_snoc zss k (by omega)
      have hle := flat_le zss (k + 1)
      have hle2 : (zss.take k).flatten.length + (zss.getD k []).length ≤ 1048576 := by rw [hfl, List.length_append] at hle; omega
      have HF : Hid _ := hfl
      clear hfl hle hv hcell hc hz
      generalize zss.getD k [] = z at *
      generalize (zss.take k).flatten = y at *
      generalize hzl : z.length = zl at *
      have HL : Hid _ := hzl
      clear hzl
      have HN : Hid _ := hnews
      clear hnews
      go_wp2_with (at_builtin; refine wpList_app _ rfl _ _ rfl w.heap.size _ _ rfl hown ⟨b, o, none⟩ _ _ z rfl HL.out HN.out ?c2 ?c3 ?_)
      case c2 => omega
      case c3 => omega
      intro v' w1 hown' hbel' _
      have HO : Hid (Own w1 w.heap.size v' (zss.take (k + 1)).flatten) := by rw [HF.out]; exact hown'
      have HB : Hid (Below w.heap.size w w1) := hbel.trans hbel'
      clear hown hown' hbel hbel'
      go_wp2
      go_roundw
      case rel => exact ⟨k + 1, by omega, by go_num, HO.out, HB.out⟩
      case measure => simp [intOf]; omega
    · have hkn : zss.take k = zss := List.take_of_length_le (by omega)
      rw [hkn] at hown
      have HO : Hid _ := hown
      clear hown hkn
      go_wp2
      go_ret
      exact ⟨_, rfl, HO.out, hbel⟩
end Go.Proofs.Ythghkfncpdnpoab
