/-
  Own work: the sum of two points, by the program (written by wip/mkpadd.py).
-/
import Derived.Test.YthghkfncpdnpoacMIInv
import Derived.Test.YthghkfncpdnpoacSSum
import Derived.Test.YthghkfncpdnpoacMReg9
namespace Go.Proofs.Ythghkfncpdnpoac
open Go.ChangeShapes Go.WideShapes Go.ChangeAt Go.RowKit
set_option linter.unusedVariables false

/-- What add leaves: the sum, by the formulas of the model. -/
def AddP (w : World) (g : Nat) (X1 Y1 Z1 T1 X2 Y2 Z2 T2 : Int) (e : Ending) (w' : World) : Prop :=
  ∃ x y z t, Pt w' g x y z t ∧ WrH g w w' ∧ e = .returned (.tuple #[]) ∧
    ev x = (smB X1 Y1 X2 Y2 - smA X1 Y1 X2 Y2) % fp * ((smG Z1 Z2 - smC mdD T1 T2) % fp) % fp ∧
    ev y = (smG Z1 Z2 + smC mdD T1 T2) % fp * ((smB X1 Y1 X2 Y2 + smA X1 Y1 X2 Y2) % fp) % fp ∧
    ev z = (smG Z1 Z2 - smC mdD T1 T2) % fp * ((smG Z1 Z2 + smC mdD T1 T2) % fp) % fp ∧
    ev t = (smB X1 Y1 X2 Y2 - smA X1 Y1 X2 Y2) % fp * ((smB X1 Y1 X2 Y2 + smA X1 Y1 X2 Y2) % fp) % fp
theorem em1 (a b : Int) : a % fp * b % fp = a * b % fp := by rw [Int.mul_emod, Int.emod_emod, ← Int.mul_emod]
theorem em2 (a b : Int) : a * (b % fp) % fp = a * b % fp := by rw [Int.mul_emod, Int.emod_emod, ← Int.mul_emod]
theorem eq_C (D T1 T2 : Int) : T1 * T2 % fp * ((D + D) % fp) % fp = smC D T1 T2 := by
  unfold smC
  rw [em1, em1]
  congr 1; grind
theorem eq_G (Z1 Z2 : Int) : (Z1 * Z2 % fp + Z1 * Z2 % fp) % fp = smG Z1 Z2 := by
  unfold smG
  rw [em1, ← Int.add_emod]
  congr 1; grind
theorem len5 {xs : List Int} (h : xs.length = 5) : ∃ a b c d e, xs = [a, b, c, d, e] := by
  match xs, h with
  | [a, b, c, d, e], _ => exact ⟨a, b, c, d, e, rfl⟩
theorem Try.sizePoint : (Try.prog.info? 84).map (·.size) = some 20 := by kernel_rfl
theorem wpList_storeP {w : World} {ops : Array Oper} {rest : List Oper} {o : Oper} {a : Act} {Q : Exit → Act → World → Prop} (hgd : o.guard = none) (px py : Operand) (ho : o.op = .store 84 px py)
    (g : Nat) (x y z t old : List Int) (hx : a.eval px = .pointer (some ⟨g, 0, none⟩)) (hy : a.eval py = .agg ((pl x y z t).map (Value.int .u64)).toArray) (kx : EOk x) (ky : EOk y) (kz : EOk z) (kt : EOk t) (hl : old.length = 20) (hr : RowW w g 84 old)
    (hK : ∀ w', Pt w' g x y z t → Wr g w w' → wpList Try.prog ops Q rest (a.put o.dst undef) w') :
    wpList Try.prog ops Q (o :: rest) a w := by
  have hn : (pl x y z t).length = 20 := by unfold pl; simp [kx.1, ky.1, kz.1, kt.1]
  exact wpList_store_row hgd 84 px py ho g ((pl x y z t).map (Value.int .u64)).toArray hx hy 84 _ hr (by rw [Try.sizePoint]; simp [hn]) (by simp [hn, hl]) (all_oneCell_toArray (ints_oneCell _ _)) (hK _ ⟨setRow_heap _ _ _ _ _ _ hr, kx, ky, kz, kt⟩ (Wr.setRow _ _ _))
set_option maxRecDepth 100000 in
set_option maxHeartbeats 16000000 in
theorem add_any (g h : Nat) (x1 y1 z1 t1 x2 y2 z2 t2 : List Int) (w : World) (hp : Pt w g x1 y1 z1 t1) (hq : Pt w h x2 y2 z2 t2) :
    Calls Try.prog 66 #[.pointer (some ⟨g, 0, none⟩), .pointer (some ⟨h, 0, none⟩)] w (AddP w g (ev x1) (ev y1) (ev z1) (ev t1) (ev x2) (ev y2) (ev z2) (ev t2)) := by
  have HS0 : Hid (RunD w w [] [(g, 0, x1), (g, 5, y1), (g, 10, z1), (g, 15, t1), (h, 0, x2), (h, 5, y2), (h, 10, z2), (h, 15, t2)]) := RunD.start w _ (fun e he => by
    simp only [List.mem_cons, List.not_mem_nil, or_false] at he
    rcases he with rfl | rfl | rfl | rfl | rfl | rfl | rfl | rfl
    · exact hp.ex
    · exact hp.ey
    · exact hp.ez
    · exact hp.et
    · exact hq.ex
    · exact hq.ey
    · exact hq.ez
    · exact hq.et)
  have HPT : Hid (Pt w g x1 y1 z1 t1) := hp
  clear hp hq
  go_enter Try.func66, Try.ntmps66
  go_wp2_with fail
  refine (curveD2_any _).mono ?_
  rintro e w1 ⟨dd, hk, hv, rfl, b⟩
  have HKdd : Hid (EOk dd ∧ ev dd = ev curveD2L) := ⟨hk, hv⟩
  have HS1 : Hid (RunD w w1 [] [(g, 0, x1), (g, 5, y1), (g, 10, z1), (g, 15, t1), (h, 0, x2), (h, 5, y2), (h, 10, z2), (h, 15, t2)]) := HS0.out.call b
  clear hk hv b HS0
  have HA2 : Hid (RunD w (w1.alloc (.cells #[.int .u64 0, .int .u64 0, .int .u64 0, .int .u64 0, .int .u64 0] 82)) [(w1.heap.size, [0, 0, 0, 0, 0])] [(g, 0, x1), (g, 5, y1), (g, 10, z1), (g, 15, t1), (h, 0, x2), (h, 5, y2), (h, 10, z2), (h, 15, t2)]) := HS1.out.room
  clear HS1
  go_wp2_with (first
    | (refine wpList_storeD HA2.out rfl (.tmp 4) (.tmp 17) rfl 0 (w1.heap.size) [0, 0, 0, 0, 0] dd rfl rfl rfl HKdd.out.1 rfl ?_)
    | fail)
  intro w3 S
  have HS3 : Hid (RunD w w3 [(w1.heap.size, dd)] [(g, 0, x1), (g, 5, y1), (g, 10, z1), (g, 15, t1), (h, 0, x2), (h, 5, y2), (h, 10, z2), (h, 15, t2)]) := S
  clear S HA2
  generalize w1.heap.size = G3a at *
  go_wp2_with fail
  refine wp_region_any (by kernel_rfl) ?_
  refine wpAny_slotsU (fun _ _ _ => True) (frame := (fun (c0 c1 c2 c3 c4 c7 c8 c9 c10 c11 c12 c13 c14 c15 c16 c17 c32 c33 c34 c35 c36 c37 c38 c39 c40 c41 c42 c43 c44 c45 c46 c47 c48 c49 c50 c51 c52 c53 c54 c55 c56 c57 c58 c59 c60 c61 c62 c63 c64 c65 c66 c67 c68 c69 c70 c71 c72 c73 c74 : Value) => fun (t : Nat → Value) => ({ tmps := List.toArray (c0 :: c1 :: c2 :: c3 :: c4 :: t 14 :: t 15 :: c7 :: c8 :: c9 :: c10 :: c11 :: c12 :: c13 :: c14 :: c15 :: c16 :: c17 :: t 0 :: t 1 :: t 2 :: t 3 :: t 4 :: t 5 :: t 6 :: t 7 :: t 8 :: t 9 :: t 10 :: t 11 :: t 12 :: t 13 :: c32 :: c33 :: c34 :: c35 :: c36 :: c37 :: c38 :: c39 :: c40 :: c41 :: c42 :: c43 :: c44 :: c45 :: c46 :: c47 :: c48 :: c49 :: c50 :: c51 :: c52 :: c53 :: c54 :: c55 :: c56 :: c57 :: c58 :: c59 :: c60 :: c61 :: c62 :: c63 :: c64 :: c65 :: c66 :: c67 :: c68 :: c69 :: c70 :: c71 :: c72 :: c73 :: c74 :: []), defers := [] } : Act)) _ _ _ _ _ _ _ _ _ _ _ _ _ _ _ _ _ _ _ _ _ _ _ _ _ _ _ _ _ _ _ _ _ _ _ _ _ _ _ _ _ _ _ _ _ _ _ _ _ _ _ _ _ _ _ _ _ _ _)
    (Ext := ExA w3 14 15 16 17 ((ev y1 - ev x1) % fp) ((ev y2 - ev x2) % fp)) (Good := fun i L _ v => if i = 0 then v = .pointer (some ⟨g, 0, none⟩) else if i = 1 then v = .pointer (some ⟨g, 0, none⟩) else if i = 2 then v = .pointer (some ⟨g, 5, none⟩) else if i = 3 then v = .pointer (some ⟨g, 0, none⟩) else if i = 4 then v = .pointer (some ⟨g, 0, none⟩) else if i = 5 then v = .pointer (some ⟨g, 0, none⟩) else if i = 6 then EV ((ev y1 - ev x1) % fp) v else if i = 7 then v = .pointer (some ⟨h, 0, none⟩) else if i = 8 then v = .pointer (some ⟨h, 0, none⟩) else if i = 9 then v = .pointer (some ⟨h, 5, none⟩) else if i = 10 then v = .pointer (some ⟨h, 0, none⟩) else if i = 11 then v = .pointer (some ⟨h, 0, none⟩) else if i = 12 then v = .pointer (some ⟨h, 0, none⟩) else if i = 13 then EV ((ev y2 - ev x2) % fp) v else if i = 14 then L 14 = true else if i = 15 then L 15 = true else if i = 16 then L 16 = true else if i = 17 then L 17 = true else True) ?hstab (by kernel_rfl) ?hop ?hdone _ _ ((fun (x0 x1 x2 x3 x4 x5 x6 x7 x8 x9 x10 x11 x12 x13 x14 x15 : Value) => fun (i : Nat) => if i = 0 then x0 else if i = 1 then x1 else if i = 2 then x2 else if i = 3 then x3 else if i = 4 then x4 else if i = 5 then x5 else if i = 6 then x6 else if i = 7 then x7 else if i = 8 then x8 else if i = 9 then x9 else if i = 10 then x10 else if i = 11 then x11 else if i = 12 then x12 else if i = 13 then x13 else if i = 14 then x14 else if i = 15 then x15 else undef) _ _ _ _ _ _ _ _ _ _ _ _ _ _ _ _) _ (by simp) ?ext ?start (by simp)
  case start => intro i hi h; exact absurd h (by rw [Array.getD_eq_getD_getElem?, Array.getElem?_replicate]; split <;> simp)
  case ext => exact ExA.start _ _ _ (by simp) (by simp) (by simp) (by simp) ⟨rfl, rfl, rfl, Nat.le_refl _, fun _ _ => rfl⟩
  case hstab =>
    intro j L w9 w' i v _ _ _ h
    by_cases h14 : j = 14
    · subst h14
      simp at h ⊢
      unfold updK; simp [h]
    by_cases h15 : j = 15
    · subst h15
      simp at h ⊢
      unfold updK; simp [h]
    by_cases h16 : j = 16
    · subst h16
      simp at h ⊢
      unfold updK; simp [h]
    by_cases h17 : j = 17
    · subst h17
      simp at h ⊢
      unfold updK; simp [h]
    simp only [if_neg h14, if_neg h15, if_neg h16, if_neg h17] at h ⊢
    exact h
  case hop =>
    intro i o L t w' ho hLi hx hdep K hK
    have hi : i < 18 := (Array.getElem?_eq_some_iff.1 ho).1
    obtain rfl | rfl | rfl | rfl | rfl | rfl | rfl | rfl | rfl | rfl | rfl | rfl | rfl | rfl | rfl | rfl | rfl | rfl : i = 0 ∨ i = 1 ∨ i = 2 ∨ i = 3 ∨ i = 4 ∨ i = 5 ∨ i = 6 ∨ i = 7 ∨ i = 8 ∨ i = 9 ∨ i = 10 ∨ i = 11 ∨ i = 12 ∨ i = 13 ∨ i = 14 ∨ i = 15 ∨ i = 16 ∨ i = 17 := by omega
    all_goals (simp at ho; subst ho)
    · clear hdep
      have hK' := hK w' (.pointer (some ⟨g, 0, none⟩)) (by simp) (hx.low 0 (by decide) (by decide) (by decide) (by decide) _ (Below.refl _ _)) trivial
      clear hK
      rw [if_pos (by rfl)]
      go_simp
      simpa [upd] using hK'
    · have d0 : t 0 = .pointer (some ⟨g, 0, none⟩) := by simpa using hdep ⟨0, .data⟩ (by simp) rfl
      clear hdep
      have hK' := hK w' (.pointer (some ⟨g, 0, none⟩)) (by simp) (hx.low 1 (by decide) (by decide) (by decide) (by decide) _ (Below.refl _ _)) trivial
      clear hK
      rw [if_pos (by rfl)]
      go_simp
      simpa [upd, d0] using hK'
    · have d1 : t 1 = .pointer (some ⟨g, 0, none⟩) := by simpa using hdep ⟨1, .data⟩ (by simp) rfl
      clear hdep
      have hK' := hK w' (.pointer (some ⟨g, 5, none⟩)) (by simp) (hx.low 2 (by decide) (by decide) (by decide) (by decide) _ (Below.refl _ _)) trivial
      clear hK
      rw [if_pos (by rfl)]
      go_simp
      simpa [upd, d1] using hK'
    · clear hdep
      have hK' := hK w' (.pointer (some ⟨g, 0, none⟩)) (by simp) (hx.low 3 (by decide) (by decide) (by decide) (by decide) _ (Below.refl _ _)) trivial
      clear hK
      rw [if_pos (by rfl)]
      go_simp
      simpa [upd] using hK'
    · have d3 : t 3 = .pointer (some ⟨g, 0, none⟩) := by simpa using hdep ⟨3, .data⟩ (by simp) rfl
      clear hdep
      have hK' := hK w' (.pointer (some ⟨g, 0, none⟩)) (by simp) (hx.low 4 (by decide) (by decide) (by decide) (by decide) _ (Below.refl _ _)) trivial
      clear hK
      rw [if_pos (by rfl)]
      go_simp
      simpa [upd, d3] using hK'
    · have d4 : t 4 = .pointer (some ⟨g, 0, none⟩) := by simpa using hdep ⟨4, .data⟩ (by simp) rfl
      clear hdep
      have hK' := hK w' (.pointer (some ⟨g, 0, none⟩)) (by simp) (hx.low 5 (by decide) (by decide) (by decide) (by decide) _ (Below.refl _ _)) trivial
      clear hK
      rw [if_pos (by rfl)]
      go_simp
      simpa [upd, d4] using hK'
    · have d2 : t 2 = .pointer (some ⟨g, 5, none⟩) := by simpa using hdep ⟨2, .data⟩ (by simp) rfl
      have d5 : t 5 = .pointer (some ⟨g, 0, none⟩) := by simpa using hdep ⟨5, .data⟩ (by simp) rfl
      clear hdep
      have A := minus_any g 5 g 0 y1 x1 w' ((HS3.out.el 1 _ _ _ rfl).below hx.below) ((HS3.out.el 0 _ _ _ rfl).below hx.below)
      have hK' : ∀ ww v, EV ((ev y1 - ev x1) % fp) v → Below w'.heap.size w' ww → K _ ww := fun ww v hv hb => hK ww v (by simpa using hv) (hx.low 6 (by decide) (by decide) (by decide) (by decide) _ hb) trivial
      clear hK
      rw [if_pos (by rfl)]
      go_simp
      try simp only [d2, d5]
      refine A.mono ?_
      rintro e w9 ⟨es, hk, hv, rfl, hb⟩
      have hK2 := hK' w9 _ ⟨es, hk, hv, rfl⟩ hb
      clear hK' A hk hv hb
      go_simp
      simpa [upd, d2, d5] using hK2
    · clear hdep
      have hK' := hK w' (.pointer (some ⟨h, 0, none⟩)) (by simp) (hx.low 7 (by decide) (by decide) (by decide) (by decide) _ (Below.refl _ _)) trivial
      clear hK
      rw [if_pos (by rfl)]
      go_simp
      simpa [upd] using hK'
    · have d7 : t 7 = .pointer (some ⟨h, 0, none⟩) := by simpa using hdep ⟨7, .data⟩ (by simp) rfl
      clear hdep
      have hK' := hK w' (.pointer (some ⟨h, 0, none⟩)) (by simp) (hx.low 8 (by decide) (by decide) (by decide) (by decide) _ (Below.refl _ _)) trivial
      clear hK
      rw [if_pos (by rfl)]
      go_simp
      simpa [upd, d7] using hK'
    · have d8 : t 8 = .pointer (some ⟨h, 0, none⟩) := by simpa using hdep ⟨8, .data⟩ (by simp) rfl
      clear hdep
      have hK' := hK w' (.pointer (some ⟨h, 5, none⟩)) (by simp) (hx.low 9 (by decide) (by decide) (by decide) (by decide) _ (Below.refl _ _)) trivial
      clear hK
      rw [if_pos (by rfl)]
      go_simp
      simpa [upd, d8] using hK'
    · clear hdep
      have hK' := hK w' (.pointer (some ⟨h, 0, none⟩)) (by simp) (hx.low 10 (by decide) (by decide) (by decide) (by decide) _ (Below.refl _ _)) trivial
      clear hK
      rw [if_pos (by rfl)]
      go_simp
      simpa [upd] using hK'
    · have d10 : t 10 = .pointer (some ⟨h, 0, none⟩) := by simpa using hdep ⟨10, .data⟩ (by simp) rfl
      clear hdep
      have hK' := hK w' (.pointer (some ⟨h, 0, none⟩)) (by simp) (hx.low 11 (by decide) (by decide) (by decide) (by decide) _ (Below.refl _ _)) trivial
      clear hK
      rw [if_pos (by rfl)]
      go_simp
      simpa [upd, d10] using hK'
    · have d11 : t 11 = .pointer (some ⟨h, 0, none⟩) := by simpa using hdep ⟨11, .data⟩ (by simp) rfl
      clear hdep
      have hK' := hK w' (.pointer (some ⟨h, 0, none⟩)) (by simp) (hx.low 12 (by decide) (by decide) (by decide) (by decide) _ (Below.refl _ _)) trivial
      clear hK
      rw [if_pos (by rfl)]
      go_simp
      simpa [upd, d11] using hK'
    · have d9 : t 9 = .pointer (some ⟨h, 5, none⟩) := by simpa using hdep ⟨9, .data⟩ (by simp) rfl
      have d12 : t 12 = .pointer (some ⟨h, 0, none⟩) := by simpa using hdep ⟨12, .data⟩ (by simp) rfl
      clear hdep
      have A := minus_any h 5 h 0 y2 x2 w' ((HS3.out.el 5 _ _ _ rfl).below hx.below) ((HS3.out.el 4 _ _ _ rfl).below hx.below)
      have hK' : ∀ ww v, EV ((ev y2 - ev x2) % fp) v → Below w'.heap.size w' ww → K _ ww := fun ww v hv hb => hK ww v (by simpa using hv) (hx.low 13 (by decide) (by decide) (by decide) (by decide) _ hb) trivial
      clear hK
      rw [if_pos (by rfl)]
      go_simp
      try simp only [d9, d12]
      refine A.mono ?_
      rintro e w9 ⟨es, hk, hv, rfl, hb⟩
      have hK2 := hK' w9 _ ⟨es, hk, hv, rfl⟩ hb
      clear hK' A hk hv hb
      go_simp
      simpa [upd, d9, d12] using hK2
    · clear hdep
      have hK' := hK _ (.pointer (some ⟨w'.heap.size, 0, none⟩)) (by simp [updK]) (hx.alloc1 hLi (by decide) (by decide) (by decide)) trivial
      clear hK
      rw [if_pos (by rfl)]
      go_simp
      simpa [upd] using hK'
    · clear hdep
      have hK' := hK _ (.pointer (some ⟨w'.heap.size, 0, none⟩)) (by simp [updK]) (hx.alloc2 hLi (by decide) (by decide) (by decide)) trivial
      clear hK
      rw [if_pos (by rfl)]
      go_simp
      simpa [upd] using hK'
    · have l14 : L 14 = true := by simpa using hdep ⟨14, .data⟩ (by simp) rfl
      have f6 : EV ((ev y1 - ev x1) % fp) (t 6) := by simpa using hdep ⟨6, .data⟩ (by simp) rfl
      clear hdep
      obtain ⟨g9, zs9, e9, r9, k9⟩ := hx.get1 l14
      refine f6.elim_ fun es9 ke ve ee => ?_
      have hK' : ∀ ww, RowW ww g9 82 es9 → Wr g9 w' ww → K _ ww := fun ww rr hw => hK ww undef (by simp [updK]) (hx.store1 l14 e9 (by decide) (by decide) (by decide) ke ve hw rr _) trivial
      clear hK
      rw [if_pos (by rfl)]
      refine wp_storeX (.tmp 5) (.tmp 24) rfl g9 zs9 es9 e9 ee ke k9 r9 fun ww rr hw => ?_
      have hK2 := hK' ww rr hw
      clear hK'
      simpa [upd, Act.put] using hK2
    · have l15 : L 15 = true := by simpa using hdep ⟨15, .data⟩ (by simp) rfl
      have f13 : EV ((ev y2 - ev x2) % fp) (t 13) := by simpa using hdep ⟨13, .data⟩ (by simp) rfl
      clear hdep
      obtain ⟨g9, zs9, e9, r9, k9⟩ := hx.swap.get1 l15
      refine f13.elim_ fun es9 ke ve ee => ?_
      have hK' : ∀ ww, RowW ww g9 82 es9 → Wr g9 w' ww → K _ ww := fun ww rr hw => hK ww undef (by simp [updK]) (hx.store2 l15 e9 (by decide) (by decide) (by decide) ke ve hw rr _) trivial
      clear hK
      rw [if_pos (by rfl)]
      refine wp_storeX (.tmp 6) (.tmp 31) rfl g9 zs9 es9 e9 ee ke k9 r9 fun ww rr hw => ?_
      have hK2 := hK' ww rr hw
      clear hK'
      simpa [upd, Act.put] using hK2
  case hdone =>
    intro L t4 w4 hx hg
    have l16 : L 16 = true := by simpa using hg 16 (by decide)
    have l17 : L 17 = true := by simpa using hg 17 (by decide)
    clear hg
    obtain ⟨G4a, pd, q1, qg1, qr1, qk1, qv1⟩ := hx.fin1 l16
    obtain ⟨G4b, qd, q2, qg2, qr2, qk2, qv2⟩ := hx.swap.fin1 l17
    have qne := hx.ne (hx.v1.1 l16) (hx.v2.1 l17) _ _ q1 q2
    have HS4 : Hid (RunD w w4 [(G4b, qd), (G4a, pd), (G3a, dd)] [(g, 0, x1), (g, 5, y1), (g, 10, z1), (g, 15, t1), (h, 0, x2), (h, 5, y2), (h, 10, z2), (h, 15, t2)]) := HS3.out.two hx.below qg1 qr1 qk1 qg2 qr2 qk2 qne
    have HKpd : Hid (EOk pd ∧ ev pd = (ev y1 - ev x1) % fp) := ⟨qk1, qv1⟩
    have HKqd : Hid (EOk qd ∧ ev qd = (ev y2 - ev x2) % fp) := ⟨qk2, qv2⟩
    simp only [q1, q2]
    clear hx q1 q2 qg1 qg2 qr1 qr2 qk1 qk2 qv1 qv2 qne HS3
    go_wp2_with fail
    refine wp_region_any (by kernel_rfl) ?_
    refine wpAny_slotsU (fun _ _ _ => True) (frame := (fun (c0 c1 c2 c3 c4 c5 c6 c9 c10 c11 c12 c13 c14 c15 c16 c17 c18 c19 c20 c21 c22 c23 c24 c25 c26 c27 c28 c29 c30 c31 c46 c47 c48 c49 c50 c51 c52 c53 c54 c55 c56 c57 c58 c59 c60 c61 c62 c63 c64 c65 c66 c67 c68 c69 c70 c71 c72 c73 c74 : Value) => fun (t : Nat → Value) => ({ tmps := List.toArray (c0 :: c1 :: c2 :: c3 :: c4 :: c5 :: c6 :: t 14 :: t 15 :: c9 :: c10 :: c11 :: c12 :: c13 :: c14 :: c15 :: c16 :: c17 :: c18 :: c19 :: c20 :: c21 :: c22 :: c23 :: c24 :: c25 :: c26 :: c27 :: c28 :: c29 :: c30 :: c31 :: t 0 :: t 1 :: t 2 :: t 3 :: t 4 :: t 5 :: t 6 :: t 7 :: t 8 :: t 9 :: t 10 :: t 11 :: t 12 :: t 13 :: c46 :: c47 :: c48 :: c49 :: c50 :: c51 :: c52 :: c53 :: c54 :: c55 :: c56 :: c57 :: c58 :: c59 :: c60 :: c61 :: c62 :: c63 :: c64 :: c65 :: c66 :: c67 :: c68 :: c69 :: c70 :: c71 :: c72 :: c73 :: c74 :: []), defers := [] } : Act)) _ _ _ _ _ _ _ _ _ _ _ _ _ _ _ _ _ _ _ _ _ _ _ _ _ _ _ _ _ _ _ _ _ _ _ _ _ _ _ _ _ _ _ _ _ _ _ _ _ _ _ _ _ _ _ _ _ _ _)
      (Ext := ExA w4 14 15 16 17 ((ev y1 + ev x1) % fp) ((ev y2 + ev x2) % fp)) (Good := fun i L _ v => if i = 0 then v = .pointer (some ⟨g, 0, none⟩) else if i = 1 then v = .pointer (some ⟨g, 0, none⟩) else if i = 2 then v = .pointer (some ⟨g, 5, none⟩) else if i = 3 then v = .pointer (some ⟨g, 0, none⟩) else if i = 4 then v = .pointer (some ⟨g, 0, none⟩) else if i = 5 then v = .pointer (some ⟨g, 0, none⟩) else if i = 6 then EV ((ev y1 + ev x1) % fp) v else if i = 7 then v = .pointer (some ⟨h, 0, none⟩) else if i = 8 then v = .pointer (some ⟨h, 0, none⟩) else if i = 9 then v = .pointer (some ⟨h, 5, none⟩) else if i = 10 then v = .pointer (some ⟨h, 0, none⟩) else if i = 11 then v = .pointer (some ⟨h, 0, none⟩) else if i = 12 then v = .pointer (some ⟨h, 0, none⟩) else if i = 13 then EV ((ev y2 + ev x2) % fp) v else if i = 14 then L 14 = true else if i = 15 then L 15 = true else if i = 16 then L 16 = true else if i = 17 then L 17 = true else True) ?hstab (by kernel_rfl) ?hop ?hdone _ _ ((fun (x0 x1 x2 x3 x4 x5 x6 x7 x8 x9 x10 x11 x12 x13 x14 x15 : Value) => fun (i : Nat) => if i = 0 then x0 else if i = 1 then x1 else if i = 2 then x2 else if i = 3 then x3 else if i = 4 then x4 else if i = 5 then x5 else if i = 6 then x6 else if i = 7 then x7 else if i = 8 then x8 else if i = 9 then x9 else if i = 10 then x10 else if i = 11 then x11 else if i = 12 then x12 else if i = 13 then x13 else if i = 14 then x14 else if i = 15 then x15 else undef) _ _ _ _ _ _ _ _ _ _ _ _ _ _ _ _) _ (by simp) ?ext ?start (by simp)
    case start => intro i hi h; exact absurd h (by rw [Array.getD_eq_getD_getElem?, Array.getElem?_replicate]; split <;> simp)
    case ext => exact ExA.start _ _ _ (by simp) (by simp) (by simp) (by simp) ⟨rfl, rfl, rfl, Nat.le_refl _, fun _ _ => rfl⟩
    case hstab =>
      intro j L w9 w' i v _ _ _ h
      by_cases h14 : j = 14
      · subst h14
        simp at h ⊢
        unfold updK; simp [h]
      by_cases h15 : j = 15
      · subst h15
        simp at h ⊢
        unfold updK; simp [h]
      by_cases h16 : j = 16
      · subst h16
        simp at h ⊢
        unfold updK; simp [h]
      by_cases h17 : j = 17
      · subst h17
        simp at h ⊢
        unfold updK; simp [h]
      simp only [if_neg h14, if_neg h15, if_neg h16, if_neg h17] at h ⊢
      exact h
    case hop =>
      intro i o L t w' ho hLi hx hdep K hK
      have hi : i < 18 := (Array.getElem?_eq_some_iff.1 ho).1
      obtain rfl | rfl | rfl | rfl | rfl | rfl | rfl | rfl | rfl | rfl | rfl | rfl | rfl | rfl | rfl | rfl | rfl | rfl : i = 0 ∨ i = 1 ∨ i = 2 ∨ i = 3 ∨ i = 4 ∨ i = 5 ∨ i = 6 ∨ i = 7 ∨ i = 8 ∨ i = 9 ∨ i = 10 ∨ i = 11 ∨ i = 12 ∨ i = 13 ∨ i = 14 ∨ i = 15 ∨ i = 16 ∨ i = 17 := by omega
      all_goals (simp at ho; subst ho)
      · clear hdep
        have hK' := hK w' (.pointer (some ⟨g, 0, none⟩)) (by simp) (hx.low 0 (by decide) (by decide) (by decide) (by decide) _ (Below.refl _ _)) trivial
        clear hK
        rw [if_pos (by rfl)]
        go_simp
        simpa [upd] using hK'
      · have d0 : t 0 = .pointer (some ⟨g, 0, none⟩) := by simpa using hdep ⟨0, .data⟩ (by simp) rfl
        clear hdep
        have hK' := hK w' (.pointer (some ⟨g, 0, none⟩)) (by simp) (hx.low 1 (by decide) (by decide) (by decide) (by decide) _ (Below.refl _ _)) trivial
        clear hK
        rw [if_pos (by rfl)]
        go_simp
        simpa [upd, d0] using hK'
      · have d1 : t 1 = .pointer (some ⟨g, 0, none⟩) := by simpa using hdep ⟨1, .data⟩ (by simp) rfl
        clear hdep
        have hK' := hK w' (.pointer (some ⟨g, 5, none⟩)) (by simp) (hx.low 2 (by decide) (by decide) (by decide) (by decide) _ (Below.refl _ _)) trivial
        clear hK
        rw [if_pos (by rfl)]
        go_simp
        simpa [upd, d1] using hK'
      · clear hdep
        have hK' := hK w' (.pointer (some ⟨g, 0, none⟩)) (by simp) (hx.low 3 (by decide) (by decide) (by decide) (by decide) _ (Below.refl _ _)) trivial
        clear hK
        rw [if_pos (by rfl)]
        go_simp
        simpa [upd] using hK'
      · have d3 : t 3 = .pointer (some ⟨g, 0, none⟩) := by simpa using hdep ⟨3, .data⟩ (by simp) rfl
        clear hdep
        have hK' := hK w' (.pointer (some ⟨g, 0, none⟩)) (by simp) (hx.low 4 (by decide) (by decide) (by decide) (by decide) _ (Below.refl _ _)) trivial
        clear hK
        rw [if_pos (by rfl)]
        go_simp
        simpa [upd, d3] using hK'
      · have d4 : t 4 = .pointer (some ⟨g, 0, none⟩) := by simpa using hdep ⟨4, .data⟩ (by simp) rfl
        clear hdep
        have hK' := hK w' (.pointer (some ⟨g, 0, none⟩)) (by simp) (hx.low 5 (by decide) (by decide) (by decide) (by decide) _ (Below.refl _ _)) trivial
        clear hK
        rw [if_pos (by rfl)]
        go_simp
        simpa [upd, d4] using hK'
      · have d2 : t 2 = .pointer (some ⟨g, 5, none⟩) := by simpa using hdep ⟨2, .data⟩ (by simp) rfl
        have d5 : t 5 = .pointer (some ⟨g, 0, none⟩) := by simpa using hdep ⟨5, .data⟩ (by simp) rfl
        clear hdep
        have A := plus_any g 5 g 0 y1 x1 w' ((HS4.out.el 1 _ _ _ rfl).below hx.below) ((HS4.out.el 0 _ _ _ rfl).below hx.below)
        have hK' : ∀ ww v, EV ((ev y1 + ev x1) % fp) v → Below w'.heap.size w' ww → K _ ww := fun ww v hv hb => hK ww v (by simpa using hv) (hx.low 6 (by decide) (by decide) (by decide) (by decide) _ hb) trivial
        clear hK
        rw [if_pos (by rfl)]
        go_simp
        try simp only [d2, d5]
        refine A.mono ?_
        rintro e w9 ⟨es, hk, hv, rfl, hb⟩
        have hK2 := hK' w9 _ ⟨es, hk, hv, rfl⟩ hb
        clear hK' A hk hv hb
        go_simp
        simpa [upd, d2, d5] using hK2
      · clear hdep
        have hK' := hK w' (.pointer (some ⟨h, 0, none⟩)) (by simp) (hx.low 7 (by decide) (by decide) (by decide) (by decide) _ (Below.refl _ _)) trivial
        clear hK
        rw [if_pos (by rfl)]
        go_simp
        simpa [upd] using hK'
      · have d7 : t 7 = .pointer (some ⟨h, 0, none⟩) := by simpa using hdep ⟨7, .data⟩ (by simp) rfl
        clear hdep
        have hK' := hK w' (.pointer (some ⟨h, 0, none⟩)) (by simp) (hx.low 8 (by decide) (by decide) (by decide) (by decide) _ (Below.refl _ _)) trivial
        clear hK
        rw [if_pos (by rfl)]
        go_simp
        simpa [upd, d7] using hK'
      · have d8 : t 8 = .pointer (some ⟨h, 0, none⟩) := by simpa using hdep ⟨8, .data⟩ (by simp) rfl
        clear hdep
        have hK' := hK w' (.pointer (some ⟨h, 5, none⟩)) (by simp) (hx.low 9 (by decide) (by decide) (by decide) (by decide) _ (Below.refl _ _)) trivial
        clear hK
        rw [if_pos (by rfl)]
        go_simp
        simpa [upd, d8] using hK'
      · clear hdep
        have hK' := hK w' (.pointer (some ⟨h, 0, none⟩)) (by simp) (hx.low 10 (by decide) (by decide) (by decide) (by decide) _ (Below.refl _ _)) trivial
        clear hK
        rw [if_pos (by rfl)]
        go_simp
        simpa [upd] using hK'
      · have d10 : t 10 = .pointer (some ⟨h, 0, none⟩) := by simpa using hdep ⟨10, .data⟩ (by simp) rfl
        clear hdep
        have hK' := hK w' (.pointer (some ⟨h, 0, none⟩)) (by simp) (hx.low 11 (by decide) (by decide) (by decide) (by decide) _ (Below.refl _ _)) trivial
        clear hK
        rw [if_pos (by rfl)]
        go_simp
        simpa [upd, d10] using hK'
      · have d11 : t 11 = .pointer (some ⟨h, 0, none⟩) := by simpa using hdep ⟨11, .data⟩ (by simp) rfl
        clear hdep
        have hK' := hK w' (.pointer (some ⟨h, 0, none⟩)) (by simp) (hx.low 12 (by decide) (by decide) (by decide) (by decide) _ (Below.refl _ _)) trivial
        clear hK
        rw [if_pos (by rfl)]
        go_simp
        simpa [upd, d11] using hK'
      · have d9 : t 9 = .pointer (some ⟨h, 5, none⟩) := by simpa using hdep ⟨9, .data⟩ (by simp) rfl
        have d12 : t 12 = .pointer (some ⟨h, 0, none⟩) := by simpa using hdep ⟨12, .data⟩ (by simp) rfl
        clear hdep
        have A := plus_any h 5 h 0 y2 x2 w' ((HS4.out.el 5 _ _ _ rfl).below hx.below) ((HS4.out.el 4 _ _ _ rfl).below hx.below)
        have hK' : ∀ ww v, EV ((ev y2 + ev x2) % fp) v → Below w'.heap.size w' ww → K _ ww := fun ww v hv hb => hK ww v (by simpa using hv) (hx.low 13 (by decide) (by decide) (by decide) (by decide) _ hb) trivial
        clear hK
        rw [if_pos (by rfl)]
        go_simp
        try simp only [d9, d12]
        refine A.mono ?_
        rintro e w9 ⟨es, hk, hv, rfl, hb⟩
        have hK2 := hK' w9 _ ⟨es, hk, hv, rfl⟩ hb
        clear hK' A hk hv hb
        go_simp
        simpa [upd, d9, d12] using hK2
      · clear hdep
        have hK' := hK _ (.pointer (some ⟨w'.heap.size, 0, none⟩)) (by simp [updK]) (hx.alloc1 hLi (by decide) (by decide) (by decide)) trivial
        clear hK
        rw [if_pos (by rfl)]
        go_simp
        simpa [upd] using hK'
      · clear hdep
        have hK' := hK _ (.pointer (some ⟨w'.heap.size, 0, none⟩)) (by simp [updK]) (hx.alloc2 hLi (by decide) (by decide) (by decide)) trivial
        clear hK
        rw [if_pos (by rfl)]
        go_simp
        simpa [upd] using hK'
      · have l14 : L 14 = true := by simpa using hdep ⟨14, .data⟩ (by simp) rfl
        have f6 : EV ((ev y1 + ev x1) % fp) (t 6) := by simpa using hdep ⟨6, .data⟩ (by simp) rfl
        clear hdep
        obtain ⟨g9, zs9, e9, r9, k9⟩ := hx.get1 l14
        refine f6.elim_ fun es9 ke ve ee => ?_
        have hK' : ∀ ww, RowW ww g9 82 es9 → Wr g9 w' ww → K _ ww := fun ww rr hw => hK ww undef (by simp [updK]) (hx.store1 l14 e9 (by decide) (by decide) (by decide) ke ve hw rr _) trivial
        clear hK
        rw [if_pos (by rfl)]
        refine wp_storeX (.tmp 7) (.tmp 38) rfl g9 zs9 es9 e9 ee ke k9 r9 fun ww rr hw => ?_
        have hK2 := hK' ww rr hw
        clear hK'
        simpa [upd, Act.put] using hK2
      · have l15 : L 15 = true := by simpa using hdep ⟨15, .data⟩ (by simp) rfl
        have f13 : EV ((ev y2 + ev x2) % fp) (t 13) := by simpa using hdep ⟨13, .data⟩ (by simp) rfl
        clear hdep
        obtain ⟨g9, zs9, e9, r9, k9⟩ := hx.swap.get1 l15
        refine f13.elim_ fun es9 ke ve ee => ?_
        have hK' : ∀ ww, RowW ww g9 82 es9 → Wr g9 w' ww → K _ ww := fun ww rr hw => hK ww undef (by simp [updK]) (hx.store2 l15 e9 (by decide) (by decide) (by decide) ke ve hw rr _) trivial
        clear hK
        rw [if_pos (by rfl)]
        refine wp_storeX (.tmp 8) (.tmp 45) rfl g9 zs9 es9 e9 ee ke k9 r9 fun ww rr hw => ?_
        have hK2 := hK' ww rr hw
        clear hK'
        simpa [upd, Act.put] using hK2
    case hdone =>
      intro L t5 w5 hx hg
      have l16 : L 16 = true := by simpa using hg 16 (by decide)
      have l17 : L 17 = true := by simpa using hg 17 (by decide)
      clear hg
      obtain ⟨G5a, pu, q1, qg1, qr1, qk1, qv1⟩ := hx.fin1 l16
      obtain ⟨G5b, qu, q2, qg2, qr2, qk2, qv2⟩ := hx.swap.fin1 l17
      have qne := hx.ne (hx.v1.1 l16) (hx.v2.1 l17) _ _ q1 q2
      have HS5 : Hid (RunD w w5 [(G5b, qu), (G5a, pu), (G4b, qd), (G4a, pd), (G3a, dd)] [(g, 0, x1), (g, 5, y1), (g, 10, z1), (g, 15, t1), (h, 0, x2), (h, 5, y2), (h, 10, z2), (h, 15, t2)]) := HS4.out.two hx.below qg1 qr1 qk1 qg2 qr2 qk2 qne
      have HKpu : Hid (EOk pu ∧ ev pu = (ev y1 + ev x1) % fp) := ⟨qk1, qv1⟩
      have HKqu : Hid (EOk qu ∧ ev qu = (ev y2 + ev x2) % fp) := ⟨qk2, qv2⟩
      simp only [q1, q2]
      clear hx q1 q2 qg1 qg2 qr1 qr2 qk1 qk2 qv1 qv2 qne HS4
      go_wp2_with fail
      refine (times_any G4a 0 G4b 0 pd qd _ (HS5.out.re 3 _ _ rfl) (HS5.out.re 2 _ _ rfl)).mono ?_
      rintro e w6 ⟨dn, hk, hv, rfl, b⟩
      have HKdn : Hid (EOk dn ∧ ev dn = ev pd * ev qd % fp) := ⟨hk, hv⟩
      have HS6 : Hid (RunD w w6 [(G5b, qu), (G5a, pu), (G4b, qd), (G4a, pd), (G3a, dd)] [(g, 0, x1), (g, 5, y1), (g, 10, z1), (g, 15, t1), (h, 0, x2), (h, 5, y2), (h, 10, z2), (h, 15, t2)]) := HS5.out.call b
      clear hk hv b HS5
      go_wp2_with fail
      refine (times_any G5a 0 G5b 0 pu qu _ (HS6.out.re 1 _ _ rfl) (HS6.out.re 0 _ _ rfl)).mono ?_
      rintro e w7 ⟨up, hk, hv, rfl, b⟩
      have HKup : Hid (EOk up ∧ ev up = ev pu * ev qu % fp) := ⟨hk, hv⟩
      have HS7 : Hid (RunD w w7 [(G5b, qu), (G5a, pu), (G4b, qd), (G4a, pd), (G3a, dd)] [(g, 0, x1), (g, 5, y1), (g, 10, z1), (g, 15, t1), (h, 0, x2), (h, 5, y2), (h, 10, z2), (h, 15, t2)]) := HS6.out.call b
      clear hk hv b HS6
      have HA8 : Hid (RunD w ((w7.alloc (.cells #[.int .u64 0, .int .u64 0, .int .u64 0, .int .u64 0, .int .u64 0] 82)).alloc (.cells #[.int .u64 0, .int .u64 0, .int .u64 0, .int .u64 0, .int .u64 0] 82)) [(w7.heap.size + 1, [0, 0, 0, 0, 0]), (w7.heap.size, [0, 0, 0, 0, 0]), (G5b, qu), (G5a, pu), (G4b, qd), (G4a, pd), (G3a, dd)] [(g, 0, x1), (g, 5, y1), (g, 10, z1), (g, 15, t1), (h, 0, x2), (h, 5, y2), (h, 10, z2), (h, 15, t2)]) := HS7.out.room2
      clear HS7
      go_wp2_with (first
        | (refine wpList_storeD HA8.out rfl (.tmp 9) (.tmp 46) rfl 1 (w7.heap.size) [0, 0, 0, 0, 0] dn rfl rfl rfl HKdn.out.1 rfl ?_)
        | fail)
      intro w9 S
      have HS9 : Hid (RunD w w9 [(w7.heap.size + 1, [0, 0, 0, 0, 0]), (w7.heap.size, dn), (G5b, qu), (G5a, pu), (G4b, qd), (G4a, pd), (G3a, dd)] [(g, 0, x1), (g, 5, y1), (g, 10, z1), (g, 15, t1), (h, 0, x2), (h, 5, y2), (h, 10, z2), (h, 15, t2)]) := S
      clear S HA8
      go_wp2_with (first
        | (refine wpList_storeD HS9.out rfl (.tmp 10) (.tmp 47) rfl 0 (w7.heap.size + 1) [0, 0, 0, 0, 0] up rfl rfl rfl HKup.out.1 rfl ?_)
        | fail)
      intro w10 S
      have HS10 : Hid (RunD w w10 [(w7.heap.size + 1, up), (w7.heap.size, dn), (G5b, qu), (G5a, pu), (G4b, qd), (G4a, pd), (G3a, dd)] [(g, 0, x1), (g, 5, y1), (g, 10, z1), (g, 15, t1), (h, 0, x2), (h, 5, y2), (h, 10, z2), (h, 15, t2)]) := S
      clear S HS9
      generalize w7.heap.size + 1 = G10b at *
      generalize w7.heap.size = G10a at *
      go_wp2_with fail
      refine wp_region_any (by kernel_rfl) ?_
      refine wpAny_slotsU (fun _ _ _ => True) (frame := (fun (c0 c1 c2 c3 c4 c5 c6 c7 c8 c9 c10 c12 c13 c14 c15 c16 c17 c18 c19 c20 c21 c22 c23 c24 c25 c26 c27 c28 c29 c30 c31 c32 c33 c34 c35 c36 c37 c38 c39 c40 c41 c42 c43 c44 c45 c46 c47 c55 c56 c57 c58 c59 c60 c61 c62 c63 c64 c65 c66 c67 c68 c69 c70 c71 c72 c73 c74 : Value) => fun (t : Nat → Value) => ({ tmps := List.toArray (c0 :: c1 :: c2 :: c3 :: c4 :: c5 :: c6 :: c7 :: c8 :: c9 :: c10 :: t 7 :: c12 :: c13 :: c14 :: c15 :: c16 :: c17 :: c18 :: c19 :: c20 :: c21 :: c22 :: c23 :: c24 :: c25 :: c26 :: c27 :: c28 :: c29 :: c30 :: c31 :: c32 :: c33 :: c34 :: c35 :: c36 :: c37 :: c38 :: c39 :: c40 :: c41 :: c42 :: c43 :: c44 :: c45 :: c46 :: c47 :: t 0 :: t 1 :: t 2 :: t 3 :: t 4 :: t 5 :: t 6 :: c55 :: c56 :: c57 :: c58 :: c59 :: c60 :: c61 :: c62 :: c63 :: c64 :: c65 :: c66 :: c67 :: c68 :: c69 :: c70 :: c71 :: c72 :: c73 :: c74 :: []), defers := [] } : Act)) _ _ _ _ _ _ _ _ _ _ _ _ _ _ _ _ _ _ _ _ _ _ _ _ _ _ _ _ _ _ _ _ _ _ _ _ _ _ _ _ _ _ _ _ _ _ _ _ _ _ _ _ _ _ _ _ _ _ _ _ _ _ _ _ _ _ _)
        (Ext := ExA w10 7 98 8 99 (ev t1 * ev t2 % fp) (0)) (Good := fun i L _ v => if i = 0 then v = .pointer (some ⟨g, 0, none⟩) else if i = 1 then v = .pointer (some ⟨g, 0, none⟩) else if i = 2 then v = .pointer (some ⟨g, 15, none⟩) else if i = 3 then v = .pointer (some ⟨h, 0, none⟩) else if i = 4 then v = .pointer (some ⟨h, 0, none⟩) else if i = 5 then v = .pointer (some ⟨h, 15, none⟩) else if i = 6 then EV (ev t1 * ev t2 % fp) v else if i = 7 then L 7 = true else if i = 8 then L 8 = true else True) ?hstab (by kernel_rfl) ?hop ?hdone _ _ ((fun (x0 x1 x2 x3 x4 x5 x6 x7 : Value) => fun (i : Nat) => if i = 0 then x0 else if i = 1 then x1 else if i = 2 then x2 else if i = 3 then x3 else if i = 4 then x4 else if i = 5 then x5 else if i = 6 then x6 else if i = 7 then x7 else undef) _ _ _ _ _ _ _ _) _ (by simp) ?ext ?start (by simp)
      case start => intro i hi h; exact absurd h (by rw [Array.getD_eq_getD_getElem?, Array.getElem?_replicate]; split <;> simp)
      case ext => exact ExA.start _ _ _ (by simp) (by simp) (by simp) (by simp) ⟨rfl, rfl, rfl, Nat.le_refl _, fun _ _ => rfl⟩
      case hstab =>
        intro j L w9 w' i v _ _ _ h
        by_cases h7 : j = 7
        · subst h7
          simp at h ⊢
          unfold updK; simp [h]
        by_cases h8 : j = 8
        · subst h8
          simp at h ⊢
          unfold updK; simp [h]
        simp only [if_neg h7, if_neg h8] at h ⊢
        exact h
      case hop =>
        intro i o L t w' ho hLi hx hdep K hK
        have hi : i < 9 := (Array.getElem?_eq_some_iff.1 ho).1
        obtain rfl | rfl | rfl | rfl | rfl | rfl | rfl | rfl | rfl : i = 0 ∨ i = 1 ∨ i = 2 ∨ i = 3 ∨ i = 4 ∨ i = 5 ∨ i = 6 ∨ i = 7 ∨ i = 8 := by omega
        all_goals (simp at ho; subst ho)
        · clear hdep
          have hK' := hK w' (.pointer (some ⟨g, 0, none⟩)) (by simp) (hx.low 0 (by decide) (by decide) (by decide) (by decide) _ (Below.refl _ _)) trivial
          clear hK
          rw [if_pos (by rfl)]
          go_simp
          simpa [upd] using hK'
        · have d0 : t 0 = .pointer (some ⟨g, 0, none⟩) := by simpa using hdep ⟨0, .data⟩ (by simp) rfl
          clear hdep
          have hK' := hK w' (.pointer (some ⟨g, 0, none⟩)) (by simp) (hx.low 1 (by decide) (by decide) (by decide) (by decide) _ (Below.refl _ _)) trivial
          clear hK
          rw [if_pos (by rfl)]
          go_simp
          simpa [upd, d0] using hK'
        · have d1 : t 1 = .pointer (some ⟨g, 0, none⟩) := by simpa using hdep ⟨1, .data⟩ (by simp) rfl
          clear hdep
          have hK' := hK w' (.pointer (some ⟨g, 15, none⟩)) (by simp) (hx.low 2 (by decide) (by decide) (by decide) (by decide) _ (Below.refl _ _)) trivial
          clear hK
          rw [if_pos (by rfl)]
          go_simp
          simpa [upd, d1] using hK'
        · clear hdep
          have hK' := hK w' (.pointer (some ⟨h, 0, none⟩)) (by simp) (hx.low 3 (by decide) (by decide) (by decide) (by decide) _ (Below.refl _ _)) trivial
          clear hK
          rw [if_pos (by rfl)]
          go_simp
          simpa [upd] using hK'
        · have d3 : t 3 = .pointer (some ⟨h, 0, none⟩) := by simpa using hdep ⟨3, .data⟩ (by simp) rfl
          clear hdep
          have hK' := hK w' (.pointer (some ⟨h, 0, none⟩)) (by simp) (hx.low 4 (by decide) (by decide) (by decide) (by decide) _ (Below.refl _ _)) trivial
          clear hK
          rw [if_pos (by rfl)]
          go_simp
          simpa [upd, d3] using hK'
        · have d4 : t 4 = .pointer (some ⟨h, 0, none⟩) := by simpa using hdep ⟨4, .data⟩ (by simp) rfl
          clear hdep
          have hK' := hK w' (.pointer (some ⟨h, 15, none⟩)) (by simp) (hx.low 5 (by decide) (by decide) (by decide) (by decide) _ (Below.refl _ _)) trivial
          clear hK
          rw [if_pos (by rfl)]
          go_simp
          simpa [upd, d4] using hK'
        · have d2 : t 2 = .pointer (some ⟨g, 15, none⟩) := by simpa using hdep ⟨2, .data⟩ (by simp) rfl
          have d5 : t 5 = .pointer (some ⟨h, 15, none⟩) := by simpa using hdep ⟨5, .data⟩ (by simp) rfl
          clear hdep
          have A := times_any g 15 h 15 t1 t2 w' ((HS10.out.el 3 _ _ _ rfl).below hx.below) ((HS10.out.el 7 _ _ _ rfl).below hx.below)
          have hK' : ∀ ww v, EV (ev t1 * ev t2 % fp) v → Below w'.heap.size w' ww → K _ ww := fun ww v hv hb => hK ww v (by simpa using hv) (hx.low 6 (by decide) (by decide) (by decide) (by decide) _ hb) trivial
          clear hK
          rw [if_pos (by rfl)]
          go_simp
          try simp only [d2, d5]
          refine A.mono ?_
          rintro e w9 ⟨es, hk, hv, rfl, hb⟩
          have hK2 := hK' w9 _ ⟨es, hk, hv, rfl⟩ hb
          clear hK' A hk hv hb
          go_simp
          simpa [upd, d2, d5] using hK2
        · clear hdep
          have hK' := hK _ (.pointer (some ⟨w'.heap.size, 0, none⟩)) (by simp [updK]) (hx.alloc1 hLi (by decide) (by decide) (by decide)) trivial
          clear hK
          rw [if_pos (by rfl)]
          go_simp
          simpa [upd] using hK'
        · have l7 : L 7 = true := by simpa using hdep ⟨7, .data⟩ (by simp) rfl
          have f6 : EV (ev t1 * ev t2 % fp) (t 6) := by simpa using hdep ⟨6, .data⟩ (by simp) rfl
          clear hdep
          obtain ⟨g9, zs9, e9, r9, k9⟩ := hx.get1 l7
          refine f6.elim_ fun es9 ke ve ee => ?_
          have hK' : ∀ ww, RowW ww g9 82 es9 → Wr g9 w' ww → K _ ww := fun ww rr hw => hK ww undef (by simp [updK]) (hx.store1 l7 e9 (by decide) (by decide) (by decide) ke ve hw rr _) trivial
          clear hK
          rw [if_pos (by rfl)]
          refine wp_storeX (.tmp 11) (.tmp 54) rfl g9 zs9 es9 e9 ee ke k9 r9 fun ww rr hw => ?_
          have hK2 := hK' ww rr hw
          clear hK'
          simpa [upd, Act.put] using hK2
      case hdone =>
        intro L t11 w11 hx hg
        have l8 : L 8 = true := by simpa using hg 8 (by decide)
        clear hg
        obtain ⟨G11a, cc, q1, qg1, qr1, qk1, qv1⟩ := hx.fin1 l8
        have HS11 : Hid (RunD w w11 [(G11a, cc), (G10b, up), (G10a, dn), (G5b, qu), (G5a, pu), (G4b, qd), (G4a, pd), (G3a, dd)] [(g, 0, x1), (g, 5, y1), (g, 10, z1), (g, 15, t1), (h, 0, x2), (h, 5, y2), (h, 10, z2), (h, 15, t2)]) := HS10.out.one hx.below qg1 qr1 qk1
        have HKcc : Hid (EOk cc ∧ ev cc = ev t1 * ev t2 % fp) := ⟨qk1, qv1⟩
        simp only [q1]
        clear hx q1 qg1 qr1 qk1 qv1 HS10
        go_wp2_with fail
        refine (times_any G11a 0 G3a 0 cc dd _ (HS11.out.re 0 _ _ rfl) (HS11.out.re 7 _ _ rfl)).mono ?_
        rintro e w12 ⟨cd, hk, hv, rfl, b⟩
        have HKcd : Hid (EOk cd ∧ ev cd = ev cc * ev dd % fp) := ⟨hk, hv⟩
        have HS12 : Hid (RunD w w12 [(G11a, cc), (G10b, up), (G10a, dn), (G5b, qu), (G5a, pu), (G4b, qd), (G4a, pd), (G3a, dd)] [(g, 0, x1), (g, 5, y1), (g, 10, z1), (g, 15, t1), (h, 0, x2), (h, 5, y2), (h, 10, z2), (h, 15, t2)]) := HS11.out.call b
        clear hk hv b HS11
        go_wp2_with (first
          | (refine wpList_storeD HS12.out rfl (.tmp 11) (.tmp 55) rfl 0 G11a cc cd rfl rfl rfl HKcd.out.1 rfl ?_)
          | fail)
        intro w13 S
        have HS13 : Hid (RunD w w13 [(G11a, cd), (G10b, up), (G10a, dn), (G5b, qu), (G5a, pu), (G4b, qd), (G4a, pd), (G3a, dd)] [(g, 0, x1), (g, 5, y1), (g, 10, z1), (g, 15, t1), (h, 0, x2), (h, 5, y2), (h, 10, z2), (h, 15, t2)]) := S
        clear S HS12
        go_wp2_with fail
        refine wp_region_any (by kernel_rfl) ?_
        refine wpAny_slotsU (fun _ _ _ => True) (frame := (fun (c0 c1 c2 c3 c4 c5 c6 c7 c8 c9 c10 c11 c13 c14 c15 c16 c17 c18 c19 c20 c21 c22 c23 c24 c25 c26 c27 c28 c29 c30 c31 c32 c33 c34 c35 c36 c37 c38 c39 c40 c41 c42 c43 c44 c45 c46 c47 c48 c49 c50 c51 c52 c53 c54 c55 c63 c64 c65 c66 c67 c68 c69 c70 c71 c72 c73 c74 : Value) => fun (t : Nat → Value) => ({ tmps := List.toArray (c0 :: c1 :: c2 :: c3 :: c4 :: c5 :: c6 :: c7 :: c8 :: c9 :: c10 :: c11 :: t 7 :: c13 :: c14 :: c15 :: c16 :: c17 :: c18 :: c19 :: c20 :: c21 :: c22 :: c23 :: c24 :: c25 :: c26 :: c27 :: c28 :: c29 :: c30 :: c31 :: c32 :: c33 :: c34 :: c35 :: c36 :: c37 :: c38 :: c39 :: c40 :: c41 :: c42 :: c43 :: c44 :: c45 :: c46 :: c47 :: c48 :: c49 :: c50 :: c51 :: c52 :: c53 :: c54 :: c55 :: t 0 :: t 1 :: t 2 :: t 3 :: t 4 :: t 5 :: t 6 :: c63 :: c64 :: c65 :: c66 :: c67 :: c68 :: c69 :: c70 :: c71 :: c72 :: c73 :: c74 :: []), defers := [] } : Act)) _ _ _ _ _ _ _ _ _ _ _ _ _ _ _ _ _ _ _ _ _ _ _ _ _ _ _ _ _ _ _ _ _ _ _ _ _ _ _ _ _ _ _ _ _ _ _ _ _ _ _ _ _ _ _ _ _ _ _ _ _ _ _ _ _ _ _)
          (Ext := ExA w13 7 98 8 99 (ev z1 * ev z2 % fp) (0)) (Good := fun i L _ v => if i = 0 then v = .pointer (some ⟨g, 0, none⟩) else if i = 1 then v = .pointer (some ⟨g, 0, none⟩) else if i = 2 then v = .pointer (some ⟨g, 10, none⟩) else if i = 3 then v = .pointer (some ⟨h, 0, none⟩) else if i = 4 then v = .pointer (some ⟨h, 0, none⟩) else if i = 5 then v = .pointer (some ⟨h, 10, none⟩) else if i = 6 then EV (ev z1 * ev z2 % fp) v else if i = 7 then L 7 = true else if i = 8 then L 8 = true else True) ?hstab (by kernel_rfl) ?hop ?hdone _ _ ((fun (x0 x1 x2 x3 x4 x5 x6 x7 : Value) => fun (i : Nat) => if i = 0 then x0 else if i = 1 then x1 else if i = 2 then x2 else if i = 3 then x3 else if i = 4 then x4 else if i = 5 then x5 else if i = 6 then x6 else if i = 7 then x7 else undef) _ _ _ _ _ _ _ _) _ (by simp) ?ext ?start (by simp)
        case start => intro i hi h; exact absurd h (by rw [Array.getD_eq_getD_getElem?, Array.getElem?_replicate]; split <;> simp)
        case ext => exact ExA.start _ _ _ (by simp) (by simp) (by simp) (by simp) ⟨rfl, rfl, rfl, Nat.le_refl _, fun _ _ => rfl⟩
        case hstab =>
          intro j L w9 w' i v _ _ _ h
          by_cases h7 : j = 7
          · subst h7
            simp at h ⊢
            unfold updK; simp [h]
          by_cases h8 : j = 8
          · subst h8
            simp at h ⊢
            unfold updK; simp [h]
          simp only [if_neg h7, if_neg h8] at h ⊢
          exact h
        case hop =>
          intro i o L t w' ho hLi hx hdep K hK
          have hi : i < 9 := (Array.getElem?_eq_some_iff.1 ho).1
          obtain rfl | rfl | rfl | rfl | rfl | rfl | rfl | rfl | rfl : i = 0 ∨ i = 1 ∨ i = 2 ∨ i = 3 ∨ i = 4 ∨ i = 5 ∨ i = 6 ∨ i = 7 ∨ i = 8 := by omega
          all_goals (simp at ho; subst ho)
          · clear hdep
            have hK' := hK w' (.pointer (some ⟨g, 0, none⟩)) (by simp) (hx.low 0 (by decide) (by decide) (by decide) (by decide) _ (Below.refl _ _)) trivial
            clear hK
            rw [if_pos (by rfl)]
            go_simp
            simpa [upd] using hK'
          · have d0 : t 0 = .pointer (some ⟨g, 0, none⟩) := by simpa using hdep ⟨0, .data⟩ (by simp) rfl
            clear hdep
            have hK' := hK w' (.pointer (some ⟨g, 0, none⟩)) (by simp) (hx.low 1 (by decide) (by decide) (by decide) (by decide) _ (Below.refl _ _)) trivial
            clear hK
            rw [if_pos (by rfl)]
            go_simp
            simpa [upd, d0] using hK'
          · have d1 : t 1 = .pointer (some ⟨g, 0, none⟩) := by simpa using hdep ⟨1, .data⟩ (by simp) rfl
            clear hdep
            have hK' := hK w' (.pointer (some ⟨g, 10, none⟩)) (by simp) (hx.low 2 (by decide) (by decide) (by decide) (by decide) _ (Below.refl _ _)) trivial
            clear hK
            rw [if_pos (by rfl)]
            go_simp
            simpa [upd, d1] using hK'
          · clear hdep
            have hK' := hK w' (.pointer (some ⟨h, 0, none⟩)) (by simp) (hx.low 3 (by decide) (by decide) (by decide) (by decide) _ (Below.refl _ _)) trivial
            clear hK
            rw [if_pos (by rfl)]
            go_simp
            simpa [upd] using hK'
          · have d3 : t 3 = .pointer (some ⟨h, 0, none⟩) := by simpa using hdep ⟨3, .data⟩ (by simp) rfl
            clear hdep
            have hK' := hK w' (.pointer (some ⟨h, 0, none⟩)) (by simp) (hx.low 4 (by decide) (by decide) (by decide) (by decide) _ (Below.refl _ _)) trivial
            clear hK
            rw [if_pos (by rfl)]
            go_simp
            simpa [upd, d3] using hK'
          · have d4 : t 4 = .pointer (some ⟨h, 0, none⟩) := by simpa using hdep ⟨4, .data⟩ (by simp) rfl
            clear hdep
            have hK' := hK w' (.pointer (some ⟨h, 10, none⟩)) (by simp) (hx.low 5 (by decide) (by decide) (by decide) (by decide) _ (Below.refl _ _)) trivial
            clear hK
            rw [if_pos (by rfl)]
            go_simp
            simpa [upd, d4] using hK'
          · have d2 : t 2 = .pointer (some ⟨g, 10, none⟩) := by simpa using hdep ⟨2, .data⟩ (by simp) rfl
            have d5 : t 5 = .pointer (some ⟨h, 10, none⟩) := by simpa using hdep ⟨5, .data⟩ (by simp) rfl
            clear hdep
            have A := times_any g 10 h 10 z1 z2 w' ((HS13.out.el 2 _ _ _ rfl).below hx.below) ((HS13.out.el 6 _ _ _ rfl).below hx.below)
            have hK' : ∀ ww v, EV (ev z1 * ev z2 % fp) v → Below w'.heap.size w' ww → K _ ww := fun ww v hv hb => hK ww v (by simpa using hv) (hx.low 6 (by decide) (by decide) (by decide) (by decide) _ hb) trivial
            clear hK
            rw [if_pos (by rfl)]
            go_simp
            try simp only [d2, d5]
            refine A.mono ?_
            rintro e w9 ⟨es, hk, hv, rfl, hb⟩
            have hK2 := hK' w9 _ ⟨es, hk, hv, rfl⟩ hb
            clear hK' A hk hv hb
            go_simp
            simpa [upd, d2, d5] using hK2
          · clear hdep
            have hK' := hK _ (.pointer (some ⟨w'.heap.size, 0, none⟩)) (by simp [updK]) (hx.alloc1 hLi (by decide) (by decide) (by decide)) trivial
            clear hK
            rw [if_pos (by rfl)]
            go_simp
            simpa [upd] using hK'
          · have l7 : L 7 = true := by simpa using hdep ⟨7, .data⟩ (by simp) rfl
            have f6 : EV (ev z1 * ev z2 % fp) (t 6) := by simpa using hdep ⟨6, .data⟩ (by simp) rfl
            clear hdep
            obtain ⟨g9, zs9, e9, r9, k9⟩ := hx.get1 l7
            refine f6.elim_ fun es9 ke ve ee => ?_
            have hK' : ∀ ww, RowW ww g9 82 es9 → Wr g9 w' ww → K _ ww := fun ww rr hw => hK ww undef (by simp [updK]) (hx.store1 l7 e9 (by decide) (by decide) (by decide) ke ve hw rr _) trivial
            clear hK
            rw [if_pos (by rfl)]
            refine wp_storeX (.tmp 12) (.tmp 62) rfl g9 zs9 es9 e9 ee ke k9 r9 fun ww rr hw => ?_
            have hK2 := hK' ww rr hw
            clear hK'
            simpa [upd, Act.put] using hK2
        case hdone =>
          intro L t14 w14 hx hg
          have l8 : L 8 = true := by simpa using hg 8 (by decide)
          clear hg
          obtain ⟨G14a, zz, q1, qg1, qr1, qk1, qv1⟩ := hx.fin1 l8
          have HS14 : Hid (RunD w w14 [(G14a, zz), (G11a, cd), (G10b, up), (G10a, dn), (G5b, qu), (G5a, pu), (G4b, qd), (G4a, pd), (G3a, dd)] [(g, 0, x1), (g, 5, y1), (g, 10, z1), (g, 15, t1), (h, 0, x2), (h, 5, y2), (h, 10, z2), (h, 15, t2)]) := HS13.out.one hx.below qg1 qr1 qk1
          have HKzz : Hid (EOk zz ∧ ev zz = ev z1 * ev z2 % fp) := ⟨qk1, qv1⟩
          simp only [q1]
          clear hx q1 qg1 qr1 qk1 qv1 HS13
          go_wp2_with fail
          refine (plus_any G14a 0 G14a 0 zz zz _ (HS14.out.re 0 _ _ rfl) (HS14.out.re 0 _ _ rfl)).mono ?_
          rintro e w15 ⟨gg, hk, hv, rfl, b⟩
          have HKgg : Hid (EOk gg ∧ ev gg = (ev zz + ev zz) % fp) := ⟨hk, hv⟩
          have HS15 : Hid (RunD w w15 [(G14a, zz), (G11a, cd), (G10b, up), (G10a, dn), (G5b, qu), (G5a, pu), (G4b, qd), (G4a, pd), (G3a, dd)] [(g, 0, x1), (g, 5, y1), (g, 10, z1), (g, 15, t1), (h, 0, x2), (h, 5, y2), (h, 10, z2), (h, 15, t2)]) := HS14.out.call b
          clear hk hv b HS14
          go_wp2_with (first
            | (refine wpList_storeD HS15.out rfl (.tmp 12) (.tmp 63) rfl 0 G14a zz gg rfl rfl rfl HKgg.out.1 rfl ?_)
            | fail)
          intro w16 S
          have HS16 : Hid (RunD w w16 [(G14a, gg), (G11a, cd), (G10b, up), (G10a, dn), (G5b, qu), (G5a, pu), (G4b, qd), (G4a, pd), (G3a, dd)] [(g, 0, x1), (g, 5, y1), (g, 10, z1), (g, 15, t1), (h, 0, x2), (h, 5, y2), (h, 10, z2), (h, 15, t2)]) := S
          clear S HS15
          go_wp2_with fail
          refine (minus_any G10b 0 G10a 0 up dn _ (HS16.out.re 2 _ _ rfl) (HS16.out.re 3 _ _ rfl)).mono ?_
          rintro e w17 ⟨ee, hk, hv, rfl, b⟩
          have HKee : Hid (EOk ee ∧ ev ee = (ev up - ev dn) % fp) := ⟨hk, hv⟩
          have HS17 : Hid (RunD w w17 [(G14a, gg), (G11a, cd), (G10b, up), (G10a, dn), (G5b, qu), (G5a, pu), (G4b, qd), (G4a, pd), (G3a, dd)] [(g, 0, x1), (g, 5, y1), (g, 10, z1), (g, 15, t1), (h, 0, x2), (h, 5, y2), (h, 10, z2), (h, 15, t2)]) := HS16.out.call b
          clear hk hv b HS16
          go_wp2_with fail
          refine (minus_any G14a 0 G11a 0 gg cd _ (HS17.out.re 0 _ _ rfl) (HS17.out.re 1 _ _ rfl)).mono ?_
          rintro e w18 ⟨ff, hk, hv, rfl, b⟩
          have HKff : Hid (EOk ff ∧ ev ff = (ev gg - ev cd) % fp) := ⟨hk, hv⟩
          have HS18 : Hid (RunD w w18 [(G14a, gg), (G11a, cd), (G10b, up), (G10a, dn), (G5b, qu), (G5a, pu), (G4b, qd), (G4a, pd), (G3a, dd)] [(g, 0, x1), (g, 5, y1), (g, 10, z1), (g, 15, t1), (h, 0, x2), (h, 5, y2), (h, 10, z2), (h, 15, t2)]) := HS17.out.call b
          clear hk hv b HS17
          have HA19 : Hid (RunD w ((w18.alloc (.cells #[.int .u64 0, .int .u64 0, .int .u64 0, .int .u64 0, .int .u64 0] 82)).alloc (.cells #[.int .u64 0, .int .u64 0, .int .u64 0, .int .u64 0, .int .u64 0] 82)) [(w18.heap.size + 1, [0, 0, 0, 0, 0]), (w18.heap.size, [0, 0, 0, 0, 0]), (G14a, gg), (G11a, cd), (G10b, up), (G10a, dn), (G5b, qu), (G5a, pu), (G4b, qd), (G4a, pd), (G3a, dd)] [(g, 0, x1), (g, 5, y1), (g, 10, z1), (g, 15, t1), (h, 0, x2), (h, 5, y2), (h, 10, z2), (h, 15, t2)]) := HS18.out.room2
          clear HS18
          go_wp2_with (first
            | (refine wpList_storeD HA19.out rfl (.tmp 13) (.tmp 64) rfl 1 (w18.heap.size) [0, 0, 0, 0, 0] ee rfl rfl rfl HKee.out.1 rfl ?_)
            | fail)
          intro w20 S
          have HS20 : Hid (RunD w w20 [(w18.heap.size + 1, [0, 0, 0, 0, 0]), (w18.heap.size, ee), (G14a, gg), (G11a, cd), (G10b, up), (G10a, dn), (G5b, qu), (G5a, pu), (G4b, qd), (G4a, pd), (G3a, dd)] [(g, 0, x1), (g, 5, y1), (g, 10, z1), (g, 15, t1), (h, 0, x2), (h, 5, y2), (h, 10, z2), (h, 15, t2)]) := S
          clear S HA19
          go_wp2_with (first
            | (refine wpList_storeD HS20.out rfl (.tmp 14) (.tmp 65) rfl 0 (w18.heap.size + 1) [0, 0, 0, 0, 0] ff rfl rfl rfl HKff.out.1 rfl ?_)
            | fail)
          intro w21 S
          have HS21 : Hid (RunD w w21 [(w18.heap.size + 1, ff), (w18.heap.size, ee), (G14a, gg), (G11a, cd), (G10b, up), (G10a, dn), (G5b, qu), (G5a, pu), (G4b, qd), (G4a, pd), (G3a, dd)] [(g, 0, x1), (g, 5, y1), (g, 10, z1), (g, 15, t1), (h, 0, x2), (h, 5, y2), (h, 10, z2), (h, 15, t2)]) := S
          clear S HS20
          generalize w18.heap.size + 1 = G21b at *
          generalize w18.heap.size = G21a at *
          go_wp2_with fail
          refine (plus_any G14a 0 G11a 0 gg cd _ (HS21.out.re 2 _ _ rfl) (HS21.out.re 3 _ _ rfl)).mono ?_
          rintro e w22 ⟨hh, hk, hv, rfl, b⟩
          have HKhh : Hid (EOk hh ∧ ev hh = (ev gg + ev cd) % fp) := ⟨hk, hv⟩
          have HS22 : Hid (RunD w w22 [(G21b, ff), (G21a, ee), (G14a, gg), (G11a, cd), (G10b, up), (G10a, dn), (G5b, qu), (G5a, pu), (G4b, qd), (G4a, pd), (G3a, dd)] [(g, 0, x1), (g, 5, y1), (g, 10, z1), (g, 15, t1), (h, 0, x2), (h, 5, y2), (h, 10, z2), (h, 15, t2)]) := HS21.out.call b
          clear hk hv b HS21
          go_wp2_with fail
          refine (plus_any G10b 0 G10a 0 up dn _ (HS22.out.re 4 _ _ rfl) (HS22.out.re 5 _ _ rfl)).mono ?_
          rintro e w23 ⟨kk, hk, hv, rfl, b⟩
          have HKkk : Hid (EOk kk ∧ ev kk = (ev up + ev dn) % fp) := ⟨hk, hv⟩
          have HS23 : Hid (RunD w w23 [(G21b, ff), (G21a, ee), (G14a, gg), (G11a, cd), (G10b, up), (G10a, dn), (G5b, qu), (G5a, pu), (G4b, qd), (G4a, pd), (G3a, dd)] [(g, 0, x1), (g, 5, y1), (g, 10, z1), (g, 15, t1), (h, 0, x2), (h, 5, y2), (h, 10, z2), (h, 15, t2)]) := HS22.out.call b
          clear hk hv b HS22
          have HA24 : Hid (RunD w ((w23.alloc (.cells #[.int .u64 0, .int .u64 0, .int .u64 0, .int .u64 0, .int .u64 0] 82)).alloc (.cells #[.int .u64 0, .int .u64 0, .int .u64 0, .int .u64 0, .int .u64 0] 82)) [(w23.heap.size + 1, [0, 0, 0, 0, 0]), (w23.heap.size, [0, 0, 0, 0, 0]), (G21b, ff), (G21a, ee), (G14a, gg), (G11a, cd), (G10b, up), (G10a, dn), (G5b, qu), (G5a, pu), (G4b, qd), (G4a, pd), (G3a, dd)] [(g, 0, x1), (g, 5, y1), (g, 10, z1), (g, 15, t1), (h, 0, x2), (h, 5, y2), (h, 10, z2), (h, 15, t2)]) := HS23.out.room2
          clear HS23
          go_wp2_with (first
            | (refine wpList_storeD HA24.out rfl (.tmp 15) (.tmp 66) rfl 1 (w23.heap.size) [0, 0, 0, 0, 0] hh rfl rfl rfl HKhh.out.1 rfl ?_)
            | fail)
          intro w25 S
          have HS25 : Hid (RunD w w25 [(w23.heap.size + 1, [0, 0, 0, 0, 0]), (w23.heap.size, hh), (G21b, ff), (G21a, ee), (G14a, gg), (G11a, cd), (G10b, up), (G10a, dn), (G5b, qu), (G5a, pu), (G4b, qd), (G4a, pd), (G3a, dd)] [(g, 0, x1), (g, 5, y1), (g, 10, z1), (g, 15, t1), (h, 0, x2), (h, 5, y2), (h, 10, z2), (h, 15, t2)]) := S
          clear S HA24
          go_wp2_with (first
            | (refine wpList_storeD HS25.out rfl (.tmp 16) (.tmp 67) rfl 0 (w23.heap.size + 1) [0, 0, 0, 0, 0] kk rfl rfl rfl HKkk.out.1 rfl ?_)
            | fail)
          intro w26 S
          have HS26 : Hid (RunD w w26 [(w23.heap.size + 1, kk), (w23.heap.size, hh), (G21b, ff), (G21a, ee), (G14a, gg), (G11a, cd), (G10b, up), (G10a, dn), (G5b, qu), (G5a, pu), (G4b, qd), (G4a, pd), (G3a, dd)] [(g, 0, x1), (g, 5, y1), (g, 10, z1), (g, 15, t1), (h, 0, x2), (h, 5, y2), (h, 10, z2), (h, 15, t2)]) := S
          clear S HS25
          generalize w23.heap.size + 1 = G26b at *
          generalize w23.heap.size = G26a at *
          go_wp2_with fail
          refine (times_any G21a 0 G21b 0 ee ff _ (HS26.out.re 3 _ _ rfl) (HS26.out.re 2 _ _ rfl)).mono ?_
          rintro e w27 ⟨X, hk, hv, rfl, b⟩
          have HKX : Hid (EOk X ∧ ev X = ev ee * ev ff % fp) := ⟨hk, hv⟩
          have HS27 : Hid (RunD w w27 [(G26b, kk), (G26a, hh), (G21b, ff), (G21a, ee), (G14a, gg), (G11a, cd), (G10b, up), (G10a, dn), (G5b, qu), (G5a, pu), (G4b, qd), (G4a, pd), (G3a, dd)] [(g, 0, x1), (g, 5, y1), (g, 10, z1), (g, 15, t1), (h, 0, x2), (h, 5, y2), (h, 10, z2), (h, 15, t2)]) := HS26.out.call b
          clear hk hv b HS26
          go_wp2_with fail
          refine (times_any G26a 0 G26b 0 hh kk _ (HS27.out.re 1 _ _ rfl) (HS27.out.re 0 _ _ rfl)).mono ?_
          rintro e w28 ⟨Y, hk, hv, rfl, b⟩
          have HKY : Hid (EOk Y ∧ ev Y = ev hh * ev kk % fp) := ⟨hk, hv⟩
          have HS28 : Hid (RunD w w28 [(G26b, kk), (G26a, hh), (G21b, ff), (G21a, ee), (G14a, gg), (G11a, cd), (G10b, up), (G10a, dn), (G5b, qu), (G5a, pu), (G4b, qd), (G4a, pd), (G3a, dd)] [(g, 0, x1), (g, 5, y1), (g, 10, z1), (g, 15, t1), (h, 0, x2), (h, 5, y2), (h, 10, z2), (h, 15, t2)]) := HS27.out.call b
          clear hk hv b HS27
          go_wp2_with fail
          refine (times_any G21b 0 G26a 0 ff hh _ (HS28.out.re 2 _ _ rfl) (HS28.out.re 1 _ _ rfl)).mono ?_
          rintro e w29 ⟨Z, hk, hv, rfl, b⟩
          have HKZ : Hid (EOk Z ∧ ev Z = ev ff * ev hh % fp) := ⟨hk, hv⟩
          have HS29 : Hid (RunD w w29 [(G26b, kk), (G26a, hh), (G21b, ff), (G21a, ee), (G14a, gg), (G11a, cd), (G10b, up), (G10a, dn), (G5b, qu), (G5a, pu), (G4b, qd), (G4a, pd), (G3a, dd)] [(g, 0, x1), (g, 5, y1), (g, 10, z1), (g, 15, t1), (h, 0, x2), (h, 5, y2), (h, 10, z2), (h, 15, t2)]) := HS28.out.call b
          clear hk hv b HS28
          go_wp2_with fail
          refine (times_any G21a 0 G26b 0 ee kk _ (HS29.out.re 3 _ _ rfl) (HS29.out.re 0 _ _ rfl)).mono ?_
          rintro e w30 ⟨T, hk, hv, rfl, b⟩
          have HKT : Hid (EOk T ∧ ev T = ev ee * ev kk % fp) := ⟨hk, hv⟩
          have HS30 : Hid (RunD w w30 [(G26b, kk), (G26a, hh), (G21b, ff), (G21a, ee), (G14a, gg), (G11a, cd), (G10b, up), (G10a, dn), (G5b, qu), (G5a, pu), (G4b, qd), (G4a, pd), (G3a, dd)] [(g, 0, x1), (g, 5, y1), (g, 10, z1), (g, 15, t1), (h, 0, x2), (h, 5, y2), (h, 10, z2), (h, 15, t2)]) := HS29.out.call b
          clear hk hv b HS29
          obtain ⟨X0, X1, X2, X3, X4, rfl⟩ := len5 HKX.out.1.1
          obtain ⟨Y0, Y1, Y2, Y3, Y4, rfl⟩ := len5 HKY.out.1.1
          obtain ⟨Z0, Z1, Z2, Z3, Z4, rfl⟩ := len5 HKZ.out.1.1
          obtain ⟨T0, T1, T2, T3, T4, rfl⟩ := len5 HKT.out.1.1
          have HPL : Hid (RowW w30 g 84 (pl x1 y1 z1 t1)) := HPT.out.row.below HS30.out.below HPT.out.row.lt
          have HPX : Hid ((pl x1 y1 z1 t1).length = 20) := by show _ = _; unfold pl; simp [HPT.out.x.1, HPT.out.y.1, HPT.out.z.1, HPT.out.t.1]
          go_wp2_with (first
            | (refine wpList_storeP rfl (.tmp 74) (.tmp 73) rfl g [X0, X1, X2, X3, X4] [Y0, Y1, Y2, Y3, Y4] [Z0, Z1, Z2, Z3, Z4] [T0, T1, T2, T3, T4] _ rfl rfl HKX.out.1 HKY.out.1 HKZ.out.1 HKT.out.1 HPX.out HPL.out ?_)
            | fail)
          intro wz hpt hwz
          have HF : Hid (AddP w g (ev x1) (ev y1) (ev z1) (ev t1) (ev x2) (ev y2) (ev z2) (ev t2) (.returned (.tuple #[])) wz) := by
            refine ⟨[X0, X1, X2, X3, X4], [Y0, Y1, Y2, Y3, Y4], [Z0, Z1, Z2, Z3, Z4], [T0, T1, T2, T3, T4], hpt, (WrH.of_below HS30.out.below).trans ⟨hwz.os, hwz.tape, hwz.output, by rw [hwz.size]; exact Nat.le_refl _, fun k _ hk => hwz.block k hk⟩, rfl, ?_⟩
            have eA : ev dn = smA (ev x1) (ev y1) (ev x2) (ev y2) := by rw [HKdn.out.2, HKpd.out.2, HKqd.out.2]; rfl
            have eB : ev up = smB (ev x1) (ev y1) (ev x2) (ev y2) := by rw [HKup.out.2, HKpu.out.2, HKqu.out.2]; rfl
            have eC : ev cd = smC mdD (ev t1) (ev t2) := by rw [HKcd.out.2, HKcc.out.2, HKdd.out.2, twoD, eq_C]
            have eG : ev gg = smG (ev z1) (ev z2) := by rw [HKgg.out.2, HKzz.out.2, eq_G]
            refine ⟨?_, ?_, ?_, ?_⟩
            · rw [HKX.out.2, HKee.out.2, HKff.out.2, eA, eB, eC, eG]
            · rw [HKY.out.2, HKhh.out.2, HKkk.out.2, eA, eB, eC, eG]
            · rw [HKZ.out.2, HKff.out.2, HKhh.out.2, eC, eG]
            · rw [HKT.out.2, HKee.out.2, HKkk.out.2, eA, eB]
          clear hpt hwz HPL HPX HPT HS30
          go_wp2
          go_end0
          exact HF.out
end Go.Proofs.Ythghkfncpdnpoac
