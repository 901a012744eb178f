/-
  Own work: l4Sum, by the model (written by wip/mksum.py).
-/
import Derived.Test.YthghkfncpdnpoacSDc
import Derived.Test.YthghkfncpdnpoacReg8
namespace Go.Proofs.Ythghkfncpdnpoac
open Go.ChangeShapes Go.WideShapes Go.ChangeAt Go.RowKit
set_option linter.unusedVariables false

/-- A slice that is an element. -/
def FG (w : World) (v : Value) (x : Int) : Prop := ∃ g c, v = .slice (some ⟨g, 0, none⟩) 16 c ∧ FeA w (some ⟨g, 0, none⟩) x
theorem FG.below {w w' : World} {v : Value} {x : Int} (h : FG w v x) (b : Below w.heap.size w w') : FG w' v x := by
  obtain ⟨g, c, e, f⟩ := h; exact ⟨g, c, e, f.below b⟩
theorem FG.get {w : World} {v : Value} {x : Int} (h : FG w v x) : ∃ g c, v = .slice (some ⟨g, 0, none⟩) 16 c ∧ FeA w (some ⟨g, 0, none⟩) x := h
theorem FG.elim_ {w : World} {v : Value} {x : Int} {C : Prop} (h : FG w v x) (k : ∀ g c, v = .slice (some ⟨g, 0, none⟩) 16 c → FeA w (some ⟨g, 0, none⟩) x → C) : C := by
  obtain ⟨g, c, e, f⟩ := h; exact k g c e f
theorem PtW.c0 {w : World} {g : Nat} {s0 s1 s2 s3 : Value} (h : PtW w g #[s0, s1, s2, s3]) : w.cell? ⟨g, 0, none⟩ = some s0 := by rw [cell_of_row w g 0 _ _ _ h]; rfl
theorem PtW.c1 {w : World} {g : Nat} {s0 s1 s2 s3 : Value} (h : PtW w g #[s0, s1, s2, s3]) : w.cell? ⟨g, 1, none⟩ = some s1 := by rw [cell_of_row w g 1 _ _ _ h]; rfl
theorem PtW.c2 {w : World} {g : Nat} {s0 s1 s2 s3 : Value} (h : PtW w g #[s0, s1, s2, s3]) : w.cell? ⟨g, 2, none⟩ = some s2 := by rw [cell_of_row w g 2 _ _ _ h]; rfl
theorem PtW.c3 {w : World} {g : Nat} {s0 s1 s2 s3 : Value} (h : PtW w g #[s0, s1, s2, s3]) : w.cell? ⟨g, 3, none⟩ = some s3 := by rw [cell_of_row w g 3 _ _ _ h]; rfl

def smA (X1 Y1 X2 Y2 : Int) : Int := ((Y1 - X1) % fp) * ((Y2 - X2) % fp) % fp
def smB (X1 Y1 X2 Y2 : Int) : Int := ((Y1 + X1) % fp) * ((Y2 + X2) % fp) % fp
def smC (D T1 T2 : Int) : Int := (((D + D) % fp) * T1 % fp) * T2 % fp
def smG (Z1 Z2 : Int) : Int := ((Z1 + Z1) % fp) * Z2 % fp
theorem SR.more {w wr w' : World} {L : List (Option Addr × Int)} {a : Option Addr} {x : Int} (h : SR w wr L) (b : Below wr.heap.size wr w') (hf : FeA w' a x) : SR w w' (L ++ [(a, x)]) :=
  ⟨h.below.trans (b.mono h.below.size), fun e he => by
    rcases List.mem_append.1 he with h' | h'
    · exact (h.fe e h').below b
    · simp only [List.mem_cons, List.not_mem_nil, or_false] at h'; subst h'; exact hf⟩
/-- What l4Sum answers. -/
def SumP (w : World) (A B C G : Int) (e : Ending) (w' : World) : Prop :=
  ∃ g1 k1 g2 k2 g3 k3 g4 k4, e = .returned (.agg #[.slice (some ⟨g1, 0, none⟩) 16 k1, .slice (some ⟨g2, 0, none⟩) 16 k2, .slice (some ⟨g3, 0, none⟩) 16 k3, .slice (some ⟨g4, 0, none⟩) 16 k4]) ∧
    FeA w' (some ⟨g1, 0, none⟩) ((B - A) % fp * ((G - C) % fp) % fp) ∧ FeA w' (some ⟨g2, 0, none⟩) ((G + C) % fp * ((B + A) % fp) % fp) ∧
    FeA w' (some ⟨g3, 0, none⟩) ((G - C) % fp * ((G + C) % fp) % fp) ∧ FeA w' (some ⟨g4, 0, none⟩) ((B - A) % fp * ((B + A) % fp) % fp) ∧ Below w.heap.size w w'

set_option maxRecDepth 100000 in
set_option maxHeartbeats 8000000 in
theorem sum_any (a0 a1 a2 a3 b0 b1 b2 b3 ad : Option Addr) (c0 c1 c2 c3 e0 e1 e2 e3 cd : Nat) (X1 Y1 Z1 T1 X2 Y2 Z2 T2 D : Int) (w : World) (hs : ∀ e ∈ [(a0, X1), (a1, Y1), (a2, Z1), (a3, T1), (b0, X2), (b1, Y2), (b2, Z2), (b3, T2), (ad, D)], FeA w e.1 e.2) :
    Calls Try.prog 65 #[.agg #[.slice a0 16 c0, .slice a1 16 c1, .slice a2 16 c2, .slice a3 16 c3], .agg #[.slice b0 16 e0, .slice b1 16 e1, .slice b2 16 e2, .slice b3 16 e3], .slice ad 16 cd] w (SumP w (smA X1 Y1 X2 Y2) (smB X1 Y1 X2 Y2) (smC D T1 T2) (smG Z1 Z2)) := by
  have bb : Below w.heap.size w (((w.alloc (.cells #[.slice a0 16 c0, .slice a1 16 c1, .slice a2 16 c2, .slice a3 16 c3] 76)).alloc (.cells #[.slice b0 16 e0, .slice b1 16 e1, .slice b2 16 e2, .slice b3 16 e3] 76)).alloc (.cells #[.slice none 0 0, .slice none 0 0, .slice none 0 0, .slice none 0 0] 76)) := (((Below.refl _ _).alloc (Nat.le_refl _) _).alloc (by simp) _).alloc (by simp; omega) _
  have HP : Hid (PtW (((w.alloc (.cells #[.slice a0 16 c0, .slice a1 16 c1, .slice a2 16 c2, .slice a3 16 c3] 76)).alloc (.cells #[.slice b0 16 e0, .slice b1 16 e1, .slice b2 16 e2, .slice b3 16 e3] 76)).alloc (.cells #[.slice none 0 0, .slice none 0 0, .slice none 0 0, .slice none 0 0] 76)) w.heap.size #[.slice a0 16 c0, .slice a1 16 c1, .slice a2 16 c2, .slice a3 16 c3]) := by
    show _ = _
    rw [Below.heap_alloc _ _ w.heap.size (by simp; omega), Below.heap_alloc _ _ w.heap.size (by simp)]; exact heap_alloc_new w _
  have HQ : Hid (PtW (((w.alloc (.cells #[.slice a0 16 c0, .slice a1 16 c1, .slice a2 16 c2, .slice a3 16 c3] 76)).alloc (.cells #[.slice b0 16 e0, .slice b1 16 e1, .slice b2 16 e2, .slice b3 16 e3] 76)).alloc (.cells #[.slice none 0 0, .slice none 0 0, .slice none 0 0, .slice none 0 0] 76)) (w.heap.size + 1) #[.slice b0 16 e0, .slice b1 16 e1, .slice b2 16 e2, .slice b3 16 e3]) := by
    show _ = _
    rw [Below.heap_alloc _ _ (w.heap.size + 1) (by simp)]
    have := heap_alloc_new (w.alloc (.cells #[.slice a0 16 c0, .slice a1 16 c1, .slice a2 16 c2, .slice a3 16 c3] 76)) (.cells #[.slice b0 16 e0, .slice b1 16 e1, .slice b2 16 e2, .slice b3 16 e3] 76)
    simpa using this
  have HZ : Hid (PtW (((w.alloc (.cells #[.slice a0 16 c0, .slice a1 16 c1, .slice a2 16 c2, .slice a3 16 c3] 76)).alloc (.cells #[.slice b0 16 e0, .slice b1 16 e1, .slice b2 16 e2, .slice b3 16 e3] 76)).alloc (.cells #[.slice none 0 0, .slice none 0 0, .slice none 0 0, .slice none 0 0] 76)) (w.heap.size + 1 + 1) #[.slice none 0 0, .slice none 0 0, .slice none 0 0, .slice none 0 0]) := by
    show _ = _
    have := heap_alloc_new ((w.alloc (.cells #[.slice a0 16 c0, .slice a1 16 c1, .slice a2 16 c2, .slice a3 16 c3] 76)).alloc (.cells #[.slice b0 16 e0, .slice b1 16 e1, .slice b2 16 e2, .slice b3 16 e3] 76)) (.cells #[.slice none 0 0, .slice none 0 0, .slice none 0 0, .slice none 0 0] 76)
    simpa using this
  have SRK : Hid (SR w (((w.alloc (.cells #[.slice a0 16 c0, .slice a1 16 c1, .slice a2 16 c2, .slice a3 16 c3] 76)).alloc (.cells #[.slice b0 16 e0, .slice b1 16 e1, .slice b2 16 e2, .slice b3 16 e3] 76)).alloc (.cells #[.slice none 0 0, .slice none 0 0, .slice none 0 0, .slice none 0 0] 76)) [(a0, X1), (a1, Y1), (a2, Z1), (a3, T1), (b0, X2), (b1, Y2), (b2, Z2), (b3, T2), (ad, D)]) := ⟨bb, fun e he => (hs e he).below bb⟩
  clear bb hs
  go_enter Try.func65, Try.ntmps65
  go_wp2_with fail
  generalize (((w.alloc (.cells #[.slice a0 16 c0, .slice a1 16 c1, .slice a2 16 c2, .slice a3 16 c3] 76)).alloc (.cells #[.slice b0 16 e0, .slice b1 16 e1, .slice b2 16 e2, .slice b3 16 e3] 76)).alloc (.cells #[.slice none 0 0, .slice none 0 0, .slice none 0 0, .slice none 0 0] 76)) = w0 at *
  refine wp_region_any (by kernel_rfl) ?_
  refine wpAny_slotsG (fun _ w w' => Below w.heap.size w w') (frame := (fun (c0 c1 c2 c3 c4 c5 c6 c8 c9 c10 c11 c12 c13 c14 c26 c27 c28 c29 c30 c31 c32 c33 c34 c35 c36 c37 c38 c39 c40 c41 c42 c43 c44 c45 c46 c47 c48 c49 c50 c51 c52 c53 c54 c55 c56 c57 c58 c59 c60 c61 c62 c63 c64 c65 c66 c67 c68 c69 c70 c71 c72 c73 c74 c75 c76 c77 c78 : Value) => fun (t : Nat → Value) => ({ tmps := List.toArray (c0 :: c1 :: c2 :: c3 :: c4 :: c5 :: c6 :: t 11 :: c8 :: c9 :: c10 :: c11 :: c12 :: c13 :: c14 :: t 0 :: t 1 :: t 2 :: t 3 :: t 4 :: t 5 :: t 6 :: t 7 :: t 8 :: t 9 :: t 10 :: c26 :: c27 :: c28 :: c29 :: c30 :: c31 :: c32 :: c33 :: c34 :: c35 :: c36 :: c37 :: c38 :: c39 :: c40 :: c41 :: c42 :: c43 :: c44 :: c45 :: c46 :: c47 :: c48 :: c49 :: c50 :: c51 :: c52 :: c53 :: c54 :: c55 :: c56 :: c57 :: c58 :: c59 :: c60 :: c61 :: c62 :: c63 :: c64 :: c65 :: c66 :: c67 :: c68 :: c69 :: c70 :: c71 :: c72 :: c73 :: c74 :: c75 :: c76 :: c77 :: c78 :: []), defers := [] } : Act)) _ _ _ _ _ _ _ _ _ _ _ _ _ _ _ _ _ _ _ _ _ _ _ _ _ _ _ _ _ _ _ _ _ _ _ _ _ _ _ _ _ _ _ _ _ _ _ _ _ _ _ _ _ _ _ _ _ _ _ _ _ _ _ _ _ _ _)
    (Ext := fun L w' => Below w0.heap.size w0 w') (Good := fun i L w' v => if i = 0 then v = .pointer (some ⟨w.heap.size, 1, none⟩) else if i = 1 then v = .slice a1 16 c1 else if i = 2 then v = .pointer (some ⟨w.heap.size, 0, none⟩) else if i = 3 then v = .slice a0 16 c0 else if i = 4 then FG w' v ((Y1 - X1) % fp) else if i = 5 then v = .pointer (some ⟨(w.heap.size + 1), 1, none⟩) else if i = 6 then v = .slice b1 16 e1 else if i = 7 then v = .pointer (some ⟨(w.heap.size + 1), 0, none⟩) else if i = 8 then v = .slice b0 16 e0 else if i = 9 then FG w' v ((Y2 - X2) % fp) else if i = 10 then FG w' v (((Y1 - X1) % fp) * ((Y2 - X2) % fp) % fp) else if i = 11 then FG w' v (((Y1 - X1) % fp) * ((Y2 - X2) % fp) % fp) else True) ?hstab (by kernel_rfl) ?hop ?hdone _ _ ((fun (x0 x1 x2 x3 x4 x5 x6 x7 x8 x9 x10 x11 : Value) => fun (i : Nat) => if i = 0 then x0 else if i = 1 then x1 else if i = 2 then x2 else if i = 3 then x3 else if i = 4 then x4 else if i = 5 then x5 else if i = 6 then x6 else if i = 7 then x7 else if i = 8 then x8 else if i = 9 then x9 else if i = 10 then x10 else if i = 11 then x11 else undef) _ _ _ _ _ _ _ _ _ _ _ _) _ (by simp) ?ext ?start (by simp)
  case start => intro i hi h; exact absurd h (by rw [Array.getD_eq_getD_getElem?, Array.getElem?_replicate]; split <;> simp)
  case ext => exact ⟨rfl, rfl, rfl, Nat.le_refl _, fun _ _ => rfl⟩
  case hstab =>
    intro j L w9 w' i v hM _ _ h
    by_cases h4 : j = 4
    · subst h4
      simp at h ⊢
      exact h.below hM
    by_cases h9 : j = 9
    · subst h9
      simp at h ⊢
      exact h.below hM
    by_cases h10 : j = 10
    · subst h10
      simp at h ⊢
      exact h.below hM
    by_cases h11 : j = 11
    · subst h11
      simp at h ⊢
      exact h.below hM
    simp only [if_neg h4, if_neg h9, if_neg h10, if_neg h11] at h ⊢
    exact h
  case hop =>
    intro i o L t w' ho hLi hx hdep K hK
    have hi : i < 12 := (Array.getElem?_eq_some_iff.1 ho).1
    obtain rfl | rfl | rfl | rfl | rfl | rfl | rfl | rfl | rfl | rfl | rfl | rfl : i = 0 ∨ i = 1 ∨ i = 2 ∨ i = 3 ∨ i = 4 ∨ i = 5 ∨ i = 6 ∨ i = 7 ∨ i = 8 ∨ i = 9 ∨ i = 10 ∨ i = 11 := by omega
    all_goals (simp at ho; subst ho)
    · clear hdep
      have hK' := hK w' (.pointer (some ⟨w.heap.size, 1, none⟩)) (by simp) hx (Below.refl _ _)
      clear hK
      rw [if_pos (by rfl)]
      go_simp
      simpa [upd] using hK'
    · have d0 : t 0 = .pointer (some ⟨w.heap.size, 1, none⟩) := by simpa using hdep ⟨0, .data⟩ (by simp) rfl
      clear hdep
      have cc := (HP.out.below hx HP.out.lt).c1
      have hK' := hK w' (.slice a1 16 c1) (by simp) hx (Below.refl _ _)
      clear hK
      rw [if_pos (by rfl)]
      go_simp
      simpa [upd, d0] using hK'
    · clear hdep
      have hK' := hK w' (.pointer (some ⟨w.heap.size, 0, none⟩)) (by simp) hx (Below.refl _ _)
      clear hK
      rw [if_pos (by rfl)]
      go_simp
      simpa [upd] using hK'
    · have d2 : t 2 = .pointer (some ⟨w.heap.size, 0, none⟩) := by simpa using hdep ⟨2, .data⟩ (by simp) rfl
      clear hdep
      have cc := (HP.out.below hx HP.out.lt).c0
      have hK' := hK w' (.slice a0 16 c0) (by simp) hx (Below.refl _ _)
      clear hK
      rw [if_pos (by rfl)]
      go_simp
      simpa [upd, d2] using hK'
    · have d1 : t 1 = .slice a1 16 c1 := by simpa using hdep ⟨1, .data⟩ (by simp) rfl
      have d3 : t 3 = .slice a0 16 c0 := by simpa using hdep ⟨3, .data⟩ (by simp) rfl
      clear hdep
      have A := fsub_any a1 a0 c1 c0 Y1 X1 w' ((SRK.out.at 1 _ _ rfl).below hx) ((SRK.out.at 0 _ _ rfl).below hx)
      have hK' : ∀ ww v, FG ww v ((Y1 - X1) % fp) → Below w'.heap.size w' ww → K _ ww := fun ww v hg hb => hK ww v (by simpa using hg) (hx.trans (hb.mono hx.size)) hb
      clear hK
      rw [if_pos (by rfl)]
      go_simp
      try simp only [d1, d3]
      refine A.mono ?_
      rintro e w9 ⟨g', c', rfl, _, _, hf, hb⟩
      have hK2 := hK' w9 _ ⟨g', c', rfl, hf⟩ hb
      clear hK' A hf hb
      go_simp
      simpa [upd, d1, d3] using hK2
    · clear hdep
      have hK' := hK w' (.pointer (some ⟨(w.heap.size + 1), 1, none⟩)) (by simp) hx (Below.refl _ _)
      clear hK
      rw [if_pos (by rfl)]
      go_simp
      simpa [upd] using hK'
    · have d5 : t 5 = .pointer (some ⟨(w.heap.size + 1), 1, none⟩) := by simpa using hdep ⟨5, .data⟩ (by simp) rfl
      clear hdep
      have cc := (HQ.out.below hx HQ.out.lt).c1
      have hK' := hK w' (.slice b1 16 e1) (by simp) hx (Below.refl _ _)
      clear hK
      rw [if_pos (by rfl)]
      go_simp
      simpa [upd, d5] using hK'
    · clear hdep
      have hK' := hK w' (.pointer (some ⟨(w.heap.size + 1), 0, none⟩)) (by simp) hx (Below.refl _ _)
      clear hK
      rw [if_pos (by rfl)]
      go_simp
      simpa [upd] using hK'
    · have d7 : t 7 = .pointer (some ⟨(w.heap.size + 1), 0, none⟩) := by simpa using hdep ⟨7, .data⟩ (by simp) rfl
      clear hdep
      have cc := (HQ.out.below hx HQ.out.lt).c0
      have hK' := hK w' (.slice b0 16 e0) (by simp) hx (Below.refl _ _)
      clear hK
      rw [if_pos (by rfl)]
      go_simp
      simpa [upd, d7] using hK'
    · have d6 : t 6 = .slice b1 16 e1 := by simpa using hdep ⟨6, .data⟩ (by simp) rfl
      have d8 : t 8 = .slice b0 16 e0 := by simpa using hdep ⟨8, .data⟩ (by simp) rfl
      clear hdep
      have A := fsub_any b1 b0 e1 e0 Y2 X2 w' ((SRK.out.at 5 _ _ rfl).below hx) ((SRK.out.at 4 _ _ rfl).below hx)
      have hK' : ∀ ww v, FG ww v ((Y2 - X2) % fp) → Below w'.heap.size w' ww → K _ ww := fun ww v hg hb => hK ww v (by simpa using hg) (hx.trans (hb.mono hx.size)) hb
      clear hK
      rw [if_pos (by rfl)]
      go_simp
      try simp only [d6, d8]
      refine A.mono ?_
      rintro e w9 ⟨g', c', rfl, _, _, hf, hb⟩
      have hK2 := hK' w9 _ ⟨g', c', rfl, hf⟩ hb
      clear hK' A hf hb
      go_simp
      simpa [upd, d6, d8] using hK2
    · have h4 : FG w' (t 4) ((Y1 - X1) % fp) := by simpa using hdep ⟨4, .data⟩ (by simp) rfl
      refine h4.elim_ fun g4 c4 d4 f4 => ?_
      clear h4
      have h9 : FG w' (t 9) ((Y2 - X2) % fp) := by simpa using hdep ⟨9, .data⟩ (by simp) rfl
      refine h9.elim_ fun g9 c9 d9 f9 => ?_
      clear h9
      clear hdep
      have A := fmul_any (some ⟨g4, 0, none⟩) (some ⟨g9, 0, none⟩) c4 c9 _ _ w' f4 f9
      have hK' : ∀ ww v, FG ww v (((Y1 - X1) % fp) * ((Y2 - X2) % fp) % fp) → Below w'.heap.size w' ww → K _ ww := fun ww v hg hb => hK ww v (by simpa using hg) (hx.trans (hb.mono hx.size)) hb
      clear hK
      rw [if_pos (by rfl)]
      go_simp
      try simp only [d4, d9]
      refine A.mono ?_
      rintro e w9 ⟨g', c', rfl, _, _, hf, hb⟩
      have hK2 := hK' w9 _ ⟨g', c', rfl, hf⟩ hb
      clear hK' A hf hb
      go_simp
      simpa [upd, d4, d9] using hK2
    · have h10 : FG w' (t 10) (((Y1 - X1) % fp) * ((Y2 - X2) % fp) % fp) := by simpa using hdep ⟨10, .data⟩ (by simp) rfl
      refine h10.elim_ fun g10 c10 d10 f10 => ?_
      clear h10
      clear hdep
      have hK' := hK w' (.slice (some ⟨g10, 0, none⟩) 16 c10) (by simpa using ⟨g10, c10, rfl, f10⟩) hx (Below.refl _ _)
      clear hK
      rw [if_pos (by rfl)]
      go_simp
      simpa [upd, d10] using hK'
  case hdone =>
    intro L t1 w1 hx hg
    have f11 : FG w1 (t1 11) (((Y1 - X1) % fp) * ((Y2 - X2) % fp) % fp) := by simpa using hg 11 (by decide)
    clear hg
    obtain ⟨ggA, ccA, eA, ff⟩ := f11.get
    have HP1 : Hid (PtW w1 w.heap.size #[.slice a0 16 c0, .slice a1 16 c1, .slice a2 16 c2, .slice a3 16 c3]) := HP.out.below hx HP.out.lt
    have HQ1 : Hid (PtW w1 (w.heap.size + 1) #[.slice b0 16 e0, .slice b1 16 e1, .slice b2 16 e2, .slice b3 16 e3]) := HQ.out.below hx HQ.out.lt
    have HZ1 : Hid (PtW w1 (w.heap.size + 1 + 1) #[.slice none 0 0, .slice none 0 0, .slice none 0 0, .slice none 0 0]) := HZ.out.below hx HZ.out.lt
    have SRK1 : Hid (SR w w1 [(a0, X1), (a1, Y1), (a2, Z1), (a3, T1), (b0, X2), (b1, Y2), (b2, Z2), (b3, T2), (ad, D), (some ⟨ggA, 0, none⟩, smA X1 Y1 X2 Y2)]) := SRK.out.more hx ff
    clear HP HQ HZ SRK hx ff
    simp only [eA]
    clear eA
    go_wp2_with fail
    refine wp_region_any (by kernel_rfl) ?_
    refine wpAny_slotsG (fun _ w w' => Below w.heap.size w w') (frame := (fun (c0 c1 c2 c3 c4 c5 c6 c7 c9 c10 c11 c12 c13 c14 c15 c16 c17 c18 c19 c20 c21 c22 c23 c24 c25 c37 c38 c39 c40 c41 c42 c43 c44 c45 c46 c47 c48 c49 c50 c51 c52 c53 c54 c55 c56 c57 c58 c59 c60 c61 c62 c63 c64 c65 c66 c67 c68 c69 c70 c71 c72 c73 c74 c75 c76 c77 c78 : Value) => fun (t : Nat → Value) => ({ tmps := List.toArray (c0 :: c1 :: c2 :: c3 :: c4 :: c5 :: c6 :: c7 :: t 11 :: c9 :: c10 :: c11 :: c12 :: c13 :: c14 :: c15 :: c16 :: c17 :: c18 :: c19 :: c20 :: c21 :: c22 :: c23 :: c24 :: c25 :: t 0 :: t 1 :: t 2 :: t 3 :: t 4 :: t 5 :: t 6 :: t 7 :: t 8 :: t 9 :: t 10 :: c37 :: c38 :: c39 :: c40 :: c41 :: c42 :: c43 :: c44 :: c45 :: c46 :: c47 :: c48 :: c49 :: c50 :: c51 :: c52 :: c53 :: c54 :: c55 :: c56 :: c57 :: c58 :: c59 :: c60 :: c61 :: c62 :: c63 :: c64 :: c65 :: c66 :: c67 :: c68 :: c69 :: c70 :: c71 :: c72 :: c73 :: c74 :: c75 :: c76 :: c77 :: c78 :: []), defers := [] } : Act)) _ _ _ _ _ _ _ _ _ _ _ _ _ _ _ _ _ _ _ _ _ _ _ _ _ _ _ _ _ _ _ _ _ _ _ _ _ _ _ _ _ _ _ _ _ _ _ _ _ _ _ _ _ _ _ _ _ _ _ _ _ _ _ _ _ _ _)
      (Ext := fun L w' => Below w1.heap.size w1 w') (Good := fun i L w' v => if i = 0 then v = .pointer (some ⟨w.heap.size, 1, none⟩) else if i = 1 then v = .slice a1 16 c1 else if i = 2 then v = .pointer (some ⟨w.heap.size, 0, none⟩) else if i = 3 then v = .slice a0 16 c0 else if i = 4 then FG w' v ((Y1 + X1) % fp) else if i = 5 then v = .pointer (some ⟨(w.heap.size + 1), 1, none⟩) else if i = 6 then v = .slice b1 16 e1 else if i = 7 then v = .pointer (some ⟨(w.heap.size + 1), 0, none⟩) else if i = 8 then v = .slice b0 16 e0 else if i = 9 then FG w' v ((Y2 + X2) % fp) else if i = 10 then FG w' v (((Y1 + X1) % fp) * ((Y2 + X2) % fp) % fp) else if i = 11 then FG w' v (((Y1 + X1) % fp) * ((Y2 + X2) % fp) % fp) else True) ?hstab (by kernel_rfl) ?hop ?hdone _ _ ((fun (x0 x1 x2 x3 x4 x5 x6 x7 x8 x9 x10 x11 : Value) => fun (i : Nat) => if i = 0 then x0 else if i = 1 then x1 else if i = 2 then x2 else if i = 3 then x3 else if i = 4 then x4 else if i = 5 then x5 else if i = 6 then x6 else if i = 7 then x7 else if i = 8 then x8 else if i = 9 then x9 else if i = 10 then x10 else if i = 11 then x11 else undef) _ _ _ _ _ _ _ _ _ _ _ _) _ (by simp) ?ext ?start (by simp)
    case start => intro i hi h; exact absurd h (by rw [Array.getD_eq_getD_getElem?, Array.getElem?_replicate]; split <;> simp)
    case ext => exact ⟨rfl, rfl, rfl, Nat.le_refl _, fun _ _ => rfl⟩
    case hstab =>
      intro j L w9 w' i v hM _ _ h
      by_cases h4 : j = 4
      · subst h4
        simp at h ⊢
        exact h.below hM
      by_cases h9 : j = 9
      · subst h9
        simp at h ⊢
        exact h.below hM
      by_cases h10 : j = 10
      · subst h10
        simp at h ⊢
        exact h.below hM
      by_cases h11 : j = 11
      · subst h11
        simp at h ⊢
        exact h.below hM
      simp only [if_neg h4, if_neg h9, if_neg h10, if_neg h11] at h ⊢
      exact h
    case hop =>
      intro i o L t w' ho hLi hx hdep K hK
      have hi : i < 12 := (Array.getElem?_eq_some_iff.1 ho).1
      obtain rfl | rfl | rfl | rfl | rfl | rfl | rfl | rfl | rfl | rfl | rfl | rfl : i = 0 ∨ i = 1 ∨ i = 2 ∨ i = 3 ∨ i = 4 ∨ i = 5 ∨ i = 6 ∨ i = 7 ∨ i = 8 ∨ i = 9 ∨ i = 10 ∨ i = 11 := by omega
      all_goals (simp at ho; subst ho)
      · clear hdep
        have hK' := hK w' (.pointer (some ⟨w.heap.size, 1, none⟩)) (by simp) hx (Below.refl _ _)
        clear hK
        rw [if_pos (by rfl)]
        go_simp
        simpa [upd] using hK'
      · have d0 : t 0 = .pointer (some ⟨w.heap.size, 1, none⟩) := by simpa using hdep ⟨0, .data⟩ (by simp) rfl
        clear hdep
        have cc := (HP1.out.below hx HP1.out.lt).c1
        have hK' := hK w' (.slice a1 16 c1) (by simp) hx (Below.refl _ _)
        clear hK
        rw [if_pos (by rfl)]
        go_simp
        simpa [upd, d0] using hK'
      · clear hdep
        have hK' := hK w' (.pointer (some ⟨w.heap.size, 0, none⟩)) (by simp) hx (Below.refl _ _)
        clear hK
        rw [if_pos (by rfl)]
        go_simp
        simpa [upd] using hK'
      · have d2 : t 2 = .pointer (some ⟨w.heap.size, 0, none⟩) := by simpa using hdep ⟨2, .data⟩ (by simp) rfl
        clear hdep
        have cc := (HP1.out.below hx HP1.out.lt).c0
        have hK' := hK w' (.slice a0 16 c0) (by simp) hx (Below.refl _ _)
        clear hK
        rw [if_pos (by rfl)]
        go_simp
        simpa [upd, d2] using hK'
      · have d1 : t 1 = .slice a1 16 c1 := by simpa using hdep ⟨1, .data⟩ (by simp) rfl
        have d3 : t 3 = .slice a0 16 c0 := by simpa using hdep ⟨3, .data⟩ (by simp) rfl
        clear hdep
        have A := fadd_any a1 a0 c1 c0 Y1 X1 w' ((SRK1.out.at 1 _ _ rfl).below hx) ((SRK1.out.at 0 _ _ rfl).below hx)
        have hK' : ∀ ww v, FG ww v ((Y1 + X1) % fp) → Below w'.heap.size w' ww → K _ ww := fun ww v hg hb => hK ww v (by simpa using hg) (hx.trans (hb.mono hx.size)) hb
        clear hK
        rw [if_pos (by rfl)]
        go_simp
        try simp only [d1, d3]
        refine A.mono ?_
        rintro e w9 ⟨g', c', rfl, _, _, hf, hb⟩
        have hK2 := hK' w9 _ ⟨g', c', rfl, hf⟩ hb
        clear hK' A hf hb
        go_simp
        simpa [upd, d1, d3] using hK2
      · clear hdep
        have hK' := hK w' (.pointer (some ⟨(w.heap.size + 1), 1, none⟩)) (by simp) hx (Below.refl _ _)
        clear hK
        rw [if_pos (by rfl)]
        go_simp
        simpa [upd] using hK'
      · have d5 : t 5 = .pointer (some ⟨(w.heap.size + 1), 1, none⟩) := by simpa using hdep ⟨5, .data⟩ (by simp) rfl
        clear hdep
        have cc := (HQ1.out.below hx HQ1.out.lt).c1
        have hK' := hK w' (.slice b1 16 e1) (by simp) hx (Below.refl _ _)
        clear hK
        rw [if_pos (by rfl)]
        go_simp
        simpa [upd, d5] using hK'
      · clear hdep
        have hK' := hK w' (.pointer (some ⟨(w.heap.size + 1), 0, none⟩)) (by simp) hx (Below.refl _ _)
        clear hK
        rw [if_pos (by rfl)]
        go_simp
        simpa [upd] using hK'
      · have d7 : t 7 = .pointer (some ⟨(w.heap.size + 1), 0, none⟩) := by simpa using hdep ⟨7, .data⟩ (by simp) rfl
        clear hdep
        have cc := (HQ1.out.below hx HQ1.out.lt).c0
        have hK' := hK w' (.slice b0 16 e0) (by simp) hx (Below.refl _ _)
        clear hK
        rw [if_pos (by rfl)]
        go_simp
        simpa [upd, d7] using hK'
      · have d6 : t 6 = .slice b1 16 e1 := by simpa using hdep ⟨6, .data⟩ (by simp) rfl
        have d8 : t 8 = .slice b0 16 e0 := by simpa using hdep ⟨8, .data⟩ (by simp) rfl
        clear hdep
        have A := fadd_any b1 b0 e1 e0 Y2 X2 w' ((SRK1.out.at 5 _ _ rfl).below hx) ((SRK1.out.at 4 _ _ rfl).below hx)
        have hK' : ∀ ww v, FG ww v ((Y2 + X2) % fp) → Below w'.heap.size w' ww → K _ ww := fun ww v hg hb => hK ww v (by simpa using hg) (hx.trans (hb.mono hx.size)) hb
        clear hK
        rw [if_pos (by rfl)]
        go_simp
        try simp only [d6, d8]
        refine A.mono ?_
        rintro e w9 ⟨g', c', rfl, _, _, hf, hb⟩
        have hK2 := hK' w9 _ ⟨g', c', rfl, hf⟩ hb
        clear hK' A hf hb
        go_simp
        simpa [upd, d6, d8] using hK2
      · have h4 : FG w' (t 4) ((Y1 + X1) % fp) := by simpa using hdep ⟨4, .data⟩ (by simp) rfl
        refine h4.elim_ fun g4 c4 d4 f4 => ?_
        clear h4
        have h9 : FG w' (t 9) ((Y2 + X2) % fp) := by simpa using hdep ⟨9, .data⟩ (by simp) rfl
        refine h9.elim_ fun g9 c9 d9 f9 => ?_
        clear h9
        clear hdep
        have A := fmul_any (some ⟨g4, 0, none⟩) (some ⟨g9, 0, none⟩) c4 c9 _ _ w' f4 f9
        have hK' : ∀ ww v, FG ww v (((Y1 + X1) % fp) * ((Y2 + X2) % fp) % fp) → Below w'.heap.size w' ww → K _ ww := fun ww v hg hb => hK ww v (by simpa using hg) (hx.trans (hb.mono hx.size)) hb
        clear hK
        rw [if_pos (by rfl)]
        go_simp
        try simp only [d4, d9]
        refine A.mono ?_
        rintro e w9 ⟨g', c', rfl, _, _, hf, hb⟩
        have hK2 := hK' w9 _ ⟨g', c', rfl, hf⟩ hb
        clear hK' A hf hb
        go_simp
        simpa [upd, d4, d9] using hK2
      · have h10 : FG w' (t 10) (((Y1 + X1) % fp) * ((Y2 + X2) % fp) % fp) := by simpa using hdep ⟨10, .data⟩ (by simp) rfl
        refine h10.elim_ fun g10 c10 d10 f10 => ?_
        clear h10
        clear hdep
        have hK' := hK w' (.slice (some ⟨g10, 0, none⟩) 16 c10) (by simpa using ⟨g10, c10, rfl, f10⟩) hx (Below.refl _ _)
        clear hK
        rw [if_pos (by rfl)]
        go_simp
        simpa [upd, d10] using hK'
    case hdone =>
      intro L t2 w2 hx hg
      have f11 : FG w2 (t2 11) (((Y1 + X1) % fp) * ((Y2 + X2) % fp) % fp) := by simpa using hg 11 (by decide)
      clear hg
      obtain ⟨ggB, ccB, eB, ff⟩ := f11.get
      have HP2 : Hid (PtW w2 w.heap.size #[.slice a0 16 c0, .slice a1 16 c1, .slice a2 16 c2, .slice a3 16 c3]) := HP1.out.below hx HP1.out.lt
      have HQ2 : Hid (PtW w2 (w.heap.size + 1) #[.slice b0 16 e0, .slice b1 16 e1, .slice b2 16 e2, .slice b3 16 e3]) := HQ1.out.below hx HQ1.out.lt
      have HZ2 : Hid (PtW w2 (w.heap.size + 1 + 1) #[.slice none 0 0, .slice none 0 0, .slice none 0 0, .slice none 0 0]) := HZ1.out.below hx HZ1.out.lt
      have SRK2 : Hid (SR w w2 [(a0, X1), (a1, Y1), (a2, Z1), (a3, T1), (b0, X2), (b1, Y2), (b2, Z2), (b3, T2), (ad, D), (some ⟨ggA, 0, none⟩, smA X1 Y1 X2 Y2), (some ⟨ggB, 0, none⟩, smB X1 Y1 X2 Y2)]) := SRK1.out.more hx ff
      clear HP1 HQ1 HZ1 SRK1 hx ff
      simp only [eB]
      clear eB
      go_wp2_with fail
      refine wp_region_any (by kernel_rfl) ?_
      refine wpAny_slotsG (fun _ w w' => Below w.heap.size w w') (frame := (fun (c0 c1 c2 c3 c4 c5 c6 c7 c8 c10 c11 c12 c13 c14 c15 c16 c17 c18 c19 c20 c21 c22 c23 c24 c25 c26 c27 c28 c29 c30 c31 c32 c33 c34 c35 c36 c46 c47 c48 c49 c50 c51 c52 c53 c54 c55 c56 c57 c58 c59 c60 c61 c62 c63 c64 c65 c66 c67 c68 c69 c70 c71 c72 c73 c74 c75 c76 c77 c78 : Value) => fun (t : Nat → Value) => ({ tmps := List.toArray (c0 :: c1 :: c2 :: c3 :: c4 :: c5 :: c6 :: c7 :: c8 :: t 9 :: c10 :: c11 :: c12 :: c13 :: c14 :: c15 :: c16 :: c17 :: c18 :: c19 :: c20 :: c21 :: c22 :: c23 :: c24 :: c25 :: c26 :: c27 :: c28 :: c29 :: c30 :: c31 :: c32 :: c33 :: c34 :: c35 :: c36 :: t 0 :: t 1 :: t 2 :: t 3 :: t 4 :: t 5 :: t 6 :: t 7 :: t 8 :: c46 :: c47 :: c48 :: c49 :: c50 :: c51 :: c52 :: c53 :: c54 :: c55 :: c56 :: c57 :: c58 :: c59 :: c60 :: c61 :: c62 :: c63 :: c64 :: c65 :: c66 :: c67 :: c68 :: c69 :: c70 :: c71 :: c72 :: c73 :: c74 :: c75 :: c76 :: c77 :: c78 :: []), defers := [] } : Act)) _ _ _ _ _ _ _ _ _ _ _ _ _ _ _ _ _ _ _ _ _ _ _ _ _ _ _ _ _ _ _ _ _ _ _ _ _ _ _ _ _ _ _ _ _ _ _ _ _ _ _ _ _ _ _ _ _ _ _ _ _ _ _ _ _ _ _ _ _)
        (Ext := fun L w' => Below w2.heap.size w2 w') (Good := fun i L w' v => if i = 0 then v = .slice ad 16 cd else if i = 1 then v = .slice ad 16 cd else if i = 2 then FG w' v ((D + D) % fp) else if i = 3 then v = .pointer (some ⟨w.heap.size, 3, none⟩) else if i = 4 then v = .slice a3 16 c3 else if i = 5 then FG w' v (((D + D) % fp) * T1 % fp) else if i = 6 then v = .pointer (some ⟨(w.heap.size + 1), 3, none⟩) else if i = 7 then v = .slice b3 16 e3 else if i = 8 then FG w' v ((((D + D) % fp) * T1 % fp) * T2 % fp) else if i = 9 then FG w' v ((((D + D) % fp) * T1 % fp) * T2 % fp) else True) ?hstab (by kernel_rfl) ?hop ?hdone _ _ ((fun (x0 x1 x2 x3 x4 x5 x6 x7 x8 x9 : Value) => fun (i : Nat) => if i = 0 then x0 else if i = 1 then x1 else if i = 2 then x2 else if i = 3 then x3 else if i = 4 then x4 else if i = 5 then x5 else if i = 6 then x6 else if i = 7 then x7 else if i = 8 then x8 else if i = 9 then x9 else undef) _ _ _ _ _ _ _ _ _ _) _ (by simp) ?ext ?start (by simp)
      case start => intro i hi h; exact absurd h (by rw [Array.getD_eq_getD_getElem?, Array.getElem?_replicate]; split <;> simp)
      case ext => exact ⟨rfl, rfl, rfl, Nat.le_refl _, fun _ _ => rfl⟩
      case hstab =>
        intro j L w9 w' i v hM _ _ h
        by_cases h2 : j = 2
        · subst h2
          simp at h ⊢
          exact h.below hM
        by_cases h5 : j = 5
        · subst h5
          simp at h ⊢
          exact h.below hM
        by_cases h8 : j = 8
        · subst h8
          simp at h ⊢
          exact h.below hM
        by_cases h9 : j = 9
        · subst h9
          simp at h ⊢
          exact h.below hM
        simp only [if_neg h2, if_neg h5, if_neg h8, if_neg h9] at h ⊢
        exact h
      case hop =>
        intro i o L t w' ho hLi hx hdep K hK
        have hi : i < 10 := (Array.getElem?_eq_some_iff.1 ho).1
        obtain rfl | rfl | rfl | rfl | rfl | rfl | rfl | rfl | rfl | rfl : i = 0 ∨ i = 1 ∨ i = 2 ∨ i = 3 ∨ i = 4 ∨ i = 5 ∨ i = 6 ∨ i = 7 ∨ i = 8 ∨ i = 9 := by omega
        all_goals (simp at ho; subst ho)
        · clear hdep
          have hK' := hK w' (.slice ad 16 cd) (by simp) hx (Below.refl _ _)
          clear hK
          rw [if_pos (by rfl)]
          go_simp
          simpa [upd] using hK'
        · clear hdep
          have hK' := hK w' (.slice ad 16 cd) (by simp) hx (Below.refl _ _)
          clear hK
          rw [if_pos (by rfl)]
          go_simp
          simpa [upd] using hK'
        · have d0 : t 0 = .slice ad 16 cd := by simpa using hdep ⟨0, .data⟩ (by simp) rfl
          have d1 : t 1 = .slice ad 16 cd := by simpa using hdep ⟨1, .data⟩ (by simp) rfl
          clear hdep
          have A := fadd_any ad ad cd cd D D w' ((SRK2.out.at 8 _ _ rfl).below hx) ((SRK2.out.at 8 _ _ rfl).below hx)
          have hK' : ∀ ww v, FG ww v ((D + D) % fp) → Below w'.heap.size w' ww → K _ ww := fun ww v hg hb => hK ww v (by simpa using hg) (hx.trans (hb.mono hx.size)) hb
          clear hK
          rw [if_pos (by rfl)]
          go_simp
          try simp only [d0, d1]
          refine A.mono ?_
          rintro e w9 ⟨g', c', rfl, _, _, hf, hb⟩
          have hK2 := hK' w9 _ ⟨g', c', rfl, hf⟩ hb
          clear hK' A hf hb
          go_simp
          simpa [upd, d0, d1] using hK2
        · clear hdep
          have hK' := hK w' (.pointer (some ⟨w.heap.size, 3, none⟩)) (by simp) hx (Below.refl _ _)
          clear hK
          rw [if_pos (by rfl)]
          go_simp
          simpa [upd] using hK'
        · have d3 : t 3 = .pointer (some ⟨w.heap.size, 3, none⟩) := by simpa using hdep ⟨3, .data⟩ (by simp) rfl
          clear hdep
          have cc := (HP2.out.below hx HP2.out.lt).c3
          have hK' := hK w' (.slice a3 16 c3) (by simp) hx (Below.refl _ _)
          clear hK
          rw [if_pos (by rfl)]
          go_simp
          simpa [upd, d3] using hK'
        · have h2 : FG w' (t 2) ((D + D) % fp) := by simpa using hdep ⟨2, .data⟩ (by simp) rfl
          refine h2.elim_ fun g2 c2 d2 f2 => ?_
          clear h2
          have d4 : t 4 = .slice a3 16 c3 := by simpa using hdep ⟨4, .data⟩ (by simp) rfl
          clear hdep
          have A := fmul_any (some ⟨g2, 0, none⟩) a3 c2 c3 _ T1 w' f2 ((SRK2.out.at 3 _ _ rfl).below hx)
          have hK' : ∀ ww v, FG ww v (((D + D) % fp) * T1 % fp) → Below w'.heap.size w' ww → K _ ww := fun ww v hg hb => hK ww v (by simpa using hg) (hx.trans (hb.mono hx.size)) hb
          clear hK
          rw [if_pos (by rfl)]
          go_simp
          try simp only [d2, d4]
          refine A.mono ?_
          rintro e w9 ⟨g', c', rfl, _, _, hf, hb⟩
          have hK2 := hK' w9 _ ⟨g', c', rfl, hf⟩ hb
          clear hK' A hf hb
          go_simp
          simpa [upd, d2, d4] using hK2
        · clear hdep
          have hK' := hK w' (.pointer (some ⟨(w.heap.size + 1), 3, none⟩)) (by simp) hx (Below.refl _ _)
          clear hK
          rw [if_pos (by rfl)]
          go_simp
          simpa [upd] using hK'
        · have d6 : t 6 = .pointer (some ⟨(w.heap.size + 1), 3, none⟩) := by simpa using hdep ⟨6, .data⟩ (by simp) rfl
          clear hdep
          have cc := (HQ2.out.below hx HQ2.out.lt).c3
          have hK' := hK w' (.slice b3 16 e3) (by simp) hx (Below.refl _ _)
          clear hK
          rw [if_pos (by rfl)]
          go_simp
          simpa [upd, d6] using hK'
        · have h5 : FG w' (t 5) (((D + D) % fp) * T1 % fp) := by simpa using hdep ⟨5, .data⟩ (by simp) rfl
          refine h5.elim_ fun g5 c5 d5 f5 => ?_
          clear h5
          have d7 : t 7 = .slice b3 16 e3 := by simpa using hdep ⟨7, .data⟩ (by simp) rfl
          clear hdep
          have A := fmul_any (some ⟨g5, 0, none⟩) b3 c5 e3 _ T2 w' f5 ((SRK2.out.at 7 _ _ rfl).below hx)
          have hK' : ∀ ww v, FG ww v ((((D + D) % fp) * T1 % fp) * T2 % fp) → Below w'.heap.size w' ww → K _ ww := fun ww v hg hb => hK ww v (by simpa using hg) (hx.trans (hb.mono hx.size)) hb
          clear hK
          rw [if_pos (by rfl)]
          go_simp
          try simp only [d5, d7]
          refine A.mono ?_
          rintro e w9 ⟨g', c', rfl, _, _, hf, hb⟩
          have hK2 := hK' w9 _ ⟨g', c', rfl, hf⟩ hb
          clear hK' A hf hb
          go_simp
          simpa [upd, d5, d7] using hK2
        · have h8 : FG w' (t 8) ((((D + D) % fp) * T1 % fp) * T2 % fp) := by simpa using hdep ⟨8, .data⟩ (by simp) rfl
          refine h8.elim_ fun g8 c8 d8 f8 => ?_
          clear h8
          clear hdep
          have hK' := hK w' (.slice (some ⟨g8, 0, none⟩) 16 c8) (by simpa using ⟨g8, c8, rfl, f8⟩) hx (Below.refl _ _)
          clear hK
          rw [if_pos (by rfl)]
          go_simp
          simpa [upd, d8] using hK'
      case hdone =>
        intro L t3 w3 hx hg
        have f9 : FG w3 (t3 9) ((((D + D) % fp) * T1 % fp) * T2 % fp) := by simpa using hg 9 (by decide)
        clear hg
        obtain ⟨ggC, ccC, eC, ff⟩ := f9.get
        have HP3 : Hid (PtW w3 w.heap.size #[.slice a0 16 c0, .slice a1 16 c1, .slice a2 16 c2, .slice a3 16 c3]) := HP2.out.below hx HP2.out.lt
        have HQ3 : Hid (PtW w3 (w.heap.size + 1) #[.slice b0 16 e0, .slice b1 16 e1, .slice b2 16 e2, .slice b3 16 e3]) := HQ2.out.below hx HQ2.out.lt
        have HZ3 : Hid (PtW w3 (w.heap.size + 1 + 1) #[.slice none 0 0, .slice none 0 0, .slice none 0 0, .slice none 0 0]) := HZ2.out.below hx HZ2.out.lt
        have SRK3 : Hid (SR w w3 [(a0, X1), (a1, Y1), (a2, Z1), (a3, T1), (b0, X2), (b1, Y2), (b2, Z2), (b3, T2), (ad, D), (some ⟨ggA, 0, none⟩, smA X1 Y1 X2 Y2), (some ⟨ggB, 0, none⟩, smB X1 Y1 X2 Y2), (some ⟨ggC, 0, none⟩, smC D T1 T2)]) := SRK2.out.more hx ff
        clear HP2 HQ2 HZ2 SRK2 hx ff
        simp only [eC]
        clear eC
        go_wp2_with fail
        refine wp_region_any (by kernel_rfl) ?_
        refine wpAny_slotsG (fun _ w w' => Below w.heap.size w w') (frame := (fun (c0 c1 c2 c3 c4 c5 c6 c7 c8 c9 c11 c12 c13 c14 c15 c16 c17 c18 c19 c20 c21 c22 c23 c24 c25 c26 c27 c28 c29 c30 c31 c32 c33 c34 c35 c36 c37 c38 c39 c40 c41 c42 c43 c44 c45 c54 c55 c56 c57 c58 c59 c60 c61 c62 c63 c64 c65 c66 c67 c68 c69 c70 c71 c72 c73 c74 c75 c76 c77 c78 : Value) => fun (t : Nat → Value) => ({ tmps := List.toArray (c0 :: c1 :: c2 :: c3 :: c4 :: c5 :: c6 :: c7 :: c8 :: c9 :: t 8 :: c11 :: c12 :: c13 :: c14 :: c15 :: c16 :: c17 :: c18 :: c19 :: c20 :: c21 :: c22 :: c23 :: c24 :: c25 :: c26 :: c27 :: c28 :: c29 :: c30 :: c31 :: c32 :: c33 :: c34 :: c35 :: c36 :: c37 :: c38 :: c39 :: c40 :: c41 :: c42 :: c43 :: c44 :: c45 :: t 0 :: t 1 :: t 2 :: t 3 :: t 4 :: t 5 :: t 6 :: t 7 :: c54 :: c55 :: c56 :: c57 :: c58 :: c59 :: c60 :: c61 :: c62 :: c63 :: c64 :: c65 :: c66 :: c67 :: c68 :: c69 :: c70 :: c71 :: c72 :: c73 :: c74 :: c75 :: c76 :: c77 :: c78 :: []), defers := [] } : Act)) _ _ _ _ _ _ _ _ _ _ _ _ _ _ _ _ _ _ _ _ _ _ _ _ _ _ _ _ _ _ _ _ _ _ _ _ _ _ _ _ _ _ _ _ _ _ _ _ _ _ _ _ _ _ _ _ _ _ _ _ _ _ _ _ _ _ _ _ _ _)
          (Ext := fun L w' => Below w3.heap.size w3 w') (Good := fun i L w' v => if i = 0 then v = .pointer (some ⟨w.heap.size, 2, none⟩) else if i = 1 then v = .slice a2 16 c2 else if i = 2 then v = .pointer (some ⟨w.heap.size, 2, none⟩) else if i = 3 then v = .slice a2 16 c2 else if i = 4 then FG w' v ((Z1 + Z1) % fp) else if i = 5 then v = .pointer (some ⟨(w.heap.size + 1), 2, none⟩) else if i = 6 then v = .slice b2 16 e2 else if i = 7 then FG w' v (((Z1 + Z1) % fp) * Z2 % fp) else if i = 8 then FG w' v (((Z1 + Z1) % fp) * Z2 % fp) else True) ?hstab (by kernel_rfl) ?hop ?hdone _ _ ((fun (x0 x1 x2 x3 x4 x5 x6 x7 x8 : Value) => fun (i : Nat) => if i = 0 then x0 else if i = 1 then x1 else if i = 2 then x2 else if i = 3 then x3 else if i = 4 then x4 else if i = 5 then x5 else if i = 6 then x6 else if i = 7 then x7 else if i = 8 then x8 else undef) _ _ _ _ _ _ _ _ _) _ (by simp) ?ext ?start (by simp)
        case start => intro i hi h; exact absurd h (by rw [Array.getD_eq_getD_getElem?, Array.getElem?_replicate]; split <;> simp)
        case ext => exact ⟨rfl, rfl, rfl, Nat.le_refl _, fun _ _ => rfl⟩
        case hstab =>
          intro j L w9 w' i v hM _ _ h
          by_cases h4 : j = 4
          · subst h4
            simp at h ⊢
            exact h.below hM
          by_cases h7 : j = 7
          · subst h7
            simp at h ⊢
            exact h.below hM
          by_cases h8 : j = 8
          · subst h8
            simp at h ⊢
            exact h.below hM
          simp only [if_neg h4, if_neg h7, if_neg h8] at h ⊢
          exact h
        case hop =>
          intro i o L t w' ho hLi hx hdep K hK
          have hi : i < 9 := (Array.getElem?_eq_some_iff.1 ho).1
          obtain rfl | rfl | rfl | rfl | rfl | rfl | rfl | rfl | rfl : i = 0 ∨ i = 1 ∨ i = 2 ∨ i = 3 ∨ i = 4 ∨ i = 5 ∨ i = 6 ∨ i = 7 ∨ i = 8 := by omega
          all_goals (simp at ho; subst ho)
          · clear hdep
            have hK' := hK w' (.pointer (some ⟨w.heap.size, 2, none⟩)) (by simp) hx (Below.refl _ _)
            clear hK
            rw [if_pos (by rfl)]
            go_simp
            simpa [upd] using hK'
          · have d0 : t 0 = .pointer (some ⟨w.heap.size, 2, none⟩) := by simpa using hdep ⟨0, .data⟩ (by simp) rfl
            clear hdep
            have cc := (HP3.out.below hx HP3.out.lt).c2
            have hK' := hK w' (.slice a2 16 c2) (by simp) hx (Below.refl _ _)
            clear hK
            rw [if_pos (by rfl)]
            go_simp
            simpa [upd, d0] using hK'
          · clear hdep
            have hK' := hK w' (.pointer (some ⟨w.heap.size, 2, none⟩)) (by simp) hx (Below.refl _ _)
            clear hK
            rw [if_pos (by rfl)]
            go_simp
            simpa [upd] using hK'
          · have d2 : t 2 = .pointer (some ⟨w.heap.size, 2, none⟩) := by simpa using hdep ⟨2, .data⟩ (by simp) rfl
            clear hdep
            have cc := (HP3.out.below hx HP3.out.lt).c2
            have hK' := hK w' (.slice a2 16 c2) (by simp) hx (Below.refl _ _)
            clear hK
            rw [if_pos (by rfl)]
            go_simp
            simpa [upd, d2] using hK'
          · have d1 : t 1 = .slice a2 16 c2 := by simpa using hdep ⟨1, .data⟩ (by simp) rfl
            have d3 : t 3 = .slice a2 16 c2 := by simpa using hdep ⟨3, .data⟩ (by simp) rfl
            clear hdep
            have A := fadd_any a2 a2 c2 c2 Z1 Z1 w' ((SRK3.out.at 2 _ _ rfl).below hx) ((SRK3.out.at 2 _ _ rfl).below hx)
            have hK' : ∀ ww v, FG ww v ((Z1 + Z1) % fp) → Below w'.heap.size w' ww → K _ ww := fun ww v hg hb => hK ww v (by simpa using hg) (hx.trans (hb.mono hx.size)) hb
            clear hK
            rw [if_pos (by rfl)]
            go_simp
            try simp only [d1, d3]
            refine A.mono ?_
            rintro e w9 ⟨g', c', rfl, _, _, hf, hb⟩
            have hK2 := hK' w9 _ ⟨g', c', rfl, hf⟩ hb
            clear hK' A hf hb
            go_simp
            simpa [upd, d1, d3] using hK2
          · clear hdep
            have hK' := hK w' (.pointer (some ⟨(w.heap.size + 1), 2, none⟩)) (by simp) hx (Below.refl _ _)
            clear hK
            rw [if_pos (by rfl)]
            go_simp
            simpa [upd] using hK'
          · have d5 : t 5 = .pointer (some ⟨(w.heap.size + 1), 2, none⟩) := by simpa using hdep ⟨5, .data⟩ (by simp) rfl
            clear hdep
            have cc := (HQ3.out.below hx HQ3.out.lt).c2
            have hK' := hK w' (.slice b2 16 e2) (by simp) hx (Below.refl _ _)
            clear hK
            rw [if_pos (by rfl)]
            go_simp
            simpa [upd, d5] using hK'
          · have h4 : FG w' (t 4) ((Z1 + Z1) % fp) := by simpa using hdep ⟨4, .data⟩ (by simp) rfl
            refine h4.elim_ fun g4 c4 d4 f4 => ?_
            clear h4
            have d6 : t 6 = .slice b2 16 e2 := by simpa using hdep ⟨6, .data⟩ (by simp) rfl
            clear hdep
            have A := fmul_any (some ⟨g4, 0, none⟩) b2 c4 e2 _ Z2 w' f4 ((SRK3.out.at 6 _ _ rfl).below hx)
            have hK' : ∀ ww v, FG ww v (((Z1 + Z1) % fp) * Z2 % fp) → Below w'.heap.size w' ww → K _ ww := fun ww v hg hb => hK ww v (by simpa using hg) (hx.trans (hb.mono hx.size)) hb
            clear hK
            rw [if_pos (by rfl)]
            go_simp
            try simp only [d4, d6]
            refine A.mono ?_
            rintro e w9 ⟨g', c', rfl, _, _, hf, hb⟩
            have hK2 := hK' w9 _ ⟨g', c', rfl, hf⟩ hb
            clear hK' A hf hb
            go_simp
            simpa [upd, d4, d6] using hK2
          · have h7 : FG w' (t 7) (((Z1 + Z1) % fp) * Z2 % fp) := by simpa using hdep ⟨7, .data⟩ (by simp) rfl
            refine h7.elim_ fun g7 c7 d7 f7 => ?_
            clear h7
            clear hdep
            have hK' := hK w' (.slice (some ⟨g7, 0, none⟩) 16 c7) (by simpa using ⟨g7, c7, rfl, f7⟩) hx (Below.refl _ _)
            clear hK
            rw [if_pos (by rfl)]
            go_simp
            simpa [upd, d7] using hK'
        case hdone =>
          intro L t4 w4 hx hg
          have f8 : FG w4 (t4 8) (((Z1 + Z1) % fp) * Z2 % fp) := by simpa using hg 8 (by decide)
          clear hg
          obtain ⟨ggG, ccG, eG, ff⟩ := f8.get
          have HP4 : Hid (PtW w4 w.heap.size #[.slice a0 16 c0, .slice a1 16 c1, .slice a2 16 c2, .slice a3 16 c3]) := HP3.out.below hx HP3.out.lt
          have HQ4 : Hid (PtW w4 (w.heap.size + 1) #[.slice b0 16 e0, .slice b1 16 e1, .slice b2 16 e2, .slice b3 16 e3]) := HQ3.out.below hx HQ3.out.lt
          have HZ4 : Hid (PtW w4 (w.heap.size + 1 + 1) #[.slice none 0 0, .slice none 0 0, .slice none 0 0, .slice none 0 0]) := HZ3.out.below hx HZ3.out.lt
          have SRK4 : Hid (SR w w4 [(a0, X1), (a1, Y1), (a2, Z1), (a3, T1), (b0, X2), (b1, Y2), (b2, Z2), (b3, T2), (ad, D), (some ⟨ggA, 0, none⟩, smA X1 Y1 X2 Y2), (some ⟨ggB, 0, none⟩, smB X1 Y1 X2 Y2), (some ⟨ggC, 0, none⟩, smC D T1 T2), (some ⟨ggG, 0, none⟩, smG Z1 Z2)]) := SRK3.out.more hx ff
          clear HP3 HQ3 HZ3 SRK3 hx ff
          simp only [eG]
          clear eG
          go_wp2_with fail
          clear HP4 HQ4
          refine (fsub_any _ _ ccB ccA _ _ _ (SRK4.out.at 10 _ _ rfl) (SRK4.out.at 9 _ _ rfl)).mono ?_
          rintro e w5 ⟨gE, kE, rfl, hk1, hl1, hf, hb⟩
          have HZ5 : Hid (PtW w5 (w.heap.size + 1 + 1) #[.slice none 0 0, .slice none 0 0, .slice none 0 0, .slice none 0 0]) := HZ4.out.below hb HZ4.out.lt
          have SRK5 : Hid (SR w w5 [(a0, X1), (a1, Y1), (a2, Z1), (a3, T1), (b0, X2), (b1, Y2), (b2, Z2), (b3, T2), (ad, D), (some ⟨ggA, 0, none⟩, smA X1 Y1 X2 Y2), (some ⟨ggB, 0, none⟩, smB X1 Y1 X2 Y2), (some ⟨ggC, 0, none⟩, smC D T1 T2), (some ⟨ggG, 0, none⟩, smG Z1 Z2), (some ⟨gE, 0, none⟩, (smB X1 Y1 X2 Y2 - smA X1 Y1 X2 Y2) % fp)]) := SRK4.out.more hb hf
          have hgE : w.heap.size + 1 + 1 < gE := by have := HZ4.out.lt; omega
          clear hf hb SRK4 HZ4 hk1 hl1
          go_wp2_with fail
          refine (fsub_any _ _ ccG ccC _ _ _ (SRK5.out.at 12 _ _ rfl) (SRK5.out.at 11 _ _ rfl)).mono ?_
          rintro e w6 ⟨gF, kF, rfl, hk1, hl1, hf, hb⟩
          have HZ6 : Hid (PtW w6 (w.heap.size + 1 + 1) #[.slice none 0 0, .slice none 0 0, .slice none 0 0, .slice none 0 0]) := HZ5.out.below hb HZ5.out.lt
          have SRK6 : Hid (SR w w6 [(a0, X1), (a1, Y1), (a2, Z1), (a3, T1), (b0, X2), (b1, Y2), (b2, Z2), (b3, T2), (ad, D), (some ⟨ggA, 0, none⟩, smA X1 Y1 X2 Y2), (some ⟨ggB, 0, none⟩, smB X1 Y1 X2 Y2), (some ⟨ggC, 0, none⟩, smC D T1 T2), (some ⟨ggG, 0, none⟩, smG Z1 Z2), (some ⟨gE, 0, none⟩, (smB X1 Y1 X2 Y2 - smA X1 Y1 X2 Y2) % fp), (some ⟨gF, 0, none⟩, (smG Z1 Z2 - smC D T1 T2) % fp)]) := SRK5.out.more hb hf
          have hgF : w.heap.size + 1 + 1 < gF := by have := HZ5.out.lt; omega
          clear hf hb SRK5 HZ5 hk1 hl1
          go_wp2_with fail
          refine (fadd_any _ _ ccG ccC _ _ _ (SRK6.out.at 12 _ _ rfl) (SRK6.out.at 11 _ _ rfl)).mono ?_
          rintro e w7 ⟨gH, kH, rfl, hk1, hl1, hf, hb⟩
          have HZ7 : Hid (PtW w7 (w.heap.size + 1 + 1) #[.slice none 0 0, .slice none 0 0, .slice none 0 0, .slice none 0 0]) := HZ6.out.below hb HZ6.out.lt
          have SRK7 : Hid (SR w w7 [(a0, X1), (a1, Y1), (a2, Z1), (a3, T1), (b0, X2), (b1, Y2), (b2, Z2), (b3, T2), (ad, D), (some ⟨ggA, 0, none⟩, smA X1 Y1 X2 Y2), (some ⟨ggB, 0, none⟩, smB X1 Y1 X2 Y2), (some ⟨ggC, 0, none⟩, smC D T1 T2), (some ⟨ggG, 0, none⟩, smG Z1 Z2), (some ⟨gE, 0, none⟩, (smB X1 Y1 X2 Y2 - smA X1 Y1 X2 Y2) % fp), (some ⟨gF, 0, none⟩, (smG Z1 Z2 - smC D T1 T2) % fp), (some ⟨gH, 0, none⟩, (smG Z1 Z2 + smC D T1 T2) % fp)]) := SRK6.out.more hb hf
          have hgH : w.heap.size + 1 + 1 < gH := by have := HZ6.out.lt; omega
          clear hf hb SRK6 HZ6 hk1 hl1
          go_wp2_with fail
          refine (fadd_any _ _ ccB ccA _ _ _ (SRK7.out.at 10 _ _ rfl) (SRK7.out.at 9 _ _ rfl)).mono ?_
          rintro e w8 ⟨gK, kK, rfl, hk1, hl1, hf, hb⟩
          have HZ8 : Hid (PtW w8 (w.heap.size + 1 + 1) #[.slice none 0 0, .slice none 0 0, .slice none 0 0, .slice none 0 0]) := HZ7.out.below hb HZ7.out.lt
          have SRK8 : Hid (SR w w8 [(a0, X1), (a1, Y1), (a2, Z1), (a3, T1), (b0, X2), (b1, Y2), (b2, Z2), (b3, T2), (ad, D), (some ⟨ggA, 0, none⟩, smA X1 Y1 X2 Y2), (some ⟨ggB, 0, none⟩, smB X1 Y1 X2 Y2), (some ⟨ggC, 0, none⟩, smC D T1 T2), (some ⟨ggG, 0, none⟩, smG Z1 Z2), (some ⟨gE, 0, none⟩, (smB X1 Y1 X2 Y2 - smA X1 Y1 X2 Y2) % fp), (some ⟨gF, 0, none⟩, (smG Z1 Z2 - smC D T1 T2) % fp), (some ⟨gH, 0, none⟩, (smG Z1 Z2 + smC D T1 T2) % fp), (some ⟨gK, 0, none⟩, (smB X1 Y1 X2 Y2 + smA X1 Y1 X2 Y2) % fp)]) := SRK7.out.more hb hf
          have hgK : w.heap.size + 1 + 1 < gK := by have := HZ7.out.lt; omega
          clear hf hb SRK7 HZ7 hk1 hl1
          go_wp2_with fail
          refine (fmul_any _ _ kE kF _ _ _ (SRK8.out.at 13 _ _ rfl) (SRK8.out.at 14 _ _ rfl)).mono ?_
          rintro e w9 ⟨gX, kX, rfl, hk1, hl1, hf, hb⟩
          have HZ9 : Hid (PtW w9 (w.heap.size + 1 + 1) #[.slice none 0 0, .slice none 0 0, .slice none 0 0, .slice none 0 0]) := HZ8.out.below hb HZ8.out.lt
          have SRK9 : Hid (SR w w9 [(a0, X1), (a1, Y1), (a2, Z1), (a3, T1), (b0, X2), (b1, Y2), (b2, Z2), (b3, T2), (ad, D), (some ⟨ggA, 0, none⟩, smA X1 Y1 X2 Y2), (some ⟨ggB, 0, none⟩, smB X1 Y1 X2 Y2), (some ⟨ggC, 0, none⟩, smC D T1 T2), (some ⟨ggG, 0, none⟩, smG Z1 Z2), (some ⟨gE, 0, none⟩, (smB X1 Y1 X2 Y2 - smA X1 Y1 X2 Y2) % fp), (some ⟨gF, 0, none⟩, (smG Z1 Z2 - smC D T1 T2) % fp), (some ⟨gH, 0, none⟩, (smG Z1 Z2 + smC D T1 T2) % fp), (some ⟨gK, 0, none⟩, (smB X1 Y1 X2 Y2 + smA X1 Y1 X2 Y2) % fp), (some ⟨gX, 0, none⟩, (smB X1 Y1 X2 Y2 - smA X1 Y1 X2 Y2) % fp * ((smG Z1 Z2 - smC D T1 T2) % fp) % fp)]) := SRK8.out.more hb hf
          have hgX : w.heap.size + 1 + 1 < gX := by have := HZ8.out.lt; omega
          clear hf hb SRK8 HZ8 hk1 hl1
          go_wp2_with fail
          refine (fmul_any _ _ kH kK _ _ _ (SRK9.out.at 15 _ _ rfl) (SRK9.out.at 16 _ _ rfl)).mono ?_
          rintro e w10 ⟨gY, kY, rfl, hk1, hl1, hf, hb⟩
          have HZ10 : Hid (PtW w10 (w.heap.size + 1 + 1) #[.slice none 0 0, .slice none 0 0, .slice none 0 0, .slice none 0 0]) := HZ9.out.below hb HZ9.out.lt
          have SRK10 : Hid (SR w w10 [(a0, X1), (a1, Y1), (a2, Z1), (a3, T1), (b0, X2), (b1, Y2), (b2, Z2), (b3, T2), (ad, D), (some ⟨ggA, 0, none⟩, smA X1 Y1 X2 Y2), (some ⟨ggB, 0, none⟩, smB X1 Y1 X2 Y2), (some ⟨ggC, 0, none⟩, smC D T1 T2), (some ⟨ggG, 0, none⟩, smG Z1 Z2), (some ⟨gE, 0, none⟩, (smB X1 Y1 X2 Y2 - smA X1 Y1 X2 Y2) % fp), (some ⟨gF, 0, none⟩, (smG Z1 Z2 - smC D T1 T2) % fp), (some ⟨gH, 0, none⟩, (smG Z1 Z2 + smC D T1 T2) % fp), (some ⟨gK, 0, none⟩, (smB X1 Y1 X2 Y2 + smA X1 Y1 X2 Y2) % fp), (some ⟨gX, 0, none⟩, (smB X1 Y1 X2 Y2 - smA X1 Y1 X2 Y2) % fp * ((smG Z1 Z2 - smC D T1 T2) % fp) % fp), (some ⟨gY, 0, none⟩, (smG Z1 Z2 + smC D T1 T2) % fp * ((smB X1 Y1 X2 Y2 + smA X1 Y1 X2 Y2) % fp) % fp)]) := SRK9.out.more hb hf
          have hgY : w.heap.size + 1 + 1 < gY := by have := HZ9.out.lt; omega
          clear hf hb SRK9 HZ9 hk1 hl1
          go_wp2_with fail
          refine (fmul_any _ _ kF kH _ _ _ (SRK10.out.at 14 _ _ rfl) (SRK10.out.at 15 _ _ rfl)).mono ?_
          rintro e w11 ⟨gZ, kZ, rfl, hk1, hl1, hf, hb⟩
          have HZ11 : Hid (PtW w11 (w.heap.size + 1 + 1) #[.slice none 0 0, .slice none 0 0, .slice none 0 0, .slice none 0 0]) := HZ10.out.below hb HZ10.out.lt
          have SRK11 : Hid (SR w w11 [(a0, X1), (a1, Y1), (a2, Z1), (a3, T1), (b0, X2), (b1, Y2), (b2, Z2), (b3, T2), (ad, D), (some ⟨ggA, 0, none⟩, smA X1 Y1 X2 Y2), (some ⟨ggB, 0, none⟩, smB X1 Y1 X2 Y2), (some ⟨ggC, 0, none⟩, smC D T1 T2), (some ⟨ggG, 0, none⟩, smG Z1 Z2), (some ⟨gE, 0, none⟩, (smB X1 Y1 X2 Y2 - smA X1 Y1 X2 Y2) % fp), (some ⟨gF, 0, none⟩, (smG Z1 Z2 - smC D T1 T2) % fp), (some ⟨gH, 0, none⟩, (smG Z1 Z2 + smC D T1 T2) % fp), (some ⟨gK, 0, none⟩, (smB X1 Y1 X2 Y2 + smA X1 Y1 X2 Y2) % fp), (some ⟨gX, 0, none⟩, (smB X1 Y1 X2 Y2 - smA X1 Y1 X2 Y2) % fp * ((smG Z1 Z2 - smC D T1 T2) % fp) % fp), (some ⟨gY, 0, none⟩, (smG Z1 Z2 + smC D T1 T2) % fp * ((smB X1 Y1 X2 Y2 + smA X1 Y1 X2 Y2) % fp) % fp), (some ⟨gZ, 0, none⟩, (smG Z1 Z2 - smC D T1 T2) % fp * ((smG Z1 Z2 + smC D T1 T2) % fp) % fp)]) := SRK10.out.more hb hf
          have hgZ : w.heap.size + 1 + 1 < gZ := by have := HZ10.out.lt; omega
          clear hf hb SRK10 HZ10 hk1 hl1
          go_wp2_with fail
          refine (fmul_any _ _ kE kK _ _ _ (SRK11.out.at 13 _ _ rfl) (SRK11.out.at 16 _ _ rfl)).mono ?_
          rintro e w12 ⟨gT, kT, rfl, hk1, hl1, hf, hb⟩
          have HZ12 : Hid (PtW w12 (w.heap.size + 1 + 1) #[.slice none 0 0, .slice none 0 0, .slice none 0 0, .slice none 0 0]) := HZ11.out.below hb HZ11.out.lt
          have SRK12 : Hid (SR w w12 [(a0, X1), (a1, Y1), (a2, Z1), (a3, T1), (b0, X2), (b1, Y2), (b2, Z2), (b3, T2), (ad, D), (some ⟨ggA, 0, none⟩, smA X1 Y1 X2 Y2), (some ⟨ggB, 0, none⟩, smB X1 Y1 X2 Y2), (some ⟨ggC, 0, none⟩, smC D T1 T2), (some ⟨ggG, 0, none⟩, smG Z1 Z2), (some ⟨gE, 0, none⟩, (smB X1 Y1 X2 Y2 - smA X1 Y1 X2 Y2) % fp), (some ⟨gF, 0, none⟩, (smG Z1 Z2 - smC D T1 T2) % fp), (some ⟨gH, 0, none⟩, (smG Z1 Z2 + smC D T1 T2) % fp), (some ⟨gK, 0, none⟩, (smB X1 Y1 X2 Y2 + smA X1 Y1 X2 Y2) % fp), (some ⟨gX, 0, none⟩, (smB X1 Y1 X2 Y2 - smA X1 Y1 X2 Y2) % fp * ((smG Z1 Z2 - smC D T1 T2) % fp) % fp), (some ⟨gY, 0, none⟩, (smG Z1 Z2 + smC D T1 T2) % fp * ((smB X1 Y1 X2 Y2 + smA X1 Y1 X2 Y2) % fp) % fp), (some ⟨gZ, 0, none⟩, (smG Z1 Z2 - smC D T1 T2) % fp * ((smG Z1 Z2 + smC D T1 T2) % fp) % fp), (some ⟨gT, 0, none⟩, (smB X1 Y1 X2 Y2 - smA X1 Y1 X2 Y2) % fp * ((smB X1 Y1 X2 Y2 + smA X1 Y1 X2 Y2) % fp) % fp)]) := SRK11.out.more hb hf
          have hgT : w.heap.size + 1 + 1 < gT := by have := HZ11.out.lt; omega
          clear hf hb SRK11 HZ11 hk1 hl1
          go_wp2_with (first
            | (refine wpList_storePt rfl (.tmp 6) (.tmp 78) rfl (w.heap.size + 1 + 1) _ _ _ _ _ rfl rfl rfl rfl rfl rfl rfl HZ12.out ?_)
            | fail)
          intro w13 hp3 hw3
          have HP3 : Hid (PtW w13 (w.heap.size + 1 + 1) #[.slice (some ⟨gX, 0, none⟩) 16 kX, .slice (some ⟨gY, 0, none⟩) 16 kY, .slice (some ⟨gZ, 0, none⟩) 16 kZ, .slice (some ⟨gT, 0, none⟩) 16 kT]) := hp3
          have HF : Hid (FeA w13 (some ⟨gX, 0, none⟩) ((smB X1 Y1 X2 Y2 - smA X1 Y1 X2 Y2) % fp * ((smG Z1 Z2 - smC D T1 T2) % fp) % fp) ∧ FeA w13 (some ⟨gY, 0, none⟩) ((smG Z1 Z2 + smC D T1 T2) % fp * ((smB X1 Y1 X2 Y2 + smA X1 Y1 X2 Y2) % fp) % fp) ∧ FeA w13 (some ⟨gZ, 0, none⟩) ((smG Z1 Z2 - smC D T1 T2) % fp * ((smG Z1 Z2 + smC D T1 T2) % fp) % fp) ∧ FeA w13 (some ⟨gT, 0, none⟩) ((smB X1 Y1 X2 Y2 - smA X1 Y1 X2 Y2) % fp * ((smB X1 Y1 X2 Y2 + smA X1 Y1 X2 Y2) % fp) % fp) ∧ Below w.heap.size w w13) :=
            ⟨(SRK12.out.at 17 _ _ rfl).wr hw3 (by omega), (SRK12.out.at 18 _ _ rfl).wr hw3 (by omega), (SRK12.out.at 19 _ _ rfl).wr hw3 (by omega), (SRK12.out.at 20 _ _ rfl).wr hw3 (by omega), SRK12.out.below.trans (hw3.below (by omega))⟩
          clear hp3 hw3 SRK12 HZ12
          go_wp2
          exact bodyPost_ret (v := .agg #[.slice (some ⟨gX, 0, none⟩) 16 kX, .slice (some ⟨gY, 0, none⟩) 16 kY, .slice (some ⟨gZ, 0, none⟩) 16 kZ, .slice (some ⟨gT, 0, none⟩) 16 kT]) (results_cell_row rfl _ _ (w.heap.size + 1 + 1) 76 _ (0, 0) _ rfl HP3.out Try.underlying76 rfl Try.sizePt) rfl ⟨gX, kX, gY, kY, gZ, kZ, gT, kT, rfl, HF.out.1, HF.out.2.1, HF.out.2.2.1, HF.out.2.2.2.1, HF.out.2.2.2.2⟩
end Go.Proofs.Ythghkfncpdnpoac
