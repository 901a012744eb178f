/-
  Own work: a book handed out as a state, by the program (written by wip/mkswi.py).
-/
import Derived.Test.YthghkfncpdnpoadSwC
import Derived.Test.YthghkfncpdnpoadApx
namespace Go.Proofs.Ythghkfncpdnpoad
open Go.ChangeShapes Go.WideShapes Go.ChangeAt Go.RowKit
set_option linter.unusedVariables false

theorem Iow.mono {B B' : Nat} {w : World} {v : Value} {xs : List Int} (h : Iow B' w v xs) (hB : B ≤ B') : Iow B w v xs := by
  refine ⟨h.1, ?_⟩
  rcases h.2 with h' | ⟨g, c, cur, h1, h2, h3⟩
  · exact .inl h'
  · exact .inr ⟨g, c, cur, h1, by omega, h3⟩
theorem Iow.fresh {w w' : World} {v : Value} {xs : List Int} (h : Iow w.heap.size w' v xs) : Fresh w w' v := fun k hk => by
  rcases h.2 with ⟨h', _⟩ | ⟨g, c, cur, h', hb, hh, _⟩
  · rw [h'] at hk; simp [Value.ownBlock] at hk
  · rw [h'] at hk; simp [Value.ownBlock] at hk
    have := (Array.getElem?_eq_some_iff.1 hh).1
    omega
theorem Iow.form {B : Nat} {w : World} {v : Value} {xs : List Int} (h : Iow B w v xs) : ∃ a n c, v = .slice a n c := by
  rcases h.2 with ⟨h', _⟩ | ⟨g, c, cur, h', _⟩
  · exact ⟨_, _, _, h'⟩
  · exact ⟨_, _, _, h'⟩
theorem Iow.keep {B : Nat} {w w' : World} {v : Value} {xs : List Int} (h : Iow B w v xs) (hb : ∀ k, B ≤ k → k < w.heap.size → w'.heap[k]? = w.heap[k]?) : Iow B w' v xs := by
  refine ⟨h.1, ?_⟩
  rcases h.2 with h' | ⟨g, c, cur, h1, h2, h3, h4⟩
  · exact .inl h'
  · exact .inr ⟨g, c, cur, h1, h2, by rw [hb g h2 (Array.getElem?_eq_some_iff.1 h3).1]; exact h3, h4⟩
theorem Iow.below {B : Nat} {w w' : World} {v : Value} {xs : List Int} (h : Iow B w v xs) (b : Below w.heap.size w w') : Iow B w' v xs := h.keep (fun k _ hk => b.block k hk)
theorem Iow.wr {B R : Nat} {w w' : World} {v : Value} {xs : List Int} (h : Iow B w v xs) (hw : Wr R w w') (hR : R < B) : Iow B w' v xs := h.keep (fun k hk _ => hw.block k (by omega))
/-- The cells of a state that was handed out. -/
def StFin (lo : Nat) (k : Int) (aT : Option Addr) (nT cT : Nat) (X Y : List Int) (w : World) (cs : Array Value) : Prop :=
  ∃ aD nD cD aU nU cU, cs = #[.slice aD nD cD, .slice aU nU cU, .int .i64 k, .slice aT nT cT] ∧ Iow lo w (.slice aD nD cD) X ∧ Iow lo w (.slice aU nU cU) Y ∧ ApV (.slice aD nD cD) (.slice aU nU cU)
theorem StFin.below {lo : Nat} {k : Int} {aT : Option Addr} {nT cT : Nat} {X Y : List Int} {w w' : World} {cs : Array Value} (h : StFin lo k aT nT cT X Y w cs) (b : Below w.heap.size w w') : StFin lo k aT nT cT X Y w' cs := by
  obtain ⟨aD, nD, cD, aU, nU, cU, e, h1, h2, h3⟩ := h; exact ⟨aD, nD, cD, aU, nU, cU, e, h1.below b, h2.below b, h3⟩
def StBd (lo : Nat) (k : Int) (aT : Option Addr) (nT cT : Nat) (X Y : List Int) (w : World) (v : Value) : Prop := ∃ cs, v = .agg cs ∧ StFin lo k aT nT cT X Y w cs
theorem StBd.below {lo : Nat} {k : Int} {aT : Option Addr} {nT cT : Nat} {X Y : List Int} {w w' : World} {v : Value} (h : StBd lo k aT nT cT X Y w v) (b : Below w.heap.size w w') : StBd lo k aT nT cT X Y w' v := by
  obtain ⟨cs, e, h⟩ := h; exact ⟨cs, e, h.below b⟩
theorem StBd.wr {lo R : Nat} {k : Int} {aT : Option Addr} {nT cT : Nat} {X Y : List Int} {w w' : World} {v : Value} (h : StBd lo k aT nT cT X Y w v) (hw : Wr R w w') (hR : R < lo) : StBd lo k aT nT cT X Y w' v := by
  obtain ⟨cs, e, aD, nD, cD, aU, nU, cU, e2, h1, h2, h3⟩ := h; exact ⟨cs, e, aD, nD, cD, aU, nU, cU, e2, h1.wr hw hR, h2.wr hw hR, h3⟩
set_option maxRecDepth 100000 in
set_option maxHeartbeats 4000000 in
theorem state_any {w : World} {g : Nat} {d u : List Int} {k : Int} (aT : Option Addr) (nT cT : Nat) (P Q : Nat → Bool) (hb : Bk w g d u k (.slice aT nT cT)) (hd : SetB d (fun v => P v = true)) (hu : SetB u (fun v => Q v = true)) :
    Calls Try.prog 49 #[.pointer (some ⟨g, 0, none⟩)] w fun e w' => ∃ aD nD cD aU nU cU, e = .returned (.agg #[.slice aD nD cD, .slice aU nU cU, .int .i64 k, .slice aT nT cT]) ∧ Iow w.heap.size w' (.slice aD nD cD) (upTo P 256) ∧ Iow w.heap.size w' (.slice aU nU cU) (upTo Q 256) ∧ ApV (.slice aD nD cD) (.slice aU nU cU) ∧ Below w.heap.size w w' := by
  have HBK : Hid (Bk w g d u k (.slice aT nT cT)) := hb
  have HGL : Hid (g < w.heap.size) := hb.lt
  have HSD : Hid (SetB d (fun v => P v = true)) := hd
  have HSU : Hid (SetB u (fun v => Q v = true)) := hu
  have HSZ : Hid ((Try.prog.info? 38).map (·.size) = some 4) := by show _ = _; kernel_rfl
  have HW0 : Hid (Below w.heap.size w (w.alloc (.cells #[.slice none 0 0, .slice none 0 0, .int .i64 0, .slice none 0 0] 38)).drew) := by
    have h1 : Below w.heap.size w (w.alloc (.cells #[.slice none 0 0, .slice none 0 0, .int .i64 0, .slice none 0 0] 38)) := (Below.refl _ _).alloc (Nat.le_refl _) _
    exact ⟨h1.os, h1.tape, h1.output, h1.size, h1.block⟩
  have HR0 : Hid ((w.alloc (.cells #[.slice none 0 0, .slice none 0 0, .int .i64 0, .slice none 0 0] 38)).drew.heap[w.heap.size]? = some (.cells #[.slice none 0 0, .slice none 0 0, .int .i64 0, .slice none 0 0] 38 (0, 0))) := heap_alloc_new w _
  clear hb hd hu
  go_enter Try.func49, Try.ntmps49
  go_wp2_with fail
  refine wp_region_any (by kernel_rfl) ?_
  refine wpAny_slotsU (fun i a b => if i = 17 then Wr (w.heap.size) a b else Below a.heap.size a b) (frame := (fun (c0 c1 c2 : Value) => fun (t : Nat → Value) => ({ tmps := List.toArray (c0 :: c1 :: c2 :: t 0 :: t 1 :: t 2 :: t 3 :: t 4 :: t 5 :: t 6 :: t 7 :: t 8 :: t 9 :: t 10 :: t 11 :: t 12 :: t 13 :: t 14 :: t 15 :: t 16 :: []), defers := [] } : Act)) _ _ _)
    (Ext := fun L u w' => ApS w (w.heap.size) 17 38 #[.slice none 0 0, .slice none 0 0, .int .i64 0, .slice none 0 0] (StFin (w.heap.size + 1) k aT nT cT (upTo P 256) (upTo Q 256)) [3, 7] L u w') (Good := fun i L w' v => if i = 0 then v = .pointer (some ⟨g, 0, none⟩) else if i = 1 then v = .pointer (some ⟨g, 0, none⟩) else if i = 2 then v = .pointer (some ⟨g, 0, none⟩) else if i = 3 then Iow (w.heap.size + 1) w' v (upTo P 256) else if i = 4 then v = .pointer (some ⟨g, 0, none⟩) else if i = 5 then v = .pointer (some ⟨g, 0, none⟩) else if i = 6 then v = .pointer (some ⟨g, 32, none⟩) else if i = 7 then Iow (w.heap.size + 1) w' v (upTo Q 256) else if i = 8 then v = .pointer (some ⟨g, 0, none⟩) else if i = 9 then v = .pointer (some ⟨g, 0, none⟩) else if i = 10 then v = .pointer (some ⟨g, 64, none⟩) else if i = 11 then v = .int .i64 k else if i = 12 then v = .pointer (some ⟨g, 0, none⟩) else if i = 13 then v = .pointer (some ⟨g, 0, none⟩) else if i = 14 then v = .pointer (some ⟨g, 65, none⟩) else if i = 15 then v = .slice aT nT cT else if i = 16 then StBd (w.heap.size + 1) k aT nT cT (upTo P 256) (upTo Q 256) w' v else if i = 17 then L 17 = true else True) ?hstab (by kernel_rfl) ?hop ?hdone _ _ ((fun (x0 x1 x2 x3 x4 x5 x6 x7 x8 x9 x10 x11 x12 x13 x14 x15 x16 : Value) => fun (i : Nat) => if i = 0 then x0 else if i = 1 then x1 else if i = 2 then x2 else if i = 3 then x3 else if i = 4 then x4 else if i = 5 then x5 else if i = 6 then x6 else if i = 7 then x7 else if i = 8 then x8 else if i = 9 then x9 else if i = 10 then x10 else if i = 11 then x11 else if i = 12 then x12 else if i = 13 then x13 else if i = 14 then x14 else if i = 15 then x15 else if i = 16 then x16 else undef) _ _ _ _ _ _ _ _ _ _ _ _ _ _ _ _ _) _ (by simp) ?ext ?start (by simp)
  case start => intro i hi h; exact absurd h (by rw [Array.getD_eq_getD_getElem?, Array.getElem?_replicate]; split <;> simp)
  case ext => exact ApS.start ⟨HW0.out, fun p _ hp => absurd hp (by rw [Array.getD_eq_getD_getElem?, Array.getElem?_replicate]; split <;> simp), fun p _ q _ _ hp => absurd hp (by rw [Array.getD_eq_getD_getElem?, Array.getElem?_replicate]; split <;> simp)⟩ (fun i => by rw [Array.getD_eq_getD_getElem?, Array.getElem?_replicate]; split <;> rfl) HR0.out
  case hstab =>
    intro j L w9 w' i v hM hij hLi h
    by_cases h3 : j = 3
    · subst h3
      by_cases hl : i = 17
      · subst hl
        simp at h hM ⊢
        exact h.wr hM (by omega)
      · rw [if_neg hl] at hM
        simp at h ⊢
        exact h.below hM
    by_cases h7 : j = 7
    · subst h7
      by_cases hl : i = 17
      · subst hl
        simp at h hM ⊢
        exact h.wr hM (by omega)
      · rw [if_neg hl] at hM
        simp at h ⊢
        exact h.below hM
    by_cases h16 : j = 16
    · subst h16
      by_cases hl : i = 17
      · subst hl
        simp at h hM ⊢
        exact h.wr hM (by omega)
      · rw [if_neg hl] at hM
        simp at h ⊢
        exact h.below hM
    by_cases hl : j = 17
    · subst hl
      simp at h ⊢
      unfold updK; simp [h]
    simp only [if_neg h3, if_neg h7, if_neg h16, if_neg hl] at h ⊢
    exact h
  case hop =>
    intro i o L t w' ho hLi hx hdep K hK
    have hi : i < 18 := (Array.getElem?_eq_some_iff.1 ho).1
    obtain rfl | rfl | rfl | rfl | rfl | rfl | rfl | rfl | rfl | rfl | rfl | rfl | rfl | rfl | rfl | rfl | rfl | rfl : i = 0 ∨ i = 1 ∨ i = 2 ∨ i = 3 ∨ i = 4 ∨ i = 5 ∨ i = 6 ∨ i = 7 ∨ i = 8 ∨ i = 9 ∨ i = 10 ∨ i = 11 ∨ i = 12 ∨ i = 13 ∨ i = 14 ∨ i = 15 ∨ i = 16 ∨ i = 17 := by omega
    all_goals (simp at ho; subst ho)
    · clear hdep
      have hK' := hK w' (.pointer (some ⟨g, 0, none⟩)) (by simp) (hx.step (fun _ _ _ b h => h.below b) 0 (by decide) _ (Below.refl _ _) (fun h => absurd h (by decide))) (by rw [if_neg (by decide)]; exact (Below.refl _ _))
      clear hK
      rw [if_pos (by rfl)]
      go_simp
      simpa [upd] using hK'
    · have d0 : t 0 = .pointer (some ⟨g, 0, none⟩) := by simpa using (hdep ⟨0, .data⟩ (by simp) rfl).2
      clear hdep
      have hK' := hK w' (.pointer (some ⟨g, 0, none⟩)) (by simp) (hx.step (fun _ _ _ b h => h.below b) 1 (by decide) _ (Below.refl _ _) (fun h => absurd h (by decide))) (by rw [if_neg (by decide)]; exact (Below.refl _ _))
      clear hK
      rw [if_pos (by rfl)]
      go_simp
      simpa [upd, d0] using hK'
    · have d1 : t 1 = .pointer (some ⟨g, 0, none⟩) := by simpa using (hdep ⟨1, .data⟩ (by simp) rfl).2
      clear hdep
      have hK' := hK w' (.pointer (some ⟨g, 0, none⟩)) (by simp) (hx.step (fun _ _ _ b h => h.below b) 2 (by decide) _ (Below.refl _ _) (fun h => absurd h (by decide))) (by rw [if_neg (by decide)]; exact (Below.refl _ _))
      clear hK
      rw [if_pos (by rfl)]
      go_simp
      simpa [upd, d1] using hK'
    · have d2 : t 2 = .pointer (some ⟨g, 0, none⟩) := by simpa using (hdep ⟨2, .data⟩ (by simp) rfl).2
      clear hdep
      have hsz : w.heap.size + 1 ≤ w'.heap.size := hx.lt
      have bw : Below w.heap.size w w' := hx.ax.below
      have A := list_any g 0 d P w' (fun ww hb => (HBK.out.below (bw.trans (hb.mono bw.size)) HGL.out).batd) HSD.out
      have hK' : ∀ ww v, Iow (w.heap.size + 1) ww v (upTo P 256) → Fresh w' ww v → Below w'.heap.size w' ww → K _ ww := fun ww v hv hf hb => hK ww v (by simpa using hv) (hx.step (fun _ _ _ b h => h.below b) 3 (by decide) v hb (fun _ => hf)) (by rw [if_neg (by decide)]; exact hb)
      clear hK
      rw [if_pos (by rfl)]
      go_simp
      try simp only [d2]
      refine A.mono ?_
      rintro e w9 ⟨v9, rfl, hv9, hb9⟩
      have hK2 := hK' w9 v9 (hv9.mono hsz) hv9.fresh hb9
      clear hK' A hv9 bw hb9
      go_simp
      simpa [upd, d2] using hK2
    · clear hdep
      have hK' := hK w' (.pointer (some ⟨g, 0, none⟩)) (by simp) (hx.step (fun _ _ _ b h => h.below b) 4 (by decide) _ (Below.refl _ _) (fun h => absurd h (by decide))) (by rw [if_neg (by decide)]; exact (Below.refl _ _))
      clear hK
      rw [if_pos (by rfl)]
      go_simp
      simpa [upd] using hK'
    · have d4 : t 4 = .pointer (some ⟨g, 0, none⟩) := by simpa using (hdep ⟨4, .data⟩ (by simp) rfl).2
      clear hdep
      have hK' := hK w' (.pointer (some ⟨g, 0, none⟩)) (by simp) (hx.step (fun _ _ _ b h => h.below b) 5 (by decide) _ (Below.refl _ _) (fun h => absurd h (by decide))) (by rw [if_neg (by decide)]; exact (Below.refl _ _))
      clear hK
      rw [if_pos (by rfl)]
      go_simp
      simpa [upd, d4] using hK'
    · have d5 : t 5 = .pointer (some ⟨g, 0, none⟩) := by simpa using (hdep ⟨5, .data⟩ (by simp) rfl).2
      clear hdep
      have hK' := hK w' (.pointer (some ⟨g, 32, none⟩)) (by simp) (hx.step (fun _ _ _ b h => h.below b) 6 (by decide) _ (Below.refl _ _) (fun h => absurd h (by decide))) (by rw [if_neg (by decide)]; exact (Below.refl _ _))
      clear hK
      rw [if_pos (by rfl)]
      go_simp
      simpa [upd, d5] using hK'
    · have d6 : t 6 = .pointer (some ⟨g, 32, none⟩) := by simpa using (hdep ⟨6, .data⟩ (by simp) rfl).2
      clear hdep
      have hsz : w.heap.size + 1 ≤ w'.heap.size := hx.lt
      have bw : Below w.heap.size w w' := hx.ax.below
      have A := list_any g 32 u Q w' (fun ww hb => (HBK.out.below (bw.trans (hb.mono bw.size)) HGL.out).batu) HSU.out
      have hK' : ∀ ww v, Iow (w.heap.size + 1) ww v (upTo Q 256) → Fresh w' ww v → Below w'.heap.size w' ww → K _ ww := fun ww v hv hf hb => hK ww v (by simpa using hv) (hx.step (fun _ _ _ b h => h.below b) 7 (by decide) v hb (fun _ => hf)) (by rw [if_neg (by decide)]; exact hb)
      clear hK
      rw [if_pos (by rfl)]
      go_simp
      try simp only [d6]
      refine A.mono ?_
      rintro e w9 ⟨v9, rfl, hv9, hb9⟩
      have hK2 := hK' w9 v9 (hv9.mono hsz) hv9.fresh hb9
      clear hK' A hv9 bw hb9
      go_simp
      simpa [upd, d6] using hK2
    · clear hdep
      have hK' := hK w' (.pointer (some ⟨g, 0, none⟩)) (by simp) (hx.step (fun _ _ _ b h => h.below b) 8 (by decide) _ (Below.refl _ _) (fun h => absurd h (by decide))) (by rw [if_neg (by decide)]; exact (Below.refl _ _))
      clear hK
      rw [if_pos (by rfl)]
      go_simp
      simpa [upd] using hK'
    · have d8 : t 8 = .pointer (some ⟨g, 0, none⟩) := by simpa using (hdep ⟨8, .data⟩ (by simp) rfl).2
      clear hdep
      have hK' := hK w' (.pointer (some ⟨g, 0, none⟩)) (by simp) (hx.step (fun _ _ _ b h => h.below b) 9 (by decide) _ (Below.refl _ _) (fun h => absurd h (by decide))) (by rw [if_neg (by decide)]; exact (Below.refl _ _))
      clear hK
      rw [if_pos (by rfl)]
      go_simp
      simpa [upd, d8] using hK'
    · have d9 : t 9 = .pointer (some ⟨g, 0, none⟩) := by simpa using (hdep ⟨9, .data⟩ (by simp) rfl).2
      clear hdep
      have hK' := hK w' (.pointer (some ⟨g, 64, none⟩)) (by simp) (hx.step (fun _ _ _ b h => h.below b) 10 (by decide) _ (Below.refl _ _) (fun h => absurd h (by decide))) (by rw [if_neg (by decide)]; exact (Below.refl _ _))
      clear hK
      rw [if_pos (by rfl)]
      go_simp
      simpa [upd, d9] using hK'
    · have d10 : t 10 = .pointer (some ⟨g, 64, none⟩) := by simpa using (hdep ⟨10, .data⟩ (by simp) rfl).2
      clear hdep
      have cc : w'.cell? ⟨g, 64, none⟩ = some (.int .i64 k) := (HBK.out.below hx.ax.below HGL.out).ck
      have hK' := hK w' (.int .i64 k) (by simp) (hx.step (fun _ _ _ b h => h.below b) 11 (by decide) _ (Below.refl _ _) (fun h => absurd h (by decide))) (by rw [if_neg (by decide)]; exact (Below.refl _ _))
      clear hK
      rw [if_pos (by rfl)]
      go_simp
      simpa [upd, d10] using hK'
    · clear hdep
      have hK' := hK w' (.pointer (some ⟨g, 0, none⟩)) (by simp) (hx.step (fun _ _ _ b h => h.below b) 12 (by decide) _ (Below.refl _ _) (fun h => absurd h (by decide))) (by rw [if_neg (by decide)]; exact (Below.refl _ _))
      clear hK
      rw [if_pos (by rfl)]
      go_simp
      simpa [upd] using hK'
    · have d12 : t 12 = .pointer (some ⟨g, 0, none⟩) := by simpa using (hdep ⟨12, .data⟩ (by simp) rfl).2
      clear hdep
      have hK' := hK w' (.pointer (some ⟨g, 0, none⟩)) (by simp) (hx.step (fun _ _ _ b h => h.below b) 13 (by decide) _ (Below.refl _ _) (fun h => absurd h (by decide))) (by rw [if_neg (by decide)]; exact (Below.refl _ _))
      clear hK
      rw [if_pos (by rfl)]
      go_simp
      simpa [upd, d12] using hK'
    · have d13 : t 13 = .pointer (some ⟨g, 0, none⟩) := by simpa using (hdep ⟨13, .data⟩ (by simp) rfl).2
      clear hdep
      have hK' := hK w' (.pointer (some ⟨g, 65, none⟩)) (by simp) (hx.step (fun _ _ _ b h => h.below b) 14 (by decide) _ (Below.refl _ _) (fun h => absurd h (by decide))) (by rw [if_neg (by decide)]; exact (Below.refl _ _))
      clear hK
      rw [if_pos (by rfl)]
      go_simp
      simpa [upd, d13] using hK'
    · have d14 : t 14 = .pointer (some ⟨g, 65, none⟩) := by simpa using (hdep ⟨14, .data⟩ (by simp) rfl).2
      clear hdep
      have cc : w'.cell? ⟨g, 65, none⟩ = some (.slice aT nT cT) := (HBK.out.below hx.ax.below HGL.out).cv
      have hK' := hK w' (.slice aT nT cT) (by simp) (hx.step (fun _ _ _ b h => h.below b) 15 (by decide) _ (Below.refl _ _) (fun h => absurd h (by decide))) (by rw [if_neg (by decide)]; exact (Below.refl _ _))
      clear hK
      rw [if_pos (by rfl)]
      go_simp
      simpa [upd, d14] using hK'
    · have l3 : L 3 = true := (hdep ⟨3, .data⟩ (by simp) rfl).1
      have f3 : Iow (w.heap.size + 1) w' (t 3) (upTo P 256) := by simpa using (hdep ⟨3, .data⟩ (by simp) rfl).2
      have l7 : L 7 = true := (hdep ⟨7, .data⟩ (by simp) rfl).1
      have f7 : Iow (w.heap.size + 1) w' (t 7) (upTo Q 256) := by simpa using (hdep ⟨7, .data⟩ (by simp) rfl).2
      have d11 : t 11 = .int .i64 k := by simpa using (hdep ⟨11, .data⟩ (by simp) rfl).2
      have d15 : t 15 = .slice aT nT cT := by simpa using (hdep ⟨15, .data⟩ (by simp) rfl).2
      clear hdep
      obtain ⟨aD, nD, cD, d3⟩ := f3.form
      obtain ⟨aU, nU, cU, d7⟩ := f7.form
      have hap := hx.ax.ap 3 (by decide) 7 (by decide) (by decide) l3 l7
      rw [d3] at f3 hap
      rw [d7] at f7 hap
      have hK' := hK w' (.agg #[.slice aD nD cD, .slice aU nU cU, .int .i64 k, .slice aT nT cT]) (by simpa using ⟨_, rfl, aD, nD, cD, aU, nU, cU, rfl, f3, f7, hap⟩) (hx.step (fun _ _ _ b h => h.below b) 16 (by decide) _ (Below.refl _ _) (fun h => absurd h (by decide))) (by rw [if_neg (by decide)]; exact (Below.refl _ _))
      clear hK f3 f7 hap
      rw [if_pos (by rfl)]
      go_simp
      simpa [upd, d3, d7, d11, d15] using hK'
    · have f16 : StBd (w.heap.size + 1) k aT nT cT (upTo P 256) (upTo Q 256) w' (t 16) := by simpa using (hdep ⟨16, .data⟩ (by simp) rfl).2
      clear hdep
      obtain ⟨cs, e9, aD, nD, cD, aU, nU, cU, rfl, f3, f7, hap⟩ := f16
      have hrs := hx.pre hLi
      have hK' : ∀ ww, Wr w.heap.size w' ww → ww.heap[w.heap.size]? = some (.cells #[.slice aD nD cD, .slice aU nU cU, .int .i64 k, .slice aT nT cT] 38 (0, 0)) → K _ ww := fun ww hw hr => hK ww undef (by simp [updK]) (hx.put (Nat.le_refl _) (by decide) _ hw hr ⟨aD, nD, cD, aU, nU, cU, rfl, f3.wr hw (by omega), f7.wr hw (by omega), hap⟩) (by rw [if_pos rfl]; exact hw)
      clear hK f3 f7 hap
      rw [if_pos (by rfl)]
      refine wp_store_row 38 (.tmp 2) (.tmp 19) rfl w.heap.size _ rfl e9 38 _ hrs HSZ.out rfl (by simp [Value.oneCell']) ?_
      have hK2 := hK' _ (Wr.setRow _ _ _) (setRow_heap _ _ _ _ _ _ hrs)
      clear hK'
      simpa [upd, Act.put] using hK2
  case hdone =>
    intro L t w' hx hg
    have l17 : L 17 = true := by simpa using hg 17 (by decide)
    clear hg
    obtain ⟨cs, hr, aD, nD, cD, aU, nU, cU, rfl, h1, h2, h3⟩ := hx.fin l17
    have HR9 : Hid (w'.heap[w.heap.size]? = some (.cells #[.slice aD nD cD, .slice aU nU cU, .int .i64 k, .slice aT nT cT] 38 (0, 0))) := hr
    have HF : Hid (Iow w.heap.size w' (.slice aD nD cD) (upTo P 256) ∧ Iow w.heap.size w' (.slice aU nU cU) (upTo Q 256) ∧ ApV (.slice aD nD cD) (.slice aU nU cU) ∧ Below w.heap.size w w') := ⟨h1.mono (by omega), h2.mono (by omega), h3, hx.ax.below⟩
    clear hx hr h1 h2 h3
    go_wp2_with fail
    exact bodyPost_ret (v := .agg #[.slice aD nD cD, .slice aU nU cU, .int .i64 k, .slice aT nT cT]) (results_cell_row rfl _ _ w.heap.size 38 _ (0, 0) _ rfl HR9.out Try.underlying38 rfl HSZ.out) rfl ⟨aD, nD, cD, aU, nU, cU, rfl, HF.out.1, HF.out.2.1, HF.out.2.2.1, HF.out.2.2.2⟩
end Go.Proofs.Ythghkfncpdnpoad
