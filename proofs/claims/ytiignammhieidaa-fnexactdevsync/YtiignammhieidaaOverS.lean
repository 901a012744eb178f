/-
  Own work: a disk with the first bytes of a sector replaced, as the model makes it.
-/
import Derived.Test.YtiignammhieidaaOwnB
import Derived.Test.YtiignammhieidaaDevTo
namespace Go.Proofs.Ytiignammhieidaa
open Go.ChangeShapes Go.WideShapes Go.ChangeAt Go.RowKit
set_option linter.unusedVariables false

def overL (zs : List Int) (s : Nat) (z : List Int) : List Int := zs.take (s * 64) ++ (z ++ zs.drop (s * 64 + z.length))
theorem overL_len (zs : List Int) (s : Nat) (z : List Int) (h : s * 64 + z.length ≤ zs.length) : (overL zs s z).length = zs.length := by simp [overL]; omega
theorem overL_nil (zs : List Int) (s : Nat) : overL zs s [] = zs := by simp [overL]

set_option maxHeartbeats 1000000 in
theorem overS_any (b off n cap : Nat) (s : Nat) (b' off' m cap' : Nat) (zs z : List Int) (w : World) (hn : zs.length = n) (hm : z.length = m) (hn2 : n ≤ 1048576) (hcap : n ≤ cap) (hs : s * 64 + m ≤ n) (hA : At .u8 w (some ⟨b, off, none⟩) zs) (hz : At .u8 w (some ⟨b', off', none⟩) z) :
    Calls Try.prog 35 #[.slice (some ⟨b, off, none⟩) n cap, .int .i64 s, .slice (some ⟨b', off', none⟩) m cap'] w fun e w' => ∃ v, e = .returned v ∧ Own w' w.heap.size v (overL zs s z) ∧ Below w.heap.size w w' := by
  have HA : Hid _ := hA
  have HZ : Hid _ := hz
  have HN : Hid _ := hn
  have HM : Hid _ := hm
  clear hA hz hn hm
  have t1 : (s : Int) * 64 ≤ cap := by omega
  go_enter Try.func35, Try.ntmps35
  have hL1 : (zs.take (s * 64)).length = s * 64 := by have := HN.out; simp; omega
  have hN1 : ∀ j, j < s * 64 → (w.alloc (.cells #[] 5)).cell? ((⟨b, off, none⟩ : Addr).add j) = some (.int .u8 ((zs.take (s * 64)).getD j 0)) := by
    intro j hj
    have hn := HN.out
    obtain ⟨b1, o1, e1, hb1, hc1⟩ := At.get HA.out (by omega)
    cases e1
    rw [Addr.add_lit, ((Below.refl w.heap.size w).alloc (Nat.le_refl _) _).cell (p := ⟨b, off + j, none⟩) hb1, hc1 j (by omega)]
    simp [List.getD, hj]
  have HL1 : Hid _ := hL1
  have HN1 : Hid _ := hN1
  clear hL1 hN1
  go_wp2_with (at_builtin; refine wpList_app _ rfl _ _ rfl w.heap.size _ _ rfl (Own.empty w w.heap.size (Nat.le_refl _)) ⟨b, off, none⟩ (s * 64) _ (zs.take (s * 64)) rfl HL1.out HN1.out ?c2 ?c3 ?_)
  (try (case c2 => first | omega | (simp; omega)))
  (try (case c3 => first | omega | (simp; try omega)))
  intro v1 w1 ho1 hb1 _
  have hB1 : Below w.heap.size w w1 := ((Below.refl _ _).alloc (Nat.le_refl _) _).trans hb1
  have ho1' : Own w1 w.heap.size v1 (zs.take (s * 64)) := by simpa using ho1
  have hs1 := hB1.size
  have HO1 : Hid _ := ho1'
  have HB1 : Hid _ := hB1
  have hN2 : ∀ j, j < m → w1.cell? ((⟨b', off', none⟩ : Addr).add j) = some (.int .u8 (z.getD j 0)) := by
    intro j hj
    have hm := HM.out
    obtain ⟨b2, o2, e2, hb2, hc2⟩ := At.get HZ.out (by omega)
    cases e2
    rw [Addr.add_lit, hB1.cell (p := ⟨b', off' + j, none⟩) hb2]
    exact hc2 j (by omega)
  have HN2 : Hid _ := hN2
  clear hN2 ho1 ho1' hb1 hB1
  have hll : (zs.take (s * 64)).length + m ≤ 1099511627776 := by have := HL1.out; omega
  go_wp2_with (at_builtin; refine wpList_app _ rfl _ _ rfl w.heap.size _ _ rfl HO1.out ⟨b', off', none⟩ m cap' z rfl HM.out HN2.out ?d2 ?d3 ?_)
  (try (case d2 => first | omega | (simp; omega)))
  (try (case d3 => first | omega | (simp; try omega)))
  intro v2 w2 ho2 hb2 _
  have hB2 : Below w.heap.size w w2 := HB1.out.trans hb2
  have hs2 := hB2.size
  have hl2 : (zs.take (s * 64) ++ z).length = s * 64 + m := by have := HN.out; have := HM.out; simp; omega
  have HO2 : Hid _ := ho2
  have HB2 : Hid _ := hB2
  have HL2 : Hid _ := hl2
  have hfin : ∀ v3 w3, Own w3 w.heap.size v3 (zs.take (s * 64) ++ (z ++ zs.drop (s * 64 + m))) → Own w3 w.heap.size v3 (overL zs s z) := fun v3 w3 h => by
    have e : overL zs s z = zs.take (s * 64) ++ (z ++ zs.drop (s * 64 + m)) := by unfold overL; rw [HM.out]
    rw [e]; exact h
  have HFIN : Hid _ := hfin
  have hL3 : (zs.drop (s * 64 + m)).length = n - (s * 64 + m) := by have := HN.out; simp; omega
  have HL3 : Hid _ := hL3
  have t2 : (s : Int) * 64 + m ≤ n := by omega
  have t3 : (n : Int) ≤ cap := by omega
  clear ho2 hb2 hB2 hl2 hfin hL3 HN2 HO1 HB1 hll
  by_cases hcl : cap = s * 64 + m
  · have hn0 : n - (s * 64 + m) = 0 := by omega
    have hN3 : ∀ j, j < n - (s * 64 + m) → w2.cell? ((⟨b, off, none⟩ : Addr).add j) = some (.int .u8 ((zs.drop (s * 64 + m)).getD j 0)) := fun j hj => by omega
    have HN3 : Hid _ := hN3
    have HN0 : Hid _ := hn0
    clear hN3 hn0
    go_wp2_with (at_builtin; refine wpList_app _ rfl _ _ rfl w.heap.size _ _ rfl HO2.out ⟨b, off, none⟩ (n - (s * 64 + m)) _ (zs.drop (s * 64 + m)) rfl HL3.out HN3.out ?e2 ?e3 ?_)
    (try (case e2 => have := HL2.out; first | omega | (simp; omega)))
    (try (case e3 => first | omega | (simp; try omega)))
    intro v3 w3 ho3 hb3 _
    have HO3 : Hid _ := HFIN.out v3 w3 ho3
    have HB3 : Hid _ := HB2.out.trans hb3
    clear ho3 hb3
    go_wp2
    go_ret
    exact ⟨_, rfl, HO3.out, HB3.out⟩
  · have hN3 : ∀ j, j < n - (s * 64 + m) → w2.cell? ((⟨b, off + (s * 64 + m), none⟩ : Addr).add j) = some (.int .u8 ((zs.drop (s * 64 + m)).getD j 0)) := fun j hj => by
      have hn := HN.out
      obtain ⟨b1, o1, e1, hb1, hc1⟩ := At.get HA.out (by omega)
      cases e1
      rw [Addr.add_lit, Nat.add_assoc, HB2.out.cell (p := ⟨b, off + (s * 64 + m + j), none⟩) hb1, hc1 (s * 64 + m + j) (by omega)]
      simp [List.getD]
    have HN3 : Hid _ := hN3
    clear hN3
    go_wp2_with (at_builtin; refine wpList_app _ rfl _ _ rfl w.heap.size _ _ rfl HO2.out ⟨b, off + (s * 64 + m), none⟩ (n - (s * 64 + m)) _ (zs.drop (s * 64 + m)) rfl HL3.out HN3.out ?e2 ?e3 ?_)
    (try (case e2 => have := HL2.out; first | omega | (simp; omega)))
    (try (case e3 => first | omega | (simp; try omega)))
    intro v3 w3 ho3 hb3 _
    have HO3 : Hid _ := HFIN.out v3 w3 ho3
    have HB3 : Hid _ := HB2.out.trans hb3
    clear ho3 hb3
    go_wp2
    go_ret
    exact ⟨_, rfl, HO3.out, HB3.out⟩
end Go.Proofs.Ytiignammhieidaa
