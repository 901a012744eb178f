/-
  Own work: DevRead of the program.
-/
import Derived.Test.YthghkfncpdnpoacDevRd
import Derived.Test.YthghkfncpdnpoacSec
namespace Go.Proofs.Ythghkfncpdnpoac
open Go.ChangeShapes Go.WideShapes Go.ChangeAt Go.RowKit
set_option linter.unusedVariables false

def secV (z : List Int) : Value := .agg (z.map (Value.int .u8)).toArray

theorem At.drop {w : World} {b off : Nat} {zs : List Int} (h : At .u8 w (some ⟨b, off, none⟩) zs) (k : Nat) : At .u8 w (some ⟨b, off + k, none⟩) (zs.drop k) := by
  rcases h with h | ⟨b', off', e, hl, hc⟩
  · left; simp [h]
  · cases e
    exact .inr ⟨b, off + k, rfl, hl, fun i hi => by
      rw [Nat.add_assoc, hc (k + i) (by simp at hi; omega)]; simp [List.getD]⟩

set_option maxHeartbeats 400000 in
theorem dur_any (g : Nat) (a x : Option Addr) (L c m cx : Nat) (f : Int) (s : Nat) (d : Bool) (zs : List Int) (w : World) (h : w.heap[g]? = some (.cells #[.slice a L c, .slice x m cx, .int .i64 f, .bool d] 41 (0, 0))) (hL : L ≤ 1048576) (hc : L ≤ c) (hl : zs.length = L) (hs : s * 64 + 64 ≤ L) (hA : At .u8 w a zs) :
    Calls Try.prog 104 #[.pointer (some ⟨g, 0, none⟩), .int .i64 s] w fun e w' => e = .returned (secV ((zs.drop (s * 64)).take 64)) ∧ Below w.heap.size w w' := by
  have c0 := cell_of_row w g 0 _ _ _ h
  simp at c0
  have hg : g < w.heap.size := (Array.getElem?_eq_some_iff.1 h).1
  clear h
  obtain ⟨b, off, rfl, hbl, _⟩ := hA.get (by omega)
  have HA : Hid _ := hA.drop (s * 64)
  clear hA
  have t1 : (s : Int) * 64 ≤ L := by omega
  have t2 : ¬ (c = s * 64) := by omega
  go_enter Try.func104, Try.ntmps104
  go_wp2_with fail
  have hb1 := (Below.refl w.heap.size w).alloc (Nat.le_refl _) (.cells (List.replicate 64 (Value.int .u8 0)).toArray 64)
  have hz : ((zs.drop (s * 64)).take 64).length = 64 := by simp; omega
  have HZ : Hid _ := hz
  have HN : Hid (Row (w.alloc (.cells (List.replicate 64 (Value.int .u8 0)).toArray 64)) w.heap.size 64 (List.replicate 64 0)) := heap_alloc_new w _
  refine (sectorOf_any _ (L - s * 64) _ (zs.drop (s * 64)) _ (by simp; omega) (by omega) (At.below HA.out hb1)).mono ?_
  rintro e w2 ⟨rfl, hb2⟩
  have hr : Row w2 w.heap.size 64 (List.replicate 64 0) := by unfold Row; rw [hb2.block _ (by simp)]; exact HN.out
  have HR : Hid _ := hr
  have HB : Hid (Below w.heap.size w w2) := hb1.trans (hb2.mono (by simp))
  clear hb1 hb2 hr HN hz HA
  generalize hzz : (zs.drop (s * 64)).take 64 = z at *
  have HZZ : Hid _ := hzz
  clear hzz
  have hs1 : (Try.prog.info? 64).map (·.size) = some ((z.map (Value.int .u8)).toArray).size := by rw [Try.sizeSec]; simp [HZ.out]
  have HS1 : Hid _ := hs1
  clear hs1
  go_wp2_with (refine wpList_store_row rfl 64 (.tmp 4) (.tmp 12) rfl w.heap.size ((z.map (Value.int .u8)).toArray) rfl rfl 64 _ HR.out HS1.out (by simp [HZ.out]) (all_oneCell_toArray (ints_oneCell _ _)) ?_)
  refine bodyPost_ret (v := .agg (z.map (Value.int .u8)).toArray) (results_cell_row rfl _ _ w.heap.size 64 _ (0, 0) _ rfl (setRow_heap _ _ _ _ _ _ HR.out) Try.underlying64 rfl HS1.out) rfl ⟨by rw [HZZ.out]; rfl, ?_⟩
  exact HB.out.trans ((Wr.setRow _ _ _).below (Nat.le_refl _))

theorem wp_world {P : Program} {c : Code} {Q : Exit → Act → World → Prop} {a : Act} {w w' : World} (h : w' = w) (k : Code.wp P c Q a w') : Code.wp P c Q a w := h ▸ k

set_option maxHeartbeats 1000000 in
theorem read_any (g : Nat) (a x : Option Addr) (L c m cx : Nat) (f : Int) (s : Nat) (d : Bool) (zs : List Int) (ps : List PD) (w : World) (h : w.heap[g]? = some (.cells #[.slice a L c, .slice x m cx, .int .i64 f, .bool d] 41 (0, 0))) (hL : L ≤ 1048576) (hc : L ≤ c) (hl : zs.length = L) (hm : ps.length = m) (hm2 : m ≤ 1048576) (hs : s * 64 + 64 ≤ L) (hA : At .u8 w a zs) (hP : PAt w x ps) (hok : ∀ i, i < m → (ps.getD i (0, [])).2.length = 64) :
    Calls Try.prog 61 #[.pointer (some ⟨g, 0, none⟩), .int .i64 s] w fun e w' => e = .returned (secV (rdV zs ps s)) ∧ Below w.heap.size w w' := by
  have c1 := cell_of_row w g 1 _ _ _ h
  simp at c1
  have hg : g < w.heap.size := (Array.getElem?_eq_some_iff.1 h).1
  have hrv : rdV zs ps s = (findL ps s m).getD ((zs.drop (s * 64)).take 64) := by unfold rdV; rw [hm]; simp
  have HRV : Hid _ := hrv
  clear hrv
  have HH : Hid _ := h
  clear h
  go_enter Try.func61, Try.ntmps61
  go_wp2
  have hb1 := (Below.refl w.heap.size w).alloc (Nat.le_refl _) (.cells (List.replicate 64 (Value.int .u8 0)).toArray 64)
  have hN : Row (w.alloc (.cells (List.replicate 64 (Value.int .u8 0)).toArray 64)) w.heap.size 64 (List.replicate 64 0) := heap_alloc_new w _
  obtain ⟨w1, hw1⟩ : ∃ w1, w.alloc (.cells (List.replicate 64 (Value.int .u8 0)).toArray 64) = w1 := ⟨_, rfl⟩
  rw [hw1] at hb1 hN
  refine wp_world (hw1.symm.trans rfl) ?_
  have hz1 : w.heap.size < w1.heap.size := hN.lt
  have k1 : w1.cell? ⟨g, 1, none⟩ = some (.slice x m cx) := by rw [hb1.cell (p := ⟨g, 1, none⟩) hg]; exact c1
  have HA1 : Hid _ := hA.below hb1
  have HP1 : Hid _ := hP.below hb1
  have HB1 : Hid _ := hb1
  have HN1 : Hid _ := hN
  have HH1 : Hid (w1.heap[g]? = some (.cells #[.slice a L c, .slice x m cx, .int .i64 f, .bool d] 41 (0, 0))) := by unfold Hid; rw [hb1.block g hg]; exact HH.out
  have hg1 : g < w1.heap.size := by omega
  clear hw1 hA hP hb1 hN c1 HH
  have hend : ∀ (z : List Int) (w2 : World), z.length = 64 → Below w1.heap.size w1 w2 → Row w2 w.heap.size 64 (List.replicate 64 0) ∧ Below w.heap.size w w2 := fun z w2 hz hb =>
    ⟨by unfold Row; rw [hb.block _ hz1]; exact HN1.out, HB1.out.trans (hb.mono (by omega))⟩
  have HEND : Hid _ := hend
  clear hend HN1 HB1
  go_loop [5] (fun i => ∃ k : Nat, k ≤ m ∧ i = .int .i64 ((k : Int) - 1) ∧ findL ps s m = findL ps s k) (fun i => (intOf i + 1).toNat)
  case atStart => exact ⟨m, Nat.le_refl _, rfl, rfl⟩
  case round =>
    obtain ⟨k, hk, rfl, hf⟩ := hrel
    cases k with
    | zero =>
      have hres : rdV zs ps s = (zs.drop (s * 64)).take 64 := by rw [HRV.out, hf]; simp [findL]
      have HF : Hid _ := hres
      clear hf hres
      go_wp2_with fail
      refine (dur_any g a x L c m cx f s d zs w1 HH1.out hL hc hl hs HA1.out).mono ?_
      rintro e w2 ⟨rfl, hb2⟩
      have hz : ((zs.drop (s * 64)).take 64).length = 64 := by simp; omega
      obtain ⟨hr, hB⟩ := HEND.out _ w2 hz hb2
      have HZ : Hid _ := hz
      have HR : Hid _ := hr
      have HB : Hid _ := hB
      clear hz hr hB hb2
      have e0 := HF.out
      generalize (zs.drop (s * 64)).take 64 = z at *
      have HE : Hid _ := e0
      have hs1 : (Try.prog.info? 64).map (·.size) = some ((z.map (Value.int .u8)).toArray).size := by rw [Try.sizeSec]; simp [HZ.out]
      have HS1 : Hid _ := hs1
      clear hs1 e0 HF
      go_wp2_with (refine wpList_store_row rfl 64 (.tmp 4) (.tmp 37) rfl w.heap.size ((z.map (Value.int .u8)).toArray) rfl rfl 64 _ HR.out HS1.out (by simp [HZ.out]) (all_oneCell_toArray (ints_oneCell _ _)) ?_)
      refine bodyPost_ret (v := .agg (z.map (Value.int .u8)).toArray) (results_cell_row rfl _ _ w.heap.size 64 _ (0, 0) _ rfl (setRow_heap _ _ _ _ _ _ HR.out) Try.underlying64 rfl HS1.out) rfl ⟨by rw [HE.out]; rfl, ?_⟩
      exact HB.out.trans ((Wr.setRow _ _ _).below (Nat.le_refl _))
    | succ k =>
      obtain ⟨b, off, rfl, hbl, hc⟩ := PAt.get HP1.out (by omega)
      obtain ⟨y, cy, g1, g2, g3⟩ := hc k (by omega)
      have hlz := hok k (by omega)
      have hfk : findL ps s (k + 1) = if (ps.getD k (0, [])).1 = s then some (ps.getD k (0, [])).2 else findL ps s k := rfl
      rw [← hf] at hfk
      have ek : ((k + 1 : Nat) : Int) - 1 = k := by omega
      rw [ek]
      generalize (ps.getD k (0, [])).1 = t at *
      generalize (ps.getD k (0, [])).2 = z at *
      generalize hzl : z.length = zl at *
      have HF : Hid _ := hfk
      have HG3 : Hid _ := g3
      have HLZ : Hid _ := hzl
      have HL64 : Hid _ := hlz
      clear hf hfk g3 hlz hc hzl
      by_cases ht : t = (s : Int)
      · subst ht
        have e1 : ((s : Int) == (s : Int)) = true := by simp
        go_wp2_with fail
        refine (sectorOf_any y zl cy z w1 HLZ.out (by have := HL64.out; omega) HG3.out).mono ?_
        rintro e w2 ⟨rfl, hb2⟩
        have hz : z.length = 64 := HLZ.out.trans HL64.out
        have htk : z.take 64 = z := List.take_of_length_le (by omega)
        rw [htk]
        obtain ⟨hr, hB⟩ := HEND.out _ w2 hz hb2
        have HZ : Hid _ := hz
        have HR : Hid _ := hr
        have HB : Hid _ := hB
        clear hz hr hB hb2 htk
        have e0 : rdV zs ps s = z := by rw [HRV.out, HF.out]; simp
        have HE : Hid _ := e0
        have hs1 : (Try.prog.info? 64).map (·.size) = some ((z.map (Value.int .u8)).toArray).size := by rw [Try.sizeSec]; simp [HZ.out]
        have HS1 : Hid _ := hs1
        clear hs1 e0 HF
        go_wp2_with (refine wpList_store_row rfl 64 (.tmp 4) (.tmp 34) rfl w.heap.size ((z.map (Value.int .u8)).toArray) rfl rfl 64 _ HR.out HS1.out (by simp [HZ.out]) (all_oneCell_toArray (ints_oneCell _ _)) ?_)
        refine bodyPost_ret (v := .agg (z.map (Value.int .u8)).toArray) (results_cell_row rfl _ _ w.heap.size 64 _ (0, 0) _ rfl (setRow_heap _ _ _ _ _ _ HR.out) Try.underlying64 rfl HS1.out) rfl ⟨by rw [HE.out]; rfl, ?_⟩
        exact HB.out.trans ((Wr.setRow _ _ _).below (Nat.le_refl _))
      · have e1 : (t == (s : Int)) = false := by simpa using ht
        have hfk := HF.out
        rw [if_neg ht] at hfk
        have HF2 : Hid _ := hfk
        clear hfk HF
        go_wp2
        go_round
        case rel => exact ⟨k, by omega, rfl, HF2.out⟩
        case measure => simp [intOf]
end Go.Proofs.Ythghkfncpdnpoac
