/-
  Own work: DevNew of the program and of the model; the laws' helpers at a device with an empty cache.
-/
import Derived.Test.YthghkfncpdnpoabCat
import Derived.Test.YthghkfncpdnpoabMark
import Derived.Test.YthghkfncpdnpoabBytes
import Derived.Deep.WholeRow
namespace Go.Proofs.Ythghkfncpdnpoab
open Go.ChangeShapes Go.WideShapes Go.ChangeAt Go.RowKit
set_option linter.unusedVariables false

theorem all4d (a a' : Option Addr) (l l' c c' : Nat) (f : Int) (d : Bool) : (#[Value.slice a l c, .slice a' l' c', .int .i64 f, .bool d].all (fun v => v.oneCell')) = true := by simp [Value.oneCell']
theorem Try.sizeDev : (Try.prog.info? 38).map (·.size) = some 4 := by kernel_rfl
theorem newB (w : World) (o : Obj) : Below w.heap.size w (w.alloc o) := (Below.refl _ _).alloc (Nat.le_refl _) _

/-- A slice of bytes that may be written, in a block from B on. -/
def Mine (B : Nat) (w : World) (a : Option Addr) (zs : List Int) : Prop := At .u8 w a zs ∧ Open w a zs.length ∧ ∀ ad, a = some ad → B ≤ ad.block ∧ ad.block < w.heap.size

def dnL (n : Int) : Nat := if 8 ≤ n ∧ n ≤ 256 then (n * 64).toNat else 0
def dnF (n : Int) : Int := if 8 ≤ n ∧ n ≤ 256 then -1 else 0
theorem dnL_le (n : Int) : dnL n ≤ 16384 := by unfold dnL; split <;> omega

theorem owns_mine {w : World} {B : Nat} {g n : Nat} {zs : List Int} (h : w.ownsRow B 5 1 (.slice (some ⟨g, 0, none⟩) n n) n (zs.map (Value.int .u8))) : Mine B w (some ⟨g, 0, none⟩) zs ∧ zs.length = n := by
  obtain ⟨a, c, h1, h2, h3, h4, h5⟩ := At.of_owns h
  cases h1
  refine ⟨⟨h5, ?_, ?_⟩, h2⟩
  · rcases h.2 with ⟨h', _⟩ | ⟨g', c', cur, h', hb, hh, hc, hm, hs, ht⟩
    · cases h'
    · cases h'
      refine .inr ⟨g, 0, rfl, (Array.getElem?_eq_some_iff.1 hh).1, fun i hi => ⟨?_, h.frozenAt _⟩⟩
      rw [cell_of_row _ _ _ _ _ _ hh]
      have : 0 + i < cur.size := by rw [hs]; omega
      rw [Array.getElem?_eq_getElem this]; rfl
  · intro ad e; cases e
    rcases h.2 with ⟨h', _⟩ | ⟨g', c', cur, h', hb, hh, hc, hm, hs, ht⟩
    · cases h'
    · cases h'; exact ⟨hb, (Array.getElem?_eq_some_iff.1 hh).1⟩

/-- What DevNew answers: kept behind a name. -/
def IdnPost (n : Int) (w : World) (L : Nat) (f : Int) (e : Ending) (w' : World) : Prop := ∃ a c, e = .returned (.agg #[.slice a L c, .slice none 0 0, .int .i64 f, .bool false]) ∧ Mine w.heap.size w' a (List.replicate L 0) ∧ Below w.heap.size w w'
def SdnPost (n : Int) (w : World) (L : Nat) (f : Int) (e : Ending) (w' : World) : Prop := ∃ a c, e = .returned (.agg #[.slice a L c, .slice none 0 0, .int .i64 f, .bool false]) ∧ At .u8 w' a (List.replicate L 0) ∧ Below w.heap.size w w'

set_option maxHeartbeats 1000000 in
theorem idn_any (n : Int) (w : World) (h0 : -9223372036854775808 ≤ n) (h1 : n ≤ 9223372036854775807) :
    Calls Try.prog 19 #[.int .i64 n] w (IdnPost n w (dnL n) (dnF n)) := by
  have HSD : Hid _ := Try.sizeDev
  by_cases hin : 8 ≤ n ∧ n ≤ 256
  · have eL : dnL n = (n * 64).toNat := by unfold dnL; rw [if_pos hin]
    have eF : dnF n = -1 := by unfold dnF; rw [if_pos hin]
    rw [eL, eF]
    clear eL eF
    obtain ⟨m, rfl⟩ := Int.eq_ofNat_of_zero_le (show 0 ≤ n by omega)
    have em : ((m : Int) * 64).toNat = m * 64 := by omega
    rw [em]
    clear em h0 h1
    obtain ⟨h8, h256⟩ := hin
    have t1 : ¬ (m : Int) < 8 := by omega
    have t2 : ¬ (256 : Int) < (m : Int) := by omega
    obtain ⟨i0, hi, hz0, hz1, hz2⟩ := info_parts Try.infoU8
    have HI : Hid (i0.bytes = 1) := hz2
    clear hz2
    go_enter Try.func19, Try.ntmps19
    go_wp2_with (at_make; refine wpList_make_full _ rfl _ _ 22 rfl (w.heap.size + 1) 5 i0 (.int .u8 0) 1 Try.underlying22 hi hz0 hz1 _ _ _ _ (m * 64) rfl rfl (by omega) (by omega) ?c1 ?c2 ?c3 ?_)
    case c1 => rw [HI.out]; omega
    case c2 => unfold maxLen; omega
    intro w1 hown hgrow
    have hres : w1.heap[w.heap.size]? = some (.cells #[.slice none 0 0, .slice none 0 0, .int .i64 0, .bool false] 38 (0, 0)) := by
      rw [hgrow.block w.heap.size (by simp) (by simp)]; exact heap_alloc_new w _
    have hb1 : Below w.heap.size w w1 := (newB w _).trans ((Below.refl _ _).grown hgrow (by simp) (by simp))
    have hown0 : w1.ownsRow (w.heap.size + 1) 5 1 (.slice (some ⟨w.heap.size + 1, 0, none⟩) (m * 64) (m * 64)) (m * 64) ((List.replicate (m * 64) 0).map (Value.int .u8)) := by
      have e : (madeCells #[Value.int IntKind.u8 0] (m * 64)).toList = (List.replicate (m * 64) 0).map (Value.int .u8) := by
        simp only [toList_madeCells_one, List.map_replicate]
      rw [← e]; simpa using hown
    obtain ⟨hmine, _⟩ := owns_mine hown0
    have HM : Hid (Mine w.heap.size (w1.setRow w.heap.size #[.slice (some ⟨w.heap.size + 1, 0, none⟩) (m * 64) (m * 64), .slice none 0 0, .int .i64 (-1), .bool false]) (some ⟨w.heap.size + 1, 0, none⟩) (List.replicate (m * 64) 0)) := by
      obtain ⟨m1, m2, m3⟩ := hmine
      have hw := fun (b o : Nat) (h : b ≠ w.heap.size) => World.cell?_of_block (a := ⟨b, o, none⟩) (w := w1) (setRow_other w1 w.heap.size b #[.slice (some ⟨w.heap.size + 1, 0, none⟩) (m * 64) (m * 64), .slice none 0 0, .int .i64 (-1), .bool false] h)
      have hf := fun (b o : Nat) (h : b ≠ w.heap.size) => World.frozen?_of_block (a := ⟨b, o, none⟩) (w := w1) (setRow_other w1 w.heap.size b #[.slice (some ⟨w.heap.size + 1, 0, none⟩) (m * 64) (m * 64), .slice none 0 0, .int .i64 (-1), .bool false] h)
      refine ⟨?_, ?_, fun ad e => by cases e; have := (m3 _ rfl).2; exact ⟨by show w.heap.size ≤ w.heap.size + 1; omega, by rw [size_setRow]; exact this⟩⟩
      · rcases m1 with h | ⟨b, o, h1, h2, h3⟩
        · exact .inl h
        · cases h1
          exact .inr ⟨_, _, rfl, by rw [size_setRow]; exact h2, fun i hi => by rw [hw _ _ (by omega)]; exact h3 i hi⟩
      · rcases m2 with h | ⟨b, o, h1, h2, h3⟩
        · exact .inl h
        · cases h1
          exact .inr ⟨_, _, rfl, by rw [size_setRow]; exact h2, fun i hi => by rw [hw _ _ (by omega), hf _ _ (by omega)]; exact h3 i hi⟩
    have HB : Hid _ := hb1
    have HR : Hid _ := hres
    clear hown hown0 hmine hgrow hb1 hres
    go_wp2_with (refine wpList_store_row rfl 38 (.tmp 2) (.tmp 13) rfl w.heap.size #[.slice (some ⟨w.heap.size + 1, 0, none⟩) (m * 64) (m * 64), .slice none 0 0, .int .i64 (-1), .bool false] rfl rfl 38 _ HR.out HSD.out rfl (all4d _ _ _ _ _ _ _ _) ?_)
    (try simp only [Exit.inBlock, Exit.then])
    refine bodyPost_ret (v := .agg #[.slice (some ⟨w.heap.size + 1, 0, none⟩) (m * 64) (m * 64), .slice none 0 0, .int .i64 (-1), .bool false]) (results_cell_row rfl _ _ w.heap.size 38 _ (0, 0) _ rfl (setRow_heap _ _ _ _ _ _ HR.out) Try.underlying38 rfl HSD.out) rfl ⟨_, _, rfl, HM.out, ?_⟩
    exact HB.out.trans ((Wr.setRow _ _ _).below (Nat.le_refl _))
  · have eL : dnL n = 0 := by unfold dnL; rw [if_neg hin]
    have eF : dnF n = 0 := by unfold dnF; rw [if_neg hin]
    rw [eL, eF]
    clear eL eF
    by_cases h8 : n < 8
    · have h8' : decide (n < 8) = true := by simpa using h8
      go_enter Try.func19, Try.ntmps19
      go_wp2_with (refine wpList_store_row rfl 38 (.tmp 2) (.tmp 9) rfl w.heap.size #[.slice none 0 0, .slice none 0 0, .int .i64 0, .bool false] rfl rfl 38 _ (heap_alloc_new w _) HSD.out rfl (all4d _ _ _ _ _ _ _ _) ?_)
      (try simp only [Exit.inBlock, Exit.then])
      refine bodyPost_ret (v := .agg #[.slice none 0 0, .slice none 0 0, .int .i64 0, .bool false]) (results_cell_row rfl _ _ w.heap.size 38 _ (0, 0) _ rfl (setRow_heap _ _ _ _ _ _ (heap_alloc_new w _)) Try.underlying38 rfl HSD.out) rfl ⟨none, 0, rfl, ⟨.inl rfl, .inl rfl, fun ad e => by cases e⟩, ?_⟩
      exact (newB w _).trans ((Wr.setRow _ _ _).below (Nat.le_refl _))
    · have h256 : 256 < n := by omega
      go_enter Try.func19, Try.ntmps19
      go_wp2_with (refine wpList_store_row rfl 38 (.tmp 2) (.tmp 9) rfl w.heap.size #[.slice none 0 0, .slice none 0 0, .int .i64 0, .bool false] rfl rfl 38 _ (heap_alloc_new w _) HSD.out rfl (all4d _ _ _ _ _ _ _ _) ?_)
      (try simp only [Exit.inBlock, Exit.then])
      refine bodyPost_ret (v := .agg #[.slice none 0 0, .slice none 0 0, .int .i64 0, .bool false]) (results_cell_row rfl _ _ w.heap.size 38 _ (0, 0) _ rfl (setRow_heap _ _ _ _ _ _ (heap_alloc_new w _)) Try.underlying38 rfl HSD.out) rfl ⟨none, 0, rfl, ⟨.inl rfl, .inl rfl, fun ad e => by cases e⟩, ?_⟩
      exact (newB w _).trans ((Wr.setRow _ _ _).below (Nat.le_refl _))

set_option maxHeartbeats 1000000 in
theorem sdn_any (n : Int) (w : World) (h0 : -9223372036854775808 ≤ n) (h1 : n ≤ 9223372036854775807) :
    Calls Try.prog 18 #[.int .i64 n] w (SdnPost n w (dnL n) (dnF n)) := by
  have HSD : Hid _ := Try.sizeDev
  by_cases hin : 8 ≤ n ∧ n ≤ 256
  · have eL : dnL n = (n * 64).toNat := by unfold dnL; rw [if_pos hin]
    have eF : dnF n = -1 := by unfold dnF; rw [if_pos hin]
    rw [eL, eF]
    clear eL eF h0 h1
    obtain ⟨h8, h256⟩ := hin
    have t1 : ¬ n < 8 := by omega
    have t2 : ¬ 256 < n := by omega
    go_enter Try.func18, Try.ntmps18
    go_wp2_with fail
    refine (zeros_any (n * 64) _ (by omega) (by omega)).mono ?_
    rintro e w1 ⟨v, rfl, hown, hb1⟩
    have hres : w1.heap[w.heap.size]? = some (.cells #[.slice none 0 0, .slice none 0 0, .int .i64 0, .bool false] 38 (0, 0)) := by
      rw [hb1.block w.heap.size (by simp)]; exact heap_alloc_new w _
    obtain ⟨b, o, c, rfl, hbl, hc⟩ := hown.part
    have hbb : w.heap.size < b := by
      obtain ⟨g, c', he, hBg, _⟩ := hown.base
      cases he
      have : w.heap.size + 1 ≤ b := by simpa using hBg
      omega
    have hlen : (List.replicate (n * 64).toNat (0 : Int)).length = (n * 64).toNat := by simp
    rw [hlen]
    have HC : Hid _ := hc
    have HB : Hid (Below w.heap.size w w1) := (newB w _).trans (hb1.mono (by simp))
    have HR : Hid _ := hres
    clear hown hb1 hres hc hlen
    generalize hL : (n * 64).toNat = L at *
    clear hL
    go_wp2_with (refine wpList_store_row rfl 38 (.tmp 2) (.tmp 13) rfl w.heap.size #[.slice (some ⟨b, o, none⟩) L c, .slice none 0 0, .int .i64 (-1), .bool false] rfl rfl 38 _ HR.out HSD.out rfl (all4d _ _ _ _ _ _ _ _) ?_)
    (try simp only [Exit.inBlock, Exit.then])
    refine bodyPost_ret (v := .agg #[.slice (some ⟨b, o, none⟩) L c, .slice none 0 0, .int .i64 (-1), .bool false]) (results_cell_row rfl _ _ w.heap.size 38 _ (0, 0) _ rfl (setRow_heap _ _ _ _ _ _ HR.out) Try.underlying38 rfl HSD.out) rfl ⟨_, _, rfl, .inr ⟨b, o, rfl, by rw [size_setRow]; exact hbl, fun i hi => ?_⟩, ?_⟩
    · rw [World.cell?_of_block (a := ⟨b, o + i, none⟩) (w := w1) (setRow_other w1 w.heap.size b _ (by omega))]; exact HC.out i hi
    · exact HB.out.trans ((Wr.setRow _ _ _).below (Nat.le_refl _))
  · have eL : dnL n = 0 := by unfold dnL; rw [if_neg hin]
    have eF : dnF n = 0 := by unfold dnF; rw [if_neg hin]
    rw [eL, eF]
    clear eL eF
    by_cases h8 : n < 8
    · have h8' : decide (n < 8) = true := by simpa using h8
      go_enter Try.func18, Try.ntmps18
      go_wp2_with (refine wpList_store_row rfl 38 (.tmp 2) (.tmp 9) rfl w.heap.size #[.slice none 0 0, .slice none 0 0, .int .i64 0, .bool false] rfl rfl 38 _ (heap_alloc_new w _) HSD.out rfl (all4d _ _ _ _ _ _ _ _) ?_)
      (try simp only [Exit.inBlock, Exit.then])
      refine bodyPost_ret (v := .agg #[.slice none 0 0, .slice none 0 0, .int .i64 0, .bool false]) (results_cell_row rfl _ _ w.heap.size 38 _ (0, 0) _ rfl (setRow_heap _ _ _ _ _ _ (heap_alloc_new w _)) Try.underlying38 rfl HSD.out) rfl ⟨none, 0, rfl, .inl rfl, ?_⟩
      exact (newB w _).trans ((Wr.setRow _ _ _).below (Nat.le_refl _))
    · have h256 : 256 < n := by omega
      go_enter Try.func18, Try.ntmps18
      go_wp2_with (refine wpList_store_row rfl 38 (.tmp 2) (.tmp 9) rfl w.heap.size #[.slice none 0 0, .slice none 0 0, .int .i64 0, .bool false] rfl rfl 38 _ (heap_alloc_new w _) HSD.out rfl (all4d _ _ _ _ _ _ _ _) ?_)
      (try simp only [Exit.inBlock, Exit.then])
      refine bodyPost_ret (v := .agg #[.slice none 0 0, .slice none 0 0, .int .i64 0, .bool false]) (results_cell_row rfl _ _ w.heap.size 38 _ (0, 0) _ rfl (setRow_heap _ _ _ _ _ _ (heap_alloc_new w _)) Try.underlying38 rfl HSD.out) rfl ⟨none, 0, rfl, .inl rfl, ?_⟩
      exact (newB w _).trans ((Wr.setRow _ _ _).below (Nat.le_refl _))
end Go.Proofs.Ythghkfncpdnpoab
