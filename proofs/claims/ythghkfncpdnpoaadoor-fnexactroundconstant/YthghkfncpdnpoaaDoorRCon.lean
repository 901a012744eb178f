/-
  Own work: the round constants.
-/
import Derived.Test.YthghkfncpdnpoaaDoorSRt
namespace Go.Proofs.YthghkfncpdnpoaaDoor
open Go.ChangeShapes Go.WideShapes Go.ChangeAt Go.RowKit
set_option linter.unusedVariables false

def rts : List Nat := [23241441160490167842, 26604808713878332877, 31543488660544240431, 35287351959220771772, 41025191555757552952, 43374469216020582425, 47431773444313272219, 49223322299838333208, 52460086356995146306, 56674242196778545086, 57948244932766773900, 61468643694135456994, 63608380943893236079, 64626287408284341937, 66571091106846937653, 69291241975837173396, 71813108563482594002, 72615556083564357091, 74922338351982630325, 76384605279477341285, 77095200552867529333, 79152035218479047811, 80466001307761769428, 82360010132597855157, 84757271453788200875, 85906662539289440784, 86470001012957192511, 87575168524888248036, 88117443448470540226, 89182409882623190821, 92723033081372705391, 93686458245878541936, 95095488024300105724, 95556006044611561766, 97794660939065469677, 98230277650290947039, 99514478923103560670, 100766364611844223656, 101583977345534766822, 102786266195516601659, 103961068102722061156, 104346826991781163009, 106234157551817627537, 106603670640207904304, 107335108066752287256, 107697117917222381840, 109819772810290077738, 111863398698143437240, 112528278492720320712, 112857792170093030227, 113511107980111571865, 114477206417490790568, 114795642568024087139, 116361942610802215627, 117281838038729876339, 118187525164200278179, 119079540232616391420, 119373928427484032864, 120248493880617511794, 120824543361758411244, 121110519679094562344, 122520547622920568297, 124441674862916172053, 124979807718728684331, 125247145020423037340, 125778422408467759623, 127603441353585912606, 128369846764518166904, 129627222056361226170, 129875788766833580198, 130370087684295691694, 131104582549941012251, 132071287192121802116, 132787134709014930579, 133495346155087314620, 133963344184962190668, 134659270149180113590, 135576127461610847786, 136029942151059536620, 136928597060811708439, 26087635650665564424, 31950697969885030203, 41248173712355948587, 48805497317890012913, 61180928696206656209, 66510681623121259551, 76057874264641092971, 80407493254657745273]
def tab : List Nat := rts.map (· % 18446744073709551616)
theorem rts3 : ∀ t < 80, rts.getD t 0 ^ 3 ≤ prs0.getD (t + 1) 0 * 2 ^ (64 * 3) ∧ prs0.getD (t + 1) 0 * 2 ^ (64 * 3) < (rts.getD t 0 + 1) ^ 3 := by decide +kernel
theorem rts2 : ∀ t < 8, rts.getD (80 + t) 0 ^ 2 ≤ prs0.getD (t + 1) 0 * 2 ^ (64 * 2) ∧ prs0.getD (t + 1) 0 * 2 ^ (64 * 2) < (rts.getD (80 + t) 0 + 1) ^ 2 := by decide +kernel
theorem prs_le : ∀ t < 80, prs0.getD (t + 1) 0 ≤ 409 := by decide +kernel
theorem prs_le8 : ∀ t < 8, prs0.getD (t + 1) 0 < 64 := by decide +kernel
theorem tab_get (t : Nat) : tab.getD t 0 = rts.getD t 0 % 18446744073709551616 := by
  simp only [tab, List.getD_eq_getElem?_getD, List.getElem?_map]
  cases rts[t]? <;> simp
theorem root_same {X R T e : Nat} (h1 : X ^ e ≤ T) (h2 : T < (X + 1) ^ e) (h3 : R ^ e ≤ T) (h4 : T < (R + 1) ^ e) : X = R := by
  rcases Nat.lt_trichotomy X R with h | h | h
  · have := Nat.pow_le_pow_left (show X + 1 ≤ R from h) e; omega
  · exact h
  · have := Nat.pow_le_pow_left (show R + 1 ≤ X from h) e; omega

/-- The constant number t. -/
def rcT (t : Int) : Int := if 0 ≤ t ∧ t < 88 then (tab.getD t.toNat 0 : Nat) else 0

theorem get3 (n : Nat) (hn : n < 80) : ∃ p R : Nat, (∀ w, Calls Tryd.prog 7 #[.int .i64 n] w fun e w' => e = .returned (.int .u64 p) ∧ w' = w) ∧ p ≤ 409 ∧ R ^ 3 ≤ p * 2 ^ (64 * 3) ∧ p * 2 ^ (64 * 3) < (R + 1) ^ 3 ∧ rcT (n : Int) = (R : Int) % 18446744073709551616 := by
  refine ⟨prs0.getD (n + 1) 0, rts.getD n 0, fun w => prime_any n w hn, prs_le n hn, (rts3 n hn).1, (rts3 n hn).2, ?_⟩
  unfold rcT; rw [if_pos (by omega), Int.toNat_natCast, tab_get]; exact Int.natCast_emod _ _
theorem get2 (n : Nat) (hn : n < 8) : ∃ p R : Nat, (∀ w, Calls Tryd.prog 7 #[.int .i64 n] w fun e w' => e = .returned (.int .u64 p) ∧ w' = w) ∧ p ≤ 409 ∧ p < 64 ∧ R ^ 2 ≤ p * 2 ^ (64 * 2) ∧ p * 2 ^ (64 * 2) < (R + 1) ^ 2 ∧ rcT (80 + (n : Int)) = (R : Int) % 18446744073709551616 := by
  refine ⟨prs0.getD (n + 1) 0, rts.getD (80 + n) 0, fun w => prime_any n w (by omega), prs_le n (by omega), prs_le8 n hn, (rts2 n hn).1, (rts2 n hn).2, ?_⟩
  unfold rcT; rw [if_pos (by omega), show (80 + (n : Int)).toNat = 80 + n by omega, tab_get]; exact Int.natCast_emod _ _

set_option maxHeartbeats 400000 in
theorem rcS_any (t : Int) (w : World) (h0 : -9223372036854775808 ≤ t) (h1 : t ≤ 9223372036854775807) :
    Calls Tryd.prog 4 #[.int .i64 t] w fun e w' => e = .returned (.int .u64 (rcT t)) ∧ Below w.heap.size w w' := by
  by_cases ha : 0 ≤ t
  · by_cases hb : t < 80
    · obtain ⟨n, rfl⟩ := Int.eq_ofNat_of_zero_le ha
      obtain ⟨p, R, hp, hp1, hp2, hp3, e⟩ := get3 n (by omega)
      generalize rcT (n : Int) = r at *
      have HE : Hid (r = (R : Int) % 18446744073709551616) := e
      clear e
      go_enter Tryd.func4, Tryd.ntmps4
      go_wp2_with fail
      refine (hp _).mono ?_
      rintro e w1 ⟨rfl, rfl⟩
      go_wp2_with fail
      have A := root_any p 3 w1 hp1 (.inr rfl)
      refine A.mono ?_
      rintro e w2 ⟨X, rfl, x1, x2, B⟩
      rw [root_same x1 x2 hp2 hp3, ← HE.out]
      have HB : Hid (Below w1.heap.size w1 w2) := B
      clear B x1 x2 A hp hp2 hp3 HE
      go_wp2
      go_ret
      exact ⟨rfl, HB.out⟩
    · by_cases hc : t < 88
      · obtain ⟨n, hn⟩ : ∃ n : Nat, t = 80 + (n : Int) := ⟨(t - 80).toNat, by omega⟩
        obtain ⟨p, R, hp, hp1, hp4, hp2, hp3, e⟩ := get2 n (by omega)
        rw [← hn] at e
        generalize rcT t = r at *
        have HE : Hid (r = (R : Int) % 18446744073709551616) := e
        have HSUB : Hid (t - 80 = (n : Int)) := by show _ = _; omega
        have hb' : decide (t < 80) = false := by simpa using hb
        have ha' : decide (0 ≤ t) = true := by simpa using ha
        have hg : 80 ≤ t := by omega
        clear e hn
        go_enter Tryd.func4, Tryd.ntmps4
        go_wp2_with fail
        rw [HSUB.out]
        refine (hp _).mono ?_
        rintro e w1 ⟨rfl, rfl⟩
        go_wp2_with fail
        have A := root_any p 2 w1 hp1 (.inl ⟨rfl, hp4⟩)
        refine A.mono ?_
        rintro e w2 ⟨X, rfl, x1, x2, B⟩
        rw [root_same x1 x2 hp2 hp3, ← HE.out]
        have HB : Hid (Below w1.heap.size w1 w2) := B
        clear B x1 x2 A hp hp2 hp3 HE
        go_wp2
        go_ret
        exact ⟨rfl, HB.out⟩
      · have e : rcT t = 0 := by unfold rcT; rw [if_neg (by omega)]
        rw [e]
        go_enter Tryd.func4, Tryd.ntmps4
        go_wp2
        go_ret
        exact ⟨rfl, Below.refl _ _⟩
  · have e : rcT t = 0 := by unfold rcT; rw [if_neg (by omega)]
    rw [e]
    have ha' : decide (0 ≤ t) = false := by simpa using ha
    go_enter Tryd.func4, Tryd.ntmps4
    go_wp2
    go_ret
    exact ⟨rfl, Below.refl _ _⟩

/-- The table stands in its variable. -/
def TabIn (w : World) : Prop := ∀ i, i < 88 → w.cell? ⟨0, i, none⟩ = some (.int .u64 (tab.getD i 0 : Nat))

set_option maxHeartbeats 400000 in
theorem rcI_any (t : Int) (w : World) (ht : TabIn w) :
    Calls Tryd.prog 5 #[.int .i64 t] w fun e w' => e = .returned (.int .u64 (rcT t)) ∧ w' = w := by
  by_cases ha : t < 0
  · have e : rcT t = 0 := by unfold rcT; rw [if_neg (by omega)]
    rw [e]
    have ha' : decide (t < 0) = true := by simpa using ha
    go_enter Tryd.func5, Tryd.ntmps5
    go_wp2
    go_ret
    exact ⟨rfl, rfl⟩
  · by_cases hb : 88 ≤ t
    · have e : rcT t = 0 := by unfold rcT; rw [if_neg (by omega)]
      rw [e]
      go_enter Tryd.func5, Tryd.ntmps5
      go_wp2
      go_ret
      exact ⟨rfl, rfl⟩
    · obtain ⟨n, rfl⟩ := Int.eq_ofNat_of_zero_le (show 0 ≤ t by omega)
      have hn : n < 88 := by omega
      have c0 := ht n hn
      have e : rcT (n : Int) = (tab.getD n 0 : Nat) := by unfold rcT; rw [if_pos (by omega), Int.toNat_natCast]
      rw [e]
      generalize ((tab.getD n 0 : Nat) : Int) = r at *
      clear e ht
      go_enter Tryd.func5, Tryd.ntmps5
      go_wp2
      go_ret
      exact ⟨rfl, rfl⟩
end Go.Proofs.YthghkfncpdnpoaaDoor
