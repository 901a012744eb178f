/-
  Own work: the law on rests of drawn scalars: their multiples of the base point.
-/
import Derived.Test.YtdaglofgioehhaaEsc
import Derived.Test.YtdaglofgioehhaaMLwb
import Derived.Test.YtdaglofgioehhaaMIText
import Derived.Test.YtdaglofgioehhaaMIBas
import Derived.Test.YtdaglofgioehhaaSRed
import Derived.Test.YtdaglofgioehhaaMRso
import Derived.Test.YtdaglofgioehhaaMGr
import Derived.WalkKit
import Derived.ProofKit
import Derived.OpenShut
import Derived.ShutString
import Derived.ChangeOld
import Derived.Below
namespace Go.Proofs.Ytdaglofgioehhaa.lre
open Go.ChangeShapes Go.WideShapes Go.ChangeAt Go.RowKit
open Go.ChangeMaps (open_string shut_string)
set_option linter.unusedVariables false

theorem own : ownKnob Try.prog.godebug = none := by kernel_rfl
theorem laidOut : laidOutB Try.prog = true := by kernel_rfl

def IsRow (k : IntKind) (w : World) (a : Option Addr) (len cap : Nat) (zs : List Int) : Prop :=
  (a = none ∧ len = 0 ∧ cap = 0 ∧ zs = []) ∨
  ∃ x, a = some x ∧ len ≤ cap ∧ cap ≤ maxLen ∧ zs.length = cap ∧ (∀ i, i < zs.length → w.cell? (x.add i) = some (.int k (zs.getD i 0))) ∧ ∀ n ∈ zs, (Lit.int k n).wf = true

theorem IsRow.at_ {w : World} {a : Option Addr} {len cap : Nat} {z : List Int} (h : IsRow .u8 w a len cap z) : ∃ zs, zs.length = len ∧ Byte zs ∧ At .u8 w a zs := by
  rcases h with ⟨rfl, rfl, rfl, rfl⟩ | ⟨x, rfl, hl, hm, hz, hc, hw⟩
  · exact ⟨[], rfl, by simp [Byte], .inl rfl⟩
  · refine ⟨z.take len, by simp; omega, fun n hn => ?_, ?_⟩
    · have := hw n (List.mem_of_mem_take hn)
      simp [Lit.wf, IntKind.min, IntKind.max, IntKind.signed, IntKind.bits] at this
      omega
    · by_cases h0 : len = 0
      · left; simp [h0]
      · right
        obtain ⟨b, off, spot⟩ := x
        have hc0 := hc 0 (by omega)
        have hs : spot = none := by simpa [Addr.add] using World.cell?_spot hc0
        subst hs
        refine ⟨b, off, rfl, block_lt_of_cell (a := (⟨b, off, none⟩ : Addr).add 0) hc0, fun i hi => ?_⟩
        have hi' : i < len := by simp at hi; omega
        have := hc i (by omega)
        rw [Addr.add_lit] at this
        rw [this]
        simp [List.getD, hi']

theorem below_drewN {B : Nat} {a w : World} (h : Below B a w) (n : Nat) : Below B a (w.drewN n) := ⟨h.os, h.tape, h.output, h.size, h.block⟩



theorem muZ_ex {ks : List Int} (hl : ks.length = 32) (hb : Byte ks) : (muZ ks bB).length = 32 ∧ Byte (muZ ks bB) ∧ val 256 (muZ ks bB) = muV (val 256 ks) (ptQ bB) := by
  obtain ⟨r0, r1⟩ := mu_rng hl hb
  obtain ⟨rs, h1, h2, h3⟩ := digE 32 _ r0 r1
  rw [muZ_eq ⟨hl, bB_ok⟩ h1 h2 h3]
  exact ⟨h2, h1, h3⟩
/-- The rest's multiple is the number's. -/
theorem muZ_rest {zs rs : List Int} (hl : zs.length = 32) (hb : Byte zs) (rl : rs.length = 32) (rb : Byte rs) (rv : val 256 rs = val 256 zs % bigL) : muZ rs bB = muZ zs bB := by
  obtain ⟨q1, q2, q3⟩ := muZ_ex hl hb
  have h0 := val_nonneg (B := 256) (by decide) hb
  have h1 : val 256 zs < 2 ^ 256 := by
    have := val_lt (B := 256) (by decide) hb
    rw [hl] at this
    exact Int.lt_of_lt_of_le this (by decide)
  exact muZ_eq ⟨rl, bB_ok⟩ q2 q1 (by rw [q3, rv, mu_rest _ h0 h1])
theorem rest_same {zs rs : List Int} (hl : zs.length = 32) (hb : Byte zs) (rl : rs.length = 32) (rb : Byte rs) (rv : val 256 rs = val 256 zs % bigL) : decide (rs = zs) = decide (32 = 32 ∧ val 256 zs < bigL) := by
  have hL : 0 < bigL := by decide
  have h0 := val_nonneg (B := 256) (by decide) hb
  rw [decide_eq_decide]
  constructor
  · intro h
    subst h
    exact ⟨rfl, by rw [rv]; exact Int.emod_lt_of_pos _ hL⟩
  · rintro ⟨_, h⟩
    exact val_inj (B := 256) (by decide) rb hb (by omega) (by rw [rv, Int.emod_eq_of_lt h0 h])
set_option maxRecDepth 100000 in
set_option maxHeartbeats 16000000 in
theorem walk (a0 : Option Addr) (len0 cap0 : Nat) (z0 : List Int) (w : World) (w0 : IsRow .u8 w a0 len0 cap0 z0) :
    Calls Try.prog 4 #[.slice a0 len0 cap0] w fun e w' => e = .returned (.bool true) ∧ Below w.heap.size w w' := by
  by_cases hl : (1048576 : Int) < (len0 : Int)
  · go_enter Try.func4, Try.ntmps4
    go_wp2
    go_ret
    exact ⟨rfl, Below.refl _ _⟩
  · obtain ⟨cs0, hn, hz, ha⟩ := IsRow.at_ w0
    have hl' : len0 ≤ 1048576 := by omega
    clear w0
    go_enter Try.func4, Try.ntmps4
    go_wp2_with fail
    refine (drawSc_any a0 len0 cap0 cs0 _ hn hl' hz ha).mono ?_
    rintro e w1 ⟨v1, zs1, rfl, hz1, hb1, O1, B1⟩
    clear ha hz hn
    go_wp2_with fail
    go_loopw [3] (fun v wr => ∃ zs : List Int, (zs.length = 31 ∨ zs.length = 32) ∧ Byte zs ∧ Own wr w.heap.size v zs ∧ Below w.heap.size w wr) (fun v _ => match v with | .slice _ n _ => 32 - n | _ => 0)
    case atStart => exact ⟨zs1, hz1, hb1, O1, B1⟩
    case round =>
      clear hz1 hb1 O1 B1
      obtain ⟨zs, hzl, hzb, hown, hbel⟩ := hrel
      obtain ⟨gq, c, rfl, hq1, hq2, hq3⟩ := hown.base
      have hsz := hbel.size
      rcases hzl with hzl | hzl
      · rw [hzl] at hown ⊢
        go_wp2_with (at_builtin; refine wpList_app _ rfl _ _ rfl w.heap.size _ _ rfl (hown.alloc _) ⟨wr.heap.size, 0, none⟩ 1 1 [0] rfl rfl ?c1 ?c2 ?c3 ?_)
        all_goals first | (intro j hj; obtain rfl : j = 0 := by omega
                           simp [Addr.add]; done) | skip
        case c2 => omega
        case c3 => first | omega | (rw [World.size_alloc]; omega)
        intro v' w1 hown' hbel' _
        have HO := hid_ofE (And.intro hown' ((hbel.alloc (by omega) _).trans hbel'))
        clear hown hown' hbel hbel'
        go_wp2
        go_roundw
        case rel => exact ⟨zs ++ [0], .inr (by simp; omega), byte_app1 hzb (by omega), HO.out.1, HO.out.2⟩
        case measure =>
          obtain ⟨gq', c', rfl, _⟩ := HO.out.1.base
          simp; omega
      · rw [hzl] at hown ⊢
        obtain ⟨_, _, e1, _, _, hA⟩ := id hown.at2
        have HA : Hid (At .u8 wr (some ⟨gq, 0, none⟩) zs) := by rw [hzl] at e1; cases e1; exact hA
        clear hA e1
        go_wp2_with fail
        refine (ired_any _ 32 c zs _ hzl (by decide) HA.out hzb).mono ?_
        rintro e w3 ⟨v3, rs, rfl, O3, rb, rl, rv, B3⟩
        obtain ⟨g3, c3, rfl, hg3, hg3', A3⟩ := O3.at2
        rw [rl]
        have HZ3 := hid_ofE (HA.out.below B3)
        have HB3 : Hid (Below w.heap.size w w3) := hbel.trans (B3.mono hsz)
        have HR3 := hid_ofE A3
        have HRV : Hid (val 256 rs < bigL) := by show _ < _; rw [rv]; exact Int.emod_lt_of_pos _ (by decide)
        clear HA O3 A3 hown hbel B3
        go_wp2_with fail
        refine (sok_any _ 32 c3 rs _ rl HR3.out rb).mono ?_
        rintro e w4 ⟨rfl, B4⟩
        rw [show decide (32 = 32 ∧ val 256 rs < bigL) = true from decide_eq_true ⟨rfl, HRV.out⟩]
        have HR4 := hid_ofE (HR3.out.below B4)
        have HZ4 := hid_ofE (HZ3.out.below B4)
        have HB4 : Hid (Below w.heap.size w w4) := HB3.out.trans (B4.mono HB3.out.size)
        clear HR3 HZ3 HB3 B4
        go_wp2_with fail
        refine (iok_any _ 32 c3 rs _ rl HR4.out rb).mono ?_
        rintro e w5 ⟨rfl, B5⟩
        rw [show decide (32 = 32 ∧ val 256 rs < bigL) = true from decide_eq_true ⟨rfl, HRV.out⟩]
        have HR5 := hid_ofE (HR4.out.below B5)
        have HZ5 := hid_ofE (HZ4.out.below B5)
        have HB5 : Hid (Below w.heap.size w w5) := HB4.out.trans (B5.mono HB4.out.size)
        clear HR4 HZ4 HB4 B5
        go_wp2_with fail
        refine (iok_any _ 32 c zs _ hzl HZ5.out hzb).mono ?_
        rintro e w6 ⟨rfl, B6⟩
        rw [← rest_same hzl hzb rl rb rv]
        have HR6 := hid_ofE (HR5.out.below B6)
        have HZ6 := hid_ofE (HZ5.out.below B6)
        have HB6 : Hid (Below w.heap.size w w6) := HB5.out.trans (B6.mono HB5.out.size)
        clear HR5 HZ5 HB5 B6 HRV
        go_wp2_with fail
        refine (lwR_any _ _ 32 32 c3 c rs zs _ rl hzl HR6.out HZ6.out rb hzb).mono ?_
        rintro e w7 ⟨rfl, rfl⟩
        generalize decide (rs = zs) = eq0 at *
        go_wp2_with fail
        refine (ibas_any _).mono ?_
        rintro e w8 ⟨v8, bs8, rfl, O8, b8, l8, x8, B8⟩
        obtain rfl : bs8 = bB := bB_of b8 l8 x8
        obtain ⟨g8, c8, rfl, hg8, hg8', A8⟩ := O8.at2
        rw [bB_len]
        have HR8 := hid_ofE (HR6.out.below B8)
        have HZ8 := hid_ofE (HZ6.out.below B8)
        have HA8 := hid_ofE A8
        have HB8 : Hid (Below w.heap.size w w8) := HB6.out.trans (B8.mono HB6.out.size)
        clear HR6 HZ6 HB6 B8 O8 A8
        go_wp2_with fail
        refine (imul_any _ _ 32 c 32 c8 zs bB _ hzl (by decide) HZ8.out hzb bB_len (by decide) HA8.out bB_byte).mono ?_
        rintro e w9 ⟨v9, rfl, R9, B9⟩
        obtain ⟨m1, m2, m3⟩ := muZ_ex hzl hzb
        have mr := muZ_rest hzl hzb rl rb rv
        obtain ⟨a9, c9, rfl, A9, _⟩ := R9
        rw [m1]
        have HR9 := hid_ofE (HR8.out.below B9)
        have HM9 := hid_ofE A9
        have HB9 : Hid (Below w.heap.size w w9) := HB8.out.trans (B9.mono HB8.out.size)
        clear HR8 HZ8 HB8 B9 A9 HA8
        go_wp2_with fail
        refine (sbas_any _).mono ?_
        rintro e w10 ⟨v10, bs10, rfl, O10, b10, l10, x10, B10⟩
        obtain rfl : bs10 = bB := bB_of b10 l10 x10
        obtain ⟨g10, c10, rfl, hg10, hg10', A10⟩ := O10.at2
        rw [bB_len]
        have HR10 := hid_ofE (HR9.out.below B10)
        have HM10 := hid_ofE (HM9.out.below B10)
        have HA10 := hid_ofE A10
        have HB10 : Hid (Below w.heap.size w w10) := HB9.out.trans (B10.mono HB9.out.size)
        clear HR9 HM9 HB9 B10 O10 A10
        go_wp2_with fail
        refine (imul_any _ _ 32 c3 32 c10 rs bB _ rl (by decide) HR10.out rb bB_len (by decide) HA10.out bB_byte).mono ?_
        rintro e w11 ⟨v11, rfl, R11, B11⟩
        rw [mr] at R11
        obtain ⟨a11, c11, rfl, A11, _⟩ := R11
        rw [m1]
        have HM11 := hid_ofE (HM10.out.below B11)
        have HN11 := hid_ofE A11
        have HB11 : Hid (Below w.heap.size w w11) := HB10.out.trans (B11.mono HB10.out.size)
        clear HR10 HM10 HB10 B11 A11 HA10
        go_wp2_with fail
        refine (lwR_any _ _ 32 32 c9 c11 _ _ _ m1 m1 HM11.out HN11.out m2 m2).mono ?_
        rintro e w12 ⟨rfl, rfl⟩
        rw [decide_eq_true (rfl : muZ zs bB = muZ zs bB)]
        go_wp2
        go_ret
        exact ⟨rfl, HB11.out⟩
set_option maxRecDepth 100000 in
theorem lifted (os : Os) (started : os.Started) (H : Type) (enc : TypeId × Value → H) :
    ReturnsInHanded {} Try.checked os 4 .any (Rows.fnReduceSpec.pre6 enc Try.prog Try.f4 Rows.fnReduceRow.domain false) (Rows.fnReduceSpec.post enc Try.prog Try.f4 false true false false) := by
  refine returnsInHanded_of_change (C := Try.checked) own started (by kernel_rfl) Try.func4
    (ChangeSpec.witness6 (enc := enc) (C := Try.checked) false ⟨#[], #[.slice none 0 0], []⟩ 8 (by kernel_rfl) (by kernel_rfl) (by kernel_rfl) (by kernel_rfl)) ?_
  intro W base args ds gs before hval0 hW hcnd _
  have hval : ∀ (j : Nat) t v, Try.f4.params[j]? = some t → args[j]? = some v → Value.okWide Try.prog W .any base t v := hval0
  have hW' := hW
  obtain ⟨p, q, hA0, hV, rfl, hfz, hnd⟩ := hW
  have hA : DataW.TrodAll enc Try.prog W 0 (fun _ => true) true Try.f4.params.toList args.toList ds p := hA0
  rw [Try.params4] at hA hval
  obtain ⟨v0, vs0, d0, ds0, p0, q0, hargs, rfl, rfl, h0, r0⟩ := trodAll_cons hA
  obtain ⟨rfl, rfl, rfl⟩ := trodAll_nil r0
  obtain rfl : args = #[v0] := by cases args; simp_all
  obtain ⟨rfl, rfl⟩ := trodVars_none hV
  obtain ⟨a0, len0, cap0, rfl⟩ := okWide_slice Try.underlying22 (hval 0 22 v0 rfl rfl)
  have k0 := h0
  have lt0 : ∀ x ∈ p0, x.block < W.heap.size := by obtain ⟨m, hm⟩ := k0; exact DataW.trod_lt m _ _ _ hm
  obtain ⟨z0, w0⟩ : ∃ zs, IsRow .u8 W a0 len0 cap0 zs := by
    obtain ⟨fuel, hf⟩ := h0
    rcases open_ints Try.underlying22 Try.underlying5 (by kernel_rfl) hf with ⟨hcs, _⟩ | ⟨x, l, c, zs, hcs, _, hl, hm, hz, _, hcell, hwz⟩
    · simp [Value.cells] at hcs
      obtain ⟨rfl, rfl, rfl⟩ := hcs
      exact ⟨[], .inl ⟨rfl, rfl, rfl, rfl⟩⟩
    · simp [Value.cells] at hcs
      obtain ⟨rfl, rfl, rfl⟩ := hcs
      exact ⟨zs, .inr ⟨_, rfl, hl, hm, by simpa using hz, hcell, hwz⟩⟩
  clear hA0 hval0
  refine (walk a0 len0 cap0 z0 W w0).mono fun e W' ⟨he, bel⟩ => ?_
  subst he
  exact ⟨_, rfl, _, _, _, [], _, [], hW', trodAll_mk1 (shut_bool Try.underlying4 _), (trodAll_cons_mk (Below.trod laidOut (by kernel_rfl) (of_decide_eq_true (by kernel_rfl)) k0 bel lt0) trodAll_mk0), rfl, bel.frame _, fun h => by cases h⟩

theorem over : Rows.fnReduceRow.holds Try.pinned (OpenSpec.ofChange Rows.fnReduceSpec) :=
  OpenClaim.holds_of_wide 4 Try.f4 rfl rfl rfl rfl rfl rfl rfl ⟨rfl, rfl, rfl, rfl, rfl⟩ rfl rfl rfl rfl rfl (by kernel_rfl) Try.func4 (by kernel_rfl)
    (of_decide_eq_true (by kernel_rfl)) (by unfold Func.isWrapper; first | (rw [if_pos (by decide +kernel)]; kernel_rfl) | (rw [if_neg (by decide +kernel)]; exact ⟨rfl, rfl⟩))
    (fun os started H enc _ => lifted os started H enc)

end Go.Proofs.Ytdaglofgioehhaa.lre
namespace Go.Proofs.Ytdaglofgioehhaa
theorem reduce_holds : Rows.FnReduceSaid := lre.over
#print axioms reduce_holds
end Go.Proofs.Ytdaglofgioehhaa
