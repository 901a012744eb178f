/-
  Own work: a block mixed into the words, by the model (2) (written by wip/mkshn.py).
-/
import Derived.Test.YtclmhdhblghfnaaDoorMShK
import Derived.BigRegion
namespace Go.Proofs.YtclmhdhblghfnaaDoor
open Go.ChangeShapes Go.WideShapes Go.ChangeAt Go.RowKit
set_option linter.unusedVariables false

theorem wrap_as (a k x : Int) : IntKind.u64.wrap (IntKind.u64.wrap (a + k) + x) = IntKind.u64.wrap (a + IntKind.u64.wrap (k + x)) := by
  rw [IntKind.wrap_u64, IntKind.wrap_u64, IntKind.wrap_u64, IntKind.wrap_u64]; omega

set_option maxRecDepth 100000 in
set_option maxHeartbeats 40000000 in
theorem blockS_any (bh oh ch bb ob cb bk ck : Nat) (hs bs : List Int) (w : World) (hB : BK w bh oh bb ob bk hs bs) (h8 : W8 hs) (hl : bs.length = 128) (hz : Byte bs) (hcb : 128 ≤ cb) :
    Calls Tryd.prog 41 #[.slice (some ⟨bh, oh, none⟩) 8 ch, .slice (some ⟨bb, ob, none⟩) 128 cb, .slice (some ⟨bk, 0, none⟩) 88 ck] w fun e w' => ∃ v, e = .returned v ∧ OwnU w' w.heap.size v (mixL hs bs) ∧ Below w.heap.size w w' := by
  have HBK := hid_ofS hB
  have H8 := hid_ofS h8
  have HL := hid_ofS hl
  have HZ := hid_ofS hz
  have HU := hid_ofS (fun t => wd_u64 hz hl t)
  have HE0 := hid_ofS (OwnK.empty (k := .u64) (t := 39) w w.heap.size (Nat.le_refl _))
  have HAL : Hid (Below w.heap.size w (w.alloc (.cells #[] 39))) := (Below.refl _ _).alloc (Nat.le_refl _) _
  clear hB h8 hl hz
  go_enter Tryd.func41, Tryd.ntmps41
  go_wp2
  go_loopw [7, 8] (fun v i wr => ∃ q : Nat, q ≤ 16 ∧ i = .int .i64 q ∧ OwnU wr w.heap.size v (schN bs q) ∧ Below w.heap.size w wr) (fun _ i _ => 16 - (intOf i).toNat)
  case atStart => exact ⟨0, by omega, rfl, HE0.out, HAL.out⟩
  case round =>
    clear HE0 HAL
    obtain ⟨q, ht, rfl, hown, hbel⟩ := hrel
    by_cases hlt : q < 16
    · have hlt' : (q : Int) < 16 := by omega
      have hsl := fun w => run_sliceB w bb ob cb q hlt hcb
      have hsz := hbel.size
      have HO := hid_ofS hown
      have HB := hid_ofS hbel
      have hz8 : Byte ((bs.drop (8 * q)).take 8) := fun z h => HZ.out z (List.mem_of_mem_drop (List.mem_of_mem_take h))
      have hl8 : ((bs.drop (8 * q)).take 8).length = 8 := by have := HL.out; simp; omega
      have hc8 : ∀ i, i < ((bs.drop (8 * q)).take 8).length → wr.cell? ⟨bb, ob + 8 * q + i, none⟩ = some (.int .u8 (((bs.drop (8 * q)).take 8).getD i 0)) := fun i hi => by
        rw [hl8] at hi
        rw [Nat.add_assoc, (HBK.out.below hbel).b.2 (8 * q + i) (by omega), List.getD_eq_getElem?_getD, List.getD_eq_getElem?_getD, List.getElem?_take_of_lt hi, List.getElem?_drop]
      have A := hid_ofS (wordS_any bb (ob + 8 * q) (cb - 8 * q) _ wr hl8 hz8 hc8)
      have HW := hid_ofS (wd_lo bs q hlt)
      have HSN : Hid (schN bs (q + 1) = schN bs q ++ [wd bs q]) := rfl
      have hut := HU.out q
      rw [← HW.out] at A
      have HLS := hid_ofS (schN_len bs q)
      clear hown hbel hz8 hl8 hc8 HW
      generalize wd bs q = x at *
      obtain ⟨hx0, hx1⟩ := hut
      go_wp2_with fail
      refine A.out.mono ?_
      rintro e w1 ⟨rfl, h1⟩
      subst h1
      clear A hsl
      have HLJ : Hid ((schN bs q).length + 1 ≤ 1099511627776) := by show _ ≤ _; rw [HLS.out]; omega
      go_wp2_with (at_builtin; refine wpList_appK _ ktU rfl _ _ rfl w.heap.size _ _ rfl (HO.out.alloc _) ⟨w1.heap.size, 0, none⟩ 1 1 [x] rfl rfl ?c1 ?c2 ?c3 ?_)
      all_goals first | (intro j hj; obtain rfl : j = 0 := by omega
                         simp [Addr.add]; done) | skip
      case c2 => have := HLJ.out; simpa using by omega
      case c3 => rw [World.size_alloc]; omega
      intro v' w2 hown' hbel' _
      have HO2 : Hid (OwnU w2 w.heap.size v' (schN bs (q + 1))) := by rw [HSN.out]; exact hown'
      have HB2 : Hid (Below w.heap.size w w2) := (HB.out.alloc hsz _).trans hbel'
      clear hown' hbel' HO HB
      go_wp2
      go_roundw
      case rel => exact ⟨q + 1, by omega, by go_num, HO2.out, HB2.out⟩
      case measure => simp [intOf]; omega
    · obtain rfl : q = 16 := by omega
      have HO := hid_ofS hown
      have HB := hid_ofS hbel
      clear hown hbel
      go_wp2
      go_loopw [7, 9] (fun v i wr => ∃ q : Nat, 16 ≤ q ∧ q ≤ 80 ∧ i = .int .i64 q ∧ OwnU wr w.heap.size v (schN bs q) ∧ Below w.heap.size w wr) (fun _ i _ => 80 - (intOf i).toNat)
      case atStart => exact ⟨16, by omega, by omega, rfl, HO.out, HB.out⟩
      case round =>
        clear HO HB
        obtain ⟨q, ht16, ht, rfl, hown, hbel⟩ := hrel
        by_cases hlt : q < 80
        · have hlt' : (q : Int) < 80 := by omega
          have hsz := hbel.size
          obtain ⟨g, c, rfl, hg1, hg2, hg3⟩ := hown.base
          rw [schN_len] at hown hg3 ⊢
          have HO := hid_ofS hown
          have HB := hid_ofS hbel
          have HSN : Hid (schN bs (q + 1) = schN bs q ++ [wd bs q]) := rfl
          have HCE : ∀ i, i < q → wr.cell? ⟨g, i, none⟩ = some (.int .u64 (wd bs i)) := fun i hi => by rw [hown.cellAt (schN_len _ _) i hi, schN_get _ _ _ hi]
          have HWD := wd_hi' bs q ht16
          obtain ⟨j0, hj0⟩ : ∃ i, i = q - 16 := ⟨_, rfl⟩
          obtain ⟨j1, hj1⟩ : ∃ i, i = q - 15 := ⟨_, rfl⟩
          obtain ⟨j9, hj9⟩ : ∃ i, i = q - 7 := ⟨_, rfl⟩
          obtain ⟨j14, hj14⟩ : ∃ i, i = q - 2 := ⟨_, rfl⟩
          rw [← hj0, ← hj1, ← hj9, ← hj14] at HWD
          have c0 := HCE j0 (by omega)
          have c1 := HCE j1 (by omega)
          have c9 := HCE j9 (by omega)
          have c14 := HCE j14 (by omega)
          have e0 : (q : Int) - 16 = (j0 : Int) := by omega
          have e1 : (q : Int) - 15 = (j1 : Int) := by omega
          have e9 : (q : Int) - 7 = (j9 : Int) := by omega
          have e14 : (q : Int) - 2 = (j14 : Int) := by omega
          have w0 : IntKind.i64.wrap (j0 : Int) = (j0 : Int) := by rw [IntKind.wrap_i64]; omega
          have w1 : IntKind.i64.wrap (j1 : Int) = (j1 : Int) := by rw [IntKind.wrap_i64]; omega
          have w9 : IntKind.i64.wrap (j9 : Int) = (j9 : Int) := by rw [IntKind.wrap_i64]; omega
          have w14 : IntKind.i64.wrap (j14 : Int) = (j14 : Int) := by rw [IntKind.wrap_i64]; omega
          have l0 : (j0 : Int) < (q : Int) := by omega
          have l1 : (j1 : Int) < (q : Int) := by omega
          have l9 : (j9 : Int) < (q : Int) := by omega
          have l14 : (j14 : Int) < (q : Int) := by omega
          clear hj0 hj1 hj9 hj14 HCE hown hbel
          obtain ⟨x0, hx0⟩ : ∃ x, x = wd bs j0 := ⟨_, rfl⟩
          obtain ⟨x1, hx1⟩ : ∃ x, x = wd bs j1 := ⟨_, rfl⟩
          obtain ⟨x9, hx9⟩ : ∃ x, x = wd bs j9 := ⟨_, rfl⟩
          obtain ⟨x14, hx14⟩ : ∃ x, x = wd bs j14 := ⟨_, rfl⟩
          have U0 := HU.out j0; have U1 := HU.out j1; have U9 := HU.out j9; have U14 := HU.out j14
          rw [← hx0] at U0 HWD c0; rw [← hx1] at U1 HWD c1; rw [← hx9] at U9 HWD c9; rw [← hx14] at U14 HWD c14
          clear hx0 hx1 hx9 hx14
          have H1 := hid_ofS U1; have H14 := hid_ofS U14
          obtain ⟨u00, u01⟩ := U0; obtain ⟨u10, u11⟩ := U1; obtain ⟨u90, u91⟩ := U9; obtain ⟨u140, u141⟩ := U14
          have HS0 : Hid (bits .xor .u64 (bits .xor .u64 (rtr 1 x1) (rtr 8 x1)) (x1 / 128) = sg0 x1) := rfl
          have HS1 : Hid (bits .xor .u64 (bits .xor .u64 (rtr 19 x14) (rtr 61 x14)) (x14 / 64) = sg1 x14) := rfl
          obtain ⟨s0, hs0⟩ : ∃ s, s = sg0 x1 := ⟨_, rfl⟩
          obtain ⟨s1, hs1⟩ : ∃ s, s = sg1 x14 := ⟨_, rfl⟩
          have US0 := sg0_u64 x1; have US1 := sg1_u64 x14
          rw [← hs0] at HS0 HWD US0; rw [← hs1] at HS1 HWD US1
          obtain ⟨us00, us01⟩ := US0; obtain ⟨us10, us11⟩ := US1
          clear hs0 hs1
          have HWX := hid_ofS HWD
          clear HWD
          go_wp2
          refine wp_region_any (by kernel_rfl) ?_
          refine wpAny_slotsU (fun _ _ _ => True) (frame := (fun (c0 c1 c2 c3 c4 c5 c6 c7 c8 c9 c11 c12 c13 c14 c15 c16 c17 c18 c19 c20 c21 c22 c23 c24 c25 c26 c27 c28 c29 c30 c31 c32 c33 c34 c35 c36 c37 c38 c39 c60 c61 c62 c63 c64 c65 c66 c67 c68 c69 c70 c71 c72 c73 c74 c75 c76 c77 c78 c79 c80 c81 c82 c83 c84 c85 c86 c87 c88 c89 c90 c91 c92 c93 c94 c95 c96 c97 c98 c99 c100 c101 c102 c103 c104 c105 c106 c107 c108 c109 c110 c111 c112 c113 c114 c115 c116 c117 c118 c119 c120 c121 c122 c123 c124 c125 c126 c127 c128 c129 c130 c131 c132 c133 c134 c135 c136 c137 c138 c139 c140 c141 c142 c143 c144 c145 c146 c147 c148 c149 c150 c151 c152 c153 c154 c155 c156 c157 c158 c159 c160 c161 c162 c163 c164 c165 c166 c167 c168 c169 c170 c171 c172 c173 c174 c175 c176 c177 c178 c179 c180 c181 c182 c183 c184 c185 c186 c187 c188 c189 c190 c191 c192 c193 c194 c195 c196 c197 c198 c199 c200 c201 c202 c203 c204 c205 c206 c207 c208 c209 c210 c211 c212 c213 c214 : Value) => fun (t : Nat → Value) => ({ tmps := List.toArray (c0 :: c1 :: c2 :: c3 :: c4 :: c5 :: c6 :: c7 :: c8 :: c9 :: t 20 :: c11 :: c12 :: c13 :: c14 :: c15 :: c16 :: c17 :: c18 :: c19 :: c20 :: c21 :: c22 :: c23 :: c24 :: c25 :: c26 :: c27 :: c28 :: c29 :: c30 :: c31 :: c32 :: c33 :: c34 :: c35 :: c36 :: c37 :: c38 :: c39 :: t 0 :: t 1 :: t 2 :: t 3 :: t 4 :: t 5 :: t 6 :: t 7 :: t 8 :: t 9 :: t 10 :: t 11 :: t 12 :: t 13 :: t 14 :: t 15 :: t 16 :: t 17 :: t 18 :: t 19 :: c60 :: c61 :: c62 :: c63 :: c64 :: c65 :: c66 :: c67 :: c68 :: c69 :: c70 :: c71 :: c72 :: c73 :: c74 :: c75 :: c76 :: c77 :: c78 :: c79 :: c80 :: c81 :: c82 :: c83 :: c84 :: c85 :: c86 :: c87 :: c88 :: c89 :: c90 :: c91 :: c92 :: c93 :: c94 :: c95 :: c96 :: c97 :: c98 :: c99 :: c100 :: c101 :: c102 :: c103 :: c104 :: c105 :: c106 :: c107 :: c108 :: c109 :: c110 :: c111 :: c112 :: c113 :: c114 :: c115 :: c116 :: c117 :: c118 :: c119 :: c120 :: c121 :: c122 :: c123 :: c124 :: c125 :: c126 :: c127 :: c128 :: c129 :: c130 :: c131 :: c132 :: c133 :: c134 :: c135 :: c136 :: c137 :: c138 :: c139 :: c140 :: c141 :: c142 :: c143 :: c144 :: c145 :: c146 :: c147 :: c148 :: c149 :: c150 :: c151 :: c152 :: c153 :: c154 :: c155 :: c156 :: c157 :: c158 :: c159 :: c160 :: c161 :: c162 :: c163 :: c164 :: c165 :: c166 :: c167 :: c168 :: c169 :: c170 :: c171 :: c172 :: c173 :: c174 :: c175 :: c176 :: c177 :: c178 :: c179 :: c180 :: c181 :: c182 :: c183 :: c184 :: c185 :: c186 :: c187 :: c188 :: c189 :: c190 :: c191 :: c192 :: c193 :: c194 :: c195 :: c196 :: c197 :: c198 :: c199 :: c200 :: c201 :: c202 :: c203 :: c204 :: c205 :: c206 :: c207 :: c208 :: c209 :: c210 :: c211 :: c212 :: c213 :: c214 :: []), defers := [] } : Act)) _ _ _ _ _ _ _ _ _ _ _ _ _ _ _ _ _ _ _ _ _ _ _ _ _ _ _ _ _ _ _ _ _ _ _ _ _ _ _ _ _ _ _ _ _ _ _ _ _ _ _ _ _ _ _ _ _ _ _ _ _ _ _ _ _ _ _ _ _ _ _ _ _ _ _ _ _ _ _ _ _ _ _ _ _ _ _ _ _ _ _ _ _ _ _ _ _ _ _ _ _ _ _ _ _ _ _ _ _ _ _ _ _ _ _ _ _ _ _ _ _ _ _ _ _ _ _ _ _ _ _ _ _ _ _ _ _ _ _ _ _ _ _ _ _ _ _ _ _ _ _ _ _ _ _ _ _ _ _ _ _ _ _ _ _ _ _ _ _ _ _ _ _ _ _ _ _ _ _ _ _ _ _ _ _ _ _ _ _ _ _ _ _ _)
            (Ext := fun L u w' => w' = wr.drew) (Good := fun i L w' v => if i = 0 then v = .slice (some ⟨g, 0, none⟩) q c else if i = 1 then v = .int .i64 (q : Int) else if i = 2 then v = .int .i64 (j1 : Int) else if i = 3 then v = .pointer (some ⟨g, j1, none⟩) else if i = 4 then v = .int .u64 (x1) else if i = 5 then v = .int .u64 (rtr 1 x1) else if i = 6 then v = .slice (some ⟨g, 0, none⟩) q c else if i = 7 then v = .int .i64 (q : Int) else if i = 8 then v = .int .i64 (j1 : Int) else if i = 9 then v = .pointer (some ⟨g, j1, none⟩) else if i = 10 then v = .int .u64 (x1) else if i = 11 then v = .int .u64 (rtr 8 x1) else if i = 12 then v = .int .u64 (bits .xor .u64 (rtr 1 x1) (rtr 8 x1)) else if i = 13 then v = .slice (some ⟨g, 0, none⟩) q c else if i = 14 then v = .int .i64 (q : Int) else if i = 15 then v = .int .i64 (j1 : Int) else if i = 16 then v = .pointer (some ⟨g, j1, none⟩) else if i = 17 then v = .int .u64 (x1) else if i = 18 then v = .int .u64 (x1 / 128) else if i = 19 then v = .int .u64 (bits .xor .u64 (bits .xor .u64 (rtr 1 x1) (rtr 8 x1)) (x1 / 128)) else if i = 20 then v = .int .u64 (bits .xor .u64 (bits .xor .u64 (rtr 1 x1) (rtr 8 x1)) (x1 / 128)) else True) ?hstab (by kernel_rfl) ?hop ?hdone _ _ ((fun (x0 x1 x2 x3 x4 x5 x6 x7 x8 x9 x10 x11 x12 x13 x14 x15 x16 x17 x18 x19 x20 : Value) => fun (i : Nat) => if i = 0 then x0 else if i = 1 then x1 else if i = 2 then x2 else if i = 3 then x3 else if i = 4 then x4 else if i = 5 then x5 else if i = 6 then x6 else if i = 7 then x7 else if i = 8 then x8 else if i = 9 then x9 else if i = 10 then x10 else if i = 11 then x11 else if i = 12 then x12 else if i = 13 then x13 else if i = 14 then x14 else if i = 15 then x15 else if i = 16 then x16 else if i = 17 then x17 else if i = 18 then x18 else if i = 19 then x19 else if i = 20 then x20 else undef) _ _ _ _ _ _ _ _ _ _ _ _ _ _ _ _ _ _ _ _ _) _ (by simp) rfl ?start (by simp)
          case start => intro i hi h; exact absurd h (by rw [Array.getD_eq_getD_getElem?, Array.getElem?_replicate]; split <;> simp)
          case hstab => intro j L w9 w' i v hM hij hLi h; exact h
          case hop =>
            intro i o L t w' ho hLi hx hdep K hK
            have hi : i < 21 := (Array.getElem?_eq_some_iff.1 ho).1
            obtain rfl | rfl | rfl | rfl | rfl | rfl | rfl | rfl | rfl | rfl | rfl | rfl | rfl | rfl | rfl | rfl | rfl | rfl | rfl | rfl | rfl : i = 0 ∨ i = 1 ∨ i = 2 ∨ i = 3 ∨ i = 4 ∨ i = 5 ∨ i = 6 ∨ i = 7 ∨ i = 8 ∨ i = 9 ∨ i = 10 ∨ i = 11 ∨ i = 12 ∨ i = 13 ∨ i = 14 ∨ i = 15 ∨ i = 16 ∨ i = 17 ∨ i = 18 ∨ i = 19 ∨ i = 20 := by omega
            all_goals (simp at ho; subst ho)
            · clear hdep
              have hK' := hK w' (.slice (some ⟨g, 0, none⟩) q c) (by simp) hx trivial
              clear hK hx
              rw [if_pos (by rfl)]
              go_simp
              simpa [upd] using hK'
            · clear hdep
              have hK' := hK w' (.int .i64 (q : Int)) (by simp) hx trivial
              clear hK hx
              rw [if_pos (by rfl)]
              go_simp
              simpa [upd] using hK'
            · have d1 : t 1 = .int .i64 (q : Int) := by simpa using (hdep ⟨1, .data⟩ (by simp) rfl).2
              clear hdep
              have hK' := hK w' (.int .i64 (j1 : Int)) (by simp) hx trivial
              clear hK hx
              rw [if_pos (by rfl)]
              go_simp
              simpa [upd, d1, e1, w1] using hK'
            · have d0 : t 0 = .slice (some ⟨g, 0, none⟩) q c := by simpa using (hdep ⟨0, .data⟩ (by simp) rfl).2
              have d2 : t 2 = .int .i64 (j1 : Int) := by simpa using (hdep ⟨2, .data⟩ (by simp) rfl).2
              clear hdep
              have hK' := hK w' (.pointer (some ⟨g, j1, none⟩)) (by simp) hx trivial
              clear hK hx
              rw [if_pos (by rfl)]
              go_simp
              simpa [upd, d0, d2] using hK'
            · have d3 : t 3 = .pointer (some ⟨g, j1, none⟩) := by simpa using (hdep ⟨3, .data⟩ (by simp) rfl).2
              clear hdep
              have hc : w'.cell? ⟨g, j1, none⟩ = some (.int .u64 x1) := by rw [hx]; exact c1
              have hK' := hK w' (.int .u64 (x1)) (by simp) hx trivial
              clear hK hx
              rw [if_pos (by rfl)]
              go_simp
              simpa [upd, d3] using hK'
            · have d4 : t 4 = .int .u64 (x1) := by simpa using (hdep ⟨4, .data⟩ (by simp) rfl).2
              clear hdep
              have A := rs1 x1 w' H1.out
              have hK' := hK w' (.int .u64 (rtr 1 x1)) (by simp) hx trivial
              clear hK hx
              rw [if_pos (by rfl)]
              go_simp
              try simp only [d4]
              refine A.mono ?_
              rintro e w9 ⟨rfl, h9⟩
              subst h9
              clear A
              go_simp
              simpa [upd, d4] using hK'
            · clear hdep
              have hK' := hK w' (.slice (some ⟨g, 0, none⟩) q c) (by simp) hx trivial
              clear hK hx
              rw [if_pos (by rfl)]
              go_simp
              simpa [upd] using hK'
            · clear hdep
              have hK' := hK w' (.int .i64 (q : Int)) (by simp) hx trivial
              clear hK hx
              rw [if_pos (by rfl)]
              go_simp
              simpa [upd] using hK'
            · have d7 : t 7 = .int .i64 (q : Int) := by simpa using (hdep ⟨7, .data⟩ (by simp) rfl).2
              clear hdep
              have hK' := hK w' (.int .i64 (j1 : Int)) (by simp) hx trivial
              clear hK hx
              rw [if_pos (by rfl)]
              go_simp
              simpa [upd, d7, e1, w1] using hK'
            · have d6 : t 6 = .slice (some ⟨g, 0, none⟩) q c := by simpa using (hdep ⟨6, .data⟩ (by simp) rfl).2
              have d8 : t 8 = .int .i64 (j1 : Int) := by simpa using (hdep ⟨8, .data⟩ (by simp) rfl).2
              clear hdep
              have hK' := hK w' (.pointer (some ⟨g, j1, none⟩)) (by simp) hx trivial
              clear hK hx
              rw [if_pos (by rfl)]
              go_simp
              simpa [upd, d6, d8] using hK'
            · have d9 : t 9 = .pointer (some ⟨g, j1, none⟩) := by simpa using (hdep ⟨9, .data⟩ (by simp) rfl).2
              clear hdep
              have hc : w'.cell? ⟨g, j1, none⟩ = some (.int .u64 x1) := by rw [hx]; exact c1
              have hK' := hK w' (.int .u64 (x1)) (by simp) hx trivial
              clear hK hx
              rw [if_pos (by rfl)]
              go_simp
              simpa [upd, d9] using hK'
            · have d10 : t 10 = .int .u64 (x1) := by simpa using (hdep ⟨10, .data⟩ (by simp) rfl).2
              clear hdep
              have A := rs8 x1 w' H1.out
              have hK' := hK w' (.int .u64 (rtr 8 x1)) (by simp) hx trivial
              clear hK hx
              rw [if_pos (by rfl)]
              go_simp
              try simp only [d10]
              refine A.mono ?_
              rintro e w9 ⟨rfl, h9⟩
              subst h9
              clear A
              go_simp
              simpa [upd, d10] using hK'
            · have d5 : t 5 = .int .u64 (rtr 1 x1) := by simpa using (hdep ⟨5, .data⟩ (by simp) rfl).2
              have d11 : t 11 = .int .u64 (rtr 8 x1) := by simpa using (hdep ⟨11, .data⟩ (by simp) rfl).2
              clear hdep
              have hK' := hK w' (.int .u64 (bits .xor .u64 (rtr 1 x1) (rtr 8 x1))) (by simp) hx trivial
              clear hK hx
              rw [if_pos (by rfl)]
              go_simp
              simpa [upd, d5, d11] using hK'
            · clear hdep
              have hK' := hK w' (.slice (some ⟨g, 0, none⟩) q c) (by simp) hx trivial
              clear hK hx
              rw [if_pos (by rfl)]
              go_simp
              simpa [upd] using hK'
            · clear hdep
              have hK' := hK w' (.int .i64 (q : Int)) (by simp) hx trivial
              clear hK hx
              rw [if_pos (by rfl)]
              go_simp
              simpa [upd] using hK'
            · have d14 : t 14 = .int .i64 (q : Int) := by simpa using (hdep ⟨14, .data⟩ (by simp) rfl).2
              clear hdep
              have hK' := hK w' (.int .i64 (j1 : Int)) (by simp) hx trivial
              clear hK hx
              rw [if_pos (by rfl)]
              go_simp
              simpa [upd, d14, e1, w1] using hK'
            · have d13 : t 13 = .slice (some ⟨g, 0, none⟩) q c := by simpa using (hdep ⟨13, .data⟩ (by simp) rfl).2
              have d15 : t 15 = .int .i64 (j1 : Int) := by simpa using (hdep ⟨15, .data⟩ (by simp) rfl).2
              clear hdep
              have hK' := hK w' (.pointer (some ⟨g, j1, none⟩)) (by simp) hx trivial
              clear hK hx
              rw [if_pos (by rfl)]
              go_simp
              simpa [upd, d13, d15] using hK'
            · have d16 : t 16 = .pointer (some ⟨g, j1, none⟩) := by simpa using (hdep ⟨16, .data⟩ (by simp) rfl).2
              clear hdep
              have hc : w'.cell? ⟨g, j1, none⟩ = some (.int .u64 x1) := by rw [hx]; exact c1
              have hK' := hK w' (.int .u64 (x1)) (by simp) hx trivial
              clear hK hx
              rw [if_pos (by rfl)]
              go_simp
              simpa [upd, d16] using hK'
            · have d17 : t 17 = .int .u64 (x1) := by simpa using (hdep ⟨17, .data⟩ (by simp) rfl).2
              clear hdep
              have hK' := hK w' (.int .u64 (x1 / 128)) (by simp) hx trivial
              clear hK hx
              rw [if_pos (by rfl)]
              go_simp
              simpa [upd, d17] using hK'
            · have d12 : t 12 = .int .u64 (bits .xor .u64 (rtr 1 x1) (rtr 8 x1)) := by simpa using (hdep ⟨12, .data⟩ (by simp) rfl).2
              have d18 : t 18 = .int .u64 (x1 / 128) := by simpa using (hdep ⟨18, .data⟩ (by simp) rfl).2
              clear hdep
              have hK' := hK w' (.int .u64 (bits .xor .u64 (bits .xor .u64 (rtr 1 x1) (rtr 8 x1)) (x1 / 128))) (by simp) hx trivial
              clear hK hx
              rw [if_pos (by rfl)]
              go_simp
              simpa [upd, d12, d18] using hK'
            · have d19 : t 19 = .int .u64 (bits .xor .u64 (bits .xor .u64 (rtr 1 x1) (rtr 8 x1)) (x1 / 128)) := by simpa using (hdep ⟨19, .data⟩ (by simp) rfl).2
              clear hdep
              have hK' := hK w' (.int .u64 (bits .xor .u64 (bits .xor .u64 (rtr 1 x1) (rtr 8 x1)) (x1 / 128))) (by simp) hx trivial
              clear hK hx
              rw [if_pos (by rfl)]
              go_simp
              simpa [upd, d19] using hK'
          case hdone =>
            intro L t w7 hx hg
            have d20 : t 20 = .int .u64 (bits .xor .u64 (bits .xor .u64 (rtr 1 x1) (rtr 8 x1)) (x1 / 128)) := by simpa using hg 20 (by decide)
            clear hg
            subst hx
            dsimp only
            rw [d20, HS0.out]
            clear d20
            go_wp2
            refine wp_region_any (by kernel_rfl) ?_
            refine wpAny_slotsU (fun _ _ _ => True) (frame := (fun (c0 c1 c2 c3 c4 c5 c6 c7 c8 c9 c10 c12 c13 c14 c15 c16 c17 c18 c19 c20 c21 c22 c23 c24 c25 c26 c27 c28 c29 c30 c31 c32 c33 c34 c35 c36 c37 c38 c39 c40 c41 c42 c43 c44 c45 c46 c47 c48 c49 c50 c51 c52 c53 c54 c55 c56 c57 c58 c59 c80 c81 c82 c83 c84 c85 c86 c87 c88 c89 c90 c91 c92 c93 c94 c95 c96 c97 c98 c99 c100 c101 c102 c103 c104 c105 c106 c107 c108 c109 c110 c111 c112 c113 c114 c115 c116 c117 c118 c119 c120 c121 c122 c123 c124 c125 c126 c127 c128 c129 c130 c131 c132 c133 c134 c135 c136 c137 c138 c139 c140 c141 c142 c143 c144 c145 c146 c147 c148 c149 c150 c151 c152 c153 c154 c155 c156 c157 c158 c159 c160 c161 c162 c163 c164 c165 c166 c167 c168 c169 c170 c171 c172 c173 c174 c175 c176 c177 c178 c179 c180 c181 c182 c183 c184 c185 c186 c187 c188 c189 c190 c191 c192 c193 c194 c195 c196 c197 c198 c199 c200 c201 c202 c203 c204 c205 c206 c207 c208 c209 c210 c211 c212 c213 c214 : Value) => fun (t : Nat → Value) => ({ tmps := List.toArray (c0 :: c1 :: c2 :: c3 :: c4 :: c5 :: c6 :: c7 :: c8 :: c9 :: c10 :: t 20 :: c12 :: c13 :: c14 :: c15 :: c16 :: c17 :: c18 :: c19 :: c20 :: c21 :: c22 :: c23 :: c24 :: c25 :: c26 :: c27 :: c28 :: c29 :: c30 :: c31 :: c32 :: c33 :: c34 :: c35 :: c36 :: c37 :: c38 :: c39 :: c40 :: c41 :: c42 :: c43 :: c44 :: c45 :: c46 :: c47 :: c48 :: c49 :: c50 :: c51 :: c52 :: c53 :: c54 :: c55 :: c56 :: c57 :: c58 :: c59 :: t 0 :: t 1 :: t 2 :: t 3 :: t 4 :: t 5 :: t 6 :: t 7 :: t 8 :: t 9 :: t 10 :: t 11 :: t 12 :: t 13 :: t 14 :: t 15 :: t 16 :: t 17 :: t 18 :: t 19 :: c80 :: c81 :: c82 :: c83 :: c84 :: c85 :: c86 :: c87 :: c88 :: c89 :: c90 :: c91 :: c92 :: c93 :: c94 :: c95 :: c96 :: c97 :: c98 :: c99 :: c100 :: c101 :: c102 :: c103 :: c104 :: c105 :: c106 :: c107 :: c108 :: c109 :: c110 :: c111 :: c112 :: c113 :: c114 :: c115 :: c116 :: c117 :: c118 :: c119 :: c120 :: c121 :: c122 :: c123 :: c124 :: c125 :: c126 :: c127 :: c128 :: c129 :: c130 :: c131 :: c132 :: c133 :: c134 :: c135 :: c136 :: c137 :: c138 :: c139 :: c140 :: c141 :: c142 :: c143 :: c144 :: c145 :: c146 :: c147 :: c148 :: c149 :: c150 :: c151 :: c152 :: c153 :: c154 :: c155 :: c156 :: c157 :: c158 :: c159 :: c160 :: c161 :: c162 :: c163 :: c164 :: c165 :: c166 :: c167 :: c168 :: c169 :: c170 :: c171 :: c172 :: c173 :: c174 :: c175 :: c176 :: c177 :: c178 :: c179 :: c180 :: c181 :: c182 :: c183 :: c184 :: c185 :: c186 :: c187 :: c188 :: c189 :: c190 :: c191 :: c192 :: c193 :: c194 :: c195 :: c196 :: c197 :: c198 :: c199 :: c200 :: c201 :: c202 :: c203 :: c204 :: c205 :: c206 :: c207 :: c208 :: c209 :: c210 :: c211 :: c212 :: c213 :: c214 :: []), defers := [] } : Act)) _ _ _ _ _ _ _ _ _ _ _ _ _ _ _ _ _ _ _ _ _ _ _ _ _ _ _ _ _ _ _ _ _ _ _ _ _ _ _ _ _ _ _ _ _ _ _ _ _ _ _ _ _ _ _ _ _ _ _ _ _ _ _ _ _ _ _ _ _ _ _ _ _ _ _ _ _ _ _ _ _ _ _ _ _ _ _ _ _ _ _ _ _ _ _ _ _ _ _ _ _ _ _ _ _ _ _ _ _ _ _ _ _ _ _ _ _ _ _ _ _ _ _ _ _ _ _ _ _ _ _ _ _ _ _ _ _ _ _ _ _ _ _ _ _ _ _ _ _ _ _ _ _ _ _ _ _ _ _ _ _ _ _ _ _ _ _ _ _ _ _ _ _ _ _ _ _ _ _ _ _ _ _ _ _ _ _ _ _ _ _ _ _ _)
              (Ext := fun L u w' => w' = wr.drew.drew) (Good := fun i L w' v => if i = 0 then v = .slice (some ⟨g, 0, none⟩) q c else if i = 1 then v = .int .i64 (q : Int) else if i = 2 then v = .int .i64 (j14 : Int) else if i = 3 then v = .pointer (some ⟨g, j14, none⟩) else if i = 4 then v = .int .u64 (x14) else if i = 5 then v = .int .u64 (rtr 19 x14) else if i = 6 then v = .slice (some ⟨g, 0, none⟩) q c else if i = 7 then v = .int .i64 (q : Int) else if i = 8 then v = .int .i64 (j14 : Int) else if i = 9 then v = .pointer (some ⟨g, j14, none⟩) else if i = 10 then v = .int .u64 (x14) else if i = 11 then v = .int .u64 (rtr 61 x14) else if i = 12 then v = .int .u64 (bits .xor .u64 (rtr 19 x14) (rtr 61 x14)) else if i = 13 then v = .slice (some ⟨g, 0, none⟩) q c else if i = 14 then v = .int .i64 (q : Int) else if i = 15 then v = .int .i64 (j14 : Int) else if i = 16 then v = .pointer (some ⟨g, j14, none⟩) else if i = 17 then v = .int .u64 (x14) else if i = 18 then v = .int .u64 (x14 / 64) else if i = 19 then v = .int .u64 (bits .xor .u64 (bits .xor .u64 (rtr 19 x14) (rtr 61 x14)) (x14 / 64)) else if i = 20 then v = .int .u64 (bits .xor .u64 (bits .xor .u64 (rtr 19 x14) (rtr 61 x14)) (x14 / 64)) else True) ?hstab (by kernel_rfl) ?hop ?hdone _ _ ((fun (x0 x1 x2 x3 x4 x5 x6 x7 x8 x9 x10 x11 x12 x13 x14 x15 x16 x17 x18 x19 x20 : Value) => fun (i : Nat) => if i = 0 then x0 else if i = 1 then x1 else if i = 2 then x2 else if i = 3 then x3 else if i = 4 then x4 else if i = 5 then x5 else if i = 6 then x6 else if i = 7 then x7 else if i = 8 then x8 else if i = 9 then x9 else if i = 10 then x10 else if i = 11 then x11 else if i = 12 then x12 else if i = 13 then x13 else if i = 14 then x14 else if i = 15 then x15 else if i = 16 then x16 else if i = 17 then x17 else if i = 18 then x18 else if i = 19 then x19 else if i = 20 then x20 else undef) _ _ _ _ _ _ _ _ _ _ _ _ _ _ _ _ _ _ _ _ _) _ (by simp) rfl ?start (by simp)
            case start => intro i hi h; exact absurd h (by rw [Array.getD_eq_getD_getElem?, Array.getElem?_replicate]; split <;> simp)
            case hstab => intro j L w9 w' i v hM hij hLi h; exact h
            case hop =>
              intro i o L t w' ho hLi hx hdep K hK
              have hi : i < 21 := (Array.getElem?_eq_some_iff.1 ho).1
              obtain rfl | rfl | rfl | rfl | rfl | rfl | rfl | rfl | rfl | rfl | rfl | rfl | rfl | rfl | rfl | rfl | rfl | rfl | rfl | rfl | rfl : i = 0 ∨ i = 1 ∨ i = 2 ∨ i = 3 ∨ i = 4 ∨ i = 5 ∨ i = 6 ∨ i = 7 ∨ i = 8 ∨ i = 9 ∨ i = 10 ∨ i = 11 ∨ i = 12 ∨ i = 13 ∨ i = 14 ∨ i = 15 ∨ i = 16 ∨ i = 17 ∨ i = 18 ∨ i = 19 ∨ i = 20 := by omega
              all_goals (simp at ho; subst ho)
              · clear hdep
                have hK' := hK w' (.slice (some ⟨g, 0, none⟩) q c) (by simp) hx trivial
                clear hK hx
                rw [if_pos (by rfl)]
                go_simp
                simpa [upd] using hK'
              · clear hdep
                have hK' := hK w' (.int .i64 (q : Int)) (by simp) hx trivial
                clear hK hx
                rw [if_pos (by rfl)]
                go_simp
                simpa [upd] using hK'
              · have d1 : t 1 = .int .i64 (q : Int) := by simpa using (hdep ⟨1, .data⟩ (by simp) rfl).2
                clear hdep
                have hK' := hK w' (.int .i64 (j14 : Int)) (by simp) hx trivial
                clear hK hx
                rw [if_pos (by rfl)]
                go_simp
                simpa [upd, d1, e14, w14] using hK'
              · have d0 : t 0 = .slice (some ⟨g, 0, none⟩) q c := by simpa using (hdep ⟨0, .data⟩ (by simp) rfl).2
                have d2 : t 2 = .int .i64 (j14 : Int) := by simpa using (hdep ⟨2, .data⟩ (by simp) rfl).2
                clear hdep
                have hK' := hK w' (.pointer (some ⟨g, j14, none⟩)) (by simp) hx trivial
                clear hK hx
                rw [if_pos (by rfl)]
                go_simp
                simpa [upd, d0, d2] using hK'
              · have d3 : t 3 = .pointer (some ⟨g, j14, none⟩) := by simpa using (hdep ⟨3, .data⟩ (by simp) rfl).2
                clear hdep
                have hc : w'.cell? ⟨g, j14, none⟩ = some (.int .u64 x14) := by rw [hx]; exact c14
                have hK' := hK w' (.int .u64 (x14)) (by simp) hx trivial
                clear hK hx
                rw [if_pos (by rfl)]
                go_simp
                simpa [upd, d3] using hK'
              · have d4 : t 4 = .int .u64 (x14) := by simpa using (hdep ⟨4, .data⟩ (by simp) rfl).2
                clear hdep
                have A := rs19 x14 w' H14.out
                have hK' := hK w' (.int .u64 (rtr 19 x14)) (by simp) hx trivial
                clear hK hx
                rw [if_pos (by rfl)]
                go_simp
                try simp only [d4]
                refine A.mono ?_
                rintro e w9 ⟨rfl, h9⟩
                subst h9
                clear A
                go_simp
                simpa [upd, d4] using hK'
              · clear hdep
                have hK' := hK w' (.slice (some ⟨g, 0, none⟩) q c) (by simp) hx trivial
                clear hK hx
                rw [if_pos (by rfl)]
                go_simp
                simpa [upd] using hK'
              · clear hdep
                have hK' := hK w' (.int .i64 (q : Int)) (by simp) hx trivial
                clear hK hx
                rw [if_pos (by rfl)]
                go_simp
                simpa [upd] using hK'
              · have d7 : t 7 = .int .i64 (q : Int) := by simpa using (hdep ⟨7, .data⟩ (by simp) rfl).2
                clear hdep
                have hK' := hK w' (.int .i64 (j14 : Int)) (by simp) hx trivial
                clear hK hx
                rw [if_pos (by rfl)]
                go_simp
                simpa [upd, d7, e14, w14] using hK'
              · have d6 : t 6 = .slice (some ⟨g, 0, none⟩) q c := by simpa using (hdep ⟨6, .data⟩ (by simp) rfl).2
                have d8 : t 8 = .int .i64 (j14 : Int) := by simpa using (hdep ⟨8, .data⟩ (by simp) rfl).2
                clear hdep
                have hK' := hK w' (.pointer (some ⟨g, j14, none⟩)) (by simp) hx trivial
                clear hK hx
                rw [if_pos (by rfl)]
                go_simp
                simpa [upd, d6, d8] using hK'
              · have d9 : t 9 = .pointer (some ⟨g, j14, none⟩) := by simpa using (hdep ⟨9, .data⟩ (by simp) rfl).2
                clear hdep
                have hc : w'.cell? ⟨g, j14, none⟩ = some (.int .u64 x14) := by rw [hx]; exact c14
                have hK' := hK w' (.int .u64 (x14)) (by simp) hx trivial
                clear hK hx
                rw [if_pos (by rfl)]
                go_simp
                simpa [upd, d9] using hK'
              · have d10 : t 10 = .int .u64 (x14) := by simpa using (hdep ⟨10, .data⟩ (by simp) rfl).2
                clear hdep
                have A := rs61 x14 w' H14.out
                have hK' := hK w' (.int .u64 (rtr 61 x14)) (by simp) hx trivial
                clear hK hx
                rw [if_pos (by rfl)]
                go_simp
                try simp only [d10]
                refine A.mono ?_
                rintro e w9 ⟨rfl, h9⟩
                subst h9
                clear A
                go_simp
                simpa [upd, d10] using hK'
              · have d5 : t 5 = .int .u64 (rtr 19 x14) := by simpa using (hdep ⟨5, .data⟩ (by simp) rfl).2
                have d11 : t 11 = .int .u64 (rtr 61 x14) := by simpa using (hdep ⟨11, .data⟩ (by simp) rfl).2
                clear hdep
                have hK' := hK w' (.int .u64 (bits .xor .u64 (rtr 19 x14) (rtr 61 x14))) (by simp) hx trivial
                clear hK hx
                rw [if_pos (by rfl)]
                go_simp
                simpa [upd, d5, d11] using hK'
              · clear hdep
                have hK' := hK w' (.slice (some ⟨g, 0, none⟩) q c) (by simp) hx trivial
                clear hK hx
                rw [if_pos (by rfl)]
                go_simp
                simpa [upd] using hK'
              · clear hdep
                have hK' := hK w' (.int .i64 (q : Int)) (by simp) hx trivial
                clear hK hx
                rw [if_pos (by rfl)]
                go_simp
                simpa [upd] using hK'
              · have d14 : t 14 = .int .i64 (q : Int) := by simpa using (hdep ⟨14, .data⟩ (by simp) rfl).2
                clear hdep
                have hK' := hK w' (.int .i64 (j14 : Int)) (by simp) hx trivial
                clear hK hx
                rw [if_pos (by rfl)]
                go_simp
                simpa [upd, d14, e14, w14] using hK'
              · have d13 : t 13 = .slice (some ⟨g, 0, none⟩) q c := by simpa using (hdep ⟨13, .data⟩ (by simp) rfl).2
                have d15 : t 15 = .int .i64 (j14 : Int) := by simpa using (hdep ⟨15, .data⟩ (by simp) rfl).2
                clear hdep
                have hK' := hK w' (.pointer (some ⟨g, j14, none⟩)) (by simp) hx trivial
                clear hK hx
                rw [if_pos (by rfl)]
                go_simp
                simpa [upd, d13, d15] using hK'
              · have d16 : t 16 = .pointer (some ⟨g, j14, none⟩) := by simpa using (hdep ⟨16, .data⟩ (by simp) rfl).2
                clear hdep
                have hc : w'.cell? ⟨g, j14, none⟩ = some (.int .u64 x14) := by rw [hx]; exact c14
                have hK' := hK w' (.int .u64 (x14)) (by simp) hx trivial
                clear hK hx
                rw [if_pos (by rfl)]
                go_simp
                simpa [upd, d16] using hK'
              · have d17 : t 17 = .int .u64 (x14) := by simpa using (hdep ⟨17, .data⟩ (by simp) rfl).2
                clear hdep
                have hK' := hK w' (.int .u64 (x14 / 64)) (by simp) hx trivial
                clear hK hx
                rw [if_pos (by rfl)]
                go_simp
                simpa [upd, d17] using hK'
              · have d12 : t 12 = .int .u64 (bits .xor .u64 (rtr 19 x14) (rtr 61 x14)) := by simpa using (hdep ⟨12, .data⟩ (by simp) rfl).2
                have d18 : t 18 = .int .u64 (x14 / 64) := by simpa using (hdep ⟨18, .data⟩ (by simp) rfl).2
                clear hdep
                have hK' := hK w' (.int .u64 (bits .xor .u64 (bits .xor .u64 (rtr 19 x14) (rtr 61 x14)) (x14 / 64))) (by simp) hx trivial
                clear hK hx
                rw [if_pos (by rfl)]
                go_simp
                simpa [upd, d12, d18] using hK'
              · have d19 : t 19 = .int .u64 (bits .xor .u64 (bits .xor .u64 (rtr 19 x14) (rtr 61 x14)) (x14 / 64)) := by simpa using (hdep ⟨19, .data⟩ (by simp) rfl).2
                clear hdep
                have hK' := hK w' (.int .u64 (bits .xor .u64 (bits .xor .u64 (rtr 19 x14) (rtr 61 x14)) (x14 / 64))) (by simp) hx trivial
                clear hK hx
                rw [if_pos (by rfl)]
                go_simp
                simpa [upd, d19] using hK'
            case hdone =>
              intro L t w8 hx hg
              have d20 : t 20 = .int .u64 (bits .xor .u64 (bits .xor .u64 (rtr 19 x14) (rtr 61 x14)) (x14 / 64)) := by simpa using hg 20 (by decide)
              clear hg
              subst hx
              dsimp only
              rw [d20, HS1.out]
              clear d20
              obtain ⟨wq, hwq⟩ : ∃ wq, wq = wr.drew.drew := ⟨_, rfl⟩
              rw [← hwq]
              have c0q : wq.cell? ⟨g, j0, none⟩ = some (.int .u64 x0) := by rw [hwq]; exact c0
              have c9q : wq.cell? ⟨g, j9, none⟩ = some (.int .u64 x9) := by rw [hwq]; exact c9
              have HOq : Hid (OwnU wq w.heap.size (.slice (some ⟨g, 0, none⟩) q c) (schN bs q)) := by rw [hwq]; exact HO.out
              have HBq : Hid (Below w.heap.size w wq) := by rw [hwq]; exact HB.out.drew.drew
              clear c0 c1 c9 c14 hwq HO HB HS0 HS1 e1 w1 l1 e14 w14 l14
              go_wp2
              obtain ⟨wx, hwx⟩ : ∃ wx, wx = (wq.alloc (.cells #[.int .u64 (IntKind.u64.wrap (IntKind.u64.wrap (IntKind.u64.wrap (s1 + x9) + s0) + x0))] 39)).drew := ⟨_, rfl⟩
              have HOX : Hid (OwnU ((wq.alloc (.cells #[.int .u64 (IntKind.u64.wrap (IntKind.u64.wrap (IntKind.u64.wrap (s1 + x9) + s0) + x0))] 39)).drew) w.heap.size (.slice (some ⟨g, 0, none⟩) q c) (schN bs q)) := OwnK.alloc HOq.out _
              have HBX : Hid (Below w.heap.size w ((wq.alloc (.cells #[.int .u64 (IntKind.u64.wrap (IntKind.u64.wrap (IntKind.u64.wrap (s1 + x9) + s0) + x0))] 39)).drew)) := (HBq.out.alloc HBq.out.size _).drew
              have HLO : Hid (w.heap.size ≤ ((wq.alloc (.cells #[.int .u64 (IntKind.u64.wrap (IntKind.u64.wrap (IntKind.u64.wrap (s1 + x9) + s0) + x0))] 39)).drew).heap.size) := HBX.out.size
              have HLJ : Hid ((schN bs q).length + 1 ≤ 1048576) := by show _ ≤ _; rw [schN_len]; omega
              have HCX : Hid (∀ i, i < ([IntKind.u64.wrap (IntKind.u64.wrap (IntKind.u64.wrap (s1 + x9) + s0) + x0)] : List Int).length → ((wq.alloc (.cells #[.int .u64 (IntKind.u64.wrap (IntKind.u64.wrap (IntKind.u64.wrap (s1 + x9) + s0) + x0))] 39)).drew).cell? ⟨wq.heap.size, 0 + i, none⟩ = some (.int .u64 (([IntKind.u64.wrap (IntKind.u64.wrap (IntKind.u64.wrap (s1 + x9) + s0) + x0)] : List Int).getD i 0))) := by
                intro i hi
                obtain rfl : i = 0 := by simpa using hi
                exact World.cell?_alloc_new wq _ _ 0
              clear hwx wx
              refine wp_region_any (by kernel_rfl) ?_
              refine wpAny_slotsU (fun _ _ _ => True) (frame := (fun (c0 c1 c2 c3 c4 c5 c6 c8 c9 c10 c11 c12 c13 c14 c15 c16 c17 c18 c19 c20 c21 c22 c23 c24 c25 c26 c27 c28 c29 c30 c31 c32 c33 c34 c35 c36 c37 c38 c39 c40 c41 c42 c43 c44 c45 c46 c47 c48 c49 c50 c51 c52 c53 c54 c55 c56 c57 c58 c59 c60 c61 c62 c63 c64 c65 c66 c67 c68 c69 c70 c71 c72 c73 c74 c75 c76 c77 c78 c79 c98 c99 c100 c101 c102 c103 c104 c105 c106 c107 c108 c109 c110 c111 c112 c113 c114 c115 c116 c117 c118 c119 c120 c121 c122 c123 c124 c125 c126 c127 c128 c129 c130 c131 c132 c133 c134 c135 c136 c137 c138 c139 c140 c141 c142 c143 c144 c145 c146 c147 c148 c149 c150 c151 c152 c153 c154 c155 c156 c157 c158 c159 c160 c161 c162 c163 c164 c165 c166 c167 c168 c169 c170 c171 c172 c173 c174 c175 c176 c177 c178 c179 c180 c181 c182 c183 c184 c185 c186 c187 c188 c189 c190 c191 c192 c193 c194 c195 c196 c197 c198 c199 c200 c201 c202 c203 c204 c205 c206 c207 c208 c209 c210 c211 c212 c213 c214 : Value) => fun (t : Nat → Value) => ({ tmps := List.toArray (c0 :: c1 :: c2 :: c3 :: c4 :: c5 :: c6 :: t 18 :: c8 :: c9 :: c10 :: c11 :: c12 :: c13 :: c14 :: c15 :: c16 :: c17 :: c18 :: c19 :: c20 :: c21 :: c22 :: c23 :: c24 :: c25 :: c26 :: c27 :: c28 :: c29 :: c30 :: c31 :: c32 :: c33 :: c34 :: c35 :: c36 :: c37 :: c38 :: c39 :: c40 :: c41 :: c42 :: c43 :: c44 :: c45 :: c46 :: c47 :: c48 :: c49 :: c50 :: c51 :: c52 :: c53 :: c54 :: c55 :: c56 :: c57 :: c58 :: c59 :: c60 :: c61 :: c62 :: c63 :: c64 :: c65 :: c66 :: c67 :: c68 :: c69 :: c70 :: c71 :: c72 :: c73 :: c74 :: c75 :: c76 :: c77 :: c78 :: c79 :: t 0 :: t 1 :: t 2 :: t 3 :: t 4 :: t 5 :: t 6 :: t 7 :: t 8 :: t 9 :: t 10 :: t 11 :: t 12 :: t 13 :: t 14 :: t 15 :: t 16 :: t 17 :: c98 :: c99 :: c100 :: c101 :: c102 :: c103 :: c104 :: c105 :: c106 :: c107 :: c108 :: c109 :: c110 :: c111 :: c112 :: c113 :: c114 :: c115 :: c116 :: c117 :: c118 :: c119 :: c120 :: c121 :: c122 :: c123 :: c124 :: c125 :: c126 :: c127 :: c128 :: c129 :: c130 :: c131 :: c132 :: c133 :: c134 :: c135 :: c136 :: c137 :: c138 :: c139 :: c140 :: c141 :: c142 :: c143 :: c144 :: c145 :: c146 :: c147 :: c148 :: c149 :: c150 :: c151 :: c152 :: c153 :: c154 :: c155 :: c156 :: c157 :: c158 :: c159 :: c160 :: c161 :: c162 :: c163 :: c164 :: c165 :: c166 :: c167 :: c168 :: c169 :: c170 :: c171 :: c172 :: c173 :: c174 :: c175 :: c176 :: c177 :: c178 :: c179 :: c180 :: c181 :: c182 :: c183 :: c184 :: c185 :: c186 :: c187 :: c188 :: c189 :: c190 :: c191 :: c192 :: c193 :: c194 :: c195 :: c196 :: c197 :: c198 :: c199 :: c200 :: c201 :: c202 :: c203 :: c204 :: c205 :: c206 :: c207 :: c208 :: c209 :: c210 :: c211 :: c212 :: c213 :: c214 :: []), defers := [] } : Act)) _ _ _ _ _ _ _ _ _ _ _ _ _ _ _ _ _ _ _ _ _ _ _ _ _ _ _ _ _ _ _ _ _ _ _ _ _ _ _ _ _ _ _ _ _ _ _ _ _ _ _ _ _ _ _ _ _ _ _ _ _ _ _ _ _ _ _ _ _ _ _ _ _ _ _ _ _ _ _ _ _ _ _ _ _ _ _ _ _ _ _ _ _ _ _ _ _ _ _ _ _ _ _ _ _ _ _ _ _ _ _ _ _ _ _ _ _ _ _ _ _ _ _ _ _ _ _ _ _ _ _ _ _ _ _ _ _ _ _ _ _ _ _ _ _ _ _ _ _ _ _ _ _ _ _ _ _ _ _ _ _ _ _ _ _ _ _ _ _ _ _ _ _ _ _ _ _ _ _ _ _ _ _ _ _ _ _ _ _ _ _ _ _ _ _ _)
                (Ext := fun L u w' => AC [(18, 17), (17, 16), (17, 0), (16, 15), (15, 9), (15, 14), (9, 7), (9, 8), (7, 1), (7, 6), (6, 5), (5, 2), (5, 4), (4, 3), (14, 13), (13, 10), (13, 12), (12, 11)] 16 17 18 (.slice (some ⟨g, 0, none⟩) q c) (wq.drew) ((wq.alloc (.cells #[.int .u64 (IntKind.u64.wrap (IntKind.u64.wrap (IntKind.u64.wrap (s1 + x9) + s0) + x0))] 39)).drew) (fun w8 v8 => OwnU w8 w.heap.size v8 (schN bs q ++ [IntKind.u64.wrap (IntKind.u64.wrap (IntKind.u64.wrap (s1 + x9) + s0) + x0)]) ∧ Below w.heap.size w w8) L u w') (Good := fun i L w' v => if i = 0 then v = .slice (some ⟨g, 0, none⟩) q c else if i = 1 then v = .int .u64 (s1) else if i = 2 then v = .slice (some ⟨g, 0, none⟩) q c else if i = 3 then v = .int .i64 (q : Int) else if i = 4 then v = .int .i64 (j9 : Int) else if i = 5 then v = .pointer (some ⟨g, j9, none⟩) else if i = 6 then v = .int .u64 (x9) else if i = 7 then v = .int .u64 (IntKind.u64.wrap (s1 + x9)) else if i = 8 then v = .int .u64 (s0) else if i = 9 then v = .int .u64 (IntKind.u64.wrap (IntKind.u64.wrap (s1 + x9) + s0)) else if i = 10 then v = .slice (some ⟨g, 0, none⟩) q c else if i = 11 then v = .int .i64 (q : Int) else if i = 12 then v = .int .i64 (j0 : Int) else if i = 13 then v = .pointer (some ⟨g, j0, none⟩) else if i = 14 then v = .int .u64 (x0) else if i = 15 then v = .int .u64 (IntKind.u64.wrap (IntKind.u64.wrap (IntKind.u64.wrap (s1 + x9) + s0) + x0)) else if i = 16 then v = .slice (some ⟨wq.heap.size, 0, none⟩) 1 1 else if i = 17 then L 17 = true else if i = 18 then L 18 = true else True) ?hstab (by kernel_rfl) ?hop ?hdone _ _ ((fun (x0 x1 x2 x3 x4 x5 x6 x7 x8 x9 x10 x11 x12 x13 x14 x15 x16 x17 x18 : Value) => fun (i : Nat) => if i = 0 then x0 else if i = 1 then x1 else if i = 2 then x2 else if i = 3 then x3 else if i = 4 then x4 else if i = 5 then x5 else if i = 6 then x6 else if i = 7 then x7 else if i = 8 then x8 else if i = 9 then x9 else if i = 10 then x10 else if i = 11 then x11 else if i = 12 then x12 else if i = 13 then x13 else if i = 14 then x14 else if i = 15 then x15 else if i = 16 then x16 else if i = 17 then x17 else if i = 18 then x18 else undef) _ _ _ _ _ _ _ _ _ _ _ _ _ _ _ _ _ _ _) _ (by simp) ?ext ?start (by simp)
              case start => intro i hi h; exact absurd h (by rw [Array.getD_eq_getD_getElem?, Array.getElem?_replicate]; split <;> simp)
              case ext => exact AC.start (fun i => by rw [Array.getD_eq_getD_getElem?, Array.getElem?_replicate]; split <;> rfl) rfl
              case hstab =>
                intro j L w9 w' i v hM hij hLi h
                have hu : ∀ k, L k = true → updK L i k = true := fun k hk => by unfold updK; split <;> simp [hk]
                by_cases ha : j = 17
                · subst ha
                  simp at h ⊢
                  exact hu _ h
                by_cases hs : j = 18
                · subst hs
                  simp at h ⊢
                  exact hu _ h
                simp only [if_neg ha, if_neg hs] at h ⊢
                exact h
              case hop =>
                intro i o L t w' ho hLi hx hdep K hK
                have hi : i < 19 := (Array.getElem?_eq_some_iff.1 ho).1
                obtain rfl | rfl | rfl | rfl | rfl | rfl | rfl | rfl | rfl | rfl | rfl | rfl | rfl | rfl | rfl | rfl | rfl | rfl | rfl : i = 0 ∨ i = 1 ∨ i = 2 ∨ i = 3 ∨ i = 4 ∨ i = 5 ∨ i = 6 ∨ i = 7 ∨ i = 8 ∨ i = 9 ∨ i = 10 ∨ i = 11 ∨ i = 12 ∨ i = 13 ∨ i = 14 ∨ i = 15 ∨ i = 16 ∨ i = 17 ∨ i = 18 := by omega
                all_goals (simp at ho; subst ho)
                · clear hdep
                  have l17 := hx.cl.back (a := 17) (b := 0) (by decide) hLi
                  have l18 := hx.cl.back (a := 18) (b := 17) (by decide) l17
                  have ds : t 18 = .slice (some ⟨g, 0, none⟩) q c := hx.old l18
                  have hK' := hK w' (.slice (some ⟨g, 0, none⟩) q c) (by simp) (hx.pure 0 _ (by decide) (by decide) (by decide) (by intro p hp e; simp only [List.mem_cons, List.not_mem_nil, or_false] at hp; rcases hp with rfl | rfl | rfl | rfl | rfl | rfl | rfl | rfl | rfl | rfl | rfl | rfl | rfl | rfl | rfl | rfl | rfl | rfl <;> first | (exact absurd e (by decide)) | assumption)) trivial
                  clear hK hx
                  rw [if_pos (by rfl)]
                  go_simp
                  simpa [upd, ds] using hK'
                · clear hdep
                  have hK' := hK w' (.int .u64 (s1)) (by simp) (hx.pure 1 _ (by decide) (by decide) (by decide) (by intro p hp e; simp only [List.mem_cons, List.not_mem_nil, or_false] at hp; rcases hp with rfl | rfl | rfl | rfl | rfl | rfl | rfl | rfl | rfl | rfl | rfl | rfl | rfl | rfl | rfl | rfl | rfl | rfl <;> first | (exact absurd e (by decide)) | assumption)) trivial
                  clear hK hx
                  rw [if_pos (by rfl)]
                  go_simp
                  simpa [upd] using hK'
                · clear hdep
                  have l5 := hx.cl.back (a := 5) (b := 2) (by decide) hLi
                  have l6 := hx.cl.back (a := 6) (b := 5) (by decide) l5
                  have l7 := hx.cl.back (a := 7) (b := 6) (by decide) l6
                  have l9 := hx.cl.back (a := 9) (b := 7) (by decide) l7
                  have l15 := hx.cl.back (a := 15) (b := 9) (by decide) l9
                  have l16 := hx.cl.back (a := 16) (b := 15) (by decide) l15
                  have l17 := hx.cl.back (a := 17) (b := 16) (by decide) l16
                  have l18 := hx.cl.back (a := 18) (b := 17) (by decide) l17
                  have ds : t 18 = .slice (some ⟨g, 0, none⟩) q c := hx.old l18
                  have hK' := hK w' (.slice (some ⟨g, 0, none⟩) q c) (by simp) (hx.pure 2 _ (by decide) (by decide) (by decide) (by intro p hp e; simp only [List.mem_cons, List.not_mem_nil, or_false] at hp; rcases hp with rfl | rfl | rfl | rfl | rfl | rfl | rfl | rfl | rfl | rfl | rfl | rfl | rfl | rfl | rfl | rfl | rfl | rfl <;> first | (exact absurd e (by decide)) | assumption)) trivial
                  clear hK hx
                  rw [if_pos (by rfl)]
                  go_simp
                  simpa [upd, ds] using hK'
                · clear hdep
                  have hK' := hK w' (.int .i64 (q : Int)) (by simp) (hx.pure 3 _ (by decide) (by decide) (by decide) (by intro p hp e; simp only [List.mem_cons, List.not_mem_nil, or_false] at hp; rcases hp with rfl | rfl | rfl | rfl | rfl | rfl | rfl | rfl | rfl | rfl | rfl | rfl | rfl | rfl | rfl | rfl | rfl | rfl <;> first | (exact absurd e (by decide)) | assumption)) trivial
                  clear hK hx
                  rw [if_pos (by rfl)]
                  go_simp
                  simpa [upd] using hK'
                · have L3 : L 3 = true := (hdep ⟨3, .data⟩ (by simp) rfl).1
                  have d3 : t 3 = .int .i64 (q : Int) := by simpa using (hdep ⟨3, .data⟩ (by simp) rfl).2
                  clear hdep
                  have hK' := hK w' (.int .i64 (j9 : Int)) (by simp) (hx.pure 4 _ (by decide) (by decide) (by decide) (by intro p hp e; simp only [List.mem_cons, List.not_mem_nil, or_false] at hp; rcases hp with rfl | rfl | rfl | rfl | rfl | rfl | rfl | rfl | rfl | rfl | rfl | rfl | rfl | rfl | rfl | rfl | rfl | rfl <;> first | (exact absurd e (by decide)) | assumption)) trivial
                  clear hK hx
                  rw [if_pos (by rfl)]
                  go_simp
                  simpa [upd, d3, e9, w9] using hK'
                · have L2 : L 2 = true := (hdep ⟨2, .data⟩ (by simp) rfl).1
                  have d2 : t 2 = .slice (some ⟨g, 0, none⟩) q c := by simpa using (hdep ⟨2, .data⟩ (by simp) rfl).2
                  have L4 : L 4 = true := (hdep ⟨4, .data⟩ (by simp) rfl).1
                  have d4 : t 4 = .int .i64 (j9 : Int) := by simpa using (hdep ⟨4, .data⟩ (by simp) rfl).2
                  clear hdep
                  have hK' := hK w' (.pointer (some ⟨g, j9, none⟩)) (by simp) (hx.pure 5 _ (by decide) (by decide) (by decide) (by intro p hp e; simp only [List.mem_cons, List.not_mem_nil, or_false] at hp; rcases hp with rfl | rfl | rfl | rfl | rfl | rfl | rfl | rfl | rfl | rfl | rfl | rfl | rfl | rfl | rfl | rfl | rfl | rfl <;> first | (exact absurd e (by decide)) | assumption)) trivial
                  clear hK hx
                  rw [if_pos (by rfl)]
                  go_simp
                  simpa [upd, d2, d4] using hK'
                · have L5 : L 5 = true := (hdep ⟨5, .data⟩ (by simp) rfl).1
                  have d5 : t 5 = .pointer (some ⟨g, j9, none⟩) := by simpa using (hdep ⟨5, .data⟩ (by simp) rfl).2
                  clear hdep
                  have l7 := hx.cl.back (a := 7) (b := 6) (by decide) hLi
                  have l9 := hx.cl.back (a := 9) (b := 7) (by decide) l7
                  have l15 := hx.cl.back (a := 15) (b := 9) (by decide) l9
                  have l16 := hx.cl.back (a := 16) (b := 15) (by decide) l15
                  have hw := hx.world l16 (by decide)
                  have hc : w'.cell? ⟨g, j9, none⟩ = some (.int .u64 x9) := by rw [hw]; exact c9q
                  clear hw
                  have hK' := hK w' (.int .u64 (x9)) (by simp) (hx.pure 6 _ (by decide) (by decide) (by decide) (by intro p hp e; simp only [List.mem_cons, List.not_mem_nil, or_false] at hp; rcases hp with rfl | rfl | rfl | rfl | rfl | rfl | rfl | rfl | rfl | rfl | rfl | rfl | rfl | rfl | rfl | rfl | rfl | rfl <;> first | (exact absurd e (by decide)) | assumption)) trivial
                  clear hK hx
                  rw [if_pos (by rfl)]
                  go_simp
                  simpa [upd, d5] using hK'
                · have L1 : L 1 = true := (hdep ⟨1, .data⟩ (by simp) rfl).1
                  have d1 : t 1 = .int .u64 (s1) := by simpa using (hdep ⟨1, .data⟩ (by simp) rfl).2
                  have L6 : L 6 = true := (hdep ⟨6, .data⟩ (by simp) rfl).1
                  have d6 : t 6 = .int .u64 (x9) := by simpa using (hdep ⟨6, .data⟩ (by simp) rfl).2
                  clear hdep
                  have hK' := hK w' (.int .u64 (IntKind.u64.wrap (s1 + x9))) (by simp) (hx.pure 7 _ (by decide) (by decide) (by decide) (by intro p hp e; simp only [List.mem_cons, List.not_mem_nil, or_false] at hp; rcases hp with rfl | rfl | rfl | rfl | rfl | rfl | rfl | rfl | rfl | rfl | rfl | rfl | rfl | rfl | rfl | rfl | rfl | rfl <;> first | (exact absurd e (by decide)) | assumption)) trivial
                  clear hK hx
                  rw [if_pos (by rfl)]
                  go_simp
                  simpa [upd, d1, d6] using hK'
                · clear hdep
                  have hK' := hK w' (.int .u64 (s0)) (by simp) (hx.pure 8 _ (by decide) (by decide) (by decide) (by intro p hp e; simp only [List.mem_cons, List.not_mem_nil, or_false] at hp; rcases hp with rfl | rfl | rfl | rfl | rfl | rfl | rfl | rfl | rfl | rfl | rfl | rfl | rfl | rfl | rfl | rfl | rfl | rfl <;> first | (exact absurd e (by decide)) | assumption)) trivial
                  clear hK hx
                  rw [if_pos (by rfl)]
                  go_simp
                  simpa [upd] using hK'
                · have L7 : L 7 = true := (hdep ⟨7, .data⟩ (by simp) rfl).1
                  have d7 : t 7 = .int .u64 (IntKind.u64.wrap (s1 + x9)) := by simpa using (hdep ⟨7, .data⟩ (by simp) rfl).2
                  have L8 : L 8 = true := (hdep ⟨8, .data⟩ (by simp) rfl).1
                  have d8 : t 8 = .int .u64 (s0) := by simpa using (hdep ⟨8, .data⟩ (by simp) rfl).2
                  clear hdep
                  have hK' := hK w' (.int .u64 (IntKind.u64.wrap (IntKind.u64.wrap (s1 + x9) + s0))) (by simp) (hx.pure 9 _ (by decide) (by decide) (by decide) (by intro p hp e; simp only [List.mem_cons, List.not_mem_nil, or_false] at hp; rcases hp with rfl | rfl | rfl | rfl | rfl | rfl | rfl | rfl | rfl | rfl | rfl | rfl | rfl | rfl | rfl | rfl | rfl | rfl <;> first | (exact absurd e (by decide)) | assumption)) trivial
                  clear hK hx
                  rw [if_pos (by rfl)]
                  go_simp
                  simpa [upd, d7, d8] using hK'
                · clear hdep
                  have l13 := hx.cl.back (a := 13) (b := 10) (by decide) hLi
                  have l14 := hx.cl.back (a := 14) (b := 13) (by decide) l13
                  have l15 := hx.cl.back (a := 15) (b := 14) (by decide) l14
                  have l16 := hx.cl.back (a := 16) (b := 15) (by decide) l15
                  have l17 := hx.cl.back (a := 17) (b := 16) (by decide) l16
                  have l18 := hx.cl.back (a := 18) (b := 17) (by decide) l17
                  have ds : t 18 = .slice (some ⟨g, 0, none⟩) q c := hx.old l18
                  have hK' := hK w' (.slice (some ⟨g, 0, none⟩) q c) (by simp) (hx.pure 10 _ (by decide) (by decide) (by decide) (by intro p hp e; simp only [List.mem_cons, List.not_mem_nil, or_false] at hp; rcases hp with rfl | rfl | rfl | rfl | rfl | rfl | rfl | rfl | rfl | rfl | rfl | rfl | rfl | rfl | rfl | rfl | rfl | rfl <;> first | (exact absurd e (by decide)) | assumption)) trivial
                  clear hK hx
                  rw [if_pos (by rfl)]
                  go_simp
                  simpa [upd, ds] using hK'
                · clear hdep
                  have hK' := hK w' (.int .i64 (q : Int)) (by simp) (hx.pure 11 _ (by decide) (by decide) (by decide) (by intro p hp e; simp only [List.mem_cons, List.not_mem_nil, or_false] at hp; rcases hp with rfl | rfl | rfl | rfl | rfl | rfl | rfl | rfl | rfl | rfl | rfl | rfl | rfl | rfl | rfl | rfl | rfl | rfl <;> first | (exact absurd e (by decide)) | assumption)) trivial
                  clear hK hx
                  rw [if_pos (by rfl)]
                  go_simp
                  simpa [upd] using hK'
                · have L11 : L 11 = true := (hdep ⟨11, .data⟩ (by simp) rfl).1
                  have d11 : t 11 = .int .i64 (q : Int) := by simpa using (hdep ⟨11, .data⟩ (by simp) rfl).2
                  clear hdep
                  have hK' := hK w' (.int .i64 (j0 : Int)) (by simp) (hx.pure 12 _ (by decide) (by decide) (by decide) (by intro p hp e; simp only [List.mem_cons, List.not_mem_nil, or_false] at hp; rcases hp with rfl | rfl | rfl | rfl | rfl | rfl | rfl | rfl | rfl | rfl | rfl | rfl | rfl | rfl | rfl | rfl | rfl | rfl <;> first | (exact absurd e (by decide)) | assumption)) trivial
                  clear hK hx
                  rw [if_pos (by rfl)]
                  go_simp
                  simpa [upd, d11, e0, w0] using hK'
                · have L10 : L 10 = true := (hdep ⟨10, .data⟩ (by simp) rfl).1
                  have d10 : t 10 = .slice (some ⟨g, 0, none⟩) q c := by simpa using (hdep ⟨10, .data⟩ (by simp) rfl).2
                  have L12 : L 12 = true := (hdep ⟨12, .data⟩ (by simp) rfl).1
                  have d12 : t 12 = .int .i64 (j0 : Int) := by simpa using (hdep ⟨12, .data⟩ (by simp) rfl).2
                  clear hdep
                  have hK' := hK w' (.pointer (some ⟨g, j0, none⟩)) (by simp) (hx.pure 13 _ (by decide) (by decide) (by decide) (by intro p hp e; simp only [List.mem_cons, List.not_mem_nil, or_false] at hp; rcases hp with rfl | rfl | rfl | rfl | rfl | rfl | rfl | rfl | rfl | rfl | rfl | rfl | rfl | rfl | rfl | rfl | rfl | rfl <;> first | (exact absurd e (by decide)) | assumption)) trivial
                  clear hK hx
                  rw [if_pos (by rfl)]
                  go_simp
                  simpa [upd, d10, d12] using hK'
                · have L13 : L 13 = true := (hdep ⟨13, .data⟩ (by simp) rfl).1
                  have d13 : t 13 = .pointer (some ⟨g, j0, none⟩) := by simpa using (hdep ⟨13, .data⟩ (by simp) rfl).2
                  clear hdep
                  have l15 := hx.cl.back (a := 15) (b := 14) (by decide) hLi
                  have l16 := hx.cl.back (a := 16) (b := 15) (by decide) l15
                  have hw := hx.world l16 (by decide)
                  have hc : w'.cell? ⟨g, j0, none⟩ = some (.int .u64 x0) := by rw [hw]; exact c0q
                  clear hw
                  have hK' := hK w' (.int .u64 (x0)) (by simp) (hx.pure 14 _ (by decide) (by decide) (by decide) (by intro p hp e; simp only [List.mem_cons, List.not_mem_nil, or_false] at hp; rcases hp with rfl | rfl | rfl | rfl | rfl | rfl | rfl | rfl | rfl | rfl | rfl | rfl | rfl | rfl | rfl | rfl | rfl | rfl <;> first | (exact absurd e (by decide)) | assumption)) trivial
                  clear hK hx
                  rw [if_pos (by rfl)]
                  go_simp
                  simpa [upd, d13] using hK'
                · have L9 : L 9 = true := (hdep ⟨9, .data⟩ (by simp) rfl).1
                  have d9 : t 9 = .int .u64 (IntKind.u64.wrap (IntKind.u64.wrap (s1 + x9) + s0)) := by simpa using (hdep ⟨9, .data⟩ (by simp) rfl).2
                  have L14 : L 14 = true := (hdep ⟨14, .data⟩ (by simp) rfl).1
                  have d14 : t 14 = .int .u64 (x0) := by simpa using (hdep ⟨14, .data⟩ (by simp) rfl).2
                  clear hdep
                  have hK' := hK w' (.int .u64 (IntKind.u64.wrap (IntKind.u64.wrap (IntKind.u64.wrap (s1 + x9) + s0) + x0))) (by simp) (hx.pure 15 _ (by decide) (by decide) (by decide) (by intro p hp e; simp only [List.mem_cons, List.not_mem_nil, or_false] at hp; rcases hp with rfl | rfl | rfl | rfl | rfl | rfl | rfl | rfl | rfl | rfl | rfl | rfl | rfl | rfl | rfl | rfl | rfl | rfl <;> first | (exact absurd e (by decide)) | assumption)) trivial
                  clear hK hx
                  rw [if_pos (by rfl)]
                  go_simp
                  simpa [upd, d9, d14] using hK'
                · have L15 : L 15 = true := (hdep ⟨15, .data⟩ (by simp) rfl).1
                  have d15 : t 15 = .int .u64 (IntKind.u64.wrap (IntKind.u64.wrap (IntKind.u64.wrap (s1 + x9) + s0) + x0)) := by simpa using (hdep ⟨15, .data⟩ (by simp) rfl).2
                  clear hdep
                  have hw := hx.world hLi (by decide)
                  have hK' := hK ((wq.alloc (.cells #[.int .u64 (IntKind.u64.wrap (IntKind.u64.wrap (IntKind.u64.wrap (s1 + x9) + s0) + x0))] 39)).drew) (.slice (some ⟨wq.heap.size, 0, none⟩) 1 1) (by simp) (hx.build _ hLi (by decide) (by decide) (by decide) (by intro p hp e; simp only [List.mem_cons, List.not_mem_nil, or_false] at hp; rcases hp with rfl | rfl | rfl | rfl | rfl | rfl | rfl | rfl | rfl | rfl | rfl | rfl | rfl | rfl | rfl | rfl | rfl | rfl <;> first | (exact absurd e (by decide)) | assumption)) trivial
                  clear hK hx
                  subst hw
                  rw [if_pos (by rfl)]
                  go_simp
                  simpa [upd, d15] using hK'
                · have L0 : L 0 = true := (hdep ⟨0, .data⟩ (by simp) rfl).1
                  have d0 : t 0 = .slice (some ⟨g, 0, none⟩) q c := by simpa using (hdep ⟨0, .data⟩ (by simp) rfl).2
                  have L16 : L 16 = true := (hdep ⟨16, .data⟩ (by simp) rfl).1
                  have d16 : t 16 = .slice (some ⟨wq.heap.size, 0, none⟩) 1 1 := by simpa using (hdep ⟨16, .data⟩ (by simp) rfl).2
                  clear hdep
                  have hw := hx.mid L16 hLi
                  have hK' : ∀ v9 w9, (fun w8 v8 => OwnU w8 w.heap.size v8 (schN bs q ++ [IntKind.u64.wrap (IntKind.u64.wrap (IntKind.u64.wrap (s1 + x9) + s0) + x0)]) ∧ Below w.heap.size w w8) w9 v9 → K _ w9 := fun v9 w9 hf => hK w9 v9 (by simp [updK]) (hx.app hf hLi (by decide) (by decide) (by intro p hp e; simp only [List.mem_cons, List.not_mem_nil, or_false] at hp; rcases hp with rfl | rfl | rfl | rfl | rfl | rfl | rfl | rfl | rfl | rfl | rfl | rfl | rfl | rfl | rfl | rfl | rfl | rfl <;> first | (exact absurd e (by decide)) | assumption)) trivial
                  clear hK hx
                  subst hw
                  rw [if_pos (by rfl)]
                  refine wp_appU _ (.tmp 80) (.tmp 96) rfl w.heap.size (.slice (some ⟨g, 0, none⟩) q c) (schN bs q) d0 HOX.out wq.heap.size 0 1 1 [IntKind.u64.wrap (IntKind.u64.wrap (IntKind.u64.wrap (s1 + x9) + s0) + x0)] d16 rfl HCX.out HLJ.out HLO.out ?_
                  intro v9 w9 h9 b9
                  have hK2 := hK' v9 w9 ⟨h9, HBX.out.trans b9⟩
                  clear hK' h9 b9
                  simpa [upd, Act.put] using hK2
                · have L17 : L 17 = true := (hdep ⟨17, .data⟩ (by simp) rfl).1
                  clear hdep
                  have hK' := hK w' (t 17) (by simp [updK]) (hx.asg (by decide) (by decide) (by intro p hp e; simp only [List.mem_cons, List.not_mem_nil, or_false] at hp; rcases hp with rfl | rfl | rfl | rfl | rfl | rfl | rfl | rfl | rfl | rfl | rfl | rfl | rfl | rfl | rfl | rfl | rfl | rfl <;> first | (exact absurd e (by decide)) | assumption)) trivial
                  clear hK hx
                  rw [if_pos (by rfl)]
                  go_simp
                  simpa [upd] using hK'
              case hdone =>
                intro L t w9' hx hg
                obtain ⟨hsa, hf⟩ := hx.fin (by simpa using hg 17 (by decide)) (by simpa using hg 18 (by decide))
                clear hg hx
                obtain ⟨ho9, hb9⟩ := hf
                have HO9 : Hid (OwnU w9' w.heap.size (t 17) (schN bs (q + 1))) := by rw [HSN.out, HWX.out]; exact ho9
                have HB9 := hid_ofS hb9
                clear ho9 hb9
                dsimp only
                rw [hsa]
                obtain ⟨v9, hv9⟩ : ∃ v, v = t 17 := ⟨_, rfl⟩
                rw [← hv9] at HO9 ⊢
                clear hv9 hsa
                go_wp2
                go_roundw
                case rel => exact ⟨q + 1, by omega, by omega, by go_num, HO9.out, HB9.out⟩
                case measure => simp [intOf]; omega
        · obtain rfl : q = 80 := by omega
          obtain ⟨g, c, rfl, hg1, hg2, hg3⟩ := hown.base
          rw [schN_len] at hown hg3 ⊢
          have HCW : Hid (∀ i, i < 80 → wr.cell? ⟨g, i, none⟩ = some (.int .u64 (wd bs i))) := fun i hi => by rw [hown.cellAt (schN_len _ _) i hi, schN_get _ _ _ hi]
          have HBz := hid_ofS hbel
          have HBKz := hid_ofS (HBK.out.below hbel)
          clear hown hbel
          generalize wr = wz at *
          have HE := hid_ofS (OwnK.empty (k := .u64) (t := 39) wz wz.heap.size (Nat.le_refl _))
          have HALz : Hid (Below wz.heap.size wz (wz.alloc (.cells #[] 39))) := (Below.refl _ _).alloc (Nat.le_refl _) _
          go_wp2_with (at_builtin; refine wpList_appK _ ktU rfl _ _ rfl wz.heap.size _ [] rfl HE.out ⟨bh, oh, none⟩ 8 ch hs rfl H8.out.1 ?m1 (by decide) (by simp) ?_)
          case m1 =>
            intro j hj
            rw [Addr.add_lit, HALz.out.cell (p := ⟨bh, oh + j, none⟩) HBKz.out.h.1]
            exact HBKz.out.h.2 j hj
          intro v1 w1 o1 b1 _
          obtain ⟨gv0, cv0, rfl, hv1, hv2, hv3⟩ := o1.base
          have HV1 : Hid (gv0 < w1.heap.size ∧ ∀ i, i < 8 → w1.cell? ⟨gv0, i, none⟩ = some (.int .u64 ((rnds hs bs 0).getD i 0))) := ⟨hv2, fun i hi => by
            have hl8 : hs.length = 8 := H8.out.1
            rw [hl8] at o1
            exact o1.cellAt hl8 i hi⟩
          have HB1 : Hid (Below wz.heap.size wz w1) := HALz.out.trans b1
          have hl8 : hs.length = 8 := H8.out.1
          rw [hl8] at hv3 ⊢
          clear o1 b1 HE HALz hv1 hl8
          go_wp2
          go_loopw [12, 13] (fun v i wr => ∃ (q gv cv : Nat), q ≤ 80 ∧ i = .int .i64 q ∧ v = .slice (some ⟨gv, 0, none⟩) 8 cv ∧ (gv < wr.heap.size ∧ ∀ i, i < 8 → wr.cell? ⟨gv, i, none⟩ = some (.int .u64 ((rnds hs bs q).getD i 0))) ∧ Below wz.heap.size wz wr) (fun _ i _ => 80 - (intOf i).toNat)
          case atStart => exact ⟨0, gv0, cv0, by omega, rfl, rfl, HV1.out, HB1.out⟩
          case round =>
            clear HV1 HB1
            obtain ⟨q, gv, cv, ht, rfl, rfl, hv, hbel⟩ := hrel
            by_cases hlt : q < 80
            · have hlt' : (q : Int) < 80 := by omega
              have hsz := hbel.size
              have HBq := hid_ofS hbel
              have HRN : Hid (rnds hs bs (q + 1) = rnd (rnds hs bs q) (IntKind.u64.wrap (kt q + wd bs q))) := rfl
              have HW8 := rnds_w8 H8.out bs q
              have ckq : wr.cell? ⟨bk, q, none⟩ = some (.int .u64 (kt q)) := (HBKz.out.below hbel).k.2 q (by omega)
              have cxq : wr.cell? ⟨g, q, none⟩ = some (.int .u64 (wd bs q)) := by rw [World.cell?_of_block (w := wz) (hbel.block g hg2)]; exact HCW.out q hlt
              have UK := kt_u64 q; have UX := HU.out q
              obtain ⟨kq, hkq⟩ : ∃ x, x = kt q := ⟨_, rfl⟩
              obtain ⟨xq, hxq⟩ : ∃ x, x = wd bs q := ⟨_, rfl⟩
              rw [← hkq] at ckq HRN UK; rw [← hxq] at cxq HRN UX
              clear hkq hxq
              unfold rnd at HRN
              have cy0 := hv.2 0 (by decide); have UY0 := HW8.2 0
              obtain ⟨y0, hy0⟩ : ∃ x, x = (rnds hs bs q).getD 0 0 := ⟨_, rfl⟩
              rw [← hy0] at cy0 UY0 HRN
              clear hy0
              have cy1 := hv.2 1 (by decide); have UY1 := HW8.2 1
              obtain ⟨y1, hy1⟩ : ∃ x, x = (rnds hs bs q).getD 1 0 := ⟨_, rfl⟩
              rw [← hy1] at cy1 UY1 HRN
              clear hy1
              have cy2 := hv.2 2 (by decide); have UY2 := HW8.2 2
              obtain ⟨y2, hy2⟩ : ∃ x, x = (rnds hs bs q).getD 2 0 := ⟨_, rfl⟩
              rw [← hy2] at cy2 UY2 HRN
              clear hy2
              have cy3 := hv.2 3 (by decide); have UY3 := HW8.2 3
              obtain ⟨y3, hy3⟩ : ∃ x, x = (rnds hs bs q).getD 3 0 := ⟨_, rfl⟩
              rw [← hy3] at cy3 UY3 HRN
              clear hy3
              have cy4 := hv.2 4 (by decide); have UY4 := HW8.2 4
              obtain ⟨y4, hy4⟩ : ∃ x, x = (rnds hs bs q).getD 4 0 := ⟨_, rfl⟩
              rw [← hy4] at cy4 UY4 HRN
              clear hy4
              have cy5 := hv.2 5 (by decide); have UY5 := HW8.2 5
              obtain ⟨y5, hy5⟩ : ∃ x, x = (rnds hs bs q).getD 5 0 := ⟨_, rfl⟩
              rw [← hy5] at cy5 UY5 HRN
              clear hy5
              have cy6 := hv.2 6 (by decide); have UY6 := HW8.2 6
              obtain ⟨y6, hy6⟩ : ∃ x, x = (rnds hs bs q).getD 6 0 := ⟨_, rfl⟩
              rw [← hy6] at cy6 UY6 HRN
              clear hy6
              have cy7 := hv.2 7 (by decide); have UY7 := HW8.2 7
              obtain ⟨y7, hy7⟩ : ∃ x, x = (rnds hs bs q).getD 7 0 := ⟨_, rfl⟩
              rw [← hy7] at cy7 UY7 HRN
              clear hy7
              have HUy4 := hid_ofS UY4; have HUy0 := hid_ofS UY0
              obtain ⟨uy00, uy01⟩ := UY0
              obtain ⟨uy10, uy11⟩ := UY1
              obtain ⟨uy20, uy21⟩ := UY2
              obtain ⟨uy30, uy31⟩ := UY3
              obtain ⟨uy40, uy41⟩ := UY4
              obtain ⟨uy50, uy51⟩ := UY5
              obtain ⟨uy60, uy61⟩ := UY6
              obtain ⟨uy70, uy71⟩ := UY7
              obtain ⟨uk0, uk1⟩ := UK; obtain ⟨ux0, ux1⟩ := UX
              have HV := hid_ofS hv
              clear hv HW8 hbel
              have HT1 : Hid (IntKind.u64.wrap (IntKind.u64.wrap (IntKind.u64.wrap (IntKind.u64.wrap (y7 + bits .xor .u64 (bits .xor .u64 (rtr 14 y4) (rtr 18 y4)) (rtr 41 y4)) + bits .xor .u64 (bits .and .u64 (y4) (y5)) (bits .and .u64 (bits .xor .u64 IntKind.u64.max y4) (y6))) + kq) + xq) = rt1 y0 y1 y2 y3 y4 y5 y6 y7 (IntKind.u64.wrap (kq + xq))) := by show _ = _; unfold rt1 chf bg1; exact wrap_as _ _ _
              have HT2 : Hid (IntKind.u64.wrap (bits .xor .u64 (bits .xor .u64 (rtr 28 y0) (rtr 34 y0)) (rtr 39 y0) + bits .xor .u64 (bits .xor .u64 (bits .and .u64 (y0) (y1)) (bits .and .u64 (y0) (y2))) (bits .and .u64 (y1) (y2))) = rt2 y0 y1 y2) := rfl
              obtain ⟨t1v, ht1⟩ : ∃ x, x = rt1 y0 y1 y2 y3 y4 y5 y6 y7 (IntKind.u64.wrap (kq + xq)) := ⟨_, rfl⟩
              obtain ⟨t2v, ht2⟩ : ∃ x, x = rt2 y0 y1 y2 := ⟨_, rfl⟩
              have UT1 : U64 t1v := by rw [ht1]; exact u64_wrap _
              have UT2 : U64 t2v := by rw [ht2]; exact u64_wrap _
              rw [← ht1] at HT1 HRN; rw [← ht2] at HT2 HRN
              clear ht1 ht2
              obtain ⟨ut10, ut11⟩ := UT1; obtain ⟨ut20, ut21⟩ := UT2
              go_wp2
              refine wp_region_any (by kernel_rfl) ?_
              refine wpAny_slotsU (fun _ _ _ => True) (frame := (fun (c0 c1 c2 c3 c4 c5 c6 c7 c8 c9 c10 c11 c12 c13 c14 c15 c17 c18 c19 c20 c21 c22 c23 c24 c25 c26 c27 c28 c29 c30 c31 c32 c33 c34 c35 c36 c37 c38 c39 c40 c41 c42 c43 c44 c45 c46 c47 c48 c49 c50 c51 c52 c53 c54 c55 c56 c57 c58 c59 c60 c61 c62 c63 c64 c65 c66 c67 c68 c69 c70 c71 c72 c73 c74 c75 c76 c77 c78 c79 c80 c81 c82 c83 c84 c85 c86 c87 c88 c89 c90 c91 c92 c93 c94 c95 c96 c97 c98 c99 c100 c101 c102 c103 c104 c105 c106 c107 c108 c109 c110 c146 c147 c148 c149 c150 c151 c152 c153 c154 c155 c156 c157 c158 c159 c160 c161 c162 c163 c164 c165 c166 c167 c168 c169 c170 c171 c172 c173 c174 c175 c176 c177 c178 c179 c180 c181 c182 c183 c184 c185 c186 c187 c188 c189 c190 c191 c192 c193 c194 c195 c196 c197 c198 c199 c200 c201 c202 c203 c204 c205 c206 c207 c208 c209 c210 c211 c212 c213 c214 : Value) => fun (t : Nat → Value) => ({ tmps := List.toArray (c0 :: c1 :: c2 :: c3 :: c4 :: c5 :: c6 :: c7 :: c8 :: c9 :: c10 :: c11 :: c12 :: c13 :: c14 :: c15 :: t 35 :: c17 :: c18 :: c19 :: c20 :: c21 :: c22 :: c23 :: c24 :: c25 :: c26 :: c27 :: c28 :: c29 :: c30 :: c31 :: c32 :: c33 :: c34 :: c35 :: c36 :: c37 :: c38 :: c39 :: c40 :: c41 :: c42 :: c43 :: c44 :: c45 :: c46 :: c47 :: c48 :: c49 :: c50 :: c51 :: c52 :: c53 :: c54 :: c55 :: c56 :: c57 :: c58 :: c59 :: c60 :: c61 :: c62 :: c63 :: c64 :: c65 :: c66 :: c67 :: c68 :: c69 :: c70 :: c71 :: c72 :: c73 :: c74 :: c75 :: c76 :: c77 :: c78 :: c79 :: c80 :: c81 :: c82 :: c83 :: c84 :: c85 :: c86 :: c87 :: c88 :: c89 :: c90 :: c91 :: c92 :: c93 :: c94 :: c95 :: c96 :: c97 :: c98 :: c99 :: c100 :: c101 :: c102 :: c103 :: c104 :: c105 :: c106 :: c107 :: c108 :: c109 :: c110 :: t 0 :: t 1 :: t 2 :: t 3 :: t 4 :: t 5 :: t 6 :: t 7 :: t 8 :: t 9 :: t 10 :: t 11 :: t 12 :: t 13 :: t 14 :: t 15 :: t 16 :: t 17 :: t 18 :: t 19 :: t 20 :: t 21 :: t 22 :: t 23 :: t 24 :: t 25 :: t 26 :: t 27 :: t 28 :: t 29 :: t 30 :: t 31 :: t 32 :: t 33 :: t 34 :: c146 :: c147 :: c148 :: c149 :: c150 :: c151 :: c152 :: c153 :: c154 :: c155 :: c156 :: c157 :: c158 :: c159 :: c160 :: c161 :: c162 :: c163 :: c164 :: c165 :: c166 :: c167 :: c168 :: c169 :: c170 :: c171 :: c172 :: c173 :: c174 :: c175 :: c176 :: c177 :: c178 :: c179 :: c180 :: c181 :: c182 :: c183 :: c184 :: c185 :: c186 :: c187 :: c188 :: c189 :: c190 :: c191 :: c192 :: c193 :: c194 :: c195 :: c196 :: c197 :: c198 :: c199 :: c200 :: c201 :: c202 :: c203 :: c204 :: c205 :: c206 :: c207 :: c208 :: c209 :: c210 :: c211 :: c212 :: c213 :: c214 :: []), defers := [] } : Act)) _ _ _ _ _ _ _ _ _ _ _ _ _ _ _ _ _ _ _ _ _ _ _ _ _ _ _ _ _ _ _ _ _ _ _ _ _ _ _ _ _ _ _ _ _ _ _ _ _ _ _ _ _ _ _ _ _ _ _ _ _ _ _ _ _ _ _ _ _ _ _ _ _ _ _ _ _ _ _ _ _ _ _ _ _ _ _ _ _ _ _ _ _ _ _ _ _ _ _ _ _ _ _ _ _ _ _ _ _ _ _ _ _ _ _ _ _ _ _ _ _ _ _ _ _ _ _ _ _ _ _ _ _ _ _ _ _ _ _ _ _ _ _ _ _ _ _ _ _ _ _ _ _ _ _ _ _ _ _ _ _ _ _ _ _ _ _ _ _ _ _ _ _ _ _ _ _ _ _)
                (Ext := fun L u w' => w' = wr.drew) (Good := fun i L w' v => if i = 0 then v = .slice (some ⟨gv, 0, none⟩) 8 cv else if i = 1 then v = .pointer (some ⟨gv, 7, none⟩) else if i = 2 then v = .int .u64 (y7) else if i = 3 then v = .int .u64 (y4) else if i = 4 then v = .int .u64 (rtr 14 y4) else if i = 5 then v = .int .u64 (y4) else if i = 6 then v = .int .u64 (rtr 18 y4) else if i = 7 then v = .int .u64 (bits .xor .u64 (rtr 14 y4) (rtr 18 y4)) else if i = 8 then v = .int .u64 (y4) else if i = 9 then v = .int .u64 (rtr 41 y4) else if i = 10 then v = .int .u64 (bits .xor .u64 (bits .xor .u64 (rtr 14 y4) (rtr 18 y4)) (rtr 41 y4)) else if i = 11 then v = .int .u64 (IntKind.u64.wrap (y7 + bits .xor .u64 (bits .xor .u64 (rtr 14 y4) (rtr 18 y4)) (rtr 41 y4))) else if i = 12 then v = .int .u64 (y4) else if i = 13 then v = .slice (some ⟨gv, 0, none⟩) 8 cv else if i = 14 then v = .pointer (some ⟨gv, 5, none⟩) else if i = 15 then v = .int .u64 (y5) else if i = 16 then v = .int .u64 (bits .and .u64 (y4) (y5)) else if i = 17 then v = .int .u64 (y4) else if i = 18 then v = .int .u64 (bits .xor .u64 IntKind.u64.max y4) else if i = 19 then v = .slice (some ⟨gv, 0, none⟩) 8 cv else if i = 20 then v = .pointer (some ⟨gv, 6, none⟩) else if i = 21 then v = .int .u64 (y6) else if i = 22 then v = .int .u64 (bits .and .u64 (bits .xor .u64 IntKind.u64.max y4) (y6)) else if i = 23 then v = .int .u64 (bits .xor .u64 (bits .and .u64 (y4) (y5)) (bits .and .u64 (bits .xor .u64 IntKind.u64.max y4) (y6))) else if i = 24 then v = .int .u64 (IntKind.u64.wrap (IntKind.u64.wrap (y7 + bits .xor .u64 (bits .xor .u64 (rtr 14 y4) (rtr 18 y4)) (rtr 41 y4)) + bits .xor .u64 (bits .and .u64 (y4) (y5)) (bits .and .u64 (bits .xor .u64 IntKind.u64.max y4) (y6)))) else if i = 25 then v = .slice (some ⟨bk, 0, none⟩) 88 ck else if i = 26 then v = .int .i64 (q : Int) else if i = 27 then v = .pointer (some ⟨bk, q, none⟩) else if i = 28 then v = .int .u64 (kq) else if i = 29 then v = .int .u64 (IntKind.u64.wrap (IntKind.u64.wrap (IntKind.u64.wrap (y7 + bits .xor .u64 (bits .xor .u64 (rtr 14 y4) (rtr 18 y4)) (rtr 41 y4)) + bits .xor .u64 (bits .and .u64 (y4) (y5)) (bits .and .u64 (bits .xor .u64 IntKind.u64.max y4) (y6))) + kq)) else if i = 30 then v = .slice (some ⟨g, 0, none⟩) 80 c else if i = 31 then v = .int .i64 (q : Int) else if i = 32 then v = .pointer (some ⟨g, q, none⟩) else if i = 33 then v = .int .u64 (xq) else if i = 34 then v = .int .u64 (IntKind.u64.wrap (IntKind.u64.wrap (IntKind.u64.wrap (IntKind.u64.wrap (y7 + bits .xor .u64 (bits .xor .u64 (rtr 14 y4) (rtr 18 y4)) (rtr 41 y4)) + bits .xor .u64 (bits .and .u64 (y4) (y5)) (bits .and .u64 (bits .xor .u64 IntKind.u64.max y4) (y6))) + kq) + xq)) else if i = 35 then v = .int .u64 (IntKind.u64.wrap (IntKind.u64.wrap (IntKind.u64.wrap (IntKind.u64.wrap (y7 + bits .xor .u64 (bits .xor .u64 (rtr 14 y4) (rtr 18 y4)) (rtr 41 y4)) + bits .xor .u64 (bits .and .u64 (y4) (y5)) (bits .and .u64 (bits .xor .u64 IntKind.u64.max y4) (y6))) + kq) + xq)) else True) ?hstab (by kernel_rfl) ?hop ?hdone _ _ ((fun (x0 x1 x2 x3 x4 x5 x6 x7 x8 x9 x10 x11 x12 x13 x14 x15 x16 x17 x18 x19 x20 x21 x22 x23 x24 x25 x26 x27 x28 x29 x30 x31 x32 x33 x34 x35 : Value) => fun (i : Nat) => if i = 0 then x0 else if i = 1 then x1 else if i = 2 then x2 else if i = 3 then x3 else if i = 4 then x4 else if i = 5 then x5 else if i = 6 then x6 else if i = 7 then x7 else if i = 8 then x8 else if i = 9 then x9 else if i = 10 then x10 else if i = 11 then x11 else if i = 12 then x12 else if i = 13 then x13 else if i = 14 then x14 else if i = 15 then x15 else if i = 16 then x16 else if i = 17 then x17 else if i = 18 then x18 else if i = 19 then x19 else if i = 20 then x20 else if i = 21 then x21 else if i = 22 then x22 else if i = 23 then x23 else if i = 24 then x24 else if i = 25 then x25 else if i = 26 then x26 else if i = 27 then x27 else if i = 28 then x28 else if i = 29 then x29 else if i = 30 then x30 else if i = 31 then x31 else if i = 32 then x32 else if i = 33 then x33 else if i = 34 then x34 else if i = 35 then x35 else undef) _ _ _ _ _ _ _ _ _ _ _ _ _ _ _ _ _ _ _ _ _ _ _ _ _ _ _ _ _ _ _ _ _ _ _ _) _ (by simp) rfl ?start (by simp)
              case start => intro i hi h; exact absurd h (by rw [Array.getD_eq_getD_getElem?, Array.getElem?_replicate]; split <;> simp)
              case hstab => intro j L w9 w' i v hM hij hLi h; exact h
              case hop =>
                intro i o L t w' ho hLi hx hdep K hK
                have hi : i < 36 := (Array.getElem?_eq_some_iff.1 ho).1
                obtain rfl | rfl | rfl | rfl | rfl | rfl | rfl | rfl | rfl | rfl | rfl | rfl | rfl | rfl | rfl | rfl | rfl | rfl | rfl | rfl | rfl | rfl | rfl | rfl | rfl | rfl | rfl | rfl | rfl | rfl | rfl | rfl | rfl | rfl | rfl | rfl : i = 0 ∨ i = 1 ∨ i = 2 ∨ i = 3 ∨ i = 4 ∨ i = 5 ∨ i = 6 ∨ i = 7 ∨ i = 8 ∨ i = 9 ∨ i = 10 ∨ i = 11 ∨ i = 12 ∨ i = 13 ∨ i = 14 ∨ i = 15 ∨ i = 16 ∨ i = 17 ∨ i = 18 ∨ i = 19 ∨ i = 20 ∨ i = 21 ∨ i = 22 ∨ i = 23 ∨ i = 24 ∨ i = 25 ∨ i = 26 ∨ i = 27 ∨ i = 28 ∨ i = 29 ∨ i = 30 ∨ i = 31 ∨ i = 32 ∨ i = 33 ∨ i = 34 ∨ i = 35 := by omega
                all_goals (simp at ho; subst ho)
                · clear hdep
                  have hK' := hK w' (.slice (some ⟨gv, 0, none⟩) 8 cv) (by simp) hx trivial
                  clear hK hx
                  rw [if_pos (by rfl)]
                  go_simp
                  simpa [upd] using hK'
                · have d0 : t 0 = .slice (some ⟨gv, 0, none⟩) 8 cv := by simpa using (hdep ⟨0, .data⟩ (by simp) rfl).2
                  clear hdep
                  have hK' := hK w' (.pointer (some ⟨gv, 7, none⟩)) (by simp) hx trivial
                  clear hK hx
                  rw [if_pos (by rfl)]
                  go_simp
                  simpa [upd, d0] using hK'
                · have d1 : t 1 = .pointer (some ⟨gv, 7, none⟩) := by simpa using (hdep ⟨1, .data⟩ (by simp) rfl).2
                  clear hdep
                  have hc : w'.cell? ⟨gv, 7, none⟩ = some (.int .u64 y7) := by rw [hx]; exact cy7
                  have hK' := hK w' (.int .u64 (y7)) (by simp) hx trivial
                  clear hK hx
                  rw [if_pos (by rfl)]
                  go_simp
                  simpa [upd, d1] using hK'
                · clear hdep
                  have hK' := hK w' (.int .u64 (y4)) (by simp) hx trivial
                  clear hK hx
                  rw [if_pos (by rfl)]
                  go_simp
                  simpa [upd] using hK'
                · have d3 : t 3 = .int .u64 (y4) := by simpa using (hdep ⟨3, .data⟩ (by simp) rfl).2
                  clear hdep
                  have A := rs14 y4 w' HUy4.out
                  have hK' := hK w' (.int .u64 (rtr 14 y4)) (by simp) hx trivial
                  clear hK hx
                  rw [if_pos (by rfl)]
                  go_simp
                  try simp only [d3]
                  refine A.mono ?_
                  rintro e w9 ⟨rfl, h9⟩
                  subst h9
                  clear A
                  go_simp
                  simpa [upd, d3] using hK'
                · clear hdep
                  have hK' := hK w' (.int .u64 (y4)) (by simp) hx trivial
                  clear hK hx
                  rw [if_pos (by rfl)]
                  go_simp
                  simpa [upd] using hK'
                · have d5 : t 5 = .int .u64 (y4) := by simpa using (hdep ⟨5, .data⟩ (by simp) rfl).2
                  clear hdep
                  have A := rs18 y4 w' HUy4.out
                  have hK' := hK w' (.int .u64 (rtr 18 y4)) (by simp) hx trivial
                  clear hK hx
                  rw [if_pos (by rfl)]
                  go_simp
                  try simp only [d5]
                  refine A.mono ?_
                  rintro e w9 ⟨rfl, h9⟩
                  subst h9
                  clear A
                  go_simp
                  simpa [upd, d5] using hK'
                · have d4 : t 4 = .int .u64 (rtr 14 y4) := by simpa using (hdep ⟨4, .data⟩ (by simp) rfl).2
                  have d6 : t 6 = .int .u64 (rtr 18 y4) := by simpa using (hdep ⟨6, .data⟩ (by simp) rfl).2
                  clear hdep
                  have hK' := hK w' (.int .u64 (bits .xor .u64 (rtr 14 y4) (rtr 18 y4))) (by simp) hx trivial
                  clear hK hx
                  rw [if_pos (by rfl)]
                  go_simp
                  simpa [upd, d4, d6] using hK'
                · clear hdep
                  have hK' := hK w' (.int .u64 (y4)) (by simp) hx trivial
                  clear hK hx
                  rw [if_pos (by rfl)]
                  go_simp
                  simpa [upd] using hK'
                · have d8 : t 8 = .int .u64 (y4) := by simpa using (hdep ⟨8, .data⟩ (by simp) rfl).2
                  clear hdep
                  have A := rs41 y4 w' HUy4.out
                  have hK' := hK w' (.int .u64 (rtr 41 y4)) (by simp) hx trivial
                  clear hK hx
                  rw [if_pos (by rfl)]
                  go_simp
                  try simp only [d8]
                  refine A.mono ?_
                  rintro e w9 ⟨rfl, h9⟩
                  subst h9
                  clear A
                  go_simp
                  simpa [upd, d8] using hK'
                · have d7 : t 7 = .int .u64 (bits .xor .u64 (rtr 14 y4) (rtr 18 y4)) := by simpa using (hdep ⟨7, .data⟩ (by simp) rfl).2
                  have d9 : t 9 = .int .u64 (rtr 41 y4) := by simpa using (hdep ⟨9, .data⟩ (by simp) rfl).2
                  clear hdep
                  have hK' := hK w' (.int .u64 (bits .xor .u64 (bits .xor .u64 (rtr 14 y4) (rtr 18 y4)) (rtr 41 y4))) (by simp) hx trivial
                  clear hK hx
                  rw [if_pos (by rfl)]
                  go_simp
                  simpa [upd, d7, d9] using hK'
                · have d2 : t 2 = .int .u64 (y7) := by simpa using (hdep ⟨2, .data⟩ (by simp) rfl).2
                  have d10 : t 10 = .int .u64 (bits .xor .u64 (bits .xor .u64 (rtr 14 y4) (rtr 18 y4)) (rtr 41 y4)) := by simpa using (hdep ⟨10, .data⟩ (by simp) rfl).2
                  clear hdep
                  have hK' := hK w' (.int .u64 (IntKind.u64.wrap (y7 + bits .xor .u64 (bits .xor .u64 (rtr 14 y4) (rtr 18 y4)) (rtr 41 y4)))) (by simp) hx trivial
                  clear hK hx
                  rw [if_pos (by rfl)]
                  go_simp
                  simpa [upd, d2, d10] using hK'
                · clear hdep
                  have hK' := hK w' (.int .u64 (y4)) (by simp) hx trivial
                  clear hK hx
                  rw [if_pos (by rfl)]
                  go_simp
                  simpa [upd] using hK'
                · clear hdep
                  have hK' := hK w' (.slice (some ⟨gv, 0, none⟩) 8 cv) (by simp) hx trivial
                  clear hK hx
                  rw [if_pos (by rfl)]
                  go_simp
                  simpa [upd] using hK'
                · have d13 : t 13 = .slice (some ⟨gv, 0, none⟩) 8 cv := by simpa using (hdep ⟨13, .data⟩ (by simp) rfl).2
                  clear hdep
                  have hK' := hK w' (.pointer (some ⟨gv, 5, none⟩)) (by simp) hx trivial
                  clear hK hx
                  rw [if_pos (by rfl)]
                  go_simp
                  simpa [upd, d13] using hK'
                · have d14 : t 14 = .pointer (some ⟨gv, 5, none⟩) := by simpa using (hdep ⟨14, .data⟩ (by simp) rfl).2
                  clear hdep
                  have hc : w'.cell? ⟨gv, 5, none⟩ = some (.int .u64 y5) := by rw [hx]; exact cy5
                  have hK' := hK w' (.int .u64 (y5)) (by simp) hx trivial
                  clear hK hx
                  rw [if_pos (by rfl)]
                  go_simp
                  simpa [upd, d14] using hK'
                · have d12 : t 12 = .int .u64 (y4) := by simpa using (hdep ⟨12, .data⟩ (by simp) rfl).2
                  have d15 : t 15 = .int .u64 (y5) := by simpa using (hdep ⟨15, .data⟩ (by simp) rfl).2
                  clear hdep
                  have hK' := hK w' (.int .u64 (bits .and .u64 (y4) (y5))) (by simp) hx trivial
                  clear hK hx
                  rw [if_pos (by rfl)]
                  go_simp
                  simpa [upd, d12, d15] using hK'
                · clear hdep
                  have hK' := hK w' (.int .u64 (y4)) (by simp) hx trivial
                  clear hK hx
                  rw [if_pos (by rfl)]
                  go_simp
                  simpa [upd] using hK'
                · have d17 : t 17 = .int .u64 (y4) := by simpa using (hdep ⟨17, .data⟩ (by simp) rfl).2
                  clear hdep
                  have hK' := hK w' (.int .u64 (bits .xor .u64 IntKind.u64.max y4)) (by simp) hx trivial
                  clear hK hx
                  rw [if_pos (by rfl)]
                  go_simp
                  simpa [upd, d17, IntKind.signed] using hK'
                · clear hdep
                  have hK' := hK w' (.slice (some ⟨gv, 0, none⟩) 8 cv) (by simp) hx trivial
                  clear hK hx
                  rw [if_pos (by rfl)]
                  go_simp
                  simpa [upd] using hK'
                · have d19 : t 19 = .slice (some ⟨gv, 0, none⟩) 8 cv := by simpa using (hdep ⟨19, .data⟩ (by simp) rfl).2
                  clear hdep
                  have hK' := hK w' (.pointer (some ⟨gv, 6, none⟩)) (by simp) hx trivial
                  clear hK hx
                  rw [if_pos (by rfl)]
                  go_simp
                  simpa [upd, d19] using hK'
                · have d20 : t 20 = .pointer (some ⟨gv, 6, none⟩) := by simpa using (hdep ⟨20, .data⟩ (by simp) rfl).2
                  clear hdep
                  have hc : w'.cell? ⟨gv, 6, none⟩ = some (.int .u64 y6) := by rw [hx]; exact cy6
                  have hK' := hK w' (.int .u64 (y6)) (by simp) hx trivial
                  clear hK hx
                  rw [if_pos (by rfl)]
                  go_simp
                  simpa [upd, d20] using hK'
                · have d18 : t 18 = .int .u64 (bits .xor .u64 IntKind.u64.max y4) := by simpa using (hdep ⟨18, .data⟩ (by simp) rfl).2
                  have d21 : t 21 = .int .u64 (y6) := by simpa using (hdep ⟨21, .data⟩ (by simp) rfl).2
                  clear hdep
                  have hK' := hK w' (.int .u64 (bits .and .u64 (bits .xor .u64 IntKind.u64.max y4) (y6))) (by simp) hx trivial
                  clear hK hx
                  rw [if_pos (by rfl)]
                  go_simp
                  simpa [upd, d18, d21] using hK'
                · have d16 : t 16 = .int .u64 (bits .and .u64 (y4) (y5)) := by simpa using (hdep ⟨16, .data⟩ (by simp) rfl).2
                  have d22 : t 22 = .int .u64 (bits .and .u64 (bits .xor .u64 IntKind.u64.max y4) (y6)) := by simpa using (hdep ⟨22, .data⟩ (by simp) rfl).2
                  clear hdep
                  have hK' := hK w' (.int .u64 (bits .xor .u64 (bits .and .u64 (y4) (y5)) (bits .and .u64 (bits .xor .u64 IntKind.u64.max y4) (y6)))) (by simp) hx trivial
                  clear hK hx
                  rw [if_pos (by rfl)]
                  go_simp
                  simpa [upd, d16, d22] using hK'
                · have d11 : t 11 = .int .u64 (IntKind.u64.wrap (y7 + bits .xor .u64 (bits .xor .u64 (rtr 14 y4) (rtr 18 y4)) (rtr 41 y4))) := by simpa using (hdep ⟨11, .data⟩ (by simp) rfl).2
                  have d23 : t 23 = .int .u64 (bits .xor .u64 (bits .and .u64 (y4) (y5)) (bits .and .u64 (bits .xor .u64 IntKind.u64.max y4) (y6))) := by simpa using (hdep ⟨23, .data⟩ (by simp) rfl).2
                  clear hdep
                  have hK' := hK w' (.int .u64 (IntKind.u64.wrap (IntKind.u64.wrap (y7 + bits .xor .u64 (bits .xor .u64 (rtr 14 y4) (rtr 18 y4)) (rtr 41 y4)) + bits .xor .u64 (bits .and .u64 (y4) (y5)) (bits .and .u64 (bits .xor .u64 IntKind.u64.max y4) (y6))))) (by simp) hx trivial
                  clear hK hx
                  rw [if_pos (by rfl)]
                  go_simp
                  simpa [upd, d11, d23] using hK'
                · clear hdep
                  have hK' := hK w' (.slice (some ⟨bk, 0, none⟩) 88 ck) (by simp) hx trivial
                  clear hK hx
                  rw [if_pos (by rfl)]
                  go_simp
                  simpa [upd] using hK'
                · clear hdep
                  have hK' := hK w' (.int .i64 (q : Int)) (by simp) hx trivial
                  clear hK hx
                  rw [if_pos (by rfl)]
                  go_simp
                  simpa [upd] using hK'
                · have d25 : t 25 = .slice (some ⟨bk, 0, none⟩) 88 ck := by simpa using (hdep ⟨25, .data⟩ (by simp) rfl).2
                  have d26 : t 26 = .int .i64 (q : Int) := by simpa using (hdep ⟨26, .data⟩ (by simp) rfl).2
                  clear hdep
                  have hq8 : (q : Int) < 88 := by omega
                  have hK' := hK w' (.pointer (some ⟨bk, q, none⟩)) (by simp) hx trivial
                  clear hK hx
                  rw [if_pos (by rfl)]
                  go_simp
                  simpa [upd, d25, d26] using hK'
                · have d27 : t 27 = .pointer (some ⟨bk, q, none⟩) := by simpa using (hdep ⟨27, .data⟩ (by simp) rfl).2
                  clear hdep
                  have hc : w'.cell? ⟨bk, q, none⟩ = some (.int .u64 kq) := by rw [hx]; exact ckq
                  have hK' := hK w' (.int .u64 (kq)) (by simp) hx trivial
                  clear hK hx
                  rw [if_pos (by rfl)]
                  go_simp
                  simpa [upd, d27] using hK'
                · have d24 : t 24 = .int .u64 (IntKind.u64.wrap (IntKind.u64.wrap (y7 + bits .xor .u64 (bits .xor .u64 (rtr 14 y4) (rtr 18 y4)) (rtr 41 y4)) + bits .xor .u64 (bits .and .u64 (y4) (y5)) (bits .and .u64 (bits .xor .u64 IntKind.u64.max y4) (y6)))) := by simpa using (hdep ⟨24, .data⟩ (by simp) rfl).2
                  have d28 : t 28 = .int .u64 (kq) := by simpa using (hdep ⟨28, .data⟩ (by simp) rfl).2
                  clear hdep
                  have hK' := hK w' (.int .u64 (IntKind.u64.wrap (IntKind.u64.wrap (IntKind.u64.wrap (y7 + bits .xor .u64 (bits .xor .u64 (rtr 14 y4) (rtr 18 y4)) (rtr 41 y4)) + bits .xor .u64 (bits .and .u64 (y4) (y5)) (bits .and .u64 (bits .xor .u64 IntKind.u64.max y4) (y6))) + kq))) (by simp) hx trivial
                  clear hK hx
                  rw [if_pos (by rfl)]
                  go_simp
                  simpa [upd, d24, d28] using hK'
                · clear hdep
                  have hK' := hK w' (.slice (some ⟨g, 0, none⟩) 80 c) (by simp) hx trivial
                  clear hK hx
                  rw [if_pos (by rfl)]
                  go_simp
                  simpa [upd] using hK'
                · clear hdep
                  have hK' := hK w' (.int .i64 (q : Int)) (by simp) hx trivial
                  clear hK hx
                  rw [if_pos (by rfl)]
                  go_simp
                  simpa [upd] using hK'
                · have d30 : t 30 = .slice (some ⟨g, 0, none⟩) 80 c := by simpa using (hdep ⟨30, .data⟩ (by simp) rfl).2
                  have d31 : t 31 = .int .i64 (q : Int) := by simpa using (hdep ⟨31, .data⟩ (by simp) rfl).2
                  clear hdep
                  have hq8 : (q : Int) < 80 := by omega
                  have hK' := hK w' (.pointer (some ⟨g, q, none⟩)) (by simp) hx trivial
                  clear hK hx
                  rw [if_pos (by rfl)]
                  go_simp
                  simpa [upd, d30, d31] using hK'
                · have d32 : t 32 = .pointer (some ⟨g, q, none⟩) := by simpa using (hdep ⟨32, .data⟩ (by simp) rfl).2
                  clear hdep
                  have hc : w'.cell? ⟨g, q, none⟩ = some (.int .u64 xq) := by rw [hx]; exact cxq
                  have hK' := hK w' (.int .u64 (xq)) (by simp) hx trivial
                  clear hK hx
                  rw [if_pos (by rfl)]
                  go_simp
                  simpa [upd, d32] using hK'
                · have d29 : t 29 = .int .u64 (IntKind.u64.wrap (IntKind.u64.wrap (IntKind.u64.wrap (y7 + bits .xor .u64 (bits .xor .u64 (rtr 14 y4) (rtr 18 y4)) (rtr 41 y4)) + bits .xor .u64 (bits .and .u64 (y4) (y5)) (bits .and .u64 (bits .xor .u64 IntKind.u64.max y4) (y6))) + kq)) := by simpa using (hdep ⟨29, .data⟩ (by simp) rfl).2
                  have d33 : t 33 = .int .u64 (xq) := by simpa using (hdep ⟨33, .data⟩ (by simp) rfl).2
                  clear hdep
                  have hK' := hK w' (.int .u64 (IntKind.u64.wrap (IntKind.u64.wrap (IntKind.u64.wrap (IntKind.u64.wrap (y7 + bits .xor .u64 (bits .xor .u64 (rtr 14 y4) (rtr 18 y4)) (rtr 41 y4)) + bits .xor .u64 (bits .and .u64 (y4) (y5)) (bits .and .u64 (bits .xor .u64 IntKind.u64.max y4) (y6))) + kq) + xq))) (by simp) hx trivial
                  clear hK hx
                  rw [if_pos (by rfl)]
                  go_simp
                  simpa [upd, d29, d33] using hK'
                · have d34 : t 34 = .int .u64 (IntKind.u64.wrap (IntKind.u64.wrap (IntKind.u64.wrap (IntKind.u64.wrap (y7 + bits .xor .u64 (bits .xor .u64 (rtr 14 y4) (rtr 18 y4)) (rtr 41 y4)) + bits .xor .u64 (bits .and .u64 (y4) (y5)) (bits .and .u64 (bits .xor .u64 IntKind.u64.max y4) (y6))) + kq) + xq)) := by simpa using (hdep ⟨34, .data⟩ (by simp) rfl).2
                  clear hdep
                  have hK' := hK w' (.int .u64 (IntKind.u64.wrap (IntKind.u64.wrap (IntKind.u64.wrap (IntKind.u64.wrap (y7 + bits .xor .u64 (bits .xor .u64 (rtr 14 y4) (rtr 18 y4)) (rtr 41 y4)) + bits .xor .u64 (bits .and .u64 (y4) (y5)) (bits .and .u64 (bits .xor .u64 IntKind.u64.max y4) (y6))) + kq) + xq))) (by simp) hx trivial
                  clear hK hx
                  rw [if_pos (by rfl)]
                  go_simp
                  simpa [upd, d34] using hK'
              case hdone =>
                intro L t w7 hx hg
                have d35 : t 35 = .int .u64 (IntKind.u64.wrap (IntKind.u64.wrap (IntKind.u64.wrap (IntKind.u64.wrap (y7 + bits .xor .u64 (bits .xor .u64 (rtr 14 y4) (rtr 18 y4)) (rtr 41 y4)) + bits .xor .u64 (bits .and .u64 (y4) (y5)) (bits .and .u64 (bits .xor .u64 IntKind.u64.max y4) (y6))) + kq) + xq)) := by simpa using hg 35 (by decide)
                clear hg
                subst hx
                dsimp only
                rw [d35, HT1.out]
                clear d35
                go_wp2
                refine wp_region_any (by kernel_rfl) ?_
                refine wpAny_slotsU (fun _ _ _ => True) (frame := (fun (c0 c1 c2 c3 c4 c5 c6 c7 c8 c9 c10 c11 c12 c13 c14 c15 c16 c18 c19 c20 c21 c22 c23 c24 c25 c26 c27 c28 c29 c30 c31 c32 c33 c34 c35 c36 c37 c38 c39 c40 c41 c42 c43 c44 c45 c46 c47 c48 c49 c50 c51 c52 c53 c54 c55 c56 c57 c58 c59 c60 c61 c62 c63 c64 c65 c66 c67 c68 c69 c70 c71 c72 c73 c74 c75 c76 c77 c78 c79 c80 c81 c82 c83 c84 c85 c86 c87 c88 c89 c90 c91 c92 c93 c94 c95 c96 c97 c98 c99 c100 c101 c102 c103 c104 c105 c106 c107 c108 c109 c110 c111 c112 c113 c114 c115 c116 c117 c118 c119 c120 c121 c122 c123 c124 c125 c126 c127 c128 c129 c130 c131 c132 c133 c134 c135 c136 c137 c138 c139 c140 c141 c142 c143 c144 c145 c174 c175 c176 c177 c178 c179 c180 c181 c182 c183 c184 c185 c186 c187 c188 c189 c190 c191 c192 c193 c194 c195 c196 c197 c198 c199 c200 c201 c202 c203 c204 c205 c206 c207 c208 c209 c210 c211 c212 c213 c214 : Value) => fun (t : Nat → Value) => ({ tmps := List.toArray (c0 :: c1 :: c2 :: c3 :: c4 :: c5 :: c6 :: c7 :: c8 :: c9 :: c10 :: c11 :: c12 :: c13 :: c14 :: c15 :: c16 :: t 28 :: c18 :: c19 :: c20 :: c21 :: c22 :: c23 :: c24 :: c25 :: c26 :: c27 :: c28 :: c29 :: c30 :: c31 :: c32 :: c33 :: c34 :: c35 :: c36 :: c37 :: c38 :: c39 :: c40 :: c41 :: c42 :: c43 :: c44 :: c45 :: c46 :: c47 :: c48 :: c49 :: c50 :: c51 :: c52 :: c53 :: c54 :: c55 :: c56 :: c57 :: c58 :: c59 :: c60 :: c61 :: c62 :: c63 :: c64 :: c65 :: c66 :: c67 :: c68 :: c69 :: c70 :: c71 :: c72 :: c73 :: c74 :: c75 :: c76 :: c77 :: c78 :: c79 :: c80 :: c81 :: c82 :: c83 :: c84 :: c85 :: c86 :: c87 :: c88 :: c89 :: c90 :: c91 :: c92 :: c93 :: c94 :: c95 :: c96 :: c97 :: c98 :: c99 :: c100 :: c101 :: c102 :: c103 :: c104 :: c105 :: c106 :: c107 :: c108 :: c109 :: c110 :: c111 :: c112 :: c113 :: c114 :: c115 :: c116 :: c117 :: c118 :: c119 :: c120 :: c121 :: c122 :: c123 :: c124 :: c125 :: c126 :: c127 :: c128 :: c129 :: c130 :: c131 :: c132 :: c133 :: c134 :: c135 :: c136 :: c137 :: c138 :: c139 :: c140 :: c141 :: c142 :: c143 :: c144 :: c145 :: t 0 :: t 1 :: t 2 :: t 3 :: t 4 :: t 5 :: t 6 :: t 7 :: t 8 :: t 9 :: t 10 :: t 11 :: t 12 :: t 13 :: t 14 :: t 15 :: t 16 :: t 17 :: t 18 :: t 19 :: t 20 :: t 21 :: t 22 :: t 23 :: t 24 :: t 25 :: t 26 :: t 27 :: c174 :: c175 :: c176 :: c177 :: c178 :: c179 :: c180 :: c181 :: c182 :: c183 :: c184 :: c185 :: c186 :: c187 :: c188 :: c189 :: c190 :: c191 :: c192 :: c193 :: c194 :: c195 :: c196 :: c197 :: c198 :: c199 :: c200 :: c201 :: c202 :: c203 :: c204 :: c205 :: c206 :: c207 :: c208 :: c209 :: c210 :: c211 :: c212 :: c213 :: c214 :: []), defers := [] } : Act)) _ _ _ _ _ _ _ _ _ _ _ _ _ _ _ _ _ _ _ _ _ _ _ _ _ _ _ _ _ _ _ _ _ _ _ _ _ _ _ _ _ _ _ _ _ _ _ _ _ _ _ _ _ _ _ _ _ _ _ _ _ _ _ _ _ _ _ _ _ _ _ _ _ _ _ _ _ _ _ _ _ _ _ _ _ _ _ _ _ _ _ _ _ _ _ _ _ _ _ _ _ _ _ _ _ _ _ _ _ _ _ _ _ _ _ _ _ _ _ _ _ _ _ _ _ _ _ _ _ _ _ _ _ _ _ _ _ _ _ _ _ _ _ _ _ _ _ _ _ _ _ _ _ _ _ _ _ _ _ _ _ _ _ _ _ _ _ _ _ _ _ _ _ _ _ _ _ _ _ _ _ _ _ _ _ _)
                  (Ext := fun L u w' => w' = wr.drew.drew) (Good := fun i L w' v => if i = 0 then v = .int .u64 (y0) else if i = 1 then v = .int .u64 (rtr 28 y0) else if i = 2 then v = .int .u64 (y0) else if i = 3 then v = .int .u64 (rtr 34 y0) else if i = 4 then v = .int .u64 (bits .xor .u64 (rtr 28 y0) (rtr 34 y0)) else if i = 5 then v = .int .u64 (y0) else if i = 6 then v = .int .u64 (rtr 39 y0) else if i = 7 then v = .int .u64 (bits .xor .u64 (bits .xor .u64 (rtr 28 y0) (rtr 34 y0)) (rtr 39 y0)) else if i = 8 then v = .int .u64 (y0) else if i = 9 then v = .slice (some ⟨gv, 0, none⟩) 8 cv else if i = 10 then v = .pointer (some ⟨gv, 1, none⟩) else if i = 11 then v = .int .u64 (y1) else if i = 12 then v = .int .u64 (bits .and .u64 (y0) (y1)) else if i = 13 then v = .int .u64 (y0) else if i = 14 then v = .slice (some ⟨gv, 0, none⟩) 8 cv else if i = 15 then v = .pointer (some ⟨gv, 2, none⟩) else if i = 16 then v = .int .u64 (y2) else if i = 17 then v = .int .u64 (bits .and .u64 (y0) (y2)) else if i = 18 then v = .int .u64 (bits .xor .u64 (bits .and .u64 (y0) (y1)) (bits .and .u64 (y0) (y2))) else if i = 19 then v = .slice (some ⟨gv, 0, none⟩) 8 cv else if i = 20 then v = .pointer (some ⟨gv, 1, none⟩) else if i = 21 then v = .int .u64 (y1) else if i = 22 then v = .slice (some ⟨gv, 0, none⟩) 8 cv else if i = 23 then v = .pointer (some ⟨gv, 2, none⟩) else if i = 24 then v = .int .u64 (y2) else if i = 25 then v = .int .u64 (bits .and .u64 (y1) (y2)) else if i = 26 then v = .int .u64 (bits .xor .u64 (bits .xor .u64 (bits .and .u64 (y0) (y1)) (bits .and .u64 (y0) (y2))) (bits .and .u64 (y1) (y2))) else if i = 27 then v = .int .u64 (IntKind.u64.wrap (bits .xor .u64 (bits .xor .u64 (rtr 28 y0) (rtr 34 y0)) (rtr 39 y0) + bits .xor .u64 (bits .xor .u64 (bits .and .u64 (y0) (y1)) (bits .and .u64 (y0) (y2))) (bits .and .u64 (y1) (y2)))) else if i = 28 then v = .int .u64 (IntKind.u64.wrap (bits .xor .u64 (bits .xor .u64 (rtr 28 y0) (rtr 34 y0)) (rtr 39 y0) + bits .xor .u64 (bits .xor .u64 (bits .and .u64 (y0) (y1)) (bits .and .u64 (y0) (y2))) (bits .and .u64 (y1) (y2)))) else True) ?hstab (by kernel_rfl) ?hop ?hdone _ _ ((fun (x0 x1 x2 x3 x4 x5 x6 x7 x8 x9 x10 x11 x12 x13 x14 x15 x16 x17 x18 x19 x20 x21 x22 x23 x24 x25 x26 x27 x28 : Value) => fun (i : Nat) => if i = 0 then x0 else if i = 1 then x1 else if i = 2 then x2 else if i = 3 then x3 else if i = 4 then x4 else if i = 5 then x5 else if i = 6 then x6 else if i = 7 then x7 else if i = 8 then x8 else if i = 9 then x9 else if i = 10 then x10 else if i = 11 then x11 else if i = 12 then x12 else if i = 13 then x13 else if i = 14 then x14 else if i = 15 then x15 else if i = 16 then x16 else if i = 17 then x17 else if i = 18 then x18 else if i = 19 then x19 else if i = 20 then x20 else if i = 21 then x21 else if i = 22 then x22 else if i = 23 then x23 else if i = 24 then x24 else if i = 25 then x25 else if i = 26 then x26 else if i = 27 then x27 else if i = 28 then x28 else undef) _ _ _ _ _ _ _ _ _ _ _ _ _ _ _ _ _ _ _ _ _ _ _ _ _ _ _ _ _) _ (by simp) rfl ?start (by simp)
                case start => intro i hi h; exact absurd h (by rw [Array.getD_eq_getD_getElem?, Array.getElem?_replicate]; split <;> simp)
                case hstab => intro j L w9 w' i v hM hij hLi h; exact h
                case hop =>
                  intro i o L t w' ho hLi hx hdep K hK
                  have hi : i < 29 := (Array.getElem?_eq_some_iff.1 ho).1
                  obtain rfl | rfl | rfl | rfl | rfl | rfl | rfl | rfl | rfl | rfl | rfl | rfl | rfl | rfl | rfl | rfl | rfl | rfl | rfl | rfl | rfl | rfl | rfl | rfl | rfl | rfl | rfl | rfl | rfl : i = 0 ∨ i = 1 ∨ i = 2 ∨ i = 3 ∨ i = 4 ∨ i = 5 ∨ i = 6 ∨ i = 7 ∨ i = 8 ∨ i = 9 ∨ i = 10 ∨ i = 11 ∨ i = 12 ∨ i = 13 ∨ i = 14 ∨ i = 15 ∨ i = 16 ∨ i = 17 ∨ i = 18 ∨ i = 19 ∨ i = 20 ∨ i = 21 ∨ i = 22 ∨ i = 23 ∨ i = 24 ∨ i = 25 ∨ i = 26 ∨ i = 27 ∨ i = 28 := by omega
                  all_goals (simp at ho; subst ho)
                  · clear hdep
                    have hK' := hK w' (.int .u64 (y0)) (by simp) hx trivial
                    clear hK hx
                    rw [if_pos (by rfl)]
                    go_simp
                    simpa [upd] using hK'
                  · have d0 : t 0 = .int .u64 (y0) := by simpa using (hdep ⟨0, .data⟩ (by simp) rfl).2
                    clear hdep
                    have A := rs28 y0 w' HUy0.out
                    have hK' := hK w' (.int .u64 (rtr 28 y0)) (by simp) hx trivial
                    clear hK hx
                    rw [if_pos (by rfl)]
                    go_simp
                    try simp only [d0]
                    refine A.mono ?_
                    rintro e w9 ⟨rfl, h9⟩
                    subst h9
                    clear A
                    go_simp
                    simpa [upd, d0] using hK'
                  · clear hdep
                    have hK' := hK w' (.int .u64 (y0)) (by simp) hx trivial
                    clear hK hx
                    rw [if_pos (by rfl)]
                    go_simp
                    simpa [upd] using hK'
                  · have d2 : t 2 = .int .u64 (y0) := by simpa using (hdep ⟨2, .data⟩ (by simp) rfl).2
                    clear hdep
                    have A := rs34 y0 w' HUy0.out
                    have hK' := hK w' (.int .u64 (rtr 34 y0)) (by simp) hx trivial
                    clear hK hx
                    rw [if_pos (by rfl)]
                    go_simp
                    try simp only [d2]
                    refine A.mono ?_
                    rintro e w9 ⟨rfl, h9⟩
                    subst h9
                    clear A
                    go_simp
                    simpa [upd, d2] using hK'
                  · have d1 : t 1 = .int .u64 (rtr 28 y0) := by simpa using (hdep ⟨1, .data⟩ (by simp) rfl).2
                    have d3 : t 3 = .int .u64 (rtr 34 y0) := by simpa using (hdep ⟨3, .data⟩ (by simp) rfl).2
                    clear hdep
                    have hK' := hK w' (.int .u64 (bits .xor .u64 (rtr 28 y0) (rtr 34 y0))) (by simp) hx trivial
                    clear hK hx
                    rw [if_pos (by rfl)]
                    go_simp
                    simpa [upd, d1, d3] using hK'
                  · clear hdep
                    have hK' := hK w' (.int .u64 (y0)) (by simp) hx trivial
                    clear hK hx
                    rw [if_pos (by rfl)]
                    go_simp
                    simpa [upd] using hK'
                  · have d5 : t 5 = .int .u64 (y0) := by simpa using (hdep ⟨5, .data⟩ (by simp) rfl).2
                    clear hdep
                    have A := rs39 y0 w' HUy0.out
                    have hK' := hK w' (.int .u64 (rtr 39 y0)) (by simp) hx trivial
                    clear hK hx
                    rw [if_pos (by rfl)]
                    go_simp
                    try simp only [d5]
                    refine A.mono ?_
                    rintro e w9 ⟨rfl, h9⟩
                    subst h9
                    clear A
                    go_simp
                    simpa [upd, d5] using hK'
                  · have d4 : t 4 = .int .u64 (bits .xor .u64 (rtr 28 y0) (rtr 34 y0)) := by simpa using (hdep ⟨4, .data⟩ (by simp) rfl).2
                    have d6 : t 6 = .int .u64 (rtr 39 y0) := by simpa using (hdep ⟨6, .data⟩ (by simp) rfl).2
                    clear hdep
                    have hK' := hK w' (.int .u64 (bits .xor .u64 (bits .xor .u64 (rtr 28 y0) (rtr 34 y0)) (rtr 39 y0))) (by simp) hx trivial
                    clear hK hx
                    rw [if_pos (by rfl)]
                    go_simp
                    simpa [upd, d4, d6] using hK'
                  · clear hdep
                    have hK' := hK w' (.int .u64 (y0)) (by simp) hx trivial
                    clear hK hx
                    rw [if_pos (by rfl)]
                    go_simp
                    simpa [upd] using hK'
                  · clear hdep
                    have hK' := hK w' (.slice (some ⟨gv, 0, none⟩) 8 cv) (by simp) hx trivial
                    clear hK hx
                    rw [if_pos (by rfl)]
                    go_simp
                    simpa [upd] using hK'
                  · have d9 : t 9 = .slice (some ⟨gv, 0, none⟩) 8 cv := by simpa using (hdep ⟨9, .data⟩ (by simp) rfl).2
                    clear hdep
                    have hK' := hK w' (.pointer (some ⟨gv, 1, none⟩)) (by simp) hx trivial
                    clear hK hx
                    rw [if_pos (by rfl)]
                    go_simp
                    simpa [upd, d9] using hK'
                  · have d10 : t 10 = .pointer (some ⟨gv, 1, none⟩) := by simpa using (hdep ⟨10, .data⟩ (by simp) rfl).2
                    clear hdep
                    have hc : w'.cell? ⟨gv, 1, none⟩ = some (.int .u64 y1) := by rw [hx]; exact cy1
                    have hK' := hK w' (.int .u64 (y1)) (by simp) hx trivial
                    clear hK hx
                    rw [if_pos (by rfl)]
                    go_simp
                    simpa [upd, d10] using hK'
                  · have d8 : t 8 = .int .u64 (y0) := by simpa using (hdep ⟨8, .data⟩ (by simp) rfl).2
                    have d11 : t 11 = .int .u64 (y1) := by simpa using (hdep ⟨11, .data⟩ (by simp) rfl).2
                    clear hdep
                    have hK' := hK w' (.int .u64 (bits .and .u64 (y0) (y1))) (by simp) hx trivial
                    clear hK hx
                    rw [if_pos (by rfl)]
                    go_simp
                    simpa [upd, d8, d11] using hK'
                  · clear hdep
                    have hK' := hK w' (.int .u64 (y0)) (by simp) hx trivial
                    clear hK hx
                    rw [if_pos (by rfl)]
                    go_simp
                    simpa [upd] using hK'
                  · clear hdep
                    have hK' := hK w' (.slice (some ⟨gv, 0, none⟩) 8 cv) (by simp) hx trivial
                    clear hK hx
                    rw [if_pos (by rfl)]
                    go_simp
                    simpa [upd] using hK'
                  · have d14 : t 14 = .slice (some ⟨gv, 0, none⟩) 8 cv := by simpa using (hdep ⟨14, .data⟩ (by simp) rfl).2
                    clear hdep
                    have hK' := hK w' (.pointer (some ⟨gv, 2, none⟩)) (by simp) hx trivial
                    clear hK hx
                    rw [if_pos (by rfl)]
                    go_simp
                    simpa [upd, d14] using hK'
                  · have d15 : t 15 = .pointer (some ⟨gv, 2, none⟩) := by simpa using (hdep ⟨15, .data⟩ (by simp) rfl).2
                    clear hdep
                    have hc : w'.cell? ⟨gv, 2, none⟩ = some (.int .u64 y2) := by rw [hx]; exact cy2
                    have hK' := hK w' (.int .u64 (y2)) (by simp) hx trivial
                    clear hK hx
                    rw [if_pos (by rfl)]
                    go_simp
                    simpa [upd, d15] using hK'
                  · have d13 : t 13 = .int .u64 (y0) := by simpa using (hdep ⟨13, .data⟩ (by simp) rfl).2
                    have d16 : t 16 = .int .u64 (y2) := by simpa using (hdep ⟨16, .data⟩ (by simp) rfl).2
                    clear hdep
                    have hK' := hK w' (.int .u64 (bits .and .u64 (y0) (y2))) (by simp) hx trivial
                    clear hK hx
                    rw [if_pos (by rfl)]
                    go_simp
                    simpa [upd, d13, d16] using hK'
                  · have d12 : t 12 = .int .u64 (bits .and .u64 (y0) (y1)) := by simpa using (hdep ⟨12, .data⟩ (by simp) rfl).2
                    have d17 : t 17 = .int .u64 (bits .and .u64 (y0) (y2)) := by simpa using (hdep ⟨17, .data⟩ (by simp) rfl).2
                    clear hdep
                    have hK' := hK w' (.int .u64 (bits .xor .u64 (bits .and .u64 (y0) (y1)) (bits .and .u64 (y0) (y2)))) (by simp) hx trivial
                    clear hK hx
                    rw [if_pos (by rfl)]
                    go_simp
                    simpa [upd, d12, d17] using hK'
                  · clear hdep
                    have hK' := hK w' (.slice (some ⟨gv, 0, none⟩) 8 cv) (by simp) hx trivial
                    clear hK hx
                    rw [if_pos (by rfl)]
                    go_simp
                    simpa [upd] using hK'
                  · have d19 : t 19 = .slice (some ⟨gv, 0, none⟩) 8 cv := by simpa using (hdep ⟨19, .data⟩ (by simp) rfl).2
                    clear hdep
                    have hK' := hK w' (.pointer (some ⟨gv, 1, none⟩)) (by simp) hx trivial
                    clear hK hx
                    rw [if_pos (by rfl)]
                    go_simp
                    simpa [upd, d19] using hK'
                  · have d20 : t 20 = .pointer (some ⟨gv, 1, none⟩) := by simpa using (hdep ⟨20, .data⟩ (by simp) rfl).2
                    clear hdep
                    have hc : w'.cell? ⟨gv, 1, none⟩ = some (.int .u64 y1) := by rw [hx]; exact cy1
                    have hK' := hK w' (.int .u64 (y1)) (by simp) hx trivial
                    clear hK hx
                    rw [if_pos (by rfl)]
                    go_simp
                    simpa [upd, d20] using hK'
                  · clear hdep
                    have hK' := hK w' (.slice (some ⟨gv, 0, none⟩) 8 cv) (by simp) hx trivial
                    clear hK hx
                    rw [if_pos (by rfl)]
                    go_simp
                    simpa [upd] using hK'
                  · have d22 : t 22 = .slice (some ⟨gv, 0, none⟩) 8 cv := by simpa using (hdep ⟨22, .data⟩ (by simp) rfl).2
                    clear hdep
                    have hK' := hK w' (.pointer (some ⟨gv, 2, none⟩)) (by simp) hx trivial
                    clear hK hx
                    rw [if_pos (by rfl)]
                    go_simp
                    simpa [upd, d22] using hK'
                  · have d23 : t 23 = .pointer (some ⟨gv, 2, none⟩) := by simpa using (hdep ⟨23, .data⟩ (by simp) rfl).2
                    clear hdep
                    have hc : w'.cell? ⟨gv, 2, none⟩ = some (.int .u64 y2) := by rw [hx]; exact cy2
                    have hK' := hK w' (.int .u64 (y2)) (by simp) hx trivial
                    clear hK hx
                    rw [if_pos (by rfl)]
                    go_simp
                    simpa [upd, d23] using hK'
                  · have d21 : t 21 = .int .u64 (y1) := by simpa using (hdep ⟨21, .data⟩ (by simp) rfl).2
                    have d24 : t 24 = .int .u64 (y2) := by simpa using (hdep ⟨24, .data⟩ (by simp) rfl).2
                    clear hdep
                    have hK' := hK w' (.int .u64 (bits .and .u64 (y1) (y2))) (by simp) hx trivial
                    clear hK hx
                    rw [if_pos (by rfl)]
                    go_simp
                    simpa [upd, d21, d24] using hK'
                  · have d18 : t 18 = .int .u64 (bits .xor .u64 (bits .and .u64 (y0) (y1)) (bits .and .u64 (y0) (y2))) := by simpa using (hdep ⟨18, .data⟩ (by simp) rfl).2
                    have d25 : t 25 = .int .u64 (bits .and .u64 (y1) (y2)) := by simpa using (hdep ⟨25, .data⟩ (by simp) rfl).2
                    clear hdep
                    have hK' := hK w' (.int .u64 (bits .xor .u64 (bits .xor .u64 (bits .and .u64 (y0) (y1)) (bits .and .u64 (y0) (y2))) (bits .and .u64 (y1) (y2)))) (by simp) hx trivial
                    clear hK hx
                    rw [if_pos (by rfl)]
                    go_simp
                    simpa [upd, d18, d25] using hK'
                  · have d7 : t 7 = .int .u64 (bits .xor .u64 (bits .xor .u64 (rtr 28 y0) (rtr 34 y0)) (rtr 39 y0)) := by simpa using (hdep ⟨7, .data⟩ (by simp) rfl).2
                    have d26 : t 26 = .int .u64 (bits .xor .u64 (bits .xor .u64 (bits .and .u64 (y0) (y1)) (bits .and .u64 (y0) (y2))) (bits .and .u64 (y1) (y2))) := by simpa using (hdep ⟨26, .data⟩ (by simp) rfl).2
                    clear hdep
                    have hK' := hK w' (.int .u64 (IntKind.u64.wrap (bits .xor .u64 (bits .xor .u64 (rtr 28 y0) (rtr 34 y0)) (rtr 39 y0) + bits .xor .u64 (bits .xor .u64 (bits .and .u64 (y0) (y1)) (bits .and .u64 (y0) (y2))) (bits .and .u64 (y1) (y2))))) (by simp) hx trivial
                    clear hK hx
                    rw [if_pos (by rfl)]
                    go_simp
                    simpa [upd, d7, d26] using hK'
                  · have d27 : t 27 = .int .u64 (IntKind.u64.wrap (bits .xor .u64 (bits .xor .u64 (rtr 28 y0) (rtr 34 y0)) (rtr 39 y0) + bits .xor .u64 (bits .xor .u64 (bits .and .u64 (y0) (y1)) (bits .and .u64 (y0) (y2))) (bits .and .u64 (y1) (y2)))) := by simpa using (hdep ⟨27, .data⟩ (by simp) rfl).2
                    clear hdep
                    have hK' := hK w' (.int .u64 (IntKind.u64.wrap (bits .xor .u64 (bits .xor .u64 (rtr 28 y0) (rtr 34 y0)) (rtr 39 y0) + bits .xor .u64 (bits .xor .u64 (bits .and .u64 (y0) (y1)) (bits .and .u64 (y0) (y2))) (bits .and .u64 (y1) (y2))))) (by simp) hx trivial
                    clear hK hx
                    rw [if_pos (by rfl)]
                    go_simp
                    simpa [upd, d27] using hK'
                case hdone =>
                  intro L t w8 hx hg
                  have d28 : t 28 = .int .u64 (IntKind.u64.wrap (bits .xor .u64 (bits .xor .u64 (rtr 28 y0) (rtr 34 y0)) (rtr 39 y0) + bits .xor .u64 (bits .xor .u64 (bits .and .u64 (y0) (y1)) (bits .and .u64 (y0) (y2))) (bits .and .u64 (y1) (y2)))) := by simpa using hg 28 (by decide)
                  clear hg
                  subst hx
                  dsimp only
                  rw [d28, HT2.out]
                  clear d28
                  obtain ⟨wq, hwq⟩ : ∃ wq, wq = wr.drew.drew := ⟨_, rfl⟩
                  rw [← hwq]
                  have cq1 : wq.cell? ⟨gv, 1, none⟩ = some (.int .u64 y1) := by rw [hwq]; exact cy1
                  have cq2 : wq.cell? ⟨gv, 2, none⟩ = some (.int .u64 y2) := by rw [hwq]; exact cy2
                  have cq3 : wq.cell? ⟨gv, 3, none⟩ = some (.int .u64 y3) := by rw [hwq]; exact cy3
                  have cq5 : wq.cell? ⟨gv, 5, none⟩ = some (.int .u64 y5) := by rw [hwq]; exact cy5
                  have cq6 : wq.cell? ⟨gv, 6, none⟩ = some (.int .u64 y6) := by rw [hwq]; exact cy6
                  have HBw : Hid (Below wz.heap.size wz wq) := by rw [hwq]; exact HBq.out.drew.drew
                  clear cy0 cy1 cy2 cy3 cy4 cy5 cy6 cy7 ckq cxq hwq HBq HV HT1 HT2
                  go_wp2
                  refine wp_region_any (by kernel_rfl) ?_
                  refine wpAny_slotsU (fun _ _ _ => True) (frame := (fun (c0 c1 c2 c3 c4 c5 c6 c7 c8 c9 c10 c11 c13 c14 c15 c16 c17 c18 c19 c20 c21 c22 c23 c24 c25 c26 c27 c28 c29 c30 c31 c32 c33 c34 c35 c36 c37 c38 c39 c40 c41 c42 c43 c44 c45 c46 c47 c48 c49 c50 c51 c52 c53 c54 c55 c56 c57 c58 c59 c60 c61 c62 c63 c64 c65 c66 c67 c68 c69 c70 c71 c72 c73 c74 c75 c76 c77 c78 c79 c80 c81 c82 c83 c84 c85 c86 c87 c88 c89 c90 c91 c92 c93 c94 c95 c96 c97 c98 c99 c100 c101 c102 c103 c104 c105 c106 c107 c108 c109 c110 c111 c112 c113 c114 c115 c116 c117 c118 c119 c120 c121 c122 c123 c124 c125 c126 c127 c128 c129 c130 c131 c132 c133 c134 c135 c136 c137 c138 c139 c140 c141 c142 c143 c144 c145 c146 c147 c148 c149 c150 c151 c152 c153 c154 c155 c156 c157 c158 c159 c160 c161 c162 c163 c164 c165 c166 c167 c168 c169 c170 c171 c172 c173 c197 c198 c199 c200 c201 c202 c203 c204 c205 c206 c207 c208 c209 c210 c211 c212 c213 c214 : Value) => fun (t : Nat → Value) => ({ tmps := List.toArray (c0 :: c1 :: c2 :: c3 :: c4 :: c5 :: c6 :: c7 :: c8 :: c9 :: c10 :: c11 :: t 23 :: c13 :: c14 :: c15 :: c16 :: c17 :: c18 :: c19 :: c20 :: c21 :: c22 :: c23 :: c24 :: c25 :: c26 :: c27 :: c28 :: c29 :: c30 :: c31 :: c32 :: c33 :: c34 :: c35 :: c36 :: c37 :: c38 :: c39 :: c40 :: c41 :: c42 :: c43 :: c44 :: c45 :: c46 :: c47 :: c48 :: c49 :: c50 :: c51 :: c52 :: c53 :: c54 :: c55 :: c56 :: c57 :: c58 :: c59 :: c60 :: c61 :: c62 :: c63 :: c64 :: c65 :: c66 :: c67 :: c68 :: c69 :: c70 :: c71 :: c72 :: c73 :: c74 :: c75 :: c76 :: c77 :: c78 :: c79 :: c80 :: c81 :: c82 :: c83 :: c84 :: c85 :: c86 :: c87 :: c88 :: c89 :: c90 :: c91 :: c92 :: c93 :: c94 :: c95 :: c96 :: c97 :: c98 :: c99 :: c100 :: c101 :: c102 :: c103 :: c104 :: c105 :: c106 :: c107 :: c108 :: c109 :: c110 :: c111 :: c112 :: c113 :: c114 :: c115 :: c116 :: c117 :: c118 :: c119 :: c120 :: c121 :: c122 :: c123 :: c124 :: c125 :: c126 :: c127 :: c128 :: c129 :: c130 :: c131 :: c132 :: c133 :: c134 :: c135 :: c136 :: c137 :: c138 :: c139 :: c140 :: c141 :: c142 :: c143 :: c144 :: c145 :: c146 :: c147 :: c148 :: c149 :: c150 :: c151 :: c152 :: c153 :: c154 :: c155 :: c156 :: c157 :: c158 :: c159 :: c160 :: c161 :: c162 :: c163 :: c164 :: c165 :: c166 :: c167 :: c168 :: c169 :: c170 :: c171 :: c172 :: c173 :: t 0 :: t 1 :: t 2 :: t 3 :: t 4 :: t 5 :: t 6 :: t 7 :: t 8 :: t 9 :: t 10 :: t 11 :: t 12 :: t 13 :: t 14 :: t 15 :: t 16 :: t 17 :: t 18 :: t 19 :: t 20 :: t 21 :: t 22 :: c197 :: c198 :: c199 :: c200 :: c201 :: c202 :: c203 :: c204 :: c205 :: c206 :: c207 :: c208 :: c209 :: c210 :: c211 :: c212 :: c213 :: c214 :: []), defers := [] } : Act)) _ _ _ _ _ _ _ _ _ _ _ _ _ _ _ _ _ _ _ _ _ _ _ _ _ _ _ _ _ _ _ _ _ _ _ _ _ _ _ _ _ _ _ _ _ _ _ _ _ _ _ _ _ _ _ _ _ _ _ _ _ _ _ _ _ _ _ _ _ _ _ _ _ _ _ _ _ _ _ _ _ _ _ _ _ _ _ _ _ _ _ _ _ _ _ _ _ _ _ _ _ _ _ _ _ _ _ _ _ _ _ _ _ _ _ _ _ _ _ _ _ _ _ _ _ _ _ _ _ _ _ _ _ _ _ _ _ _ _ _ _ _ _ _ _ _ _ _ _ _ _ _ _ _ _ _ _ _ _ _ _ _ _ _ _ _ _ _ _ _ _ _ _ _ _ _ _ _ _ _ _ _ _ _ _ _ _ _ _ _ _)
                    (Ext := fun L u w' => AD [(23, 22), (22, 2), (22, 3), (22, 6), (22, 9), (22, 14), (22, 15), (22, 18), (22, 21), (2, 0), (2, 1), (6, 5), (5, 4), (9, 8), (8, 7), (14, 12), (14, 13), (12, 11), (11, 10), (18, 17), (17, 16), (21, 20), (20, 19)] 22 23 (.slice (some ⟨gv, 0, none⟩) 8 cv) (wq.drew) ((wq.alloc (.cells #[.int .u64 (IntKind.u64.wrap (t1v + t2v)), .int .u64 y0, .int .u64 y1, .int .u64 y2, .int .u64 (IntKind.u64.wrap (y3 + t1v)), .int .u64 y4, .int .u64 y5, .int .u64 y6] 39)).drew) L u w') (Good := fun i L w' v => if i = 0 then v = .int .u64 (t1v) else if i = 1 then v = .int .u64 (t2v) else if i = 2 then v = .int .u64 (IntKind.u64.wrap (t1v + t2v)) else if i = 3 then v = .int .u64 (y0) else if i = 4 then v = .slice (some ⟨gv, 0, none⟩) 8 cv else if i = 5 then v = .pointer (some ⟨gv, 1, none⟩) else if i = 6 then v = .int .u64 (y1) else if i = 7 then v = .slice (some ⟨gv, 0, none⟩) 8 cv else if i = 8 then v = .pointer (some ⟨gv, 2, none⟩) else if i = 9 then v = .int .u64 (y2) else if i = 10 then v = .slice (some ⟨gv, 0, none⟩) 8 cv else if i = 11 then v = .pointer (some ⟨gv, 3, none⟩) else if i = 12 then v = .int .u64 (y3) else if i = 13 then v = .int .u64 (t1v) else if i = 14 then v = .int .u64 (IntKind.u64.wrap (y3 + t1v)) else if i = 15 then v = .int .u64 (y4) else if i = 16 then v = .slice (some ⟨gv, 0, none⟩) 8 cv else if i = 17 then v = .pointer (some ⟨gv, 5, none⟩) else if i = 18 then v = .int .u64 (y5) else if i = 19 then v = .slice (some ⟨gv, 0, none⟩) 8 cv else if i = 20 then v = .pointer (some ⟨gv, 6, none⟩) else if i = 21 then v = .int .u64 (y6) else if i = 22 then v = .slice (some ⟨wq.heap.size, 0, none⟩) 8 8 ∧ L 22 = true else if i = 23 then v = .slice (some ⟨wq.heap.size, 0, none⟩) 8 8 else True) ?hstab (by kernel_rfl) ?hop ?hdone _ _ ((fun (x0 x1 x2 x3 x4 x5 x6 x7 x8 x9 x10 x11 x12 x13 x14 x15 x16 x17 x18 x19 x20 x21 x22 x23 : Value) => fun (i : Nat) => if i = 0 then x0 else if i = 1 then x1 else if i = 2 then x2 else if i = 3 then x3 else if i = 4 then x4 else if i = 5 then x5 else if i = 6 then x6 else if i = 7 then x7 else if i = 8 then x8 else if i = 9 then x9 else if i = 10 then x10 else if i = 11 then x11 else if i = 12 then x12 else if i = 13 then x13 else if i = 14 then x14 else if i = 15 then x15 else if i = 16 then x16 else if i = 17 then x17 else if i = 18 then x18 else if i = 19 then x19 else if i = 20 then x20 else if i = 21 then x21 else if i = 22 then x22 else if i = 23 then x23 else undef) _ _ _ _ _ _ _ _ _ _ _ _ _ _ _ _ _ _ _ _ _ _ _ _) _ (by simp) ?ext ?start (by simp)
                  case start => intro i hi h; exact absurd h (by rw [Array.getD_eq_getD_getElem?, Array.getElem?_replicate]; split <;> simp)
                  case ext => exact AD.start (fun i => by rw [Array.getD_eq_getD_getElem?, Array.getElem?_replicate]; split <;> rfl) rfl
                  case hstab =>
                    intro j L w9 w' i v hM hij hLi h
                    have hu : ∀ k, L k = true → updK L i k = true := fun k hk => by unfold updK; split <;> simp [hk]
                    by_cases hb : j = 22
                    · subst hb
                      simp at h ⊢
                      exact ⟨h.1, hu _ h.2⟩
                    simp only [if_neg hb] at h ⊢
                    exact h
                  case hop =>
                    intro i o L t w' ho hLi hx hdep K hK
                    have hi : i < 24 := (Array.getElem?_eq_some_iff.1 ho).1
                    obtain rfl | rfl | rfl | rfl | rfl | rfl | rfl | rfl | rfl | rfl | rfl | rfl | rfl | rfl | rfl | rfl | rfl | rfl | rfl | rfl | rfl | rfl | rfl | rfl : i = 0 ∨ i = 1 ∨ i = 2 ∨ i = 3 ∨ i = 4 ∨ i = 5 ∨ i = 6 ∨ i = 7 ∨ i = 8 ∨ i = 9 ∨ i = 10 ∨ i = 11 ∨ i = 12 ∨ i = 13 ∨ i = 14 ∨ i = 15 ∨ i = 16 ∨ i = 17 ∨ i = 18 ∨ i = 19 ∨ i = 20 ∨ i = 21 ∨ i = 22 ∨ i = 23 := by omega
                    all_goals (simp at ho; subst ho)
                    · clear hdep
                      have hK' := hK w' (.int .u64 (t1v)) (by simp) (hx.pure 0 _ (by decide) (by decide) (by intro p hp e; simp only [List.mem_cons, List.not_mem_nil, or_false] at hp; rcases hp with rfl | rfl | rfl | rfl | rfl | rfl | rfl | rfl | rfl | rfl | rfl | rfl | rfl | rfl | rfl | rfl | rfl | rfl | rfl | rfl | rfl | rfl | rfl <;> first | (exact absurd e (by decide)) | assumption)) trivial
                      clear hK hx
                      rw [if_pos (by rfl)]
                      go_simp
                      simpa [upd] using hK'
                    · clear hdep
                      have hK' := hK w' (.int .u64 (t2v)) (by simp) (hx.pure 1 _ (by decide) (by decide) (by intro p hp e; simp only [List.mem_cons, List.not_mem_nil, or_false] at hp; rcases hp with rfl | rfl | rfl | rfl | rfl | rfl | rfl | rfl | rfl | rfl | rfl | rfl | rfl | rfl | rfl | rfl | rfl | rfl | rfl | rfl | rfl | rfl | rfl <;> first | (exact absurd e (by decide)) | assumption)) trivial
                      clear hK hx
                      rw [if_pos (by rfl)]
                      go_simp
                      simpa [upd] using hK'
                    · have L0 : L 0 = true := (hdep ⟨0, .data⟩ (by simp) rfl).1
                      have d0 : t 0 = .int .u64 (t1v) := by simpa using (hdep ⟨0, .data⟩ (by simp) rfl).2
                      have L1 : L 1 = true := (hdep ⟨1, .data⟩ (by simp) rfl).1
                      have d1 : t 1 = .int .u64 (t2v) := by simpa using (hdep ⟨1, .data⟩ (by simp) rfl).2
                      clear hdep
                      have hK' := hK w' (.int .u64 (IntKind.u64.wrap (t1v + t2v))) (by simp) (hx.pure 2 _ (by decide) (by decide) (by intro p hp e; simp only [List.mem_cons, List.not_mem_nil, or_false] at hp; rcases hp with rfl | rfl | rfl | rfl | rfl | rfl | rfl | rfl | rfl | rfl | rfl | rfl | rfl | rfl | rfl | rfl | rfl | rfl | rfl | rfl | rfl | rfl | rfl <;> first | (exact absurd e (by decide)) | assumption)) trivial
                      clear hK hx
                      rw [if_pos (by rfl)]
                      go_simp
                      simpa [upd, d0, d1] using hK'
                    · clear hdep
                      have hK' := hK w' (.int .u64 (y0)) (by simp) (hx.pure 3 _ (by decide) (by decide) (by intro p hp e; simp only [List.mem_cons, List.not_mem_nil, or_false] at hp; rcases hp with rfl | rfl | rfl | rfl | rfl | rfl | rfl | rfl | rfl | rfl | rfl | rfl | rfl | rfl | rfl | rfl | rfl | rfl | rfl | rfl | rfl | rfl | rfl <;> first | (exact absurd e (by decide)) | assumption)) trivial
                      clear hK hx
                      rw [if_pos (by rfl)]
                      go_simp
                      simpa [upd] using hK'
                    · clear hdep
                      have l5 := hx.cl.back (a := 5) (b := 4) (by decide) hLi
                      have l6 := hx.cl.back (a := 6) (b := 5) (by decide) l5
                      have l22 := hx.cl.back (a := 22) (b := 6) (by decide) l6
                      have l23 := hx.cl.back (a := 23) (b := 22) (by decide) l22
                      have ds : t 23 = .slice (some ⟨gv, 0, none⟩) 8 cv := hx.old l23
                      have hK' := hK w' (.slice (some ⟨gv, 0, none⟩) 8 cv) (by simp) (hx.pure 4 _ (by decide) (by decide) (by intro p hp e; simp only [List.mem_cons, List.not_mem_nil, or_false] at hp; rcases hp with rfl | rfl | rfl | rfl | rfl | rfl | rfl | rfl | rfl | rfl | rfl | rfl | rfl | rfl | rfl | rfl | rfl | rfl | rfl | rfl | rfl | rfl | rfl <;> first | (exact absurd e (by decide)) | assumption)) trivial
                      clear hK hx
                      rw [if_pos (by rfl)]
                      go_simp
                      simpa [upd, ds] using hK'
                    · have L4 : L 4 = true := (hdep ⟨4, .data⟩ (by simp) rfl).1
                      have d4 : t 4 = .slice (some ⟨gv, 0, none⟩) 8 cv := by simpa using (hdep ⟨4, .data⟩ (by simp) rfl).2
                      clear hdep
                      have hK' := hK w' (.pointer (some ⟨gv, 1, none⟩)) (by simp) (hx.pure 5 _ (by decide) (by decide) (by intro p hp e; simp only [List.mem_cons, List.not_mem_nil, or_false] at hp; rcases hp with rfl | rfl | rfl | rfl | rfl | rfl | rfl | rfl | rfl | rfl | rfl | rfl | rfl | rfl | rfl | rfl | rfl | rfl | rfl | rfl | rfl | rfl | rfl <;> first | (exact absurd e (by decide)) | assumption)) trivial
                      clear hK hx
                      rw [if_pos (by rfl)]
                      go_simp
                      simpa [upd, d4] using hK'
                    · have L5 : L 5 = true := (hdep ⟨5, .data⟩ (by simp) rfl).1
                      have d5 : t 5 = .pointer (some ⟨gv, 1, none⟩) := by simpa using (hdep ⟨5, .data⟩ (by simp) rfl).2
                      clear hdep
                      have l22 := hx.cl.back (a := 22) (b := 6) (by decide) hLi
                      have hw := hx.world l22
                      have hc : w'.cell? ⟨gv, 1, none⟩ = some (.int .u64 y1) := by rw [hw]; exact cq1
                      clear hw
                      have hK' := hK w' (.int .u64 (y1)) (by simp) (hx.pure 6 _ (by decide) (by decide) (by intro p hp e; simp only [List.mem_cons, List.not_mem_nil, or_false] at hp; rcases hp with rfl | rfl | rfl | rfl | rfl | rfl | rfl | rfl | rfl | rfl | rfl | rfl | rfl | rfl | rfl | rfl | rfl | rfl | rfl | rfl | rfl | rfl | rfl <;> first | (exact absurd e (by decide)) | assumption)) trivial
                      clear hK hx
                      rw [if_pos (by rfl)]
                      go_simp
                      simpa [upd, d5] using hK'
                    · clear hdep
                      have l8 := hx.cl.back (a := 8) (b := 7) (by decide) hLi
                      have l9 := hx.cl.back (a := 9) (b := 8) (by decide) l8
                      have l22 := hx.cl.back (a := 22) (b := 9) (by decide) l9
                      have l23 := hx.cl.back (a := 23) (b := 22) (by decide) l22
                      have ds : t 23 = .slice (some ⟨gv, 0, none⟩) 8 cv := hx.old l23
                      have hK' := hK w' (.slice (some ⟨gv, 0, none⟩) 8 cv) (by simp) (hx.pure 7 _ (by decide) (by decide) (by intro p hp e; simp only [List.mem_cons, List.not_mem_nil, or_false] at hp; rcases hp with rfl | rfl | rfl | rfl | rfl | rfl | rfl | rfl | rfl | rfl | rfl | rfl | rfl | rfl | rfl | rfl | rfl | rfl | rfl | rfl | rfl | rfl | rfl <;> first | (exact absurd e (by decide)) | assumption)) trivial
                      clear hK hx
                      rw [if_pos (by rfl)]
                      go_simp
                      simpa [upd, ds] using hK'
                    · have L7 : L 7 = true := (hdep ⟨7, .data⟩ (by simp) rfl).1
                      have d7 : t 7 = .slice (some ⟨gv, 0, none⟩) 8 cv := by simpa using (hdep ⟨7, .data⟩ (by simp) rfl).2
                      clear hdep
                      have hK' := hK w' (.pointer (some ⟨gv, 2, none⟩)) (by simp) (hx.pure 8 _ (by decide) (by decide) (by intro p hp e; simp only [List.mem_cons, List.not_mem_nil, or_false] at hp; rcases hp with rfl | rfl | rfl | rfl | rfl | rfl | rfl | rfl | rfl | rfl | rfl | rfl | rfl | rfl | rfl | rfl | rfl | rfl | rfl | rfl | rfl | rfl | rfl <;> first | (exact absurd e (by decide)) | assumption)) trivial
                      clear hK hx
                      rw [if_pos (by rfl)]
                      go_simp
                      simpa [upd, d7] using hK'
                    · have L8 : L 8 = true := (hdep ⟨8, .data⟩ (by simp) rfl).1
                      have d8 : t 8 = .pointer (some ⟨gv, 2, none⟩) := by simpa using (hdep ⟨8, .data⟩ (by simp) rfl).2
                      clear hdep
                      have l22 := hx.cl.back (a := 22) (b := 9) (by decide) hLi
                      have hw := hx.world l22
                      have hc : w'.cell? ⟨gv, 2, none⟩ = some (.int .u64 y2) := by rw [hw]; exact cq2
                      clear hw
                      have hK' := hK w' (.int .u64 (y2)) (by simp) (hx.pure 9 _ (by decide) (by decide) (by intro p hp e; simp only [List.mem_cons, List.not_mem_nil, or_false] at hp; rcases hp with rfl | rfl | rfl | rfl | rfl | rfl | rfl | rfl | rfl | rfl | rfl | rfl | rfl | rfl | rfl | rfl | rfl | rfl | rfl | rfl | rfl | rfl | rfl <;> first | (exact absurd e (by decide)) | assumption)) trivial
                      clear hK hx
                      rw [if_pos (by rfl)]
                      go_simp
                      simpa [upd, d8] using hK'
                    · clear hdep
                      have l11 := hx.cl.back (a := 11) (b := 10) (by decide) hLi
                      have l12 := hx.cl.back (a := 12) (b := 11) (by decide) l11
                      have l14 := hx.cl.back (a := 14) (b := 12) (by decide) l12
                      have l22 := hx.cl.back (a := 22) (b := 14) (by decide) l14
                      have l23 := hx.cl.back (a := 23) (b := 22) (by decide) l22
                      have ds : t 23 = .slice (some ⟨gv, 0, none⟩) 8 cv := hx.old l23
                      have hK' := hK w' (.slice (some ⟨gv, 0, none⟩) 8 cv) (by simp) (hx.pure 10 _ (by decide) (by decide) (by intro p hp e; simp only [List.mem_cons, List.not_mem_nil, or_false] at hp; rcases hp with rfl | rfl | rfl | rfl | rfl | rfl | rfl | rfl | rfl | rfl | rfl | rfl | rfl | rfl | rfl | rfl | rfl | rfl | rfl | rfl | rfl | rfl | rfl <;> first | (exact absurd e (by decide)) | assumption)) trivial
                      clear hK hx
                      rw [if_pos (by rfl)]
                      go_simp
                      simpa [upd, ds] using hK'
                    · have L10 : L 10 = true := (hdep ⟨10, .data⟩ (by simp) rfl).1
                      have d10 : t 10 = .slice (some ⟨gv, 0, none⟩) 8 cv := by simpa using (hdep ⟨10, .data⟩ (by simp) rfl).2
                      clear hdep
                      have hK' := hK w' (.pointer (some ⟨gv, 3, none⟩)) (by simp) (hx.pure 11 _ (by decide) (by decide) (by intro p hp e; simp only [List.mem_cons, List.not_mem_nil, or_false] at hp; rcases hp with rfl | rfl | rfl | rfl | rfl | rfl | rfl | rfl | rfl | rfl | rfl | rfl | rfl | rfl | rfl | rfl | rfl | rfl | rfl | rfl | rfl | rfl | rfl <;> first | (exact absurd e (by decide)) | assumption)) trivial
                      clear hK hx
                      rw [if_pos (by rfl)]
                      go_simp
                      simpa [upd, d10] using hK'
                    · have L11 : L 11 = true := (hdep ⟨11, .data⟩ (by simp) rfl).1
                      have d11 : t 11 = .pointer (some ⟨gv, 3, none⟩) := by simpa using (hdep ⟨11, .data⟩ (by simp) rfl).2
                      clear hdep
                      have l14 := hx.cl.back (a := 14) (b := 12) (by decide) hLi
                      have l22 := hx.cl.back (a := 22) (b := 14) (by decide) l14
                      have hw := hx.world l22
                      have hc : w'.cell? ⟨gv, 3, none⟩ = some (.int .u64 y3) := by rw [hw]; exact cq3
                      clear hw
                      have hK' := hK w' (.int .u64 (y3)) (by simp) (hx.pure 12 _ (by decide) (by decide) (by intro p hp e; simp only [List.mem_cons, List.not_mem_nil, or_false] at hp; rcases hp with rfl | rfl | rfl | rfl | rfl | rfl | rfl | rfl | rfl | rfl | rfl | rfl | rfl | rfl | rfl | rfl | rfl | rfl | rfl | rfl | rfl | rfl | rfl <;> first | (exact absurd e (by decide)) | assumption)) trivial
                      clear hK hx
                      rw [if_pos (by rfl)]
                      go_simp
                      simpa [upd, d11] using hK'
                    · clear hdep
                      have hK' := hK w' (.int .u64 (t1v)) (by simp) (hx.pure 13 _ (by decide) (by decide) (by intro p hp e; simp only [List.mem_cons, List.not_mem_nil, or_false] at hp; rcases hp with rfl | rfl | rfl | rfl | rfl | rfl | rfl | rfl | rfl | rfl | rfl | rfl | rfl | rfl | rfl | rfl | rfl | rfl | rfl | rfl | rfl | rfl | rfl <;> first | (exact absurd e (by decide)) | assumption)) trivial
                      clear hK hx
                      rw [if_pos (by rfl)]
                      go_simp
                      simpa [upd] using hK'
                    · have L12 : L 12 = true := (hdep ⟨12, .data⟩ (by simp) rfl).1
                      have d12 : t 12 = .int .u64 (y3) := by simpa using (hdep ⟨12, .data⟩ (by simp) rfl).2
                      have L13 : L 13 = true := (hdep ⟨13, .data⟩ (by simp) rfl).1
                      have d13 : t 13 = .int .u64 (t1v) := by simpa using (hdep ⟨13, .data⟩ (by simp) rfl).2
                      clear hdep
                      have hK' := hK w' (.int .u64 (IntKind.u64.wrap (y3 + t1v))) (by simp) (hx.pure 14 _ (by decide) (by decide) (by intro p hp e; simp only [List.mem_cons, List.not_mem_nil, or_false] at hp; rcases hp with rfl | rfl | rfl | rfl | rfl | rfl | rfl | rfl | rfl | rfl | rfl | rfl | rfl | rfl | rfl | rfl | rfl | rfl | rfl | rfl | rfl | rfl | rfl <;> first | (exact absurd e (by decide)) | assumption)) trivial
                      clear hK hx
                      rw [if_pos (by rfl)]
                      go_simp
                      simpa [upd, d12, d13] using hK'
                    · clear hdep
                      have hK' := hK w' (.int .u64 (y4)) (by simp) (hx.pure 15 _ (by decide) (by decide) (by intro p hp e; simp only [List.mem_cons, List.not_mem_nil, or_false] at hp; rcases hp with rfl | rfl | rfl | rfl | rfl | rfl | rfl | rfl | rfl | rfl | rfl | rfl | rfl | rfl | rfl | rfl | rfl | rfl | rfl | rfl | rfl | rfl | rfl <;> first | (exact absurd e (by decide)) | assumption)) trivial
                      clear hK hx
                      rw [if_pos (by rfl)]
                      go_simp
                      simpa [upd] using hK'
                    · clear hdep
                      have l17 := hx.cl.back (a := 17) (b := 16) (by decide) hLi
                      have l18 := hx.cl.back (a := 18) (b := 17) (by decide) l17
                      have l22 := hx.cl.back (a := 22) (b := 18) (by decide) l18
                      have l23 := hx.cl.back (a := 23) (b := 22) (by decide) l22
                      have ds : t 23 = .slice (some ⟨gv, 0, none⟩) 8 cv := hx.old l23
                      have hK' := hK w' (.slice (some ⟨gv, 0, none⟩) 8 cv) (by simp) (hx.pure 16 _ (by decide) (by decide) (by intro p hp e; simp only [List.mem_cons, List.not_mem_nil, or_false] at hp; rcases hp with rfl | rfl | rfl | rfl | rfl | rfl | rfl | rfl | rfl | rfl | rfl | rfl | rfl | rfl | rfl | rfl | rfl | rfl | rfl | rfl | rfl | rfl | rfl <;> first | (exact absurd e (by decide)) | assumption)) trivial
                      clear hK hx
                      rw [if_pos (by rfl)]
                      go_simp
                      simpa [upd, ds] using hK'
                    · have L16 : L 16 = true := (hdep ⟨16, .data⟩ (by simp) rfl).1
                      have d16 : t 16 = .slice (some ⟨gv, 0, none⟩) 8 cv := by simpa using (hdep ⟨16, .data⟩ (by simp) rfl).2
                      clear hdep
                      have hK' := hK w' (.pointer (some ⟨gv, 5, none⟩)) (by simp) (hx.pure 17 _ (by decide) (by decide) (by intro p hp e; simp only [List.mem_cons, List.not_mem_nil, or_false] at hp; rcases hp with rfl | rfl | rfl | rfl | rfl | rfl | rfl | rfl | rfl | rfl | rfl | rfl | rfl | rfl | rfl | rfl | rfl | rfl | rfl | rfl | rfl | rfl | rfl <;> first | (exact absurd e (by decide)) | assumption)) trivial
                      clear hK hx
                      rw [if_pos (by rfl)]
                      go_simp
                      simpa [upd, d16] using hK'
                    · have L17 : L 17 = true := (hdep ⟨17, .data⟩ (by simp) rfl).1
                      have d17 : t 17 = .pointer (some ⟨gv, 5, none⟩) := by simpa using (hdep ⟨17, .data⟩ (by simp) rfl).2
                      clear hdep
                      have l22 := hx.cl.back (a := 22) (b := 18) (by decide) hLi
                      have hw := hx.world l22
                      have hc : w'.cell? ⟨gv, 5, none⟩ = some (.int .u64 y5) := by rw [hw]; exact cq5
                      clear hw
                      have hK' := hK w' (.int .u64 (y5)) (by simp) (hx.pure 18 _ (by decide) (by decide) (by intro p hp e; simp only [List.mem_cons, List.not_mem_nil, or_false] at hp; rcases hp with rfl | rfl | rfl | rfl | rfl | rfl | rfl | rfl | rfl | rfl | rfl | rfl | rfl | rfl | rfl | rfl | rfl | rfl | rfl | rfl | rfl | rfl | rfl <;> first | (exact absurd e (by decide)) | assumption)) trivial
                      clear hK hx
                      rw [if_pos (by rfl)]
                      go_simp
                      simpa [upd, d17] using hK'
                    · clear hdep
                      have l20 := hx.cl.back (a := 20) (b := 19) (by decide) hLi
                      have l21 := hx.cl.back (a := 21) (b := 20) (by decide) l20
                      have l22 := hx.cl.back (a := 22) (b := 21) (by decide) l21
                      have l23 := hx.cl.back (a := 23) (b := 22) (by decide) l22
                      have ds : t 23 = .slice (some ⟨gv, 0, none⟩) 8 cv := hx.old l23
                      have hK' := hK w' (.slice (some ⟨gv, 0, none⟩) 8 cv) (by simp) (hx.pure 19 _ (by decide) (by decide) (by intro p hp e; simp only [List.mem_cons, List.not_mem_nil, or_false] at hp; rcases hp with rfl | rfl | rfl | rfl | rfl | rfl | rfl | rfl | rfl | rfl | rfl | rfl | rfl | rfl | rfl | rfl | rfl | rfl | rfl | rfl | rfl | rfl | rfl <;> first | (exact absurd e (by decide)) | assumption)) trivial
                      clear hK hx
                      rw [if_pos (by rfl)]
                      go_simp
                      simpa [upd, ds] using hK'
                    · have L19 : L 19 = true := (hdep ⟨19, .data⟩ (by simp) rfl).1
                      have d19 : t 19 = .slice (some ⟨gv, 0, none⟩) 8 cv := by simpa using (hdep ⟨19, .data⟩ (by simp) rfl).2
                      clear hdep
                      have hK' := hK w' (.pointer (some ⟨gv, 6, none⟩)) (by simp) (hx.pure 20 _ (by decide) (by decide) (by intro p hp e; simp only [List.mem_cons, List.not_mem_nil, or_false] at hp; rcases hp with rfl | rfl | rfl | rfl | rfl | rfl | rfl | rfl | rfl | rfl | rfl | rfl | rfl | rfl | rfl | rfl | rfl | rfl | rfl | rfl | rfl | rfl | rfl <;> first | (exact absurd e (by decide)) | assumption)) trivial
                      clear hK hx
                      rw [if_pos (by rfl)]
                      go_simp
                      simpa [upd, d19] using hK'
                    · have L20 : L 20 = true := (hdep ⟨20, .data⟩ (by simp) rfl).1
                      have d20 : t 20 = .pointer (some ⟨gv, 6, none⟩) := by simpa using (hdep ⟨20, .data⟩ (by simp) rfl).2
                      clear hdep
                      have l22 := hx.cl.back (a := 22) (b := 21) (by decide) hLi
                      have hw := hx.world l22
                      have hc : w'.cell? ⟨gv, 6, none⟩ = some (.int .u64 y6) := by rw [hw]; exact cq6
                      clear hw
                      have hK' := hK w' (.int .u64 (y6)) (by simp) (hx.pure 21 _ (by decide) (by decide) (by intro p hp e; simp only [List.mem_cons, List.not_mem_nil, or_false] at hp; rcases hp with rfl | rfl | rfl | rfl | rfl | rfl | rfl | rfl | rfl | rfl | rfl | rfl | rfl | rfl | rfl | rfl | rfl | rfl | rfl | rfl | rfl | rfl | rfl <;> first | (exact absurd e (by decide)) | assumption)) trivial
                      clear hK hx
                      rw [if_pos (by rfl)]
                      go_simp
                      simpa [upd, d20] using hK'
                    · have L2 : L 2 = true := (hdep ⟨2, .data⟩ (by simp) rfl).1
                      have d2 : t 2 = .int .u64 (IntKind.u64.wrap (t1v + t2v)) := by simpa using (hdep ⟨2, .data⟩ (by simp) rfl).2
                      have L3 : L 3 = true := (hdep ⟨3, .data⟩ (by simp) rfl).1
                      have d3 : t 3 = .int .u64 (y0) := by simpa using (hdep ⟨3, .data⟩ (by simp) rfl).2
                      have L6 : L 6 = true := (hdep ⟨6, .data⟩ (by simp) rfl).1
                      have d6 : t 6 = .int .u64 (y1) := by simpa using (hdep ⟨6, .data⟩ (by simp) rfl).2
                      have L9 : L 9 = true := (hdep ⟨9, .data⟩ (by simp) rfl).1
                      have d9 : t 9 = .int .u64 (y2) := by simpa using (hdep ⟨9, .data⟩ (by simp) rfl).2
                      have L14 : L 14 = true := (hdep ⟨14, .data⟩ (by simp) rfl).1
                      have d14 : t 14 = .int .u64 (IntKind.u64.wrap (y3 + t1v)) := by simpa using (hdep ⟨14, .data⟩ (by simp) rfl).2
                      have L15 : L 15 = true := (hdep ⟨15, .data⟩ (by simp) rfl).1
                      have d15 : t 15 = .int .u64 (y4) := by simpa using (hdep ⟨15, .data⟩ (by simp) rfl).2
                      have L18 : L 18 = true := (hdep ⟨18, .data⟩ (by simp) rfl).1
                      have d18 : t 18 = .int .u64 (y5) := by simpa using (hdep ⟨18, .data⟩ (by simp) rfl).2
                      have L21 : L 21 = true := (hdep ⟨21, .data⟩ (by simp) rfl).1
                      have d21 : t 21 = .int .u64 (y6) := by simpa using (hdep ⟨21, .data⟩ (by simp) rfl).2
                      clear hdep
                      have hw := hx.world hLi
                      have hK' := hK ((wq.alloc (.cells #[.int .u64 (IntKind.u64.wrap (t1v + t2v)), .int .u64 y0, .int .u64 y1, .int .u64 y2, .int .u64 (IntKind.u64.wrap (y3 + t1v)), .int .u64 y4, .int .u64 y5, .int .u64 y6] 39)).drew) (.slice (some ⟨wq.heap.size, 0, none⟩) 8 8) (by simp [updK]) (hx.build _ (by decide) (by intro p hp e; simp only [List.mem_cons, List.not_mem_nil, or_false] at hp; rcases hp with rfl | rfl | rfl | rfl | rfl | rfl | rfl | rfl | rfl | rfl | rfl | rfl | rfl | rfl | rfl | rfl | rfl | rfl | rfl | rfl | rfl | rfl | rfl <;> first | (exact absurd e (by decide)) | assumption)) trivial
                      clear hK hx
                      subst hw
                      rw [if_pos (by rfl)]
                      go_simp
                      simpa [upd, d2, d3, d6, d9, d14, d15, d18, d21] using hK'
                    · have L22 : L 22 = true := (hdep ⟨22, .data⟩ (by simp) rfl).1
                      have d22 : t 22 = .slice (some ⟨wq.heap.size, 0, none⟩) 8 8 := by have := (hdep ⟨22, .data⟩ (by simp) rfl).2; simp at this; exact this.1
                      clear hdep
                      have hK' := hK w' (.slice (some ⟨wq.heap.size, 0, none⟩) 8 8) (by simp) (hx.asg _ (by decide) (by intro p hp e; simp only [List.mem_cons, List.not_mem_nil, or_false] at hp; rcases hp with rfl | rfl | rfl | rfl | rfl | rfl | rfl | rfl | rfl | rfl | rfl | rfl | rfl | rfl | rfl | rfl | rfl | rfl | rfl | rfl | rfl | rfl | rfl <;> first | (exact absurd e (by decide)) | assumption)) trivial
                      clear hK hx
                      rw [if_pos (by rfl)]
                      go_simp
                      simpa [upd, d22] using hK'
                  case hdone =>
                    intro L t w9' hx hg
                    have hb := hg 22 (by decide)
                    have ds : t 23 = .slice (some ⟨wq.heap.size, 0, none⟩) 8 8 := by simpa using hg 23 (by decide)
                    simp at hb
                    have hw := hx.fin hb.2
                    clear hg hx hb
                    have HB2 : Hid (Below wz.heap.size wz w9') := by rw [hw]; exact (HBw.out.alloc HBw.out.size _).drew
                    have HV2 : Hid (wq.heap.size < w9'.heap.size ∧ ∀ i, i < 8 → w9'.cell? ⟨wq.heap.size, i, none⟩ = some (.int .u64 ((rnds hs bs (q + 1)).getD i 0))) := by
                      rw [hw, HRN.out]
                      refine ⟨by show wq.heap.size < (wq.alloc _).heap.size; rw [World.size_alloc]; omega, fun i hi => ?_⟩
                      have : i = 0 ∨ i = 1 ∨ i = 2 ∨ i = 3 ∨ i = 4 ∨ i = 5 ∨ i = 6 ∨ i = 7 := by omega
                      rcases this with rfl | rfl | rfl | rfl | rfl | rfl | rfl | rfl <;> exact World.cell?_alloc_new wq _ _ _
                    clear hw
                    dsimp only
                    rw [ds]
                    clear ds
                    go_wp2
                    go_roundw
                    case rel => exact ⟨q + 1, wq.heap.size, 8, by omega, by go_num, rfl, HV2.out, HB2.out⟩
                    case measure => simp [intOf]; omega
            · obtain rfl : q = 80 := by omega
              have HBy := hid_ofS hbel
              have HVy := hid_ofS hv
              have HBKy := hid_ofS (HBKz.out.below hbel)
              clear hv hbel
              generalize wr = wy at *
              have HE := hid_ofS (OwnK.empty (k := .u64) (t := 39) wy wy.heap.size (Nat.le_refl _))
              have HALy : Hid (Below wy.heap.size wy (wy.alloc (.cells #[] 39))) := (Below.refl _ _).alloc (Nat.le_refl _) _
              go_wp2
              go_loopw [18, 19] (fun v i wr => ∃ q : Nat, q ≤ 8 ∧ i = .int .i64 q ∧ OwnU wr wy.heap.size v ((mixL hs bs).take q) ∧ Below wy.heap.size wy wr) (fun _ i _ => 8 - (intOf i).toNat)
              case atStart => exact ⟨0, by omega, rfl, HE.out, HALy.out⟩
              case round =>
                clear HE HALy
                obtain ⟨q, ht, rfl, hown, hbel⟩ := hrel
                by_cases hlt : q < 8
                · have hlt' : (q : Int) < 8 := by omega
                  obtain ⟨g2, c2, rfl, hg21, hg22, hg23⟩ := hown.base
                  have hlq : ((mixL hs bs).take q).length = q := by rw [List.length_take, (mixL_w8 hs bs).1]; omega
                  rw [hlq] at hown hg23 ⊢
                  have HO := hid_ofS hown
                  have HB := hid_ofS hbel
                  have HTK : Hid ((mixL hs bs).take (q + 1) = (mixL hs bs).take q ++ [IntKind.u64.wrap (hs.getD q 0 + (rnds hs bs 80).getD q 0)]) := by
                    show _ = _
                    rw [take_snocI _ _ (by rw [(mixL_w8 hs bs).1]; exact hlt)]
                    unfold mixL
                    rw [mixA_get _ _ _ _ hlt, if_pos hlt]
                  have chq : wr.cell? ⟨bh, oh + q, none⟩ = some (.int .u64 (hs.getD q 0)) := by rw [World.cell?_of_block (w := wy) (hbel.block bh HBKy.out.h.1)]; exact HBKy.out.h.2 q hlt
                  have cyq : wr.cell? ⟨gv, q, none⟩ = some (.int .u64 ((rnds hs bs 80).getD q 0)) := by rw [World.cell?_of_block (w := wy) (hbel.block gv HVy.out.1)]; exact HVy.out.2 q hlt
                  have UH := H8.out.2 q; have UY := (rnds_w8 H8.out bs 80).2 q
                  obtain ⟨hq, hhq⟩ : ∃ x, x = hs.getD q 0 := ⟨_, rfl⟩
                  obtain ⟨yq, hyq⟩ : ∃ x, x = (rnds hs bs 80).getD q 0 := ⟨_, rfl⟩
                  rw [← hhq] at chq HTK UH; rw [← hyq] at cyq HTK UY
                  clear hhq hyq hown hbel hlq
                  obtain ⟨uh0, uh1⟩ := UH; obtain ⟨uy0, uy1⟩ := UY
                  go_wp2
                  have HOX : Hid (OwnU ((wr.alloc (.cells #[.int .u64 (IntKind.u64.wrap (hq + yq))] 39)).drew) wy.heap.size (.slice (some ⟨g2, 0, none⟩) q c2) ((mixL hs bs).take q)) := OwnK.alloc HO.out _
                  have HBX : Hid (Below wy.heap.size wy ((wr.alloc (.cells #[.int .u64 (IntKind.u64.wrap (hq + yq))] 39)).drew)) := (HB.out.alloc HB.out.size _).drew
                  have HLO : Hid (wy.heap.size ≤ ((wr.alloc (.cells #[.int .u64 (IntKind.u64.wrap (hq + yq))] 39)).drew).heap.size) := HBX.out.size
                  have HLJ : Hid (((mixL hs bs).take q).length + 1 ≤ 1048576) := by show _ ≤ _; rw [List.length_take]; omega
                  have HCX : Hid (∀ i, i < ([IntKind.u64.wrap (hq + yq)] : List Int).length → ((wr.alloc (.cells #[.int .u64 (IntKind.u64.wrap (hq + yq))] 39)).drew).cell? ⟨wr.heap.size, 0 + i, none⟩ = some (.int .u64 (([IntKind.u64.wrap (hq + yq)] : List Int).getD i 0))) := by
                    intro i hi
                    obtain rfl : i = 0 := by simpa using hi
                    exact World.cell?_alloc_new wr _ _ 0
                  refine wp_region_any (by kernel_rfl) ?_
                  refine wpAny_slotsU (fun _ _ _ => True) (frame := (fun (c0 c1 c2 c3 c4 c5 c6 c7 c8 c9 c10 c11 c12 c13 c14 c15 c16 c17 c19 c20 c21 c22 c23 c24 c25 c26 c27 c28 c29 c30 c31 c32 c33 c34 c35 c36 c37 c38 c39 c40 c41 c42 c43 c44 c45 c46 c47 c48 c49 c50 c51 c52 c53 c54 c55 c56 c57 c58 c59 c60 c61 c62 c63 c64 c65 c66 c67 c68 c69 c70 c71 c72 c73 c74 c75 c76 c77 c78 c79 c80 c81 c82 c83 c84 c85 c86 c87 c88 c89 c90 c91 c92 c93 c94 c95 c96 c97 c98 c99 c100 c101 c102 c103 c104 c105 c106 c107 c108 c109 c110 c111 c112 c113 c114 c115 c116 c117 c118 c119 c120 c121 c122 c123 c124 c125 c126 c127 c128 c129 c130 c131 c132 c133 c134 c135 c136 c137 c138 c139 c140 c141 c142 c143 c144 c145 c146 c147 c148 c149 c150 c151 c152 c153 c154 c155 c156 c157 c158 c159 c160 c161 c162 c163 c164 c165 c166 c167 c168 c169 c170 c171 c172 c173 c174 c175 c176 c177 c178 c179 c180 c181 c182 c183 c184 c185 c186 c187 c188 c189 c190 c191 c192 c193 c194 c195 c196 c197 c198 c199 c200 c201 c214 : Value) => fun (t : Nat → Value) => ({ tmps := List.toArray (c0 :: c1 :: c2 :: c3 :: c4 :: c5 :: c6 :: c7 :: c8 :: c9 :: c10 :: c11 :: c12 :: c13 :: c14 :: c15 :: c16 :: c17 :: t 12 :: c19 :: c20 :: c21 :: c22 :: c23 :: c24 :: c25 :: c26 :: c27 :: c28 :: c29 :: c30 :: c31 :: c32 :: c33 :: c34 :: c35 :: c36 :: c37 :: c38 :: c39 :: c40 :: c41 :: c42 :: c43 :: c44 :: c45 :: c46 :: c47 :: c48 :: c49 :: c50 :: c51 :: c52 :: c53 :: c54 :: c55 :: c56 :: c57 :: c58 :: c59 :: c60 :: c61 :: c62 :: c63 :: c64 :: c65 :: c66 :: c67 :: c68 :: c69 :: c70 :: c71 :: c72 :: c73 :: c74 :: c75 :: c76 :: c77 :: c78 :: c79 :: c80 :: c81 :: c82 :: c83 :: c84 :: c85 :: c86 :: c87 :: c88 :: c89 :: c90 :: c91 :: c92 :: c93 :: c94 :: c95 :: c96 :: c97 :: c98 :: c99 :: c100 :: c101 :: c102 :: c103 :: c104 :: c105 :: c106 :: c107 :: c108 :: c109 :: c110 :: c111 :: c112 :: c113 :: c114 :: c115 :: c116 :: c117 :: c118 :: c119 :: c120 :: c121 :: c122 :: c123 :: c124 :: c125 :: c126 :: c127 :: c128 :: c129 :: c130 :: c131 :: c132 :: c133 :: c134 :: c135 :: c136 :: c137 :: c138 :: c139 :: c140 :: c141 :: c142 :: c143 :: c144 :: c145 :: c146 :: c147 :: c148 :: c149 :: c150 :: c151 :: c152 :: c153 :: c154 :: c155 :: c156 :: c157 :: c158 :: c159 :: c160 :: c161 :: c162 :: c163 :: c164 :: c165 :: c166 :: c167 :: c168 :: c169 :: c170 :: c171 :: c172 :: c173 :: c174 :: c175 :: c176 :: c177 :: c178 :: c179 :: c180 :: c181 :: c182 :: c183 :: c184 :: c185 :: c186 :: c187 :: c188 :: c189 :: c190 :: c191 :: c192 :: c193 :: c194 :: c195 :: c196 :: c197 :: c198 :: c199 :: c200 :: c201 :: t 0 :: t 1 :: t 2 :: t 3 :: t 4 :: t 5 :: t 6 :: t 7 :: t 8 :: t 9 :: t 10 :: t 11 :: c214 :: []), defers := [] } : Act)) _ _ _ _ _ _ _ _ _ _ _ _ _ _ _ _ _ _ _ _ _ _ _ _ _ _ _ _ _ _ _ _ _ _ _ _ _ _ _ _ _ _ _ _ _ _ _ _ _ _ _ _ _ _ _ _ _ _ _ _ _ _ _ _ _ _ _ _ _ _ _ _ _ _ _ _ _ _ _ _ _ _ _ _ _ _ _ _ _ _ _ _ _ _ _ _ _ _ _ _ _ _ _ _ _ _ _ _ _ _ _ _ _ _ _ _ _ _ _ _ _ _ _ _ _ _ _ _ _ _ _ _ _ _ _ _ _ _ _ _ _ _ _ _ _ _ _ _ _ _ _ _ _ _ _ _ _ _ _ _ _ _ _ _ _ _ _ _ _ _ _ _ _ _ _ _ _ _ _ _ _ _ _ _ _ _ _ _ _ _ _ _ _ _ _ _ _ _ _ _ _ _)
                    (Ext := fun L u w' => AC [(12, 11), (11, 10), (11, 0), (10, 9), (9, 4), (9, 8), (4, 3), (3, 1), (3, 2), (8, 7), (7, 5), (7, 6)] 10 11 12 (.slice (some ⟨g2, 0, none⟩) q c2) (wr.drew) ((wr.alloc (.cells #[.int .u64 (IntKind.u64.wrap (hq + yq))] 39)).drew) (fun w8 v8 => OwnU w8 wy.heap.size v8 ((mixL hs bs).take q ++ [IntKind.u64.wrap (hq + yq)]) ∧ Below wy.heap.size wy w8) L u w') (Good := fun i L w' v => if i = 0 then v = .slice (some ⟨g2, 0, none⟩) q c2 else if i = 1 then v = .slice (some ⟨bh, oh, none⟩) 8 ch else if i = 2 then v = .int .i64 (q : Int) else if i = 3 then v = .pointer (some ⟨bh, oh + q, none⟩) else if i = 4 then v = .int .u64 (hq) else if i = 5 then v = .slice (some ⟨gv, 0, none⟩) 8 cv else if i = 6 then v = .int .i64 (q : Int) else if i = 7 then v = .pointer (some ⟨gv, q, none⟩) else if i = 8 then v = .int .u64 (yq) else if i = 9 then v = .int .u64 (IntKind.u64.wrap (hq + yq)) else if i = 10 then v = .slice (some ⟨wr.heap.size, 0, none⟩) 1 1 else if i = 11 then L 11 = true else if i = 12 then L 12 = true else True) ?hstab (by kernel_rfl) ?hop ?hdone _ _ ((fun (x0 x1 x2 x3 x4 x5 x6 x7 x8 x9 x10 x11 x12 : Value) => fun (i : Nat) => if i = 0 then x0 else if i = 1 then x1 else if i = 2 then x2 else if i = 3 then x3 else if i = 4 then x4 else if i = 5 then x5 else if i = 6 then x6 else if i = 7 then x7 else if i = 8 then x8 else if i = 9 then x9 else if i = 10 then x10 else if i = 11 then x11 else if i = 12 then x12 else undef) _ _ _ _ _ _ _ _ _ _ _ _ _) _ (by simp) ?ext ?start (by simp)
                  case start => intro i hi h; exact absurd h (by rw [Array.getD_eq_getD_getElem?, Array.getElem?_replicate]; split <;> simp)
                  case ext => exact AC.start (fun i => by rw [Array.getD_eq_getD_getElem?, Array.getElem?_replicate]; split <;> rfl) rfl
                  case hstab =>
                    intro j L w9 w' i v hM hij hLi h
                    have hu : ∀ k, L k = true → updK L i k = true := fun k hk => by unfold updK; split <;> simp [hk]
                    by_cases ha : j = 11
                    · subst ha
                      simp at h ⊢
                      exact hu _ h
                    by_cases hs : j = 12
                    · subst hs
                      simp at h ⊢
                      exact hu _ h
                    simp only [if_neg ha, if_neg hs] at h ⊢
                    exact h
                  case hop =>
                    intro i o L t w' ho hLi hx hdep K hK
                    have hi : i < 13 := (Array.getElem?_eq_some_iff.1 ho).1
                    obtain rfl | rfl | rfl | rfl | rfl | rfl | rfl | rfl | rfl | rfl | rfl | rfl | rfl : i = 0 ∨ i = 1 ∨ i = 2 ∨ i = 3 ∨ i = 4 ∨ i = 5 ∨ i = 6 ∨ i = 7 ∨ i = 8 ∨ i = 9 ∨ i = 10 ∨ i = 11 ∨ i = 12 := by omega
                    all_goals (simp at ho; subst ho)
                    · clear hdep
                      have l11 := hx.cl.back (a := 11) (b := 0) (by decide) hLi
                      have l12 := hx.cl.back (a := 12) (b := 11) (by decide) l11
                      have ds : t 12 = .slice (some ⟨g2, 0, none⟩) q c2 := hx.old l12
                      have hK' := hK w' (.slice (some ⟨g2, 0, none⟩) q c2) (by simp) (hx.pure 0 _ (by decide) (by decide) (by decide) (by intro p hp e; simp only [List.mem_cons, List.not_mem_nil, or_false] at hp; rcases hp with rfl | rfl | rfl | rfl | rfl | rfl | rfl | rfl | rfl | rfl | rfl | rfl <;> first | (exact absurd e (by decide)) | assumption)) trivial
                      clear hK hx
                      rw [if_pos (by rfl)]
                      go_simp
                      simpa [upd, ds] using hK'
                    · clear hdep
                      have hK' := hK w' (.slice (some ⟨bh, oh, none⟩) 8 ch) (by simp) (hx.pure 1 _ (by decide) (by decide) (by decide) (by intro p hp e; simp only [List.mem_cons, List.not_mem_nil, or_false] at hp; rcases hp with rfl | rfl | rfl | rfl | rfl | rfl | rfl | rfl | rfl | rfl | rfl | rfl <;> first | (exact absurd e (by decide)) | assumption)) trivial
                      clear hK hx
                      rw [if_pos (by rfl)]
                      go_simp
                      simpa [upd] using hK'
                    · clear hdep
                      have hK' := hK w' (.int .i64 (q : Int)) (by simp) (hx.pure 2 _ (by decide) (by decide) (by decide) (by intro p hp e; simp only [List.mem_cons, List.not_mem_nil, or_false] at hp; rcases hp with rfl | rfl | rfl | rfl | rfl | rfl | rfl | rfl | rfl | rfl | rfl | rfl <;> first | (exact absurd e (by decide)) | assumption)) trivial
                      clear hK hx
                      rw [if_pos (by rfl)]
                      go_simp
                      simpa [upd] using hK'
                    · have L1 : L 1 = true := (hdep ⟨1, .data⟩ (by simp) rfl).1
                      have d1 : t 1 = .slice (some ⟨bh, oh, none⟩) 8 ch := by simpa using (hdep ⟨1, .data⟩ (by simp) rfl).2
                      have L2 : L 2 = true := (hdep ⟨2, .data⟩ (by simp) rfl).1
                      have d2 : t 2 = .int .i64 (q : Int) := by simpa using (hdep ⟨2, .data⟩ (by simp) rfl).2
                      clear hdep
                      have hK' := hK w' (.pointer (some ⟨bh, oh + q, none⟩)) (by simp) (hx.pure 3 _ (by decide) (by decide) (by decide) (by intro p hp e; simp only [List.mem_cons, List.not_mem_nil, or_false] at hp; rcases hp with rfl | rfl | rfl | rfl | rfl | rfl | rfl | rfl | rfl | rfl | rfl | rfl <;> first | (exact absurd e (by decide)) | assumption)) trivial
                      clear hK hx
                      rw [if_pos (by rfl)]
                      go_simp
                      simpa [upd, d1, d2] using hK'
                    · have L3 : L 3 = true := (hdep ⟨3, .data⟩ (by simp) rfl).1
                      have d3 : t 3 = .pointer (some ⟨bh, oh + q, none⟩) := by simpa using (hdep ⟨3, .data⟩ (by simp) rfl).2
                      clear hdep
                      have l9 := hx.cl.back (a := 9) (b := 4) (by decide) hLi
                      have l10 := hx.cl.back (a := 10) (b := 9) (by decide) l9
                      have hw := hx.world l10 (by decide)
                      have hc : w'.cell? ⟨bh, oh + q, none⟩ = some (.int .u64 hq) := by rw [hw]; exact chq
                      clear hw
                      have hK' := hK w' (.int .u64 (hq)) (by simp) (hx.pure 4 _ (by decide) (by decide) (by decide) (by intro p hp e; simp only [List.mem_cons, List.not_mem_nil, or_false] at hp; rcases hp with rfl | rfl | rfl | rfl | rfl | rfl | rfl | rfl | rfl | rfl | rfl | rfl <;> first | (exact absurd e (by decide)) | assumption)) trivial
                      clear hK hx
                      rw [if_pos (by rfl)]
                      go_simp
                      simpa [upd, d3] using hK'
                    · clear hdep
                      have hK' := hK w' (.slice (some ⟨gv, 0, none⟩) 8 cv) (by simp) (hx.pure 5 _ (by decide) (by decide) (by decide) (by intro p hp e; simp only [List.mem_cons, List.not_mem_nil, or_false] at hp; rcases hp with rfl | rfl | rfl | rfl | rfl | rfl | rfl | rfl | rfl | rfl | rfl | rfl <;> first | (exact absurd e (by decide)) | assumption)) trivial
                      clear hK hx
                      rw [if_pos (by rfl)]
                      go_simp
                      simpa [upd] using hK'
                    · clear hdep
                      have hK' := hK w' (.int .i64 (q : Int)) (by simp) (hx.pure 6 _ (by decide) (by decide) (by decide) (by intro p hp e; simp only [List.mem_cons, List.not_mem_nil, or_false] at hp; rcases hp with rfl | rfl | rfl | rfl | rfl | rfl | rfl | rfl | rfl | rfl | rfl | rfl <;> first | (exact absurd e (by decide)) | assumption)) trivial
                      clear hK hx
                      rw [if_pos (by rfl)]
                      go_simp
                      simpa [upd] using hK'
                    · have L5 : L 5 = true := (hdep ⟨5, .data⟩ (by simp) rfl).1
                      have d5 : t 5 = .slice (some ⟨gv, 0, none⟩) 8 cv := by simpa using (hdep ⟨5, .data⟩ (by simp) rfl).2
                      have L6 : L 6 = true := (hdep ⟨6, .data⟩ (by simp) rfl).1
                      have d6 : t 6 = .int .i64 (q : Int) := by simpa using (hdep ⟨6, .data⟩ (by simp) rfl).2
                      clear hdep
                      have hK' := hK w' (.pointer (some ⟨gv, q, none⟩)) (by simp) (hx.pure 7 _ (by decide) (by decide) (by decide) (by intro p hp e; simp only [List.mem_cons, List.not_mem_nil, or_false] at hp; rcases hp with rfl | rfl | rfl | rfl | rfl | rfl | rfl | rfl | rfl | rfl | rfl | rfl <;> first | (exact absurd e (by decide)) | assumption)) trivial
                      clear hK hx
                      rw [if_pos (by rfl)]
                      go_simp
                      simpa [upd, d5, d6] using hK'
                    · have L7 : L 7 = true := (hdep ⟨7, .data⟩ (by simp) rfl).1
                      have d7 : t 7 = .pointer (some ⟨gv, q, none⟩) := by simpa using (hdep ⟨7, .data⟩ (by simp) rfl).2
                      clear hdep
                      have l9 := hx.cl.back (a := 9) (b := 8) (by decide) hLi
                      have l10 := hx.cl.back (a := 10) (b := 9) (by decide) l9
                      have hw := hx.world l10 (by decide)
                      have hc : w'.cell? ⟨gv, q, none⟩ = some (.int .u64 yq) := by rw [hw]; exact cyq
                      clear hw
                      have hK' := hK w' (.int .u64 (yq)) (by simp) (hx.pure 8 _ (by decide) (by decide) (by decide) (by intro p hp e; simp only [List.mem_cons, List.not_mem_nil, or_false] at hp; rcases hp with rfl | rfl | rfl | rfl | rfl | rfl | rfl | rfl | rfl | rfl | rfl | rfl <;> first | (exact absurd e (by decide)) | assumption)) trivial
                      clear hK hx
                      rw [if_pos (by rfl)]
                      go_simp
                      simpa [upd, d7] using hK'
                    · have L4 : L 4 = true := (hdep ⟨4, .data⟩ (by simp) rfl).1
                      have d4 : t 4 = .int .u64 (hq) := by simpa using (hdep ⟨4, .data⟩ (by simp) rfl).2
                      have L8 : L 8 = true := (hdep ⟨8, .data⟩ (by simp) rfl).1
                      have d8 : t 8 = .int .u64 (yq) := by simpa using (hdep ⟨8, .data⟩ (by simp) rfl).2
                      clear hdep
                      have hK' := hK w' (.int .u64 (IntKind.u64.wrap (hq + yq))) (by simp) (hx.pure 9 _ (by decide) (by decide) (by decide) (by intro p hp e; simp only [List.mem_cons, List.not_mem_nil, or_false] at hp; rcases hp with rfl | rfl | rfl | rfl | rfl | rfl | rfl | rfl | rfl | rfl | rfl | rfl <;> first | (exact absurd e (by decide)) | assumption)) trivial
                      clear hK hx
                      rw [if_pos (by rfl)]
                      go_simp
                      simpa [upd, d4, d8] using hK'
                    · have L9 : L 9 = true := (hdep ⟨9, .data⟩ (by simp) rfl).1
                      have d9 : t 9 = .int .u64 (IntKind.u64.wrap (hq + yq)) := by simpa using (hdep ⟨9, .data⟩ (by simp) rfl).2
                      clear hdep
                      have hw := hx.world hLi (by decide)
                      have hK' := hK ((wr.alloc (.cells #[.int .u64 (IntKind.u64.wrap (hq + yq))] 39)).drew) (.slice (some ⟨wr.heap.size, 0, none⟩) 1 1) (by simp) (hx.build _ hLi (by decide) (by decide) (by decide) (by intro p hp e; simp only [List.mem_cons, List.not_mem_nil, or_false] at hp; rcases hp with rfl | rfl | rfl | rfl | rfl | rfl | rfl | rfl | rfl | rfl | rfl | rfl <;> first | (exact absurd e (by decide)) | assumption)) trivial
                      clear hK hx
                      subst hw
                      rw [if_pos (by rfl)]
                      go_simp
                      simpa [upd, d9] using hK'
                    · have L0 : L 0 = true := (hdep ⟨0, .data⟩ (by simp) rfl).1
                      have d0 : t 0 = .slice (some ⟨g2, 0, none⟩) q c2 := by simpa using (hdep ⟨0, .data⟩ (by simp) rfl).2
                      have L10 : L 10 = true := (hdep ⟨10, .data⟩ (by simp) rfl).1
                      have d10 : t 10 = .slice (some ⟨wr.heap.size, 0, none⟩) 1 1 := by simpa using (hdep ⟨10, .data⟩ (by simp) rfl).2
                      clear hdep
                      have hw := hx.mid L10 hLi
                      have hK' : ∀ v9 w9, (fun w8 v8 => OwnU w8 wy.heap.size v8 ((mixL hs bs).take q ++ [IntKind.u64.wrap (hq + yq)]) ∧ Below wy.heap.size wy w8) w9 v9 → K _ w9 := fun v9 w9 hf => hK w9 v9 (by simp [updK]) (hx.app hf hLi (by decide) (by decide) (by intro p hp e; simp only [List.mem_cons, List.not_mem_nil, or_false] at hp; rcases hp with rfl | rfl | rfl | rfl | rfl | rfl | rfl | rfl | rfl | rfl | rfl | rfl <;> first | (exact absurd e (by decide)) | assumption)) trivial
                      clear hK hx
                      subst hw
                      rw [if_pos (by rfl)]
                      refine wp_appU _ (.tmp 202) (.tmp 212) rfl wy.heap.size (.slice (some ⟨g2, 0, none⟩) q c2) ((mixL hs bs).take q) d0 HOX.out wr.heap.size 0 1 1 [IntKind.u64.wrap (hq + yq)] d10 rfl HCX.out HLJ.out HLO.out ?_
                      intro v9 w9 h9 b9
                      have hK2 := hK' v9 w9 ⟨h9, HBX.out.trans b9⟩
                      clear hK' h9 b9
                      simpa [upd, Act.put] using hK2
                    · have L11 : L 11 = true := (hdep ⟨11, .data⟩ (by simp) rfl).1
                      clear hdep
                      have hK' := hK w' (t 11) (by simp [updK]) (hx.asg (by decide) (by decide) (by intro p hp e; simp only [List.mem_cons, List.not_mem_nil, or_false] at hp; rcases hp with rfl | rfl | rfl | rfl | rfl | rfl | rfl | rfl | rfl | rfl | rfl | rfl <;> first | (exact absurd e (by decide)) | assumption)) trivial
                      clear hK hx
                      rw [if_pos (by rfl)]
                      go_simp
                      simpa [upd] using hK'
                  case hdone =>
                    intro L t w9' hx hg
                    obtain ⟨hsa, hf⟩ := hx.fin (by simpa using hg 11 (by decide)) (by simpa using hg 12 (by decide))
                    clear hg hx
                    obtain ⟨ho9, hb9⟩ := hf
                    have HO9 : Hid (OwnU w9' wy.heap.size (t 11) ((mixL hs bs).take (q + 1))) := by rw [HTK.out]; exact ho9
                    have HB9 := hid_ofS hb9
                    clear ho9 hb9
                    dsimp only
                    rw [hsa]
                    obtain ⟨v9, hv9⟩ : ∃ v, v = t 11 := ⟨_, rfl⟩
                    rw [← hv9] at HO9 ⊢
                    clear hv9 hsa
                    go_wp2
                    go_roundw
                    case rel => exact ⟨q + 1, by omega, by go_num, HO9.out, HB9.out⟩
                    case measure => simp [intOf]; omega
                · obtain rfl : q = 8 := by omega
                  rw [List.take_of_length_le (by rw [(mixL_w8 hs bs).1]; exact Nat.le_refl _)] at hown
                  have HOF := hid_ofS (hown.lower (HBz.out.trans (HBy.out.mono HBz.out.size)).size)
                  have HBF : Hid (Below w.heap.size w wr) := (HBz.out.trans (HBy.out.mono HBz.out.size)).trans (hbel.mono (HBz.out.trans (HBy.out.mono HBz.out.size)).size)
                  clear hown hbel
                  go_wp2
                  go_ret
                  exact ⟨_, rfl, HOF.out, HBF.out⟩
end Go.Proofs.YtclmhdhblghfnaaDoor
