import Derived.Test.YtganeokokjodoaaGreatMEqSn
namespace Go.Proofs.YtganeokokjodoaaGreat
open Go.ChangeShapes Go.WideShapes Go.ChangeAt Go.RowKit
set_option linter.unusedVariables false
set_option maxHeartbeats 8000000 in
set_option maxRecDepth 100000 in
theorem sameI_any (ok ok':Bool) (g g' t t' k k' nx nx':Int) (aSD bSD aSU bSU aF bF aD bD aU bU aT bT:Option Addr) (nSD cSD mSD dSD nSU cSU mSU dSU nF cF mF dF nD cD mD dD nU cU mU dU nT cT mT dT:Nat) (sD sD' sU sU' F F' D D' U U' T T':List Int) (w:World) (hSD:sD.length=nSD) (hSD':sD'.length=mSD) (hSU:sU.length=nSU) (hSU':sU'.length=mSU) (hF:F.length=nF*4) (hF':F'.length=mF*4) (hD:D.length=nD) (hD':D'.length=mD) (hU:U.length=nU) (hU':U'.length=mU) (hT:T.length=nT*2) (hT':T'.length=mT*2) (bnd:nSD≤1048576∧mSD≤1048576∧nSU≤1048576∧mSU≤1048576∧nF≤1048576∧mF≤1048576∧nD≤1048576∧mD≤1048576∧nU≤1048576∧mU≤1048576∧nT≤1048576∧mT≤1048576) (ASD:At .i64 w aSD sD) (BSD:At .i64 w bSD sD') (ASU:At .i64 w aSU sU) (BSU:At .i64 w bSU sU') (AF:FAt w aF F) (BF:FAt w bF F') (AD:At .i64 w aD D) (BD:At .i64 w bD D') (AU:At .i64 w aU U) (BU:At .i64 w bU U') (AT:At .i64 w aT T) (BT:At .i64 w bT T') :
  Calls Tryz.prog 50 #[.agg #[.bool ok,.int .u32 g,.int .u32 t,.slice aSD nSD cSD,.slice aSU nSU cSU,.slice aF nF cF,.slice aD nD cD,.slice aU nU cU,.int .i64 k,.slice aT nT cT,.int .u32 nx],.agg #[.bool ok',.int .u32 g',.int .u32 t',.slice bSD mSD dSD,.slice bSU mSU dSU,.slice bF mF dF,.slice bD mD dD,.slice bU mU dU,.int .i64 k',.slice bT mT dT,.int .u32 nx']] w fun e w'=>e=.returned (.bool (decide (ok=ok'∧nx=nx'∧g=g'∧t=t'∧sD=sD'∧sU=sU'∧F=F'∧D=D'∧U=U'∧k=k'∧T=T')))∧Below w.heap.size w w':=by
 have HE0:Hid (BE w 36 #[.bool ok,.int .u32 g,.int .u32 t,.slice aSD nSD cSD,.slice aSU nSU cSU,.slice aF nF cF,.slice aD nD cD,.slice aU nU cU,.int .i64 k,.slice aT nT cT,.int .u32 nx] #[.bool ok',.int .u32 g',.int .u32 t',.slice bSD mSD dSD,.slice bSU mSU dSU,.slice bF mF dF,.slice bD mD dD,.slice bU mU dU,.int .i64 k',.slice bT mT dT,.int .u32 nx'] ((w.alloc (.cells #[.bool ok,.int .u32 g,.int .u32 t,.slice aSD nSD cSD,.slice aSU nSU cSU,.slice aF nF cF,.slice aD nD cD,.slice aU nU cU,.int .i64 k,.slice aT nT cT,.int .u32 nx] 36)).alloc (.cells #[.bool ok',.int .u32 g',.int .u32 t',.slice bSD mSD dSD,.slice bSU mSU dSU,.slice bF mF dF,.slice bD mD dD,.slice bU mU dU,.int .i64 k',.slice bT mT dT,.int .u32 nx'] 36))):=BE.start _ _ _ _
 have HA:=hid_ofV (And.intro (And.intro ASD BSD) (And.intro (And.intro ASU BSU) (And.intro (And.intro AF BF) (And.intro (And.intro AD BD) (And.intro (And.intro AU BU) (And.intro AT BT))))))
 have HL:=hid_ofV (And.intro (And.intro hSD hSD') (And.intro (And.intro hSU hSU') (And.intro (And.intro hF hF') (And.intro (And.intro hD hD') (And.intro (And.intro hU hU') (And.intro hT hT'))))))
 have HN:=hid_ofV bnd
 obtain⟨V,hV⟩:∃ V,V=decide (ok=ok'∧nx=nx'∧g=g'∧t=t'∧sD=sD'∧sU=sU'∧F=F'∧D=D'∧U=U'∧k=k'∧T=T'):=⟨_,rfl⟩
 rw[←hV]
 have HV:=hid_ofV hV
 clear hV bnd ASD BSD hSD hSD' ASU BSU hSU hSU' AF BF hF hF' AD BD hD hD' AU BU hU hU' AT BT hT hT'
 go_enter Tryz.func50,Tryz.ntmps50
 go_upto_region 1 with fail
 generalize (w.alloc (.cells #[.bool ok,.int .u32 g,.int .u32 t,.slice aSD nSD cSD,.slice aSU nSU cSU,.slice aF nF cF,.slice aD nD cD,.slice aU nU cU,.int .i64 k,.slice aT nT cT,.int .u32 nx] 36)).alloc (.cells #[.bool ok',.int .u32 g',.int .u32 t',.slice bSD mSD dSD,.slice bSU mSU dSU,.slice bF mF dF,.slice bD mD dD,.slice bU mU dU,.int .i64 k',.slice bT mT dT,.int .u32 nx'] 36)=w0 at *
 have x0':=cell_of_row w0 w.heap.size 0 _ _ _ HE0.out.b0
 have y0':=cell_of_row w0 (w.heap.size+1) 0 _ _ _ HE0.out.b1
 have x1':=cell_of_row w0 w.heap.size 1 _ _ _ HE0.out.b0
 have y1':=cell_of_row w0 (w.heap.size+1) 1 _ _ _ HE0.out.b1
 have x2':=cell_of_row w0 w.heap.size 2 _ _ _ HE0.out.b0
 have y2':=cell_of_row w0 (w.heap.size+1) 2 _ _ _ HE0.out.b1
 have x3':=cell_of_row w0 w.heap.size 3 _ _ _ HE0.out.b0
 have y3':=cell_of_row w0 (w.heap.size+1) 3 _ _ _ HE0.out.b1
 have x4':=cell_of_row w0 w.heap.size 4 _ _ _ HE0.out.b0
 have y4':=cell_of_row w0 (w.heap.size+1) 4 _ _ _ HE0.out.b1
 have x5':=cell_of_row w0 w.heap.size 5 _ _ _ HE0.out.b0
 have y5':=cell_of_row w0 (w.heap.size+1) 5 _ _ _ HE0.out.b1
 have x6':=cell_of_row w0 w.heap.size 6 _ _ _ HE0.out.b0
 have y6':=cell_of_row w0 (w.heap.size+1) 6 _ _ _ HE0.out.b1
 have x7':=cell_of_row w0 w.heap.size 7 _ _ _ HE0.out.b0
 have y7':=cell_of_row w0 (w.heap.size+1) 7 _ _ _ HE0.out.b1
 have x8':=cell_of_row w0 w.heap.size 8 _ _ _ HE0.out.b0
 have y8':=cell_of_row w0 (w.heap.size+1) 8 _ _ _ HE0.out.b1
 have x9':=cell_of_row w0 w.heap.size 9 _ _ _ HE0.out.b0
 have y9':=cell_of_row w0 (w.heap.size+1) 9 _ _ _ HE0.out.b1
 have x10':=cell_of_row w0 w.heap.size 10 _ _ _ HE0.out.b0
 have y10':=cell_of_row w0 (w.heap.size+1) 10 _ _ _ HE0.out.b1
 simp at x0' y0' x1' y1' x2' y2' x3' y3' x4' y4' x5' y5' x6' y6' x7' y7' x8' y8' x9' y9' x10' y10'
 by_cases hok:ok=ok'
 rotate_left
 ·have HF:Hid (V=false):=by
   show _=_
   rw[HV.out];exact decide_eq_false (by intro h;exact hok h.1)
  clear HV HA HL HN;cases ok<;>cases ok'<;>first|exact absurd rfl hok|skip
  ·clear hok
   iterate 11 (first|go_skip|go_guarded|go_step)
   refine(fun (c0 c1 c2 c3 c4 c5 c6 c7 c8 c9 c10 c11 c12 c13 c14 c15 c16 c17 c18 c19 c20 c21 c22 c23 c24 c25 c26 c27 c28 c29 c30 c31 c32 c33 c34 c35 c36 c37 c38 c39 c40 c41 c42 c43 c44 c45 c46 c47 c48 c49 c50 c51 c52 c53 c54 c55 c56 c57 c58 c59 c60 c61 c62 c63 c64 c65 c66 c67 c68 c69 c70 c71 c72 c73 c74 c75 c76 c77 c78 c79 c80 c81 c82 c83 c84 c85 c86 c87 c88 c89 c90:Value)=>orRun_wp (l:=c0::c1::c2::c3::c4::c5::c6::c7::c8::c9::c10::c11::c12::c13::c14::c15::c16::c17::c18::c19::c20::c21::c22::c23::c24::c25::c26::c27::c28::c29::c30::c31::c32::c33::c34::c35::c36::c37::c38::c39::c40::c41::c42::c43::c44::c45::c46::c47::c48::c49::c50::c51::c52::c53::c54::c55::c56::c57::c58::c59::c60::c61::c62::c63::c64::c65::c66::c67::c68::c69::c70::c71::c72::c73::c74::c75::c76::c77::c78::c79::c80::c81::c82::c83::c84::c85::c86::c87::c88::c89::c90::[]) (l':=c0::c1::c2::c3::c4::c5::c6::c7::c8::c9::c10::.bool true::c12::c13::c14::c15::c16::.bool true::.bool true::c19::c20::c21::c22::c23::c24::c25::.bool true::.bool true::c28::c29::c30::c31::c32::c33::c34::.bool true::.bool true::c37::c38::c39::c40::c41::c42::c43::c44::.bool true::.bool true::c47::c48::c49::c50::c51::c52::c53::c54::.bool true::.bool true::c57::c58::c59::c60::c61::c62::c63::.bool true::.bool true::c66::c67::c68::c69::c70::c71::.bool true::c73::c74::c75::c76::c77::c78::c79::c80::c81::c82::c83::c84::c85::c86::c87::c88::c89::c90::[])) _ _ _ _ _ _ _ _ _ _ _ _ _ _ _ _ _ _ _ _ _ _ _ _ _ _ _ _ _ _ _ _ _ _ _ _ _ _ _ _ _ _ _ _ _ _ _ _ _ _ _ _ _ _ _ _ _ _ _ _ _ _ _ _ _ _ _ _ _ _ _ _ _ _ _ _ _ _ _ _ _ _ _ _ _ _ _ _ _ _ _ ?h1 ?_
   case h1=>kernel_rfl
   go_wp2
   go_ret
   exact⟨by rw[HF.out];rfl,HE0.out.below⟩
  ·clear hok
   iterate 11 (first|go_skip|go_guarded|go_step)
   refine(fun (c0 c1 c2 c3 c4 c5 c6 c7 c8 c9 c10 c11 c12 c13 c14 c15 c16 c17 c18 c19 c20 c21 c22 c23 c24 c25 c26 c27 c28 c29 c30 c31 c32 c33 c34 c35 c36 c37 c38 c39 c40 c41 c42 c43 c44 c45 c46 c47 c48 c49 c50 c51 c52 c53 c54 c55 c56 c57 c58 c59 c60 c61 c62 c63 c64 c65 c66 c67 c68 c69 c70 c71 c72 c73 c74 c75 c76 c77 c78 c79 c80 c81 c82 c83 c84 c85 c86 c87 c88 c89 c90:Value)=>orRun_wp (l:=c0::c1::c2::c3::c4::c5::c6::c7::c8::c9::c10::c11::c12::c13::c14::c15::c16::c17::c18::c19::c20::c21::c22::c23::c24::c25::c26::c27::c28::c29::c30::c31::c32::c33::c34::c35::c36::c37::c38::c39::c40::c41::c42::c43::c44::c45::c46::c47::c48::c49::c50::c51::c52::c53::c54::c55::c56::c57::c58::c59::c60::c61::c62::c63::c64::c65::c66::c67::c68::c69::c70::c71::c72::c73::c74::c75::c76::c77::c78::c79::c80::c81::c82::c83::c84::c85::c86::c87::c88::c89::c90::[]) (l':=c0::c1::c2::c3::c4::c5::c6::c7::c8::c9::c10::.bool true::c12::c13::c14::c15::c16::.bool true::.bool true::c19::c20::c21::c22::c23::c24::c25::.bool true::.bool true::c28::c29::c30::c31::c32::c33::c34::.bool true::.bool true::c37::c38::c39::c40::c41::c42::c43::c44::.bool true::.bool true::c47::c48::c49::c50::c51::c52::c53::c54::.bool true::.bool true::c57::c58::c59::c60::c61::c62::c63::.bool true::.bool true::c66::c67::c68::c69::c70::c71::.bool true::c73::c74::c75::c76::c77::c78::c79::c80::c81::c82::c83::c84::c85::c86::c87::c88::c89::c90::[])) _ _ _ _ _ _ _ _ _ _ _ _ _ _ _ _ _ _ _ _ _ _ _ _ _ _ _ _ _ _ _ _ _ _ _ _ _ _ _ _ _ _ _ _ _ _ _ _ _ _ _ _ _ _ _ _ _ _ _ _ _ _ _ _ _ _ _ _ _ _ _ _ _ _ _ _ _ _ _ _ _ _ _ _ _ _ _ _ _ _ _ ?h2 ?_
   case h2=>kernel_rfl
   go_wp2
   go_ret
   exact⟨by rw[HF.out];rfl,HE0.out.below⟩
 subst hok
 have zok:(ok != ok)=false:=by simp
 by_cases hnx:nx=nx'
 rotate_left
 ·have z1:(nx != nx')=true:=by simpa using hnx
  have z2:decide (nx=nx')=false:=by simpa using hnx
  have HF:Hid (V=false):=by
   show _=_
   rw[HV.out];exact decide_eq_false (by intro h;exact hnx h.2.1)
  iterate 25 (first|go_skip|go_guarded|go_step)
  refine(fun (c0 c1 c2 c3 c4 c5 c6 c7 c8 c9 c10 c11 c12 c13 c14 c15 c16 c17 c18 c19 c20 c21 c22 c23 c24 c25 c26 c27 c28 c29 c30 c31 c32 c33 c34 c35 c36 c37 c38 c39 c40 c41 c42 c43 c44 c45 c46 c47 c48 c49 c50 c51 c52 c53 c54 c55 c56 c57 c58 c59 c60 c61 c62 c63 c64 c65 c66 c67 c68 c69 c70 c71 c72 c73 c74 c75 c76 c77 c78 c79 c80 c81 c82 c83 c84 c85 c86 c87 c88 c89 c90:Value)=>orRun_wp (l:=c0::c1::c2::c3::c4::c5::c6::c7::c8::c9::c10::c11::c12::c13::c14::c15::c16::c17::c18::c19::c20::c21::c22::c23::c24::c25::c26::c27::c28::c29::c30::c31::c32::c33::c34::c35::c36::c37::c38::c39::c40::c41::c42::c43::c44::c45::c46::c47::c48::c49::c50::c51::c52::c53::c54::c55::c56::c57::c58::c59::c60::c61::c62::c63::c64::c65::c66::c67::c68::c69::c70::c71::c72::c73::c74::c75::c76::c77::c78::c79::c80::c81::c82::c83::c84::c85::c86::c87::c88::c89::c90::[]) (l':=c0::c1::c2::c3::c4::c5::c6::c7::c8::c9::c10::c11::c12::c13::c14::c15::c16::c17::.bool true::c19::c20::c21::c22::c23::c24::c25::.bool true::.bool true::c28::c29::c30::c31::c32::c33::c34::.bool true::.bool true::c37::c38::c39::c40::c41::c42::c43::c44::.bool true::.bool true::c47::c48::c49::c50::c51::c52::c53::c54::.bool true::.bool true::c57::c58::c59::c60::c61::c62::c63::.bool true::.bool true::c66::c67::c68::c69::c70::c71::.bool true::c73::c74::c75::c76::c77::c78::c79::c80::c81::c82::c83::c84::c85::c86::c87::c88::c89::c90::[])) _ _ _ _ _ _ _ _ _ _ _ _ _ _ _ _ _ _ _ _ _ _ _ _ _ _ _ _ _ _ _ _ _ _ _ _ _ _ _ _ _ _ _ _ _ _ _ _ _ _ _ _ _ _ _ _ _ _ _ _ _ _ _ _ _ _ _ _ _ _ _ _ _ _ _ _ _ _ _ _ _ _ _ _ _ _ _ _ _ _ _ ?h3 ?_
  case h3=>kernel_rfl
  go_wp2
  go_ret
  exact⟨by rw[HF.out];rfl,by first|exact HE0.out.below|exact belD (HE0.out.below) _⟩
 subst hnx
 have znx:(nx != nx)=false:=by simp
 by_cases hg:g=g'
 rotate_left
 ·have z1:(g != g')=true:=by simpa using hg
  have z2:decide (g=g')=false:=by simpa using hg
  have HF:Hid (V=false):=by
   show _=_
   rw[HV.out];exact decide_eq_false (by intro h;exact hg h.2.2.1)
  iterate 43 (first|go_skip|go_guarded|go_step)
  refine(fun (c0 c1 c2 c3 c4 c5 c6 c7 c8 c9 c10 c11 c12 c13 c14 c15 c16 c17 c18 c19 c20 c21 c22 c23 c24 c25 c26 c27 c28 c29 c30 c31 c32 c33 c34 c35 c36 c37 c38 c39 c40 c41 c42 c43 c44 c45 c46 c47 c48 c49 c50 c51 c52 c53 c54 c55 c56 c57 c58 c59 c60 c61 c62 c63 c64 c65 c66 c67 c68 c69 c70 c71 c72 c73 c74 c75 c76 c77 c78 c79 c80 c81 c82 c83 c84 c85 c86 c87 c88 c89 c90:Value)=>orRun_wp (l:=c0::c1::c2::c3::c4::c5::c6::c7::c8::c9::c10::c11::c12::c13::c14::c15::c16::c17::c18::c19::c20::c21::c22::c23::c24::c25::c26::c27::c28::c29::c30::c31::c32::c33::c34::c35::c36::c37::c38::c39::c40::c41::c42::c43::c44::c45::c46::c47::c48::c49::c50::c51::c52::c53::c54::c55::c56::c57::c58::c59::c60::c61::c62::c63::c64::c65::c66::c67::c68::c69::c70::c71::c72::c73::c74::c75::c76::c77::c78::c79::c80::c81::c82::c83::c84::c85::c86::c87::c88::c89::c90::[]) (l':=c0::c1::c2::c3::c4::c5::c6::c7::c8::c9::c10::c11::c12::c13::c14::c15::c16::c17::c18::c19::c20::c21::c22::c23::c24::c25::c26::.bool true::c28::c29::c30::c31::c32::c33::c34::.bool true::.bool true::c37::c38::c39::c40::c41::c42::c43::c44::.bool true::.bool true::c47::c48::c49::c50::c51::c52::c53::c54::.bool true::.bool true::c57::c58::c59::c60::c61::c62::c63::.bool true::.bool true::c66::c67::c68::c69::c70::c71::.bool true::c73::c74::c75::c76::c77::c78::c79::c80::c81::c82::c83::c84::c85::c86::c87::c88::c89::c90::[])) _ _ _ _ _ _ _ _ _ _ _ _ _ _ _ _ _ _ _ _ _ _ _ _ _ _ _ _ _ _ _ _ _ _ _ _ _ _ _ _ _ _ _ _ _ _ _ _ _ _ _ _ _ _ _ _ _ _ _ _ _ _ _ _ _ _ _ _ _ _ _ _ _ _ _ _ _ _ _ _ _ _ _ _ _ _ _ _ _ _ _ ?h4 ?_
  case h4=>kernel_rfl
  go_wp2
  go_ret
  exact⟨by rw[HF.out];rfl,by first|exact HE0.out.below|exact belD (HE0.out.below) _⟩
 subst hg
 have zg:(g != g)=false:=by simp
 by_cases ht:t=t'
 rotate_left
 ·have z1:(t != t')=true:=by simpa using ht
  have z2:decide (t=t')=false:=by simpa using ht
  have HF:Hid (V=false):=by
   show _=_
   rw[HV.out];exact decide_eq_false (by intro h;exact ht h.2.2.2.1)
  iterate 61 (first|go_skip|go_guarded|go_step)
  refine(fun (c0 c1 c2 c3 c4 c5 c6 c7 c8 c9 c10 c11 c12 c13 c14 c15 c16 c17 c18 c19 c20 c21 c22 c23 c24 c25 c26 c27 c28 c29 c30 c31 c32 c33 c34 c35 c36 c37 c38 c39 c40 c41 c42 c43 c44 c45 c46 c47 c48 c49 c50 c51 c52 c53 c54 c55 c56 c57 c58 c59 c60 c61 c62 c63 c64 c65 c66 c67 c68 c69 c70 c71 c72 c73 c74 c75 c76 c77 c78 c79 c80 c81 c82 c83 c84 c85 c86 c87 c88 c89 c90:Value)=>orRun_wp (l:=c0::c1::c2::c3::c4::c5::c6::c7::c8::c9::c10::c11::c12::c13::c14::c15::c16::c17::c18::c19::c20::c21::c22::c23::c24::c25::c26::c27::c28::c29::c30::c31::c32::c33::c34::c35::c36::c37::c38::c39::c40::c41::c42::c43::c44::c45::c46::c47::c48::c49::c50::c51::c52::c53::c54::c55::c56::c57::c58::c59::c60::c61::c62::c63::c64::c65::c66::c67::c68::c69::c70::c71::c72::c73::c74::c75::c76::c77::c78::c79::c80::c81::c82::c83::c84::c85::c86::c87::c88::c89::c90::[]) (l':=c0::c1::c2::c3::c4::c5::c6::c7::c8::c9::c10::c11::c12::c13::c14::c15::c16::c17::c18::c19::c20::c21::c22::c23::c24::c25::c26::c27::c28::c29::c30::c31::c32::c33::c34::c35::.bool true::c37::c38::c39::c40::c41::c42::c43::c44::.bool true::.bool true::c47::c48::c49::c50::c51::c52::c53::c54::.bool true::.bool true::c57::c58::c59::c60::c61::c62::c63::.bool true::.bool true::c66::c67::c68::c69::c70::c71::.bool true::c73::c74::c75::c76::c77::c78::c79::c80::c81::c82::c83::c84::c85::c86::c87::c88::c89::c90::[])) _ _ _ _ _ _ _ _ _ _ _ _ _ _ _ _ _ _ _ _ _ _ _ _ _ _ _ _ _ _ _ _ _ _ _ _ _ _ _ _ _ _ _ _ _ _ _ _ _ _ _ _ _ _ _ _ _ _ _ _ _ _ _ _ _ _ _ _ _ _ _ _ _ _ _ _ _ _ _ _ _ _ _ _ _ _ _ _ _ _ _ ?h5 ?_
  case h5=>kernel_rfl
  go_wp2
  go_ret
  exact⟨by rw[HF.out];rfl,by first|exact HE0.out.below|exact belD (HE0.out.below) _⟩
 subst ht
 have zt:(t != t)=false:=by simp
 go_wp2_with fail
 refine(sameN_any aSD bSD nSD cSD mSD dSD sD sD' _ HL.out.1.1 HL.out.1.2 (by have:=HN.out;omega) (by have:=HN.out;omega) (HA.out.1.1.below HE0.out.below) (HA.out.1.2.below HE0.out.below)).mono ?_
 rintro e _ ⟨rfl,q1,rfl⟩
 by_cases hsD:sD=sD'
 rotate_left
 ·rw[decide_eq_false hsD];have HF:Hid (V=false):=by
   show _=_
   rw[HV.out];exact decide_eq_false (by intro h;exact hsD h.2.2.2.2.1)
  go_simp
  iterate 6 (first|go_skip|go_guarded|go_step)
  refine(fun (c0 c1 c2 c3 c4 c5 c6 c7 c8 c9 c10 c11 c12 c13 c14 c15 c16 c17 c18 c19 c20 c21 c22 c23 c24 c25 c26 c27 c28 c29 c30 c31 c32 c33 c34 c35 c36 c37 c38 c39 c40 c41 c42 c43 c44 c45 c46 c47 c48 c49 c50 c51 c52 c53 c54 c55 c56 c57 c58 c59 c60 c61 c62 c63 c64 c65 c66 c67 c68 c69 c70 c71 c72 c73 c74 c75 c76 c77 c78 c79 c80 c81 c82 c83 c84 c85 c86 c87 c88 c89 c90:Value)=>orRun_wp (l:=c0::c1::c2::c3::c4::c5::c6::c7::c8::c9::c10::c11::c12::c13::c14::c15::c16::c17::c18::c19::c20::c21::c22::c23::c24::c25::c26::c27::c28::c29::c30::c31::c32::c33::c34::c35::c36::c37::c38::c39::c40::c41::c42::c43::c44::c45::c46::c47::c48::c49::c50::c51::c52::c53::c54::c55::c56::c57::c58::c59::c60::c61::c62::c63::c64::c65::c66::c67::c68::c69::c70::c71::c72::c73::c74::c75::c76::c77::c78::c79::c80::c81::c82::c83::c84::c85::c86::c87::c88::c89::c90::[]) (l':=c0::c1::c2::c3::c4::c5::c6::c7::c8::c9::c10::c11::c12::c13::c14::c15::c16::c17::c18::c19::c20::c21::c22::c23::c24::c25::c26::c27::c28::c29::c30::c31::c32::c33::c34::c35::c36::c37::c38::c39::c40::c41::c42::c43::c44::c45::.bool true::c47::c48::c49::c50::c51::c52::c53::c54::.bool true::.bool true::c57::c58::c59::c60::c61::c62::c63::.bool true::.bool true::c66::c67::c68::c69::c70::c71::.bool true::c73::c74::c75::c76::c77::c78::c79::c80::c81::c82::c83::c84::c85::c86::c87::c88::c89::c90::[])) _ _ _ _ _ _ _ _ _ _ _ _ _ _ _ _ _ _ _ _ _ _ _ _ _ _ _ _ _ _ _ _ _ _ _ _ _ _ _ _ _ _ _ _ _ _ _ _ _ _ _ _ _ _ _ _ _ _ _ _ _ _ _ _ _ _ _ _ _ _ _ _ _ _ _ _ _ _ _ _ _ _ _ _ _ _ _ _ _ _ _ ?h6 ?_
  case h6=>kernel_rfl
  go_wp2
  go_ret
  exact⟨by rw[HF.out];rfl,by first|exact belD HE0.out.below _|exact belD (belD HE0.out.below _) _⟩
 rw[decide_eq_true hsD]
 go_wp2_with fail
 refine(sameN_any aSU bSU nSU cSU mSU dSU sU sU' _ HL.out.2.1.1 HL.out.2.1.2 (by have:=HN.out;omega) (by have:=HN.out;omega) (HA.out.2.1.1.below (belD HE0.out.below _)) (HA.out.2.1.2.below (belD HE0.out.below _))).mono ?_
 rintro e _ ⟨rfl,q2,rfl⟩
 rw[World.drewN_drewN]
 generalize q1+q2=q3
 by_cases hsU:sU=sU'
 rotate_left
 ·rw[decide_eq_false hsU];have HF:Hid (V=false):=by
   show _=_
   rw[HV.out];exact decide_eq_false (by intro h;exact hsU h.2.2.2.2.2.1)
  go_simp
  iterate 6 (first|go_skip|go_guarded|go_step)
  refine(fun (c0 c1 c2 c3 c4 c5 c6 c7 c8 c9 c10 c11 c12 c13 c14 c15 c16 c17 c18 c19 c20 c21 c22 c23 c24 c25 c26 c27 c28 c29 c30 c31 c32 c33 c34 c35 c36 c37 c38 c39 c40 c41 c42 c43 c44 c45 c46 c47 c48 c49 c50 c51 c52 c53 c54 c55 c56 c57 c58 c59 c60 c61 c62 c63 c64 c65 c66 c67 c68 c69 c70 c71 c72 c73 c74 c75 c76 c77 c78 c79 c80 c81 c82 c83 c84 c85 c86 c87 c88 c89 c90:Value)=>orRun_wp (l:=c0::c1::c2::c3::c4::c5::c6::c7::c8::c9::c10::c11::c12::c13::c14::c15::c16::c17::c18::c19::c20::c21::c22::c23::c24::c25::c26::c27::c28::c29::c30::c31::c32::c33::c34::c35::c36::c37::c38::c39::c40::c41::c42::c43::c44::c45::c46::c47::c48::c49::c50::c51::c52::c53::c54::c55::c56::c57::c58::c59::c60::c61::c62::c63::c64::c65::c66::c67::c68::c69::c70::c71::c72::c73::c74::c75::c76::c77::c78::c79::c80::c81::c82::c83::c84::c85::c86::c87::c88::c89::c90::[]) (l':=c0::c1::c2::c3::c4::c5::c6::c7::c8::c9::c10::c11::c12::c13::c14::c15::c16::c17::c18::c19::c20::c21::c22::c23::c24::c25::c26::c27::c28::c29::c30::c31::c32::c33::c34::c35::c36::c37::c38::c39::c40::c41::c42::c43::c44::c45::c46::c47::c48::c49::c50::c51::c52::c53::c54::c55::.bool true::c57::c58::c59::c60::c61::c62::c63::.bool true::.bool true::c66::c67::c68::c69::c70::c71::.bool true::c73::c74::c75::c76::c77::c78::c79::c80::c81::c82::c83::c84::c85::c86::c87::c88::c89::c90::[])) _ _ _ _ _ _ _ _ _ _ _ _ _ _ _ _ _ _ _ _ _ _ _ _ _ _ _ _ _ _ _ _ _ _ _ _ _ _ _ _ _ _ _ _ _ _ _ _ _ _ _ _ _ _ _ _ _ _ _ _ _ _ _ _ _ _ _ _ _ _ _ _ _ _ _ _ _ _ _ _ _ _ _ _ _ _ _ _ _ _ _ ?h7 ?_
  case h7=>kernel_rfl
  go_wp2
  go_ret
  exact⟨by rw[HF.out];rfl,by first|exact belD HE0.out.below _|exact belD (belD HE0.out.below _) _⟩
 rw[decide_eq_true hsU]
 by_cases hn:nF=mF
 rotate_left
 ·have z3:((nF:Int) != (mF:Int))=true:=by simp;omega
  have z4:¬ ((nF:Int)=(mF:Int)):=by omega
  have HF:Hid (V=false):=by
   show _=_
   rw[HV.out];exact decide_eq_false (by intro h;have:=HL.out.2.2.1;have:=congrArg List.length h.2.2.2.2.2.2.1;omega)
  go_simp
  iterate 26 (first|go_skip|go_guarded|go_step)
  refine(fun (c0 c1 c2 c3 c4 c5 c6 c7 c8 c9 c10 c11 c12 c13 c14 c15 c16 c17 c18 c19 c20 c21 c22 c23 c24 c25 c26 c27 c28 c29 c30 c31 c32 c33 c34 c35 c36 c37 c38 c39 c40 c41 c42 c43 c44 c45 c46 c47 c48 c49 c50 c51 c52 c53 c54 c55 c56 c57 c58 c59 c60 c61 c62 c63 c64 c65 c66 c67 c68 c69 c70 c71 c72 c73 c74 c75 c76 c77 c78 c79 c80 c81 c82 c83 c84 c85 c86 c87 c88 c89 c90:Value)=>orRun_wp (l:=c0::c1::c2::c3::c4::c5::c6::c7::c8::c9::c10::c11::c12::c13::c14::c15::c16::c17::c18::c19::c20::c21::c22::c23::c24::c25::c26::c27::c28::c29::c30::c31::c32::c33::c34::c35::c36::c37::c38::c39::c40::c41::c42::c43::c44::c45::c46::c47::c48::c49::c50::c51::c52::c53::c54::c55::c56::c57::c58::c59::c60::c61::c62::c63::c64::c65::c66::c67::c68::c69::c70::c71::c72::c73::c74::c75::c76::c77::c78::c79::c80::c81::c82::c83::c84::c85::c86::c87::c88::c89::c90::[]) (l':=c0::c1::c2::c3::c4::c5::c6::c7::c8::c9::c10::c11::c12::c13::c14::c15::c16::c17::c18::c19::c20::c21::c22::c23::c24::c25::c26::c27::c28::c29::c30::c31::c32::c33::c34::c35::c36::c37::c38::c39::c40::c41::c42::c43::c44::c45::c46::c47::c48::c49::c50::c51::c52::c53::c54::c55::c56::c57::c58::c59::c60::c61::c62::c63::c64::.bool true::c66::c67::c68::c69::c70::c71::.bool true::c73::c74::c75::c76::c77::c78::c79::c80::c81::c82::c83::c84::c85::c86::c87::c88::c89::c90::[])) _ _ _ _ _ _ _ _ _ _ _ _ _ _ _ _ _ _ _ _ _ _ _ _ _ _ _ _ _ _ _ _ _ _ _ _ _ _ _ _ _ _ _ _ _ _ _ _ _ _ _ _ _ _ _ _ _ _ _ _ _ _ _ _ _ _ _ _ _ _ _ _ _ _ _ _ _ _ _ _ _ _ _ _ _ _ _ _ _ _ _ ?h8 ?_
  case h8=>kernel_rfl
  go_wp2
  go_ret
  exact⟨by rw[HF.out];rfl,by first|exact belD HE0.out.below _|exact belD (belD HE0.out.below _) _⟩
 subst hn
 have z3:((nF:Int) != (nF:Int))=false:=by simp
 go_wp2_with fail
 refine(sameS_any aD bD aU bU aT bT nD cD mD dD nU cU mU dU nT cT mT dT D D' U U' T T' k k' _ HL.out.2.2.2.1.1 HL.out.2.2.2.1.2 HL.out.2.2.2.2.1.1 HL.out.2.2.2.2.1.2 HL.out.2.2.2.2.2.1 HL.out.2.2.2.2.2.2 (by have:=HN.out;omega) (HA.out.2.2.2.1.1.below (belD HE0.out.below _)) (HA.out.2.2.2.1.2.below (belD HE0.out.below _)) (HA.out.2.2.2.2.1.1.below (belD HE0.out.below _)) (HA.out.2.2.2.2.1.2.below (belD HE0.out.below _)) (HA.out.2.2.2.2.2.1.below (belD HE0.out.below _)) (HA.out.2.2.2.2.2.2.below (belD HE0.out.below _))).mono ?_
 rintro e w4 ⟨rfl,b4⟩
 have HE4:=hid_ofV (HE0.out.call (w':=w4) ((belD (Below.refl _ _) q3).trans b4))
 clear b4 x0' y0' x1' y1' x2' y2' x3' y3' x4' y4' x5' y5' x6' y6' x7' y7' x8' y8' x9' y9' x10' y10'
 by_cases hS:D=D'∧U=U'∧k=k'∧T=T'
 rotate_left
 ·rw[decide_eq_false hS];have HF:Hid (V=false):=by
   show _=_
   rw[HV.out];exact decide_eq_false (by intro h;exact hS h.2.2.2.2.2.2.2)
  go_wp2
  go_ret
  exact⟨by rw[HF.out];rfl,by first|exact HE4.out.below|exact belD (HE4.out.below) _⟩
 rw[decide_eq_true hS]
 have HLL:Hid (F.length=nF*4∧F'.length=nF*4):=HL.out.2.2.1
 have HAA:Hid (FAt w4 aF F∧FAt w4 bF F'):=⟨HA.out.2.2.1.1.below HE4.out.below,HA.out.2.2.1.2.below HE4.out.below⟩
 have HTT:Hid ((F=F'→V=true)∧(F≠F'→V=false)):=⟨fun h=>by rw[HV.out];exact decide_eq_true (by refine⟨?_,?_,?_,?_,hsD,hsU,h,hS⟩<;>first|rfl|trivial),fun h=>by rw[HV.out];exact decide_eq_false (fun e=>h e.2.2.2.2.2.2.1)⟩
 have hNF:nF≤1048576:=by have:=HN.out;omega
 clear HA HL HV HN hS hsD hsU HE0
 have x0':=cell_of_row w4 w.heap.size 0 _ _ _ HE4.out.b0
 have y0':=cell_of_row w4 (w.heap.size+1) 0 _ _ _ HE4.out.b1
 have x1':=cell_of_row w4 w.heap.size 1 _ _ _ HE4.out.b0
 have y1':=cell_of_row w4 (w.heap.size+1) 1 _ _ _ HE4.out.b1
 have x2':=cell_of_row w4 w.heap.size 2 _ _ _ HE4.out.b0
 have y2':=cell_of_row w4 (w.heap.size+1) 2 _ _ _ HE4.out.b1
 have x3':=cell_of_row w4 w.heap.size 3 _ _ _ HE4.out.b0
 have y3':=cell_of_row w4 (w.heap.size+1) 3 _ _ _ HE4.out.b1
 have x4':=cell_of_row w4 w.heap.size 4 _ _ _ HE4.out.b0
 have y4':=cell_of_row w4 (w.heap.size+1) 4 _ _ _ HE4.out.b1
 have x5':=cell_of_row w4 w.heap.size 5 _ _ _ HE4.out.b0
 have y5':=cell_of_row w4 (w.heap.size+1) 5 _ _ _ HE4.out.b1
 have x6':=cell_of_row w4 w.heap.size 6 _ _ _ HE4.out.b0
 have y6':=cell_of_row w4 (w.heap.size+1) 6 _ _ _ HE4.out.b1
 have x7':=cell_of_row w4 w.heap.size 7 _ _ _ HE4.out.b0
 have y7':=cell_of_row w4 (w.heap.size+1) 7 _ _ _ HE4.out.b1
 have x8':=cell_of_row w4 w.heap.size 8 _ _ _ HE4.out.b0
 have y8':=cell_of_row w4 (w.heap.size+1) 8 _ _ _ HE4.out.b1
 have x9':=cell_of_row w4 w.heap.size 9 _ _ _ HE4.out.b0
 have y9':=cell_of_row w4 (w.heap.size+1) 9 _ _ _ HE4.out.b1
 have x10':=cell_of_row w4 w.heap.size 10 _ _ _ HE4.out.b0
 have y10':=cell_of_row w4 (w.heap.size+1) 10 _ _ _ HE4.out.b1
 simp at x0' y0' x1' y1' x2' y2' x3' y3' x4' y4' x5' y5' x6' y6' x7' y7' x8' y8' x9' y9' x10' y10'
 go_wp2
 generalize nF=n at *
 go_loopw [5] (fun i wr=>∃ k q:Nat,k≤n∧i=.int .i64 k∧wr=w4.drewN q∧∀ j,j<k*4→F.getD j 0=F'.getD j 0) (fun i _=>n-(intOf i).toNat)
 case atStart=>exact⟨0,0,Nat.zero_le _,rfl,rfl,fun j h=>absurd h (by omega)⟩
 case round=>
  obtain⟨k,q,hk,rfl,rfl,hj⟩:=hrel;have HJ:=hid_ofV hj;clear hj;by_cases hlt:k<n
  ·obtain⟨b1,o1,ea,hb1,hc⟩:=HAA.out.1.get (by have:=HLL.out;omega);obtain⟨b2,o2,eb,hb2,hc'⟩:=HAA.out.2.get (by have:=HLL.out;omega);subst ea eb;obtain⟨e0,e1,e2,e3⟩:=FAt.four hc k (by have:=HLL.out;omega);obtain⟨f0,f1,f2,f3⟩:=FAt.four hc' k (by have:=HLL.out;omega);have HX:Hid (F.getD (k*4) 0=F'.getD (k*4) 0∧F.getD (k*4+1) 0=F'.getD (k*4+1) 0∧F.getD (k*4+2) 0=F'.getD (k*4+2) 0∧F.getD (k*4+3) 0=F'.getD (k*4+3) 0→∀ j,j<(k+1)*4→F.getD j 0=F'.getD j 0):=fun e j h=>by
    by_cases hjk:j<k*4
    ·exact HJ.out j hjk
    ·obtain rfl|rfl|rfl|rfl:j=k*4∨j=k*4+1∨j=k*4+2∨j=k*4+3:=by omega
     ·exact e.1
     ·exact e.2.1
     ·exact e.2.2.1
     ·exact e.2.2.2
   have HY:Hid (¬ (F.getD (k*4) 0=F'.getD (k*4) 0∧F.getD (k*4+1) 0=F'.getD (k*4+1) 0∧F.getD (k*4+2) 0=F'.getD (k*4+2) 0∧F.getD (k*4+3) 0=F'.getD (k*4+3) 0)→V=false):=fun e=>HTT.out.2 (fun h=>e (by rw[h];exact⟨rfl,rfl,rfl,rfl⟩))
   generalize F.getD (k*4) 0=x0 at *;generalize F'.getD (k*4) 0=y0 at *;generalize F.getD (k*4+1) 0=x1 at *;generalize F'.getD (k*4+1) 0=y1 at *;generalize F.getD (k*4+2) 0=x2 at *;generalize F'.getD (k*4+2) 0=y2 at *;generalize F.getD (k*4+3) 0=x3 at *;generalize F'.getD (k*4+3) 0=y3 at *;have hlt':(k:Int)<(n:Int):=by omega
   clear hc hc' HJ;by_cases hxy:x0=y0∧x1=y1∧x2=y2∧x3=y3
   ·have HX2:=hid_ofV (HX.out hxy);clear HX HY;obtain⟨rfl,rfl,rfl,rfl⟩:=hxy;go_wp2
    go_quiet (fail)
    go_wp2;go_roundw
    case rel=>exact⟨k+1,_,by omega,by go_num,rfl,HX2.out⟩
    case measure=>simp[intOf];omega
   ·have HF:=hid_ofV (HY.out hxy);clear HX HY;by_cases z0:x0=y0
    ·subst z0;by_cases z1:x1=y1
     ·subst z1;by_cases z2:x2=y2
      ·subst z2;by_cases z3:x3=y3
       ·subst z3;exact absurd ⟨rfl,rfl,rfl,rfl⟩ hxy
       ·have q3:(x3 == y3)=false:=by simpa using z3
        have p3:decide (x3=y3)=false:=by simpa using z3
        go_wp2
        go_quiet (fail)
        go_wp2
        go_ret
        exact⟨by rw[HF.out];rfl,by first|exact belD HE4.out.below _|exact belD (belD HE4.out.below _) _⟩
      ·have q2:(x2 == y2)=false:=by simpa using z2
       have p2:decide (x2=y2)=false:=by simpa using z2
       go_wp2
       go_quiet (fail)
       go_wp2
       go_ret
       exact⟨by rw[HF.out];rfl,by first|exact belD HE4.out.below _|exact belD (belD HE4.out.below _) _⟩
     ·have q1:(x1 == y1)=false:=by simpa using z1
      have p1:decide (x1=y1)=false:=by simpa using z1
      go_wp2
      go_quiet (fail)
      go_wp2
      go_ret
      exact⟨by rw[HF.out];rfl,by first|exact belD HE4.out.below _|exact belD (belD HE4.out.below _) _⟩
    ·have q0:(x0 == y0)=false:=by simpa using z0
     have p0:decide (x0=y0)=false:=by simpa using z0
     go_wp2
     go_quiet (fail)
     go_wp2
     go_ret
     exact⟨by rw[HF.out];rfl,by first|exact belD HE4.out.below _|exact belD (belD HE4.out.below _) _⟩
  ·have HF:Hid (V=true):=HTT.out.1 (eq_of_getD (by have:=HLL.out;omega) (fun j h=>HJ.out j (by have:=HLL.out;omega)));clear HJ;go_wp2
   go_ret
   exact⟨by rw[HF.out];rfl,by first|exact belD HE4.out.below _|exact belD (belD HE4.out.below _) _⟩
end Go.Proofs.YtganeokokjodoaaGreat
