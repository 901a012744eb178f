import Derived.Test.YtganeokokjodoaaGreatMVgA
namespace Go.Proofs.YtganeokokjodoaaGreat
open Go.ChangeShapes Go.WideShapes Go.ChangeAt Go.RowKit
set_option linter.unusedVariables false
set_option maxHeartbeats 4000000 in
set_option maxRecDepth 100000 in
theorem snEq_any (g o h p:Nat) (gn gn' tl tl':Int) (aD bD aU bU:Option Addr) (nD cD mD dD nU cU mU dU:Nat) (D D' U U':List Int) (w:World) (hg:g<w.heap.size) (hh:h<w.heap.size)
  (x0:w.cell? ⟨g,o,none⟩=some (.int .u32 gn)) (x1:w.cell? ⟨g,o+1,none⟩=some (.int .u32 tl)) (x2:w.cell? ⟨g,o+2,none⟩=some (.slice aD nD cD)) (x3:w.cell? ⟨g,o+3,none⟩=some (.slice aU nU cU))
  (y0:w.cell? ⟨h,p,none⟩=some (.int .u32 gn')) (y1:w.cell? ⟨h,p+1,none⟩=some (.int .u32 tl')) (y2:w.cell? ⟨h,p+2,none⟩=some (.slice bD mD dD)) (y3:w.cell? ⟨h,p+3,none⟩=some (.slice bU mU dU))
  (hl:D.length=nD∧D'.length=mD∧U.length=nU∧U'.length=mU) (hb:nD≤1048576∧mD≤1048576∧nU≤1048576∧mU≤1048576) (hA:At .i64 w aD D∧At .i64 w bD D'∧At .i64 w aU U∧At .i64 w bU U') :
  Calls Tryz.prog 93 #[.pointer (some ⟨g,o,none⟩),.pointer (some ⟨h,p,none⟩)] w fun e w'=>e=.returned (.bool (decide (gn=gn'∧tl=tl'∧D=D'∧U=U')))∧∃ q,w'=w.drewN q:=by
 have HL:=hid_ofV hl
 have HN:=hid_ofV hb
 have HA:=hid_ofV hA
 obtain⟨V,hV⟩:∃ V,V=decide (gn=gn'∧tl=tl'∧D=D'∧U=U'):=⟨_,rfl⟩
 rw[←hV]
 have HV:=hid_ofV hV
 clear hV hl hb hA
 by_cases e1:gn=gn'
 rotate_left
 ·have z1:(gn == gn')=false:=by simpa using e1
  have z2:decide (gn=gn')=false:=by simpa using e1
  have HF:Hid (V=false):=by
   show _=_
   rw[HV.out];exact decide_eq_false (by intro h;exact e1 h.1)
  clear HV HL HN HA;go_enter Tryz.func93,Tryz.ntmps93;go_wp2
  go_quiet (fail)
  go_wp2
  go_ret
  exact⟨by rw[HF.out];rfl,_,rfl⟩
 by_cases e2:tl=tl'
 rotate_left
 ·have z1:(tl == tl')=false:=by simpa using e2
  have z2:decide (tl=tl')=false:=by simpa using e2
  have HF:Hid (V=false):=by
   show _=_
   rw[HV.out];exact decide_eq_false (by intro h;exact e2 h.2.1)
  subst e1;clear HV HL HN HA;go_enter Tryz.func93,Tryz.ntmps93;go_wp2
  go_quiet (fail)
  go_wp2
  go_ret
  exact⟨by rw[HF.out];rfl,_,rfl⟩
 by_cases e3:D=D'
 rotate_left
 ·have z1:=decide_eq_false e3;have HF:Hid (V=false):=by
   show _=_
   rw[HV.out];exact decide_eq_false (by intro h;exact e3 h.2.2.1)
  have HQ:Hid (∀ n,Calls Tryz.prog 126 #[.slice aD nD cD,.slice bD mD dD] (w.drewN n) fun e w'=>e=.returned (.bool false)∧∃ q,w'=(w.drewN n).drewN q):=fun n=>by
   have:=slEq_any aD bD nD cD mD dD D D' (w.drewN n) HL.out.1 HL.out.2.1 (by have:=HN.out;omega) (by have:=HN.out;omega) (HA.out.1.below (belD (Below.refl _ _) _)) (HA.out.2.1.below (belD (Below.refl _ _) _));rw[z1] at this;exact this
  subst e1 e2;clear HV HL HN HA z1;go_enter Tryz.func93,Tryz.ntmps93;go_wp2
  go_quiet ((go_at_call 126;exact Calls.quiet_of (HQ.out _)))
  go_wp2
  go_ret
  exact⟨by rw[HF.out];rfl,_,rfl⟩
 have HQ:Hid (∀ n,Calls Tryz.prog 126 #[.slice aD nD cD,.slice bD mD dD] (w.drewN n) fun e w'=>e=.returned (.bool true)∧∃ q,w'=(w.drewN n).drewN q):=fun n=>by
  have:=slEq_any aD bD nD cD mD dD D D' (w.drewN n) HL.out.1 HL.out.2.1 (by have:=HN.out;omega) (by have:=HN.out;omega) (HA.out.1.below (belD (Below.refl _ _) _)) (HA.out.2.1.below (belD (Below.refl _ _) _));rw[decide_eq_true e3] at this;exact this
 have HF:Hid (V=decide (U=U')):=by
  show _=_
  rw[HV.out];simp[e1,e2,e3]
 have HQ2:Hid (∀ n,Calls Tryz.prog 126 #[.slice aU nU cU,.slice bU mU dU] (w.drewN n) fun e w'=>e=.returned (.bool (decide (U=U')))∧∃ q,w'=(w.drewN n).drewN q):=fun n=>slEq_any aU bU nU cU mU dU U U' (w.drewN n) HL.out.2.2.1 HL.out.2.2.2 (by have:=HN.out;omega) (by have:=HN.out;omega) (HA.out.2.2.1.below (belD (Below.refl _ _) _)) (HA.out.2.2.2.below (belD (Below.refl _ _) _))
 rw[←HF.out] at HQ2
 subst e1 e2
 clear HV HL HN HA e3 HF
 go_enter Tryz.func93,Tryz.ntmps93
 go_wp2
 go_quiet ((go_at_call 126;first|with_reducible exact Calls.quiet_of (HQ.out _)|with_reducible exact Calls.quiet_of (HQ2.out _)))
 go_wp2
 go_ret
 exact⟨rfl,_,rfl⟩
end Go.Proofs.YtganeokokjodoaaGreat
namespace Go.Proofs.YtganeokokjodoaaGreat
open Go.ChangeShapes Go.WideShapes Go.ChangeAt Go.RowKit
set_option linter.unusedVariables false
set_option maxHeartbeats 8000000 in
set_option maxRecDepth 100000 in
theorem stEq_any (g o h p:Nat) (k k':Int) (aD bD aU bU aT bT:Option Addr) (nD cD mD dD nU cU mU dU nT cT mT dT:Nat) (D D' U U' T T':List Int) (w:World) (hg:g<w.heap.size) (hh:h<w.heap.size)
  (x0:w.cell? ⟨g,o,none⟩=some (.slice aD nD cD)) (x1:w.cell? ⟨g,o+1,none⟩=some (.slice aU nU cU)) (x2:w.cell? ⟨g,o+2,none⟩=some (.int .i64 k)) (x3:w.cell? ⟨g,o+3,none⟩=some (.slice aT nT cT))
  (y0:w.cell? ⟨h,p,none⟩=some (.slice bD mD dD)) (y1:w.cell? ⟨h,p+1,none⟩=some (.slice bU mU dU)) (y2:w.cell? ⟨h,p+2,none⟩=some (.int .i64 k')) (y3:w.cell? ⟨h,p+3,none⟩=some (.slice bT mT dT))
  (hl:D.length=nD∧D'.length=mD∧U.length=nU∧U'.length=mU∧T.length=nT*2∧T'.length=mT*2) (hb:nD≤1048576∧mD≤1048576∧nU≤1048576∧mU≤1048576∧nT≤1048576∧mT≤1048576) (hA:At .i64 w aD D∧At .i64 w bD D'∧At .i64 w aU U∧At .i64 w bU U'∧At .i64 w aT T∧At .i64 w bT T') :
  Calls Tryz.prog 94 #[.pointer (some ⟨g,o,none⟩),.pointer (some ⟨h,p,none⟩)] w fun e w'=>e=.returned (.bool (decide (k=k'∧D=D'∧U=U'∧T=T')))∧∃ q,w'=w.drewN q:=by
 have HL:=hid_ofV hl
 have HN:=hid_ofV hb
 have HA:=hid_ofV hA
 obtain⟨V,hV⟩:∃ V,V=decide (k=k'∧D=D'∧U=U'∧T=T'):=⟨_,rfl⟩
 rw[←hV]
 have HV:=hid_ofV hV
 clear hV hl hb hA
 by_cases e0:k=k'
 rotate_left
 ·have HF:Hid (V=false):=by
   show _=_
   rw[HV.out];exact decide_eq_false (by intro h;exact e0 h.1)
  have z1:(k == k')=false:=by simpa using e0
  have z2:decide (k=k')=false:=by simpa using e0
  clear HV HL HN HA;go_enter Tryz.func94,Tryz.ntmps94;go_wp2
  go_quiet (fail)
  go_wp2
  go_ret
  exact⟨by rw[HF.out];rfl,_,rfl⟩
 by_cases e1:D=D'
 rotate_left
 ·have HF:Hid (V=false):=by
   show _=_
   rw[HV.out];exact decide_eq_false (by intro h;exact e1 h.2.1)
  have HQ1:Hid (∀ n,Calls Tryz.prog 126 #[.slice aD nD cD,.slice bD mD dD] (w.drewN n) fun e w'=>e=.returned (.bool false)∧∃ q,w'=(w.drewN n).drewN q):=fun n=>by
   have:=slEq_any aD bD nD cD mD dD D D' (w.drewN n) HL.out.1 HL.out.2.1 (by have:=HN.out;omega) (by have:=HN.out;omega) (HA.out.1.below (belD (Below.refl _ _) _)) (HA.out.2.1.below (belD (Below.refl _ _) _));rw[decide_eq_false e1] at this;exact this
  subst e0;clear HV HL HN HA;go_enter Tryz.func94,Tryz.ntmps94;go_wp2
  go_quiet ((first|(go_at_call 126;first|with_reducible exact Calls.quiet_of (HQ1.out _))))
  go_wp2
  go_ret
  exact⟨by rw[HF.out];rfl,_,rfl⟩
 have HQ1:Hid (∀ n,Calls Tryz.prog 126 #[.slice aD nD cD,.slice bD mD dD] (w.drewN n) fun e w'=>e=.returned (.bool true)∧∃ q,w'=(w.drewN n).drewN q):=fun n=>by
  have:=slEq_any aD bD nD cD mD dD D D' (w.drewN n) HL.out.1 HL.out.2.1 (by have:=HN.out;omega) (by have:=HN.out;omega) (HA.out.1.below (belD (Below.refl _ _) _)) (HA.out.2.1.below (belD (Below.refl _ _) _));rw[decide_eq_true e1] at this;exact this
 by_cases e2:U=U'
 rotate_left
 ·have HF:Hid (V=false):=by
   show _=_
   rw[HV.out];exact decide_eq_false (by intro h;exact e2 h.2.2.1)
  have HQ2:Hid (∀ n,Calls Tryz.prog 126 #[.slice aU nU cU,.slice bU mU dU] (w.drewN n) fun e w'=>e=.returned (.bool false)∧∃ q,w'=(w.drewN n).drewN q):=fun n=>by
   have:=slEq_any aU bU nU cU mU dU U U' (w.drewN n) HL.out.2.2.1 HL.out.2.2.2.1 (by have:=HN.out;omega) (by have:=HN.out;omega) (HA.out.2.2.1.below (belD (Below.refl _ _) _)) (HA.out.2.2.2.1.below (belD (Below.refl _ _) _));rw[decide_eq_false e2] at this;exact this
  subst e0;clear HV HL HN HA;go_enter Tryz.func94,Tryz.ntmps94;go_wp2
  go_quiet ((first|(go_at_call 126;first|with_reducible exact Calls.quiet_of (HQ1.out _)|with_reducible exact Calls.quiet_of (HQ2.out _))))
  go_wp2
  go_ret
  exact⟨by rw[HF.out];rfl,_,rfl⟩
 have HQ2:Hid (∀ n,Calls Tryz.prog 126 #[.slice aU nU cU,.slice bU mU dU] (w.drewN n) fun e w'=>e=.returned (.bool true)∧∃ q,w'=(w.drewN n).drewN q):=fun n=>by
  have:=slEq_any aU bU nU cU mU dU U U' (w.drewN n) HL.out.2.2.1 HL.out.2.2.2.1 (by have:=HN.out;omega) (by have:=HN.out;omega) (HA.out.2.2.1.below (belD (Below.refl _ _) _)) (HA.out.2.2.2.1.below (belD (Below.refl _ _) _));rw[decide_eq_true e2] at this;exact this
 have HF:V=decide (T=T'):=by
  rw[HV.out];simp[e0,e1,e2]
 have HQ3:Hid (∀ n,Calls Tryz.prog 127 #[.slice aT nT cT,.slice bT mT dT] (w.drewN n) fun e w'=>e=.returned (.bool V)∧∃ q,w'=(w.drewN n).drewN q):=fun n=>by
  have:=slEqT_any aT bT nT cT mT dT T T' (w.drewN n) HL.out.2.2.2.2.1 HL.out.2.2.2.2.2 (by have:=HN.out;omega) (by have:=HN.out;omega) (HA.out.2.2.2.2.1.below (belD (Below.refl _ _) _)) (HA.out.2.2.2.2.2.below (belD (Below.refl _ _) _));rw[←HF] at this;exact this
 clear HF
 subst e0
 clear HV HL HN HA
 go_enter Tryz.func94,Tryz.ntmps94
 go_wp2
 go_quiet ((first|(go_at_call 126;first|with_reducible exact Calls.quiet_of (HQ1.out _)|with_reducible exact Calls.quiet_of (HQ2.out _))|(go_at_call 127;first|with_reducible exact Calls.quiet_of (HQ3.out _))))
 go_wp2
 go_ret
 exact⟨rfl,_,rfl⟩
end Go.Proofs.YtganeokokjodoaaGreat
namespace Go.Proofs.YtganeokokjodoaaGreat
open Go.ChangeShapes Go.WideShapes Go.ChangeAt Go.RowKit
set_option linter.unusedVariables false
set_option maxHeartbeats 8000000 in
set_option maxRecDepth 100000 in
theorem imEq_any (g o h p:Nat) (ok ok':Bool) (gn gn' tl tl' k k' nx nx':Int) (aF bF aSD bSD aSU bSU aD bD aU bU aT bT:Option Addr) (nF cF mF dF nSD cSD mSD dSD nSU cSU mSU dSU nD cD mD dD nU cU mU dU nT cT mT dT:Nat) (F F' sD sD' sU sU' D D' U U' T T':List Int) (w:World) (hg:g<w.heap.size) (hh:h<w.heap.size)
  (x0:w.cell? ⟨g,o,none⟩=some (.bool ok)) (x1:w.cell? ⟨g,o+1,none⟩=some (.int .u32 gn)) (x2:w.cell? ⟨g,o+2,none⟩=some (.int .u32 tl)) (x3:w.cell? ⟨g,o+3,none⟩=some (.slice aSD nSD cSD)) (x4:w.cell? ⟨g,o+4,none⟩=some (.slice aSU nSU cSU)) (x5:w.cell? ⟨g,o+5,none⟩=some (.slice aF nF cF)) (x6:w.cell? ⟨g,o+6,none⟩=some (.slice aD nD cD)) (x7:w.cell? ⟨g,o+7,none⟩=some (.slice aU nU cU)) (x8:w.cell? ⟨g,o+8,none⟩=some (.int .i64 k)) (x9:w.cell? ⟨g,o+9,none⟩=some (.slice aT nT cT)) (x10:w.cell? ⟨g,o+10,none⟩=some (.int .u32 nx))
  (y0:w.cell? ⟨h,p,none⟩=some (.bool ok')) (y1:w.cell? ⟨h,p+1,none⟩=some (.int .u32 gn')) (y2:w.cell? ⟨h,p+2,none⟩=some (.int .u32 tl')) (y3:w.cell? ⟨h,p+3,none⟩=some (.slice bSD mSD dSD)) (y4:w.cell? ⟨h,p+4,none⟩=some (.slice bSU mSU dSU)) (y5:w.cell? ⟨h,p+5,none⟩=some (.slice bF mF dF)) (y6:w.cell? ⟨h,p+6,none⟩=some (.slice bD mD dD)) (y7:w.cell? ⟨h,p+7,none⟩=some (.slice bU mU dU)) (y8:w.cell? ⟨h,p+8,none⟩=some (.int .i64 k')) (y9:w.cell? ⟨h,p+9,none⟩=some (.slice bT mT dT)) (y10:w.cell? ⟨h,p+10,none⟩=some (.int .u32 nx'))
  (hl:F.length=nF*4∧F'.length=mF*4∧sD.length=nSD∧sD'.length=mSD∧sU.length=nSU∧sU'.length=mSU∧D.length=nD∧D'.length=mD∧U.length=nU∧U'.length=mU∧T.length=nT*2∧T'.length=mT*2) (hb:nF≤1048576∧mF≤1048576∧nSD≤1048576∧mSD≤1048576∧nSU≤1048576∧mSU≤1048576∧nD≤1048576∧mD≤1048576∧nU≤1048576∧mU≤1048576∧nT≤1048576∧mT≤1048576) (hA:FAt w aF F∧FAt w bF F'∧At .i64 w aSD sD∧At .i64 w bSD sD'∧At .i64 w aSU sU∧At .i64 w bSU sU'∧At .i64 w aD D∧At .i64 w bD D'∧At .i64 w aU U∧At .i64 w bU U'∧At .i64 w aT T∧At .i64 w bT T') :
  Calls Tryz.prog 53 #[.pointer (some ⟨g,o,none⟩),.pointer (some ⟨h,p,none⟩)] w fun e w'=>e=.returned (.bool (decide (ok=ok'∧nx=nx'∧F=F'∧(gn=gn'∧tl=tl'∧sD=sD'∧sU=sU')∧(k=k'∧D=D'∧U=U'∧T=T'))))∧∃ q,w'=w.drewN q:=by
 have HL:=hid_ofV hl
 have HN:=hid_ofV hb
 have HA:=hid_ofV hA
 have HSN:=hid_ofV (fun n=>snEq_any g (o+1) h (p+1) gn gn' tl tl' aSD bSD aSU bSU nSD cSD mSD dSD nSU cSU mSU dSU sD sD' sU sU' (w.drewN n) hg hh x1 x2 x3 x4 y1 y2 y3 y4 ⟨HL.out.2.2.1,HL.out.2.2.2.1,HL.out.2.2.2.2.1,HL.out.2.2.2.2.2.1⟩ ⟨HN.out.2.2.1,HN.out.2.2.2.1,HN.out.2.2.2.2.1,HN.out.2.2.2.2.2.1⟩ ⟨HA.out.2.2.1.below (belD (Below.refl _ _) _),HA.out.2.2.2.1.below (belD (Below.refl _ _) _),HA.out.2.2.2.2.1.below (belD (Below.refl _ _) _),HA.out.2.2.2.2.2.1.below (belD (Below.refl _ _) _)⟩)
 have HST:=hid_ofV (fun n=>stEq_any g (o+6) h (p+6) k k' aD bD aU bU aT bT nD cD mD dD nU cU mU dU nT cT mT dT D D' U U' T T' (w.drewN n) hg hh x6 x7 x8 x9 y6 y7 y8 y9 ⟨HL.out.2.2.2.2.2.2.1,HL.out.2.2.2.2.2.2.2.1,HL.out.2.2.2.2.2.2.2.2.1,HL.out.2.2.2.2.2.2.2.2.2.1,HL.out.2.2.2.2.2.2.2.2.2.2.1,HL.out.2.2.2.2.2.2.2.2.2.2.2⟩ ⟨HN.out.2.2.2.2.2.2.1,HN.out.2.2.2.2.2.2.2.1,HN.out.2.2.2.2.2.2.2.2.1,HN.out.2.2.2.2.2.2.2.2.2.1,HN.out.2.2.2.2.2.2.2.2.2.2.1,HN.out.2.2.2.2.2.2.2.2.2.2.2⟩ ⟨HA.out.2.2.2.2.2.2.1.below (belD (Below.refl _ _) _),HA.out.2.2.2.2.2.2.2.1.below (belD (Below.refl _ _) _),HA.out.2.2.2.2.2.2.2.2.1.below (belD (Below.refl _ _) _),HA.out.2.2.2.2.2.2.2.2.2.1.below (belD (Below.refl _ _) _),HA.out.2.2.2.2.2.2.2.2.2.2.1.below (belD (Below.refl _ _) _),HA.out.2.2.2.2.2.2.2.2.2.2.2.below (belD (Below.refl _ _) _)⟩)
 obtain⟨V,hV⟩:∃ V,V=decide (ok=ok'∧nx=nx'∧F=F'∧(gn=gn'∧tl=tl'∧sD=sD'∧sU=sU')∧(k=k'∧D=D'∧U=U'∧T=T')):=⟨_,rfl⟩
 rw[←hV]
 have HV:=hid_ofV hV
 clear hV hl hb hA
 by_cases e0:ok=ok'
 rotate_left
 ·have HF:Hid (V=false):=by
   show _=_
   rw[HV.out];exact decide_eq_false (by intro h;exact e0 h.1)
  cases ok<;>cases ok'<;>first|exact absurd rfl e0|skip
  all_goals
   clear e0;clear HV HL HN HA HSN HST;go_enter Tryz.func53,Tryz.ntmps53;go_wp2
   go_quiet (fail)
   go_wp2
   go_ret
   exact⟨by rw[HF.out];rfl,_,rfl⟩
 by_cases e1:nx=nx'
 rotate_left
 ·have HF:Hid (V=false):=by
   show _=_
   rw[HV.out];exact decide_eq_false (by intro h;exact e1 h.2.1)
  have z1:(nx == nx')=false:=by simpa using e1
  have z2:decide (nx=nx')=false:=by simpa using e1
  subst e0;clear HV HL HN HA HSN HST;go_enter Tryz.func53,Tryz.ntmps53;go_wp2
  go_quiet (fail)
  go_wp2
  go_ret
  exact⟨by rw[HF.out];rfl,_,rfl⟩
 by_cases e2:F=F'
 rotate_left
 ·have HF:Hid (V=false):=by
   show _=_
   rw[HV.out];exact decide_eq_false (by intro h;exact e2 h.2.2.1)
  have HQ2:Hid (∀ n,Calls Tryz.prog 92 #[.slice aF nF cF,.slice bF mF dF] (w.drewN n) fun e w'=>e=.returned (.bool false)∧∃ q,w'=(w.drewN n).drewN q):=fun n=>by
   have:=slEqF_any aF bF nF cF mF dF F F' (w.drewN n) HL.out.1 HL.out.2.1 (by have:=HN.out;omega) (by have:=HN.out;omega) (HA.out.1.below (belD (Below.refl _ _) _)) (HA.out.2.1.below (belD (Below.refl _ _) _));rw[decide_eq_false e2] at this;exact this
  subst e0 e1;clear HV HL HN HA HSN HST;go_enter Tryz.func53,Tryz.ntmps53;go_wp2
  go_quiet ((first|(go_at_call 92;first|with_reducible exact Calls.quiet_of (HQ2.out _))))
  go_wp2
  go_ret
  exact⟨by rw[HF.out];rfl,_,rfl⟩
 have HQ2:Hid (∀ n,Calls Tryz.prog 92 #[.slice aF nF cF,.slice bF mF dF] (w.drewN n) fun e w'=>e=.returned (.bool true)∧∃ q,w'=(w.drewN n).drewN q):=fun n=>by
  have:=slEqF_any aF bF nF cF mF dF F F' (w.drewN n) HL.out.1 HL.out.2.1 (by have:=HN.out;omega) (by have:=HN.out;omega) (HA.out.1.below (belD (Below.refl _ _) _)) (HA.out.2.1.below (belD (Below.refl _ _) _));rw[decide_eq_true e2] at this;exact this
 by_cases e3:gn=gn'∧tl=tl'∧sD=sD'∧sU=sU'
 rotate_left
 ·have HF:Hid (V=false):=by
   show _=_
   rw[HV.out];exact decide_eq_false (by intro h;exact e3 h.2.2.2.1)
  have HQ3:Hid (∀ n,Calls Tryz.prog 93 #[.pointer (some ⟨g,o+1,none⟩),.pointer (some ⟨h,p+1,none⟩)] (w.drewN n) fun e w'=>e=.returned (.bool false)∧∃ q,w'=(w.drewN n).drewN q):=fun n=>by
   have:=HSN.out n;rw[decide_eq_false e3] at this;exact this
  subst e0 e1;clear HV HL HN HA HSN HST;go_enter Tryz.func53,Tryz.ntmps53;go_wp2
  go_quiet ((first|(go_at_call 92;first|with_reducible exact Calls.quiet_of (HQ2.out _))|(go_at_call 93;first|with_reducible exact Calls.quiet_of (HQ3.out _))))
  go_wp2
  go_ret
  exact⟨by rw[HF.out];rfl,_,rfl⟩
 have HQ3:Hid (∀ n,Calls Tryz.prog 93 #[.pointer (some ⟨g,o+1,none⟩),.pointer (some ⟨h,p+1,none⟩)] (w.drewN n) fun e w'=>e=.returned (.bool true)∧∃ q,w'=(w.drewN n).drewN q):=fun n=>by
  have:=HSN.out n;rw[decide_eq_true e3] at this;exact this
 have HF:V=decide (k=k'∧D=D'∧U=U'∧T=T'):=by
  rw[HV.out];simp[e0,e1,e2,e3]
 have HQ4:Hid (∀ n,Calls Tryz.prog 94 #[.pointer (some ⟨g,o+6,none⟩),.pointer (some ⟨h,p+6,none⟩)] (w.drewN n) fun e w'=>e=.returned (.bool V)∧∃ q,w'=(w.drewN n).drewN q):=fun n=>by
  have:=HST.out n;rw[←HF] at this;exact this
 clear HF
 subst e0 e1
 clear HV HL HN HA HSN HST
 go_enter Tryz.func53,Tryz.ntmps53
 go_wp2
 go_quiet ((first|(go_at_call 92;first|with_reducible exact Calls.quiet_of (HQ2.out _))|(go_at_call 93;first|with_reducible exact Calls.quiet_of (HQ3.out _))|(go_at_call 94;first|with_reducible exact Calls.quiet_of (HQ4.out _))))
 go_wp2
 go_ret
 exact⟨rfl,_,rfl⟩
end Go.Proofs.YtganeokokjodoaaGreat
