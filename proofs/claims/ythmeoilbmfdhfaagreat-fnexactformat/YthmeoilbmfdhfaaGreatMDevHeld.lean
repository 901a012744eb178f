import Derived.Test.YthmeoilbmfdhfaaGreatMDevMark
import Derived.Test.YthmeoilbmfdhfaaGreatMMark
import Derived.Test.YthmeoilbmfdhfaaGreatMFmP
import Derived.Test.YthmeoilbmfdhfaaGreatFmS
namespace Go.Proofs.YthmeoilbmfdhfaaGreat
open Go.ChangeShapes Go.WideShapes Go.ChangeAt Go.RowKit
set_option linter.unusedVariables false
set_option maxHeartbeats 400000 in
theorem heldPS_any (a:Option Addr) (n cap:Nat) (ps:List PD) (k:Int) (w:World) (h:PAt w a (pmarks k ps)) (hl:ps.length=n) (hk:0≤k) (hk':k+n+pSum ps≤1099511627776) :
  Calls Tryz.prog 151 #[.slice a n cap,.int .i64 k] w fun e w'=>e=.returned (.int .i64 (k+n+pSum ps))∧w'=w:=by
 go_enter Tryz.func151,Tryz.ntmps151
 go_wp2
 go_loop [1,5] (fun q i=>∃ j:Nat,j≤n∧i=.int .i64 j∧q=.int .i64 (kAt k ps j)) (fun _ i=>n-(intOf i).toNat)
 case atStart=>exact⟨0,Nat.zero_le _,rfl,by rw[kAt_zero]⟩
 case round=>
  obtain⟨j,hj,rfl,rfl⟩:=hrel;have hkb:=kAt_le k ps j (by omega);by_cases hlt:j<n
  ·have hsucc:=kAt_succ k ps j (by omega);have hkb2:=kAt_le k ps (j+1) (by omega);obtain⟨b,off,rfl,hb,hc⟩:=h.get (by rw[pmarks_len];omega);obtain⟨x,c,h1,h2,h3⟩:=hc j (by rw[pmarks_len];omega);rw[pmarks_get k ps j (by omega)] at h1 h2 h3;simp only[marks_len] at h2;have HSUC:Hid _:=hsucc;have HA:Hid _:=h3;clear hc h hsucc h3;generalize kAt k ps j=q at *;generalize (ps.getD j (0,[])).2.length=m at *;have hr:q+1+(m:Int)=kAt k ps (j+1):=HSUC.out.symm;have e1:(q != q)=false:=by simp
   have e2:¬ (kAt k ps (j+1)<0):=by omega
   go_wp2_with fail;refine(heldB_any x m c (q+1) w HA.out (by omega) (by omega)).mono ?_;rintro e w2 ⟨rfl,rfl⟩;rw[hr];clear hr;go_wp2
   go_round
   case rel=>exact⟨j+1,by omega,by go_num,rfl⟩
   case measure=>simp[intOf];omega
  ·have hjn:j=ps.length:=by omega
   subst hjn;have hall:=kAt_all k ps;rw[hall];go_wp2
   go_ret
   exact⟨ret_int (by omega),rfl⟩
set_option maxHeartbeats 400000 in
theorem heldD_any (v:Value) (zs:List Int) (ps:List PD) (f:Int) (d:Bool) (k:Int) (w:World) (h:DAt w v (marks k zs.length) (pmarks (k+zs.length) ps) f d) (hk:0≤k) (hk':k+zs.length+ps.length+pSum ps≤1099511627776) :
  Calls Tryz.prog 111 #[v,.int .i64 k] w fun e w'=>e=.returned (.int .i64 (k+zs.length+ps.length+pSum ps))∧Below w.heap.size w w':=by
 obtain⟨a,c,x,cx,rfl,hA,hP,_⟩:=h
 rw[marks_len,pmarks_len]
 generalize hL:zs.length=L at *
 generalize hm:ps.length=m at *
 have hb:=(Below.refl w.heap.size w).alloc (Nat.le_refl _) (.cells #[.slice a L c,.slice x m cx,.int .i64 f,.bool d] 40)
 have HA1:Hid _:=hA.below hb
 have HP1:Hid _:=hP.below hb
 have HB:Hid _:=hb
 have t1:¬ (k+(L:Int)<0):=by omega
 have t2:¬ (k+(L:Int)+m+pSum ps<0):=by omega
 clear hA hP hb
 go_enter Tryz.func111,Tryz.ntmps111
 go_wp2_with fail
 refine(heldB_any a L c k _ HA1.out hk (by omega)).mono ?_
 rintro e w2 ⟨rfl,rfl⟩
 go_wp2_with fail
 refine(heldPS_any x m cx ps (k+L) _ HP1.out hm (by omega) (by omega)).mono ?_
 rintro e w2 ⟨rfl,rfl⟩
 go_wp2
 go_ret
 exact⟨rfl,HB.out⟩
structure XR (X:Array Value) (c:Int) (C:Array Value):Prop where
 x0:X[0]?=some (.int .i64 c)
 xs:∀ j:Nat,X[1+j]?=C[j]?
theorem XR.of {c:Int} {C:Array Value}:XR (#[.int .i64 c]++C) c C:=⟨by
 rw[Array.getElem?_append_left (show 0<(#[Value.int .i64 c]:Array Value).size from Nat.one_pos)];rfl,fun j=>by
 rw[Array.getElem?_append_right (show(#[Value.int .i64 c]:Array Value).size≤1+j by show 1≤1+j;omega)]
 show C[1+j-1]?=C[j]?
 rw[Nat.add_sub_cancel_left]⟩
theorem XR.range {X C:Array Value} {c:Int} (h:XR X c C) {w:World} {b:Nat} {t:TypeId} {fr:Nat×Nat} (hr:w.heap[b]?=some (.cells X t fr)):w.rangeAt b 1 C.toList:=fun j v hv=>by
 rw[cell_of_row w b (1+j) _ _ _ hr,h.xs,←Array.getElem?_toList];exact hv
set_option maxRecDepth 100000 in
set_option maxHeartbeats 4000000 in
theorem eqR_any {lo lo':Nat} {X X':Array Value} {c:Int} {zs ks:List Int} {f:Int} {d:Bool} {r:ImR} {w:World} (h:RL lo w X c zs ks f d r) (h':RL lo' w X' c zs ks f d r) (hb:GLe zs [] ks r) :
  Calls Tryz.prog 18 #[.agg X,.agg X'] w fun e w'=>e=.returned (.bool true)∧Below w.heap.size w w':=by
 obtain⟨C,e,g⟩:=h
 obtain⟨C',e',g'⟩:=h'
 have HX:Hid (XR X c C∧XR X' c C'):=⟨by rw[e];exact XR.of,by rw[e'];exact XR.of⟩
 have HG:Hid (GAt w (.agg C) zs [] f d ks r∧GAt w (.agg C') zs [] f d ks r∧GLe zs [] ks r∧C.size=16∧C'.size=16):=⟨g.gat,g'.gat,hb,g.row.1,g'.row.1⟩
 have HSG:Hid (∀ cs:Array Value,cs.size=16→(Tryz.prog.info? 48).map (·.size)=some cs.toList.length):=fun cs h=>by rw[Array.length_toList,h];kernel_rfl
 have HE0:Hid (BE w 50 X X' ((w.alloc (.cells X 50)).alloc (.cells X' 50))):=BE.start _ _ _ _
 clear e e' g g' hb
 go_enter Tryz.func18,Tryz.ntmps18
 go_upto_region 1 with fail
 generalize (w.alloc (.cells X 50)).alloc (.cells X' 50)=w0 at *
 have x0:w0.cell? ⟨w.heap.size,0,none⟩=some (.int .i64 c):=by rw[cell_of_row _ _ _ _ _ _ HE0.out.b0];exact HX.out.1.x0
 have y0:w0.cell? ⟨w.heap.size+1,0,none⟩=some (.int .i64 c):=by rw[cell_of_row _ _ _ _ _ _ HE0.out.b1];exact HX.out.2.x0
 have HT:Hid (w0.rangeAt w.heap.size 1 C.toList∧w0.rangeAt (w.heap.size+1) 1 C'.toList):=⟨HX.out.1.range HE0.out.b0,HX.out.2.range HE0.out.b1⟩
 go_wp2_with (first
  |(refine wpList_load_mid rfl 48 (.tmp 10) rfl w.heap.size 1 rfl C.toList _ HT.out.1 Tryz.underlying48 rfl (HSG.out _ HG.out.2.2.2.1) ?_)
  |(refine wpList_load_mid rfl 48 (.tmp 12) rfl (w.heap.size+1) 1 rfl C'.toList _ HT.out.2 Tryz.underlying48 rfl (HSG.out _ HG.out.2.2.2.2) ?_)
  |fail)
 refine(eqG_any (.agg C) (.agg C') zs [] f d ks r w0 (HG.out.1.below HE0.out.below) (HG.out.2.1.below HE0.out.below) HG.out.2.2.1).mono ?_
 rintro e w1 ⟨rfl,b1⟩
 have HF:Hid (Below w.heap.size w w1):=(HE0.out.call b1).below
 clear x0 y0 HT HE0 b1
 go_wp2_with fail
 go_ret
 exact⟨rfl,HF.out⟩
structure Kp (P:Nat→Prop) (w w':World):Prop where
 os:w'.os=w.os
 tape:w'.tape=w.tape
 output:w'.output=w.output
 size:w.heap.size≤w'.heap.size
 block:∀ j,j<w.heap.size→P j→w'.heap[j]?=w.heap[j]?
theorem Kp.below {P:Nat→Prop} {a b:World} {lo:Nat} (h:Kp P a b) (hlo:lo≤a.heap.size) (hp:∀ j,j<lo→P j):Below lo a b:=⟨h.os,h.tape,h.output,h.size,fun j hj=>h.block j (by omega) (hp j hj)⟩
theorem markV (da ca:Option Addr) (dc cc:Nat) (zs:List Int) (f:Int) (d:Bool) (k:Int) (w:World) (lo:Nat) (h:Mine lo w da zs) (hc:zs.length≤dc) (hk:0≤k) (hk':k+zs.length≤1099511627776) :
  Calls Tryz.prog 12 #[.agg #[.slice da zs.length dc,.slice ca 0 cc,.int .i64 f,.bool d],.int .i64 k] w fun e w'=>e=.returned (.int .i64 (k+zs.length))∧At .u8 w' da (marks k zs.length)∧Kp (fun j=>NotIn j da) w w':=by
 have hp:pSum []=0:=by simp[pSum]
 cases da with
 |none=>
  have hz:zs=[]:=h.1.none_nil;subst hz;refine(markD_any _ [] [] f d k 0 0 w ⟨none,dc,ca,cc,0,rfl,.inl rfl,.inl rfl,fun _ e=>(by cases e),Nat.le_refl _,Nat.le_refl _,Nat.zero_le _,.inl rfl,hc⟩ hk (by simp[hp];simpa using hk')).mono ?_;rintro e w' ⟨rfl,hD,hC⟩;refine⟨by simp[hp],.inl rfl,hC.os,hC.tape,hC.output,hC.size,fun j hj _=>hC.block j hj (by omega)⟩
 |some ad=>
  have hb:=h.2.2 ad rfl;refine(markD_any _ zs [] f d k ad.block (ad.block+1) w ⟨some ad,dc,ca,cc,ad.block+1,rfl,h.1,h.2.1,fun x e=>(by cases e;omega),by omega,Nat.le_refl _,hb.2,.inl rfl,hc⟩ hk (by simp[hp];exact hk')).mono ?_;rintro e w' ⟨rfl,hD,hC⟩;refine⟨by simp[hp],?_,hC.os,hC.tape,hC.output,hC.size,fun j hj hn=>hC.block j hj (by have:=hn ad rfl;omega)⟩;obtain⟨da',dc',ca',cc',e,q1,_⟩:=hD;simp only[Value.agg.injEq,Array.mk.injEq,List.cons.injEq,Value.slice.injEq] at e;rw[e.1.1];exact q1
def GM (w:World) (C:Array Value) (zs ks:List Int) (f:Int) (d:Bool) (r:ImR):Prop:=∃ da dc ca cc ka kc aSD nSD cSD aSU nSU cSU aF mF cF aD nD cD aU nU cU aT cT,C=#[.slice da zs.length dc,.slice ca 0 cc,.int .i64 f,.bool d,.slice ka ks.length kc,.bool r.ok,.int .u32 r.g,.int .u32 r.t,.slice aSD nSD cSD,.slice aSU nSU cSU,.slice aF mF cF,.slice aD nD cD,.slice aU nU cU,.int .i64 r.k,.slice aT r.n cT,.int .u32 r.nx]∧zs.length≤dc∧At .u8 w da (marks 1 zs.length)∧At .u8 w ka (marks (1+zs.length) ks.length)∧I6M w aSD aSU aF aD aU aT nSD nSU mF nD nU r.n (1+zs.length+ks.length)∧r.sD.length=nSD∧r.sU.length=nSU∧r.F.length=mF*4∧r.D.length=nD∧r.U.length=nU
def gK (zs ks:List Int) (r:ImR):Int:=1+zs.length+ks.length+r.sD.length+r.sU.length+r.F.length+r.D.length+r.U.length+r.n*2
theorem gK_pos (zs ks:List Int) (r:ImR):¬ gK zs ks r<0:=by unfold gK;omega
def In6 (ad:Addr) (aSD aSU aF aD aU aT:Option Addr):Prop:=aSD=some ad∨aSU=some ad∨aF=some ad∨aD=some ad∨aU=some ad∨aT=some ad
theorem I6.keep6 {lo b1 b2 nSD nSU mF nD nU nT:Nat} {aSD aSU aF aD aU aT:Option Addr} {w w':World} (g:I6 lo b1 b2 w aSD aSU aF aD aU aT nSD nSU mF nD nU nT) (hs:w.heap.size≤w'.heap.size) (hb:∀ ad,In6 ad aSD aSU aF aD aU aT→w'.heap[ad.block]?=w.heap[ad.block]?):I6 lo b1 b2 w' aSD aSU aF aD aU aT nSD nSU mF nD nU nT:=
 ⟨g.oSD.keepT hs fun ad e _=>hb _ (.inl e),g.oSU.keepT hs fun ad e _=>hb _ (.inr (.inl e)),g.oF.keepT hs fun ad e _=>hb _ (.inr (.inr (.inl e))),g.oD.keepT hs fun ad e _=>hb _ (.inr (.inr (.inr (.inl e)))),g.oU.keepT hs fun ad e _=>hb _ (.inr (.inr (.inr (.inr (.inl e))))),g.oT.keepT hs fun ad e _=>hb _ (.inr (.inr (.inr (.inr (.inr e))))),fun ad e=>by have:=g.lSD ad e;omega,fun ad e=>by have:=g.lSU ad e;omega,fun ad e=>by have:=g.lF ad e;omega,fun ad e=>by have:=g.lD ad e;omega,fun ad e=>by have:=g.lU ad e;omega,fun ad e=>by have:=g.lT ad e;omega,g.sDU,g.dU,g.dT,g.uT,g.lo1,g.b12⟩
theorem N6.ne {j:Nat} {aSD aSU aF aD aU aT:Option Addr} {ad:Addr} (h:N6 j aSD aSU aF aD aU aT) (i:In6 ad aSD aSU aF aD aU aT):j≠ad.block:=by
 obtain⟨h1,h2,h3,h4,h5,h6⟩:=h
 rcases i with e|e|e|e|e|e
 ·exact h1 ad e
 ·exact h2 ad e
 ·exact h3 ad e
 ·exact h4 ad e
 ·exact h5 ad e
 ·exact h6 ad e
theorem I6.in6 {lo b1 b2 nSD nSU mF nD nU nT:Nat} {aSD aSU aF aD aU aT:Option Addr} {w:World} (g:I6 lo b1 b2 w aSD aSU aF aD aU aT nSD nSU mF nD nU nT) {ad:Addr} (i:In6 ad aSD aSU aF aD aU aT):lo≤ad.block∧ad.block<w.heap.size:=by
 have h1:=g.lo1
 have h2:=g.b12
 rcases i with e|e|e|e|e|e
 ·have:=g.lSD ad e;omega
 ·have:=g.lSU ad e;omega
 ·have:=g.lF ad e;omega
 ·have:=g.lD ad e;omega
 ·have:=g.lU ad e;omega
 ·have:=g.lT ad e;omega
def GH (hi:Nat) (C:Array Value):Prop:=∀(i:Nat) (a:Option Addr) (n c:Nat) (ad:Addr),i≠1→C[i]?=some (.slice a n c)→a=some ad→ad.block<hi
set_option maxRecDepth 100000 in
set_option maxHeartbeats 4000000 in
theorem GP.gh {lo:Nat} {C:Array Value} {zs ks:List Int} {f:Int} {d:Bool} {r:ImR} {w:World} (h:GP lo w C zs ks f d r):GH w.heap.size C:=by
 obtain⟨da,dc,ca,cc,ka,kc,aSD,nSD,cSD,aSU,nSU,cSU,aF,mF,cF,aD,nD,cD,aU,nU,cU,aT,cT,rfl,hdc,mD,mK,_,⟨b1,b2,g⟩,_⟩:=h
 obtain⟨q1,q2,q3,q4,q5,q6⟩:=g.l6
 intro i a n c ad hi hc e
 subst e
 match i with
 |0=>injection hc with hc;injection hc with h1;exact(mD.2.2 ad h1).2
 |1=>exact absurd rfl hi
 |2=>injection hc with hc;cases hc
 |3=>injection hc with hc;cases hc
 |4=>injection hc with hc;injection hc with h1;exact(mK.2.2 ad h1).2
 |5=>injection hc with hc;cases hc
 |6=>injection hc with hc;cases hc
 |7=>injection hc with hc;cases hc
 |8=>injection hc with hc;injection hc with h1;exact(q1 ad h1).2
 |9=>injection hc with hc;injection hc with h1;exact(q2 ad h1).2
 |10=>injection hc with hc;injection hc with h1;exact(q3 ad h1).2
 |11=>injection hc with hc;injection hc with h1;exact(q4 ad h1).2
 |12=>injection hc with hc;injection hc with h1;exact(q5 ad h1).2
 |13=>injection hc with hc;cases hc
 |14=>injection hc with hc;injection hc with h1;exact(q6 ad h1).2
 |15=>injection hc with hc;cases hc
 |j+16=>cases hc
set_option maxRecDepth 100000 in
set_option maxHeartbeats 4000000 in
theorem mkG_any {lo:Nat} {C:Array Value} {zs ks:List Int} {f:Int} {d:Bool} {r:ImR} {w:World} (h:GP lo w C zs ks f d r) (hlo:lo≤w.heap.size) (hz:zs.length≤1048576) (hk:ks.length≤1048576) (hb:ImLe r) (hs:zs.length+ks.length≤500000) {hi:Nat} (hh:GH hi C) :
  Calls Tryz.prog 61 #[.agg C,.int .i64 1] w fun e w'=>e=.returned (.int .i64 (gK zs ks r))∧GM w' C zs ks f d r∧Below lo w w'∧∀ j,hi≤j→j<w.heap.size→w'.heap[j]?=w.heap[j]?:=by
 obtain⟨da,dc,ca,cc,ka,kc,aSD,nSD,cSD,aSU,nSU,cSU,aF,mF,cF,aD,nD,cD,aU,nU,cU,aT,cT,rfl,hdc,mD,mK,⟨_,_,_,_,_,_,e1,e2,e3,e4,e5,_⟩,⟨b1,b2,g⟩,hdk,hkk⟩:=h
 obtain⟨l1,l2,l3,l4,l5,l6⟩:=hb
 have HH:Hid ((∀ ad,da=some ad→ad.block<hi)∧(∀ ad,ka=some ad→ad.block<hi)∧(∀ j,hi≤j→N6 j aSD aSU aF aD aU aT)):=by
  refine⟨fun ad e=>hh 0 da _ _ ad (by decide) rfl e,fun ad e=>hh 4 ka _ _ ad (by decide) rfl e,fun j hj=>⟨fun ad e h=>?_,fun ad e h=>?_,fun ad e h=>?_,fun ad e h=>?_,fun ad e h=>?_,fun ad e h=>?_⟩⟩
  ·have:=hh 8 aSD _ _ ad (by decide) rfl e;omega
  ·have:=hh 9 aSU _ _ ad (by decide) rfl e;omega
  ·have:=hh 10 aF _ _ ad (by decide) rfl e;omega
  ·have:=hh 11 aD _ _ ad (by decide) rfl e;omega
  ·have:=hh 12 aU _ _ ad (by decide) rfl e;omega
  ·have:=hh 14 aT _ _ ad (by decide) rfl e;omega
 clear hh
 have HB0:Hid (OE w 48 #[.slice da zs.length dc,.slice ca 0 cc,.int .i64 f,.bool d,.slice ka ks.length kc,.bool r.ok,.int .u32 r.g,.int .u32 r.t,.slice aSD nSD cSD,.slice aSU nSU cSU,.slice aF mF cF,.slice aD nD cD,.slice aU nU cU,.int .i64 r.k,.slice aT r.n cT,.int .u32 r.nx] (w.alloc (.cells #[.slice da zs.length dc,.slice ca 0 cc,.int .i64 f,.bool d,.slice ka ks.length kc,.bool r.ok,.int .u32 r.g,.int .u32 r.t,.slice aSD nSD cSD,.slice aSU nSU cSU,.slice aF mF cF,.slice aD nD cD,.slice aU nU cU,.int .i64 r.k,.slice aT r.n cT,.int .u32 r.nx] 48))):=OE.start _ _ _
 have HM:=hid_of (And.intro mD mK)
 have HG:=hid_of g
 have HN:=hid_of (And.intro hdk hkk)
 have HE:Hid (r.sD.length=nSD∧r.sU.length=nSU∧r.F.length=mF*4∧r.D.length=nD∧r.U.length=nU):=⟨e1,e2,e3,e4,e5⟩
 have HL:Hid (nSD≤16∧nSU≤256∧mF*4≤1008∧nD≤16∧nU≤256∧r.n≤256∧zs.length+ks.length≤500000∧lo≤w.heap.size∧zs.length≤dc):=⟨by omega,by omega,by omega,by omega,by omega,l6,hs,hlo,hdc⟩
 clear mD mK g hdk hkk e1 e2 e3 e4 e5 l1 l2 l3 l4 l5 l6 hz hk hs hlo hdc
 go_enter Tryz.func61,Tryz.ntmps61
 go_upto_region 1 with fail
 generalize w.alloc (.cells #[.slice da zs.length dc,.slice ca 0 cc,.int .i64 f,.bool d,.slice ka ks.length kc,.bool r.ok,.int .u32 r.g,.int .u32 r.t,.slice aSD nSD cSD,.slice aSU nSU cSU,.slice aF mF cF,.slice aD nD cD,.slice aU nU cU,.int .i64 r.k,.slice aT r.n cT,.int .u32 r.nx] 48)=w0 at *
 have x0:=cell_of_row w0 w.heap.size 0 _ _ _ HB0.out.b0
 have x1:=cell_of_row w0 w.heap.size 1 _ _ _ HB0.out.b0
 have x2:=cell_of_row w0 w.heap.size 2 _ _ _ HB0.out.b0
 have x3:=cell_of_row w0 w.heap.size 3 _ _ _ HB0.out.b0
 simp at x0 x1 x2 x3
 go_wp2_with fail
 refine(markV da ca dc cc zs f d 1 w0 lo (HM.out.1.below HB0.out.below) HL.out.2.2.2.2.2.2.2.2 (by decide) (by have:=HL.out;omega)).mono ?_
 rintro e w1 ⟨rfl,aD1,k1⟩
 have hS:∀ {a:Option Addr} {y:List Int},Mine lo w a y→NotIn w.heap.size a:=fun m ad e=>by have:=(m.2.2 ad e).2;omega
 have HR1:Hid (w1.heap[w.heap.size]?=some (.cells #[.slice da zs.length dc,.slice ca 0 cc,.int .i64 f,.bool d,.slice ka ks.length kc,.bool r.ok,.int .u32 r.g,.int .u32 r.t,.slice aSD nSD cSD,.slice aSU nSU cSU,.slice aF mF cF,.slice aD nD cD,.slice aU nU cU,.int .i64 r.k,.slice aT r.n cT,.int .u32 r.nx] 48 (0,0))):=by show _=_;rw[k1.block _ HB0.out.lt (hS HM.out.1)];exact HB0.out.b0
 have oK:Open w1 ka ks.length:=(HM.out.2.below HB0.out.below).2.1.keep (fun ad e=>k1.block _ (by have:=((HM.out.2.below HB0.out.below).2.2 ad e).2;omega) (fun dd ed h=>(HN.out.1 dd ed).1 ad e h.symm)) k1.size
 have HO1:=hid_of oK
 have HA1:=hid_of aD1
 have HK1:=hid_of k1
 have HS:=hid_of (And.intro (hS HM.out.1) (hS HM.out.2))
 clear x0 x1 x2 x3
 clear aD1 k1 oK hS
 have x4:=cell_of_row w1 w.heap.size 4 _ _ _ HR1.out
 simp at x4
 go_wp2_with fail
 refine(markB_any ka ks.length kc (1+zs.length) w1 HO1.out (by omega) (by have:=HL.out;omega)).mono ?_
 rintro e w2 ⟨rfl,aK2,wr2⟩
 have k2:Kp (fun j=>NotIn j ka) w1 w2:=⟨wr2.os,wr2.tape,wr2.output,Nat.le_of_eq wr2.size.symm,fun j hj hn=>wr2.block j (fun ad e h=>hn ad e h)⟩
 have HR2:Hid (w2.heap[w.heap.size]?=some (.cells #[.slice da zs.length dc,.slice ca 0 cc,.int .i64 f,.bool d,.slice ka ks.length kc,.bool r.ok,.int .u32 r.g,.int .u32 r.t,.slice aSD nSD cSD,.slice aSU nSU cSU,.slice aF mF cF,.slice aD nD cD,.slice aU nU cU,.int .i64 r.k,.slice aT r.n cT,.int .u32 r.nx] 48 (0,0))):=by show _=_;rw[k2.block _ (Array.getElem?_eq_some_iff.1 HR1.out).1 HS.out.2];exact HR1.out
 have g0:=HG.out.below HB0.out.below
 have g1:I6 lo b1 b2 w1 aSD aSU aF aD aU aT nSD nSU mF nD nU r.n:=g0.keep6 HK1.out.size (fun ad i=>HK1.out.block _ (g0.in6 i).2 (fun dd ed h=>(HN.out.1 dd ed).2.ne i h.symm))
 have g2:I6 lo b1 b2 w2 aSD aSU aF aD aU aT nSD nSU mF nD nU r.n:=g1.keep6 k2.size (fun ad i=>k2.block _ (g1.in6 i).2 (fun dd ed h=>(HN.out.2 dd ed).ne i h.symm))
 have d2:At .u8 w2 da (marks 1 zs.length):=HA1.out.keep (fun ad e=>k2.block _ (Nat.lt_of_lt_of_le ((HM.out.1.below HB0.out.below).2.2 ad e).2 HK1.out.size) ((HN.out.1 ad e).1)) k2.size
 have HG2:=hid_of g2
 have HA2:=hid_of (And.intro d2 aK2)
 have HK2:=hid_of k2
 clear x4 aK2 wr2 k2 g0 g1 g2 d2
 have x5:=cell_of_row w2 w.heap.size 5 _ _ _ HR2.out
 have x6:=cell_of_row w2 w.heap.size 6 _ _ _ HR2.out
 have x7:=cell_of_row w2 w.heap.size 7 _ _ _ HR2.out
 have x8:=cell_of_row w2 w.heap.size 8 _ _ _ HR2.out
 have x9:=cell_of_row w2 w.heap.size 9 _ _ _ HR2.out
 have x10:=cell_of_row w2 w.heap.size 10 _ _ _ HR2.out
 have x11:=cell_of_row w2 w.heap.size 11 _ _ _ HR2.out
 have x12:=cell_of_row w2 w.heap.size 12 _ _ _ HR2.out
 have x13:=cell_of_row w2 w.heap.size 13 _ _ _ HR2.out
 have x14:=cell_of_row w2 w.heap.size 14 _ _ _ HR2.out
 have x15:=cell_of_row w2 w.heap.size 15 _ _ _ HR2.out
 simp at x5 x6 x7 x8 x9 x10 x11 x12 x13 x14 x15
 go_wp2_with fail
 refine(markM_any r.ok r.g r.t aSD aSU aF aD aU aT nSD cSD nSU cSU mF cF nD cD nU cU r.n cT r.k r.nx (1+zs.length+ks.length) w2 HG2.out (by have:=HL.out;have:=HB0.out.below.size;have:=HK1.out.size;have:=HK2.out.size;omega) (by omega) (by have:=HL.out;omega)).mono ?_
 rintro e w3 ⟨rfl,p1,p2,p3⟩
 have sz1:=HK1.out.size
 have sz2:=HK2.out.size
 have hd3:At .u8 w3 da (marks 1 zs.length):=HA2.out.1.keep (fun ad e=>by
  obtain⟨_,n1,n2,n3,n4,n5,n6⟩:=HN.out.1 ad e;exact p3 _ (by have:=((HM.out.1.below HB0.out.below).2.2 ad e).2;omega) n1 n2 n3 n4 n5 n6) p2.size
 have hk3:At .u8 w3 ka (marks (1+zs.length) ks.length):=HA2.out.2.keep (fun ad e=>by
  obtain⟨n1,n2,n3,n4,n5,n6⟩:=HN.out.2 ad e;exact p3 _ (by have:=((HM.out.2.below HB0.out.below).2.2 ad e).2;omega) n1 n2 n3 n4 n5 n6) p2.size
 have HF:Hid (GM w3 #[.slice da zs.length dc,.slice ca 0 cc,.int .i64 f,.bool d,.slice ka ks.length kc,.bool r.ok,.int .u32 r.g,.int .u32 r.t,.slice aSD nSD cSD,.slice aSU nSU cSU,.slice aF mF cF,.slice aD nD cD,.slice aU nU cU,.int .i64 r.k,.slice aT r.n cT,.int .u32 r.nx] zs ks f d r):=⟨da,dc,ca,cc,ka,kc,aSD,nSD,cSD,aSU,nSU,cSU,aF,mF,cF,aD,nD,cD,aU,nU,cU,aT,cT,rfl,HL.out.2.2.2.2.2.2.2.2,hd3,hk3,p1,HE.out⟩
 have HBW:Hid (Below lo w w3):=by
  have hlo:=HL.out.2.2.2.2.2.2.2.1;have q1:Below lo w0 w1:=HK1.out.below (by have:=HB0.out.below.size;omega) (fun j hj ad e h=>by have:=(HM.out.1.2.2 ad e).1;omega);have q2:Below lo w1 w2:=HK2.out.below (by have:=HB0.out.below.size;omega) (fun j hj ad e h=>by have:=(HM.out.2.2.2 ad e).1;omega);exact((HB0.out.below.mono hlo).trans q1).trans (q2.trans p2)
 have HJ:Hid (∀ j,hi≤j→j<w.heap.size→w3.heap[j]?=w.heap[j]?):=fun j hj hl=>by
  have s0:=HB0.out.below.size;obtain⟨n1,n2,n3,n4,n5,n6⟩:=HH.out.2.2 j hj;rw[p3 j (by omega) n1 n2 n3 n4 n5 n6,HK2.out.block j (by omega) (fun ad e h=>by have:=HH.out.2.1 ad e;omega),HK1.out.block j (by omega) (fun ad e h=>by have:=HH.out.1 ad e;omega),HB0.out.below.block j hl]
 have HK:Hid ((1:Int)+zs.length+ks.length+nSD+nSU+mF*4+nD+nU+r.n*2=gK zs ks r):=by
  obtain⟨e1,e2,e3,e4,e5⟩:=HE.out;show _=_;unfold gK;omega
 clear x5 x6 x7 x8 x9 x10 x11 x12 x13 x14 x15
 clear p1 p2 p3 hd3 hk3 HE
 rw[HK.out]
 go_wp2_with fail
 go_ret
 exact⟨rfl,HF.out,HBW.out,HJ.out⟩
set_option maxRecDepth 100000 in
set_option maxHeartbeats 4000000 in
theorem hdG_any {C:Array Value} {zs ks:List Int} {f:Int} {d:Bool} {r:ImR} {w:World} (h:GM w C zs ks f d r) (hb:ImLe r) (hs:zs.length+ks.length≤500000) :
  Calls Tryz.prog 62 #[.agg C,.int .i64 1] w fun e w'=>e=.returned (.int .i64 (gK zs ks r))∧Below w.heap.size w w':=by
 obtain⟨da,dc,ca,cc,ka,kc,aSD,nSD,cSD,aSU,nSU,cSU,aF,mF,cF,aD,nD,cD,aU,nU,cU,aT,cT,rfl,hdc,a1,a2,a3,e1,e2,e3,e4,e5⟩:=h
 obtain⟨l1,l2,l3,l4,l5,l6⟩:=hb
 have hp:pSum []=0:=by simp[pSum]
 have HB0:Hid (OE w 48 #[.slice da zs.length dc,.slice ca 0 cc,.int .i64 f,.bool d,.slice ka ks.length kc,.bool r.ok,.int .u32 r.g,.int .u32 r.t,.slice aSD nSD cSD,.slice aSU nSU cSU,.slice aF mF cF,.slice aD nD cD,.slice aU nU cU,.int .i64 r.k,.slice aT r.n cT,.int .u32 r.nx] (w.alloc (.cells #[.slice da zs.length dc,.slice ca 0 cc,.int .i64 f,.bool d,.slice ka ks.length kc,.bool r.ok,.int .u32 r.g,.int .u32 r.t,.slice aSD nSD cSD,.slice aSU nSU cSU,.slice aF mF cF,.slice aD nD cD,.slice aU nU cU,.int .i64 r.k,.slice aT r.n cT,.int .u32 r.nx] 48))):=OE.start _ _ _
 obtain⟨K1,hK1⟩:∃ K1:Int,K1=1+zs.length:=⟨_,rfl⟩
 obtain⟨K2,hK2⟩:∃ K2:Int,K2=K1+ks.length:=⟨_,rfl⟩
 have hK3:K2+nSD+nSU+mF*4+nD+nU+r.n*2=gK zs ks r:=by unfold gK;omega
 have n1:¬ K1<0:=by omega
 have n2:¬ K2<0:=by omega
 have n3:¬ gK zs ks r<0:=gK_pos _ _ _
 have HD:Hid (∀ ww,Below w.heap.size w ww→Calls Tryz.prog 111 #[.agg #[.slice da zs.length dc,.slice ca 0 cc,.int .i64 f,.bool d],.int .i64 1] ww fun e w'=>e=.returned (.int .i64 K1)∧Below ww.heap.size ww w'):=fun ww b=>by
  refine(heldD_any _ zs [] f d 1 ww ⟨da,dc,ca,cc,by rw[marks_len];rfl,a1.below b,.inl rfl,by rw[marks_len];exact hdc⟩ (by decide) (by simp[hp];omega)).mono ?_;rintro e w' ⟨rfl,h⟩;exact⟨by rw[hp,hK1];simp,h⟩
 have HK:Hid (∀ ww,Below w.heap.size w ww→Calls Tryz.prog 112 #[.slice ka ks.length kc,.int .i64 K1] ww fun e w'=>e=.returned (.int .i64 K2)∧w'=ww):=fun ww b=>by
  rw[hK2];exact heldB_any ka ks.length kc K1 ww (by rw[hK1];exact a2.below b) (by omega) (by omega)
 have HI:Hid (∀ ww,Below w.heap.size w ww→Calls Tryz.prog 14 #[.agg #[.bool r.ok,.int .u32 r.g,.int .u32 r.t,.slice aSD nSD cSD,.slice aSU nSU cSU,.slice aF mF cF,.slice aD nD cD,.slice aU nU cU,.int .i64 r.k,.slice aT r.n cT,.int .u32 r.nx],.int .i64 K2] ww fun e w'=>e=.returned (.int .i64 (gK zs ks r))∧Below ww.heap.size ww w'):=fun ww b=>by
  rw[←hK3];obtain⟨i1,i2,i3,i4,i5,i6⟩:=a3;refine heldM_any r.ok r.g r.t aSD aSU aF aD aU aT nSD cSD nSU cSU mF cF nD cD nU cU r.n cT r.k r.nx K2 ww ?_ (by omega) (by omega);rw[hK2,hK1];exact⟨i1.below b,i2.below b,FAt.below i3 b,i4.below b,i5.below b,i6.below b⟩
 clear a1 a2 a3 e1 e2 e3 e4 e5 l1 l2 l3 l4 l5 l6 hK1 hK2 hK3 hs hdc
 generalize gK zs ks r=K3 at *
 go_enter Tryz.func62,Tryz.ntmps62
 go_upto_region 1 with fail
 generalize w.alloc (.cells #[.slice da zs.length dc,.slice ca 0 cc,.int .i64 f,.bool d,.slice ka ks.length kc,.bool r.ok,.int .u32 r.g,.int .u32 r.t,.slice aSD nSD cSD,.slice aSU nSU cSU,.slice aF mF cF,.slice aD nD cD,.slice aU nU cU,.int .i64 r.k,.slice aT r.n cT,.int .u32 r.nx] 48)=w0 at *
 have x0:=cell_of_row w0 w.heap.size 0 _ _ _ HB0.out.b0
 have x1:=cell_of_row w0 w.heap.size 1 _ _ _ HB0.out.b0
 have x2:=cell_of_row w0 w.heap.size 2 _ _ _ HB0.out.b0
 have x3:=cell_of_row w0 w.heap.size 3 _ _ _ HB0.out.b0
 simp at x0 x1 x2 x3
 go_wp2_with fail
 refine(HD.out w0 HB0.out.below).mono ?_
 rintro e w1 ⟨rfl,b1⟩
 have HB1:Hid (OE w 48 #[.slice da zs.length dc,.slice ca 0 cc,.int .i64 f,.bool d,.slice ka ks.length kc,.bool r.ok,.int .u32 r.g,.int .u32 r.t,.slice aSD nSD cSD,.slice aSU nSU cSU,.slice aF mF cF,.slice aD nD cD,.slice aU nU cU,.int .i64 r.k,.slice aT r.n cT,.int .u32 r.nx] w1):=HB0.out.call b1
 clear x0 x1 x2 x3
 clear b1 HB0 HD
 have x4:=cell_of_row w1 w.heap.size 4 _ _ _ HB1.out.b0
 simp at x4
 go_wp2_with fail
 refine(HK.out w1 HB1.out.below).mono ?_
 rintro e w2 ⟨rfl,h2⟩
 subst h2
 clear x4 HK
 have x5:=cell_of_row w2 w.heap.size 5 _ _ _ HB1.out.b0
 have x6:=cell_of_row w2 w.heap.size 6 _ _ _ HB1.out.b0
 have x7:=cell_of_row w2 w.heap.size 7 _ _ _ HB1.out.b0
 have x8:=cell_of_row w2 w.heap.size 8 _ _ _ HB1.out.b0
 have x9:=cell_of_row w2 w.heap.size 9 _ _ _ HB1.out.b0
 have x10:=cell_of_row w2 w.heap.size 10 _ _ _ HB1.out.b0
 have x11:=cell_of_row w2 w.heap.size 11 _ _ _ HB1.out.b0
 have x12:=cell_of_row w2 w.heap.size 12 _ _ _ HB1.out.b0
 have x13:=cell_of_row w2 w.heap.size 13 _ _ _ HB1.out.b0
 have x14:=cell_of_row w2 w.heap.size 14 _ _ _ HB1.out.b0
 have x15:=cell_of_row w2 w.heap.size 15 _ _ _ HB1.out.b0
 simp at x5 x6 x7 x8 x9 x10 x11 x12 x13 x14 x15
 go_wp2_with fail
 refine(HI.out w2 HB1.out.below).mono ?_
 rintro e w3 ⟨rfl,b3⟩
 have HF:Hid (Below w.heap.size w w3):=(HB1.out.call b3).below
 clear x5 x6 x7 x8 x9 x10 x11 x12 x13 x14 x15
 clear b3 HB1 HI
 go_wp2_with fail
 go_ret
 exact⟨rfl,HF.out⟩
def RM (w:World) (X:Array Value) (c:Int) (zs ks:List Int) (f:Int) (d:Bool) (r:ImR):Prop:=∃ C,XR X c C∧C.size=16∧GM w C zs ks f d r
theorem GM.below {C:Array Value} {zs ks:List Int} {f:Int} {d:Bool} {r:ImR} {w w':World} (h:GM w C zs ks f d r) (b:Below w.heap.size w w'):GM w' C zs ks f d r:=by
 obtain⟨da,dc,ca,cc,ka,kc,aSD,nSD,cSD,aSU,nSU,cSU,aF,mF,cF,aD,nD,cD,aU,nU,cU,aT,cT,e,hdc,a1,a2,⟨i1,i2,i3,i4,i5,i6⟩,h⟩:=h
 exact⟨da,dc,ca,cc,ka,kc,aSD,nSD,cSD,aSU,nSU,cSU,aF,mF,cF,aD,nD,cD,aU,nU,cU,aT,cT,e,hdc,a1.below b,a2.below b,⟨i1.below b,i2.below b,FAt.below i3 b,i4.below b,i5.below b,i6.below b⟩,h⟩
theorem XR.uniq {X C C':Array Value} {c:Int} (h:XR X c C) (h':XR X c C'):C=C':=Array.ext_getElem? (fun i=>by rw[←h.xs,←h'.xs])
theorem RP.gh {lo:Nat} {X:Array Value} {c:Int} {zs ks:List Int} {f:Int} {d:Bool} {r:ImR} {w:World} (h:RP lo w X c zs ks f d r):∀ C,XR X c C→GH w.heap.size C:=fun C hx=>by
 obtain⟨C',e,g⟩:=h
 have:XR X c C':=by rw[e];exact XR.of
 rw[hx.uniq this];exact g.gh
set_option maxRecDepth 100000 in
set_option maxHeartbeats 4000000 in
theorem mkR_any {lo:Nat} {X:Array Value} {c:Int} {zs ks:List Int} {f:Int} {d:Bool} {r:ImR} {w:World} (h:RP lo w X c zs ks f d r) (hlo:lo≤w.heap.size) (hz:zs.length≤1048576) (hk:ks.length≤1048576) (hb:ImLe r) (hs:zs.length+ks.length≤500000) {hi:Nat} (hh:∀ C,XR X c C→GH hi C) :
  Calls Tryz.prog 21 #[.agg X,.int .i64 1] w fun e w'=>e=.returned (.int .i64 (gK zs ks r))∧RM w' X c zs ks f d r∧Below lo w w'∧∀ j,hi≤j→j<w.heap.size→w'.heap[j]?=w.heap[j]?:=by
 obtain⟨C,e,g⟩:=h
 have hgh:GH hi C:=hh C (by rw[e];exact XR.of)
 have HX:Hid (XR X c C):=by rw[e];exact XR.of
 have HZ:Hid (C.size=16):=g.gl.row.1
 have HSG:Hid ((Tryz.prog.info? 48).map (·.size)=some C.toList.length):=by show _=_;rw[Array.length_toList,HZ.out];kernel_rfl
 have HB0:Hid (OE w 50 X (w.alloc (.cells X 50))):=OE.start _ _ _
 have HC:Hid (∀ ww,Below w.heap.size w ww→Calls Tryz.prog 61 #[.agg C,.int .i64 1] ww fun e w'=>e=.returned (.int .i64 (gK zs ks r))∧GM w' C zs ks f d r∧Below lo ww w'∧∀ j,hi≤j→j<ww.heap.size→w'.heap[j]?=ww.heap[j]?):=fun ww b=>mkG_any (g.below b) (Nat.le_trans hlo b.size) hz hk hb hs hgh
 have HLO:=hid_of hlo
 clear e g hlo hz hk hb hs hh hgh
 generalize gK zs ks r=K3 at *
 go_enter Tryz.func21,Tryz.ntmps21
 go_upto_region 1 with fail
 generalize w.alloc (.cells X 50)=w0 at *
 have HT:Hid (w0.rangeAt w.heap.size 1 C.toList):=HX.out.range HB0.out.b0
 go_wp2_with (first
  |(refine wpList_load_mid rfl 48 (.tmp 5) rfl w.heap.size 1 rfl C.toList _ HT.out Tryz.underlying48 rfl HSG.out ?_)
  |fail)
 refine(HC.out w0 HB0.out.below).mono ?_
 rintro e w1 ⟨rfl,g1,b1,j1⟩
 have HF:Hid (GM w1 C zs ks f d r∧Below lo w w1∧∀ j,hi≤j→j<w.heap.size→w1.heap[j]?=w.heap[j]?):=⟨g1,(HB0.out.below.mono HLO.out).trans b1,fun j hj hl=>by rw[j1 j hj (by have:=HB0.out.below.size;omega),HB0.out.below.block j hl]⟩
 clear g1 b1 j1 HT HB0
 go_wp2_with fail
 go_ret
 exact⟨rfl,⟨C,HX.out,HZ.out,HF.out.1⟩,HF.out.2.1,HF.out.2.2⟩
set_option maxRecDepth 100000 in
set_option maxHeartbeats 4000000 in
theorem hdR_any {X:Array Value} {c:Int} {zs ks:List Int} {f:Int} {d:Bool} {r:ImR} {w:World} (h:RM w X c zs ks f d r) (hb:ImLe r) (hs:zs.length+ks.length≤500000) :
  Calls Tryz.prog 22 #[.agg X,.int .i64 1] w fun e w'=>e=.returned (.int .i64 (gK zs ks r))∧Below w.heap.size w w':=by
 obtain⟨C,hx,hz,g⟩:=h
 have HX:=hid_of hx
 have HSG:Hid ((Tryz.prog.info? 48).map (·.size)=some C.toList.length):=by show _=_;rw[Array.length_toList,hz];kernel_rfl
 have HB0:Hid (OE w 50 X (w.alloc (.cells X 50))):=OE.start _ _ _
 have HC:Hid (∀ ww,Below w.heap.size w ww→Calls Tryz.prog 62 #[.agg C,.int .i64 1] ww fun e w'=>e=.returned (.int .i64 (gK zs ks r))∧Below ww.heap.size ww w'):=fun ww b=>hdG_any (g.below b) hb hs
 have n3:¬ gK zs ks r<0:=gK_pos _ _ _
 clear hx hz g hb hs
 generalize gK zs ks r=K3 at *
 go_enter Tryz.func22,Tryz.ntmps22
 go_upto_region 1 with fail
 generalize w.alloc (.cells X 50)=w0 at *
 have HT:Hid (w0.rangeAt w.heap.size 1 C.toList):=HX.out.range HB0.out.b0
 go_wp2_with (first
  |(refine wpList_load_mid rfl 48 (.tmp 5) rfl w.heap.size 1 rfl C.toList _ HT.out Tryz.underlying48 rfl HSG.out ?_)
  |fail)
 refine(HC.out w0 HB0.out.below).mono ?_
 rintro e w1 ⟨rfl,b1⟩
 have HF:Hid (Below w.heap.size w w1):=(HB0.out.call b1).below
 clear b1 HT HB0 HC
 go_wp2_with fail
 go_ret
 exact⟨rfl,HF.out⟩
def FmC (n:Int) (ks:List Int) (c:Int) (zs' ks':List Int) (f:Int) (d:Bool) (r:ImR):Prop:=
 (∀(w:World) (a:Option Addr) (kc:Nat),At .u8 w a ks→Calls Tryz.prog 15 #[.int .i64 n,.slice a ks.length kc] w fun e w'=>∃ X,e=.returned (.agg X)∧RL w.heap.size w' X c zs' ks' f d r∧Below w.heap.size w w')∧
 (∀(w:World) (a:Option Addr) (kc:Nat),At .u8 w a ks→Calls Tryz.prog 17 #[.int .i64 n,.slice a ks.length kc] w fun e w'=>∃ X,e=.returned (.agg X)∧RP w.heap.size w' X c zs' ks' f d r∧Below w.heap.size w w')
theorem fm_both (n:Int) (ks:List Int):∃ c zs' ks' f d r,(zs'.length≤16384∧ks'.length≤32∧ImLe r)∧FmC n ks c zs' ks' f d r:=by
 by_cases h:(8≤n∧n≤256)∧ks.length=32
 ·obtain⟨⟨h8,h256⟩,hk⟩:=h;obtain⟨m,rfl⟩:=Int.eq_ofNat_of_zero_le (show 0≤n by omega);have h8':8≤m:=by omega
  have h256':m≤256:=by omega
  have hle:ImLe (imG (fsD (List.replicate (m*64) 0)) [] (-1)):=imG_bd (fsD_byte (zero_byte _)) (by simp[Byte]);refine⟨9,fsD (List.replicate (m*64) 0),ks,-1,false,_,⟨by rw[fsD_len (m:=m) (by simp) h8'];omega,by omega,hle⟩,fun w a kc hA=>?_,fun w a kc hA=>?_⟩
  ·rw[hk];exact sfm_yes m kc a ks _ w h8' h256' hk hA rfl hle
  ·rw[hk];exact ifm_yes m kc a ks _ w h8' h256' hk hA rfl
 ·refine⟨10,[],[],0,false,imNo,⟨by simp,by simp,by unfold ImLe imNo;simp⟩,fun w a kc hA=>?_,fun w a kc hA=>ifm_no n ks.length kc a w h⟩;refine(sfm_no n ks.length kc a w h).mono ?_;rintro e w' ⟨X,rfl,h1,h2⟩;exact⟨X,rfl,h1.rl,h2⟩
section
variable {lo hi:Nat} {w w':World} {C X:Array Value} {c:Int} {zs ks:List Int} {f:Int} {d:Bool} {r:ImR}
set_option maxRecDepth 100000 in
set_option maxHeartbeats 4000000 in
theorem GL.gh (h:GL lo w C zs ks f d r):GH w.heap.size C:=by
 obtain⟨da,dc,ca,cc,ka,kc,aSD,nSD,cSD,aSU,nSU,cSU,aF,mF,cF,aD,nD,cD,aU,nU,cU,aT,cT,rfl,hdc,mD,mK,_,q1,q2,q3,q4,q5,q6⟩:=h
 intro i a n c ad hi hc e
 subst e
 match i with
 |0=>injection hc with hc;injection hc with h1;exact(mD.2.2 ad h1).2
 |1=>exact absurd rfl hi
 |2=>injection hc with hc;cases hc
 |3=>injection hc with hc;cases hc
 |4=>injection hc with hc;injection hc with h1;exact(mK.2.2 ad h1).2
 |5=>injection hc with hc;cases hc
 |6=>injection hc with hc;cases hc
 |7=>injection hc with hc;cases hc
 |8=>injection hc with hc;injection hc with h1;exact(q1 ad h1).2
 |9=>injection hc with hc;injection hc with h1;exact(q2 ad h1).2
 |10=>injection hc with hc;injection hc with h1;exact(q3 ad h1).2
 |11=>injection hc with hc;injection hc with h1;exact(q4 ad h1).2
 |12=>injection hc with hc;injection hc with h1;exact(q5 ad h1).2
 |13=>injection hc with hc;cases hc
 |14=>injection hc with hc;injection hc with h1;exact(q6 ad h1).2
 |15=>injection hc with hc;cases hc
 |j+16=>cases hc
set_option maxRecDepth 100000 in
set_option maxHeartbeats 4000000 in
theorem GL.low (h:GL lo w C zs ks f d r) (gh:GH hi C) (b:Below hi w w'):GL lo w' C zs ks f d r:=by
 obtain⟨da,dc,ca,cc,ka,kc,aSD,nSD,cSD,aSU,nSU,cSU,aF,mF,cF,aD,nD,cD,aU,nU,cU,aT,cT,rfl,hdc,mD,mK,⟨a1,a2,a3,a4,a5,a6,hl⟩,l6⟩:=h
 have g0:=fun ad=>gh 0 da _ _ ad (by decide) rfl
 have g4:=fun ad=>gh 4 ka _ _ ad (by decide) rfl
 have hb:∀ {j:Nat},j<hi→w'.heap[j]?=w.heap[j]?:=fun hj=>b.block _ hj
 refine⟨da,dc,ca,cc,ka,kc,aSD,nSD,cSD,aSU,nSU,cSU,aF,mF,cF,aD,nD,cD,aU,nU,cU,aT,cT,rfl,hdc,⟨mD.1.keep (fun ad e=>hb (g0 ad e)) b.size,mD.2.1.keep (fun ad e=>hb (g0 ad e)) b.size,fun ad e=>by have:=mD.2.2 ad e;have:=b.size;omega⟩,⟨mK.1.keep (fun ad e=>hb (g4 ad e)) b.size,mK.2.1.keep (fun ad e=>hb (g4 ad e)) b.size,fun ad e=>by have:=mK.2.2 ad e;have:=b.size;omega⟩,⟨a1.keepT b.size fun ad e _=>hb (gh 8 aSD _ _ ad (by decide) rfl e),a2.keepT b.size fun ad e _=>hb (gh 9 aSU _ _ ad (by decide) rfl e),a3.keepT b.size fun ad e _=>hb (gh 10 aF _ _ ad (by decide) rfl e),a4.keepT b.size fun ad e _=>hb (gh 11 aD _ _ ad (by decide) rfl e),a5.keepT b.size fun ad e _=>hb (gh 12 aU _ _ ad (by decide) rfl e),a6.keepT b.size fun ad e _=>hb (gh 14 aT _ _ ad (by decide) rfl e),hl⟩,l6.size b.size (Nat.le_refl _)⟩
def RB (hi:Nat) (w:World) (X:Array Value) (c:Int) (zs ks:List Int) (f:Int) (d:Bool) (r:ImR):Prop:=∃ lo C,X=#[.int .i64 c]++C∧GL lo w C zs ks f d r∧GH hi C
theorem RL.rb (h:RL lo w X c zs ks f d r):RB w.heap.size w X c zs ks f d r:=by obtain⟨C,e,h⟩:=h;exact⟨lo,C,e,h,h.gh⟩
theorem RB.low (h:RB hi w X c zs ks f d r) (b:Below hi w w'):RB hi w' X c zs ks f d r:=by obtain⟨lo,C,e,h,g⟩:=h;exact⟨lo,C,e,h.low g b,g⟩
theorem RB.rl (h:RB hi w X c zs ks f d r):∃ lo,RL lo w X c zs ks f d r:=by obtain⟨lo,C,e,h,g⟩:=h;exact⟨lo,C,e,h⟩
theorem RP.keep (h:RP lo w X c zs ks f d r) (hs:w.heap.size≤w'.heap.size) (hb:∀ k,lo≤k→k<w.heap.size→w'.heap[k]?=w.heap[k]?):RP lo w' X c zs ks f d r:=by obtain⟨C,e,h⟩:=h;exact⟨C,e,h.keep hs hb⟩
end
structure FQ (w:World) (P:Nat) (X:Array Value) (c:Int) (zs ks:List Int) (f:Int) (d:Bool) (r:ImR) (w':World):Prop where
 bw:Below w.heap.size w w'
 x1:w'.heap[P]?=some (.cells X 50 (0,0))
 r1:RB P w' X c zs ks f d r
theorem FQ.low {w w' w'':World} {P B:Nat} {X:Array Value} {c:Int} {zs ks:List Int} {f:Int} {d:Bool} {r:ImR} (h:FQ w P X c zs ks f d r w') (b:Below B w' w'') (hP:P<B) (hw:w.heap.size≤P):FQ w P X c zs ks f d r w'':=
 ⟨h.bw.trans (b.mono (by omega)),by rw[b.block P hP];exact h.x1,h.r1.low (b.mono (Nat.le_of_lt hP))⟩
theorem FQ.call {w w' w'':World} {P:Nat} {X:Array Value} {c:Int} {zs ks:List Int} {f:Int} {d:Bool} {r:ImR} (h:FQ w P X c zs ks f d r w') (b:Below w'.heap.size w' w'') (hw:w.heap.size≤P):FQ w P X c zs ks f d r w'':=h.low b (Array.getElem?_eq_some_iff.1 h.x1).1 hw
end Go.Proofs.YthmeoilbmfdhfaaGreat
