import Derived.Test.YthmeoilbmfdhfaaGreatMRcN
import Derived.Test.YthmeoilbmfdhfaaGreatMMkF
import Derived.Test.YthmeoilbmfdhfaaGreatMLlB
import Derived.Test.YthmeoilbmfdhfaaGreatMFmP
import Derived.Test.YthmeoilbmfdhfaaGreatMVgR
import Derived.Test.YthmeoilbmfdhfaaGreatMPuR
import Derived.Test.YthmeoilbmfdhfaaGreatMWri
namespace Go.Proofs.YthmeoilbmfdhfaaGreat
open Go.ChangeShapes Go.WideShapes Go.ChangeAt Go.RowKit
set_option linter.unusedVariables false
theorem src_any (a x:Option Addr) (c cx:Nat) (zs:List Int) (ps:List PD) (f:Int) (d:Bool) (ka:Option Addr) (kc:Nat) (ks:List Int) (w:World) (h:DAt w (.agg #[.slice a zs.length c,.slice x ps.length cx,.int .i64 f,.bool d]) zs ps f d) (hka:At .u8 w ka ks) (hz:zs.length≤1048576) (hm:ps.length≤1048576) (hps:∀ i,(ps.getD i (0,[])).2.length≤1048576) (bz:Byte zs) :
  Calls Tryz.prog 23 #[.agg #[.slice a zs.length c,.slice x ps.length cx,.int .i64 f,.bool d],.slice ka ks.length kc] w fun e w'=>∃ X,e=.returned (.agg X)∧RM w.heap.size w' X (rcO zs ps f d ks).c (rcO zs ps f d ks).z (rcO zs ps f d ks).p (rcO zs ps f d ks).k (rcO zs ps f d ks).f (rcO zs ps f d ks).d (rcO zs ps f d ks).r∧Below w.heap.size w w':=by
 by_cases hc:(validB zs.length ps f=true∧d=false∧ps=[])∧ks.length=32
 ·obtain⟨⟨h1,rfl,rfl⟩,h4⟩:=hc;exact sry_any a x c cx zs f ka kc ks _ w h hka h1 h4 rfl bz _ (by unfold rcO;exact(if_pos ⟨⟨h1,rfl,rfl⟩,h4⟩).symm)
 ·exact srn_any a x c cx zs ps f d ka kc ks w h hz hm hps hc _ rfl
set_option maxHeartbeats 400000 in
theorem heldPS_any (a:Option Addr) (n cap:Nat) (ps:List PD) (k:Int) (w:World) (h:PAt w a (pmarks k ps)) (hl:ps.length=n) (hk:0≤k) (hk':k+n+pSum ps≤1099511627776) :
  Calls Tryz.prog 151 #[.slice a n cap,.int .i64 k] w fun e w'=>e=.returned (.int .i64 (k+n+pSum ps))∧w'=w:=by
 go_enter Tryz.func151,Tryz.ntmps151;go_wp2
 go_loop [1,5] (fun q i=>∃ j:Nat,j≤n∧i=.int .i64 j∧q=.int .i64 (kAt k ps j)) (fun _ i=>n-(intOf i).toNat)
 case atStart=>exact⟨0,Nat.zero_le _,rfl,by rw[kAt_zero]⟩
 case round=>
  obtain⟨j,hj,rfl,rfl⟩:=hrel;have hkb:=kAt_le k ps j (by omega);by_cases hlt:j<n
  ·have hsucc:=kAt_succ k ps j (by omega);have hkb2:=kAt_le k ps (j+1) (by omega);obtain⟨b,off,rfl,hb,hc⟩:=h.get (by rw[pmarks_len];omega);obtain⟨x,c,h1,h2,h3⟩:=hc j (by rw[pmarks_len];omega);rw[pmarks_get k ps j (by omega)] at h1 h2 h3;simp only[marks_len] at h2;have HSUC:Hid _:=hsucc;have HA:Hid _:=h3;clear hc h hsucc h3;generalize kAt k ps j=q at *;generalize (ps.getD j (0,[])).2.length=m at *;have hr:q+1+(m:Int)=kAt k ps (j+1):=HSUC.out.symm;have e1:(q != q)=false:=by simp
   have e2:¬ (kAt k ps (j+1)<0):=by omega
   go_wp2_with fail;refine(heldB_any x m c (q+1) w HA.out (by omega) (by omega)).mono ?_;rintro e w2 ⟨rfl,rfl⟩;rw[hr];clear hr;go_wp2
   go_round
   case rel=>exact⟨j+1,by omega,by go_num,rfl⟩
   case measure=>simp[intOf];omega
  ·have hjn:j=ps.length:=by omega
   subst hjn;have hall:=kAt_all k ps;rw[hall];go_wp2
   go_ret
   exact⟨ret_int (by omega),rfl⟩
set_option maxHeartbeats 400000 in
theorem heldD_any (v:Value) (zs:List Int) (ps:List PD) (f:Int) (d:Bool) (k:Int) (w:World) (h:DAt w v (marks k zs.length) (pmarks (k+zs.length) ps) f d) (hk:0≤k) (hk':k+zs.length+ps.length+pSum ps≤1099511627776) :
  Calls Tryz.prog 111 #[v,.int .i64 k] w fun e w'=>e=.returned (.int .i64 (k+zs.length+ps.length+pSum ps))∧Below w.heap.size w w':=by
 obtain⟨a,c,x,cx,rfl,hA,hP,_⟩:=h;rw[marks_len,pmarks_len];generalize hL:zs.length=L at *;generalize hm:ps.length=m at *;have hb:=(Below.refl w.heap.size w).alloc (Nat.le_refl _) (.cells #[.slice a L c,.slice x m cx,.int .i64 f,.bool d] 40);have HA1:Hid _:=hA.below hb;have HP1:Hid _:=hP.below hb;have HB:Hid _:=hb;have t1:¬ (k+(L:Int)<0):=by omega
 have t2:¬ (k+(L:Int)+m+pSum ps<0):=by omega
 clear hA hP hb;go_enter Tryz.func111,Tryz.ntmps111;go_wp2_with fail;refine(heldB_any a L c k _ HA1.out hk (by omega)).mono ?_;rintro e w2 ⟨rfl,rfl⟩;go_wp2_with fail;refine(heldPS_any x m cx ps (k+L) _ HP1.out hm (by omega) (by omega)).mono ?_;rintro e w2 ⟨rfl,rfl⟩;go_wp2
 go_ret
 exact⟨rfl,HB.out⟩
structure XR (X:Array Value) (c:Int) (C:Array Value):Prop where
 x0:X[0]?=some (.int .i64 c)
 xs:∀ j:Nat,X[1+j]?=C[j]?
theorem XR.of {c:Int} {C:Array Value}:XR (#[.int .i64 c]++C) c C:=⟨by
 rw[Array.getElem?_append_left (show 0<(#[Value.int .i64 c]:Array Value).size from Nat.one_pos)];rfl,fun j=>by
 rw[Array.getElem?_append_right (show(#[Value.int .i64 c]:Array Value).size≤1+j by show 1≤1+j;omega)];show C[1+j-1]?=C[j]?
 rw[Nat.add_sub_cancel_left]⟩
theorem XR.range {X C:Array Value} {c:Int} (h:XR X c C) {w:World} {b:Nat} {t:TypeId} {fr:Nat×Nat} (hr:w.heap[b]?=some (.cells X t fr)):w.rangeAt b 1 C.toList:=fun j v hv=>by
 rw[cell_of_row w b (1+j) _ _ _ hr,h.xs,←Array.getElem?_toList];exact hv
set_option maxRecDepth 100000 in
set_option maxHeartbeats 4000000 in
theorem eqX_any {X X' C C':Array Value} {c:Int} {zs ks:List Int} {ps:List PD} {f:Int} {d:Bool} {r:ImR} {w:World} (e:X=#[.int .i64 c]++C) (g:GAt w (.agg C) zs ps f d ks r) (s:C.size=16) (e':X'=#[.int .i64 c]++C') (g':GAt w (.agg C') zs ps f d ks r) (s':C'.size=16) (hb:GLe zs ps ks r) :
  Calls Tryz.prog 18 #[.agg X,.agg X'] w fun e w'=>e=.returned (.bool true)∧Below w.heap.size w w':=by
 have HX:Hid (XR X c C∧XR X' c C'):=⟨by rw[e];exact XR.of,by rw[e'];exact XR.of⟩
 have HG:Hid (GAt w (.agg C) zs ps f d ks r∧GAt w (.agg C') zs ps f d ks r∧GLe zs ps ks r∧C.size=16∧C'.size=16):=⟨g,g',hb,s,s'⟩
 have HSG:Hid (∀ cs:Array Value,cs.size=16→(Tryz.prog.info? 48).map (·.size)=some cs.toList.length):=fun cs h=>by rw[Array.length_toList,h];kernel_rfl
 have HE0:Hid (BE w 50 X X' ((w.alloc (.cells X 50)).alloc (.cells X' 50))):=BE.start _ _ _ _;clear e e' g g' hb s s';go_enter Tryz.func18,Tryz.ntmps18
 go_upto_region 1 with fail
 generalize (w.alloc (.cells X 50)).alloc (.cells X' 50)=w0 at *;have x0:w0.cell? ⟨w.heap.size,0,none⟩=some (.int .i64 c):=by rw[cell_of_row _ _ _ _ _ _ HE0.out.b0];exact HX.out.1.x0
 have y0:w0.cell? ⟨w.heap.size+1,0,none⟩=some (.int .i64 c):=by rw[cell_of_row _ _ _ _ _ _ HE0.out.b1];exact HX.out.2.x0
 have HT:Hid (w0.rangeAt w.heap.size 1 C.toList∧w0.rangeAt (w.heap.size+1) 1 C'.toList):=⟨HX.out.1.range HE0.out.b0,HX.out.2.range HE0.out.b1⟩
 go_wp2_with (first
  |(refine wpList_load_mid rfl 48 (.tmp 10) rfl w.heap.size 1 rfl C.toList _ HT.out.1 Tryz.underlying48 rfl (HSG.out _ HG.out.2.2.2.1) ?_)
  |(refine wpList_load_mid rfl 48 (.tmp 12) rfl (w.heap.size+1) 1 rfl C'.toList _ HT.out.2 Tryz.underlying48 rfl (HSG.out _ HG.out.2.2.2.2) ?_)
  |fail)
 refine(eqG_any (.agg C) (.agg C') zs ps f d ks r w0 (HG.out.1.below HE0.out.below) (HG.out.2.1.below HE0.out.below) HG.out.2.2.1).mono ?_;rintro e w1 ⟨rfl,b1⟩;have HF:Hid (Below w.heap.size w w1):=(HE0.out.call b1).below;clear x0 y0 HT HE0 b1;go_wp2_with fail
 go_ret
 exact⟨rfl,HF.out⟩
theorem eqQ_any {lo lo':Nat} {X X':Array Value} {c:Int} {zs ks:List Int} {ps:List PD} {f:Int} {d:Bool} {r:ImR} {w:World} (h:RTQ lo w X c zs ps ks f d r) (h':RM lo' w X' c zs ps ks f d r) (hb:GLe zs ps ks r) :
  Calls Tryz.prog 18 #[.agg X,.agg X'] w fun e w'=>e=.returned (.bool true)∧Below w.heap.size w w':=by
 obtain⟨C,e,g⟩:=h;obtain⟨C',e',g'⟩:=h';exact eqX_any e g.gat g.row.1 e' g'.gat g'.row.1 hb
theorem cmT_ok {zs:List Int} {f:Int} {r:ImR} {n:Nat} (h:ImF zs f r n) (bz:Byte zs) (hg:¬ r.g=4000000000):DOk zs.length (cmT zs f r):=by
 have hs:=h.snp hg;obtain⟨m,hm,hc⟩:=h.cut;have g0:=h.g0;have t1:=h.t1;have tp:=h.top;have hb:Byte (cmL r):=snL_byte hs.1 ⟨by omega,by omega⟩ ⟨by omega,by omega⟩;have hl:(cmL r).length=128:=END_len;have hv:=h.v;have hz:=hv.1;have hz8:=hv.2.1;unfold cmT;exact DOk.fin hv bz (by omega) (by rw[List.length_take,hl];rfl) (hb.take _) (by rw[List.length_drop,hl]) (hb.drop _)
theorem pSum_one {ps:List PD} (h:ps.length≤1) (hp:∀ i,(ps.getD i (0,[])).2.length≤64):pSum ps≤64:=by
 match ps,h with
 |[],_=>simp[pSum]
 |[p],_=>have:=hp 0;simpa[pSum] using this
structure ROk (R:RO):Prop where
 z:R.z.length≤16384
 k:R.k.length≤32
 p:R.p.length≤1
 q:∀ i,(R.p.getD i (0,[])).2.length≤64
 r:ImLe R.r
theorem ROk.no (c:Int):ROk (roNo c):=⟨by simp[roNo],by simp[roNo],by simp[roNo],by simp[roNo],by simp[roNo,imNo,ImLe]⟩
theorem ROk.gle {R:RO} (h:ROk R):GLe R.z R.p R.k R.r:=by
 obtain⟨i1,i2,i3,i4,i5,i6⟩:=h.r;have:=h.z;have:=h.k;have:=h.p;exact⟨by omega,by omega,fun i=>by have:=h.q i;omega,by omega,by omega,by omega,by omega,by omega,by omega,by omega⟩
theorem ROk.sum {R:RO} (h:ROk R):R.z.length+R.p.length+pSum R.p+R.k.length≤500000:=by
 have:=pSum_one h.p h.q;have:=h.z;have:=h.k;have:=h.p;omega
theorem rcO_ok {zs ks:List Int} {ps:List PD} {f:Int} {d:Bool} (bz:Byte zs):ROk (rcO zs ps f d ks):=by
 unfold rcO;split
 ·rename_i h
  obtain⟨⟨hv,_,rfl⟩,hk⟩:=h;split
  ·rename_i ho
   obtain⟨n,hI⟩:=imF_of rfl ho bz;have hv:=hI.v;have hz:zs.length≤16384:=by have:=hv.1;have:=hv.2.2.1;omega
   have hi:ImLe (imG zs [] f):=imG_bd bz (fun i=>by simpa using byte_nil);unfold rcY;split
   ·have hD:DOk zs.length (cpD zs f (imG zs [] f))∧ImLe (cpI zs f (imG zs [] f)):=by
     unfold cpD cpI;split
     ·exact⟨DOk.start bz hv.2.2.2.2.2,hi⟩
     ·rename_i hn
      have hT:=cmT_ok hI bz (fun e=>hn (.inr e));refine⟨hT,?_⟩;unfold afI;split
      ·exact hi
      ·exact imG_bd hT.bz hT.bp
    exact⟨by show(cpD zs f (imG zs [] f)).1.length≤16384;rw[hD.1.len];exact hz,by show ks.length≤32;omega,hD.1.pl,hD.1.ps,hD.2⟩
   ·exact⟨hz,by show ks.length≤32;omega,by simp,by simp,hi⟩
  ·exact ROk.no _
 ·exact ROk.no _
section
variable {lo:Nat} {w v w':World} {C X:Array Value} {zs ks:List Int} {ps:List PD} {f c:Int} {d:Bool} {r:ImR}
def gD (zs:List Int) (ps:List PD):Int:=1+zs.length+ps.length+pSum ps
def gQ (zs:List Int) (ps:List PD) (ks:List Int) (r:ImR):Int:=gD zs ps+ks.length+r.sD.length+r.sU.length+r.F.length+r.D.length+r.U.length+r.n*2
theorem gQ_pos (zs:List Int) (ps:List PD) (ks:List Int) (r:ImR):¬ gQ zs ps ks r<0:=by unfold gQ gD;omega
def GMk (w:World) (C:Array Value) (zs:List Int) (ps:List PD) (ks:List Int) (f:Int) (d:Bool) (r:ImR):Prop:=∃ da dc ca cc ka kc aSD nSD cSD aSU nSU cSU aF mF cF aD nD cD aU nU cU aT cT,C=#[.slice da zs.length dc,.slice ca ps.length cc,.int .i64 f,.bool d,.slice ka ks.length kc,.bool r.ok,.int .u32 r.g,.int .u32 r.t,.slice aSD nSD cSD,.slice aSU nSU cSU,.slice aF mF cF,.slice aD nD cD,.slice aU nU cU,.int .i64 r.k,.slice aT r.n cT,.int .u32 r.nx]∧zs.length≤dc∧At .u8 w da (marks 1 zs.length)∧PAt w ca (pmarks (1+zs.length) ps)∧At .u8 w ka (marks (gD zs ps) ks.length)∧I6M w aSD aSU aF aD aU aT nSD nSU mF nD nU r.n (gD zs ps+ks.length)∧r.sD.length=nSD∧r.sU.length=nSU∧r.F.length=mF*4∧r.D.length=nD∧r.U.length=nU
theorem GTQ.nf (h:GTQ lo w C zs ps ks f d r) (hl:lo≤w.heap.size):∃ da dc ca cc ka kc aSD nSD cSD aSU nSU cSU aF mF cF aD nD cD aU nU cU aT cT B U,C=#[.slice da zs.length dc,.slice ca ps.length cc,.int .i64 f,.bool d,.slice ka ks.length kc,.bool r.ok,.int .u32 r.g,.int .u32 r.t,.slice aSD nSD cSD,.slice aSU nSU cSU,.slice aF mF cF,.slice aD nD cD,.slice aU nU cU,.int .i64 r.k,.slice aT r.n cT,.int .u32 r.nx]∧zs.length≤dc∧Mine lo w da zs∧Mine lo w ka ks∧(r.sD.length=nSD∧r.sU.length=nSU∧r.F.length=mF*4∧r.D.length=nD∧r.U.length=nU)∧GX lo w r da ka aSD aSU aF aD aU aT nSD nSU mF nD nU∧PMine B U w ca ps∧(lo≤B∧U≤w.heap.size)∧(∀ ad,da=some ad→ad.block<B)∧(∀ ad,ka=some ad→ad.block<B)∧∀ j,B≤j→N6 j aSD aSU aF aD aU aT:=by
 obtain⟨da,dc,ca,cc,ka,kc,aSD,nSD,cSD,aSU,nSU,cSU,aF,mF,cF,aD,nD,cD,aU,nU,cU,aT,cT,B,U,e,⟨h1,_⟩,h2,h3,⟨_,_,_,_,_,_,e1,e2,e3,e4,e5,_⟩,h5,h8,h9,h10,h11⟩:=h;by_cases hp:ps=[]
 ·subst hp;have hx:=h5;obtain⟨⟨b1,b2,g⟩,_⟩:=hx;exact⟨da,dc,ca,cc,ka,kc,aSD,nSD,cSD,aSU,nSU,cSU,aF,mF,cF,aD,nD,cD,aU,nU,cU,aT,cT,w.heap.size,w.heap.size,e,h1,h2,h3,⟨e1,e2,e3,e4,e5⟩,h5,.inl rfl,⟨hl,Nat.le_refl _⟩,fun ad e=>(h2.2.2 ad e).2,fun ad e=>(h3.2.2 ad e).2,GL.n6 g.l6⟩
 ·exact⟨da,dc,ca,cc,ka,kc,aSD,nSD,cSD,aSU,nSU,cSU,aF,mF,cF,aD,nD,cD,aU,nU,cU,aT,cT,B,U,e,h1,h2,h3,⟨e1,e2,e3,e4,e5⟩,h5,h8,⟨h9,h10⟩,h11 hp⟩
set_option maxRecDepth 100000 in
set_option maxHeartbeats 4000000 in
theorem mkQ_any (h:GTQ lo v C zs ps ks f d r) (hl:lo≤v.heap.size) (hv:v.heap.size≤w.heap.size) (hvb:∀ k,lo≤k→k<v.heap.size→w.heap[k]?=v.heap[k]?) (hb:ImLe r) (hs:zs.length+ps.length+pSum ps+ks.length≤500000) :
  Calls Tryz.prog 61 #[.agg C,.int .i64 1] w fun e w'=>e=.returned (.int .i64 (gQ zs ps ks r))∧GMk w' C zs ps ks f d r∧Below lo w w'∧∀ j,v.heap.size≤j→j<w.heap.size→w'.heap[j]?=w.heap[j]?:=by
 obtain⟨da,dc,ca,cc,ka,kc,aSD,nSD,cSD,aSU,nSU,cSU,aF,mF,cF,aD,nD,cD,aU,nU,cU,aT,cT,B,U,rfl,hdc,mD,mK,⟨e1,e2,e3,e4,e5⟩,⟨⟨b1,b2,g⟩,hdk,hkk⟩,hP,⟨hB,hU⟩,hdB,hkB,h6B⟩:=h.nf hl;obtain⟨l1,l2,l3,l4,l5,l6⟩:=hb;have HH:Hid ((∀ ad,da=some ad→ad.block<v.heap.size)∧(∀ ad,ka=some ad→ad.block<v.heap.size)∧(∀ j,v.heap.size≤j→N6 j aSD aSU aF aD aU aT)∧v.heap.size≤w.heap.size):=⟨fun ad e=>(mD.2.2 ad e).2,fun ad e=>(mK.2.2 ad e).2,GL.n6 g.l6,hv⟩
 have HU:Hid (lo≤B∧U≤v.heap.size∧(∀ ad,da=some ad→ad.block<B)∧(∀ ad,ka=some ad→ad.block<B)∧(∀ j,B≤j→N6 j aSD aSU aF aD aU aT)):=⟨hB,hU,hdB,hkB,h6B⟩
 have HIN:Hid (∀ ad,In6 ad aSD aSU aF aD aU aT→ad.block<B):=fun ad i=>Classical.byContradiction fun h=>(h6B ad.block (by omega)).ne i rfl
 have HB0:Hid (OE w 48 #[.slice da zs.length dc,.slice ca ps.length cc,.int .i64 f,.bool d,.slice ka ks.length kc,.bool r.ok,.int .u32 r.g,.int .u32 r.t,.slice aSD nSD cSD,.slice aSU nSU cSU,.slice aF mF cF,.slice aD nD cD,.slice aU nU cU,.int .i64 r.k,.slice aT r.n cT,.int .u32 r.nx] (w.alloc (.cells #[.slice da zs.length dc,.slice ca ps.length cc,.int .i64 f,.bool d,.slice ka ks.length kc,.bool r.ok,.int .u32 r.g,.int .u32 r.t,.slice aSD nSD cSD,.slice aSU nSU cSU,.slice aF mF cF,.slice aD nD cD,.slice aU nU cU,.int .i64 r.k,.slice aT r.n cT,.int .u32 r.nx] 48))):=OE.start _ _ _;have HM:Hid (Mine lo w da zs∧Mine lo w ka ks):=⟨mD.keep hv hvb,mK.keep hv hvb⟩
 have HG:Hid (I6 lo b1 b2 w aSD aSU aF aD aU aT nSD nSU mF nD nU r.n):=g.keep hv hvb;have HP:Hid (PMine B U w ca ps):=hP.keep (fun k hk hk'=>hvb k (by omega) (by omega)) hv;have HN:Hid ((∀ ad,da=some ad→NotIn ad.block ka∧N6 ad.block aSD aSU aF aD aU aT)∧(∀ ad,ka=some ad→N6 ad.block aSD aSU aF aD aU aT)):=⟨hdk,hkk⟩
 have HE:Hid (r.sD.length=nSD∧r.sU.length=nSU∧r.F.length=mF*4∧r.D.length=nD∧r.U.length=nU):=⟨e1,e2,e3,e4,e5⟩
 have HL:Hid (nSD≤16∧nSU≤256∧mF*4≤1008∧nD≤16∧nU≤256∧r.n≤256∧zs.length+ps.length+pSum ps+ks.length≤500000∧lo≤w.heap.size∧zs.length≤dc):=⟨by omega,by omega,by omega,by omega,by omega,l6,hs,by omega,hdc⟩
 obtain⟨K1,hK1⟩:∃ K1:Int,gD zs ps=K1:=⟨_,rfl⟩
 have HK1':Hid (1+(zs.length:Int)+ps.length+pSum ps=K1∧0≤K1∧K1+ks.length≤500001):=by rw[←hK1];unfold gD;exact⟨rfl,by omega,by omega⟩
 clear mD mK g hdk hkk e1 e2 e3 e4 e5 l1 l2 l3 l4 l5 l6 hs hl hdc hP hB hU hdB hkB h6B hv hvb h;go_enter Tryz.func61,Tryz.ntmps61
 go_upto_region 1 with fail
 generalize w.alloc (.cells #[.slice da zs.length dc,.slice ca ps.length cc,.int .i64 f,.bool d,.slice ka ks.length kc,.bool r.ok,.int .u32 r.g,.int .u32 r.t,.slice aSD nSD cSD,.slice aSU nSU cSU,.slice aF mF cF,.slice aD nD cD,.slice aU nU cU,.int .i64 r.k,.slice aT r.n cT,.int .u32 r.nx] 48)=w0 at *;have x0:=cell_of_row w0 w.heap.size 0 _ _ _ HB0.out.b0;have x1:=cell_of_row w0 w.heap.size 1 _ _ _ HB0.out.b0;have x2:=cell_of_row w0 w.heap.size 2 _ _ _ HB0.out.b0;have x3:=cell_of_row w0 w.heap.size 3 _ _ _ HB0.out.b0;simp at x0 x1 x2 x3;go_wp2_with fail;refine(markDq da ca dc cc zs ps f d 1 B U w0 (HM.out.1.below HB0.out.below).2.1 (fun ad e=>⟨((HM.out.1.below HB0.out.below).2.2 ad e).2,.inl (HU.out.2.2.1 ad e)⟩) (by have:=HU.out;have:=HH.out.2.2.2;have:=HB0.out.below.size;omega) (HP.out.below HB0.out.below) (by decide) (by have:=HL.out;omega)).mono ?_;rintro e w1 ⟨rfl,aD1,pD1,k1⟩;rw[HK1'.out.1];have hS:∀ {a:Option Addr} {y:List Int},Mine lo w a y→NotIn w.heap.size a:=fun m ad e=>by have:=(m.2.2 ad e).2;omega
 have HUW:Hid (U≤w.heap.size):=by have:=HU.out;have:=HH.out.2.2.2;show _≤_;omega
 have HR1:Hid (w1.heap[w.heap.size]?=some (.cells #[.slice da zs.length dc,.slice ca ps.length cc,.int .i64 f,.bool d,.slice ka ks.length kc,.bool r.ok,.int .u32 r.g,.int .u32 r.t,.slice aSD nSD cSD,.slice aSU nSU cSU,.slice aF mF cF,.slice aD nD cD,.slice aU nU cU,.int .i64 r.k,.slice aT r.n cT,.int .u32 r.nx] 48 (0,0))):=by show _=_;rw[k1.block _ HB0.out.lt ⟨hS HM.out.1,.inr HUW.out⟩];exact HB0.out.b0
 have oK:Open w1 ka ks.length:=(HM.out.2.below HB0.out.below).2.1.keep (fun ad e=>k1.block _ (by have:=((HM.out.2.below HB0.out.below).2.2 ad e).2;omega) ⟨fun dd ed h=>(HN.out.1 dd ed).1 ad e h.symm,.inl (HU.out.2.2.2.1 ad e)⟩) k1.size;have HO1:=hid_of oK;have HA1:=hid_of (And.intro aD1 pD1);have HK1:=hid_of k1;have HS:=hid_of (And.intro (hS HM.out.1) (hS HM.out.2));clear x0 x1 x2 x3;clear aD1 pD1 k1 oK hS;have x4:=cell_of_row w1 w.heap.size 4 _ _ _ HR1.out;simp at x4;go_wp2_with fail;refine(markB_any ka ks.length kc K1 w1 HO1.out HK1'.out.2.1 (by have:=HK1'.out;omega)).mono ?_;rintro e w2 ⟨rfl,aK2,wr2⟩;have k2:Kp (fun j=>NotIn j ka) w1 w2:=⟨wr2.os,wr2.tape,wr2.output,Nat.le_of_eq wr2.size.symm,fun j hj hn=>wr2.block j (fun ad e h=>hn ad e h)⟩
 have HR2:Hid (w2.heap[w.heap.size]?=some (.cells #[.slice da zs.length dc,.slice ca ps.length cc,.int .i64 f,.bool d,.slice ka ks.length kc,.bool r.ok,.int .u32 r.g,.int .u32 r.t,.slice aSD nSD cSD,.slice aSU nSU cSU,.slice aF mF cF,.slice aD nD cD,.slice aU nU cU,.int .i64 r.k,.slice aT r.n cT,.int .u32 r.nx] 48 (0,0))):=by show _=_;rw[k2.block _ (Array.getElem?_eq_some_iff.1 HR1.out).1 HS.out.2];exact HR1.out
 have g0:=HG.out.below HB0.out.below;have g1:I6 lo b1 b2 w1 aSD aSU aF aD aU aT nSD nSU mF nD nU r.n:=g0.keep6 HK1.out.size (fun ad i=>HK1.out.block _ (g0.in6 i).2 ⟨fun dd ed h=>(HN.out.1 dd ed).2.ne i h.symm,.inl (HIN.out ad i)⟩);have g2:I6 lo b1 b2 w2 aSD aSU aF aD aU aT nSD nSU mF nD nU r.n:=g1.keep6 k2.size (fun ad i=>k2.block _ (g1.in6 i).2 (fun dd ed h=>(HN.out.2 dd ed).ne i h.symm));have d2:At .u8 w2 da (marks 1 zs.length):=HA1.out.1.keep (fun ad e=>k2.block _ (Nat.lt_of_lt_of_le ((HM.out.1.below HB0.out.below).2.2 ad e).2 HK1.out.size) ((HN.out.1 ad e).1)) k2.size;have HG2:=hid_of g2;have HA2:=hid_of (And.intro d2 aK2);have HK2:=hid_of k2;clear x4 aK2 wr2 k2 g0 g1 g2 d2;have x5:=cell_of_row w2 w.heap.size 5 _ _ _ HR2.out;have x6:=cell_of_row w2 w.heap.size 6 _ _ _ HR2.out;have x7:=cell_of_row w2 w.heap.size 7 _ _ _ HR2.out;have x8:=cell_of_row w2 w.heap.size 8 _ _ _ HR2.out;have x9:=cell_of_row w2 w.heap.size 9 _ _ _ HR2.out;have x10:=cell_of_row w2 w.heap.size 10 _ _ _ HR2.out;have x11:=cell_of_row w2 w.heap.size 11 _ _ _ HR2.out;have x12:=cell_of_row w2 w.heap.size 12 _ _ _ HR2.out;have x13:=cell_of_row w2 w.heap.size 13 _ _ _ HR2.out;have x14:=cell_of_row w2 w.heap.size 14 _ _ _ HR2.out;have x15:=cell_of_row w2 w.heap.size 15 _ _ _ HR2.out;simp at x5 x6 x7 x8 x9 x10 x11 x12 x13 x14 x15;go_wp2_with fail;refine(markM_any r.ok r.g r.t aSD aSU aF aD aU aT nSD cSD nSU cSU mF cF nD cD nU cU r.n cT r.k r.nx (K1+ks.length) w2 HG2.out (by have:=HL.out;have:=HB0.out.below.size;have:=HK1.out.size;have:=HK2.out.size;omega) (by have:=HK1'.out;omega) (by have:=HL.out;have:=HK1'.out;omega)).mono ?_;rintro e w3 ⟨rfl,p1,p2,p3⟩;have sz0:=HB0.out.below.size;have sz1:=HK1.out.size;have sz2:=HK2.out.size;have hd3:At .u8 w3 da (marks 1 zs.length):=HA2.out.1.keep (fun ad e=>by
  obtain⟨_,n1,n2,n3,n4,n5,n6⟩:=HN.out.1 ad e;exact p3 _ (by have:=((HM.out.1.below HB0.out.below).2.2 ad e).2;omega) n1 n2 n3 n4 n5 n6) p2.size
 have hk3:At .u8 w3 ka (marks K1 ks.length):=HA2.out.2.keep (fun ad e=>by
  obtain⟨n1,n2,n3,n4,n5,n6⟩:=HN.out.2 ad e;exact p3 _ (by have:=((HM.out.2.below HB0.out.below).2.2 ad e).2;omega) n1 n2 n3 n4 n5 n6) p2.size
 have hp3:PAt w3 ca (pmarks (1+zs.length) ps):=HA1.out.2 w3 (by have:=p2.size;omega) (fun j hj hj'=>by
  obtain⟨n1,n2,n3,n4,n5,n6⟩:=HU.out.2.2.2.2 j hj;have:=HUW.out;rw[p3 j (by omega) n1 n2 n3 n4 n5 n6,HK2.out.block j (by omega) (fun ad e h=>by have:=HU.out.2.2.2.1 ad e;omega)])
 have HF:Hid (GMk w3 #[.slice da zs.length dc,.slice ca ps.length cc,.int .i64 f,.bool d,.slice ka ks.length kc,.bool r.ok,.int .u32 r.g,.int .u32 r.t,.slice aSD nSD cSD,.slice aSU nSU cSU,.slice aF mF cF,.slice aD nD cD,.slice aU nU cU,.int .i64 r.k,.slice aT r.n cT,.int .u32 r.nx] zs ps ks f d r):=⟨da,dc,ca,cc,ka,kc,aSD,nSD,cSD,aSU,nSU,cSU,aF,mF,cF,aD,nD,cD,aU,nU,cU,aT,cT,rfl,HL.out.2.2.2.2.2.2.2.2,hd3,hp3,by rw[hK1];exact hk3,by rw[hK1];exact p1,HE.out⟩
 have HBW:Hid (Below lo w w3):=by
  have hlo:=HL.out.2.2.2.2.2.2.2.1;have q1:Below lo w0 w1:=HK1.out.below (by omega) (fun j hj=>⟨fun ad e h=>by have:=(HM.out.1.2.2 ad e).1;omega,.inl (by have:=HU.out.1;omega)⟩);have q2:Below lo w1 w2:=HK2.out.below (by omega) (fun j hj ad e h=>by have:=(HM.out.2.2.2 ad e).1;omega);exact((HB0.out.below.mono hlo).trans q1).trans (q2.trans p2)
 have HJ:Hid (∀ j,v.heap.size≤j→j<w.heap.size→w3.heap[j]?=w.heap[j]?):=fun j hj hl=>by
  obtain⟨n1,n2,n3,n4,n5,n6⟩:=HH.out.2.2.1 j hj;rw[p3 j (by omega) n1 n2 n3 n4 n5 n6,HK2.out.block j (by omega) (fun ad e h=>by have:=HH.out.2.1 ad e;omega),HK1.out.block j (by omega) ⟨fun ad e h=>by have:=HH.out.1 ad e;omega,.inr (by have:=HU.out.2.1;omega)⟩,HB0.out.below.block j hl]
 have HK:Hid (K1+ks.length+nSD+nSU+mF*4+nD+nU+r.n*2=gQ zs ps ks r):=by
  obtain⟨e1,e2,e3,e4,e5⟩:=HE.out;show _=_;unfold gQ;rw[hK1];omega
 clear x5 x6 x7 x8 x9 x10 x11 x12 x13 x14 x15;clear p1 p2 p3 hd3 hk3 hp3 HE;rw[HK.out];go_wp2_with fail
 go_ret
 exact⟨rfl,HF.out,HBW.out,HJ.out⟩
set_option maxRecDepth 100000 in
set_option maxHeartbeats 4000000 in
theorem hdQ_any (h:GMk w C zs ps ks f d r) (hb:ImLe r) (hs:zs.length+ps.length+pSum ps+ks.length≤500000) :
  Calls Tryz.prog 62 #[.agg C,.int .i64 1] w fun e w'=>e=.returned (.int .i64 (gQ zs ps ks r))∧Below w.heap.size w w':=by
 obtain⟨da,dc,ca,cc,ka,kc,aSD,nSD,cSD,aSU,nSU,cSU,aF,mF,cF,aD,nD,cD,aU,nU,cU,aT,cT,rfl,hdc,a1,a0,a2,a3,e1,e2,e3,e4,e5⟩:=h;obtain⟨l1,l2,l3,l4,l5,l6⟩:=hb;have HB0:Hid (OE w 48 #[.slice da zs.length dc,.slice ca ps.length cc,.int .i64 f,.bool d,.slice ka ks.length kc,.bool r.ok,.int .u32 r.g,.int .u32 r.t,.slice aSD nSD cSD,.slice aSU nSU cSU,.slice aF mF cF,.slice aD nD cD,.slice aU nU cU,.int .i64 r.k,.slice aT r.n cT,.int .u32 r.nx] (w.alloc (.cells #[.slice da zs.length dc,.slice ca ps.length cc,.int .i64 f,.bool d,.slice ka ks.length kc,.bool r.ok,.int .u32 r.g,.int .u32 r.t,.slice aSD nSD cSD,.slice aSU nSU cSU,.slice aF mF cF,.slice aD nD cD,.slice aU nU cU,.int .i64 r.k,.slice aT r.n cT,.int .u32 r.nx] 48))):=OE.start _ _ _;obtain⟨K1,hK1⟩:∃ K1:Int,gD zs ps=K1:=⟨_,rfl⟩
 obtain⟨K2,hK2⟩:∃ K2:Int,K2=K1+ks.length:=⟨_,rfl⟩
 have hk1:1+(zs.length:Int)+ps.length+pSum ps=K1:=hK1;rw[hK1] at a2 a3;have hK3:K2+nSD+nSU+mF*4+nD+nU+r.n*2=gQ zs ps ks r:=by unfold gQ;omega
 have n1:¬ K1<0:=by omega
 have n2:¬ K2<0:=by omega
 have n3:¬ gQ zs ps ks r<0:=gQ_pos _ _ _ _;have HD:Hid (∀ ww,Below w.heap.size w ww→Calls Tryz.prog 111 #[.agg #[.slice da zs.length dc,.slice ca ps.length cc,.int .i64 f,.bool d],.int .i64 1] ww fun e w'=>e=.returned (.int .i64 K1)∧Below ww.heap.size ww w'):=fun ww b=>by
  refine(heldD_any _ zs ps f d 1 ww ⟨da,dc,ca,cc,by rw[marks_len,pmarks_len],a1.below b,a0.below b,by rw[marks_len];exact hdc⟩ (by decide) (by omega)).mono ?_;rintro e w' ⟨rfl,h⟩;exact⟨by rw[hk1],h⟩
 have HK:Hid (∀ ww,Below w.heap.size w ww→Calls Tryz.prog 112 #[.slice ka ks.length kc,.int .i64 K1] ww fun e w'=>e=.returned (.int .i64 K2)∧w'=ww):=fun ww b=>by
  rw[hK2];exact heldB_any ka ks.length kc K1 ww (a2.below b) (by omega) (by omega)
 have HI:Hid (∀ ww,Below w.heap.size w ww→Calls Tryz.prog 14 #[.agg #[.bool r.ok,.int .u32 r.g,.int .u32 r.t,.slice aSD nSD cSD,.slice aSU nSU cSU,.slice aF mF cF,.slice aD nD cD,.slice aU nU cU,.int .i64 r.k,.slice aT r.n cT,.int .u32 r.nx],.int .i64 K2] ww fun e w'=>e=.returned (.int .i64 (gQ zs ps ks r))∧Below ww.heap.size ww w'):=fun ww b=>by
  rw[←hK3];obtain⟨i1,i2,i3,i4,i5,i6⟩:=a3;refine heldM_any r.ok r.g r.t aSD aSU aF aD aU aT nSD cSD nSU cSU mF cF nD cD nU cU r.n cT r.k r.nx K2 ww ?_ (by omega) (by omega);rw[hK2];exact⟨i1.below b,i2.below b,FAt.below i3 b,i4.below b,i5.below b,i6.below b⟩
 clear a0 a1 a2 a3 e1 e2 e3 e4 e5 l1 l2 l3 l4 l5 l6 hK1 hk1 hK2 hK3 hs hdc;generalize gQ zs ps ks r=K3 at *;go_enter Tryz.func62,Tryz.ntmps62
 go_upto_region 1 with fail
 generalize w.alloc (.cells #[.slice da zs.length dc,.slice ca ps.length cc,.int .i64 f,.bool d,.slice ka ks.length kc,.bool r.ok,.int .u32 r.g,.int .u32 r.t,.slice aSD nSD cSD,.slice aSU nSU cSU,.slice aF mF cF,.slice aD nD cD,.slice aU nU cU,.int .i64 r.k,.slice aT r.n cT,.int .u32 r.nx] 48)=w0 at *;have x0:=cell_of_row w0 w.heap.size 0 _ _ _ HB0.out.b0;have x1:=cell_of_row w0 w.heap.size 1 _ _ _ HB0.out.b0;have x2:=cell_of_row w0 w.heap.size 2 _ _ _ HB0.out.b0;have x3:=cell_of_row w0 w.heap.size 3 _ _ _ HB0.out.b0;simp at x0 x1 x2 x3;go_wp2_with fail;refine(HD.out w0 HB0.out.below).mono ?_;rintro e w1 ⟨rfl,b1⟩;have HB1:Hid (OE w 48 #[.slice da zs.length dc,.slice ca ps.length cc,.int .i64 f,.bool d,.slice ka ks.length kc,.bool r.ok,.int .u32 r.g,.int .u32 r.t,.slice aSD nSD cSD,.slice aSU nSU cSU,.slice aF mF cF,.slice aD nD cD,.slice aU nU cU,.int .i64 r.k,.slice aT r.n cT,.int .u32 r.nx] w1):=HB0.out.call b1;clear x0 x1 x2 x3;clear b1 HB0 HD;have x4:=cell_of_row w1 w.heap.size 4 _ _ _ HB1.out.b0;simp at x4;go_wp2_with fail;refine(HK.out w1 HB1.out.below).mono ?_;rintro e w2 ⟨rfl,h2⟩;subst h2;clear x4 HK;have x5:=cell_of_row w2 w.heap.size 5 _ _ _ HB1.out.b0;have x6:=cell_of_row w2 w.heap.size 6 _ _ _ HB1.out.b0;have x7:=cell_of_row w2 w.heap.size 7 _ _ _ HB1.out.b0;have x8:=cell_of_row w2 w.heap.size 8 _ _ _ HB1.out.b0;have x9:=cell_of_row w2 w.heap.size 9 _ _ _ HB1.out.b0;have x10:=cell_of_row w2 w.heap.size 10 _ _ _ HB1.out.b0;have x11:=cell_of_row w2 w.heap.size 11 _ _ _ HB1.out.b0;have x12:=cell_of_row w2 w.heap.size 12 _ _ _ HB1.out.b0;have x13:=cell_of_row w2 w.heap.size 13 _ _ _ HB1.out.b0;have x14:=cell_of_row w2 w.heap.size 14 _ _ _ HB1.out.b0;have x15:=cell_of_row w2 w.heap.size 15 _ _ _ HB1.out.b0;simp at x5 x6 x7 x8 x9 x10 x11 x12 x13 x14 x15;go_wp2_with fail;refine(HI.out w2 HB1.out.below).mono ?_;rintro e w3 ⟨rfl,b3⟩;have HF:Hid (Below w.heap.size w w3):=(HB1.out.call b3).below;clear x5 x6 x7 x8 x9 x10 x11 x12 x13 x14 x15;clear b3 HB1 HI;go_wp2_with fail
 go_ret
 exact⟨rfl,HF.out⟩
def RMk (w:World) (X:Array Value) (c:Int) (zs:List Int) (ps:List PD) (ks:List Int) (f:Int) (d:Bool) (r:ImR):Prop:=∃ C,XR X c C∧C.size=16∧GMk w C zs ps ks f d r
theorem GMk.below (h:GMk w C zs ps ks f d r) (b:Below w.heap.size w w'):GMk w' C zs ps ks f d r:=by
 obtain⟨da,dc,ca,cc,ka,kc,aSD,nSD,cSD,aSU,nSU,cSU,aF,mF,cF,aD,nD,cD,aU,nU,cU,aT,cT,e,hdc,a1,a0,a2,⟨i1,i2,i3,i4,i5,i6⟩,h⟩:=h;exact⟨da,dc,ca,cc,ka,kc,aSD,nSD,cSD,aSU,nSU,cSU,aF,mF,cF,aD,nD,cD,aU,nU,cU,aT,cT,e,hdc,a1.below b,a0.below b,a2.below b,⟨i1.below b,i2.below b,FAt.below i3 b,i4.below b,i5.below b,i6.below b⟩,h⟩
def RTH (lo hi:Nat) (w:World) (X:Array Value) (c:Int) (zs:List Int) (ps:List PD) (ks:List Int) (f:Int) (d:Bool) (r:ImR):Prop:=∃ v:World,v.heap.size=hi∧lo≤hi∧hi≤w.heap.size∧(∀ k,lo≤k→k<hi→w.heap[k]?=v.heap[k]?)∧RTQ lo v X c zs ps ks f d r
theorem RTH.start (h:RTQ lo w X c zs ps ks f d r) (hl:lo≤w.heap.size):RTH lo w.heap.size w X c zs ps ks f d r:=⟨w,rfl,hl,Nat.le_refl _,fun _ _ _=>rfl,h⟩
theorem RTH.keep {hi:Nat} (h:RTH lo hi w X c zs ps ks f d r) (hs:w.heap.size≤w'.heap.size) (hb:∀ k,lo≤k→k<hi→w'.heap[k]?=w.heap[k]?):RTH lo hi w' X c zs ps ks f d r:=by
 obtain⟨v,h1,h2,h3,h4,h5⟩:=h;exact⟨v,h1,h2,by omega,fun k hk hk'=>(hb k hk hk').trans (h4 k hk hk'),h5⟩
theorem RTH.below {hi:Nat} (h:RTH lo hi w X c zs ps ks f d r) (b:Below w.heap.size w w'):RTH lo hi w' X c zs ps ks f d r:=h.keep b.size (fun k _ hk=>b.block k (by obtain⟨v,h1,h2,h3,_⟩:=h;omega))
theorem RTH.rtq {hi:Nat} (h:RTH lo hi w X c zs ps ks f d r):RTQ lo w X c zs ps ks f d r:=by
 obtain⟨v,h1,h2,h3,h4,h5⟩:=h;exact h5.keep (by omega) (fun k hk hk'=>h4 k hk (by omega))
set_option maxRecDepth 100000 in
set_option maxHeartbeats 4000000 in
theorem mkRQ_any {hi:Nat} (h:RTH lo hi w X c zs ps ks f d r) (hb:ImLe r) (hs:zs.length+ps.length+pSum ps+ks.length≤500000) :
  Calls Tryz.prog 21 #[.agg X,.int .i64 1] w fun e w'=>e=.returned (.int .i64 (gQ zs ps ks r))∧RMk w' X c zs ps ks f d r∧Below lo w w'∧∀ j,hi≤j→j<w.heap.size→w'.heap[j]?=w.heap[j]?:=by
 obtain⟨v,rfl,h2,h3,h4,C,e,g⟩:=h;have HX:Hid (XR X c C):=by rw[e];exact XR.of
 have HZ:Hid (C.size=16):=g.row.1;have HSG:Hid ((Tryz.prog.info? 48).map (·.size)=some C.toList.length):=by show _=_;rw[Array.length_toList,HZ.out];kernel_rfl
 have HB0:Hid (OE w 50 X (w.alloc (.cells X 50))):=OE.start _ _ _;have HC:Hid (∀ ww,Below w.heap.size w ww→Calls Tryz.prog 61 #[.agg C,.int .i64 1] ww fun e w'=>e=.returned (.int .i64 (gQ zs ps ks r))∧GMk w' C zs ps ks f d r∧Below lo ww w'∧∀ j,v.heap.size≤j→j<ww.heap.size→w'.heap[j]?=ww.heap[j]?):=fun ww b=>mkQ_any g h2 (Nat.le_trans h3 b.size) (fun k hk hk'=>(b.block k (by omega)).trans (h4 k hk hk')) hb hs
 have HLO:Hid (lo≤w.heap.size):=Nat.le_trans h2 h3;clear e g h2 h3 h4 hb hs;generalize gQ zs ps ks r=K3 at *;go_enter Tryz.func21,Tryz.ntmps21
 go_upto_region 1 with fail
 generalize w.alloc (.cells X 50)=w0 at *;have HT:Hid (w0.rangeAt w.heap.size 1 C.toList):=HX.out.range HB0.out.b0;go_wp2_with (first
  |(refine wpList_load_mid rfl 48 (.tmp 5) rfl w.heap.size 1 rfl C.toList _ HT.out Tryz.underlying48 rfl HSG.out ?_)
  |fail)
 refine(HC.out w0 HB0.out.below).mono ?_;rintro e w1 ⟨rfl,g1,b1,j1⟩;have HF:Hid (GMk w1 C zs ps ks f d r∧Below lo w w1∧∀ j,v.heap.size≤j→j<w.heap.size→w1.heap[j]?=w.heap[j]?):=⟨g1,(HB0.out.below.mono HLO.out).trans b1,fun j hj hl=>by rw[j1 j hj (by have:=HB0.out.below.size;omega),HB0.out.below.block j hl]⟩
 clear g1 b1 j1 HT HB0;go_wp2_with fail
 go_ret
 exact⟨rfl,⟨C,HX.out,HZ.out,HF.out.1⟩,HF.out.2.1,HF.out.2.2⟩
set_option maxRecDepth 100000 in
set_option maxHeartbeats 4000000 in
theorem hdRQ_any (h:RMk w X c zs ps ks f d r) (hb:ImLe r) (hs:zs.length+ps.length+pSum ps+ks.length≤500000) :
  Calls Tryz.prog 22 #[.agg X,.int .i64 1] w fun e w'=>e=.returned (.int .i64 (gQ zs ps ks r))∧Below w.heap.size w w':=by
 obtain⟨C,hx,hz,g⟩:=h;have HX:=hid_of hx;have HSG:Hid ((Tryz.prog.info? 48).map (·.size)=some C.toList.length):=by show _=_;rw[Array.length_toList,hz];kernel_rfl
 have HB0:Hid (OE w 50 X (w.alloc (.cells X 50))):=OE.start _ _ _;have HC:Hid (∀ ww,Below w.heap.size w ww→Calls Tryz.prog 62 #[.agg C,.int .i64 1] ww fun e w'=>e=.returned (.int .i64 (gQ zs ps ks r))∧Below ww.heap.size ww w'):=fun ww b=>hdQ_any (g.below b) hb hs
 have n3:¬ gQ zs ps ks r<0:=gQ_pos _ _ _ _;clear hx hz g hb hs;generalize gQ zs ps ks r=K3 at *;go_enter Tryz.func22,Tryz.ntmps22
 go_upto_region 1 with fail
 generalize w.alloc (.cells X 50)=w0 at *;have HT:Hid (w0.rangeAt w.heap.size 1 C.toList):=HX.out.range HB0.out.b0;go_wp2_with (first
  |(refine wpList_load_mid rfl 48 (.tmp 5) rfl w.heap.size 1 rfl C.toList _ HT.out Tryz.underlying48 rfl HSG.out ?_)
  |fail)
 refine(HC.out w0 HB0.out.below).mono ?_;rintro e w1 ⟨rfl,b1⟩;have HF:Hid (Below w.heap.size w w1):=(HB0.out.call b1).below;clear b1 HT HB0 HC;go_wp2_with fail
 go_ret
 exact⟨rfl,HF.out⟩
end
end Go.Proofs.YthmeoilbmfdhfaaGreat
