import Derived.Test.YthmeoilbmfdhfaaGreatRcI
open Go.Value renaming slice->UD,int->UE,bool->UF,agg->UN
open Go.IntKind renaming i64->UO,u32->UG
open Go.Obj renaming cells->UP
open Go.Ending renaming returned->UQ
open Option renaming some->UI
open Go renaming World->UK,Value->UL
namespace Go.Proofs.YthmeoilbmfdhfaaGreat
set_option maxHeartbeats 4000000
set_option maxRecDepth 100000
open Go.ChangeShapes Go.WideShapes Go.ChangeAt Go.RowKit
set_option linter.unusedVariables false
theorem MJ (a:Option Addr) (n cap:Nat) (ps:List PD) (k:Int) (w:UK) (h:FY w a (Ex k ps)) (hl:ps.length=n) (hk:0<=k) (hk':k+n+Db ps<=1099511627776) :
  Calls Tryz.prog 151 #[UD a n cap,UE UO k] w λe w'=>e=UQ (UE UO (k+n+Db ps))/\w'=w:=by
 go_enter Tryz.func151,Tryz.ntmps151;go_wp2
 go_loop [1,5] (λq i=>∃ j:Nat,j<=n/\i=UE UO j/\q=UE UO (Gp k ps j)) (λ_ i=>n-(intOf i).toNat)
 case atStart=>exact⟨0,Aj _,rfl,by rw[Kq]⟩
 case round=>
  obtain⟨j,hj,rfl,rfl⟩:=hrel;have hkb:=Jz k ps j AK;by_cases hlt:j<n
  ·have hsucc:=Kr k ps j AK;have hkb2:=Jz k ps (j+1) AK;obtain⟨b,off,rfl,hb,hc⟩:=h.get (by rw[Ey];omega);obtain⟨x,c,h1,h2,h3⟩:=hc j (by rw[Ey];omega);rw[Iw k ps j AK] at h1 h2 h3;simp only[EH] at h2;have HSUC:AP _:=hsucc;have HA:AP _:=h3;clear hc h hsucc h3;generalize Gp k ps j=q at *;generalize (ps.getD j (0,[])).2.length=m at *;have hr:q+1+(m:Int)=Gp k ps (j+1):=HSUC.o.symm;have e1:(q != q)=false:=AM
   have e2:¬ (Gp k ps (j+1)<0):=AK
   go_wp2_with fail;refine(IR x m c (q+1) w HA.o AK AK).mono ?_;rintro e w2 ⟨rfl,rfl⟩;rw[hr];clear hr;go_wp2
   go_round
   case rel=>exact⟨j+1,AK,by go_num,rfl⟩
   case measure=>simp[intOf];omega
  ·have hjn:j=ps.length:=AK
   subst hjn;have hall:=MU k ps;rw[hall];go_wp2
   go_ret
   exact⟨DW AK,rfl⟩
theorem N7 (v:UL) (zs:List Int) (ps:List PD) (f:Int) (d:Bool) (k:Int) (w:UK) (h:Ei w v (EU k zs.length) (Ex (k+zs.length) ps) f d) (hk:0<=k) (hk':k+zs.length+ps.length+Db ps<=1099511627776) :
  Calls Tryz.prog 111 #[v,UE UO k] w λe w'=>e=UQ (UE UO (k+zs.length+ps.length+Db ps))/\Below w.heap.size w w':=by
 obtain⟨a,c,x,cx,rfl,hA,hP,_⟩:=h;rw[EH,Ey];generalize hL:zs.length=L at *;generalize hm:ps.length=m at *;have hb:=(Ad w.heap.size w).alloc Cw (UP #[UD a L c,UD x m cx,UE UO f,UF d] 40);have HA1:AP _:=hA.below hb;have HP1:AP _:=hP.below hb;have HB:AP _:=hb;have t1:¬ (k+(L:Int)<0):=AK
 have t2:¬ (k+(L:Int)+m+Db ps<0):=AK
 clear hA hP hb;go_enter Tryz.func111,Tryz.ntmps111;go_wp2_with fail;refine(IR a L c k _ HA1.o hk AK).mono ?_;rintro e w2 ⟨rfl,rfl⟩;go_wp2_with fail;refine(MJ x m cx ps (k+L) _ HP1.o hm AK AK).mono ?_;rintro e w2 ⟨rfl,rfl⟩;go_wp2
 go_ret
 exact⟨rfl,HB.o⟩
structure XR (X:Array UL) (c:Int) (C:Array UL):Prop where
 x0:X[0]?=UI (UE UO c)
 xs:∀ j:Nat,X[1+j]?=C[j]?
theorem XR.of {c:Int} {C:Array UL}:XR (#[UE UO c]++C) c C:=⟨by
 rw[Array.getElem?_append_left (show 0<(#[UE UO c]:Array UL).size from Nat.one_pos)];rfl,λj=>by
 rw[Array.getElem?_append_right (show(#[UE UO c]:Array UL).size<=1+j by show 1<=1+j;omega)];show C[1+j-1]?=C[j]?
 rw[Bt]⟩
theorem XR.range {X C:Array UL} {c:Int} (h:XR X c C) {w:UK} {b:Nat} {t:TypeId} {fr:Nat×Nat} (hr:w.heap[b]?=UI (UP X t fr)):w.rangeAt b 1 C.toList:=λj v hv=>by
 rw[AA hr (1+j),h.xs,<-Array.getElem?_toList];exact hv
theorem Rh {X X' C C':Array UL} {c:Int} {zs ks:List Int} {ps:List PD} {f:Int} {d:Bool} {r:Dt} {w:UK} (e:X=#[UE UO c]++C) (g:Mo w (UN C) zs ps f d ks r) (s:C.size=16) (e':X'=#[UE UO c]++C') (g':Mo w (UN C') zs ps f d ks r) (s':C'.size=16) (hb:TH zs ps ks r) :
  Calls Tryz.prog 18 #[UN X,UN X'] w λe w'=>e=UQ (UF true)/\Below w.heap.size w w':=by
 have HX:AP (XR X c C/\XR X' c C'):=⟨by rw[e];exact XR.of,by rw[e'];exact XR.of⟩
 have HG:AP (Mo w (UN C) zs ps f d ks r/\Mo w (UN C') zs ps f d ks r/\TH zs ps ks r/\C.size=16/\C'.size=16):=⟨g,g',hb,s,s'⟩
 have HSG:AP (∀ cs:Array UL,cs.size=16->(Tryz.prog.info? 48).map (·.size)=UI cs.toList.length):=λcs h=>by rw[Array.length_toList,h];kernel_rfl
 have HE0:AP (BE w 50 X X' ((w.alloc (UP X 50)).alloc (UP X' 50))):=BE.start _ _ _ _;clear e e' g g' hb s s';go_enter Tryz.func18,Tryz.ntmps18
 go_upto_region 1 with fail
 generalize (w.alloc (UP X 50)).alloc (UP X' 50)=w0 at *;have x0:w0.cell? ⟨w.heap.size,0,none⟩=UI (UE UO c):=by rw[AA HE0.o.b0 _];exact HX.o.1.x0
 have y0:w0.cell? ⟨w.heap.size+1,0,none⟩=UI (UE UO c):=by rw[AA HE0.o.b1 _];exact HX.o.2.x0
 have HT:AP (w0.rangeAt w.heap.size 1 C.toList/\w0.rangeAt (w.heap.size+1) 1 C'.toList):=⟨HX.o.1.range HE0.o.b0,HX.o.2.range HE0.o.b1⟩
 go_wp2_with (first
  |(refine wpList_load_mid rfl 48 (.tmp 10) rfl w.heap.size 1 rfl C.toList _ HT.o.1 Tryz.underlying48 rfl (HSG.o _ HG.o.2.2.2.1) ?_)
  |(refine wpList_load_mid rfl 48 (.tmp 12) rfl (w.heap.size+1) 1 rfl C'.toList _ HT.o.2 Tryz.underlying48 rfl (HSG.o _ HG.o.2.2.2.2) ?_)
  |fail)
 refine(RK (UN C) (UN C') zs ps f d ks r w0 (HG.o.1.below HE0.o.below) (HG.o.2.1.below HE0.o.below) HG.o.2.2.1).mono ?_;rintro e w1 ⟨rfl,b1⟩;have HF:AP (Below w.heap.size w w1):=(HE0.o.call b1).below;clear x0 y0 HT HE0 b1;go_wp2_with fail
 go_ret
 exact⟨rfl,HF.o⟩
section
variable {lo:Nat} {w v w':UK} {C X:Array UL} {zs ks:List Int} {ps:List PD} {f c:Int} {d:Bool} {r:Dt}
def gD (zs:List Int) (ps:List PD):Int:=1+zs.length+ps.length+Db ps
def gQ (zs:List Int) (ps:List PD) (ks:List Int) (r:Dt):Int:=gD zs ps+ks.length+r.sD.length+r.sU.length+r.F.length+r.D.length+r.U.length+r.n*2
theorem MK (zs:List Int) (ps:List PD) (ks:List Int) (r:Dt):¬ gQ zs ps ks r<0:=by unfold gQ gD;omega
def Ri (w:UK) (C:Array UL) (zs:List Int) (ps:List PD) (ks:List Int) (f:Int) (d:Bool) (r:Dt):Prop:=∃ da dc ca cc ka kc aSD nSD cSD aSU nSU cSU aF mF cF aD nD cD aU nU cU aT cT,C=#[UD da zs.length dc,UD ca ps.length cc,UE UO f,UF d,UD ka ks.length kc,UF r.ok,UE UG r.g,UE UG r.t,UD aSD nSD cSD,UD aSU nSU cSU,UD aF mF cF,UD aD nD cD,UD aU nU cU,UE UO r.k,UD aT r.n cT,UE UG r.nx]/\zs.length<=dc/\At .u8 w da (EU 1 zs.length)/\FY w ca (Ex (1+zs.length) ps)/\At .u8 w ka (EU (gD zs ps) ks.length)/\TW w aSD aSU aF aD aU aT nSD nSU mF nD nU r.n (gD zs ps+ks.length)/\r.sD.length=nSD/\r.sU.length=nSU/\r.F.length=mF*4/\r.D.length=nD/\r.U.length=nU
theorem JM.nf (h:JM lo w C zs ps ks f d r) (hl:lo<=w.heap.size):∃ da dc ca cc ka kc aSD nSD cSD aSU nSU cSU aF mF cF aD nD cD aU nU cU aT cT B U,C=#[UD da zs.length dc,UD ca ps.length cc,UE UO f,UF d,UD ka ks.length kc,UF r.ok,UE UG r.g,UE UG r.t,UD aSD nSD cSD,UD aSU nSU cSU,UD aF mF cF,UD aD nD cD,UD aU nU cU,UE UO r.k,UD aT r.n cT,UE UG r.nx]/\zs.length<=dc/\EF lo w da zs/\EF lo w ka ks/\(r.sD.length=nSD/\r.sU.length=nSU/\r.F.length=mF*4/\r.D.length=nD/\r.U.length=nU)/\GX lo w r da ka aSD aSU aF aD aU aT nSD nSU mF nD nU/\Dq B U w ca ps/\(lo<=B/\U<=w.heap.size)/\(∀ ad,da=UI ad->ad.block<B)/\(∀ ad,ka=UI ad->ad.block<B)/\∀ j,B<=j->N6 j aSD aSU aF aD aU aT:=by
 obtain⟨da,dc,ca,cc,ka,kc,aSD,nSD,cSD,aSU,nSU,cSU,aF,mF,cF,aD,nD,cD,aU,nU,cU,aT,cT,B,U,e,⟨h1,_⟩,h2,h3,⟨_,_,_,_,_,_,e1,e2,e3,e4,e5,_⟩,h5,h8,h9,h10,h11⟩:=h;by_cases hp:ps=[]
 ·subst hp;have hx:=h5;obtain⟨⟨b1,b2,g⟩,_⟩:=hx;exact⟨da,dc,ca,cc,ka,kc,aSD,nSD,cSD,aSU,nSU,cSU,aF,mF,cF,aD,nD,cD,aU,nU,cU,aT,cT,w.heap.size,w.heap.size,e,h1,h2,h3,⟨e1,e2,e3,e4,e5⟩,h5,.inl rfl,⟨hl,AY _⟩,λad e=>(h2.2.2 ad e).2,λad e=>(h3.2.2 ad e).2,GL.n6 g.l6⟩
 ·exact⟨da,dc,ca,cc,ka,kc,aSD,nSD,cSD,aSU,nSU,cSU,aF,mF,cF,aD,nD,cD,aU,nU,cU,aT,cT,B,U,e,h1,h2,h3,⟨e1,e2,e3,e4,e5⟩,h5,h8,⟨h9,h10⟩,h11 hp⟩
theorem Rj (h:JM lo v C zs ps ks f d r) (hl:lo<=v.heap.size) (hv:v.heap.size<=w.heap.size) (hvb:∀ k,lo<=k->k<v.heap.size->w.heap[k]?=v.heap[k]?) (hb:Eu r) (hs:zs.length+ps.length+Db ps+ks.length<=500000) :
  Calls Tryz.prog 61 #[UN C,UE UO 1] w λe w'=>e=UQ (UE UO (gQ zs ps ks r))/\Ri w' C zs ps ks f d r/\Below lo w w'/\∀ j,v.heap.size<=j->j<w.heap.size->w'.heap[j]?=w.heap[j]?:=by
 obtain⟨da,dc,ca,cc,ka,kc,aSD,nSD,cSD,aSU,nSU,cSU,aF,mF,cF,aD,nD,cD,aU,nU,cU,aT,cT,B,U,rfl,hdc,mD,mK,⟨e1,e2,e3,e4,e5⟩,⟨⟨b1,b2,g⟩,hdk,hkk⟩,hP,⟨hB,hU⟩,hdB,hkB,h6B⟩:=h.nf hl;obtain⟨l1,l2,l3,l4,l5,l6⟩:=hb;have HH:AP ((∀ ad,da=UI ad->ad.block<v.heap.size)/\(∀ ad,ka=UI ad->ad.block<v.heap.size)/\(∀ j,v.heap.size<=j->N6 j aSD aSU aF aD aU aT)/\v.heap.size<=w.heap.size):=⟨λad e=>(mD.2.2 ad e).2,λad e=>(mK.2.2 ad e).2,GL.n6 g.l6,hv⟩
 have HU:AP (lo<=B/\U<=v.heap.size/\(∀ ad,da=UI ad->ad.block<B)/\(∀ ad,ka=UI ad->ad.block<B)/\(∀ j,B<=j->N6 j aSD aSU aF aD aU aT)):=⟨hB,hU,hdB,hkB,h6B⟩
 have HIN:AP (∀ ad,TI ad aSD aSU aF aD aU aT->ad.block<B):=λad i=>CO λh=>(h6B ad.block AK).ne i rfl
 have HB0:AP (OE w 48 #[UD da zs.length dc,UD ca ps.length cc,UE UO f,UF d,UD ka ks.length kc,UF r.ok,UE UG r.g,UE UG r.t,UD aSD nSD cSD,UD aSU nSU cSU,UD aF mF cF,UD aD nD cD,UD aU nU cU,UE UO r.k,UD aT r.n cT,UE UG r.nx] (w.alloc (UP #[UD da zs.length dc,UD ca ps.length cc,UE UO f,UF d,UD ka ks.length kc,UF r.ok,UE UG r.g,UE UG r.t,UD aSD nSD cSD,UD aSU nSU cSU,UD aF mF cF,UD aD nD cD,UD aU nU cU,UE UO r.k,UD aT r.n cT,UE UG r.nx] 48))):=OE.start _ _ _;have HM:AP (EF lo w da zs/\EF lo w ka ks):=⟨mD.keep hv hvb,mK.keep hv hvb⟩
 have HG:AP (I6 lo b1 b2 w aSD aSU aF aD aU aT nSD nSU mF nD nU r.n):=g.keep hv hvb;have HP:AP (Dq B U w ca ps):=hP.keep (λk hk hk'=>hvb k AK AK) hv;have HN:AP ((∀ ad,da=UI ad->DG ad.block ka/\N6 ad.block aSD aSU aF aD aU aT)/\(∀ ad,ka=UI ad->N6 ad.block aSD aSU aF aD aU aT)):=⟨hdk,hkk⟩
 have HE:AP (r.sD.length=nSD/\r.sU.length=nSU/\r.F.length=mF*4/\r.D.length=nD/\r.U.length=nU):=⟨e1,e2,e3,e4,e5⟩
 have HL:AP (nSD<=16/\nSU<=256/\mF*4<=1008/\nD<=16/\nU<=256/\r.n<=256/\zs.length+ps.length+Db ps+ks.length<=500000/\lo<=w.heap.size/\zs.length<=dc):=⟨AK,AK,AK,AK,AK,l6,hs,AK,hdc⟩
 obtain⟨K1,hK1⟩:∃ K1:Int,gD zs ps=K1:=⟨_,rfl⟩
 have HK1':AP (1+(zs.length:Int)+ps.length+Db ps=K1/\0<=K1/\K1+ks.length<=500001):=by rw[<-hK1];unfold gD;exact⟨rfl,AK,AK⟩
 clear mD mK g hdk hkk e1 e2 e3 e4 e5 l1 l2 l3 l4 l5 l6 hs hl hdc hP hB hU hdB hkB h6B hv hvb h;go_enter Tryz.func61,Tryz.ntmps61
 go_upto_region 1 with fail
 generalize w.alloc (UP #[UD da zs.length dc,UD ca ps.length cc,UE UO f,UF d,UD ka ks.length kc,UF r.ok,UE UG r.g,UE UG r.t,UD aSD nSD cSD,UD aSU nSU cSU,UD aF mF cF,UD aD nD cD,UD aU nU cU,UE UO r.k,UD aT r.n cT,UE UG r.nx] 48)=w0 at *;have x0:=AA HB0.o.b0 0;have x1:=AA HB0.o.b0 1;have x2:=AA HB0.o.b0 2;have x3:=AA HB0.o.b0 3;simp at x0 x1 x2 x3;go_wp2_with fail;refine(Oj da ca dc cc zs ps f d 1 B U w0 (HM.o.1.below HB0.o.below).2.1 (λad e=>⟨((HM.o.1.below HB0.o.below).2.2 ad e).2,.inl (HU.o.2.2.1 ad e)⟩) (AJ HU.o HH.o.2.2.2 HB0.o.below.size) (HP.o.below HB0.o.below) AL (AG HL.o)).mono ?_;rintro e w1 ⟨rfl,aD1,pD1,k1⟩;rw[HK1'.o.1];have hS:∀ {a:Option Addr} {y:List Int},EF lo w a y->DG w.heap.size a:=λm ad e=>AG (m.2.2 ad e).2
 have HUW:AP (U<=w.heap.size):=by have:=HU.o;have:=HH.o.2.2.2;show _<=_;omega
 have HR1:AP (w1.heap[w.heap.size]?=UI (UP #[UD da zs.length dc,UD ca ps.length cc,UE UO f,UF d,UD ka ks.length kc,UF r.ok,UE UG r.g,UE UG r.t,UD aSD nSD cSD,UD aSU nSU cSU,UD aF mF cF,UD aD nD cD,UD aU nU cU,UE UO r.k,UD aT r.n cT,UE UG r.nx] 48 (0,0))):=by show _=_;rw[k1.block _ HB0.o.lt ⟨hS HM.o.1,.inr HUW.o⟩];exact HB0.o.b0
 have oK:Df w1 ka ks.length:=(HM.o.2.below HB0.o.below).2.1.keep (λad e=>k1.block _ (AG ((HM.o.2.below HB0.o.below).2.2 ad e).2) ⟨λdd ed h=>(HN.o.1 dd ed).1 ad e h.symm,.inl (HU.o.2.2.2.1 ad e)⟩) k1.size;have HO1:=DQ oK;have HA1:=DQ (Ac aD1 pD1);have HK1:=DQ k1;have HS:=DQ (Ac (hS HM.o.1) (hS HM.o.2));clear x0 x1 x2 x3;clear aD1 pD1 k1 oK hS;have x4:=AA HR1.o 4;simp at x4;go_wp2_with fail;refine(Gm ka ks.length kc K1 w1 HO1.o HK1'.o.2.1 (AG HK1'.o)).mono ?_;rintro e w2 ⟨rfl,aK2,wr2⟩;have k2:Kp (λj=>DG j ka) w1 w2:=⟨wr2.os,wr2.tape,wr2.output,Aw wr2.size.symm,λj hj hn=>wr2.block j (λad e h=>hn ad e h)⟩
 have HR2:AP (w2.heap[w.heap.size]?=UI (UP #[UD da zs.length dc,UD ca ps.length cc,UE UO f,UF d,UD ka ks.length kc,UF r.ok,UE UG r.g,UE UG r.t,UD aSD nSD cSD,UD aSU nSU cSU,UD aF mF cF,UD aD nD cD,UD aU nU cU,UE UO r.k,UD aT r.n cT,UE UG r.nx] 48 (0,0))):=by show _=_;rw[k2.block _ (AQ.1 HR1.o).1 HS.o.2];exact HR1.o
 have g0:=HG.o.below HB0.o.below;have g1:I6 lo b1 b2 w1 aSD aSU aF aD aU aT nSD nSU mF nD nU r.n:=g0.keep6 HK1.o.size (λad i=>HK1.o.block _ (g0.in6 i).2 ⟨λdd ed h=>(HN.o.1 dd ed).2.ne i h.symm,.inl (HIN.o ad i)⟩);have g2:I6 lo b1 b2 w2 aSD aSU aF aD aU aT nSD nSU mF nD nU r.n:=g1.keep6 k2.size (λad i=>k2.block _ (g1.in6 i).2 (λdd ed h=>(HN.o.2 dd ed).ne i h.symm));have d2:At .u8 w2 da (EU 1 zs.length):=HA1.o.1.keep (λad e=>k2.block _ (Ax ((HM.o.1.below HB0.o.below).2.2 ad e).2 HK1.o.size) ((HN.o.1 ad e).1)) k2.size;have HG2:=DQ g2;have HA2:=DQ (Ac d2 aK2);have HK2:=DQ k2;clear x4 aK2 wr2 k2 g0 g1 g2 d2;have x5:=AA HR2.o 5;have x6:=AA HR2.o 6;have x7:=AA HR2.o 7;have x8:=AA HR2.o 8;have x9:=AA HR2.o 9;have x10:=AA HR2.o 10;have x11:=AA HR2.o 11;have x12:=AA HR2.o 12;have x13:=AA HR2.o 13;have x14:=AA HR2.o 14;have x15:=AA HR2.o 15;simp at x5 x6 x7 x8 x9 x10 x11 x12 x13 x14 x15;go_wp2_with fail;refine(Nn r.ok r.g r.t aSD aSU aF aD aU aT nSD cSD nSU cSU mF cF nD cD nU cU r.n cT r.k r.nx (K1+ks.length) w2 HG2.o (by have:=HL.o;have:=HB0.o.below.size;have:=HK1.o.size;have:=HK2.o.size;omega) (AG HK1'.o) (AI HL.o HK1'.o)).mono ?_;rintro e w3 ⟨rfl,p1,p2,p3⟩;have sz0:=HB0.o.below.size;have sz1:=HK1.o.size;have sz2:=HK2.o.size;have hd3:At .u8 w3 da (EU 1 zs.length):=HA2.o.1.keep (λad e=>by
  obtain⟨_,n1,n2,n3,n4,n5,n6⟩:=HN.o.1 ad e;exact p3 _ (AG ((HM.o.1.below HB0.o.below).2.2 ad e).2) n1 n2 n3 n4 n5 n6) p2.size
 have hk3:At .u8 w3 ka (EU K1 ks.length):=HA2.o.2.keep (λad e=>by
  obtain⟨n1,n2,n3,n4,n5,n6⟩:=HN.o.2 ad e;exact p3 _ (AG ((HM.o.2.below HB0.o.below).2.2 ad e).2) n1 n2 n3 n4 n5 n6) p2.size
 have hp3:FY w3 ca (Ex (1+zs.length) ps):=HA1.o.2 w3 (AG p2.size) (λj hj hj'=>by
  obtain⟨n1,n2,n3,n4,n5,n6⟩:=HU.o.2.2.2.2 j hj;have:=HUW.o;rw[p3 j AK n1 n2 n3 n4 n5 n6,HK2.o.block j AK (λad e h=>AG (HU.o.2.2.2.1 ad e))])
 have HF:AP (Ri w3 #[UD da zs.length dc,UD ca ps.length cc,UE UO f,UF d,UD ka ks.length kc,UF r.ok,UE UG r.g,UE UG r.t,UD aSD nSD cSD,UD aSU nSU cSU,UD aF mF cF,UD aD nD cD,UD aU nU cU,UE UO r.k,UD aT r.n cT,UE UG r.nx] zs ps ks f d r):=⟨da,dc,ca,cc,ka,kc,aSD,nSD,cSD,aSU,nSU,cSU,aF,mF,cF,aD,nD,cD,aU,nU,cU,aT,cT,rfl,HL.o.2.2.2.2.2.2.2.2,hd3,hp3,by rw[hK1];exact hk3,by rw[hK1];exact p1,HE.o⟩
 have HBW:AP (Below lo w w3):=by
  have hlo:=HL.o.2.2.2.2.2.2.2.1;have q1:Below lo w0 w1:=HK1.o.below AK (λj hj=>⟨λad e h=>AG (HM.o.1.2.2 ad e).1,.inl (AG HU.o.1)⟩);have q2:Below lo w1 w2:=HK2.o.below AK (λj hj ad e h=>AG (HM.o.2.2.2 ad e).1);exact((HB0.o.below.mono hlo).trans q1).trans (q2.trans p2)
 have HJ:AP (∀ j,v.heap.size<=j->j<w.heap.size->w3.heap[j]?=w.heap[j]?):=λj hj hl=>by
  obtain⟨n1,n2,n3,n4,n5,n6⟩:=HH.o.2.2.1 j hj;rw[p3 j AK n1 n2 n3 n4 n5 n6,HK2.o.block j AK (λad e h=>AG (HH.o.2.1 ad e)),HK1.o.block j AK ⟨λad e h=>AG (HH.o.1 ad e),.inr (AG HU.o.2.1)⟩,HB0.o.below.block j hl]
 have HK:AP (K1+ks.length+nSD+nSU+mF*4+nD+nU+r.n*2=gQ zs ps ks r):=by
  obtain⟨e1,e2,e3,e4,e5⟩:=HE.o;show _=_;unfold gQ;rw[hK1];omega
 clear x5 x6 x7 x8 x9 x10 x11 x12 x13 x14 x15;clear p1 p2 p3 hd3 hk3 hp3 HE;rw[HK.o];go_wp2_with fail
 go_ret
 exact⟨rfl,HF.o,HBW.o,HJ.o⟩
theorem Rk (h:Ri w C zs ps ks f d r) (hb:Eu r) (hs:zs.length+ps.length+Db ps+ks.length<=500000) :
  Calls Tryz.prog 62 #[UN C,UE UO 1] w λe w'=>e=UQ (UE UO (gQ zs ps ks r))/\Below w.heap.size w w':=by
 obtain⟨da,dc,ca,cc,ka,kc,aSD,nSD,cSD,aSU,nSU,cSU,aF,mF,cF,aD,nD,cD,aU,nU,cU,aT,cT,rfl,hdc,a1,a0,a2,a3,e1,e2,e3,e4,e5⟩:=h;obtain⟨l1,l2,l3,l4,l5,l6⟩:=hb;have HB0:AP (OE w 48 #[UD da zs.length dc,UD ca ps.length cc,UE UO f,UF d,UD ka ks.length kc,UF r.ok,UE UG r.g,UE UG r.t,UD aSD nSD cSD,UD aSU nSU cSU,UD aF mF cF,UD aD nD cD,UD aU nU cU,UE UO r.k,UD aT r.n cT,UE UG r.nx] (w.alloc (UP #[UD da zs.length dc,UD ca ps.length cc,UE UO f,UF d,UD ka ks.length kc,UF r.ok,UE UG r.g,UE UG r.t,UD aSD nSD cSD,UD aSU nSU cSU,UD aF mF cF,UD aD nD cD,UD aU nU cU,UE UO r.k,UD aT r.n cT,UE UG r.nx] 48))):=OE.start _ _ _;obtain⟨K1,hK1⟩:∃ K1:Int,gD zs ps=K1:=⟨_,rfl⟩
 obtain⟨K2,hK2⟩:∃ K2:Int,K2=K1+ks.length:=⟨_,rfl⟩
 have hk1:1+(zs.length:Int)+ps.length+Db ps=K1:=hK1;rw[hK1] at a2 a3;have hK3:K2+nSD+nSU+mF*4+nD+nU+r.n*2=gQ zs ps ks r:=by unfold gQ;omega
 have n1:¬ K1<0:=AK
 have n2:¬ K2<0:=AK
 have n3:¬ gQ zs ps ks r<0:=MK _ _ _ _;have HD:AP (∀ ww,Below w.heap.size w ww->Calls Tryz.prog 111 #[UN #[UD da zs.length dc,UD ca ps.length cc,UE UO f,UF d],UE UO 1] ww λe w'=>e=UQ (UE UO K1)/\Below ww.heap.size ww w'):=λww b=>by
  refine(N7 _ zs ps f d 1 ww ⟨da,dc,ca,cc,by rw[EH,Ey],a1.below b,a0.below b,by rw[EH];exact hdc⟩ AL AK).mono ?_;rintro e w' ⟨rfl,h⟩;exact⟨by rw[hk1],h⟩
 have HK:AP (∀ ww,Below w.heap.size w ww->Calls Tryz.prog 112 #[UD ka ks.length kc,UE UO K1] ww λe w'=>e=UQ (UE UO K2)/\w'=ww):=λww b=>by
  rw[hK2];exact IR ka ks.length kc K1 ww (a2.below b) AK AK
 have HI:AP (∀ ww,Below w.heap.size w ww->Calls Tryz.prog 14 #[UN #[UF r.ok,UE UG r.g,UE UG r.t,UD aSD nSD cSD,UD aSU nSU cSU,UD aF mF cF,UD aD nD cD,UD aU nU cU,UE UO r.k,UD aT r.n cT,UE UG r.nx],UE UO K2] ww λe w'=>e=UQ (UE UO (gQ zs ps ks r))/\Below ww.heap.size ww w'):=λww b=>by
  rw[<-hK3];obtain⟨i1,i2,i3,i4,i5,i6⟩:=a3;refine No r.ok r.g r.t aSD aSU aF aD aU aT nSD cSD nSU cSU mF cF nD cD nU cU r.n cT r.k r.nx K2 ww ?_ AK AK;rw[hK2];exact⟨i1.below b,i2.below b,FC.below i3 b,i4.below b,i5.below b,i6.below b⟩
 clear a0 a1 a2 a3 e1 e2 e3 e4 e5 l1 l2 l3 l4 l5 l6 hK1 hk1 hK2 hK3 hs hdc;generalize gQ zs ps ks r=K3 at *;go_enter Tryz.func62,Tryz.ntmps62
 go_upto_region 1 with fail
 generalize w.alloc (UP #[UD da zs.length dc,UD ca ps.length cc,UE UO f,UF d,UD ka ks.length kc,UF r.ok,UE UG r.g,UE UG r.t,UD aSD nSD cSD,UD aSU nSU cSU,UD aF mF cF,UD aD nD cD,UD aU nU cU,UE UO r.k,UD aT r.n cT,UE UG r.nx] 48)=w0 at *;have x0:=AA HB0.o.b0 0;have x1:=AA HB0.o.b0 1;have x2:=AA HB0.o.b0 2;have x3:=AA HB0.o.b0 3;simp at x0 x1 x2 x3;go_wp2_with fail;refine(HD.o w0 HB0.o.below).mono ?_;rintro e w1 ⟨rfl,b1⟩;have HB1:AP (OE w 48 #[UD da zs.length dc,UD ca ps.length cc,UE UO f,UF d,UD ka ks.length kc,UF r.ok,UE UG r.g,UE UG r.t,UD aSD nSD cSD,UD aSU nSU cSU,UD aF mF cF,UD aD nD cD,UD aU nU cU,UE UO r.k,UD aT r.n cT,UE UG r.nx] w1):=HB0.o.call b1;clear x0 x1 x2 x3;clear b1 HB0 HD;have x4:=AA HB1.o.b0 4;simp at x4;go_wp2_with fail;refine(HK.o w1 HB1.o.below).mono ?_;rintro e w2 ⟨rfl,h2⟩;subst h2;clear x4 HK;have x5:=AA HB1.o.b0 5;have x6:=AA HB1.o.b0 6;have x7:=AA HB1.o.b0 7;have x8:=AA HB1.o.b0 8;have x9:=AA HB1.o.b0 9;have x10:=AA HB1.o.b0 10;have x11:=AA HB1.o.b0 11;have x12:=AA HB1.o.b0 12;have x13:=AA HB1.o.b0 13;have x14:=AA HB1.o.b0 14;have x15:=AA HB1.o.b0 15;simp at x5 x6 x7 x8 x9 x10 x11 x12 x13 x14 x15;go_wp2_with fail;refine(HI.o w2 HB1.o.below).mono ?_;rintro e w3 ⟨rfl,b3⟩;have HF:AP (Below w.heap.size w w3):=(HB1.o.call b3).below;clear x5 x6 x7 x8 x9 x10 x11 x12 x13 x14 x15;clear b3 HB1 HI;go_wp2_with fail
 go_ret
 exact⟨rfl,HF.o⟩
def T2 (w:UK) (X:Array UL) (c:Int) (zs:List Int) (ps:List PD) (ks:List Int) (f:Int) (d:Bool) (r:Dt):Prop:=∃ C,XR X c C/\C.size=16/\Ri w C zs ps ks f d r
theorem Ri.below (h:Ri w C zs ps ks f d r) (b:Below w.heap.size w w'):Ri w' C zs ps ks f d r:=by
 obtain⟨da,dc,ca,cc,ka,kc,aSD,nSD,cSD,aSU,nSU,cSU,aF,mF,cF,aD,nD,cD,aU,nU,cU,aT,cT,e,hdc,a1,a0,a2,⟨i1,i2,i3,i4,i5,i6⟩,h⟩:=h;exact⟨da,dc,ca,cc,ka,kc,aSD,nSD,cSD,aSU,nSU,cSU,aF,mF,cF,aD,nD,cD,aU,nU,cU,aT,cT,e,hdc,a1.below b,a0.below b,a2.below b,⟨i1.below b,i2.below b,FC.below i3 b,i4.below b,i5.below b,i6.below b⟩,h⟩
def N8 (lo hi:Nat) (w:UK) (X:Array UL) (c:Int) (zs:List Int) (ps:List PD) (ks:List Int) (f:Int) (d:Bool) (r:Dt):Prop:=∃ v:UK,v.heap.size=hi/\lo<=hi/\hi<=w.heap.size/\(∀ k,lo<=k->k<hi->w.heap[k]?=v.heap[k]?)/\IW lo v X c zs ps ks f d r
theorem N8.start (h:IW lo w X c zs ps ks f d r) (hl:lo<=w.heap.size):N8 lo w.heap.size w X c zs ps ks f d r:=⟨w,rfl,hl,AY _,λ_ _ _=>rfl,h⟩
theorem N8.keep {hi:Nat} (h:N8 lo hi w X c zs ps ks f d r) (hs:w.heap.size<=w'.heap.size) (hb:∀ k,lo<=k->k<hi->w'.heap[k]?=w.heap[k]?):N8 lo hi w' X c zs ps ks f d r:=by
 obtain⟨v,h1,h2,h3,h4,h5⟩:=h;exact⟨v,h1,h2,AK,λk hk hk'=>(hb k hk hk').trans (h4 k hk hk'),h5⟩
theorem N8.below {hi:Nat} (h:N8 lo hi w X c zs ps ks f d r) (b:Below w.heap.size w w'):N8 lo hi w' X c zs ps ks f d r:=h.keep b.size (λk _ hk=>b.block k (by obtain⟨v,h1,h2,h3,_⟩:=h;omega))
theorem N8.rtq {hi:Nat} (h:N8 lo hi w X c zs ps ks f d r):IW lo w X c zs ps ks f d r:=by
 obtain⟨v,h1,h2,h3,h4,h5⟩:=h;exact h5.keep AK (λk hk hk'=>h4 k hk AK)
theorem Py {hi:Nat} (h:N8 lo hi w X c zs ps ks f d r) (hb:Eu r) (hs:zs.length+ps.length+Db ps+ks.length<=500000) :
  Calls Tryz.prog 21 #[UN X,UE UO 1] w λe w'=>e=UQ (UE UO (gQ zs ps ks r))/\T2 w' X c zs ps ks f d r/\Below lo w w'/\∀ j,hi<=j->j<w.heap.size->w'.heap[j]?=w.heap[j]?:=by
 obtain⟨v,rfl,h2,h3,h4,C,e,g⟩:=h;have HX:AP (XR X c C):=by rw[e];exact XR.of
 have HZ:AP (C.size=16):=g.row.1;have HSG:AP ((Tryz.prog.info? 48).map (·.size)=UI C.toList.length):=by show _=_;rw[Array.length_toList,HZ.o];kernel_rfl
 have HB0:AP (OE w 50 X (w.alloc (UP X 50))):=OE.start _ _ _;have HC:AP (∀ ww,Below w.heap.size w ww->Calls Tryz.prog 61 #[UN C,UE UO 1] ww λe w'=>e=UQ (UE UO (gQ zs ps ks r))/\Ri w' C zs ps ks f d r/\Below lo ww w'/\∀ j,v.heap.size<=j->j<ww.heap.size->w'.heap[j]?=ww.heap[j]?):=λww b=>Rj g h2 (BC h3 b.size) (λk hk hk'=>(b.block k AK).trans (h4 k hk hk')) hb hs
 have HLO:AP (lo<=w.heap.size):=BC h2 h3;clear e g h2 h3 h4 hb hs;generalize gQ zs ps ks r=K3 at *;go_enter Tryz.func21,Tryz.ntmps21
 go_upto_region 1 with fail
 generalize w.alloc (UP X 50)=w0 at *;have HT:AP (w0.rangeAt w.heap.size 1 C.toList):=HX.o.range HB0.o.b0;go_wp2_with (first
  |(refine wpList_load_mid rfl 48 (.tmp 5) rfl w.heap.size 1 rfl C.toList _ HT.o Tryz.underlying48 rfl HSG.o ?_)
  |fail)
 refine(HC.o w0 HB0.o.below).mono ?_;rintro e w1 ⟨rfl,g1,b1,j1⟩;have HF:AP (Ri w1 C zs ps ks f d r/\Below lo w w1/\∀ j,v.heap.size<=j->j<w.heap.size->w1.heap[j]?=w.heap[j]?):=⟨g1,(HB0.o.below.mono HLO.o).trans b1,λj hj hl=>by rw[j1 j hj (AG HB0.o.below.size),HB0.o.below.block j hl]⟩
 clear g1 b1 j1 HT HB0;go_wp2_with fail
 go_ret
 exact⟨rfl,⟨C,HX.o,HZ.o,HF.o.1⟩,HF.o.2.1,HF.o.2.2⟩
theorem Pz (h:T2 w X c zs ps ks f d r) (hb:Eu r) (hs:zs.length+ps.length+Db ps+ks.length<=500000) :
  Calls Tryz.prog 22 #[UN X,UE UO 1] w λe w'=>e=UQ (UE UO (gQ zs ps ks r))/\Below w.heap.size w w':=by
 obtain⟨C,hx,hz,g⟩:=h;have HX:=DQ hx;have HSG:AP ((Tryz.prog.info? 48).map (·.size)=UI C.toList.length):=by show _=_;rw[Array.length_toList,hz];kernel_rfl
 have HB0:AP (OE w 50 X (w.alloc (UP X 50))):=OE.start _ _ _;have HC:AP (∀ ww,Below w.heap.size w ww->Calls Tryz.prog 62 #[UN C,UE UO 1] ww λe w'=>e=UQ (UE UO (gQ zs ps ks r))/\Below ww.heap.size ww w'):=λww b=>Rk (g.below b) hb hs
 have n3:¬ gQ zs ps ks r<0:=MK _ _ _ _;clear hx hz g hb hs;generalize gQ zs ps ks r=K3 at *;go_enter Tryz.func22,Tryz.ntmps22
 go_upto_region 1 with fail
 generalize w.alloc (UP X 50)=w0 at *;have HT:AP (w0.rangeAt w.heap.size 1 C.toList):=HX.o.range HB0.o.b0;go_wp2_with (first
  |(refine wpList_load_mid rfl 48 (.tmp 5) rfl w.heap.size 1 rfl C.toList _ HT.o Tryz.underlying48 rfl HSG.o ?_)
  |fail)
 refine(HC.o w0 HB0.o.below).mono ?_;rintro e w1 ⟨rfl,b1⟩;have HF:AP (Below w.heap.size w w1):=(HB0.o.call b1).below;clear b1 HT HB0 HC;go_wp2_with fail
 go_ret
 exact⟨rfl,HF.o⟩
end
theorem SV {zs:List Int} {f:Int} {r:Dt} {n:Nat} (h:QD zs f r n) (bz:Cu zs) (hg:¬ r.g=4000000000):Io zs.length (KG zs f r):=by
 have hs:=h.snp hg;obtain⟨m,hm,hc⟩:=h.cut;have g0:=h.g0;have t1:=h.t1;have tp:=h.top;have hb:Cu (Le r):=JB hs.1 ⟨AK,AK⟩ ⟨AK,AK⟩;have hl:(Le r).length=128:=Gr;have hv:=h.v;have hz:=hv.1;have hz8:=hv.2.1;unfold KG;exact Io.fin hv bz AK (by rw[Az,hl];rfl) (hb.take _) (by rw[Bj,hl]) (hb.drop _)
theorem P9 {ps:List PD} (h:ps.length<=1) (hp:∀ i,(ps.getD i (0,[])).2.length<=64):Db ps<=64:=by
 match ps,h with
 |[],_=>simp[Db]
 |[p],_=>have:=hp 0;simpa[Db] using this
structure QF (R:RO):Prop where
 z:R.z.length<=16384
 k:R.k.length<=32
 p:R.p.length<=1
 q:∀ i,(R.p.getD i (0,[])).2.length<=64
 r:Eu R.r
theorem QF.no (c:Int):QF (IC c):=⟨by simp[IC],by simp[IC],by simp[IC],by simp[IC],by simp[IC,Et,Eu]⟩
theorem QF.gle {R:RO} (h:QF R):TH R.z R.p R.k R.r:=by
 obtain⟨i1,i2,i3,i4,i5,i6⟩:=h.r;have:=h.z;have:=h.k;have:=h.p;exact⟨AK,AK,λi=>AG (h.q i),AK,AK,AK,AK,AK,AK,AK⟩
theorem QF.sum {R:RO} (h:QF R):R.z.length+R.p.length+Db R.p+R.k.length<=500000:=by
 have:=P9 h.p h.q;have:=h.z;have:=h.k;have:=h.p;omega
theorem SW {zs ks:List Int} {ps:List PD} {f:Int} {d:Bool} (bz:Cu zs):QF (JD zs ps f d ks):=by
 unfold JD;split
 ·rename_i h
  obtain⟨⟨hv,_,rfl⟩,hk⟩:=h;split
  ·rename_i ho
   obtain⟨n,hI⟩:=MG rfl ho bz;have hv:=hI.v;have hz:zs.length<=16384:=AI hv.1 hv.2.2.1
   have hi:Eu (Ez zs [] f):=I7 bz (λi=>by simpa using EV);unfold QE;split
   ·have hD:Io zs.length (FI zs f (Ez zs [] f))/\Eu (JG zs f (Ez zs [] f)):=by
     unfold FI JG;split
     ·exact⟨Io.start bz hv.2.2.2.2.2,hi⟩
     ·rename_i hn
      have hT:=SV hI bz (λe=>hn (.inr e));refine⟨hT,?_⟩;unfold SR;split
      ·exact hi
      ·exact I7 hT.bz hT.bp
    exact⟨by show(FI zs f (Ez zs [] f)).1.length<=16384;rw[hD.1.len];exact hz,by show ks.length<=32;omega,hD.1.pl,hD.1.ps,hD.2⟩
   ·exact⟨hz,by show ks.length<=32;omega,AM,AM,hi⟩
  ·exact QF.no _
 ·exact QF.no _
end Go.Proofs.YthmeoilbmfdhfaaGreat
