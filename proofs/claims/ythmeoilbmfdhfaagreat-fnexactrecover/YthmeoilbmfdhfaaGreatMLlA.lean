import Derived.Test.YthmeoilbmfdhfaaGreatLdK
import Derived.Test.YthmeoilbmfdhfaaGreatLdZ
open Go.Value renaming slice->UD,int->UE,pointer->UM,bool->UF,agg->UN
open Go.IntKind renaming i64->UO,u32->UG
open Go.Obj renaming cells->UP
open Go.Ending renaming returned->UQ
open Go.Ground renaming data->UR
open Option renaming some->UI,none->UJ
open Go renaming World->UK,Value->UL
namespace Go.Proofs.YthmeoilbmfdhfaaGreat
set_option maxHeartbeats 8000000
set_option maxRecDepth 100000
open Go.ChangeShapes Go.WideShapes Go.ChangeAt Go.RowKit
set_option linter.unusedVariables false
def KO (w:UK) (aSD aSU aF aD aU aT:Option Addr) (nSD nSU mF nD nU:Nat) (r:Dt):Prop:=At UO w aSD r.sD/\At UO w aSU r.sU/\FC w aF r.F/\At UO w aD r.D/\At UO w aU r.U/\At UO w aT r.T/\r.sD.length=nSD/\r.sU.length=nSU/\r.F.length=mF*4/\r.D.length=nD/\r.U.length=nU/\r.T.length=r.n*2
theorem KO.below {w w':UK} {aSD aSU aF aD aU aT:Option Addr} {nSD nSU mF nD nU:Nat} {r:Dt} (h:KO w aSD aSU aF aD aU aT nSD nSU mF nD nU r) (b:Below w.heap.size w w'):KO w' aSD aSU aF aD aU aT nSD nSU mF nD nU r:=
 ⟨h.1.below b,h.2.1.below b,h.2.2.1.below b,h.2.2.2.1.below b,h.2.2.2.2.1.below b,h.2.2.2.2.2.1.below b,h.2.2.2.2.2.2⟩
theorem I7 {zs:List Int} {ps:List PD} {f:Int} (bz:Cu zs) (bp:∀ i,Cu (ps.getD i (0,[])).2):(Ez zs ps f).sD.length<=16/\(Ez zs ps f).sU.length<=256/\(Ez zs ps f).F.length<=1008/\(Ez zs ps f).D.length<=16/\(Ez zs ps f).U.length<=256/\(Ez zs ps f).n<=256:=by
 have h0:Et.sD.length<=16/\Et.sU.length<=256/\Et.F.length<=1008/\Et.D.length<=16/\Et.U.length<=256/\Et.n<=256:=AL
 by_cases hv:C5 zs.length ps f=true
 ·rw[show Ez zs ps f=Pa zs ps (zs.length/64-4) from AR hv];have F0:JF zs.length zs.length ps.length f zs ps:=⟨rfl,rfl,hv,AY _,bz,bp⟩
  have hJ:zs.length/64-4<=252:=AG F0.base
  have HJR:=λq=>(F0.jr q).2
  generalize zs.length/64-4=J at *;by_cases hn:(Eb zs ps 2).ok=true
  ·rw[show Pa zs ps J=Nr (Eb zs ps 2) (Fa zs ps J (Eb zs ps 2).t.toNat J) from AR hn];have hsn:=Hz 2 hn;generalize Eb zs ps 2=s at *;have HFB:=H3 zs ps J HJR J s.t.toNat;obtain⟨k,hk,hl⟩:=Gw zs ps J J s.t.toNat;generalize Fa zs ps J s.t.toNat J=F at *;by_cases ho:(I4 s F).ok=true
   ·rw[show Nr s F=⟨true,s.g,s.t,s.D,s.U,F,(I4 s F).D,(I4 s F).U,(I4 s F).k,(I4 s F).T,(I4 s F).n,s.t+((F.length/4:Nat):Int)⟩ from AR ho];have hst:=(Gj (r:=⟨true,s.D,s.U,(s.U.length:Int),[],0⟩) HFB hsn.st rfl (F.length/4) AK ho).1;have q1:=hst.2.1;have q2:=hst.2.2.1.le;have q3:=hst.bd.2.2;have q4:=hsn.2.2.2.2.1;have q5:=hsn.2.2.2.2.2.le;exact⟨q4,q5,by show F.length<=1008;omega,q1,q2,q3⟩
   ·rw[show Nr s F=Et from AS ho];exact h0
  ·rw[show Pa zs ps J=Et from AS hn];exact h0
 ·rw[show Ez zs ps f=Et from AS hv];exact h0
theorem FO.open_ {B:Nat} {w:UK} {a:Option Addr} {n c:Nat} {F:List Int} (h:FO B w (UD a n c) F n):Df w a (n*4):=by
 rcases h.2 with⟨h',h0⟩|⟨g,cap,cur,h',hb,hh,hc,hm,hs,ht⟩
 ·subst h0;exact .inl (Nat.zero_mul _)
 ·cases h';have hlt:=(AQ.1 hh).1;refine .inr ⟨g,0,rfl,hlt,λi hi=>?_⟩;rw[Ak];refine⟨?_,Ag _ _ _ _ _ hh⟩;rw[AA hh i];have:i<cur.size:=AG (Nat.mul_le_mul_right 4 hc)
  simp[this]
theorem MC.six2 {lo:Nat} {w:UK} {v:UL} {r:Dt} (h:MC lo w v r):∃ aSD nSD cSD aSU nSU cSU aF mF cF aD nD cD aU nU cU aT cT b1 b2,
  v=UN #[UF r.ok,UE UG r.g,UE UG r.t,UD aSD nSD cSD,UD aSU nSU cSU,UD aF mF cF,UD aD nD cD,UD aU nU cU,UE UO r.k,UD aT r.n cT,UE UG r.nx]/\
  I6 lo b1 b2 w aSD aSU aF aD aU aT nSD nSU mF nD nU r.n/\KO w aSD aSU aF aD aU aT nSD nSU mF nD nU r/\mF<=cF:=by
 obtain⟨aSD,nSD,cSD,aSU,nSU,cSU,vF,m,aD,nD,cD,aU,nU,cU,aT,cT,b1,b2,rfl,s1,l1,l2,f1,l3,s2,h1,h2⟩:=h;have fl:=f1.len;obtain⟨aF,cF,rfl,fA,fc,fL⟩:=f1.form;refine⟨aSD,nSD,cSD,aSU,nSU,cSU,aF,m,cF,aD,nD,cD,aU,nU,cU,aT,cT,b1,b2,rfl,⟨s1.d.open_ s1.nd,s1.u.open_ s1.nu,f1.open_,s2.d.open_ s2.nd,s2.u.open_ s2.nu,s2.t.open_ s2.nt,s1.ld,s1.lu,λad e=>⟨BC h1 (fL ad e).1,(fL ad e).2⟩,λad e=>⟨AG (s2.ld ad e),(s2.ld ad e).2⟩,λad e=>⟨AG (s2.lu ad e),(s2.lu ad e).2⟩,λad e=>⟨AG (s2.lt ad e),(s2.lt ad e).2⟩,s1.du,s2.du,s2.dt,s2.ut,λad e=>?_,λad e=>?_⟩,⟨s1.d.at_,s1.u.at_,fA,s2.d.at_,s2.u.at_,s2.t.at_,s1.nd,s1.nu,fl,s2.nd,s2.nu,s2.nt⟩,fc⟩
 ·have q:ad.block<b1:=by rcases e with e|e;exact l1 ad e;exact l2 ad e
  exact⟨λx hx=>AG (fL x hx).1,λx hx=>AG (s2.ld x hx),λx hx=>AG (s2.lu x hx),λx hx=>AG (s2.lt x hx)⟩
 ·have q:ad.block<b2:=l3 _ (by subst e;rfl);exact⟨λx hx=>AG (s2.ld x hx),λx hx=>AG (s2.lu x hx),λx hx=>AG (s2.lt x hx)⟩
theorem MC.six {lo:Nat} {w:UK} {v:UL} {r:Dt} (h:MC lo w v r):∃ aSD nSD cSD aSU nSU cSU aF mF cF aD nD cD aU nU cU aT cT b1 b2,
  v=UN #[UF r.ok,UE UG r.g,UE UG r.t,UD aSD nSD cSD,UD aSU nSU cSU,UD aF mF cF,UD aD nD cD,UD aU nU cU,UE UO r.k,UD aT r.n cT,UE UG r.nx]/\
  I6 lo b1 b2 w aSD aSU aF aD aU aT nSD nSU mF nD nU r.n/\KO w aSD aSU aF aD aU aT nSD nSU mF nD nU r:=by
 obtain⟨aSD,nSD,cSD,aSU,nSU,cSU,aF,mF,cF,aD,nD,cD,aU,nU,cU,aT,cT,b1,b2,h1,h2,h3,_⟩:=h.six2;exact⟨aSD,nSD,cSD,aSU,nSU,cSU,aF,mF,cF,aD,nD,cD,aU,nU,cU,aT,cT,b1,b2,h1,h2,h3⟩
def T8 (r:Dt) (aSD aSU aF aD aU aT:Option Addr) (nSD cSD nSU cSU mF cF nD cD nU cU cT:Nat):Array UL:=#[UF r.ok,UE UG r.g,UE UG r.t,UD aSD nSD cSD,UD aSU nSU cSU,UD aF mF cF,UD aD nD cD,UD aU nU cU,UE UO r.k,UD aT r.n cT,UE UG r.nx]
def Eu (r:Dt):Prop:=r.sD.length<=16/\r.sU.length<=256/\r.F.length<=1008/\r.D.length<=16/\r.U.length<=256/\r.n<=256
def IG (lo hi:Nat) (w:UK) (C:Array UL) (r:Dt):Prop:=∃ aSD aSU aF aD aU aT nSD cSD nSU cSU mF cF nD cD nU cU cT b1 b2,C=T8 r aSD aSU aF aD aU aT nSD cSD nSU cSU mF cF nD cD nU cU cT/\I6 lo b1 b2 w aSD aSU aF aD aU aT nSD nSU mF nD nU r.n/\KO w aSD aSU aF aD aU aT nSD nSU mF nD nU r/\(∀ j,hi<=j->DG j aSD/\DG j aSU/\DG j aF/\DG j aD/\DG j aU/\DG j aT)
theorem G1 {ops:Array Oper} {rest:List Oper} {o:Oper} {a:Act} {w:UK} {Q:Exit->Act->UK->Prop} (hw:Region.wanted o (yielded ops a.tmps)=true)
  (h:∀ K:Act->UK->Prop,(∀ a w,wpList Tryz.prog ops Q rest a w->K a w)->o.wp Tryz.prog a w K Q):wpList Tryz.prog ops Q (o::rest) a w:=
 wpList_step λK hK=>by rw[AR hw];exact h K hK
structure QT (w4:UK) (G lo:Nat) (C:Array UL) (r:Dt) (w:UK):Prop where
 bel:Below w4.heap.size w4 w
 g:w.heap[G]?=UI (UP C 36 (0,0))
 im:IG lo G w C r
def Mo (w:UK) (v:UL) (zs:List Int) (ps:List PD) (f:Int) (d:Bool) (ks:List Int) (r:Dt):Prop:=∃ ada adc aca acc aka akc aSD nSD acSD aSU nSU acSU aF nF acF aD nD acD aU nU acU aT acT,v=UN #[UD ada zs.length adc,UD aca ps.length acc,UE UO f,UF d,UD aka ks.length akc,UF r.ok,UE UG r.g,UE UG r.t,UD aSD nSD acSD,UD aSU nSU acSU,UD aF nF acF,UD aD nD acD,UD aU nU acU,UE UO r.k,UD aT r.n acT,UE UG r.nx]/\At .u8 w ada zs/\FY w aca ps/\zs.length<=adc/\At .u8 w aka ks/\KO w aSD aSU aF aD aU aT nSD nSU nF nD nU r
theorem Mo.below {w w':UK} {v:UL} {zs:List Int} {ps:List PD} {f:Int} {d:Bool} {ks:List Int} {r:Dt} (h:Mo w v zs ps f d ks r) (b:Below w.heap.size w w'):Mo w' v zs ps f d ks r:=by
 obtain⟨ada,adc,aca,acc,aka,akc,aSD,nSD,acSD,aSU,nSU,acSU,aF,nF,acF,aD,nD,acD,aU,nU,acU,aT,acT,rfl,h1,h2,h3,h4,h5⟩:=h;exact⟨ada,adc,aca,acc,aka,akc,aSD,nSD,acSD,aSU,nSU,acSU,aF,nF,acF,aD,nD,acD,aU,nU,acU,aT,acT,rfl,h1.below b,h2.below b,h3,h4.below b,h5.below b⟩
def TH (zs:List Int) (ps:List PD) (ks:List Int) (r:Dt):Prop:=zs.length<=1048576/\ps.length<=1048576/\(∀ i,(ps.getD i (0,[])).2.length<=1048576)/\ks.length<=1048576/\r.sD.length<=1048576/\r.sU.length<=1048576/\r.F.length<=4194304/\r.D.length<=1048576/\r.U.length<=1048576/\r.n<=1048576
theorem RK (v v':UL) (zs:List Int) (ps:List PD) (f:Int) (d:Bool) (ks:List Int) (r:Dt) (w:UK) (h:Mo w v zs ps f d ks r) (h':Mo w v' zs ps f d ks r) (hb:TH zs ps ks r) :
  Calls Tryz.prog 60 #[v,v'] w λe w'=>e=UQ (UF true)/\Below w.heap.size w w':=by
 obtain⟨ada,adc,aca,acc,aka,akc,aSD,nSD,acSD,aSU,nSU,acSU,aF,nF,acF,aD,nD,acD,aU,nU,acU,aT,acT,rfl,h1,h2,h3,h4,h5⟩:=h;obtain⟨bda,bdc,bca,bcc,bka,bkc,bSD,mSD,bcSD,bSU,mSU,bcSU,bF,mF,bcF,bD,mD,bcD,bU,mU,bcU,bT,bcT,rfl,g1,g2,g3,g4,g5⟩:=h';obtain rfl:nSD=mSD:=AI h5.2.2.2.2.2.2.1 g5.2.2.2.2.2.2.1
 obtain rfl:nSU=mSU:=AI h5.2.2.2.2.2.2.2.1 g5.2.2.2.2.2.2.2.1
 obtain rfl:nF=mF:=AI h5.2.2.2.2.2.2.2.2.1 g5.2.2.2.2.2.2.2.2.1
 obtain rfl:nD=mD:=AI h5.2.2.2.2.2.2.2.2.2.1 g5.2.2.2.2.2.2.2.2.2.1
 obtain rfl:nU=mU:=AI h5.2.2.2.2.2.2.2.2.2.2.1 g5.2.2.2.2.2.2.2.2.2.2.1
 obtain⟨l1,l2,l3,l4,l5,l6,l7,l8,l9,l10⟩:=hb;have HE0:AP (BE w 48 #[UD ada zs.length adc,UD aca ps.length acc,UE UO f,UF d,UD aka ks.length akc,UF r.ok,UE UG r.g,UE UG r.t,UD aSD nSD acSD,UD aSU nSU acSU,UD aF nF acF,UD aD nD acD,UD aU nU acU,UE UO r.k,UD aT r.n acT,UE UG r.nx] #[UD bda zs.length bdc,UD bca ps.length bcc,UE UO f,UF d,UD bka ks.length bkc,UF r.ok,UE UG r.g,UE UG r.t,UD bSD nSD bcSD,UD bSU nSU bcSU,UD bF nF bcF,UD bD nD bcD,UD bU nU bcU,UE UO r.k,UD bT r.n bcT,UE UG r.nx] ((w.alloc (UP #[UD ada zs.length adc,UD aca ps.length acc,UE UO f,UF d,UD aka ks.length akc,UF r.ok,UE UG r.g,UE UG r.t,UD aSD nSD acSD,UD aSU nSU acSU,UD aF nF acF,UD aD nD acD,UD aU nU acU,UE UO r.k,UD aT r.n acT,UE UG r.nx] 48)).alloc (UP #[UD bda zs.length bdc,UD bca ps.length bcc,UE UO f,UF d,UD bka ks.length bkc,UF r.ok,UE UG r.g,UE UG r.t,UD bSD nSD bcSD,UD bSU nSU bcSU,UD bF nF bcF,UD bD nD bcD,UD bU nU bcU,UE UO r.k,UD bT r.n bcT,UE UG r.nx] 48))):=BE.start _ _ _ _;have HD:AP (∀ ww,Below w.heap.size w ww->Ei ww (UN #[UD ada zs.length adc,UD aca ps.length acc,UE UO f,UF d]) zs ps f d/\Ei ww (UN #[UD bda zs.length bdc,UD bca ps.length bcc,UE UO f,UF d]) zs ps f d):=λww b=>⟨⟨ada,adc,aca,acc,rfl,h1.below b,h2.below b,h3⟩,⟨bda,bdc,bca,bcc,rfl,g1.below b,g2.below b,g3⟩⟩
 have HK:=Cq (Ac h4 g4);have HI:=Cq (Ac h5 g5);have HP:=Cq l3;have HLe:AP (nSD<=1048576/\nSU<=1048576/\nF<=1048576/\nD<=1048576/\nU<=1048576):=by
  obtain⟨_,_,_,_,_,_,e1,e2,e3,e4,e5,_⟩:=h5;exact⟨AK,AK,AK,AK,AK⟩
 clear h1 h2 h3 h4 h5 g1 g2 g3 g4 g5 l3 l5 l6 l7 l8 l9;go_enter Tryz.func60,Tryz.ntmps60
 go_upto_region 1 with fail
 generalize (w.alloc (UP #[UD ada zs.length adc,UD aca ps.length acc,UE UO f,UF d,UD aka ks.length akc,UF r.ok,UE UG r.g,UE UG r.t,UD aSD nSD acSD,UD aSU nSU acSU,UD aF nF acF,UD aD nD acD,UD aU nU acU,UE UO r.k,UD aT r.n acT,UE UG r.nx] 48)).alloc (UP #[UD bda zs.length bdc,UD bca ps.length bcc,UE UO f,UF d,UD bka ks.length bkc,UF r.ok,UE UG r.g,UE UG r.t,UD bSD nSD bcSD,UD bSU nSU bcSU,UD bF nF bcF,UD bD nD bcD,UD bU nU bcU,UE UO r.k,UD bT r.n bcT,UE UG r.nx] 48)=w0 at *;have x0:=AA HE0.o.b0 0;have y0:=AA HE0.o.b1 0;have x1:=AA HE0.o.b0 1;have y1:=AA HE0.o.b1 1;have x2:=AA HE0.o.b0 2;have y2:=AA HE0.o.b1 2;have x3:=AA HE0.o.b0 3;have y3:=AA HE0.o.b1 3;simp at x0 y0 x1 y1 x2 y2 x3 y3;go_wp2_with fail;refine(MQ _ _ zs ps f d w0 (HD.o w0 HE0.o.below).1 (HD.o w0 HE0.o.below).2 l1 l2 HP.o).mono ?_;rintro e w1 ⟨rfl,b1⟩;have HE1:=Cq (HE0.o.call b1);clear x0 y0 x1 y1 x2 y2 x3 y3;clear b1 HE0 HD;have x4:=AA HE1.o.b0 4;have y4:=AA HE1.o.b1 4;simp at x4 y4;go_wp2_with fail;refine(Ic aka bka ks.length akc bkc ks w1 rfl l4 (HK.o.1.below HE1.o.below) (HK.o.2.below HE1.o.below)).mono ?_;rintro e _ ⟨rfl,q,rfl⟩;have HE2:=Cq (HE1.o.call (Sz Cs q));clear x4 y4;clear HE1 HK;generalize w1.drewN q=w2 at *;have x5:=AA HE2.o.b0 5;have y5:=AA HE2.o.b1 5;have x6:=AA HE2.o.b0 6;have y6:=AA HE2.o.b1 6;have x7:=AA HE2.o.b0 7;have y7:=AA HE2.o.b1 7;have x8:=AA HE2.o.b0 8;have y8:=AA HE2.o.b1 8;have x9:=AA HE2.o.b0 9;have y9:=AA HE2.o.b1 9;have x10:=AA HE2.o.b0 10;have y10:=AA HE2.o.b1 10;have x11:=AA HE2.o.b0 11;have y11:=AA HE2.o.b1 11;have x12:=AA HE2.o.b0 12;have y12:=AA HE2.o.b1 12;have x13:=AA HE2.o.b0 13;have y13:=AA HE2.o.b1 13;have x14:=AA HE2.o.b0 14;have y14:=AA HE2.o.b1 14;have x15:=AA HE2.o.b0 15;have y15:=AA HE2.o.b1 15;simp at x5 y5 x6 y6 x7 y7 x8 y8 x9 y9 x10 y10 x11 y11 x12 y12 x13 y13 x14 y14 x15 y15;go_wp2_with fail;refine(PT aSD bSD aSU bSU aF bF aD bD aU bU aT bT nSD acSD bcSD nSU acSU bcSU nF acF bcF nD acD bcD nU acU bcU r.n acT bcT r.sD r.sU r.F r.D r.U r.T r.g r.t r.k r.nx r.ok w2 ?e1 ?e2 ?e3 ?e4 ?e5 ?e6 HLe.o.1 HLe.o.2.1 HLe.o.2.2.1 HLe.o.2.2.2.1 HLe.o.2.2.2.2 l10 ?f1 ?f2 ?f3 ?f4 ?f5 ?f6 ?f7 ?f8 ?f9 ?f10 ?f11 ?f12).mono ?_
 case e1=>exact HI.o.1.2.2.2.2.2.2.1
 case e2=>exact HI.o.1.2.2.2.2.2.2.2.1
 case e3=>exact HI.o.1.2.2.2.2.2.2.2.2.1
 case e4=>exact HI.o.1.2.2.2.2.2.2.2.2.2.1
 case e5=>exact HI.o.1.2.2.2.2.2.2.2.2.2.2.1
 case e6=>exact HI.o.1.2.2.2.2.2.2.2.2.2.2.2
 case f1=>exact HI.o.1.1.below HE2.o.below
 case f2=>exact HI.o.2.1.below HE2.o.below
 case f3=>exact HI.o.1.2.1.below HE2.o.below
 case f4=>exact HI.o.2.2.1.below HE2.o.below
 case f5=>exact HI.o.1.2.2.1.below HE2.o.below
 case f6=>exact HI.o.2.2.2.1.below HE2.o.below
 case f7=>exact HI.o.1.2.2.2.1.below HE2.o.below
 case f8=>exact HI.o.2.2.2.2.1.below HE2.o.below
 case f9=>exact HI.o.1.2.2.2.2.1.below HE2.o.below
 case f10=>exact HI.o.2.2.2.2.2.1.below HE2.o.below
 case f11=>exact HI.o.1.2.2.2.2.2.1.below HE2.o.below
 case f12=>exact HI.o.2.2.2.2.2.2.1.below HE2.o.below
 rintro e w3 ⟨rfl,b3⟩;have HB3:=Cq (HE2.o.below.trans (b3.mono HE2.o.below.size));clear x5 y5 x6 y6 x7 y7 x8 y8 x9 y9 x10 y10 x11 y11 x12 y12 x13 y13 x14 y14 x15 y15;clear b3 HE2 HI;go_wp2
 go_ret
 exact⟨rfl,HB3.o⟩
section
variable {lo lo':Nat} {w w':UK} {a da ka aSD aSU aF aD aU aT:Option Addr} {zs ks:List Int} {v:UL} {f:Int} {d:Bool} {r:Dt} {C:Array UL} {dc nSD nSU mF nD nU b1 b2:Nat}
theorem EF.keep (h:EF lo w a zs) (hs:w.heap.size<=w'.heap.size) (hb:∀ k,lo<=k->k<w.heap.size->w'.heap[k]?=w.heap[k]?):EF lo w' a zs:=
 ⟨h.1.keep (λad e=>hb _ (h.2.2 ad e).1 (h.2.2 ad e).2) hs,h.2.1.keep (λad e=>hb _ (h.2.2 ad e).1 (h.2.2 ad e).2) hs,λad e=>AG (h.2.2 ad e)⟩
theorem EF.below (h:EF lo w a zs) (b:Below w.heap.size w w'):EF lo w' a zs:=h.keep b.size (λk _ hk=>b.block k hk)
theorem EF.mono (h:EF lo w a zs) (hl:lo'<=lo):EF lo' w a zs:=⟨h.1,h.2.1,λad e=>AG (h.2.2 ad e)⟩
theorem EF.nil (lo:Nat) (w:UK):EF lo w UJ []:=⟨.inl rfl,.inl rfl,λ_ e=>by cases e⟩
theorem De.below (h:De lo w a) (b:Below w.heap.size w w'):De lo w' a:=λad e=>AI (h ad e) b.size
def Mp (lo:Nat) (w:UK) (v:UL) (zs:List Int) (f:Int) (d:Bool):Prop:=∃ da dc ca cc,v=UN #[UD da zs.length dc,UD ca 0 cc,UE UO f,UF d]/\zs.length<=dc/\EF lo w da zs/\De lo w ca
theorem Mp.below (h:Mp lo w v zs f d) (b:Below w.heap.size w w'):Mp lo w' v zs f d:=by
 obtain⟨da,dc,ca,cc,e,h1,h2,h3⟩:=h;exact⟨da,dc,ca,cc,e,h1,h2.below b,h3.below b⟩
theorem Mp.mono (h:Mp lo w v zs f d) (hl:lo'<=lo):Mp lo' w v zs f d:=by
 obtain⟨da,dc,ca,cc,e,h1,h2,h3⟩:=h;exact⟨da,dc,ca,cc,e,h1,h2.mono hl,h3.mono hl Cw⟩
theorem DR.dvm (h:DR w lo v zs [] f d):Mp lo w v zs f d:=by
 obtain⟨dv,cv,qs,E,rfl,h1,h2,h3,h4,h5,h6⟩:=h;have hq:qs=[]:=by cases qs with|nil=>rfl|cons a l=>simp[Fr] at h3
 subst hq;have hc:∃ ca cc,cv=UD ca 0 cc/\De lo w ca:=by
  rcases h2.1.2 with⟨e,_⟩|⟨g,c,cur,e,hb,hh,_⟩
  ·exact⟨UJ,0,e,λ_ e=>by cases e⟩
  ·exact⟨_,_,e,λad e=>by cases e;exact⟨BC h4 hb,(AQ.1 hh).1⟩⟩
 obtain⟨ca,cc,rfl,hl⟩:=hc;rcases h1 with⟨rfl,rfl⟩|h1
 ·exact⟨UJ,0,ca,cc,rfl,AY _,EF.nil _ _,hl⟩
 ·obtain⟨g,c,rfl,q1,q2,q3,q4,q5⟩:=h1.at_;exact⟨_,c,ca,cc,rfl,q3,⟨q4,q5,λad e=>by cases e;exact⟨q1,q2⟩⟩,hl⟩
def KM (lo:Nat) (w:UK) (v:UL) (ks:List Int):Prop:=∃ ka kc,v=UD ka ks.length kc/\EF lo w ka ks
theorem KM.below (h:KM lo w v ks) (b:Below w.heap.size w w'):KM lo w' v ks:=by obtain⟨ka,kc,e,h⟩:=h;exact⟨ka,kc,e,h.below b⟩
theorem KM.mono (h:KM lo w v ks) (hl:lo'<=lo):KM lo' w v ks:=by obtain⟨ka,kc,e,h⟩:=h;exact⟨ka,kc,e,h.mono hl⟩
theorem Dd.km (h:Dd w lo v ks):KM lo w v ks:=by
 rcases h with⟨rfl,rfl⟩|h1
 ·exact⟨UJ,0,rfl,EF.nil _ _⟩
 ·obtain⟨g,c,rfl,q1,q2,q3,q4,q5⟩:=h1.at_;exact⟨_,c,rfl,⟨q4,q5,λad e=>by cases e;exact⟨q1,q2⟩⟩⟩
def N6 (j:Nat) (aSD aSU aF aD aU aT:Option Addr):Prop:=DG j aSD/\DG j aSU/\DG j aF/\DG j aD/\DG j aU/\DG j aT
theorem I6.keep (g:I6 lo b1 b2 w aSD aSU aF aD aU aT nSD nSU mF nD nU r.n) (hs:w.heap.size<=w'.heap.size) (hb:∀ k,lo<=k->k<w.heap.size->w'.heap[k]?=w.heap[k]?):I6 lo b1 b2 w' aSD aSU aF aD aU aT nSD nSU mF nD nU r.n:=by
 exact⟨g.oSD.keepT hs λad e hl=>hb _ (AG (g.lSD ad e)) hl,g.oSU.keepT hs λad e hl=>hb _ (AG (g.lSU ad e)) hl,g.oF.keepT hs λad e hl=>hb _ (AG (g.lF ad e)) hl,g.oD.keepT hs λad e hl=>hb _ (AG (g.lD ad e)) hl,g.oU.keepT hs λad e hl=>hb _ (AG (g.lU ad e)) hl,g.oT.keepT hs λad e hl=>hb _ (AG (g.lT ad e)) hl,λad e=>AG (g.lSD ad e),λad e=>AG (g.lSU ad e),λad e=>AG (g.lF ad e),λad e=>AG (g.lD ad e),λad e=>AG (g.lU ad e),λad e=>AG (g.lT ad e),g.sDU,g.dU,g.dT,g.uT,g.xS,g.xF⟩
def L6 (lo:Nat) (w:UK) (aSD aSU aF aD aU aT:Option Addr):Prop:=De lo w aSD/\De lo w aSU/\De lo w aF/\De lo w aD/\De lo w aU/\De lo w aT
theorem I6.l6 (g:I6 lo b1 b2 w aSD aSU aF aD aU aT nSD nSU mF nD nU r.n):L6 lo w aSD aSU aF aD aU aT:=by
 exact⟨λad e=>AG (g.lSD ad e),λad e=>AG (g.lSU ad e),λad e=>AG (g.lF ad e),λad e=>AG (g.lD ad e),λad e=>AG (g.lU ad e),λad e=>AG (g.lT ad e)⟩
theorem L6.size (h:L6 lo w aSD aSU aF aD aU aT) (hs:w.heap.size<=w'.heap.size) (hl:lo'<=lo):L6 lo' w' aSD aSU aF aD aU aT:=
 ⟨h.1.mono hl hs,h.2.1.mono hl hs,h.2.2.1.mono hl hs,h.2.2.2.1.mono hl hs,h.2.2.2.2.1.mono hl hs,h.2.2.2.2.2.mono hl hs⟩
theorem KO.keep (h:KO w aSD aSU aF aD aU aT nSD nSU mF nD nU r) (l:L6 lo w aSD aSU aF aD aU aT) (hs:w.heap.size<=w'.heap.size) (hb:∀ k,lo<=k->k<w.heap.size->w'.heap[k]?=w.heap[k]?):KO w' aSD aSU aF aD aU aT nSD nSU mF nD nU r:=by
 obtain⟨a1,a2,a3,a4,a5,a6,hl⟩:=h;obtain⟨l1,l2,l3,l4,l5,l6⟩:=l;exact⟨a1.keepT hs λad e hl=>hb _ (l1 ad e).1 hl,a2.keepT hs λad e hl=>hb _ (l2 ad e).1 hl,a3.keepT hs λad e hl=>hb _ (l3 ad e).1 hl,a4.keepT hs λad e hl=>hb _ (l4 ad e).1 hl,a5.keepT hs λad e hl=>hb _ (l5 ad e).1 hl,a6.keepT hs λad e hl=>hb _ (l6 ad e).1 hl,hl⟩
def Mq (lo:Nat) (w:UK) (v:UL) (r:Dt):Prop:=∃ aSD nSD cSD aSU nSU cSU aF mF cF aD nD cD aU nU cU aT cT,v=UN #[UF r.ok,UE UG r.g,UE UG r.t,UD aSD nSD cSD,UD aSU nSU cSU,UD aF mF cF,UD aD nD cD,UD aU nU cU,UE UO r.k,UD aT r.n cT,UE UG r.nx]/\KO w aSD aSU aF aD aU aT nSD nSU mF nD nU r/\L6 lo w aSD aSU aF aD aU aT/\mF<=cF
theorem Mq.below (h:Mq lo w v r) (b:Below w.heap.size w w'):Mq lo w' v r:=by
 obtain⟨aSD,nSD,cSD,aSU,nSU,cSU,aF,mF,cF,aD,nD,cD,aU,nU,cU,aT,cT,e,h1,h2,h3⟩:=h;exact⟨aSD,nSD,cSD,aSU,nSU,cSU,aF,mF,cF,aD,nD,cD,aU,nU,cU,aT,cT,e,h1.below b,h2.size b.size Cw,h3⟩
theorem Mq.mono (h:Mq lo w v r) (hl:lo'<=lo):Mq lo' w v r:=by
 obtain⟨aSD,nSD,cSD,aSU,nSU,cSU,aF,mF,cF,aD,nD,cD,aU,nU,cU,aT,cT,e,h1,h2,h3⟩:=h;exact⟨aSD,nSD,cSD,aSU,nSU,cSU,aF,mF,cF,aD,nD,cD,aU,nU,cU,aT,cT,e,h1,h2.size Cw hl,h3⟩
def GL (lo:Nat) (w:UK) (C:Array UL) (zs ks:List Int) (f:Int) (d:Bool) (r:Dt):Prop:=∃ da dc ca cc ka kc aSD nSD cSD aSU nSU cSU aF mF cF aD nD cD aU nU cU aT cT,C=#[UD da zs.length dc,UD ca 0 cc,UE UO f,UF d,UD ka ks.length kc,UF r.ok,UE UG r.g,UE UG r.t,UD aSD nSD cSD,UD aSU nSU cSU,UD aF mF cF,UD aD nD cD,UD aU nU cU,UE UO r.k,UD aT r.n cT,UE UG r.nx]/\(zs.length<=dc/\mF<=cF)/\EF lo w da zs/\EF lo w ka ks/\KO w aSD aSU aF aD aU aT nSD nSU mF nD nU r/\L6 lo w aSD aSU aF aD aU aT
theorem GL.keep (h:GL lo w C zs ks f d r) (hs:w.heap.size<=w'.heap.size) (hb:∀ k,lo<=k->k<w.heap.size->w'.heap[k]?=w.heap[k]?):GL lo w' C zs ks f d r:=by
 obtain⟨da,dc,ca,cc,ka,kc,aSD,nSD,cSD,aSU,nSU,cSU,aF,mF,cF,aD,nD,cD,aU,nU,cU,aT,cT,e,h1,h2,h3,h4,h5⟩:=h;exact⟨da,dc,ca,cc,ka,kc,aSD,nSD,cSD,aSU,nSU,cSU,aF,mF,cF,aD,nD,cD,aU,nU,cU,aT,cT,e,h1,h2.keep hs hb,h3.keep hs hb,h4.keep h5 hs hb,h5.size hs Cw⟩
theorem GL.below (h:GL lo w C zs ks f d r) (b:Below w.heap.size w w'):GL lo w' C zs ks f d r:=h.keep b.size (λk _ hk=>b.block k hk)
theorem GL.row (h:GL lo w C zs ks f d r):C.size=16/\C.all (·.oneCell')=true:=by
 obtain⟨da,dc,ca,cc,ka,kc,aSD,nSD,cSD,aSU,nSU,cSU,aF,mF,cF,aD,nD,cD,aU,nU,cU,aT,cT,rfl,_⟩:=h;exact⟨rfl,by simp[Value.oneCell']⟩
def GX (lo:Nat) (w:UK) (r:Dt) (da ka aSD aSU aF aD aU aT:Option Addr) (nSD nSU mF nD nU:Nat):Prop:=(∃ b1 b2,I6 lo b1 b2 w aSD aSU aF aD aU aT nSD nSU mF nD nU r.n)/\(∀ ad,da=UI ad->DG ad.block ka/\N6 ad.block aSD aSU aF aD aU aT)/\(∀ ad,ka=UI ad->N6 ad.block aSD aSU aF aD aU aT)
def GP (lo:Nat) (w:UK) (C:Array UL) (zs ks:List Int) (f:Int) (d:Bool) (r:Dt):Prop:=∃ da dc ca cc ka kc aSD nSD cSD aSU nSU cSU aF mF cF aD nD cD aU nU cU aT cT,C=#[UD da zs.length dc,UD ca 0 cc,UE UO f,UF d,UD ka ks.length kc,UF r.ok,UE UG r.g,UE UG r.t,UD aSD nSD cSD,UD aSU nSU cSU,UD aF mF cF,UD aD nD cD,UD aU nU cU,UE UO r.k,UD aT r.n cT,UE UG r.nx]/\(zs.length<=dc/\mF<=cF)/\EF lo w da zs/\EF lo w ka ks/\KO w aSD aSU aF aD aU aT nSD nSU mF nD nU r/\GX lo w r da ka aSD aSU aF aD aU aT nSD nSU mF nD nU
theorem GP.gl (h:GP lo w C zs ks f d r):GL lo w C zs ks f d r:=by
 obtain⟨da,dc,ca,cc,ka,kc,aSD,nSD,cSD,aSU,nSU,cSU,aF,mF,cF,aD,nD,cD,aU,nU,cU,aT,cT,e,h1,h2,h3,h4,⟨b1,b2,h5⟩,_⟩:=h;exact⟨da,dc,ca,cc,ka,kc,aSD,nSD,cSD,aSU,nSU,cSU,aF,mF,cF,aD,nD,cD,aU,nU,cU,aT,cT,e,h1,h2,h3,h4,h5.l6⟩
theorem GP.keep (h:GP lo w C zs ks f d r) (hs:w.heap.size<=w'.heap.size) (hb:∀ k,lo<=k->k<w.heap.size->w'.heap[k]?=w.heap[k]?):GP lo w' C zs ks f d r:=by
 obtain⟨da,dc,ca,cc,ka,kc,aSD,nSD,cSD,aSU,nSU,cSU,aF,mF,cF,aD,nD,cD,aU,nU,cU,aT,cT,e,h1,h2,h3,h4,⟨b1,b2,h5⟩,h6,h7⟩:=h;exact⟨da,dc,ca,cc,ka,kc,aSD,nSD,cSD,aSU,nSU,cSU,aF,mF,cF,aD,nD,cD,aU,nU,cU,aT,cT,e,h1,h2.keep hs hb,h3.keep hs hb,h4.keep h5.l6 hs hb,⟨b1,b2,h5.keep hs hb⟩,h6,h7⟩
theorem GP.below (h:GP lo w C zs ks f d r) (b:Below w.heap.size w w'):GP lo w' C zs ks f d r:=h.keep b.size (λk _ hk=>b.block k hk)
end
def TI (ad:Addr) (aSD aSU aF aD aU aT:Option Addr):Prop:=aSD=UI ad\/aSU=UI ad\/aF=UI ad\/aD=UI ad\/aU=UI ad\/aT=UI ad
theorem I6.keep6 {lo b1 b2 nSD nSU mF nD nU nT:Nat} {aSD aSU aF aD aU aT:Option Addr} {w w':UK} (g:I6 lo b1 b2 w aSD aSU aF aD aU aT nSD nSU mF nD nU nT) (hs:w.heap.size<=w'.heap.size) (hb:∀ ad,TI ad aSD aSU aF aD aU aT->w'.heap[ad.block]?=w.heap[ad.block]?):I6 lo b1 b2 w' aSD aSU aF aD aU aT nSD nSU mF nD nU nT:=
 ⟨g.oSD.keepT hs λad e _=>hb _ (.inl e),g.oSU.keepT hs λad e _=>hb _ (.inr (.inl e)),g.oF.keepT hs λad e _=>hb _ (.inr (.inr (.inl e))),g.oD.keepT hs λad e _=>hb _ (.inr (.inr (.inr (.inl e)))),g.oU.keepT hs λad e _=>hb _ (.inr (.inr (.inr (.inr (.inl e))))),g.oT.keepT hs λad e _=>hb _ (.inr (.inr (.inr (.inr (.inr e))))),λad e=>AG (g.lSD ad e),λad e=>AG (g.lSU ad e),λad e=>AG (g.lF ad e),λad e=>AG (g.lD ad e),λad e=>AG (g.lU ad e),λad e=>AG (g.lT ad e),g.sDU,g.dU,g.dT,g.uT,g.xS,g.xF⟩
theorem N6.ne {j:Nat} {aSD aSU aF aD aU aT:Option Addr} {ad:Addr} (h:N6 j aSD aSU aF aD aU aT) (i:TI ad aSD aSU aF aD aU aT):j≠ad.block:=by
 obtain⟨h1,h2,h3,h4,h5,h6⟩:=h;rcases i with e|e|e|e|e|e
 ·exact h1 ad e
 ·exact h2 ad e
 ·exact h3 ad e
 ·exact h4 ad e
 ·exact h5 ad e
 ·exact h6 ad e
theorem I6.in6 {lo b1 b2 nSD nSU mF nD nU nT:Nat} {aSD aSU aF aD aU aT:Option Addr} {w:UK} (g:I6 lo b1 b2 w aSD aSU aF aD aU aT nSD nSU mF nD nU nT) {ad:Addr} (i:TI ad aSD aSU aF aD aU aT):lo<=ad.block/\ad.block<w.heap.size:=by
 rcases i with e|e|e|e|e|e
 ·have:=g.lSD ad e;omega
 ·have:=g.lSU ad e;omega
 ·have:=g.lF ad e;omega
 ·have:=g.lD ad e;omega
 ·have:=g.lU ad e;omega
 ·have:=g.lT ad e;omega
theorem LN (w:UK) {o:Oper} {a:Act} {K:Act->UK->Prop} {Q:Exit->Act->UK->Prop} (s x:Operand) (hop:o.op=Op.call { callee:=Callee.builtin Builtin.append,args:=#[s,x],argTypes:=#[31,31] })
  (S:Nat) (v:UL) (hs:a.eval s=v) (hem:E3 S 112 w v) (xa:Option Addr) (n c:Nat) (F:List Int) (hx:a.eval x=UD xa n c) (hl:F.length=n*4) (hA:FC w xa F) (hb:n<=1048576) (hSw:S<=w.heap.size)
  (h:∀ v' w',FO S w' v' F n->Below w.heap.size w w'->K (a.put o.dst v') w'):o.wp Tryz.prog a w K Q:=by
 obtain⟨B,rfl,hB,hrow⟩:=hem;have hown:=E3.owns 4 hB hrow;by_cases h0:n=0
 ·subst h0;have hz:F=[]:=Aq AK;have hk:=h (UD (UI ⟨B,0,UJ⟩) 0 0) w (by unfold FO;rw[hz];exact hown) Cs;have hr:=Jh 31 112 _ 4 24 Tryz.infoFr Tryz.underlying31 w o.type ⟨B,0,UJ⟩ xa c;unfold Oper.wp execOp;simp only[hop,resolve,invoke,builtin,Sem.run_bind,Sem.run_pure,Result.andThen_ok,List.map_toArray,List.map_cons,List.map_nil,hs,hx,hr];exact hk
 ·have hz0':0<F.length:=AK
  obtain⟨b,off,rfl,hbl,hc⟩:=hA.get hz0';obtain⟨i0,hi,hz0,hz1,hz2⟩:=Be Tryz.infoFr;have hnews:∀ j u,(fC F).toList[j]?=UI u->w.cell? ((⟨b,off,UJ⟩:Addr).add j)=UI u:=by
   intro j u hu;rw[Es] at hu;have hj:j<F.length:=by have:=(Af.1 hu).1;simpa using this
   rw[Ay,hc j hj];simp[hj] at hu;simp[hj,hu]
  have hlen:(fC F).toList.length=n*4:=by rw[Es];simp[hl]
  have hone:∀ v∈(fC F).toList,v.oneCell'=true:=λv hv=>by
   rw[Es] at hv;obtain⟨i,_,rfl⟩:=List.mem_map.1 hv;rfl
  have hfit:Builtin.nextslicecap (0+n) 0*i0.bytes<=281474976710656:=by rw[Ak,nextslicecap_zero AK,hz2];omega
  have hg:=run_append_grow (P:=Tryz.prog) w 31 o.type 112 i0 _ Tryz.underlying31 hi hz0 ⟨B,0,UJ⟩ 0 0 [] AM (λj v hv=>by simp at hv) ⟨b,off,UJ⟩ n c (fC F).toList (by rw[hlen,hz1]) hnews AK AK hfit;obtain⟨v',w',hr,h2,h3,h4⟩:=run_append_own (P:=Tryz.prog) w S 31 o.type 112 i0 _ 4 24 Tryz.underlying31 hi hz0 hz1 hz2 rfl AL _ 0 [] hown ⟨b,off,UJ⟩ n c (fC F).toList hlen hnews hone (by unfold maxLen;omega) (by rw[Ak];omega) hSw;have he:=hr.symm.trans hg;injection he with e1 e2
  have hBl:Below w.heap.size w w':=by rw[e2];exact Cs.drew.alloc Cw _
  have hk:=h v' w' (by unfold FO;simpa using h2) hBl;unfold Oper.wp execOp;simp only[hop,resolve,invoke,builtin,Sem.run_bind,Sem.run_pure,Result.andThen_ok,List.map_toArray,List.map_cons,List.map_nil,hs,hx,hr];exact hk
theorem RL {B:Nat} {w:UK} {a:Option Addr} {n c m:Nat} {T:List Int} (h:DN B w (UD a n c) T m):At UO w a T/\T.length=m*2/\De B w a:=by
 have hl:T.length=m*2:=by have:=h.1;simpa using this
 rcases h.2 with⟨e0,h0⟩|⟨g,cap,cur,h',hb,hh,hc,hm,hs,ht⟩
 ·cases e0;exact⟨.inl (Aq AK),hl,λ_ e=>by cases e⟩
 ·cases h';refine⟨.inr ?_,hl,λad e=>by cases e;exact⟨hb,(AQ.1 hh).1⟩⟩;refine⟨g,0,rfl,(AQ.1 hh).1,λi hi=>?_⟩;rw[Ak,AA hh i];have e:(cur.toList.take (n*2))[i]?=(T.map (Value.int UO))[i]?:=by rw[ht]
  rw[BS AK,CM] at e;rw[<-Array.getElem?_toList,e];simp[hi]
def Sm (lo:Nat) (gn tl:Int) (D U:List Int) (w:UK) (v:UL):Prop:=∃ aD nD cD aU nU cU,v=UN #[UE UG gn,UE UG tl,UD aD nD cD,UD aU nU cU]/\Iow lo w (UD aD nD cD) D/\Iow lo w (UD aU nU cU) U
theorem Sm.below {lo:Nat} {gn tl:Int} {D U:List Int} {w w':UK} {v:UL} (h:Sm lo gn tl D U w v) (b:Below w.heap.size w w'):Sm lo gn tl D U w' v:=by
 obtain⟨aD,nD,cD,aU,nU,cU,e,h1,h2⟩:=h;exact⟨aD,nD,cD,aU,nU,cU,e,h1.below b,h2.below b⟩
def Tr (p:Nat) (W:UK) (gn tl:Int) (D U:List Int) (u:Nat->UL) (w:UK):Prop:=
 ∃ G aD nD cD aU nU cU,u p=UM (UI ⟨G,0,UJ⟩)/\W.heap.size<=G/\w.heap[G]?=UI (UP #[UE UG gn,UE UG tl,UD aD nD cD,UD aU nU cU] 30 (0,0))/\Iow W.heap.size w (UD aD nD cD) D/\Iow W.heap.size w (UD aU nU cU) U/\Below W.heap.size W w
def Sn (lo:Nat) (r:Dt) (bSD bSU:Option Addr) (mSD dSD mSU dSU mF:Nat) (w:UK) (v:UL):Prop:=∃ bF dF bD mD dD bU mU dU bT dT,v=UN #[UF r.ok,UE UG r.g,UE UG r.t,UD bSD mSD dSD,UD bSU mSU dSU,UD bF mF dF,UD bD mD dD,UD bU mU dU,UE UO r.k,UD bT r.n dT,UE UG r.nx]/\FO lo w (UD bF mF dF) r.F mF/\Iow lo w (UD bD mD dD) r.D/\Iow lo w (UD bU mU dU) r.U/\DN lo w (UD bT r.n dT) r.T r.n
theorem Sn.below {lo:Nat} {r:Dt} {bSD bSU:Option Addr} {mSD dSD mSU dSU mF:Nat} {w w':UK} {v:UL} (h:Sn lo r bSD bSU mSD dSD mSU dSU mF w v) (b:Below w.heap.size w w'):Sn lo r bSD bSU mSD dSD mSU dSU mF w' v:=by
 obtain⟨bF,dF,bD,mD,dD,bU,mU,dU,bT,dT,e,h1,h2,h3,h4⟩:=h;exact⟨bF,dF,bD,mD,dD,bU,mU,dU,bT,dT,e,h1.below b,h2.below b,h3.below b,h4.below b⟩
theorem RN (v:UL) (r:Dt) (w:UK) (h:ME w v r) (hb:Eu r) :
  Calls Tryz.prog 105 #[v] w λe w'=>∃ v',e=UQ v'/\Mq w.heap.size w' v' r/\Below w.heap.size w w':=by
 obtain⟨aSD,nSD,cSD,aSU,nSU,cSU,aF,mF,cF,aD,nD,cD,aU,nU,cU,aT,cT,rfl,A1,A2,A3,A4,A5,A6,e1,e2,e3,e4,e5,e6⟩:=h;obtain⟨l1,l2,l3,l4,l5,l6⟩:=hb;have HA:AP (At UO w aSD r.sD/\At UO w aSU r.sU/\FC w aF r.F):=⟨A1,A2,A3⟩
 have HN:AP (r.sD.length=nSD/\r.sU.length=nSU/\r.F.length=mF*4):=⟨e1,e2,e3⟩
 have HM:AP (nSD<=1048576/\nSU<=1048576/\mF<=1048576):=⟨AK,AK,AK⟩
 have HC5:AP (∀ ww,Below w.heap.size w ww->Calls Tryz.prog 123 #[UN #[UD aD nD cD,UD aU nU cU,UE UO r.k,UD aT r.n cT]] ww λe w'=>∃ cs,e=UQ (UN cs)/\FB ww.heap.size r.k r.D r.U r.T r.n w' cs/\Below ww.heap.size ww w'):=λww b=>Me aD aU aT nD cD nU cU r.n cT r.D r.U r.k r.T ww e4 e5 e6 AK AK AK (A4.below b) (A5.below b) (A6.below b)
 have HSN:AP ((Tryz.prog.info? 30).map (·.size)=UI 4):=by show _=_;kernel_rfl
 have HSI:AP ((Tryz.prog.info? 36).map (·.size)=UI 11):=by show _=_;kernel_rfl
 have HE1:AP (BE w 36 #[UF r.ok,UE UG r.g,UE UG r.t,UD aSD nSD cSD,UD aSU nSU cSU,UD aF mF cF,UD aD nD cD,UD aU nU cU,UE UO r.k,UD aT r.n cT,UE UG r.nx] Cg ((w.alloc (UP #[UF r.ok,UE UG r.g,UE UG r.t,UD aSD nSD cSD,UD aSU nSU cSU,UD aF mF cF,UD aD nD cD,UD aU nU cU,UE UO r.k,UD aT r.n cT,UE UG r.nx] 36)).alloc (UP Cg 36))):=BE.start _ _ _ _;have HL1:AP (w.heap.size<((w.alloc (UP #[UF r.ok,UE UG r.g,UE UG r.t,UD aSD nSD cSD,UD aSU nSU cSU,UD aF mF cF,UD aD nD cD,UD aU nU cU,UE UO r.k,UD aT r.n cT,UE UG r.nx] 36)).alloc (UP Cg 36)).heap.size):=(AQ.1 HE1.o.b0).1;clear A1 A2 A3 A4 A5 A6 e1 e2 e3 e4 e5 e6 l1 l2 l3 l4 l5 l6;go_enter Tryz.func105,Tryz.ntmps105;go_wp2_with fail;generalize ((w.alloc (UP #[UF r.ok,UE UG r.g,UE UG r.t,UD aSD nSD cSD,UD aSU nSU cSU,UD aF mF cF,UD aD nD cD,UD aU nU cU,UE UO r.k,UD aT r.n cT,UE UG r.nx] 36)).alloc (UP Cg 36))=w1 at *;refine Ae AN ?_;refine DF 18 (λ_ a b=>Below a.heap.size a b) (frame:=(λ(a b c d e f g h i j k l m n o p:UL)=>λ(t:Nat->UL)=>({ tmps:=List.toArray [a,b,c,t 17,t 0,t 1,t 2,t 3,t 4,t 5,t 6,t 7,t 8,t 9,t 10,t 11,t 12,t 13,t 14,t 15,t 16,d,e,f,g,h,i,j,k,l,m,n,o,p],defers:=[] }:Act)) _ _ _ _ _ _ _ _ _ _ _ _ _ _ _ _)
  (Ext:=λL u w'=>Fo w1 [] L u w') (Good:=λi L w' v=>if i=0 then v=UM (UI ⟨w.heap.size,1,UJ⟩) else if i=1 then v=UM (UI ⟨w.heap.size,1,UJ⟩) else if i=2 then v=UE UG r.g else if i=3 then v=UM (UI ⟨w.heap.size,1,UJ⟩) else if i=4 then v=UM (UI ⟨w.heap.size,2,UJ⟩) else if i=5 then v=UE UG r.t else if i=6 then E3 w1.heap.size 2 w' v else if i=7 then v=UM (UI ⟨w.heap.size,1,UJ⟩) else if i=8 then v=UM (UI ⟨w.heap.size,3,UJ⟩) else if i=9 then v=UD aSD nSD cSD else if i=10 then Iow w1.heap.size w' v r.sD else if i=11 then E3 w1.heap.size 2 w' v else if i=12 then v=UM (UI ⟨w.heap.size,1,UJ⟩) else if i=13 then v=UM (UI ⟨w.heap.size,4,UJ⟩) else if i=14 then v=UD aSU nSU cSU else if i=15 then Iow w1.heap.size w' v r.sU else if i=16 then Sm w1.heap.size r.g r.t r.sD r.sU w' v else if i=17 then Qy w1.heap.size w' v else True) (Fin:=Tr 17 w1 r.g r.t r.sD r.sU) rfl AN ?hstab AN ?hop ?hend ?hdone _ _ ((λ(x0 x1 x2 x3 x4 x5 x6 x7 x8 x9 x10 x11 x12 x13 x14 x15 x16 x17:UL)=>λ(i:Nat)=>if i=0 then x0 else if i=1 then x1 else if i=2 then x2 else if i=3 then x3 else if i=4 then x4 else if i=5 then x5 else if i=6 then x6 else if i=7 then x7 else if i=8 then x8 else if i=9 then x9 else if i=10 then x10 else if i=11 then x11 else if i=12 then x12 else if i=13 then x13 else if i=14 then x14 else if i=15 then x15 else if i=16 then x16 else if i=17 then x17 else undef) _ _ _ _ _ _ _ _ _ _ _ _ _ _ _ _ _ _) _ AM ?none ?ext AM
 case none=>exact λ_=>FJ
 case ext=>exact Fo.start w1 [] _ _ (λ_=>FJ) ⟨rfl,rfl,rfl,AY _,λ_ _=>rfl⟩
 case hstab=>
  intro j L w9 w' i v _ hM _ _ h;by_cases h6:j=6
  ·subst h6;simp at h |-;exact h.below hM
  by_cases h10:j=10
  ·subst h10;simp at h |-;exact h.below hM
  by_cases h11:j=11
  ·subst h11;simp at h |-;exact h.below hM
  by_cases h15:j=15
  ·subst h15;simp at h |-;exact h.below hM
  by_cases h16:j=16
  ·subst h16;simp at h |-;exact h.below hM
  by_cases h17:j=17
  ·subst h17;simp at h |-;exact h.below hM
  simp only[if_neg h6,if_neg h10,if_neg h11,if_neg h15,if_neg h16,if_neg h17] at h |-;exact h
 case hop=>
  intro i o L t w' hi ho hLi hx hdep K hK;obtain rfl|rfl|rfl|rfl|rfl|rfl|rfl|rfl|rfl|rfl|rfl|rfl|rfl|rfl|rfl|rfl|rfl|rfl:i=0\/i=1\/i=2\/i=3\/i=4\/i=5\/i=6\/i=7\/i=8\/i=9\/i=10\/i=11\/i=12\/i=13\/i=14\/i=15\/i=16\/i=17:=AK
  all_goals(simp at ho;subst ho)
  ·clear hdep;have hK':=hK w' (UM (UI ⟨w.heap.size,1,UJ⟩)) AM (hx.step 0 _ Cs C7) Cs;clear hK;rw[AR AO];go_simp;simpa[Cr] using hK'
  ·have d0:t 0=UM (UI ⟨w.heap.size,1,UJ⟩):=by simpa using(hdep ⟨0,UR⟩ AM rfl).2
   clear hdep;have hK':=hK w' (UM (UI ⟨w.heap.size,1,UJ⟩)) AM (hx.step 1 _ Cs C7) Cs;clear hK;rw[AR AO];go_simp;simpa[Cr,d0] using hK'
  ·have d1:t 1=UM (UI ⟨w.heap.size,1,UJ⟩):=by simpa using(hdep ⟨1,UR⟩ AM rfl).2
   clear hdep;have cc:w'.cell? ⟨w.heap.size,1,UJ⟩=UI (UE UG r.g):=by rw[Aa (a:=⟨w.heap.size,1,UJ⟩) (w:=w1) (hx.below.block _ HL1.o),AA HE1.o.b0 1];rfl
   have hK':=hK w' (UE UG r.g) AM (hx.step 2 _ Cs C7) Cs;clear hK;rw[AR AO];go_simp;simpa[Cr,d1] using hK'
  ·clear hdep;have hK':=hK w' (UM (UI ⟨w.heap.size,1,UJ⟩)) AM (hx.step 3 _ Cs C7) Cs;clear hK;rw[AR AO];go_simp;simpa[Cr] using hK'
  ·have d3:t 3=UM (UI ⟨w.heap.size,1,UJ⟩):=by simpa using(hdep ⟨3,UR⟩ AM rfl).2
   clear hdep;have hK':=hK w' (UM (UI ⟨w.heap.size,2,UJ⟩)) AM (hx.step 4 _ Cs C7) Cs;clear hK;rw[AR AO];go_simp;simpa[Cr,d3] using hK'
  ·have d4:t 4=UM (UI ⟨w.heap.size,2,UJ⟩):=by simpa using(hdep ⟨4,UR⟩ AM rfl).2
   clear hdep;have cc:w'.cell? ⟨w.heap.size,2,UJ⟩=UI (UE UG r.t):=by rw[Aa (a:=⟨w.heap.size,2,UJ⟩) (w:=w1) (hx.below.block _ HL1.o),AA HE1.o.b0 2];rfl
   have hK':=hK w' (UE UG r.t) AM (hx.step 5 _ Cs C7) Cs;clear hK;rw[AR AO];go_simp;simpa[Cr,d4] using hK'
  ·clear hdep;have hsz:w1.heap.size<=w'.heap.size:=hx.below.size;have bb:Below w'.heap.size w' (w'.alloc (UP #[] 2)):=Cs.alloc Cw _;have hK':=hK (w'.alloc (UP #[] 2)) (UD (UI ⟨w'.heap.size,0,UJ⟩) 0 0) (by simpa using E3.new 2 w' hsz) (hx.step 6 _ bb C7) bb;clear hK bb;rw[AR AO];go_simp;simpa[Cr] using hK'
  ·clear hdep;have hK':=hK w' (UM (UI ⟨w.heap.size,1,UJ⟩)) AM (hx.step 7 _ Cs C7) Cs;clear hK;rw[AR AO];go_simp;simpa[Cr] using hK'
  ·have d7:t 7=UM (UI ⟨w.heap.size,1,UJ⟩):=by simpa using(hdep ⟨7,UR⟩ AM rfl).2
   clear hdep;have hK':=hK w' (UM (UI ⟨w.heap.size,3,UJ⟩)) AM (hx.step 8 _ Cs C7) Cs;clear hK;rw[AR AO];go_simp;simpa[Cr,d7] using hK'
  ·have d8:t 8=UM (UI ⟨w.heap.size,3,UJ⟩):=by simpa using(hdep ⟨8,UR⟩ AM rfl).2
   clear hdep;have cc:w'.cell? ⟨w.heap.size,3,UJ⟩=UI (UD aSD nSD cSD):=by rw[Aa (a:=⟨w.heap.size,3,UJ⟩) (w:=w1) (hx.below.block _ HL1.o),AA HE1.o.b0 3];rfl
   have hK':=hK w' (UD aSD nSD cSD) AM (hx.step 9 _ Cs C7) Cs;clear hK;rw[AR AO];go_simp;simpa[Cr,d8] using hK'
  ·have f6:E3 w1.heap.size 2 w' (t 6):=by simpa using(hdep ⟨6,UR⟩ AM rfl).2
   have d9:t 9=UD aSD nSD cSD:=by simpa using(hdep ⟨9,UR⟩ AM rfl).2
   clear hdep;have hsz:w1.heap.size<=w'.heap.size:=hx.below.size;have bw:Below w.heap.size w w':=HE1.o.below.trans (hx.below.mono HE1.o.below.size);have hK':∀ ww v,Iow w1.heap.size ww v r.sD->Below w'.heap.size w' ww->K _ ww:=λww v hv hb=>hK ww v (by simpa using hv) (hx.step 10 v hb C7) hb
   clear hK;rw[AR AO];refine E4 28 2 (UE UO 0) 1 8 Tryz.infoI64 Tryz.underlying28 rfl AL AL w' (.tmp 10) (.tmp 13) rfl w1.heap.size (t 6) rfl f6 aSD nSD cSD r.sD d9 (by rw[HN.o.1,B8]) (HA.o.1.below bw) HM.o.1 hsz ?_;intro v' ww h1 h2;have hK2:=hK' ww v' (by unfold Iow;rw[HN.o.1];exact h1) h2;clear hK' h1 h2;simpa[Cr,Act.put] using hK2
  ·clear hdep;have hsz:w1.heap.size<=w'.heap.size:=hx.below.size;have bb:Below w'.heap.size w' (w'.alloc (UP #[] 2)):=Cs.alloc Cw _;have hK':=hK (w'.alloc (UP #[] 2)) (UD (UI ⟨w'.heap.size,0,UJ⟩) 0 0) (by simpa using E3.new 2 w' hsz) (hx.step 11 _ bb C7) bb;clear hK bb;rw[AR AO];go_simp;simpa[Cr] using hK'
  ·clear hdep;have hK':=hK w' (UM (UI ⟨w.heap.size,1,UJ⟩)) AM (hx.step 12 _ Cs C7) Cs;clear hK;rw[AR AO];go_simp;simpa[Cr] using hK'
  ·have d12:t 12=UM (UI ⟨w.heap.size,1,UJ⟩):=by simpa using(hdep ⟨12,UR⟩ AM rfl).2
   clear hdep;have hK':=hK w' (UM (UI ⟨w.heap.size,4,UJ⟩)) AM (hx.step 13 _ Cs C7) Cs;clear hK;rw[AR AO];go_simp;simpa[Cr,d12] using hK'
  ·have d13:t 13=UM (UI ⟨w.heap.size,4,UJ⟩):=by simpa using(hdep ⟨13,UR⟩ AM rfl).2
   clear hdep;have cc:w'.cell? ⟨w.heap.size,4,UJ⟩=UI (UD aSU nSU cSU):=by rw[Aa (a:=⟨w.heap.size,4,UJ⟩) (w:=w1) (hx.below.block _ HL1.o),AA HE1.o.b0 4];rfl
   have hK':=hK w' (UD aSU nSU cSU) AM (hx.step 14 _ Cs C7) Cs;clear hK;rw[AR AO];go_simp;simpa[Cr,d13] using hK'
  ·have f11:E3 w1.heap.size 2 w' (t 11):=by simpa using(hdep ⟨11,UR⟩ AM rfl).2
   have d14:t 14=UD aSU nSU cSU:=by simpa using(hdep ⟨14,UR⟩ AM rfl).2
   clear hdep;have hsz:w1.heap.size<=w'.heap.size:=hx.below.size;have bw:Below w.heap.size w w':=HE1.o.below.trans (hx.below.mono HE1.o.below.size);have hK':∀ ww v,Iow w1.heap.size ww v r.sU->Below w'.heap.size w' ww->K _ ww:=λww v hv hb=>hK ww v (by simpa using hv) (hx.step 15 v hb C7) hb
   clear hK;rw[AR AO];refine E4 28 2 (UE UO 0) 1 8 Tryz.infoI64 Tryz.underlying28 rfl AL AL w' (.tmp 15) (.tmp 18) rfl w1.heap.size (t 11) rfl f11 aSU nSU cSU r.sU d14 (by rw[HN.o.2.1,B8]) (HA.o.2.1.below bw) HM.o.2.1 hsz ?_;intro v' ww h1 h2;have hK2:=hK' ww v' (by unfold Iow;rw[HN.o.2.1];exact h1) h2;clear hK' h1 h2;simpa[Cr,Act.put] using hK2
  ·have d2:t 2=UE UG r.g:=by simpa using(hdep ⟨2,UR⟩ AM rfl).2
   have d5:t 5=UE UG r.t:=by simpa using(hdep ⟨5,UR⟩ AM rfl).2
   have f10:Iow w1.heap.size w' (t 10) r.sD:=by simpa using(hdep ⟨10,UR⟩ AM rfl).2
   have f15:Iow w1.heap.size w' (t 15) r.sU:=by simpa using(hdep ⟨15,UR⟩ AM rfl).2
   clear hdep;obtain⟨bSD,mSD,dSD,eD⟩:=f10.form;obtain⟨bSU,mSU,dSU,eU⟩:=f15.form;rw[eD] at f10;rw[eU] at f15;have hsv:Sm w1.heap.size r.g r.t r.sD r.sU w' (UN #[UE UG r.g,UE UG r.t,UD bSD mSD dSD,UD bSU mSU dSU]):=⟨bSD,mSD,dSD,bSU,mSU,dSU,rfl,f10,f15⟩
   have hK':=hK w' (UN #[UE UG r.g,UE UG r.t,UD bSD mSD dSD,UD bSU mSU dSU]) (by simpa using hsv) (hx.step 16 _ Cs C7) Cs;clear hK f10 f15 hsv;rw[AR AO];go_simp;simpa[Cr,d2,d5,eD,eU] using hK'
  ·clear hdep;have hsz:w1.heap.size<=w'.heap.size:=hx.below.size;have bb:Below w'.heap.size w' (w'.alloc (UP Cj 30)):=Cs.alloc Cw _;have hnw:Qy w1.heap.size (w'.alloc (UP Cj 30)) (UM (UI ⟨w'.heap.size,0,UJ⟩)):=⟨w'.heap.size,rfl,hsz,AV w' _⟩
   have hK':=hK (w'.alloc (UP Cj 30)) (UM (UI ⟨w'.heap.size,0,UJ⟩)) (by simpa using hnw) (hx.step 17 _ bb C7) bb;clear hK bb hnw;rw[AR AO];go_simp;simpa[Cr] using hK'
 case hend=>
  intro o L t w' ho hx hg K hK;simp at ho;subst ho;have f16:Sm w1.heap.size r.g r.t r.sD r.sU w' (t 16):=by simpa using(hg 16 AL).2
  have f17:Qy w1.heap.size w' (t 17):=by simpa using(hg 17 AL).2
  clear hg;obtain⟨bSD,mSD,dSD,bSU,mSU,dSU,e16,i1,i2⟩:=f16;obtain⟨q,e17,hq,hbx⟩:=f17;have hTT:(30:TypeId)≠2:=AL
  have hK':∀ ww,Wr q w' ww->ww.heap[q]?=UI (UP #[UE UG r.g,UE UG r.t,UD bSD mSD dSD,UD bSU mSU dSU] 30 (0,0))->K _ ww:=λww hw hr=>hK ww undef ⟨q,bSD,mSD,dSD,bSU,mSU,dSU,by simp[Cr];exact e17,hq,hr,i1.keepN hbx hTT hw,i2.keepN hbx hTT hw,hx.below.trans (hw.below hq)⟩
  clear hK i1 i2 hTT;rw[AR AO];refine A8 30 (.tmp 3) (.tmp 20) rfl q #[UE UG r.g,UE UG r.t,UD bSD mSD dSD,UD bSU mSU dSU] e17 e16 30 _ hbx HSN.o rfl (PK _ _ _ _ _ _ _ _) ?_;have hK2:=hK' _ (Wr.setRow _ _ _) (AB hbx);clear hK';simpa[Cr,Act.put] using hK2
 case hdone=>
  intro t w2 hf;obtain⟨Q,bSD,mSD,dSD,bSU,mSU,dSU,eQ,hQ,hbx,i1,i2,hbw⟩:=hf;have HE2:AP (BE w 36 #[UF r.ok,UE UG r.g,UE UG r.t,UD aSD nSD cSD,UD aSU nSU cSU,UD aF mF cF,UD aD nD cD,UD aU nU cU,UE UO r.k,UD aT r.n cT,UE UG r.nx] Cg w2):=HE1.o.call hbw;have HL2:AP (w.heap.size<w2.heap.size):=Ax HL1.o hbw.size;have HQ:AP (w2.heap[Q]?=UI (UP #[UE UG r.g,UE UG r.t,UD bSD mSD dSD,UD bSU mSU dSU] 30 (0,0))/\Q<w2.heap.size):=⟨hbx,(AQ.1 hbx).1⟩
  have HI:AP (Iow w1.heap.size w2 (UD bSD mSD dSD) r.sD/\Iow w1.heap.size w2 (UD bSU mSU dSU) r.sU/\w.heap.size+1<w1.heap.size):=⟨i1,i2,(AQ.1 HE1.o.b1).1⟩
  simp only[eQ];clear eQ hQ hbx i1 i2 hbw;go_wp2_with fail;refine Ae AN ?_;refine DF 13 (λ_ a b=>Below a.heap.size a b) (frame:=(λ(a b c d e f g h i j k l m n o p q r s u v:UL)=>λ(t:Nat->UL)=>({ tmps:=List.toArray [a,b,c,d,e,f,g,h,i,j,k,l,m,n,o,p,q,r,s,u,v,t 0,t 1,t 2,t 3,t 4,t 5,t 6,t 7,t 8,t 9,t 10,t 11,t 12],defers:=[] }:Act)) _ _ _ _ _ _ _ _ _ _ _ _ _ _ _ _ _ _ _ _ _)
   (Ext:=λL u w'=>Fo w2 [] L u w') (Good:=λi L w' v=>if i=0 then v=UM (UI ⟨w.heap.size,0,UJ⟩) else if i=1 then v=UF r.ok else if i=2 then v=UN #[UE UG r.g,UE UG r.t,UD bSD mSD dSD,UD bSU mSU dSU] else if i=3 then E3 w2.heap.size 112 w' v else if i=4 then v=UM (UI ⟨w.heap.size,5,UJ⟩) else if i=5 then v=UD aF mF cF else if i=6 then FO w2.heap.size w' v r.F mF else if i=7 then v=UM (UI ⟨w.heap.size,6,UJ⟩) else if i=8 then v=UN #[UD aD nD cD,UD aU nU cU,UE UO r.k,UD aT r.n cT] else if i=9 then IT w2.heap.size r.k r.D r.U r.T r.n w' v else if i=10 then v=UM (UI ⟨w.heap.size,10,UJ⟩) else if i=11 then v=UE UG r.nx else if i=12 then Sn w2.heap.size r bSD bSU mSD dSD mSU dSU mF w' v else True) (Fin:=λ_ ww=>∃ C,ww.heap[w.heap.size+1]?=UI (UP C 36 (0,0))/\Mq w.heap.size ww (UN C) r/\C.size=11/\Below w.heap.size w ww) rfl AN ?hstab AN ?hop ?hend ?hdone _ _ ((λ(x0 x1 x2 x3 x4 x5 x6 x7 x8 x9 x10 x11 x12:UL)=>λ(i:Nat)=>if i=0 then x0 else if i=1 then x1 else if i=2 then x2 else if i=3 then x3 else if i=4 then x4 else if i=5 then x5 else if i=6 then x6 else if i=7 then x7 else if i=8 then x8 else if i=9 then x9 else if i=10 then x10 else if i=11 then x11 else if i=12 then x12 else undef) _ _ _ _ _ _ _ _ _ _ _ _ _) _ AM ?none ?ext AM
  case none=>exact λ_=>FJ
  case ext=>exact Fo.start w2 [] _ _ (λ_=>FJ) ⟨rfl,rfl,rfl,AY _,λ_ _=>rfl⟩
  case hstab=>
   intro j L w9 w' i v _ hM _ _ h;by_cases h3:j=3
   ·subst h3;simp at h |-;exact h.below hM
   by_cases h6:j=6
   ·subst h6;simp at h |-;exact h.below hM
   by_cases h9:j=9
   ·subst h9;simp at h |-;exact h.below hM
   by_cases h12:j=12
   ·subst h12;simp at h |-;exact h.below hM
   simp only[if_neg h3,if_neg h6,if_neg h9,if_neg h12] at h |-;exact h
  case hop=>
   intro i o L t w' hi ho hLi hx hdep K hK;obtain rfl|rfl|rfl|rfl|rfl|rfl|rfl|rfl|rfl|rfl|rfl|rfl|rfl:i=0\/i=1\/i=2\/i=3\/i=4\/i=5\/i=6\/i=7\/i=8\/i=9\/i=10\/i=11\/i=12:=AK
   all_goals(simp at ho;subst ho)
   ·clear hdep;have hK':=hK w' (UM (UI ⟨w.heap.size,0,UJ⟩)) AM (hx.step 0 _ Cs C7) Cs;clear hK;rw[AR AO];go_simp;simpa[Cr] using hK'
   ·have d0:t 0=UM (UI ⟨w.heap.size,0,UJ⟩):=by simpa using(hdep ⟨0,UR⟩ AM rfl).2
    clear hdep;have cc:w'.cell? ⟨w.heap.size,0,UJ⟩=UI (UF r.ok):=by rw[Aa (a:=⟨w.heap.size,0,UJ⟩) (w:=w2) (hx.below.block _ HL2.o),AA HE2.o.b0 0];rfl
    have hK':=hK w' (UF r.ok) AM (hx.step 1 _ Cs C7) Cs;clear hK;rw[AR AO];go_simp;simpa[Cr,d0] using hK'
   ·clear hdep;have hK':=hK w' (UN #[UE UG r.g,UE UG r.t,UD bSD mSD dSD,UD bSU mSU dSU]) AM (hx.step 2 _ Cs C7) Cs;clear hK;rw[AR AO];refine BL 30 (.tmp 3) rfl Q rfl 30 _ (0,0) _ ((hx.below.block _ HQ.o.2).trans HQ.o.1) Tryz.underlying30 rfl HSN.o ?_;simpa[Cr,Act.put] using hK'
   ·clear hdep;have hsz:w2.heap.size<=w'.heap.size:=hx.below.size;have bb:Below w'.heap.size w' (w'.alloc (UP #[] 112)):=Cs.alloc Cw _;have hK':=hK (w'.alloc (UP #[] 112)) (UD (UI ⟨w'.heap.size,0,UJ⟩) 0 0) (by simpa using E3.new 112 w' hsz) (hx.step 3 _ bb C7) bb;clear hK bb;rw[AR AO];go_simp;simpa[Cr] using hK'
   ·clear hdep;have hK':=hK w' (UM (UI ⟨w.heap.size,5,UJ⟩)) AM (hx.step 4 _ Cs C7) Cs;clear hK;rw[AR AO];go_simp;simpa[Cr] using hK'
   ·have d4:t 4=UM (UI ⟨w.heap.size,5,UJ⟩):=by simpa using(hdep ⟨4,UR⟩ AM rfl).2
    clear hdep;have cc:w'.cell? ⟨w.heap.size,5,UJ⟩=UI (UD aF mF cF):=by rw[Aa (a:=⟨w.heap.size,5,UJ⟩) (w:=w2) (hx.below.block _ HL2.o),AA HE2.o.b0 5];rfl
    have hK':=hK w' (UD aF mF cF) AM (hx.step 5 _ Cs C7) Cs;clear hK;rw[AR AO];go_simp;simpa[Cr,d4] using hK'
   ·have f3:E3 w2.heap.size 112 w' (t 3):=by simpa using(hdep ⟨3,UR⟩ AM rfl).2
    have d5:t 5=UD aF mF cF:=by simpa using(hdep ⟨5,UR⟩ AM rfl).2
    clear hdep;have hsz:w2.heap.size<=w'.heap.size:=hx.below.size;have bw:Below w.heap.size w w':=HE2.o.below.trans (hx.below.mono HE2.o.below.size);have hK':∀ ww v,FO w2.heap.size ww v r.F mF->Below w'.heap.size w' ww->K _ ww:=λww v hv hb=>hK ww v (by simpa using hv) (hx.step 6 v hb C7) hb
    clear hK;rw[AR AO];refine LN w' (.tmp 24) (.tmp 26) rfl w2.heap.size (t 3) rfl f3 aF mF cF r.F d5 HN.o.2.2 (FC.below HA.o.2.2 bw) HM.o.2.2 hsz ?_;intro v' ww h1 h2;have hK2:=hK' ww v' h1 h2;clear hK' h1 h2;simpa[Cr,Act.put] using hK2
   ·clear hdep;have hK':=hK w' (UM (UI ⟨w.heap.size,6,UJ⟩)) AM (hx.step 7 _ Cs C7) Cs;clear hK;rw[AR AO];go_simp;simpa[Cr] using hK'
   ·have d7:t 7=UM (UI ⟨w.heap.size,6,UJ⟩):=by simpa using(hdep ⟨7,UR⟩ AM rfl).2
    clear hdep;have c6:w'.cell? ⟨w.heap.size,6,UJ⟩=UI (UD aD nD cD):=by rw[Aa (a:=⟨w.heap.size,6,UJ⟩) (w:=w2) (hx.below.block _ HL2.o),AA HE2.o.b0 6];rfl
    have c7:w'.cell? ⟨w.heap.size,7,UJ⟩=UI (UD aU nU cU):=by rw[Aa (a:=⟨w.heap.size,7,UJ⟩) (w:=w2) (hx.below.block _ HL2.o),AA HE2.o.b0 7];rfl
    have c8:w'.cell? ⟨w.heap.size,8,UJ⟩=UI (UE UO r.k):=by rw[Aa (a:=⟨w.heap.size,8,UJ⟩) (w:=w2) (hx.below.block _ HL2.o),AA HE2.o.b0 8];rfl
    have c9:w'.cell? ⟨w.heap.size,9,UJ⟩=UI (UD aT r.n cT):=by rw[Aa (a:=⟨w.heap.size,9,UJ⟩) (w:=w2) (hx.below.block _ HL2.o),AA HE2.o.b0 9];rfl
    have hK':=hK w' (UN #[UD aD nD cD,UD aU nU cU,UE UO r.k,UD aT r.n cT]) AM (hx.step 8 _ Cs C7) Cs;clear hK;rw[AR AO];go_simp;simpa[Cr,d7] using hK'
   ·have d8:t 8=UN #[UD aD nD cD,UD aU nU cU,UE UO r.k,UD aT r.n cT]:=by simpa using(hdep ⟨8,UR⟩ AM rfl).2
    clear hdep;have bw:Below w.heap.size w w':=HE2.o.below.trans (hx.below.mono HE2.o.below.size);have hsz:w2.heap.size<=w'.heap.size:=hx.below.size;have A:=HC5.o w' bw;have hK':∀ ww v,IT w2.heap.size r.k r.D r.U r.T r.n ww v->Below w'.heap.size w' ww->K _ ww:=λww v hv hb=>hK ww v (by simpa using hv) (hx.step 9 v hb C7) hb
    clear hK;rw[AR AO];go_simp;try simp only[d8]
    refine A.mono ?_;rintro e w9 ⟨cs9,rfl,h9,hb9⟩;have hK2:=hK' w9 (UN cs9) ⟨cs9,rfl,h9.mono hsz⟩ hb9;clear hK' A h9 hb9;go_simp;simpa[Cr,d8] using hK2
   ·clear hdep;have hK':=hK w' (UM (UI ⟨w.heap.size,10,UJ⟩)) AM (hx.step 10 _ Cs C7) Cs;clear hK;rw[AR AO];go_simp;simpa[Cr] using hK'
   ·have d10:t 10=UM (UI ⟨w.heap.size,10,UJ⟩):=by simpa using(hdep ⟨10,UR⟩ AM rfl).2
    clear hdep;have cc:w'.cell? ⟨w.heap.size,10,UJ⟩=UI (UE UG r.nx):=by rw[Aa (a:=⟨w.heap.size,10,UJ⟩) (w:=w2) (hx.below.block _ HL2.o),AA HE2.o.b0 10];rfl
    have hK':=hK w' (UE UG r.nx) AM (hx.step 11 _ Cs C7) Cs;clear hK;rw[AR AO];go_simp;simpa[Cr,d10] using hK'
   ·have d1:t 1=UF r.ok:=by simpa using(hdep ⟨1,UR⟩ AM rfl).2
    have d2:t 2=UN #[UE UG r.g,UE UG r.t,UD bSD mSD dSD,UD bSU mSU dSU]:=by simpa using(hdep ⟨2,UR⟩ AM rfl).2
    have f6:FO w2.heap.size w' (t 6) r.F mF:=by simpa using(hdep ⟨6,UR⟩ AM rfl).2
    have f9:IT w2.heap.size r.k r.D r.U r.T r.n w' (t 9):=by simpa using(hdep ⟨9,UR⟩ AM rfl).2
    have d11:t 11=UE UG r.nx:=by simpa using(hdep ⟨11,UR⟩ AM rfl).2
    clear hdep;obtain⟨bF,dF,e6,_⟩:=f6.form;obtain⟨cs,e9,bD,mD,dD,bU,mU,dU,bT,dT,ec,i1,i2,i3⟩:=f9;rw[e6] at f6;subst ec;have hsv:Sn w2.heap.size r bSD bSU mSD dSD mSU dSU mF w' (UN #[UF r.ok,UE UG r.g,UE UG r.t,UD bSD mSD dSD,UD bSU mSU dSU,UD bF mF dF,UD bD mD dD,UD bU mU dU,UE UO r.k,UD bT r.n dT,UE UG r.nx]):=⟨bF,dF,bD,mD,dD,bU,mU,dU,bT,dT,rfl,f6,i1,i2,i3⟩
    have hK':=hK w' (UN #[UF r.ok,UE UG r.g,UE UG r.t,UD bSD mSD dSD,UD bSU mSU dSU,UD bF mF dF,UD bD mD dD,UD bU mU dU,UE UO r.k,UD bT r.n dT,UE UG r.nx]) (by simpa using hsv) (hx.step 12 _ Cs C7) Cs;clear hK f6 i1 i2 i3 hsv;rw[AR AO];go_simp;simpa[Cr,d1,d2,e6,e9,d11] using hK'
  case hend=>
   intro o L t w' ho hx hg K hK;simp at ho;subst ho;have f12:Sn w2.heap.size r bSD bSU mSD dSD mSU dSU mF w' (t 12):=by simpa using(hg 12 AL).2
   clear hg;obtain⟨bF,dF,bD,mD,dD,bU,mU,dU,bT,dT,e12,j0,j1,j2,j3⟩:=f12;have hrs:w'.heap[w.heap.size+1]?=UI (UP Cg 36 (0,0)):=(hx.below.block _ (AQ.1 HE2.o.b1).1).trans HE2.o.b1;have hK':∀ ww,Wr (w.heap.size+1) w' ww->ww.heap[w.heap.size+1]?=UI (UP #[UF r.ok,UE UG r.g,UE UG r.t,UD bSD mSD dSD,UD bSU mSU dSU,UD bF mF dF,UD bD mD dD,UD bU mU dU,UE UO r.k,UD bT r.n dT,UE UG r.nx] 36 (0,0))->K _ ww:=λww hw hr=>hK ww undef (by
    have k1:=(HI.o.1.below hx.below).wr hw HI.o.2.2;have k2:=(HI.o.2.1.below hx.below).wr hw HI.o.2.2;have hlt:w.heap.size+1<w2.heap.size:=(AQ.1 HE2.o.b1).1;have k3:=FO.keep j0 (λk hk _=>hw.block k AK);have k4:=j1.wr hw hlt;have k5:=j2.wr hw hlt;have k6:=j3.wr hw hlt;obtain⟨x1,y1,z1⟩:=k1.sat;obtain⟨x2,y2,z2⟩:=k2.sat;obtain⟨x4,y4,z4⟩:=k4.sat;obtain⟨x5,y5,z5⟩:=k5.sat;obtain⟨bF',dF',e3,x3,u3,z3⟩:=k3.form;cases e3;obtain⟨x6,y6,z6⟩:=RL k6;have hl1:w.heap.size<=w1.heap.size:=HE1.o.below.size;have hl2:w.heap.size<=w2.heap.size:=HE2.o.below.size;exact⟨_,hr,⟨bSD,mSD,dSD,bSU,mSU,dSU,bF,mF,dF,bD,mD,dD,bU,mU,dU,bT,dT,rfl,⟨x1.at_,x2.at_,x3,x4.at_,x5.at_,x6,y1,y2,k3.len,y4,y5,y6⟩,⟨z1.mono hl1 Cw,z2.mono hl1 Cw,z3.mono hl2 Cw,z4.mono hl2 Cw,z5.mono hl2 Cw,z6.mono hl2 Cw⟩,u3⟩,rfl,(HE2.o.below.trans (hx.below.mono HE2.o.below.size)).trans (hw.below AK)⟩)
   clear hK j0 j1 j2 j3;rw[AR AO];refine A8 36 (.tmp 2) (.tmp 33) rfl (w.heap.size+1) #[UF r.ok,UE UG r.g,UE UG r.t,UD bSD mSD dSD,UD bSU mSU dSU,UD bF mF dF,UD bD mD dD,UD bU mU dU,UE UO r.k,UD bT r.n dT,UE UG r.nx] rfl e12 36 _ hrs HSI.o rfl (by simp[Value.oneCell']) ?_;have hK2:=hK' _ (Wr.setRow _ _ _) (AB hrs);clear hK';simpa[Cr,Act.put] using hK2
  case hdone=>
   intro t w9 hf;obtain⟨C,hr,hI,hz,hb9⟩:=hf;have HR9:AP (w9.heap[w.heap.size+1]?=UI (UP C 36 (0,0))):=hr;have HF:AP (Mq w.heap.size w9 (UN C) r/\Below w.heap.size w w9):=⟨hI,hb9⟩
   have HS9:AP ((Tryz.prog.info? 36).map (·.size)=UI C.size):=by show _=_;rw[hz];exact HSI.o
   clear hr hI hz hb9;go_wp2_with fail;exact AZ (v:=UN C) (AW rfl _ _ (w.heap.size+1) 36 _ (0,0) _ rfl HR9.o Tryz.underlying36 rfl HS9.o) rfl ⟨_,rfl,HF.o.1,HF.o.2⟩
structure B3 (w:UK) (t0 t1 t2:TypeId) (c0 c1 c2:Array UL) (wr:UK):Prop where
 below:Below w.heap.size w wr
 b0:wr.heap[w.heap.size]?=UI (UP c0 t0 (0,0))
 b1:wr.heap[w.heap.size+1]?=UI (UP c1 t1 (0,0))
 b2:wr.heap[w.heap.size+2]?=UI (UP c2 t2 (0,0))
theorem B3.start (w:UK) (t0 t1 t2:TypeId) (c0 c1 c2:Array UL):B3 w t0 t1 t2 c0 c1 c2 (((w.alloc (UP c0 t0)).alloc (UP c1 t1)).alloc (UP c2 t2)):=by
 refine⟨((Cs.alloc Cw _).alloc AM _).alloc (by simp;omega) _,?_,?_,?_⟩
 ·rw[BH _ _ w.heap.size (by simp;omega),BH _ _ w.heap.size AM];exact AV w _
 ·rw[BH _ _ (w.heap.size+1) AM];have:=AV (w.alloc (UP c0 t0)) (UP c1 t1)
  rwa [show(w.alloc (UP c0 t0)).heap.size=w.heap.size+1 by simp] at this
 ·have:=AV ((w.alloc (UP c0 t0)).alloc (UP c1 t1)) (UP c2 t2)
  rwa [show((w.alloc (UP c0 t0)).alloc (UP c1 t1)).heap.size=w.heap.size+2 by simp] at this
structure SM (w:UK) (t0 t1:TypeId) (c0 c1:Array UL) (wr:UK):Prop where
 below:Below w.heap.size w wr
 b0:wr.heap[w.heap.size]?=UI (UP c0 t0 (0,0))
 b1:wr.heap[w.heap.size+1]?=UI (UP c1 t1 (0,0))
theorem SM.start (w:UK) (t0 t1:TypeId) (c0 c1:Array UL):SM w t0 t1 c0 c1 ((w.alloc (UP c0 t0)).alloc (UP c1 t1)):=by
 refine⟨(Cs.alloc Cw _).alloc AM _,?_,?_⟩
 ·rw[BH _ _ w.heap.size AM];exact AV w _
 ·have:=AV (w.alloc (UP c0 t0)) (UP c1 t1)
  rwa [show(w.alloc (UP c0 t0)).heap.size=w.heap.size+1 by simp] at this
section
variable {lo lo':Nat} {w w':UK} {zs ks:List Int} {v vd vk vi:UL} {f:Int} {d:Bool} {r:Dt}
def So (lo:Nat) (w:UK) (v:UL) (zs ks:List Int) (f:Int) (d:Bool) (r:Dt):Prop:=∃ C,v=UN C/\GP lo w C zs ks f d r
theorem So.below (h:So lo w v zs ks f d r) (b:Below w.heap.size w w'):So lo w' v zs ks f d r:=by obtain⟨C,e,h⟩:=h;exact⟨C,e,h.below b⟩
theorem I6.low {aSD aSU aF aD aU aT:Option Addr} {nSD nSU mF nD nU nT b1 b2:Nat} (g:I6 lo b1 b2 w aSD aSU aF aD aU aT nSD nSU mF nD nU nT) (hl:lo'<=lo):I6 lo' b1 b2 w aSD aSU aF aD aU aT nSD nSU mF nD nU nT:=
 ⟨g.oSD,g.oSU,g.oF,g.oD,g.oU,g.oT,λad e=>AG (g.lSD ad e),λad e=>AG (g.lSU ad e),λad e=>AG (g.lF ad e),λad e=>AG (g.lD ad e),λad e=>AG (g.lU ad e),λad e=>AG (g.lT ad e),g.sDU,g.dU,g.dT,g.uT,g.xS,g.xF⟩
theorem ME.belowF (h:ME w v r) (b:Below w.heap.size w w'):ME w' v r:=by
 obtain⟨aSD,nSD,cSD,aSU,nSU,cSU,aF,mF,cF,aD,nD,cD,aU,nU,cU,aT,cT,e,a1,a2,a3,a4,a5,a6,h⟩:=h;exact⟨aSD,nSD,cSD,aSU,nSU,cSU,aF,mF,cF,aD,nD,cD,aU,nU,cU,aT,cT,e,a1.below b,a2.below b,FC.below a3 b,a4.below b,a5.below b,a6.below b,h⟩
theorem GP.mono {C:Array UL} (h:GP lo w C zs ks f d r) (hl:lo'<=lo):GP lo' w C zs ks f d r:=by
 obtain⟨da,dc,ca,cc,ka,kc,aSD,nSD,cSD,aSU,nSU,cSU,aF,mF,cF,aD,nD,cD,aU,nU,cU,aT,cT,e,h1,h2,h3,h4,⟨b1,b2,h5⟩,h6,h7⟩:=h;exact⟨da,dc,ca,cc,ka,kc,aSD,nSD,cSD,aSU,nSU,cSU,aF,mF,cF,aD,nD,cD,aU,nU,cU,aT,cT,e,h1,h2.mono hl,h3.mono hl,h4,⟨b1,b2,h5.low hl⟩,h6,h7⟩
def IU (lo:Nat) (w:UK) (v:UL) (r:Dt):Prop:=∃ aSD nSD cSD aSU nSU cSU aF mF cF aD nD cD aU nU cU aT cT b1 b2,v=UN #[UF r.ok,UE UG r.g,UE UG r.t,UD aSD nSD cSD,UD aSU nSU cSU,UD aF mF cF,UD aD nD cD,UD aU nU cU,UE UO r.k,UD aT r.n cT,UE UG r.nx]/\I6 lo b1 b2 w aSD aSU aF aD aU aT nSD nSU mF nD nU r.n/\KO w aSD aSU aF aD aU aT nSD nSU mF nD nU r/\mF<=cF
theorem IU.below (h:IU lo w v r) (b:Below w.heap.size w w'):IU lo w' v r:=by
 obtain⟨aSD,nSD,cSD,aSU,nSU,cSU,aF,mF,cF,aD,nD,cD,aU,nU,cU,aT,cT,b1,b2,e,h1,h2,h3⟩:=h;exact⟨aSD,nSD,cSD,aSU,nSU,cSU,aF,mF,cF,aD,nD,cD,aU,nU,cU,aT,cT,b1,b2,e,h1.below b,h2.below b,h3⟩
theorem IU.of (h:MC lo w v r) (hl:lo'<=lo):IU lo' w v r:=by
 obtain⟨aSD,nSD,cSD,aSU,nSU,cSU,aF,mF,cF,aD,nD,cD,aU,nU,cU,aT,cT,b1,b2,e,h1,h2,h3⟩:=h.six2;exact⟨aSD,nSD,cSD,aSU,nSU,cSU,aF,mF,cF,aD,nD,cD,aU,nU,cU,aT,cT,b1,b2,e,h1.low hl,h2,h3⟩
theorem DH {cs:Array UL} {a:Option Addr} {n c:Nat} {ad:Addr} (i:Nat) (hc:cs.toList[i]?=UI (UD a n c)) (h:a=UI ad):Value.has (UN cs) ad.block:=.inr ⟨cs,rfl,_,List.mem_of_getElem? hc,ad,h,rfl⟩
theorem Mp.fresh {w0:UK} (h:Mp w0.heap.size w v zs f d):DU w0 w v:=by
 obtain⟨da,dc,ca,cc,rfl,h1,h2,h3⟩:=h;intro k hk;obtain⟨x,hx,ad,hA,rfl⟩:=F6.1 hk;simp at hx;rcases hx with rfl|rfl|rfl|rfl
 ·exact h2.2.2 ad hA
 ·exact h3 ad hA
 all_goals cases hA
theorem KM.fresh {w0:UK} (h:KM w0.heap.size w v ks):DU w0 w v:=by
 obtain⟨ka,kc,rfl,h1⟩:=h;intro k hk;rcases hk with⟨ad,hA,rfl⟩|⟨cs,e,_⟩
 ·exact h1.2.2 ad hA
 ·cases e
theorem MC.fresh {w0:UK} (h:MC w0.heap.size w v r):DU w0 w v:=by
 obtain⟨aSD,nSD,cSD,aSU,nSU,cSU,aF,mF,cF,aD,nD,cD,aU,nU,cU,aT,cT,b1,b2,rfl,g,h2⟩:=h.six;obtain⟨l1,l2,l3,l4,l5,l6⟩:=g.l6;intro k hk;obtain⟨x,hx,ad,hA,rfl⟩:=F6.1 hk;simp at hx;rcases hx with rfl|rfl|rfl|rfl|rfl|rfl|rfl|rfl|rfl|rfl|rfl
 ·cases hA
 ·cases hA
 ·cases hA
 ·exact l1 ad hA
 ·exact l2 ad hA
 ·exact l3 ad hA
 ·exact l4 ad hA
 ·exact l5 ad hA
 ·cases hA
 ·exact l6 ad hA
 ·cases hA
theorem Mr (h1:Mp lo w vd zs f d) (h2:KM lo w vk ks) (h3:IU lo w vi r) (a1:Ir vd vk) (a2:Ir vd vi) (a3:Ir vk vi) :
  ∃ da dc ca cc ka kc aSD nSD cSD aSU nSU cSU aF mF cF aD nD cD aU nU cU aT cT,vd=UN #[UD da zs.length dc,UD ca 0 cc,UE UO f,UF d]/\vk=UD ka ks.length kc/\vi=UN #[UF r.ok,UE UG r.g,UE UG r.t,UD aSD nSD cSD,UD aSU nSU cSU,UD aF mF cF,UD aD nD cD,UD aU nU cU,UE UO r.k,UD aT r.n cT,UE UG r.nx]/\GP lo w #[UD da zs.length dc,UD ca 0 cc,UE UO f,UF d,UD ka ks.length kc,UF r.ok,UE UG r.g,UE UG r.t,UD aSD nSD cSD,UD aSU nSU cSU,UD aF mF cF,UD aD nD cD,UD aU nU cU,UE UO r.k,UD aT r.n cT,UE UG r.nx] zs ks f d r:=by
 obtain⟨da,dc,ca,cc,rfl,q1,q2,q3⟩:=h1;obtain⟨ka,kc,rfl,q4⟩:=h2;obtain⟨aSD,nSD,cSD,aSU,nSU,cSU,aF,mF,cF,aD,nD,cD,aU,nU,cU,aT,cT,b1,b2,rfl,q5,q6,q7⟩:=h3;refine⟨da,dc,ca,cc,ka,kc,aSD,nSD,cSD,aSU,nSU,cSU,aF,mF,cF,aD,nD,cD,aU,nU,cU,aT,cT,rfl,rfl,rfl,da,dc,ca,cc,ka,kc,aSD,nSD,cSD,aSU,nSU,cSU,aF,mF,cF,aD,nD,cD,aU,nU,cU,aT,cT,rfl,⟨q1,q7⟩,q2,q4,q6,⟨b1,b2,q5⟩,λad e=>?_,λad e=>?_⟩
 ·have hd:Value.has (UN #[UD da zs.length dc,UD ca 0 cc,UE UO f,UF d]) ad.block:=DH 0 rfl e;refine⟨λx hx e2=>a1 _ hd (.inl ⟨x,hx,e2.symm⟩),?_⟩;exact⟨λx hx e2=>a2 _ hd (by rw[e2];exact DH 3 rfl hx),λx hx e2=>a2 _ hd (by rw[e2];exact DH 4 rfl hx),λx hx e2=>a2 _ hd (by rw[e2];exact DH 5 rfl hx),λx hx e2=>a2 _ hd (by rw[e2];exact DH 6 rfl hx),λx hx e2=>a2 _ hd (by rw[e2];exact DH 7 rfl hx),λx hx e2=>a2 _ hd (by rw[e2];exact DH 9 rfl hx)⟩
 ·have hd:Value.has (UD ka ks.length kc) ad.block:=.inl ⟨ad,e,rfl⟩;exact⟨λx hx e2=>a3 _ hd (by rw[e2];exact DH 3 rfl hx),λx hx e2=>a3 _ hd (by rw[e2];exact DH 4 rfl hx),λx hx e2=>a3 _ hd (by rw[e2];exact DH 5 rfl hx),λx hx e2=>a3 _ hd (by rw[e2];exact DH 6 rfl hx),λx hx e2=>a3 _ hd (by rw[e2];exact DH 7 rfl hx),λx hx e2=>a3 _ hd (by rw[e2];exact DH 9 rfl hx)⟩
end
theorem RP (vd:UL) (zs ks:List Int) (f:Int) (d:Bool) (r:Dt) (za:Option Addr) (zc:Nat) (w:UK) (h1:Ei w vd zs [] f d) (h2:At .u8 w za ks) (hr:Ez zs [] f=r) (bz:Cu zs) (hz:zs.length<=1048576) (hk:ks.length<=1048576) :
  Calls Tryz.prog 59 #[vd,UD za ks.length zc] w λe w'=>∃ C,e=UQ (UN C)/\GP w.heap.size w' C zs ks f d r/\Below w.heap.size w w':=by
 have HCD:AP (∀ ww,Below w.heap.size w ww->Calls Tryz.prog 109 #[vd] ww λe w'=>∃ v,e=UQ v/\DR w' ww.heap.size v zs [] f d/\Below ww.heap.size ww w'):=λww b=>Q3 vd zs [] f d ww (h1.below b) hz AM AM
 have HCK:AP (∀ ww,Below w.heap.size w ww->Calls Tryz.prog 110 #[UD za ks.length zc] ww λe w'=>∃ v,e=UQ v/\Dd w' ww.heap.size v ks/\Below ww.heap.size ww w'):=λww b=>GH za ks.length zc ks ww rfl hk (h2.below b)
 have HCI:AP (∀ ww,Below w.heap.size w ww->Calls Tryz.prog 9 #[vd] ww λe w'=>∃ v,e=UQ v/\MC ww.heap.size w' v r/\Below ww.heap.size ww w'):=λww b=>by
  rw[<-hr];obtain⟨xa,xc,ya,yc,rfl,x1,x2,x3⟩:=h1;exact Ml xa ya zs.length xc 0 yc f d zs [] ww rfl rfl (x1.below b) (.inl rfl) x3 hz AM AM bz (by simp[Cu])
 obtain⟨xa,xc,ya,yc,rfl,x1,x2,x3⟩:=h1;have HSD:AP ((Tryz.prog.info? 40).map (·.size)=UI 4):=by show _=_;kernel_rfl
 have HSG:AP ((Tryz.prog.info? 48).map (·.size)=UI 16):=by show _=_;kernel_rfl
 have HW:AP (SM w 40 48 #[UD xa zs.length xc,UD ya 0 yc,UE UO f,UF d] Ci ((w.alloc (UP #[UD xa zs.length xc,UD ya 0 yc,UE UO f,UF d] 40)).alloc (UP Ci 48))):=SM.start _ _ _ _ _;clear x1 x2 x3 h2 hz hk bz hr;go_enter Tryz.func59,Tryz.ntmps59;go_wp2_with fail;generalize ((w.alloc (UP #[UD xa zs.length xc,UD ya 0 yc,UE UO f,UF d] 40)).alloc (UP Ci 48))=w1 at *;refine Ae AN ?_;refine DF 7 (λ_ a b=>Below a.heap.size a b) (frame:=(λ(a b c d e:UL)=>λ(t:Nat->UL)=>({ tmps:=List.toArray [a,b,c,d,e,t 0,t 1,t 2,t 3,t 4,t 5,t 6],defers:=[] }:Act)) _ _ _ _ _)
  (Ext:=λL u w'=>Fo w1 [1,3,5] L u w') (Good:=λi L w' v=>if i=0 then v=UN #[UD xa zs.length xc,UD ya 0 yc,UE UO f,UF d] else if i=1 then Mp w1.heap.size w' v zs f d else if i=2 then v=UD za ks.length zc else if i=3 then KM w1.heap.size w' v ks else if i=4 then v=UN #[UD xa zs.length xc,UD ya 0 yc,UE UO f,UF d] else if i=5 then IU w1.heap.size w' v r else if i=6 then So w1.heap.size w' v zs ks f d r else True) (Fin:=λ_ ww=>∃ C,ww.heap[w.heap.size+1]?=UI (UP C 48 (0,0))/\GP w.heap.size ww C zs ks f d r/\C.size=16/\Below w.heap.size w ww) rfl AN ?hstab AN ?hop ?hend ?hdone _ _ ((λ(x0 x1 x2 x3 x4 x5 x6:UL)=>λ(i:Nat)=>if i=0 then x0 else if i=1 then x1 else if i=2 then x2 else if i=3 then x3 else if i=4 then x4 else if i=5 then x5 else if i=6 then x6 else undef) _ _ _ _ _ _ _) _ AM ?none ?ext AM
 case none=>exact λ_=>FJ
 case ext=>exact Fo.start w1 [1,3,5] _ _ (λ_=>FJ) ⟨rfl,rfl,rfl,AY _,λ_ _=>rfl⟩
 case hstab=>
  intro j L w9 w' i v _ hM _ _ h;by_cases h1:j=1
  ·subst h1;simp at h |-;exact h.below hM
  by_cases h3:j=3
  ·subst h3;simp at h |-;exact h.below hM
  by_cases h5:j=5
  ·subst h5;simp at h |-;exact h.below hM
  by_cases h6:j=6
  ·subst h6;simp at h |-;exact h.below hM
  simp only[if_neg h1,if_neg h3,if_neg h5,if_neg h6] at h |-;exact h
 case hop=>
  intro i o L t w' hi ho hLi hx hdep K hK;obtain rfl|rfl|rfl|rfl|rfl|rfl|rfl:i=0\/i=1\/i=2\/i=3\/i=4\/i=5\/i=6:=AK
  all_goals(simp at ho;subst ho)
  ·clear hdep;have hK':=hK w' (UN #[UD xa zs.length xc,UD ya 0 yc,UE UO f,UF d]) AM (hx.step 0 _ Cs C7) Cs;clear hK;rw[AR AO];refine BL 40 (.tmp 2) rfl (w.heap.size) rfl 40 _ (0,0) _ ((hx.below.block _ (AQ.1 HW.o.b0).1).trans HW.o.b0) Tryz.underlying40 rfl HSD.o ?_;simpa[Cr,Act.put] using hK'
  ·have d0:t 0=UN #[UD xa zs.length xc,UD ya 0 yc,UE UO f,UF d]:=by simpa using(hdep ⟨0,UR⟩ AM rfl).2
   clear hdep;have bw:Below w.heap.size w w':=HW.o.below.trans (hx.below.mono HW.o.below.size);have hsz:w1.heap.size<=w'.heap.size:=hx.below.size;have A:=HCD.o w' bw;have hK':∀ ww v,Mp w1.heap.size ww v zs f d->DU w' ww v->Below w'.heap.size w' ww->K _ ww:=λww v hv hf hb=>hK ww v (by simpa using hv) (hx.step 1 v hb (λ_=>hf)) hb
   clear hK;rw[AR AO];go_simp;try simp only[d0]
   refine A.mono ?_;rintro e w9 ⟨v9,rfl,h9,hb9⟩;have hK2:=hK' w9 v9 (h9.dvm.mono hsz) h9.dvm.fresh hb9;clear hK' A h9 hb9;go_simp;simpa[Cr,d0] using hK2
  ·clear hdep;have hK':=hK w' (UD za ks.length zc) AM (hx.step 2 _ Cs C7) Cs;clear hK;rw[AR AO];go_simp;simpa[Cr] using hK'
  ·have d2:t 2=UD za ks.length zc:=by simpa using(hdep ⟨2,UR⟩ AM rfl).2
   clear hdep;have bw:Below w.heap.size w w':=HW.o.below.trans (hx.below.mono HW.o.below.size);have hsz:w1.heap.size<=w'.heap.size:=hx.below.size;have A:=HCK.o w' bw;have hK':∀ ww v,KM w1.heap.size ww v ks->DU w' ww v->Below w'.heap.size w' ww->K _ ww:=λww v hv hf hb=>hK ww v (by simpa using hv) (hx.step 3 v hb (λ_=>hf)) hb
   clear hK;rw[AR AO];go_simp;try simp only[d2]
   refine A.mono ?_;rintro e w9 ⟨v9,rfl,h9,hb9⟩;have hK2:=hK' w9 v9 (h9.km.mono hsz) h9.km.fresh hb9;clear hK' A h9 hb9;go_simp;simpa[Cr,d2] using hK2
  ·clear hdep;have hK':=hK w' (UN #[UD xa zs.length xc,UD ya 0 yc,UE UO f,UF d]) AM (hx.step 4 _ Cs C7) Cs;clear hK;rw[AR AO];refine BL 40 (.tmp 2) rfl (w.heap.size) rfl 40 _ (0,0) _ ((hx.below.block _ (AQ.1 HW.o.b0).1).trans HW.o.b0) Tryz.underlying40 rfl HSD.o ?_;simpa[Cr,Act.put] using hK'
  ·have d4:t 4=UN #[UD xa zs.length xc,UD ya 0 yc,UE UO f,UF d]:=by simpa using(hdep ⟨4,UR⟩ AM rfl).2
   clear hdep;have bw:Below w.heap.size w w':=HW.o.below.trans (hx.below.mono HW.o.below.size);have hsz:w1.heap.size<=w'.heap.size:=hx.below.size;have A:=HCI.o w' bw;have hK':∀ ww v,IU w1.heap.size ww v r->DU w' ww v->Below w'.heap.size w' ww->K _ ww:=λww v hv hf hb=>hK ww v (by simpa using hv) (hx.step 5 v hb (λ_=>hf)) hb
   clear hK;rw[AR AO];go_simp;try simp only[d4]
   refine A.mono ?_;rintro e w9 ⟨v9,rfl,h9,hb9⟩;have hK2:=hK' w9 v9 (IU.of h9 hsz) h9.fresh hb9;clear hK' A h9 hb9;go_simp;simpa[Cr,d4] using hK2
  ·have l1:L 1=true:=(hdep ⟨1,UR⟩ AM rfl).1;have f1:Mp w1.heap.size w' (t 1) zs f d:=by simpa using(hdep ⟨1,UR⟩ AM rfl).2
   have l3:L 3=true:=(hdep ⟨3,UR⟩ AM rfl).1;have f3:KM w1.heap.size w' (t 3) ks:=by simpa using(hdep ⟨3,UR⟩ AM rfl).2
   have l5:L 5=true:=(hdep ⟨5,UR⟩ AM rfl).1;have f5:IU w1.heap.size w' (t 5) r:=by simpa using(hdep ⟨5,UR⟩ AM rfl).2
   clear hdep;have a1:=hx.ap 1 AL 3 AL AL l1 l3;have a2:=hx.ap 1 AL 5 AL AL l1 l5;have a3:=hx.ap 3 AL 5 AL AL l3 l5;obtain⟨da,dc,ca,cc,ka,kc,aSD,nSD,cSD,aSU,nSU,cSU,aF,mF,cF,aD,nD,cD,aU,nU,cU,aT,cT,e1,e3,e5,hg⟩:=Mr f1 f3 f5 a1 a2 a3;have hsv:So w1.heap.size w' (UN #[UD da zs.length dc,UD ca 0 cc,UE UO f,UF d,UD ka ks.length kc,UF r.ok,UE UG r.g,UE UG r.t,UD aSD nSD cSD,UD aSU nSU cSU,UD aF mF cF,UD aD nD cD,UD aU nU cU,UE UO r.k,UD aT r.n cT,UE UG r.nx]) zs ks f d r:=⟨_,rfl,hg⟩
   have hK':=hK w' _ (by simpa using hsv) (hx.step 6 _ Cs C7) Cs;clear hK hg hsv a1 a2 a3 f1 f3 f5;rw[AR AO];go_simp;simpa[Cr,e1,e3,e5] using hK'
 case hend=>
  intro o L t w' ho hx hg K hK;simp at ho;subst ho;have f6:So w1.heap.size w' (t 6) zs ks f d r:=by simpa using(hg 6 AL).2
  clear hg;obtain⟨C,e6,j0⟩:=f6;have hrs:=(hx.below.block _ (AQ.1 HW.o.b1).1).trans HW.o.b1;have hz:=j0.gl.row;have hK':∀ ww,Wr (w.heap.size+1) w' ww->ww.heap[w.heap.size+1]?=UI (UP C 48 (0,0))->K _ ww:=λww hw hr=>hK ww undef ⟨C,hr,(j0.keep (Aw hw.size.symm) (λk hk _=>hw.block k (AG (AQ.1 HW.o.b1).1))).mono (AG HW.o.below.size),hz.1,(HW.o.below.trans (hx.below.mono HW.o.below.size)).trans (hw.below AK)⟩
  clear hK j0;rw[AR AO];refine A8 48 (.tmp 4) (.tmp 11) rfl (w.heap.size+1) C rfl e6 48 _ hrs (by rw[hz.1];exact HSG.o) (by rw[hz.1];rfl) hz.2 ?_;have hK2:=hK' _ (Wr.setRow _ _ _) (AB hrs);clear hK';simpa[Cr,Act.put] using hK2
 case hdone=>
  intro t w9 hf;obtain⟨C,hr,hI,hz,hb9⟩:=hf;have HR9:AP (w9.heap[w.heap.size+1]?=UI (UP C 48 (0,0))):=hr;have HF:AP (GP w.heap.size w9 C zs ks f d r/\Below w.heap.size w w9):=⟨hI,hb9⟩
  have HS9:AP ((Tryz.prog.info? 48).map (·.size)=UI C.size):=by show _=_;rw[hz];exact HSG.o
  clear hr hI hz hb9;go_wp2_with fail;exact AZ (v:=UN C) (AW rfl _ _ (w.heap.size+1) 48 _ (0,0) _ rfl HR9.o Tryz.underlying48 rfl HS9.o) rfl ⟨_,rfl,HF.o.1,HF.o.2⟩
end Go.Proofs.YthmeoilbmfdhfaaGreat
