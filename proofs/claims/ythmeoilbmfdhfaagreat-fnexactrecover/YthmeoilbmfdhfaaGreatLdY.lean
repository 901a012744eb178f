import Derived.Test.YthmeoilbmfdhfaaGreatSwL
import Derived.Test.YthmeoilbmfdhfaaGreatMEqSn
open Go.Value renaming slice->UD,int->UE,pointer->UM,bool->UF,agg->UN
open Go.IntKind renaming i64->UO,u32->UG
open Go.Obj renaming cells->UP
open Option renaming some->UI,none->UJ
open Go renaming World->UK,Value->UL
namespace Go.Proofs.YthmeoilbmfdhfaaGreat
set_option maxHeartbeats 4000000
set_option maxRecDepth 100000
open Go.ChangeShapes Go.WideShapes Go.ChangeAt Go.RowKit
set_option linter.unusedVariables false
theorem SK {r:GN} {F:List Int} (hr:r.ok=true):∀ i,(EE r F i).ok=false->EE r F i=EL
 |0,h=>by rw[show EE r F 0=r from rfl,hr] at h;cases h
 |i+1,h=>by
  cases h':(EE r F i).ok with
  |false=>exact Ht h'
  |true=>rw[J4 h'] at h |-;exact SD h
theorem LM {r:GN} {F:List Int} {i n:Nat} (hr:r.ok=true) (h:(EE r F i).ok=false) (hi:i<=n):EE r F n=EE r F i:=by
 by_cases e:i=n
 ·rw[e]
 ·have:=J5 h (n-(i+1));rw[show i+1+(n-(i+1))=n by omega] at this;rw[this,SK hr i h]
def SL (l0 lo:Nat) (w:UK) (a:Option Addr):Prop:=∀ ad,a=UI ad->l0<=ad.block/\ad.block<w.heap.size/\(ad.block<lo\/lo+3<=ad.block)
def RI (l0 lo:Nat) (w:UK) (v:UL) (r:GN):Prop:=
 ∃ aD nD cD aU nU cU aT nT cT,v=UN #[UF r.ok,UD aD nD cD,UD aU nU cU,UE UO r.k,UD aT nT cT]/\At UO w aD r.D/\At UO w aU r.U/\At UO w aT r.T/\r.D.length=nD/\r.U.length=nU/\r.T.length=nT*2/\SL l0 lo w aD/\SL l0 lo w aU/\SL l0 lo w aT/\nT<=cT/\cT<=9223372036854775807
theorem At.wrT {l0 lo R:Nat} {w w':UK} {a:Option Addr} {zs:List Int} (h:At UO w a zs) (t:SL l0 lo w a) (hw:Wr R w w') (h1:lo<=R) (h2:R<lo+3):At UO w' a zs:=
 h.keepT (by rw[hw.size];exact AY _) (λad e _=>hw.block _ (AG (t ad e).2.2))
theorem SL.wr {l0 lo R:Nat} {w w':UK} {a:Option Addr} (t:SL l0 lo w a) (hw:Wr R w w'):SL l0 lo w' a:=λad e=>by rw[hw.size];exact t ad e
theorem RI.wr {l0 lo R:Nat} {w w':UK} {v:UL} {r:GN} (h:RI l0 lo w v r) (hw:Wr R w w') (h1:lo<=R) (h2:R<lo+3):RI l0 lo w' v r:=by
 obtain⟨aD,nD,cD,aU,nU,cU,aT,nT,cT,e,g1,g2,g3,g4,g5,g6,t1,t2,t3,c1,c2⟩:=h;exact⟨aD,nD,cD,aU,nU,cU,aT,nT,cT,e,g1.wrT t1 hw h1 h2,g2.wrT t2 hw h1 h2,g3.wrT t3 hw h1 h2,g4,g5,g6,t1.wr hw,t2.wr hw,t3.wr hw,c1,c2⟩
theorem RI.wpv {l0 lo:Nat} {w:UK} {v:UL} {r:GN} (h:RI l0 lo w v r):El l0 w v r:=by
 obtain⟨aD,nD,cD,aU,nU,cU,aT,nT,cT,e,g1,g2,g3,g4,g5,g6,t1,t2,t3,c1,c2⟩:=h;exact⟨aD,nD,cD,aU,nU,cU,aT,nT,cT,e,g1,g2,g3,g4,g5,g6,λad e=>⟨(t1 ad e).1,(t1 ad e).2.1⟩,λad e=>⟨(t2 ad e).1,(t2 ad e).2.1⟩,λad e=>⟨(t3 ad e).1,(t3 ad e).2.1⟩,c1,c2⟩
theorem El.wpq {l0 lo:Nat} {w:UK} {v:UL} {r:GN} (h:El (lo+3) w v r) (hl:l0<=lo):RI l0 lo w v r:=by
 obtain⟨aD,nD,cD,aU,nU,cU,aT,nT,cT,e,g1,g2,g3,g4,g5,g6,t1,t2,t3,c1,c2⟩:=h;exact⟨aD,nD,cD,aU,nU,cU,aT,nT,cT,e,g1,g2,g3,g4,g5,g6,λad e=>(AG (t1 ad e)),λad e=>(AG (t2 ad e)),λad e=>(AG (t3 ad e)),c1,c2⟩
theorem El.monoY {lo lo':Nat} {w:UK} {v:UL} {r:GN} (h:El lo w v r) (hl:lo'<=lo):El lo' w v r:=by
 obtain⟨aD,nD,cD,aU,nU,cU,aT,nT,cT,e,h1,h2,h3,h4,h5,h6,l1,l2,l3⟩:=h;exact⟨aD,nD,cD,aU,nU,cU,aT,nT,cT,e,h1,h2,h3,h4,h5,h6,l1.mono hl Cw,l2.mono hl Cw,l3.1.mono hl Cw,l3.2⟩
structure TX (w:UK) (l0:Nat) (r:GN) (wr:UK):Prop where
 bel:Below w.heap.size w wr
 lo:l0<=w.heap.size
 res:wr.heap[w.heap.size+1]?=UI (UP Cc 68 (0,0))
 row:∃ cs,wr.heap[w.heap.size+2]?=UI (UP cs 68 (0,0))/\RI l0 w.heap.size wr (UN cs) r
def QC (l0 S q:Nat):Nat:=if q=0 then l0 else S
theorem Pf {l0 S q:Nat}:QC l0 S (q+1)=S:=by simp[QC]
theorem KD {l0 S q:Nat} (h:0<q):QC l0 S q=S:=by unfold QC;rw[AS AK]
theorem TX.next {w:UK} {l0:Nat} {r r1:GN} {wr w' ww:UK} {cs:Array UL} (h:TX w l0 r wr) (b:Below wr.heap.size wr w') (hv:El (w.heap.size+3) w' (UN cs) r1) (hw:Wr (w.heap.size+2) w' ww) (hr:ww.heap[w.heap.size+2]?=UI (UP cs 68 (0,0))):TX w w.heap.size r1 ww:=by
 have hl:=(AQ.1 h.res).1;exact⟨(h.bel.trans (b.mono h.bel.size)).trans (hw.below AK),AY _,by rw[hw.block _ AK,b.block _ hl];exact h.res,cs,hr,(hv.wpq Cw).wr hw AK AK⟩
theorem Mm (aD aU aT:Option Addr) (nD cD nU cU nT cT:Nat) (D U:List Int) (k:Int) (T:List Int) (fa:Option Addr) (n c:Nat) (F:List Int) (w:UK) (l0:Nat) (r0:GN) (hr0:r0=⟨true,D,U,k,T,nT⟩)
  (hv:El l0 w (UN #[UF true,UD aD nD cD,UD aU nU cU,UE UO k,UD aT nT cT]) r0) (hl0:l0<=w.heap.size) (hst:JE D U k T nT) (hT:T.length=nT*2) (hF:FC w fa F) (hl:F.length=n*4) (hn:n<=1000) (hFB:QB F) :
  Calls Tryz.prog 31 #[UN #[UD aD nD cD,UD aU nU cU,UE UO k,UD aT nT cT],UD fa n c] w λe w'=>∃ v,e=.returned v/\El (QC l0 w.heap.size n) w' v (EE r0 F n)/\Below w.heap.size w w':=by
 have hok0:r0.ok=true:=by rw[hr0]
 have HSS:AP ((Tryz.prog.info? 34).map (·.size)=UI 4):=by show _=_;kernel_rfl
 have HSA:AP ((Tryz.prog.info? 68).map (·.size)=UI 5):=by show _=_;kernel_rfl
 have HSF:AP ((Tryz.prog.info? 112).map (·.size)=UI 4):=by show _=_;kernel_rfl
 have HST:=Cp (λi hi=>Gj (r:=r0) hFB (by rw[hr0];exact hst) (by rw[hr0];exact hT) i hi);have HFB:=Cp hFB;have HFA:=Cp hF;have HL:=Cp hl;have HO:=Cp hok0;have HX0:AP (TX w l0 r0 (((((w.alloc (UP #[UD aD nD cD,UD aU nU cU,UE UO k,UD aT nT cT] 34)).alloc (UP Cc 68)).alloc (UP #[UF true,UD aD nD cD,UD aU nU cU,UE UO k,UD aT nT cT] 68))))):=by
  obtain⟨aD',nD',cD',aU',nU',cU',aT',nT',cT',e,g1,g2,g3,g4,g5,g6,t1,t2,t3,c1,c2⟩:=hv;subst hr0;simp at e;obtain⟨⟨rfl,rfl,rfl⟩,⟨rfl,rfl,rfl⟩,rfl,rfl,rfl⟩:=e;have b1:Below w.heap.size w ((w.alloc (UP #[UD aD nD cD,UD aU nU cU,UE UO k,UD aT nT cT] 34)).alloc (UP Cc 68)):=(Cs.alloc Cw _).alloc AM _;have bb:Below w.heap.size w (((w.alloc (UP #[UD aD nD cD,UD aU nU cU,UE UO k,UD aT nT cT] 34)).alloc (UP Cc 68)).alloc (UP #[UF true,UD aD nD cD,UD aU nU cU,UE UO k,UD aT nT cT] 68)):=b1.alloc (by simp;omega) _;refine⟨bb,hl0,?_,_,?_,aD,nD,cD,aU,nU,cU,aT,nT,cT,rfl,g1.below bb,g2.below bb,g3.below bb,g4,g5,g6,λad e=>?_,λad e=>?_,λad e=>?_,c1,c2⟩
  ·rw[BH _ _ _ AM];have:=AV (w.alloc (UP #[UD aD nD cD,UD aU nU cU,UE UO k,UD aT nT cT] 34)) (UP Cc 68);rw[Bl] at this;exact this
  ·have:=AV ((w.alloc (UP #[UD aD nD cD,UD aU nU cU,UE UO k,UD aT nT cT] 34)).alloc (UP Cc 68)) (UP #[UF true,UD aD nD cD,UD aU nU cU,UE UO k,UD aT nT cT] 68);rw[Bl,Bl] at this;exact this
  ·have:=t1 ad e;have:=bb.size;omega
  ·have:=t2 ad e;have:=bb.size;omega
  ·have:=t3 ad e;have:=bb.size;omega
 have HR1:AP (((w.alloc (UP #[UD aD nD cD,UD aU nU cU,UE UO k,UD aT nT cT] 34)).alloc (UP Cc 68)).heap[w.heap.size]?=UI (UP #[UD aD nD cD,UD aU nU cU,UE UO k,UD aT nT cT] 34 (0,0))):=by
  show _=_
  rw[BH _ _ _ AM];exact AV w _
 clear hv hst hT hF hl hFB hr0 hok0;go_enter Tryz.func31,Tryz.ntmps31
 go_upto_region 2 with (first
  |(refine Ab rfl 34 (.tmp 2) rfl w.heap.size rfl 34 _ (0,0) _ HR1.o Tryz.underlying34 rfl HSS.o ?_)
  |(refine AC 68 (.tmp 5) (.tmp 8) (w.heap.size+2) #[UF true,UD aD nD cD,UD aU nU cU,UE UO k,UD aT nT cT] 68 (by have:=AV ((w.alloc (UP #[UD aD nD cD,UD aU nU cU,UE UO k,UD aT nT cT] 34)).alloc (UP Cc 68)) (UP Cc 68);rw[Bl,Bl] at this;exact this) HSA.o rfl (by simp[Value.oneCell']) ?_)
  |fail)
 rw[show w.heap.size+1+1=w.heap.size+2 from rfl];clear HR1;generalize ((w.alloc (UP #[UD aD nD cD,UD aU nU cU,UE UO k,UD aT nT cT] 34)).alloc (UP Cc 68)).alloc (UP #[UF true,UD aD nD cD,UD aU nU cU,UE UO k,UD aT nT cT] 68)=w0 at *;go_wp2
 go_loopw [6] (λi wr=>∃ q:Nat,q<=n/\i=UE UO q/\TX w (QC l0 w.heap.size q) (EE r0 F q) wr) (λi _=>n-(intOf i).toNat)
 case atStart=>exact⟨0,Aj _,rfl,HX0.o⟩
 case round=>
  clear HX0;obtain⟨q,hq,rfl,hx⟩:=hrel;have HX:=Cp hx;clear hx;obtain⟨cs,hrow,hwv⟩:=HX.o.row;obtain⟨aD',nD',cD',aU',nU',cU',aT',nT',cT',e,g1,g2,g3,g4,g5,g6,t1,t2,t3,c1,c2⟩:=hwv;obtain⟨ok,hok⟩:∃ x,(EE r0 F q).ok=x:=⟨_,rfl⟩
  obtain⟨k',hk'⟩:∃ x,(EE r0 F q).k=x:=⟨_,rfl⟩
  rw[hok,hk'] at e;obtain rfl:cs=#[UF ok,UD aD' nD' cD',UD aU' nU' cU',UE UO k',UD aT' nT' cT']:=by injection e
  have HRW:=Cp hrow;have HLT:=Cp (AQ.1 hrow).1;have cc0:=AA hrow 0;simp at cc0;clear hrow e;by_cases hlt:q<n
  ·have hlt':(q:Int)<(n:Int):=AK
   cases ok with
   |true=>
    obtain⟨b,off,rfl,hb,hc⟩:=HFA.o.get (by rw[HL.o];omega);obtain⟨f0,f1,f2,f3⟩:=FC.four hc q (by rw[HL.o];omega);obtain⟨⟨p0,p1⟩,y0,y1⟩:=HFB.o q (by rw[HL.o];omega);obtain⟨hstq,hTq⟩:=HST.o q (by rw[HL.o];omega) hok;have hcl:∀ j,wr.cell? ⟨b,j,UJ⟩=w.cell? ⟨b,j,UJ⟩:=λj=>HX.o.bel.cell (p:=⟨b,j,UJ⟩) hb
    have HFF:AP (wr.cell? ⟨b,off+q*4,UJ⟩=UI (UE UG (F.getD (q*4) 0))/\wr.cell? ⟨b,off+q*4+1,UJ⟩=UI (UE UO (F.getD (q*4+1) 0))/\wr.cell? ⟨b,off+q*4+2,UJ⟩=UI (UE UG (F.getD (q*4+2) 0))/\wr.cell? ⟨b,off+q*4+3,UJ⟩=UI (UE UG (F.getD (q*4+3) 0))):=
     ⟨(hcl _).trans f0,(hcl _).trans f1,(hcl _).trans f2,(hcl _).trans f3⟩
    have HBL:AP (b<wr.heap.size):=Ax hb HX.o.bel.size;have hgo:=J4 (F:=F) hok;have hnT:(EE r0 F q).n=nT':=AK
    obtain⟨z0,z1,z2⟩:=hstq.bd;have hu:=hstq.2.2.1.le;have hd:=hstq.2.1;have HC:AP (∀ ww,Below wr.heap.size wr ww->Calls Tryz.prog 74 #[UN #[UD aD' nD' cD',UD aU' nU' cU',UE UO k',UD aT' nT' cT'],UN #[UE UG (F.getD (q*4) 0),UE UO (F.getD (q*4+1) 0),UE UG (F.getD (q*4+2) 0),UE UG (F.getD (q*4+3) 0)]] ww λe w'=>∃ v,e=.returned v/\El ww.heap.size w' v (EE r0 F (q+1))/\Below ww.heap.size ww w'):=λww bb=>by
     have:=RH aD' aU' aT' nD' cD' nU' cU' nT' cT' (EE r0 F q).D (EE r0 F q).U k' (EE r0 F q).T (F.getD (q*4) 0) (F.getD (q*4+1) 0) (F.getD (q*4+2) 0).toNat (F.getD (q*4+3) 0).toNat ww g4 g5 g6 AK AK AK (g1.below bb) (g2.below bb) (g3.below bb) c1 c2 AK AK AK AK;rw[Bm p0,Bm y0] at this;have e1:Ff (EE r0 F q).D (EE r0 F q).U k' (EE r0 F q).T nT' (F.getD (q*4+1) 0) (F.getD (q*4+2) 0).toNat (F.getD (q*4+3) 0).toNat=EE r0 F (q+1):=by
      rw[hgo,<-hk',<-hnT];unfold Ff;rw[AR (by unfold GI;simpa using hstq)]
     rw[e1] at this;exact this
    obtain⟨r1,hr1⟩:∃ r,EE r0 F (q+1)=r:=⟨_,rfl⟩
    have HE1:AP (r1=EE r0 F (q+1)):=hr1.symm;rw[hr1] at HC;clear f0 f1 f2 f3 hc hcl hgo hnT hstq hTq hu hd g1 g2 g3 g4 g5 g6 t1 t2 t3 c1 c2 z0 z1 z2 hok hk' p0 p1 y0 y1 hr1;generalize F.getD (q*4) 0=s at *;generalize F.getD (q*4+1) 0=kd at *;generalize F.getD (q*4+2) 0=p at *;generalize F.getD (q*4+3) 0=y at *
    go_upto_region 5 with fail
    refine Ae AN ?_;refine DF 7 (λ_ a b=>Below a.heap.size a b) (frame:=(λ(a b c d e f g h i j k l m n o p q r s u:UL)=>λ(t:Nat->UL)=>({ tmps:=List.toArray [a,b,c,d,e,f,g,h,i,j,k,l,m,n,o,p,q,r,s,t 0,t 1,t 2,t 3,t 4,t 5,t 6,u],defers:=[] }:Act)) _ _ _ _ _ _ _ _ _ _ _ _ _ _ _ _ _ _ _ _)
     (Ext:=λL u w'=>Fo wr [] L u w') (Good:=λi L w' v=>if i=0 then v=UM (UI ⟨w.heap.size+2,1,UJ⟩) else if i=1 then v=UN #[UD aD' nD' cD',UD aU' nU' cU',UE UO k',UD aT' nT' cT'] else if i=2 then v=UD (UI ⟨b,off,UJ⟩) n c else if i=3 then v=UE UO (q:Int) else if i=4 then v=UM (UI ⟨b,off+q*4,UJ⟩) else if i=5 then v=UN #[UE UG s,UE UO kd,UE UG p,UE UG y] else if i=6 then El (w.heap.size+3) w' v r1 else True) (Fin:=λ_ ww=>TX w w.heap.size r1 ww) rfl AN ?hstab AN ?hop ?hend ?hdone _ _ ((λ(x0 x1 x2 x3 x4 x5 x6:UL)=>λ(i:Nat)=>if i=0 then x0 else if i=1 then x1 else if i=2 then x2 else if i=3 then x3 else if i=4 then x4 else if i=5 then x5 else if i=6 then x6 else undef) _ _ _ _ _ _ _) _ AM ?none ?ext AM
    case none=>exact λ_=>FJ
    case ext=>exact Fo.start wr [] _ _ (λ_=>FJ) ⟨rfl,rfl,rfl,AY _,λ_ _=>rfl⟩
    case hstab=>
     intro j L w9 w' i v _ hM _ _ h;by_cases h6:j=6
     ·subst h6;simp at h |-;exact h.below hM
     simp only[if_neg h6] at h |-;exact h
    case hop=>
     intro i o L t w' hi ho hLi hx hdep K hK;obtain rfl|rfl|rfl|rfl|rfl|rfl|rfl:i=0\/i=1\/i=2\/i=3\/i=4\/i=5\/i=6:=AK
     all_goals(simp at ho;subst ho)
     ·clear hdep;have hK':=hK w' (UM (UI ⟨w.heap.size+2,1,UJ⟩)) AM (hx.step 0 _ Cs C7) Cs;clear hK;rw[AR AO];go_simp;simpa[Cr] using hK'
     ·have d0:t 0=UM (UI ⟨w.heap.size+2,1,UJ⟩):=by simpa using(hdep ⟨0,.data⟩ AM rfl).2
      clear hdep;have hr:w'.heap[w.heap.size+2]?=UI (UP #[UF true,UD aD' nD' cD',UD aU' nU' cU',UE UO k',UD aT' nT' cT'] 68 (0,0)):=by rw[hx.below.block _ HLT.o];exact HRW.o
      have hra:w'.rangeAt (w.heap.size+2) 1 [UD aD' nD' cD',UD aU' nU' cU',UE UO k',UD aT' nT' cT']:=λj v hj=>by
       have hj4:j<4:=by have:=(Af.1 hj).1;simpa using this
       rw[AA hr (1+j)];obtain rfl|rfl|rfl|rfl:j=0\/j=1\/j=2\/j=3:=AK
       all_goals(simp at hj;subst hj;rfl)
      have hK':=hK w' (UN #[UD aD' nD' cD',UD aU' nU' cU',UE UO k',UD aT' nT' cT']) AM (hx.step 1 _ Cs C7) Cs;clear hK;rw[AR AO];refine wp_load_mid 34 (.tmp 19) rfl (w.heap.size+2) 1 d0 [UD aD' nD' cD',UD aU' nU' cU',UE UO k',UD aT' nT' cT'] _ hra Tryz.underlying34 rfl HSS.o ?_;simpa[Cr,Act.put,d0] using hK'
     ·clear hdep;have hK':=hK w' (UD (UI ⟨b,off,UJ⟩) n c) AM (hx.step 2 _ Cs C7) Cs;clear hK;rw[AR AO];go_simp;simpa[Cr] using hK'
     ·clear hdep;have hK':=hK w' (UE UO (q:Int)) AM (hx.step 3 _ Cs C7) Cs;clear hK;rw[AR AO];go_simp;simpa[Cr] using hK'
     ·have d2:t 2=UD (UI ⟨b,off,UJ⟩) n c:=by simpa using(hdep ⟨2,.data⟩ AM rfl).2
      have d3:t 3=UE UO (q:Int):=by simpa using(hdep ⟨3,.data⟩ AM rfl).2
      clear hdep;have hK':=hK w' (UM (UI ⟨b,off+q*4,UJ⟩)) AM (hx.step 4 _ Cs C7) Cs;clear hK;rw[AR AO];go_simp;simpa[Cr,d2,d3] using hK'
     ·have d4:t 4=UM (UI ⟨b,off+q*4,UJ⟩):=by simpa using(hdep ⟨4,.data⟩ AM rfl).2
      clear hdep;have hra:w'.rangeAt b (off+q*4) [UE UG s,UE UO kd,UE UG p,UE UG y]:=λj v hj=>by
       have hj4:j<4:=by have:=(Af.1 hj).1;simpa using this
       rw[hx.below.cell (p:=⟨b,off+q*4+j,UJ⟩) HBL.o];obtain⟨f0,f1,f2,f3⟩:=HFF.o;obtain rfl|rfl|rfl|rfl:j=0\/j=1\/j=2\/j=3:=AK
       all_goals(simp at hj;subst hj;assumption)
      have hK':=hK w' (UN #[UE UG s,UE UO kd,UE UG p,UE UG y]) AM (hx.step 5 _ Cs C7) Cs;clear hK;rw[AR AO];refine wp_load_mid 112 (.tmp 23) rfl b (off+q*4) d4 [UE UG s,UE UO kd,UE UG p,UE UG y] _ hra Tryz.underlying112 rfl HSF.o ?_;simpa[Cr,Act.put,d4] using hK'
     ·have d1:t 1=UN #[UD aD' nD' cD',UD aU' nU' cU',UE UO k',UD aT' nT' cT']:=by simpa using(hdep ⟨1,.data⟩ AM rfl).2
      have d5:t 5=UN #[UE UG s,UE UO kd,UE UG p,UE UG y]:=by simpa using(hdep ⟨5,.data⟩ AM rfl).2
      clear hdep;have hsz:=hx.below.size;have hs3:=HLT.o;have A:=HC.o w' hx.below;have hK':∀ ww v,El (w.heap.size+3) ww v r1->Below w'.heap.size w' ww->K _ ww:=λww v hv hb=>hK ww v (by simpa using hv) (hx.step 6 v hb C7) hb
      clear hK;rw[AR AO];go_simp;try simp only[d1,d5]
      refine A.mono ?_;rintro e w9 ⟨v9,rfl,p9,hb9⟩;have hK2:=hK' w9 v9 (El.monoY p9 AK) hb9;clear hK' A p9 hb9;go_simp;simpa[Cr,d1,d5] using hK2
    case hend=>
     intro o L t w' ho hx hg K hK;simp at ho;subst ho;have f6:El (w.heap.size+3) w' (t 6) r1:=by simpa using(hg 6 AL).2
     clear hg;have hq:=hx.below.block _ HLT.o;have hrow:w'.heap[w.heap.size+2]?=UI (UP #[UF true,UD aD' nD' cD',UD aU' nU' cU',UE UO k',UD aT' nT' cT'] 68 (0,0)):=by rw[hq];exact HRW.o
     have f6':=f6;obtain⟨aD2,nD2,cD2,aU2,nU2,cU2,aT2,nT2,cT2,e6,g1⟩:=f6;have hK':∀ ww,Wr (w.heap.size+2) w' ww->ww.heap[w.heap.size+2]?=UI (UP #[UF r1.ok,UD aD2 nD2 cD2,UD aU2 nU2 cU2,UE UO r1.k,UD aT2 nT2 cT2] 68 (0,0))->K _ ww:=λww hw hr=>hK ww undef (HX.o.next hx.below (by rw[e6] at f6';exact f6') hw hr)
     clear hK g1 f6' hq;rw[AR AO];refine A8 68 (.tmp 5) (.tmp 25) rfl (w.heap.size+2) #[UF r1.ok,UD aD2 nD2 cD2,UD aU2 nU2 cU2,UE UO r1.k,UD aT2 nT2 cT2] rfl e6 68 _ hrow HSA.o rfl (by simp[Value.oneCell']) ?_;have hK2:=hK' _ (Wr.setRow _ _ _) (AB hrow);clear hK';simpa[Cr,Act.put] using hK2
    case hdone=>
     intro t w2 hf;have HX2:AP (TX w (QC l0 w.heap.size (q+1)) (EE r0 F (q+1)) w2):=by show TX _ _ _ _;rw[<-HE1.o,Pf];exact hf
     dsimp only;clear hf HX HRW HFF HC HE1;go_wp2;go_roundw
     case rel=>exact⟨q+1,AK,by go_num,HX2.o⟩
     case measure=>simp[intOf];omega
   |false=>
    have hE:=LM HO.o hok hq;have hq0:0<q:=by
     cases q with
     |zero=>rw[show EE r0 F 0=r0 from rfl,HO.o] at hok;cases hok
     |succ q=>omega
    rw[KD hq0] at t1 t2 t3;have HF:AP (RI (QC l0 w.heap.size n) w.heap.size wr (UN #[UF false,UD aD' nD' cD',UD aU' nU' cU',UE UO k',UD aT' nT' cT']) (EE r0 F n)/\Below w.heap.size w wr):=⟨by rw[hE,KD (show 0<n by omega)];exact⟨aD',nD',cD',aU',nU',cU',aT',nT',cT',by rw[hok,hk'],g1,g2,g3,g4,g5,g6,t1,t2,t3,c1,c2⟩,HX.o.bel⟩
    have HRS:=Cp HX.o.res;clear g1 g2 g3 g4 g5 g6 t1 t2 t3 c1 c2 HX hok hk' hE;go_wp2_with (first
     |(refine Ab rfl 68 (.tmp 5) rfl (w.heap.size+2) rfl 68 _ (0,0) _ HRW.o Tryz.underlying68 rfl HSA.o ?_)
     |(refine AC 68 (.tmp 4) (.tmp 26) (w.heap.size+1) #[UF false,UD aD' nD' cD',UD aU' nU' cU',UE UO k',UD aT' nT' cT'] 68 HRS.o HSA.o rfl (by simp[Value.oneCell']) ?_)
     |fail)
    (try simp only[Exit.inBlock,Exit.then])
    exact AZ (v:=UN #[UF false,UD aD' nD' cD',UD aU' nU' cU',UE UO k',UD aT' nT' cT']) (AW rfl _ _ (w.heap.size+1) 68 _ (0,0) _ rfl (AB HRS.o) Tryz.underlying68 rfl HSA.o) rfl ⟨_,rfl,(HF.o.1.wr (Wr.setRow _ _ _) AK AK).wpv,HF.o.2.trans ((Wr.setRow _ _ _).below (Br _))⟩
  ·obtain rfl:q=n:=AK
   have HF:AP (RI (QC l0 w.heap.size q) w.heap.size wr (UN #[UF ok,UD aD' nD' cD',UD aU' nU' cU',UE UO k',UD aT' nT' cT']) (EE r0 F q)/\Below w.heap.size w wr):=⟨⟨aD',nD',cD',aU',nU',cU',aT',nT',cT',by rw[hok,hk'],g1,g2,g3,g4,g5,g6,t1,t2,t3,c1,c2⟩,HX.o.bel⟩
   have HRS:=Cp HX.o.res;clear g1 g2 g3 g4 g5 g6 t1 t2 t3 c1 c2 HX hok hk';go_wp2_with (first
    |(refine Ab rfl 68 (.tmp 5) rfl (w.heap.size+2) rfl 68 _ (0,0) _ HRW.o Tryz.underlying68 rfl HSA.o ?_)
    |(refine AC 68 (.tmp 4) (.tmp 26) (w.heap.size+1) #[UF ok,UD aD' nD' cD',UD aU' nU' cU',UE UO k',UD aT' nT' cT'] 68 HRS.o HSA.o rfl (by simp[Value.oneCell']) ?_)
    |fail)
   (try simp only[Exit.inBlock,Exit.then])
   exact AZ (v:=UN #[UF ok,UD aD' nD' cD',UD aU' nU' cU',UE UO k',UD aT' nT' cT']) (AW rfl _ _ (w.heap.size+1) 68 _ (0,0) _ rfl (AB HRS.o) Tryz.underlying68 rfl HSA.o) rfl ⟨_,rfl,(HF.o.1.wr (Wr.setRow _ _ _) AK AK).wpv,HF.o.2.trans ((Wr.setRow _ _ _).below (Br _))⟩
theorem RJ (aD aU aT:Option Addr) (nD cD nU cU nT cT:Nat) (D U:List Int) (k:Int) (T:List Int) (fa:Option Addr) (n c:Nat) (F:List Int) (w:UK) (l0:Nat) (r0:GN) (hr0:r0=⟨true,D,U,k,T,nT⟩)
  (hv:El l0 w (UN #[UF true,UD aD nD cD,UD aU nU cU,UE UO k,UD aT nT cT]) r0) (hl0:l0<=w.heap.size) (hst:JE D U k T nT) (hT:T.length=nT*2) (hF:FC w fa F) (hl:F.length=n*4) (hn:n<=1000) (hFB:QB F) :
  Calls Tryz.prog 31 #[UN #[UD aD nD cD,UD aU nU cU,UE UO k,UD aT nT cT],UD fa n c] w λe w'=>∃ v,e=.returned v/\El l0 w' v (EE r0 F n)/\Below w.heap.size w w':=
 (Mm aD aU aT nD cD nU cU nT cT D U k T fa n c F w l0 r0 hr0 hv hl0 hst hT hF hl hn hFB).mono λe w' ⟨v,e1,h,b⟩=>⟨v,e1,h.monoY (by unfold QC;split<;>omega),b⟩
end Go.Proofs.YthmeoilbmfdhfaaGreat
