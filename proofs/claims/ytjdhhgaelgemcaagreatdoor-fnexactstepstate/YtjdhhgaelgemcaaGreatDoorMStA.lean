import Derived.Test.YtjdhhgaelgemcaaGreatDoorMCatC
import Derived.Test.YtjdhhgaelgemcaaGreatDoorPTk
import Derived.Test.YtjdhhgaelgemcaaGreatDoorMEqB
open Go.Proofs.Tryz renaming prog->tP
open Go.Proofs.Tryz
open Go.Value renaming slice->Z7,int->Z8,pointer->aF,bool->aG,agg->aH
open Go.IntKind renaming i64->aI,u32->aN
open Go.Obj renaming cells->aJ
open Go.Ground renaming data->aL
open Go.Operand renaming tmp->aM
open Option renaming some->aE,none->aA
open Go renaming World->aC,Value->aB
set_option maxHeartbeats 4000000
set_option maxRecDepth 100000
namespace Go.Proofs.YtjdhhgaelgemcaaGreatDoor
open Go.ChangeShapes Go.WideShapes Go.ChangeAt Go.RowKit
set_option linter.unusedVariables false
noncomputable def DX (D U ks tk:List Int) (now:Int):Int:=
 if now<0 then 10 else if 4294967295<now then 10 else if I1 tk=false then 2 else if 256<=Ej tk then 3 else if Ez tk<now then 4 else if DO (Ej tk) D=true then 5 else if DO (Ej tk) U=true then 6 else if Hj ks (tk.take 8) (tk.drop 8)=true then 1 else 7
structure NJ (w:aC) (t0 t1:TypeId) (c0 c1:Array aB) (wr:aC):Prop where
 below:Below w.heap.size w wr
 b0:wr.heap[w.heap.size]?=aE (aJ c0 t0 (0,0))
 b1:wr.heap[w.heap.size+1]?=aE (aJ c1 t1 (0,0))
theorem NJ.start (w:aC) (t0 t1:TypeId) (c0 c1:Array aB):NJ w t0 t1 c0 c1 ((w.alloc (aJ c0 t0)).alloc (aJ c1 t1)):=by
 refine⟨(Cg.alloc Cl _).alloc AL _,?_,?_⟩
 ·rw[A5 _ _ w.heap.size AL];exact AX w _
 ·have:=AX (w.alloc (aJ c0 t0)) (aJ c1 t1)
  rwa [show(w.alloc (aJ c0 t0)).heap.size=w.heap.size+1 by simp] at this
theorem NJ.lt {w wr:aC} {t0 t1:TypeId} {c0 c1:Array aB} (h:NJ w t0 t1 c0 c1 wr):w.heap.size+1<wr.heap.size:=(AR.1 h.b1).1
theorem NJ.call {w wr w':aC} {t0 t1:TypeId} {c0 c1:Array aB} (h:NJ w t0 t1 c0 c1 wr) (b:Below wr.heap.size wr w'):NJ w t0 t1 c0 c1 w':=by
 have:=h.lt;exact⟨h.below.trans (b.mono h.below.size),by rw[b.block _ AJ];exact h.b0,by rw[b.block _ AJ];exact h.b1⟩
theorem M5 {D U ks tk:List Int} {now:Int} (h:now<0\/4294967295<now):DX D U ks tk now=10:=by
 unfold DX;by_cases h0:now<0
 ·rw[AP h0]
 ·rw[AQ h0,AP (h.resolve_left h0)]
theorem PS {D U ks tk:List Int} {now:Int} (h0:0<=now) (h1:now<=4294967295):DX D U ks tk now=if I1 tk=false then 2 else if 256<=Ej tk then 3 else if Ez tk<now then 4 else if DO (Ej tk) D=true then 5 else if DO (Ej tk) U=true then 6 else if Hj ks (tk.take 8) (tk.drop 8)=true then 1 else 7:=by
 unfold DX;rw[AQ AJ,AQ AJ]
theorem U7 (aD aU aT:Option Addr) (nD cD nU cU nT cT:Nat) (D U:List Int) (k:Int) (bp op cp:Nat) (ks:List Int) (ta:Option Addr) (tn tc:Nat) (tk:List Int) (kind now N:Int) (w:aC) (hD:D.length=nD) (hU:U.length=nU) (mD:nD<=1048576) (mU:nU<=1048576)
  (haD:At aI w aD D) (haU:At aI w aU U) (hk:ks.length=32) (hp:Fq w bp op ks) (zk:Ci ks) (ht:tk.length=tn) (mt:tn<=1048576) (hct:tn<=tc) (hat:At .u8 w ta tk) (zt:Ci tk) :
  Calls tP 40 #[aH #[Z7 aD nD cD,Z7 aU nU cU,Z8 aI k,Z7 aT nT cT],Z7 (aE ⟨bp,op,aA⟩) 32 cp,aH #[Z8 aI kind,Z7 ta tn tc,Z8 aI now,Z8 aI N]] w λe w'=>e=.returned (Z8 aI (DX D U ks tk now))/\Below w.heap.size w w':=by
 have HX0:AO (NJ w 33 39 #[Z7 aD nD cD,Z7 aU nU cU,Z8 aI k,Z7 aT nT cT] #[Z8 aI kind,Z7 ta tn tc,Z8 aI now,Z8 aI N] ((w.alloc (aJ #[Z7 aD nD cD,Z7 aU nU cU,Z8 aI k,Z7 aT nT cT] 33)).alloc (aJ #[Z8 aI kind,Z7 ta tn tc,Z8 aI now,Z8 aI N] 39))):=NJ.start _ _ _ _ _;have HA:AO (∀ wz,Below w.heap.size w wz->At aI wz aD D/\At aI wz aU U/\At .u8 wz ta tk/\Fq wz bp op ks):=λwz h=>⟨haD.below h,haU.below h,hat.below h,hp.below h⟩
 have HL:AO (D.length=nD/\U.length=nU/\tk.length=tn/\ks.length=32/\Ci ks/\Ci tk):=⟨hD,hU,ht,hk,zk,zt⟩
 have HTB:AO (I1 tk=true->tk.length=72):=λh=>by
  unfold I1 at h;simp at h;exact h.1
 have HSZ:AO ((tP.info? 81).map (·.size)=aE 3):=by show _=_;kernel_rfl
 have HCB:AO (now<0\/4294967295<now->DX D U ks tk now=10):=M5;have HCI:AO (0<=now->now<=4294967295->DX D U ks tk now=if I1 tk=false then 2 else if 256<=Ej tk then 3 else if Ez tk<now then 4 else if DO (Ej tk) D=true then 5 else if DO (Ej tk) U=true then 6 else if Hj ks (tk.take 8) (tk.drop 8)=true then 1 else 7):=PS;clear hD hU haD haU hk hp zk ht hat zt;go_enter func40,ntmps40
 go_upto_region 1 with fail
 generalize ((w.alloc (aJ #[Z7 aD nD cD,Z7 aU nU cU,Z8 aI k,Z7 aT nT cT] 33)).alloc (aJ #[Z8 aI kind,Z7 ta tn tc,Z8 aI now,Z8 aI N] 39))=w0 at *;have o1:w0.cell? ⟨w.heap.size+1,1,aA⟩=aE (Z7 ta tn tc):=by rw[AA HX0.o.b1 1];rfl
 have o2:w0.cell? ⟨w.heap.size+1,2,aA⟩=aE (Z8 aI now):=by rw[AA HX0.o.b1 2];rfl
 have HB0:AO (Below w.heap.size w w0):=HX0.o.below;by_cases hn0:now<0
 ·have HF:AO (DX D U ks tk now=10):=HCB.o (.inl hn0);clear HCB HCI HTB;go_wp2
  go_ret
  exact⟨by rw[HF.o];rfl,HB0.o⟩
 by_cases hn1:4294967295<now
 ·have HF:AO (DX D U ks tk now=10):=HCB.o (.inr hn1);have hn0':decide (now<0)=false:=Af hn0;have hn1':decide (4294967295<now)=true:=Al hn1;clear HCB HCI HTB;go_wp2
  go_ret
  exact⟨by rw[HF.o];rfl,HB0.o⟩
 have hn0':decide (now<0)=false:=Af hn0;have hn1':decide (4294967295<now)=false:=Af hn1;have HC:=Cd (HCI.o AJ AJ);clear HCB HCI hn0 hn1;go_wp2_with fail;refine(PR ta tn tc tk _ HL.o.2.2.1 mt hct (HA.o _ HB0.o).2.2.1 HL.o.2.2.2.2.2).mono ?_;rintro e w1 ⟨rfl,hb1⟩;have HX1:AO (NJ w 33 39 #[Z7 aD nD cD,Z7 aU nU cU,Z8 aI k,Z7 aT nT cT] #[Z8 aI kind,Z7 ta tn tc,Z8 aI now,Z8 aI N] w1):=HX0.o.call hb1;clear hb1 HX0 HB0 o1 o2;generalize hq:I1 tk=q at *;have HQ:AO (I1 tk=q):=hq;clear hq;obtain⟨s,x,HV⟩:∃ s x,AO (NI tk=aH #[aG q,Z8 aI s,Z8 aI x]/\(q=true->Ej tk=s/\Ez tk=x)):=by
  cases q with
  |false=>exact⟨0,0,Gw HQ.o,λh=>by cases h⟩
  |true=>exact⟨_,_,If HQ.o,λ_=>⟨rfl,rfl⟩⟩
 have HN:AO ((w1.alloc (aJ CO 81)).heap[w1.heap.size]?=aE (aJ CO 81 (0,0))):=AX w1 _;have HB2:AO (Below w1.heap.size w1 ((w1.alloc (aJ CO 81)).setRow w1.heap.size #[aG q,Z8 aI s,Z8 aI x])):=(Cg.alloc Cl _).trans ((Wr.setRow _ _ _).below Cl);have HR2:AO (((w1.alloc (aJ CO 81)).setRow w1.heap.size #[aG q,Z8 aI s,Z8 aI x]).heap[w1.heap.size]?=aE (aJ #[aG q,Z8 aI s,Z8 aI x] 81 (0,0))):=AB HN.o;have HX2:AO (NJ w 33 39 #[Z7 aD nD cD,Z7 aU nU cU,Z8 aI k,Z7 aT nT cT] #[Z8 aI kind,Z7 ta tn tc,Z8 aI now,Z8 aI N] ((w1.alloc (aJ CO 81)).setRow w1.heap.size #[aG q,Z8 aI s,Z8 aI x])):=HX1.o.call HB2.o;rw[HV.o.1]
 go_upto_region 4 with (first
  |(refine AE 81 (aM 7) (aM 18) w1.heap.size #[aG q,Z8 aI s,Z8 aI x] 81 HN.o HSZ.o rfl (by simp[Value.oneCell']) ?_)
  |fail)
 clear HN HSZ HB2 HX1;generalize (w1.alloc (aJ CO 81)).setRow w1.heap.size #[aG q,Z8 aI s,Z8 aI x]=w2 at *;have HB2:AO (Below w.heap.size w w2):=HX2.o.below;have c0:w2.cell? ⟨w1.heap.size,0,aA⟩=aE (aG q):=by rw[AA HR2.o 0];rfl
 have c1:w2.cell? ⟨w1.heap.size,1,aA⟩=aE (Z8 aI s):=by rw[AA HR2.o 1];rfl
 have c2:w2.cell? ⟨w1.heap.size,2,aA⟩=aE (Z8 aI x):=by rw[AA HR2.o 2];rfl
 have o1:AO (w2.cell? ⟨w.heap.size+1,1,aA⟩=aE (Z7 ta tn tc)):=by show _=_;rw[AA HX2.o.b1 1];rfl
 have o2:w2.cell? ⟨w.heap.size+1,2,aA⟩=aE (Z8 aI now):=by rw[AA HX2.o.b1 2];rfl
 have s0:w2.cell? ⟨w.heap.size,0,aA⟩=aE (Z7 aD nD cD):=by rw[AA HX2.o.b0 0];rfl
 have s1:w2.cell? ⟨w.heap.size,1,aA⟩=aE (Z7 aU nU cU):=by rw[AA HX2.o.b0 1];rfl
 clear HR2;cases q with
 |false=>
  have HF:AO (DX D U ks tk now=2):=by show _=_;rw[HC.o,AP rfl]
  clear HC HV HTB;go_wp2
  go_ret
  exact⟨by rw[HF.o];rfl,HB2.o⟩
 |true=>
 have HC2:=HC.o;rw[AQ (λh=>by cases h),(HV.o.2 rfl).1,(HV.o.2 rfl).2] at HC2;have HY:=Cd HC2;clear HC2;have HC2:=HY;clear HY;have HT72:AO (tk.length=72):=HTB.o rfl;have HSB:AO (DO s D=DO s D):=rfl;clear HC HV HTB HQ;by_cases hs:256<=s
 ·have HF:AO (DX D U ks tk now=3):=by show _=_;rw[HC2.o,AP hs]
  have hs':s≥256:=hs;clear HC2;go_wp2
  go_ret
  exact⟨by rw[HF.o];rfl,HB2.o⟩
 have hs':¬ (s≥256):=hs;by_cases hx:x<now
 ·have HF:AO (DX D U ks tk now=4):=by show _=_;rw[HC2.o,AQ hs,AP hx]
  have hx':now>x:=hx;clear HC2;go_wp2
  go_ret
  exact⟨by rw[HF.o];rfl,HB2.o⟩
 have hx':¬ (now>x):=hx;have HC3:=HC2.o;rw[AQ hs,AQ hx] at HC3;have HY:=Cd HC3;clear HC3;have HC3:=HY;clear HY;clear HC2 HSB;go_wp2_with fail;refine(Dd aD nD cD D s _ HL.o.1 mD (HA.o _ HB2.o).1).mono ?_;rintro e w4 ⟨rfl,e4⟩;obtain rfl:w2=w4:=e4.symm;cases hm:DO s D with
 |true=>
  have HF:AO (DX D U ks tk now=5):=by show _=_;rw[HC3.o,AP hm]
  clear HC3 hm;go_wp2
  go_ret
  exact⟨by rw[HF.o];rfl,HB2.o⟩
 |false=>
 have HC4:=HC3.o;rw[AQ (by rw[hm];decide)] at HC4;have HY:=Cd HC4;clear HC4;have HC4:=HY;clear HY;clear HC3 hm;go_wp2_with fail;refine(Dd aU nU cU U s _ HL.o.2.1 mU (HA.o _ HB2.o).2.1).mono ?_;rintro e w4 ⟨rfl,e4⟩;obtain rfl:w2=w4:=e4.symm;cases hm:DO s U with
 |true=>
  have HF:AO (DX D U ks tk now=6):=by show _=_;rw[HC4.o,AP hm]
  clear HC4 hm;go_wp2
  go_ret
  exact⟨by rw[HF.o];rfl,HB2.o⟩
 |false=>
 have HC5:=HC4.o;rw[AQ (by rw[hm];decide)] at HC5;have HTV:=Cd HC5;clear HC4 HC5 hm;have h72:72=tn:=HT72.o.symm.trans HL.o.2.2.1;subst h72;obtain⟨bt,ot,rfl,-,-⟩:=(HA.o _ HB2.o).2.2.1.get (by rw[HT72.o];decide);have HPT:AO (∀ wz,Below w.heap.size w wz->Fq wz bt ot tk):=λwz h=>by
  obtain⟨b',o',e',hl',hc'⟩:=(HA.o _ h).2.2.1.get (by rw[HT72.o];decide);cases e';exact⟨hl',hc'⟩
 have HT8:AO ((8:Int)<=tc/\(72:Int)<=tc/\¬ (tc=8)):=⟨AJ,AJ,AJ⟩
 have HVS:AO (∀ wz,Below w.heap.size w wz->Calls tP 57 #[Z7 (aE ⟨bp,op,aA⟩) 32 cp,Z7 (aE ⟨bt,ot,aA⟩) 8 tc,Z7 (aE ⟨bt,ot+8,aA⟩) 64 (tc-8:Nat)] wz λe w'=>e=.returned (aG (Hj ks (tk.take 8) (tk.drop 8)))/\Below wz.heap.size wz w'):=λwz h=>
  U3 bp op cp bt ot tc bt (ot+8) (tc-8) 32 8 64 ks (tk.take 8) (tk.drop 8) wz HL.o.2.2.2.1 (by rw[Ap,HT72.o];rfl) (by rw[BJ,HT72.o]) (HA.o wz h).2.2.2 ((HPT.o wz h).take 8) ((HPT.o wz h).drop 8) HL.o.2.2.2.2.1 (λz hz=>HL.o.2.2.2.2.2 z (Ay hz)) (λz hz=>HL.o.2.2.2.2.2 z (Bf hz)) AJ AK AK AK
 have HC1:=o1;have HLT:AO (w.heap.size+1<w2.heap.size):=HX2.o.lt;have HB9:AO (Below w.heap.size w w2):=HB2.o;generalize Hj ks (tk.take 8) (tk.drop 8)=V at *;clear HPT HT72 HA HL HX2 HB2 o1 o2 s0 s1 c0 c1 c2 hs hx hs' hx' hn0' hn1' mD mU mt hct;go_wp2_with fail;refine Ag AM ?_;refine Cn (λ_ a b=>Below a.heap.size a b) (frame:=(λ(a b c d e f g h i j k l m n o p q r s u v w x y z A B C D E F G H I J K L M N O:aB)=>λ(t:Nat->aB)=>({ tmps:=List.toArray [a,b,c,d,e,f,g,h,i,j,k,l,m,n,o,p,q,r,s,u,v,w,x,y,z,A,B,C,D,E,F,G,H,I,J,K,L,M,N,O,t 0,t 1,t 2,t 3,t 4,t 5,t 6,t 7,t 8],defers:=[] }:Act)) _ _ _ _ _ _ _ _ _ _ _ _ _ _ _ _ _ _ _ _ _ _ _ _ _ _ _ _ _ _ _ _ _ _ _ _ _ _ _ _)
  (Ext:=λL u w'=>JC w2 [] L u w') (Good:=λi L w' v=>if i=0 then v=Z7 (aE ⟨bp,op,aA⟩) 32 cp else if i=1 then v=aF (aE ⟨w.heap.size+1,1,aA⟩) else if i=2 then v=Z7 (aE ⟨bt,ot,aA⟩) 72 tc else if i=3 then v=Z7 (aE ⟨bt,ot,aA⟩) 8 tc else if i=4 then v=aF (aE ⟨w.heap.size+1,1,aA⟩) else if i=5 then v=Z7 (aE ⟨bt,ot,aA⟩) 72 tc else if i=6 then v=Z7 (aE ⟨bt,ot+8,aA⟩) 64 (tc-8:Nat) else if i=7 then v=aG V else if i=8 then v=aG (!V) else True) ?hstab AM ?hop ?hdone _ _ ((λ(x0 x1 x2 x3 x4 x5 x6 x7 x8:aB)=>λ(i:Nat)=>if i=0 then x0 else if i=1 then x1 else if i=2 then x2 else if i=3 then x3 else if i=4 then x4 else if i=5 then x5 else if i=6 then x6 else if i=7 then x7 else if i=8 then x8 else undef) _ _ _ _ _ _ _ _ _) _ AL ?ext ?start AL
 case start=>intro i hi h;exact absurd h Et
 case ext=>exact(JC.start w2 [] _ _ (λ_=>J6)).drew
 case hstab=>
  intro j L w9 w' i v hM _ _ h;exact h
 case hop=>
  intro i o L t w' ho hLi hx hdep K hK;have hi:i<9:=(AR.1 ho).1;obtain rfl|rfl|rfl|rfl|rfl|rfl|rfl|rfl|rfl:i=0\/i=1\/i=2\/i=3\/i=4\/i=5\/i=6\/i=7\/i=8:=AJ
  all_goals(simp at ho;subst ho)
  ·clear hdep;have hK':=hK w' (Z7 (aE ⟨bp,op,aA⟩) 32 cp) AL (hx.step 0 _ Cg DY) Cg;clear hK;rw[AP AN];go_simp;simpa[Ce] using hK'
  ·clear hdep;have hK':=hK w' (aF (aE ⟨w.heap.size+1,1,aA⟩)) AL (hx.step 1 _ Cg DY) Cg;clear hK;rw[AP AN];go_simp;simpa[Ce] using hK'
  ·have d1:t 1=aF (aE ⟨w.heap.size+1,1,aA⟩):=by simpa using(hdep ⟨1,aL⟩ AL rfl).2
   clear hdep;have cc:w'.cell? ⟨w.heap.size+1,1,aA⟩=aE (Z7 (aE ⟨bt,ot,aA⟩) 72 tc):=by rw[hx.below.cell (p:=⟨w.heap.size+1,1,aA⟩) HLT.o];exact HC1.o
   have hK':=hK w' (Z7 (aE ⟨bt,ot,aA⟩) 72 tc) AL (hx.step 2 _ Cg DY) Cg;clear hK;rw[AP AN];go_simp;simpa[Ce,d1] using hK'
  ·have d2:t 2=Z7 (aE ⟨bt,ot,aA⟩) 72 tc:=by simpa using(hdep ⟨2,aL⟩ AL rfl).2
   clear hdep;have h8:(8:Int)<=tc:=HT8.o.1;have hK':=hK w' (Z7 (aE ⟨bt,ot,aA⟩) 8 tc) AL (hx.step 3 _ Cg DY) Cg;clear hK;rw[AP AN];go_simp;simpa[Ce,d2] using hK'
  ·clear hdep;have hK':=hK w' (aF (aE ⟨w.heap.size+1,1,aA⟩)) AL (hx.step 4 _ Cg DY) Cg;clear hK;rw[AP AN];go_simp;simpa[Ce] using hK'
  ·have d4:t 4=aF (aE ⟨w.heap.size+1,1,aA⟩):=by simpa using(hdep ⟨4,aL⟩ AL rfl).2
   clear hdep;have cc:w'.cell? ⟨w.heap.size+1,1,aA⟩=aE (Z7 (aE ⟨bt,ot,aA⟩) 72 tc):=by rw[hx.below.cell (p:=⟨w.heap.size+1,1,aA⟩) HLT.o];exact HC1.o
   have hK':=hK w' (Z7 (aE ⟨bt,ot,aA⟩) 72 tc) AL (hx.step 5 _ Cg DY) Cg;clear hK;rw[AP AN];go_simp;simpa[Ce,d4] using hK'
  ·have d5:t 5=Z7 (aE ⟨bt,ot,aA⟩) 72 tc:=by simpa using(hdep ⟨5,aL⟩ AL rfl).2
   clear hdep;have h8:(8:Int)<=tc:=HT8.o.1;have h72:(72:Int)<=tc:=HT8.o.2.1;have hne:¬ (tc=8):=HT8.o.2.2;have hK':=hK w' (Z7 (aE ⟨bt,ot+8,aA⟩) 64 (tc-8:Nat)) AL (hx.step 6 _ Cg DY) Cg;clear hK;rw[AP AN];go_simp;simpa[Ce,d5] using hK'
  ·have d0:t 0=Z7 (aE ⟨bp,op,aA⟩) 32 cp:=by simpa using(hdep ⟨0,aL⟩ AL rfl).2
   have d3:t 3=Z7 (aE ⟨bt,ot,aA⟩) 8 tc:=by simpa using(hdep ⟨3,aL⟩ AL rfl).2
   have d6:t 6=Z7 (aE ⟨bt,ot+8,aA⟩) 64 (tc-8:Nat):=by simpa using(hdep ⟨6,aL⟩ AL rfl).2
   clear hdep;have A:=HVS.o w' (HB9.o.trans (hx.below.mono HB9.o.size));have hK':∀ ww,Below w'.heap.size w' ww->K _ ww:=λww hb=>hK ww (aG V) AL (hx.step 7 _ hb DY) hb
   clear hK;rw[AP AN];go_simp;try simp only[d0,d3,d6]
   refine A.mono ?_;rintro e w9 ⟨rfl,hb9⟩;have hK2:=hK' w9 hb9;clear hK' A hb9;go_simp;simpa[Ce,d0,d3,d6] using hK2
  ·have d7:t 7=aG V:=by simpa using(hdep ⟨7,aL⟩ AL rfl).2
   clear hdep;have hK':=hK w' (aG (!V)) AL (hx.step 8 _ Cg DY) Cg;clear hK;rw[AP AN];go_simp;simpa[Ce,d7] using hK'
 case hdone=>
  intro L t w6 hx hg;have e8:t 8=aG (!V):=by simpa using hg 8 AK
  have HBF:AO (Below w.heap.size w w6):=HB9.o.trans (hx.below.mono HB9.o.size);clear hg hx;simp only[e8];clear e8;cases V with
  |true=>
   have HF:AO (DX D U ks tk now=1):=HTV.o;clear HTV;go_wp2
   go_ret
   exact⟨by rw[HF.o];rfl,HBF.o⟩
  |false=>
   have HF:AO (DX D U ks tk now=7):=HTV.o;clear HTV;go_wp2
   go_ret
   exact⟨by rw[HF.o];rfl,HBF.o⟩
structure DU where
 c:Int
 fk:Int
 a:Nat
 b:Nat
noncomputable def FP (D U:List Int) (k:Int) (n:Nat) (ks:List Int) (kind:Int) (tk:List Int) (now N:Int):DU:=
 if kind=1 then(if DX D U ks tk now=1 then ⟨1,1,(Ej tk).toNat,now.toNat⟩ else ⟨DX D U ks tk now,0,0,0⟩)
 else if kind=2 then(if 0<=N/\N<256 then(if DO N D=true then ⟨9,0,0,0⟩ else if D.length=16 then ⟨10,0,0,0⟩ else ⟨9,2,N.toNat,1⟩) else ⟨10,0,0,0⟩)
 else if kind=3 then(if 0<=N/\N<256 then(if DO N D=true then ⟨9,2,N.toNat,0⟩ else ⟨9,0,0,0⟩) else ⟨10,0,0,0⟩)
 else if kind=4 then(if N<k then ⟨10,0,0,0⟩ else if k+(n:Int)<N then ⟨10,0,0,0⟩ else if N=k then ⟨9,0,0,0⟩ else ⟨9,3,N.toNat,0⟩)
 else ⟨9,0,0,0⟩
def ID (r:DU):aB:=.tuple #[Z8 aI r.c,aH #[Z8 aN 0,Z8 aI r.fk,Z8 aN (r.a:Int),Z8 aN (r.b:Int)]]
theorem TI {x:Nat} (h:x<=4294967295):IntKind.u32.wrap (x:Int)=x:=by
 rw[IntKind.wrap_u32];omega
theorem TJ {tk:List Int} (h:Ci tk):0<=Ej tk:=by
 unfold Ej;have a:∀ i,0<=tk.getD i 0:=λi=>by
  by_cases hi:i<tk.length
  ·have:=h (tk.getD i 0) (by simp[List.getD,hi]);omega
  ·simp[List.getD,hi]
 have:=a 2;have:=a 3;omega
theorem Jx {D U ks tk:List Int} {now:Int} (hz:Ci tk) (h:DX D U ks tk now=1):∃ s m:Nat,Ej tk=s/\now=m/\s<256/\m<=4294967295/\I1 tk=true:=by
 have hs:=TJ hz;unfold DX at h;by_cases h0:now<0
 ·rw[AP h0] at h;omega
 rw[AQ h0] at h;by_cases h1:4294967295<now
 ·rw[AP h1] at h;omega
 rw[AQ h1] at h;by_cases h2:I1 tk=false
 ·rw[AP h2] at h;omega
 rw[AQ h2] at h;by_cases h3:256<=Ej tk
 ·rw[AP h3] at h;omega
 exact⟨(Ej tk).toNat,now.toNat,AJ,AJ,AJ,AJ,by simpa using h2⟩
theorem M6 {D U:List Int} {k:Int} {n:Nat} {ks tk:List Int} {now N:Int}:FP D U k n ks 4 tk now N=if N<k then ⟨10,0,0,0⟩ else if k+(n:Int)<N then ⟨10,0,0,0⟩ else if N=k then ⟨9,0,0,0⟩ else ⟨9,3,N.toNat,0⟩:=by
 unfold FP;rw[AQ AK,AQ AK,AQ AK,AP rfl]
theorem U8 (w:aC) (o:Bool) (s x:Int):(Instr.field 81 (aH #[aG o,Z8 aI s,Z8 aI x]) 1).run tP w=.ok (Z8 aI s) w:=AM
theorem C9 {fn:Func} {p u:Tmp} (h:fn.results=#[.tmp u,.cell p 56]) (tmps:Array aB) (w:aC) (g:Nat) (cs:Array aB) (v:aB) (hv:tmps.getD u undef=v)
  (hp:tmps.getD p undef=aF (aE ⟨g,0,aA⟩)) (hr:w.heap[g]?=aE (aJ cs 56 (0,0))) (hs:(tP.info? 56).map (·.size)=aE cs.size) :
  (results fn tmps).run tP w=.ok (.tuple #[v,aH cs]) w:=by
 have hp':tmps[p]?.getD undef=aF (aE ⟨g,0,aA⟩):=by simpa using hp
 have hv':tmps[u]?.getD undef=v:=by simpa using hv
 have hl:=run_loadVar_row (P:=tP) w g 56 56 cs (0,0) _ hr underlying56 rfl hs;simp[results,h,hp',hv',asAddr,hl]
theorem VA (aD aU aT:Option Addr) (nD cD nU cU nT cT:Nat) (D U:List Int) (k:Int) (bp op cp:Nat) (ks:List Int) (ta:Option Addr) (tn tc:Nat) (tk:List Int) (kind now N:Int) (w:aC) (hD:D.length=nD) (hU:U.length=nU) (mD:nD<=1048576) (mU:nU<=1048576) (mT:nT<=1048576)
  (haD:At aI w aD D) (haU:At aI w aU U) (h0:0<=k) (h1:k<=1048576) (hk:ks.length=32) (hp:Fq w bp op ks) (zk:Ci ks) (ht:tk.length=tn) (mt:tn<=1048576) (hct:tn<=tc) (hat:At .u8 w ta tk) (zt:Ci tk) :
  Calls tP 25 #[aH #[Z7 aD nD cD,Z7 aU nU cU,Z8 aI k,Z7 aT nT cT],Z7 (aE ⟨bp,op,aA⟩) 32 cp,aH #[Z8 aI kind,Z7 ta tn tc,Z8 aI now,Z8 aI N]] w λe w'=>e=.returned (ID (FP D U k nT ks kind tk now N))/\Below w.heap.size w w':=by
 have HXQ:AO (NJ w 33 39 #[Z7 aD nD cD,Z7 aU nU cU,Z8 aI k,Z7 aT nT cT] #[Z8 aI kind,Z7 ta tn tc,Z8 aI now,Z8 aI N] ((w.alloc (aJ #[Z7 aD nD cD,Z7 aU nU cU,Z8 aI k,Z7 aT nT cT] 33)).alloc (aJ #[Z8 aI kind,Z7 ta tn tc,Z8 aI now,Z8 aI N] 39))):=NJ.start _ _ _ _ _;have HQZ:AO (((w.alloc (aJ #[Z7 aD nD cD,Z7 aU nU cU,Z8 aI k,Z7 aT nT cT] 33)).alloc (aJ #[Z8 aI kind,Z7 ta tn tc,Z8 aI now,Z8 aI N] 39)).heap.size=w.heap.size+2):=by show _=_;simp
 have HA:AO (∀ wz,Below w.heap.size w wz->At aI wz aD D/\At aI wz aU U/\At .u8 wz ta tk/\Fq wz bp op ks):=λwz h=>⟨haD.below h,haU.below h,hat.below h,hp.below h⟩
 have HL:AO (D.length=nD/\U.length=nU/\tk.length=tn/\ks.length=32/\Ci ks/\Ci tk):=⟨hD,hU,ht,hk,zk,zt⟩
 have HFZ:AO ((tP.info? 56).map (·.size)=aE 4):=by show _=_;kernel_rfl
 have HSZ:AO ((tP.info? 33).map (·.size)=aE 4):=by show _=_;kernel_rfl
 have HOZ:AO ((tP.info? 39).map (·.size)=aE 4):=by show _=_;kernel_rfl
 clear hD hU haD haU hk hp zk ht hat zt;go_enter func25,ntmps25
 go_upto_region 1 with fail
 generalize ((w.alloc (aJ #[Z7 aD nD cD,Z7 aU nU cU,Z8 aI k,Z7 aT nT cT] 33)).alloc (aJ #[Z8 aI kind,Z7 ta tn tc,Z8 aI now,Z8 aI N] 39))=wq at *;have HRB:AO ((wq.alloc (aJ CP 56)).heap[w.heap.size+2]?=aE (aJ CP 56 (0,0))):=by show _=_;rw[<-HQZ.o];exact AX wq _
 have HBQ:AO (Below wq.heap.size wq (wq.alloc (aJ CP 56))):=Cg.alloc Cl _;have HX0:AO (NJ w 33 39 #[Z7 aD nD cD,Z7 aU nU cU,Z8 aI k,Z7 aT nT cT] #[Z8 aI kind,Z7 ta tn tc,Z8 aI now,Z8 aI N] (wq.alloc (aJ CP 56))):=HXQ.o.call HBQ.o;generalize wq.alloc (aJ CP 56)=w0 at *;have HB:AO (Below w.heap.size w w0):=HX0.o.below;have o0:w0.cell? ⟨w.heap.size+1,0,aA⟩=aE (Z8 aI kind):=by rw[AA HX0.o.b1 0];rfl
 have o3:w0.cell? ⟨w.heap.size+1,3,aA⟩=aE (Z8 aI N):=by rw[AA HX0.o.b1 3];rfl
 have s0:w0.cell? ⟨w.heap.size,0,aA⟩=aE (Z7 aD nD cD):=by rw[AA HX0.o.b0 0];rfl
 have s2:w0.cell? ⟨w.heap.size,2,aA⟩=aE (Z8 aI k):=by rw[AA HX0.o.b0 2];rfl
 have s3:w0.cell? ⟨w.heap.size,3,aA⟩=aE (Z7 aT nT cT):=by rw[AA HX0.o.b0 3];rfl
 by_cases hk1:kind=1
 ·subst hk1;have hser:(decide (0<=N)=true/\decide (N<256)=true)\/(decide (0<=N)=true/\decide (N<256)=false)\/decide (0<=N)=false:=by
   cases decide (0<=N)<;>cases decide (N<256)<;>simp
  rcases hser with⟨hn0',hn1'⟩|⟨hn0',hn1'⟩|hn0'
  all_goals
   have HLT:AO (w.heap.size+1<wq.heap.size):=HXQ.o.lt;go_wp2_with (first
    |(refine Ae rfl 33 (aM 3) rfl w.heap.size rfl 33 _ (0,0) _ HX0.o.b0 underlying33 rfl HSZ.o ?_)
    |(refine Ae rfl 39 (aM 5) rfl (w.heap.size+1) rfl 39 _ (0,0) _ HX0.o.b1 underlying39 rfl HOZ.o ?_)
    |fail)
   refine(U7 aD aU aT nD cD nU cU nT cT D U k bp op cp ks ta tn tc tk 1 now N w0 HL.o.1 HL.o.2.1 mD mU (HA.o _ HB.o).1 (HA.o _ HB.o).2.1 HL.o.2.2.2.1 (HA.o _ HB.o).2.2.2 HL.o.2.2.2.2.1 HL.o.2.2.1 mt hct (HA.o _ HB.o).2.2.1 HL.o.2.2.2.2.2).mono ?_;rintro e w1 ⟨rfl,hb1⟩;have HR0:AO (w1.heap[w.heap.size+2]?=aE (aJ CP 56 (0,0))):=by show _=_;rw[hb1.block _ (AR.1 HRB.o).1];exact HRB.o
   have HW0:AO (Below wq.heap.size wq w1.drew):=Gx (HBQ.o.trans (hb1.mono HBQ.o.size)) 1;have HB1:AO (Below w.heap.size w w1):=HB.o.trans (hb1.mono HB.o.size);have HT1:AO (DX D U ks tk now=1->∃ s m:Nat,Ej tk=s/\now=m/\s<256/\m<=4294967295/\I1 tk=true):=Jx HL.o.2.2.2.2.2;have HDU:AO (ID (FP D U k nT ks 1 tk now N)=if DX D U ks tk now=1 then .tuple #[Z8 aI 1,aH #[Z8 aN 0,Z8 aI 1,Z8 aN ((Ej tk).toNat:Nat),Z8 aN (now.toNat:Nat)]] else .tuple #[Z8 aI (DX D U ks tk now),aH CP]):=by
    show _=_
    unfold FP;by_cases h:DX D U ks tk now=1<;>simp[h,ID]
   clear hb1 o0 o3 s0 s2 s3 HRB HB HBQ HX0;generalize hc:DX D U ks tk now=c at *;have HC:AO (DX D U ks tk now=c):=hc;clear hc;by_cases hc1:c=1
   ·subst hc1;obtain⟨s,m,hs,hm,hs2,hm2,htb⟩:=HT1.o rfl;have HF:AO (ID (FP D U k nT ks 1 tk now N)=.tuple #[Z8 aI 1,aH #[Z8 aN 0,Z8 aI 1,Z8 aN s,Z8 aN m]]):=by show _=_;rw[HDU.o,AP rfl,hs,hm];rfl
    have HPT:AO (∀ wz,Below wq.heap.size wq wz->Calls tP 41 #[Z7 ta tn tc] wz λe w'=>e=.returned (aH #[aG true,Z8 aI s,Z8 aI (Ez tk)])/\Below wz.heap.size wz w'):=λwz h=>by
     have:=PR ta tn tc tk wz HL.o.2.2.1 mt hct (HA.o wz (HXQ.o.below.trans (h.mono HXQ.o.below.size))).2.2.1 HL.o.2.2.2.2.2;rw[If htb,hs] at this;exact this
    have HW1:AO (IntKind.u32.wrap (s:Int)=s):=TI AJ;have HW2:AO (IntKind.u32.wrap (m:Int)=m):=TI AJ;subst hm;generalize Ez tk=x at *;clear HDU HT1 HC hs htb HA HL hs2 hm2;go_wp2_with fail;refine Ag AM ?_;refine K0 (λi a b=>if i=11 then Wr (w.heap.size+2) a b else Below a.heap.size a b) (frame:=(λ(a b c d e f g h i j k l m n o p q r s u v w x y z A B C D E F G H I J K L M N O P Q R S T U V W X Y Z a0 a1 a2 a3 a4 a5 a6 a7 a8 a9 b0 b1 b2 b3 b4 b5 b6 b7 b8 b9 c0 c1 c2 c3 c4 c5 c6 c7 c8 c9 d0 d1 d2 d3 d4 d5 d6 d7 d8 d9 e0 e1 e2 e3 e4:aB)=>λ(t:Nat->aB)=>({ tmps:=List.toArray [a,b,c,d,e,f,t 10,g,h,i,j,k,l,m,n,o,p,q,r,s,u,v,w,x,y,z,A,B,C,D,E,t 0,t 1,t 2,t 3,t 4,t 5,t 6,t 7,t 8,t 9,F,G,H,I,J,K,L,M,N,O,P,Q,R,S,T,U,V,W,X,Y,Z,a0,a1,a2,a3,a4,a5,a6,a7,a8,a9,b0,b1,b2,b3,b4,b5,b6,b7,b8,b9,c0,c1,c2,c3,c4,c5,c6,c7,c8,c9,d0,d1,d2,d3,d4,d5,d6,d7,d8,d9,e0,e1,e2,e3,e4],defers:=[] }:Act)) _ _ _ _ _ _ _ _ _ _ _ _ _ _ _ _ _ _ _ _ _ _ _ _ _ _ _ _ _ _ _ _ _ _ _ _ _ _ _ _ _ _ _ _ _ _ _ _ _ _ _ _ _ _ _ _ _ _ _ _ _ _ _ _ _ _ _ _ _ _ _ _ _ _ _ _ _ _ _ _ _ _ _ _ _ _ _ _ _ _ _ _ _ _ _ _)
     (Ext:=λL u w'=>NE wq (w.heap.size+2) 11 56 CP (λ_ cs=>cs=#[Z8 aN 0,Z8 aI 1,Z8 aN s,Z8 aN m]) [] L u w') (Good:=λi L w' v=>if i=0 then v=Z8 aI 1 else if i=1 then v=aF (aE ⟨w.heap.size+1,1,aA⟩) else if i=2 then v=Z7 ta tn tc else if i=3 then v=aH #[aG true,Z8 aI s,Z8 aI x] else if i=4 then v=Z8 aI s else if i=5 then v=Z8 aN s else if i=6 then v=aF (aE ⟨w.heap.size+1,2,aA⟩) else if i=7 then v=Z8 aI m else if i=8 then v=Z8 aN m else if i=9 then v=aH #[Z8 aN 0,Z8 aI 1,Z8 aN s,Z8 aN m] else if i=10 then v=Z8 aI 1 else if i=11 then L 11=true else True) ?hstab AM ?hop ?hdone _ _ ((λ(x0 x1 x2 x3 x4 x5 x6 x7 x8 x9 x10:aB)=>λ(i:Nat)=>if i=0 then x0 else if i=1 then x1 else if i=2 then x2 else if i=3 then x3 else if i=4 then x4 else if i=5 then x5 else if i=6 then x6 else if i=7 then x7 else if i=8 then x8 else if i=9 then x9 else if i=10 then x10 else undef) _ _ _ _ _ _ _ _ _ _ _) _ AL ?ext ?start AL
    case start=>intro i hi h;exact absurd h Et
    case ext=>exact NE.start ⟨HW0.o,λp _ hp=>absurd hp Et,λp _ q _ _ hp=>absurd hp Et⟩ (λ_=>J6) HR0.o
    case hstab=>
     intro j L w9 w' i v hM hij hLi h;by_cases hl:j=11
     ·subst hl;simp at h |-;unfold Cf;simp[h]
     simp only[if_neg hl] at h |-;exact h
    case hop=>
     intro i o L t w' ho hLi hx hdep K hK;have hi:i<12:=(AR.1 ho).1;obtain rfl|rfl|rfl|rfl|rfl|rfl|rfl|rfl|rfl|rfl|rfl|rfl:i=0\/i=1\/i=2\/i=3\/i=4\/i=5\/i=6\/i=7\/i=8\/i=9\/i=10\/i=11:=AJ
     all_goals(simp at ho;subst ho)
     ·clear hdep;have hK':=hK w' (Z8 aI 1) AL (hx.step (λ_ _ _ _ h=>h) 0 AK _ Cg DY) (by rw[AQ AK];exact Cg);clear hK;rw[AP AN];go_simp;simpa[Ce] using hK'
     ·clear hdep;have hK':=hK w' (aF (aE ⟨w.heap.size+1,1,aA⟩)) AL (hx.step (λ_ _ _ _ h=>h) 1 AK _ Cg DY) (by rw[AQ AK];exact Cg);clear hK;rw[AP AN];go_simp;simpa[Ce] using hK'
     ·have d1:t 1=aF (aE ⟨w.heap.size+1,1,aA⟩):=by simpa using(hdep ⟨1,aL⟩ AL rfl).2
      clear hdep;have cc:w'.cell? ⟨w.heap.size+1,1,aA⟩=aE (Z7 ta tn tc):=by rw[Ai (a:=⟨w.heap.size+1,1,aA⟩) (w:=wq) (hx.ax.below.block _ HLT.o),AA HXQ.o.b1 1];rfl
      have hK':=hK w' (Z7 ta tn tc) AL (hx.step (λ_ _ _ _ h=>h) 2 AK _ Cg DY) (by rw[AQ AK];exact Cg);clear hK;rw[AP AN];go_simp;simpa[Ce,d1] using hK'
     ·have d2:t 2=Z7 ta tn tc:=by simpa using(hdep ⟨2,aL⟩ AL rfl).2
      clear hdep;have A:=HPT.o w' hx.ax.below;have hK':∀ ww,Below w'.heap.size w' ww->K _ ww:=λww hb=>hK ww (aH #[aG true,Z8 aI s,Z8 aI x]) AL (hx.step (λ_ _ _ _ h=>h) 3 AK _ hb DY) (by rw[AQ AK];exact hb)
      clear hK;rw[AP AN];go_simp;try simp only[d2]
      refine A.mono ?_;rintro e w9 ⟨rfl,hb9⟩;have hK2:=hK' w9 hb9;clear hK' A hb9;go_simp;simpa[Ce,d2] using hK2
     ·have d3:t 3=aH #[aG true,Z8 aI s,Z8 aI x]:=by simpa using(hdep ⟨3,aL⟩ AL rfl).2
      clear hdep;have hK':=hK w' (Z8 aI s) AL (hx.step (λ_ _ _ _ h=>h) 4 AK _ Cg DY) (by rw[AQ AK];exact Cg);clear hK;rw[AP AN];go_simp;try simp only[d3]
      rw[U8];go_simp;simpa[Ce,d3] using hK'
     ·have d4:t 4=Z8 aI s:=by simpa using(hdep ⟨4,aL⟩ AL rfl).2
      clear hdep;have hw:=HW1.o;have hK':=hK w' (Z8 aN s) AL (hx.step (λ_ _ _ _ h=>h) 5 AK _ Cg DY) (by rw[AQ AK];exact Cg);clear hK;rw[AP AN];go_simp;simpa[Ce,d4] using hK'
     ·clear hdep;have hK':=hK w' (aF (aE ⟨w.heap.size+1,2,aA⟩)) AL (hx.step (λ_ _ _ _ h=>h) 6 AK _ Cg DY) (by rw[AQ AK];exact Cg);clear hK;rw[AP AN];go_simp;simpa[Ce] using hK'
     ·have d6:t 6=aF (aE ⟨w.heap.size+1,2,aA⟩):=by simpa using(hdep ⟨6,aL⟩ AL rfl).2
      clear hdep;have cc:w'.cell? ⟨w.heap.size+1,2,aA⟩=aE (Z8 aI m):=by rw[Ai (a:=⟨w.heap.size+1,2,aA⟩) (w:=wq) (hx.ax.below.block _ HLT.o),AA HXQ.o.b1 2];rfl
      have hK':=hK w' (Z8 aI m) AL (hx.step (λ_ _ _ _ h=>h) 7 AK _ Cg DY) (by rw[AQ AK];exact Cg);clear hK;rw[AP AN];go_simp;simpa[Ce,d6] using hK'
     ·have d7:t 7=Z8 aI m:=by simpa using(hdep ⟨7,aL⟩ AL rfl).2
      clear hdep;have hw:=HW2.o;have hK':=hK w' (Z8 aN m) AL (hx.step (λ_ _ _ _ h=>h) 8 AK _ Cg DY) (by rw[AQ AK];exact Cg);clear hK;rw[AP AN];go_simp;simpa[Ce,d7] using hK'
     ·have d5:t 5=Z8 aN s:=by simpa using(hdep ⟨5,aL⟩ AL rfl).2
      have d8:t 8=Z8 aN m:=by simpa using(hdep ⟨8,aL⟩ AL rfl).2
      clear hdep;have hK':=hK w' (aH #[Z8 aN 0,Z8 aI 1,Z8 aN s,Z8 aN m]) AL (hx.step (λ_ _ _ _ h=>h) 9 AK _ Cg DY) (by rw[AQ AK];exact Cg);clear hK;rw[AP AN];go_simp;simpa[Ce,d5,d8] using hK'
     ·have d0:t 0=Z8 aI 1:=by simpa using(hdep ⟨0,aL⟩ AL rfl).2
      clear hdep;have hK':=hK w' (Z8 aI 1) AL (hx.step (λ_ _ _ _ h=>h) 10 AK _ Cg DY) (by rw[AQ AK];exact Cg);clear hK;rw[AP AN];go_simp;simpa[Ce,d0] using hK'
     ·have d9:t 9=aH #[Z8 aN 0,Z8 aI 1,Z8 aN s,Z8 aN m]:=by simpa using(hdep ⟨9,aL⟩ AL rfl).2
      clear hdep;have hrs:=hx.pre hLi;have hK':∀ ww,Wr (w.heap.size+2) w' ww->ww.heap[w.heap.size+2]?=aE (aJ #[Z8 aN 0,Z8 aI 1,Z8 aN s,Z8 aN m] 56 (0,0))->K _ ww:=λww hw hr=>hK ww undef (by simp[Cf]) (hx.put (Nat.le_of_eq HQZ.o) AK _ hw hr rfl) (by rw[AP rfl];exact hw)
      clear hK;rw[AP AN];refine Bt 56 (aM 7) (aM 40) rfl (w.heap.size+2) _ rfl d9 56 _ hrs HFZ.o rfl (by simp[Value.oneCell']) ?_;have hK2:=hK' _ (Wr.setRow _ _ _) (AB hrs);clear hK';simpa[Ce,Act.put] using hK2
    case hdone=>
     intro L t w' hx hg;have l11:L 11=true:=by simpa using hg 11 AK
     have e10:t 10=Z8 aI 1:=by simpa using hg 10 AK
     clear hg;obtain⟨cs,hr,rfl⟩:=hx.fin l11;have HR9:AO (w'.heap[w.heap.size+2]?=aE (aJ #[Z8 aN 0,Z8 aI 1,Z8 aN s,Z8 aN m] 56 (0,0))):=hr;have HFF:AO (Below w.heap.size w w'):=HXQ.o.below.trans (hx.ax.below.mono HXQ.o.below.size);clear hx hr;simp only[e10];clear e10;go_wp2_with fail;exact Ab (v:=.tuple #[Z8 aI 1,aH #[Z8 aN 0,Z8 aI 1,Z8 aN s,Z8 aN m]]) (C9 rfl _ _ (w.heap.size+2) _ _ rfl rfl HR9.o HFZ.o) rfl ⟨by rw[HF.o],HFF.o⟩
   ·have HF:AO (ID (FP D U k nT ks 1 tk now N)=.tuple #[Z8 aI c,aH CP]):=by show _=_;rw[HDU.o,AQ hc1]
    have hc1':decide (c=1)=false:=Af hc1;have HB:=HB1;have HRB:=HR0;clear HDU HT1 HC;have HFN:AO (Below w.heap.size w (w1.setRow (w.heap.size+2) CP)):=HB.o.trans ((Wr.setRow _ _ _).below AJ)
    go_upto_region 7 with fail
    go_wp2_with (first
     |(refine AE 56 (aM 7) (aM 30) (w.heap.size+2) CP 56 HRB.o HFZ.o rfl (by simp[Value.oneCell']) ?_)
     |fail)
    all_goals exact Ab (v:=.tuple #[Z8 aI c,aH CP]) (C9 rfl _ _ (w.heap.size+2) _ _ rfl rfl (AB HRB.o) HFZ.o) rfl ⟨by rw[HF.o],HFN.o⟩
 by_cases hk2:kind=2
 ·subst hk2;clear hk1;by_cases hn0:0<=N
  ·by_cases hn1:N<256
   ·obtain⟨m,rfl⟩:∃ m:Nat,N=m:=⟨N.toNat,AJ⟩
    have hn0':decide ((0:Int)<=m)=true:=Al hn0;have hn1':decide ((m:Int)<256)=true:=Al hn1;have hwr:IntKind.u32.wrap (m:Int)=m:=TI AJ;clear hn0;go_wp2_with fail;refine(Dd aD nD cD D m _ HL.o.1 mD (HA.o _ HB.o).1).mono ?_;rintro e w4 ⟨rfl,e4⟩;obtain rfl:w0=w4:=e4.symm;cases hm:DO (m:Int) D with
    |true=>
     have HMT:AO (DO (m:Int) D=true):=hm;have HF:AO (ID (FP D U k nT ks 2 tk now m)=.tuple #[Z8 aI 9,aH CP]):=by show _=_;unfold FP;simp[hn1,hm,ID]
     clear hm hn1;go_wp2_with fail;refine(Dd aD nD cD D m _ HL.o.1 mD (HA.o _ HB.o).1).mono ?_;rintro e w4 ⟨rfl,e4⟩;obtain rfl:w0=w4:=e4.symm;rw[HMT.o];have HFN:AO (Below w.heap.size w (w0.setRow (w.heap.size+2) CP)):=HB.o.trans ((Wr.setRow _ _ _).below AJ)
     go_upto_region 13 with fail
     go_wp2_with (first
      |(refine AE 56 (aM 7) (aM 63) (w.heap.size+2) CP 56 HRB.o HFZ.o rfl (by simp[Value.oneCell']) ?_)
      |fail)
     all_goals exact Ab (v:=.tuple #[Z8 aI 9,aH CP]) (C9 rfl _ _ (w.heap.size+2) _ _ rfl rfl (AB HRB.o) HFZ.o) rfl ⟨by rw[HF.o],HFN.o⟩
    |false=>
     by_cases h16:nD=16
     ·have HF:AO (ID (FP D U k nT ks 2 tk now m)=.tuple #[Z8 aI 10,aH CP]):=by show _=_;unfold FP;simp[hn1,hm,ID,HL.o.1,h16]
      subst h16;clear hm hn1;have HFN:AO (Below w.heap.size w (w0.setRow (w.heap.size+2) CP)):=HB.o.trans ((Wr.setRow _ _ _).below AJ)
      go_upto_region 11 with fail
      go_wp2_with (first
       |(refine AE 56 (aM 7) (aM 58) (w.heap.size+2) CP 56 HRB.o HFZ.o rfl (by simp[Value.oneCell']) ?_)
       |fail)
      all_goals exact Ab (v:=.tuple #[Z8 aI 10,aH CP]) (C9 rfl _ _ (w.heap.size+2) _ _ rfl rfl (AB HRB.o) HFZ.o) rfl ⟨by rw[HF.o],HFN.o⟩
     ·have HF:AO (ID (FP D U k nT ks 2 tk now m)=.tuple #[Z8 aI 9,aH #[Z8 aN 0,Z8 aI 2,Z8 aN m,Z8 aN 1]]):=by show _=_;unfold FP;simp[hn1,hm,ID,HL.o.1,h16]
      have h16':¬ ((nD:Int)=16):=AJ
      have HM:AO (DO (m:Int) D=false):=hm;clear hm hn1 h16;go_wp2_with fail;refine(Dd aD nD cD D m _ HL.o.1 mD (HA.o _ HB.o).1).mono ?_;rintro e w4 ⟨rfl,e4⟩;obtain rfl:w0=w4:=e4.symm;rw[HM.o];have HFN:AO (Below w.heap.size w (w0.setRow (w.heap.size+2) #[Z8 aN 0,Z8 aI 2,Z8 aN m,Z8 aN 1])):=HB.o.trans ((Wr.setRow _ _ _).below AJ)
      go_upto_region 14 with fail
      go_wp2_with (first
       |(refine AE 56 (aM 7) (aM 66) (w.heap.size+2) #[Z8 aN 0,Z8 aI 2,Z8 aN m,Z8 aN 1] 56 HRB.o HFZ.o rfl (by simp[Value.oneCell']) ?_)
       |fail)
      all_goals exact Ab (v:=.tuple #[Z8 aI 9,aH #[Z8 aN 0,Z8 aI 2,Z8 aN m,Z8 aN 1]]) (C9 rfl _ _ (w.heap.size+2) _ _ rfl rfl (AB HRB.o) HFZ.o) rfl ⟨by rw[HF.o],HFN.o⟩
   ·have HF:AO (ID (FP D U k nT ks 2 tk now N)=.tuple #[Z8 aI 10,aH CP]):=by show _=_;unfold FP;simp[hn1,ID]
    have hn0':decide (0<=N)=true:=Al hn0;have hn1':decide (N<256)=false:=Af hn1;clear hn0 hn1;have HFN:AO (Below w.heap.size w (w0.setRow (w.heap.size+2) CP)):=HB.o.trans ((Wr.setRow _ _ _).below AJ)
    go_upto_region 11 with fail
    go_wp2_with (first
     |(refine AE 56 (aM 7) (aM 58) (w.heap.size+2) CP 56 HRB.o HFZ.o rfl (by simp[Value.oneCell']) ?_)
     |fail)
    all_goals exact Ab (v:=.tuple #[Z8 aI 10,aH CP]) (C9 rfl _ _ (w.heap.size+2) _ _ rfl rfl (AB HRB.o) HFZ.o) rfl ⟨by rw[HF.o],HFN.o⟩
  ·have HF:AO (ID (FP D U k nT ks 2 tk now N)=.tuple #[Z8 aI 10,aH CP]):=by show _=_;unfold FP;simp[hn0,ID]
   have hn0':decide (0<=N)=false:=Af hn0;clear hn0;have HFN:AO (Below w.heap.size w (w0.setRow (w.heap.size+2) CP)):=HB.o.trans ((Wr.setRow _ _ _).below AJ)
   go_upto_region 11 with fail
   go_wp2_with (first
    |(refine AE 56 (aM 7) (aM 58) (w.heap.size+2) CP 56 HRB.o HFZ.o rfl (by simp[Value.oneCell']) ?_)
    |fail)
   all_goals exact Ab (v:=.tuple #[Z8 aI 10,aH CP]) (C9 rfl _ _ (w.heap.size+2) _ _ rfl rfl (AB HRB.o) HFZ.o) rfl ⟨by rw[HF.o],HFN.o⟩
 by_cases hk3:kind=3
 ·subst hk3;clear hk1 hk2;by_cases hn0:0<=N
  ·by_cases hn1:N<256
   ·obtain⟨m,rfl⟩:∃ m:Nat,N=m:=⟨N.toNat,AJ⟩
    have hn0':decide ((0:Int)<=m)=true:=Al hn0;have hn1':decide ((m:Int)<256)=true:=Al hn1;have hwr:IntKind.u32.wrap (m:Int)=m:=TI AJ;clear hn0;go_wp2_with fail;refine(Dd aD nD cD D m _ HL.o.1 mD (HA.o _ HB.o).1).mono ?_;rintro e w4 ⟨rfl,e4⟩;obtain rfl:w0=w4:=e4.symm;cases hm:DO (m:Int) D with
    |true=>
     have HF:AO (ID (FP D U k nT ks 3 tk now m)=.tuple #[Z8 aI 9,aH #[Z8 aN 0,Z8 aI 2,Z8 aN m,Z8 aN 0]]):=by show _=_;unfold FP;simp[hn1,hm,ID]
     clear hm hn1;have HFN:AO (Below w.heap.size w (w0.setRow (w.heap.size+2) #[Z8 aN 0,Z8 aI 2,Z8 aN m,Z8 aN 0])):=HB.o.trans ((Wr.setRow _ _ _).below AJ)
     go_upto_region 20 with fail
     go_wp2_with (first
      |(refine AE 56 (aM 7) (aM 80) (w.heap.size+2) #[Z8 aN 0,Z8 aI 2,Z8 aN m,Z8 aN 0] 56 HRB.o HFZ.o rfl (by simp[Value.oneCell']) ?_)
      |fail)
     all_goals exact Ab (v:=.tuple #[Z8 aI 9,aH #[Z8 aN 0,Z8 aI 2,Z8 aN m,Z8 aN 0]]) (C9 rfl _ _ (w.heap.size+2) _ _ rfl rfl (AB HRB.o) HFZ.o) rfl ⟨by rw[HF.o],HFN.o⟩
    |false=>
     have HF:AO (ID (FP D U k nT ks 3 tk now m)=.tuple #[Z8 aI 9,aH CP]):=by show _=_;unfold FP;simp[hn1,hm,ID]
     clear hm hn1;have HFN:AO (Below w.heap.size w (w0.setRow (w.heap.size+2) CP)):=HB.o.trans ((Wr.setRow _ _ _).below AJ)
     go_upto_region 19 with fail
     go_wp2_with (first
      |(refine AE 56 (aM 7) (aM 77) (w.heap.size+2) CP 56 HRB.o HFZ.o rfl (by simp[Value.oneCell']) ?_)
      |fail)
     all_goals exact Ab (v:=.tuple #[Z8 aI 9,aH CP]) (C9 rfl _ _ (w.heap.size+2) _ _ rfl rfl (AB HRB.o) HFZ.o) rfl ⟨by rw[HF.o],HFN.o⟩
   ·have HF:AO (ID (FP D U k nT ks 3 tk now N)=.tuple #[Z8 aI 10,aH CP]):=by show _=_;unfold FP;simp[hn1,ID]
    have hn0':decide (0<=N)=true:=Al hn0;have hn1':decide (N<256)=false:=Af hn1;clear hn0 hn1;have HFN:AO (Below w.heap.size w (w0.setRow (w.heap.size+2) CP)):=HB.o.trans ((Wr.setRow _ _ _).below AJ)
    go_upto_region 17 with fail
    go_wp2_with (first
     |(refine AE 56 (aM 7) (aM 71) (w.heap.size+2) CP 56 HRB.o HFZ.o rfl (by simp[Value.oneCell']) ?_)
     |fail)
    all_goals exact Ab (v:=.tuple #[Z8 aI 10,aH CP]) (C9 rfl _ _ (w.heap.size+2) _ _ rfl rfl (AB HRB.o) HFZ.o) rfl ⟨by rw[HF.o],HFN.o⟩
  ·have HF:AO (ID (FP D U k nT ks 3 tk now N)=.tuple #[Z8 aI 10,aH CP]):=by show _=_;unfold FP;simp[hn0,ID]
   have hn0':decide (0<=N)=false:=Af hn0;clear hn0;have HFN:AO (Below w.heap.size w (w0.setRow (w.heap.size+2) CP)):=HB.o.trans ((Wr.setRow _ _ _).below AJ)
   go_upto_region 17 with fail
   go_wp2_with (first
    |(refine AE 56 (aM 7) (aM 71) (w.heap.size+2) CP 56 HRB.o HFZ.o rfl (by simp[Value.oneCell']) ?_)
    |fail)
   all_goals exact Ab (v:=.tuple #[Z8 aI 10,aH CP]) (C9 rfl _ _ (w.heap.size+2) _ _ rfl rfl (AB HRB.o) HFZ.o) rfl ⟨by rw[HF.o],HFN.o⟩
 by_cases hk4:kind=4
 ·subst hk4;clear hk1 hk2 hk3;have hser:(decide (0<=N)=true/\decide (N<256)=true)\/(decide (0<=N)=true/\decide (N<256)=false)\/decide (0<=N)=false:=by
   cases decide (0<=N)<;>cases decide (N<256)<;>simp
  rcases hser with⟨hn0',hn1'⟩|⟨hn0',hn1'⟩|hn0'
  all_goals
   by_cases hlo:N<k
   ·have HF:AO (ID (FP D U k nT ks 4 tk now N)=.tuple #[Z8 aI 10,aH CP]):=by show _=_;rw[M6,AP hlo];rfl
    have hlo':decide (N<k)=true:=Al hlo;clear hlo;have HFN:AO (Below w.heap.size w (w0.setRow (w.heap.size+2) CP)):=HB.o.trans ((Wr.setRow _ _ _).below AJ)
    go_upto_region 23 with fail
    go_wp2_with (first
     |(refine AE 56 (aM 7) (aM 97) (w.heap.size+2) CP 56 HRB.o HFZ.o rfl (by simp[Value.oneCell']) ?_)
     |fail)
    all_goals exact Ab (v:=.tuple #[Z8 aI 10,aH CP]) (C9 rfl _ _ (w.heap.size+2) _ _ rfl rfl (AB HRB.o) HFZ.o) rfl ⟨by rw[HF.o],HFN.o⟩
   have hlo':decide (N<k)=false:=Af hlo;by_cases hhi:k+(nT:Int)<N
   ·have HF:AO (ID (FP D U k nT ks 4 tk now N)=.tuple #[Z8 aI 10,aH CP]):=by show _=_;rw[M6,AQ hlo,AP hhi];rfl
    have hhi':decide (k+(nT:Int)<N)=true:=Al hhi;clear hlo hhi;have HFN:AO (Below w.heap.size w (w0.setRow (w.heap.size+2) CP)):=HB.o.trans ((Wr.setRow _ _ _).below AJ)
    go_upto_region 23 with fail
    go_wp2_with (first
     |(refine AE 56 (aM 7) (aM 97) (w.heap.size+2) CP 56 HRB.o HFZ.o rfl (by simp[Value.oneCell']) ?_)
     |fail)
    all_goals exact Ab (v:=.tuple #[Z8 aI 10,aH CP]) (C9 rfl _ _ (w.heap.size+2) _ _ rfl rfl (AB HRB.o) HFZ.o) rfl ⟨by rw[HF.o],HFN.o⟩
   have hhi':decide (k+(nT:Int)<N)=false:=Af hhi;by_cases hne:N=k
   ·have HF:AO (ID (FP D U k nT ks 4 tk now N)=.tuple #[Z8 aI 9,aH CP]):=by show _=_;rw[M6,AQ hlo,AQ hhi,AP hne];rfl
    subst hne;clear hlo hhi;have HFN:AO (Below w.heap.size w (w0.setRow (w.heap.size+2) CP)):=HB.o.trans ((Wr.setRow _ _ _).below AJ)
    go_upto_region 25 with fail
    go_wp2_with (first
     |(refine AE 56 (aM 7) (aM 102) (w.heap.size+2) CP 56 HRB.o HFZ.o rfl (by simp[Value.oneCell']) ?_)
     |fail)
    all_goals exact Ab (v:=.tuple #[Z8 aI 9,aH CP]) (C9 rfl _ _ (w.heap.size+2) _ _ rfl rfl (AB HRB.o) HFZ.o) rfl ⟨by rw[HF.o],HFN.o⟩
   obtain⟨m,rfl⟩:∃ m:Nat,N=m:=⟨N.toNat,AJ⟩
   have HF:AO (ID (FP D U k nT ks 4 tk now m)=.tuple #[Z8 aI 9,aH #[Z8 aN 0,Z8 aI 3,Z8 aN m,Z8 aN 0]]):=by show _=_;rw[M6,AQ hlo,AQ hhi,AQ hne];rfl
   have hwr:IntKind.u32.wrap (m:Int)=m:=TI AJ;clear hlo hhi;have HFN:AO (Below w.heap.size w (w0.setRow (w.heap.size+2) #[Z8 aN 0,Z8 aI 3,Z8 aN m,Z8 aN 0])):=HB.o.trans ((Wr.setRow _ _ _).below AJ)
   go_upto_region 26 with fail
   go_wp2_with (first
    |(refine AE 56 (aM 7) (aM 105) (w.heap.size+2) #[Z8 aN 0,Z8 aI 3,Z8 aN m,Z8 aN 0] 56 HRB.o HFZ.o rfl (by simp[Value.oneCell']) ?_)
    |fail)
   all_goals exact Ab (v:=.tuple #[Z8 aI 9,aH #[Z8 aN 0,Z8 aI 3,Z8 aN m,Z8 aN 0]]) (C9 rfl _ _ (w.heap.size+2) _ _ rfl rfl (AB HRB.o) HFZ.o) rfl ⟨by rw[HF.o],HFN.o⟩
 have hser:(decide (0<=N)=true/\decide (N<256)=true)\/(decide (0<=N)=true/\decide (N<256)=false)\/decide (0<=N)=false:=by
  cases decide (0<=N)<;>cases decide (N<256)<;>simp
 rcases hser with⟨hn0',hn1'⟩|⟨hn0',hn1'⟩|hn0'
 all_goals
  have HF:AO (ID (FP D U k nT ks kind tk now N)=.tuple #[Z8 aI 9,aH CP]):=by show _=_;unfold FP;simp[hk1,hk2,hk3,hk4,ID]
  have HFN:AO (Below w.heap.size w (w0.setRow (w.heap.size+2) CP)):=HB.o.trans ((Wr.setRow _ _ _).below AJ)
  go_upto_region 27 with fail
  go_wp2_with (first
   |(refine AE 56 (aM 7) (aM 106) (w.heap.size+2) CP 56 HRB.o HFZ.o rfl (by simp[Value.oneCell']) ?_)
   |fail)
  all_goals exact Ab (v:=.tuple #[Z8 aI 9,aH CP]) (C9 rfl _ _ (w.heap.size+2) _ _ rfl rfl (AB HRB.o) HFZ.o) rfl ⟨by rw[HF.o],HFN.o⟩
end Go.Proofs.YtjdhhgaelgemcaaGreatDoor
