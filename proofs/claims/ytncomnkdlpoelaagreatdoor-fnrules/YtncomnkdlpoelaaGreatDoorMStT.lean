import Derived.Test.YtncomnkdlpoelaaGreatDoorMEda
import Derived.Test.YtncomnkdlpoelaaGreatDoorMEsp
open Go.Proofs.Tryz renaming prog->tP
open Go.Proofs.Tryz
open Go.Value renaming slice->aM,int->aO,pointer->aY,bool->ae,agg->af
open Go.IntKind renaming i64->aZ,u32->ai
open Go.Obj renaming cells->aa
open Go.Operand renaming tmp->ah
open Option renaming some->aR,none->aS
open Go renaming World->aV,Value->aX
set_option maxHeartbeats 16000000
set_option maxRecDepth 100000
namespace Go.Proofs.YtncomnkdlpoelaaGreatDoor
open Go.ChangeShapes Go.WideShapes Go.ChangeAt Go.RowKit
set_option linter.unusedVariables false
theorem FM.below {w w':aV} (h:FM w) (b:Below w.heap.size w w'):FM w':=by
 have hlt:=block_lt_of_cell (a:=⟨0,0,aS⟩) h;unfold FM at h |-;rw[b.cell (p:=⟨0,0,aS⟩) hlt];exact h
theorem NJ.low {H B g:Nat} {w:aV} {d u:List Int} {v:aX} {D U:List Int} {k:Int} {T:List Int} {n:Nat} (h:NJ H B g w d u v D U k T n):H<=w.heap.size:=Ai h.hHB h.hBw
theorem Yr {D U:List Int} {k:Int} {T:List Int} {n:Nat} {ks tk:List Int} {now N:Int}:FB D U k T n ks 1 tk now N=if Db D U ks tk now=1 then ⟨1,D,DF U (E6 tk).toNat,k,T++[E6 tk,now],n+1⟩ else ⟨Db D U ks tk now,D,U,k,T,n⟩:=by unfold FB;rw[AP rfl]
theorem Vf {H B g:Nat} {w:aV} {d u:List Int} {v:aX} {D U:List Int} {k:Int} {T:List Int} {n:Nat} (h:NJ H B g w d u v D U k T n) (bp op cp:Nat) (ks:List Int) (ta:Option Addr) (tn tc:Nat) (tk:List Int) (kind now N:Int) (hk:ks.length=32) (hp:FK w bp op ks) (zk:Cb ks) (ht:tk.length=tn) (mt:tn<=1048576) (hct:tn<=tc) (hat:At .u8 w ta tk) (zt:Cb tk) (hT:EF w) (hV:1<w.heap.size) (hE:FM w) :
  Calls tP 47 #[aY (aR ⟨g,0,aS⟩),aM (aR ⟨bp,op,aS⟩) 32 cp,af #[aO aZ kind,aM ta tn tc,aO aZ now,aO aZ N]] w (Oe H B g w (FB D U k T n ks 1 tk now N)):=by
 have HR0:AO ((w.alloc (aa #[aO aZ kind,aM ta tn tc,aO aZ now,aO aZ N] 28)).heap[w.heap.size]?=aR (aa #[aO aZ kind,aM ta tn tc,aO aZ now,aO aZ N] 28 (0,0))):=AS w _;have HW:AO (Below w.heap.size w (w.alloc (aa #[aO aZ kind,aM ta tn tc,aO aZ now,aO aZ N] 28))):=Cf.alloc Ch _;have HB:=CX (h.below HW.o);have HH:=CY <| h.low
 have HC:=CX (Vd HB.o bp op cp ks ta tn tc tk kind now N hk (hp.below HW.o) zk ht mt hct (hat.below HW.o) zt (Fk hT hV HW.o) (Ap hV HW.o.size));have HE:=CX (hE.below HW.o);have HOZ:AO ((tP.info? 28).map (·.size)=aR 4):=by show _=_;kernel_rfl
 have HT1:AO (Db D U ks tk now=1->∃ s m:Nat,E6 tk=s/\now=m/\s<256/\m<=4294967295/\Jp tk=true):=KO zt;have HOP:=CX (Yr (D:=D) (U:=U) (k:=k) (T:=T) (n:=n) (ks:=ks) (tk:=tk) (now:=now) (N:=N));clear h hk hp zk ht hat zt hT hV hE mt hct;go_enter func47,ntmps47
 go_upto_region 1 with fail
 generalize w.alloc (aa #[aO aZ kind,aM ta tn tc,aO aZ now,aO aZ N] 28)=w0 at *;go_wp2_with (first
  |(refine AZ rfl 28 (ah 5) rfl w.heap.size rfl 28 _ (0,0) _ HR0.o underlying28 rfl HOZ.o ?_)
  |fail)
 refine HC.o.mono ?_;rintro e w1 ⟨x,y,rfl,hb1,hxy⟩;have HB1:=CX (HB.o.below hb1);have HW1:AO (Below w.heap.size w w1):=HW.o.trans (hb1.mono HW.o.size);have HE1:=CX (HE.o.below hb1);have HR1:AO (w1.heap[w.heap.size]?=aR (aa #[aO aZ kind,aM ta tn tc,aO aZ now,aO aZ N] 28 (0,0))):=by show _=_;rw[hb1.block _ (AR.1 HR0.o).1];exact HR0.o
 clear HC HB HW HE HR0 hb1;rcases hxy with⟨hc,rfl,rfl⟩|⟨hc,rfl⟩
 ·obtain⟨s,m,hs,hm,hs2,hm2,-⟩:=HT1.o hc;have HF0:AO (FB D U k T n ks 1 tk now N=⟨1,D,DF U s,k,T++[(s:Int),now],n+1⟩):=by show _=_;rw[HOP.o,AP hc,hs];rfl
  have o2:w1.cell? ⟨w.heap.size,2,aS⟩=aR (aO aZ now):=by rw[AA HR1.o 2];rfl
  rw[hs];clear hc HT1 HOP HR1 hs hm hm2 HE1;go_wp2_with fail;refine(LD (H:=H) s now hs2 HB1.o.bk HB1.o.sd HB1.o.su HB1.o.tv HB1.o.hn HB1.o.hH HB1.o.hHB HB1.o.ne HB1.o.hBw).mono ?_;rintro e w2 ⟨rfl,hb2,u',v',r1,r2,r3,r4⟩;have HF:AO (Oe H B g w ⟨1,D,DF U s,k,T++[(s:Int),now],n+1⟩ (.returned (aO aZ 1)) w2):=⟨rfl,(HW1.o.mono HH.o).trans hb2,_,_,_,r1,HB1.o.sd,r2.congr (λx hx=>Fh hx),r3,r4⟩
  clear hb2 r1 r2 r3 r4 HB1 o2;go_wp2
  go_ret
  rw[HF0.o];exact HF.o
 ·have HF0:AO (FB D U k T n ks 1 tk now N=⟨Db D U ks tk now,D,U,k,T,n⟩):=by show _=_;rw[HOP.o,AQ hc]
  clear hc HT1 HOP HR1;generalize Db D U ks tk now=c at *;go_wp2_with fail;refine(Vc c w1 HE1.o).mono ?_;rintro e w2 ⟨rfl,hb2⟩;have HF:=CX (((HB1.o.below hb2).same c).from (w:=w) ((HW1.o.trans (hb2.mono HW1.o.size)).mono HH.o));clear hb2 HB1 HE1;go_wp2
  go_ret
  rw[HF0.o];exact HF.o
theorem Vg {H B g:Nat} {w:aV} {d u:List Int} {v:aX} {D U:List Int} {k:Int} {T:List Int} {n:Nat} (h:NJ H B g w d u v D U k T n) (bp op cp:Nat) (ks:List Int) (ta:Option Addr) (tn tc:Nat) (tk:List Int) (kind now N:Int) (hk:ks.length=32) (hp:FK w bp op ks) (zk:Cb ks) (ht:tk.length=tn) (mt:tn<=1048576) (hct:tn<=tc) (hat:At .u8 w ta tk) (zt:Cb tk) (hT:EF w) (hV:1<w.heap.size) (hE:FM w) :
  Calls tP 25 #[aY (aR ⟨g,0,aS⟩),aM (aR ⟨bp,op,aS⟩) 32 cp,af #[aO aZ kind,aM ta tn tc,aO aZ now,aO aZ N]] w (Oe H B g w (FB D U k T n ks kind tk now N)):=by
 have HR0:AO ((w.alloc (aa #[aO aZ kind,aM ta tn tc,aO aZ now,aO aZ N] 28)).heap[w.heap.size]?=aR (aa #[aO aZ kind,aM ta tn tc,aO aZ now,aO aZ N] 28 (0,0))):=AS w _;have HWW:AO (Below w.heap.size w (w.alloc (aa #[aO aZ kind,aM ta tn tc,aO aZ now,aO aZ N] 28))):=Cf.alloc Ch _;have HW:AO (Below H w (w.alloc (aa #[aO aZ kind,aM ta tn tc,aO aZ now,aO aZ N] 28))):=HWW.o.mono h.low;have HB:=CX (h.below HWW.o);have HAT:AO (∀ kk,Calls tP 47 #[aY (aR ⟨g,0,aS⟩),aM (aR ⟨bp,op,aS⟩) 32 cp,af #[aO aZ kk,aM ta tn tc,aO aZ now,aO aZ N]] (w.alloc (aa #[aO aZ kind,aM ta tn tc,aO aZ now,aO aZ N] 28)) (Oe H B g (w.alloc (aa #[aO aZ kind,aM ta tn tc,aO aZ now,aO aZ N] 28)) (FB D U k T n ks 1 tk now N))):=λkk=>
  Vf HB.o bp op cp ks ta tn tc tk kk now N hk (hp.below HWW.o) zk ht mt hct (hat.below HWW.o) zt (Fk hT hV HWW.o) (Ap hV HWW.o.size) (hE.below HWW.o)
 have HOZ:AO ((tP.info? 28).map (·.size)=aR 4):=by show _=_;kernel_rfl
 have HO5:AO (FB D U k T n ks 5 tk now N=⟨9,D,U,k,T,n⟩):=by show _=_;unfold FB;rw[AQ AK,AQ AK,AQ AK,AQ AK,AP rfl]
 have HO6:AO (¬ kind=1->¬ kind=2->¬ kind=3->¬ kind=4->¬ kind=5->FB D U k T n ks kind tk now N=⟨10,D,U,k,T,n⟩):=by
  intro a b c d e;unfold FB;rw[AQ a,AQ b,AQ c,AQ d,AQ e]
 clear h hk hp zk ht hat zt hT hV hE mt hct HWW;go_enter func25,ntmps25
 go_upto_region 1 with fail
 generalize w.alloc (aa #[aO aZ kind,aM ta tn tc,aO aZ now,aO aZ N] 28)=w0 at *;have o0:w0.cell? ⟨w.heap.size,0,aS⟩=aR (aO aZ kind):=by rw[AA HR0.o 0];rfl
 have o3:w0.cell? ⟨w.heap.size,3,aS⟩=aR (aO aZ N):=by rw[AA HR0.o 3];rfl
 by_cases k1:kind=1
 ·subst k1;have HC:=CX (HAT.o 1);clear HB HAT o3;go_wp2_with (first
   |(refine AZ rfl 28 (ah 5) rfl w.heap.size rfl 28 _ (0,0) _ HR0.o underlying28 rfl HOZ.o ?_)
   |fail)
  refine HC.o.mono ?_;intro e w2 h2;have HF:=CX (h2.from HW.o);obtain⟨rfl,-⟩:=h2;clear HC o0;go_wp2
  go_ret
  exact HF.o
 by_cases k2:kind=2
 ·subst k2;clear k1;have HC:=CX (VT (ks:=ks) (tk:=tk) (now:=now) (N:=N) HB.o);clear HB HAT;go_wp2_with fail;refine HC.o.mono ?_;intro e w2 h2;have HF:=CX (h2.from HW.o);obtain⟨rfl,-⟩:=h2;clear HC o0 o3;go_wp2
  go_ret
  exact HF.o
 by_cases k3:kind=3
 ·subst k3;clear k1 k2;have HC:=CX (VU (ks:=ks) (tk:=tk) (now:=now) (N:=N) HB.o);clear HB HAT;go_wp2_with fail;refine HC.o.mono ?_;intro e w2 h2;have HF:=CX (h2.from HW.o);obtain⟨rfl,-⟩:=h2;clear HC o0 o3;go_wp2
  go_ret
  exact HF.o
 by_cases k4:kind=4
 ·subst k4;clear k1 k2 k3;have HC:=CX (VV (ks:=ks) (tk:=tk) (now:=now) (N:=N) HB.o);clear HB HAT;go_wp2_with fail;refine HC.o.mono ?_;intro e w2 h2;have HF:=CX (h2.from HW.o);obtain⟨rfl,-⟩:=h2;clear HC o0 o3;go_wp2
  go_ret
  exact HF.o
 by_cases k5:kind=5
 ·subst k5;have HF:=CX ((HB.o.same 9).from HW.o);clear HB HAT k1 k2 k3 k4;go_wp2
  go_ret
  rw[HO5.o];exact HF.o
 ·have HO7:=CX (HO6.o k1 k2 k3 k4 k5);have HF:=CX ((HB.o.same 10).from HW.o);clear HB HAT;go_wp2
  go_ret
  rw[HO7.o];exact HF.o
def Zq (lo:Nat) (w:aV) (v:aX) (r:WA):Prop:=
 ∃ aD nD cD aU nU cU aT nT cT,v=af #[aO aZ r.c,aM aD nD cD,aM aU nU cU,aO aZ r.k,aM aT nT cT]/\S3 lo w aD aU aT nD nU nT r.D r.U r.T
theorem Pp {D U:List Int} {k:Int} {T:List Int} {n:Nat} {ks tk:List Int} {kind now N:Int} (hD:DO D) (hU:DO U):DO (FB D U k T n ks kind tk now N).D/\DO (FB D U k T n ks kind tk now N).U:=by
 unfold FB
 repeat' split
 all_goals first
  |exact⟨hD,hU⟩
  |exact⟨hD,Fi _ _⟩
  |exact⟨Fi _ _,hU⟩
  |exact⟨JQ hD _,hU⟩
theorem Vh (aD aU aT:Option Addr) (nD cD nU cU nT cT:Nat) (D U:List Int) (k:Int) (T:List Int) (ka:Option Addr) (nk ck:Nat) (ks:List Int) (ta:Option Addr) (tn tc:Nat) (tk:List Int) (kind now N:Int) (w:aV) (hD:D.length=nD) (hU:U.length=nU) (hT:T.length=nT*2) (mD:nD<=1048576) (mU:nU<=1048576) (mT:nT<=1048576)
  (haD:At aZ w aD D) (haU:At aZ w aU U) (haT:At aZ w aT T) (hnil:aT=aS->nT=0/\cT=0) (hk0:-9223372036854775808<=k) (hk1:k<9223372036854775808) (hk:ks.length=nk) (mk:nk<=1048576) (hp:At .u8 w ka ks) (zk:Cb ks) (ht:tk.length=tn) (mt:tn<=1048576) (hct:tn<=tc) (hat:At .u8 w ta tk) (zt:Cb tk) (hTb:EF w) (hV:1<w.heap.size) (hE:FM w) :
  Calls tP 6 #[af #[aM aD nD cD,aM aU nU cU,aO aZ k,aM aT nT cT],aM ka nk ck,af #[aO aZ kind,aM ta tn tc,aO aZ now,aO aZ N]] w λe w'=>∃ v,e=.returned v/\Zq w.heap.size w' v (IA D U k T nT ks kind tk now N)/\Below w.heap.size w w':=by
 have HX0:AO (Oh w #[aM aD nD cD,aM aU nU cU,aO aZ k,aM aT nT cT] #[aO aZ kind,aM ta tn tc,aO aZ now,aO aZ N] (((w.alloc (aa #[aM aD nD cD,aM aU nU cU,aO aZ k,aM aT nT cT] 26)).alloc (aa #[aO aZ kind,aM ta tn tc,aO aZ now,aO aZ N] 28)).alloc (aa CT 32))):=Oh.start _ _ _;have HZ0:AO ((((w.alloc (aa #[aM aD nD cD,aM aU nU cU,aO aZ k,aM aT nT cT] 26)).alloc (aa #[aO aZ kind,aM ta tn tc,aO aZ now,aO aZ N] 28)).alloc (aa CT 32)).heap.size=w.heap.size+3):=by show _=_;simp
 have HC:=Gg aD aU aT nD cD nU cU nT cT D U k T _ hD hU hT mD mU mT (haD.below HX0.o.below) (haU.below HX0.o.below) (haT.below HX0.o.below) hnil hk0 hk1;have HLN:AO (D.length=nD/\U.length=nU/\T.length=nT*2):=⟨hD,hU,hT⟩
 have HA:AO (∀ wz,Below w.heap.size w wz->At aZ wz aD D/\At aZ wz aU U/\At aZ wz aT T/\At .u8 wz ka ks/\At .u8 wz ta tk/\EF wz/\FM wz):=λwz h=>⟨haD.below h,haU.below h,haT.below h,hp.below h,hat.below h,Fk hTb hV h,hE.below h⟩
 have HKL:AO (ks.length=nk/\Cb ks/\tk.length=tn/\Cb tk):=⟨hk,zk,ht,zt⟩
 have HV1:=CY <| hV
 have HRZ:AO ((tP.info? 32).map (·.size)=aR 5):=by show _=_;kernel_rfl
 have HSZ:AO ((tP.info? 26).map (·.size)=aR 4):=by show _=_;kernel_rfl
 have HOZ:AO ((tP.info? 28).map (·.size)=aR 4):=by show _=_;kernel_rfl
 have HST:AO (Ep D U k T nT=true->Tt D U k T nT):=GD;clear haD haU haT hD hU hT hk hp zk ht hat zt hnil hk0 hk1 hTb hV hE;go_enter func6,ntmps6
 go_upto_region 1 with fail
 generalize (((w.alloc (aa #[aM aD nD cD,aM aU nU cU,aO aZ k,aM aT nT cT] 26)).alloc (aa #[aO aZ kind,aM ta tn tc,aO aZ now,aO aZ N] 28)).alloc (aa CT 32))=w0 at *;go_wp2_with (first
  |(refine AZ rfl 26 (ah 3) rfl w.heap.size rfl 26 _ (0,0) _ HX0.o.sb underlying26 rfl HSZ.o ?_)
  |fail)
 refine HC.mono ?_;rintro e w1 ⟨bk,rfl,hs,ho,hb,hbk⟩;have HX1:=CY <| HX0.o.call hb
 have HB1:AO (w.heap.size+3<=w1.heap.size):=by show _<=_;have:=hb.size;rw[HZ0.o] at this;exact this
 have HN:AO ((w1.alloc (aa Tryz.zeroCells61 61)).heap[w1.heap.size]?=aR (aa Tryz.zeroCells61 61 (0,0))):=AS w1 _;have HBZ:AO ((tP.info? 61).map (·.size)=aR bk.size):=by show _=_;rw[hs];exact Tryz.sizeBook
 have HEQ:AO ((Tryz.zeroCells61).size=bk.size):=by show _=_;rw[hs];exact FA
 have HOK:=CY <| ho
 have HB2:AO (Below w1.heap.size w1 ((w1.alloc (aa Tryz.zeroCells61 61)).setRow w1.heap.size bk)):=(Cf.alloc Ch _).trans ((Wr.setRow _ _ _).below Ch);have HR2:AO (((w1.alloc (aa Tryz.zeroCells61 61)).setRow w1.heap.size bk).heap[w1.heap.size]?=aR (aa bk 61 (0,0))):=AB HN.o;have HBK:AO (Ep D U k T nT=true->∃ db ub v,bk=F9 db ub k v/\DM db (λv=>(v:Int)∈D)/\DM ub (λv=>(v:Int)∈U)/\Cj (w.heap.size+3) w1 v T nT):=by
  intro h;obtain⟨db,ub,v,h1,h2,h3,h4⟩:=hbk h;rw[HZ0.o] at h4;exact⟨db,ub,v,h1,h2,h3,h4⟩
 have HX2:=CY <| HX1.o.call HB2.o
 clear hs ho hb HC HX0 HZ0 hbk HX1;obtain⟨q,hq⟩:∃ q,q=Ep D U k T nT:=⟨_,rfl⟩
 rw[<-hq];have HQ:=CY <| hq.symm
 clear hq
 go_upto_region 2 with (first
  |(refine AE 61 (ah 7) (ah 13) w1.heap.size bk 61 HN.o HBZ.o HEQ.o HOK.o ?_)
  |fail)
 clear HN HBZ HEQ HOK;generalize ((w1.alloc (aa Tryz.zeroCells61 61)).setRow w1.heap.size bk)=w2 at *;by_cases hbad:¬ (Ep D U k T nT=true/\nk=32)
 ·have HR:AO (IA D U k T nT ks kind tk now N=⟨10,D,U,k,T,nT⟩):=by
   show _=_
   unfold IA;rw[AQ (λh=>hbad ⟨h.1,HKL.o.1.symm.trans h.2⟩)]
  have hcs:q=false\/(q=true/\((nk:Int) != 32)=true):=by
   cases q with
   |false=>exact .inl rfl
   |true=>exact .inr ⟨rfl,by have h3:¬ nk=32:=λh=>hbad ⟨HQ.o,h⟩
                             simp;omega⟩
  clear hbad HST HBK HR2 HB2 HQ;rcases hcs with rfl|⟨rfl,h32⟩
  all_goals
   go_upto_region 3 with fail
   go_wp2_with (first
    |(refine AZ rfl 26 (ah 3) rfl w.heap.size rfl 26 _ (0,0) _ HX2.o.sb underlying26 rfl HSZ.o ?_)
    |fail)
   refine(TH aD aU aT nD cD nU cU nT cT D U k T w2 HLN.o.1 HLN.o.2.1 HLN.o.2.2 mD mU mT (HA.o w2 HX2.o.below).1 (HA.o w2 HX2.o.below).2.1 (HA.o w2 HX2.o.below).2.2.1).mono ?_;rintro e w9 ⟨cs,rfl,hcp,hb9⟩;have HX9:=CY <| HX2.o.call hb9
   have HL9:=CY <| HX2.o.lt
   obtain⟨bD,mD',dD,bU,mU',dU,bT,dT,rfl,hs3⟩:=hcp;have HRB:=CY <| HX9.o.rb
   have HF:AO (Zq w.heap.size (w9.setRow (w.heap.size+2) #[aO aZ 10,aM bD mD' dD,aM bU mU' dU,aO aZ k,aM bT nT dT]) (af #[aO aZ 10,aM bD mD' dD,aM bU mU' dU,aO aZ k,aM bT nT dT]) (IA D U k T nT ks kind tk now N)/\Below w.heap.size w (w9.setRow (w.heap.size+2) #[aO aZ 10,aM bD mD' dD,aM bU mU' dU,aO aZ k,aM bT nT dT])):=by
    have hw:Wr (w.heap.size+2) w9 (w9.setRow (w.heap.size+2) #[aO aZ 10,aM bD mD' dD,aM bU mU' dU,aO aZ k,aM bT nT dT]):=Wr.setRow _ _ _;refine⟨?_,HX9.o.below.trans (hw.below AJ)⟩;rw[HR.o];exact⟨_,_,_,_,_,_,_,_,_,rfl,(hs3.keep (by rw[hw.size];exact Aa _) (λj hj _=>hw.block j (AG HL9.o))).lo (AG HL9.o)⟩
   clear hb9 hs3 HL9 HX2;go_wp2_with (first
    |(refine AE 32 (ah 6) (ah 24) (w.heap.size+2) #[aO aZ 10,aM bD mD' dD,aM bU mU' dU,aO aZ k,aM bT nT dT] 32 HRB.o HRZ.o rfl (by simp[Value.oneCell']) ?_)
    |fail)
   exact AU (v:=af #[aO aZ 10,aM bD mD' dD,aM bU mU' dU,aO aZ k,aM bT nT dT]) (AY rfl _ _ (w.heap.size+2) 32 _ (0,0) _ rfl (AB HRB.o) underlying32 rfl HRZ.o) rfl ⟨_,rfl,HF.o.1,HF.o.2⟩
 obtain⟨hst0,h32⟩:=Decidable.not_not.1 hbad;have hst:=HST.o hst0;have hqt:=HQ.o.symm.trans hst0;subst hqt;have HSO:AO (IA D U k T nT ks kind tk now N=FB D U k T nT ks kind tk now N):=by show _=_;unfold IA;rw[AP ⟨hst0,HKL.o.1.trans h32⟩]
 have HSER:=CX (Pp (k:=k) (T:=T) (n:=nT) (ks:=ks) (tk:=tk) (kind:=kind) (now:=now) (N:=N) hst.1 hst.2.2.1);obtain⟨db,ub,v9,rfl,hsd,hsu,hto⟩:=HBK.o hst0;have hbk:Bk w2 w1.heap.size db ub k v9:=⟨HR2.o,hsd.1,hsu.1,hsd.2.1,hsu.2.1⟩
 have hne:Jn w1.heap.size v9:=λt ht e=>by
  rcases hto.2 with⟨h',_⟩|⟨g,c,cur,h',hb,hh,_⟩
  {rw[h'] at ht;simp[Value.ownBlock] at ht};{rw[h'] at ht;simp[Value.ownBlock] at ht;have:=(AR.1 hh).1;omega}
 have hto2:Cj (w.heap.size+3) w2 v9 T nT:=by
  refine⟨hto.1,?_⟩;rcases hto.2 with h'|⟨g,c,cur,h1,h2,h3,h4⟩
  {exact .inl h'};{exact .inr ⟨g,c,cur,h1,h2,by rw[HB2.o.block g (AR.1 h3).1];exact h3,h4⟩}
 have hkn:k+nT=(nU:Int):=by have:=hst.2.2.2.2.1;rw[HLN.o.2.1] at this;exact this
 have HBV:AO (NJ (w.heap.size+3) (w.heap.size+3) w1.heap.size w2 db ub v9 D U k T nT):=⟨hbk,hsd,hsu,hto2.tapV,hst.1,hst.2.2.2.1,AJ,mT,HB1.o,Aa _,hne,AH HB2.o.size HB1.o⟩
 subst h32;obtain⟨bp,op,rfl,-,-⟩:=(HA.o w2 HX2.o.below).2.2.2.1.get (by rw[HKL.o.1];decide);have HPT:AO (FK w2 bp op ks):=by
  obtain⟨b',o',e',hl',hc'⟩:=(HA.o w2 HX2.o.below).2.2.2.1.get (by rw[HKL.o.1];decide);cases e';exact⟨hl',hc'⟩
 have HSP:=CX (Vg HBV.o bp op ck ks ta tn tc tk kind now N HKL.o.1 HPT.o HKL.o.2.1 HKL.o.2.2.1 mt hct (HA.o w2 HX2.o.below).2.2.2.2.1 HKL.o.2.2.2 (HA.o w2 HX2.o.below).2.2.2.2.2.1 (Ap HV1.o HX2.o.below.size) (HA.o w2 HX2.o.below).2.2.2.2.2.2);clear hsd hsu hto hst hbk hto2 hkn hne HR2 HB2 HBV HBK HST hst0 HQ hbad HPT HA
 go_upto_region 4 with fail
 generalize FB D U k T nT ks kind tk now N=r at *;go_wp2_with (first
  |(refine AZ rfl 28 (ah 5) rfl (w.heap.size+1) rfl 28 _ (0,0) _ HX2.o.ob underlying28 rfl HOZ.o ?_)
  |fail)
 refine HSP.o.mono ?_;rintro e w3 ⟨rfl,hb3,d',u',v',r1,r2,r3,r4,r5⟩;have HX3:=CY <| HX2.o.keep hb3 Ch
 have HRB:=CY <| HX3.o.rb
 obtain⟨aT',cT',rfl⟩:=r4.slice;have HS:=LG aT' r.n cT' (λv=>decide ((v:Int)∈r.D)) (λv=>decide ((v:Int)∈r.U)) r1 (r2.congr (λv _=>AL)) (r3.congr (λv _=>AL));rw[HSER.o.1.eq_upTo _ (λv _=>AL),HSER.o.2.eq_upTo _ (λv _=>AL)] at HS;have HTV:AO (Dg (w.heap.size+3) w3 (aM aT' r.n cT') r.T r.n):=r4;clear r1 r2 r3 r4 r5 HSER hb3 HSP HX2;go_wp2_with fail;refine HS.mono ?_;rintro e w4 ⟨bD,mD',dD,bU,mU',dU,rfl,g1,g2,g3,hb4⟩;have HRB4:AO (w4.heap[w.heap.size+2]?=aR (aa CT 32 (0,0))):=by show _=_;rw[hb4.block _ (AR.1 HRB.o).1];exact HRB.o
 have hw5:Wr (w.heap.size+2) w4 (w4.setRow (w.heap.size+2) #[aO aZ r.c,aM bD mD' dD,aM bU mU' dU,aO aZ r.k,aM aT' r.n cT']):=Wr.setRow _ _ _;have HF:AO (Zq w.heap.size (w4.setRow (w.heap.size+2) #[aO aZ r.c,aM bD mD' dD,aM bU mU' dU,aO aZ r.k,aM aT' r.n cT']) (af #[aO aZ r.c,aM bD mD' dD,aM bU mU' dU,aO aZ r.k,aM aT' r.n cT']) (IA D U k T nT ks kind tk now N)/\Below w.heap.size w (w4.setRow (w.heap.size+2) #[aO aZ r.c,aM bD mD' dD,aM bU mU' dU,aO aZ r.k,aM aT' r.n cT'])):=by
  have hlt:=(AR.1 HRB.o).1;obtain⟨s1,s2,s3⟩:=g1.sat;obtain⟨t1,t2,t3⟩:=g2.sat;obtain⟨q1,q2,q3⟩:=HTV.o.sat;have q4:OJ w4 aT' r.T:=q1.below hb4;have q5:GC (w.heap.size+3) w4 aT':=q3.mono Ch hb4.size;refine⟨?_,(HX3.o.below.trans (hb4.mono HX3.o.below.size)).trans (hw5.below AJ)⟩;rw[HSO.o];refine⟨bD,mD',dD,bU,mU',dU,aT',r.n,cT',rfl,?_⟩;have z:(w4.setRow (w.heap.size+2) #[aO aZ r.c,aM bD mD' dD,aM bU mU' dU,aO aZ r.k,aM aT' r.n cT']).heap.size=w4.heap.size:=hw5.size;refine⟨s1.keep (by rw[z];exact Aa _) (λad e _=>hw5.block _ (AG (s3 ad e).1)),t1.keep (by rw[z];exact Aa _) (λad e _=>hw5.block _ (AG (t3 ad e).1)),q4.keep (by rw[z];exact Aa _) (λad e _=>hw5.block _ (AG (q5 ad e).1)),s2,t2,q2,?_,?_,?_,?_,?_,?_⟩
  {exact s3.mono AJ (by rw[z];exact Aa _)};{exact t3.mono AJ (by rw[z];exact Aa _)};{exact q5.mono AJ (by rw[z];exact Aa _)};{exact λx y hx hy e=>g3 x.block (by rw[hx];rfl) (by rw[hy,e];rfl)};{exact λx y hx hy e=>AH (s3 x hx).1 (q3 y hy).2};{exact λx y hx hy e=>AH (t3 x hx).1 (q3 y hy).2}
 clear g1 g2 g3 hb4 hw5 HS HTV;go_wp2_with (first
  |(refine AE 32 (ah 6) (ah 30) (w.heap.size+2) #[aO aZ r.c,aM bD mD' dD,aM bU mU' dU,aO aZ r.k,aM aT' r.n cT'] 32 HRB4.o HRZ.o rfl (by simp[Value.oneCell']) ?_)
  |fail)
 exact AU (v:=af #[aO aZ r.c,aM bD mD' dD,aM bU mU' dU,aO aZ r.k,aM aT' r.n cT']) (AY rfl _ _ (w.heap.size+2) 32 _ (0,0) _ rfl (AB HRB4.o) underlying32 rfl HRZ.o) rfl ⟨_,rfl,HF.o.1,HF.o.2⟩
section
variable {D U:List Int} {k:Int} {T:List Int} {n:Nat} {ks:List Int} {kind:Int} {tk:List Int} {now N:Int} {a b:Nat}
theorem Tk (hT:T.length=n*2) (hb:b<4294967296) (ho:(EY D U k T n kind a b).ok=true):Ep (EY D U k T n kind a b).D (EY D U k T n kind a b).U (EY D U k T n kind a b).k (EY D U k T n kind a b).T (EY D U k T n kind a b).n=true:=by
 unfold EY at ho |-;by_cases hs:Ep D U k T n=true
 ·rw[AP hs] at ho |-;exact Lx (XO (GD hs) hT hb ho).1
 ·rw[AQ hs] at ho;cases ho
theorem XX (hs:Ep D U k T n=true) (hT:T.length=n*2) (hz:Cb tk):Ep (IA D U k T n ks kind tk now N).D (IA D U k T n ks kind tk now N).U (IA D U k T n ks kind tk now N).k (IA D U k T n ks kind tk now N).T (IA D U k T n ks kind tk now N).n=true:=by
 obtain⟨h1,h2,h3,h4,h5,h6⟩:=GD hs;have hl:=h3.len;unfold IA;by_cases hk:ks.length=32
 ·rw[AP ⟨hs,hk⟩];by_cases h15:1<=kind/\kind<=5
  ·obtain⟨d0,d1⟩:=WB (T:=T) (ks:=ks) (now:=now) (N:=N) hs hz h4 AJ AJ h2 h15.1 h15.2;by_cases hf:(FL D U k n ks kind tk now N).fk=0
   {rw[d0 hf];exact hs};{obtain⟨o,e,_,ha,_,hb⟩:=d1 hf;have:=Tk (D:=D) (U:=U) (k:=k) (T:=T) (n:=n) (kind:=(FL D U k n ks kind tk now N).fk) (a:=(FL D U k n ks kind tk now N).a) (b:=(FL D U k n ks kind tk now N).b) hT hb (by rw[ha]);rw[ha] at this;rw[e];exact this}
  ·have:FB D U k T n ks kind tk now N=⟨10,D,U,k,T,n⟩:=by
    unfold FB;rw[AQ AJ,AQ AJ,AQ AJ,AQ AJ,AQ AJ]
   rw[this];exact hs
 ·rw[AQ (λh=>hk h.2)];exact hs
theorem XY (hT:T.length=n*2):(FB D U k T n ks kind tk now N).T.length<=n*2+2:=by
 unfold FB
 repeat' split
 all_goals first
  |(simp;omega)
theorem XZ (hT:T.length=n*2):(IA D U k T n ks kind tk now N).T.length=(IA D U k T n ks kind tk now N).n*2:=by
 unfold IA FB
 repeat' split
 all_goals first
  |exact hT
  |(simp;omega)
theorem Xa (hT:T.length=n*2):(EY D U k T n kind a b).T.length=(EY D U k T n kind a b).n*2:=by
 by_cases hs:Ep D U k T n=true
 ·by_cases ho:(EY D U k T n kind a b).ok=true
  ·unfold EY at ho |-;rw[AP hs] at ho |-;unfold Dy at ho |-
   repeat' split
   all_goals first
    |exact hT
    |rfl
    |(simp;omega)
  ·unfold EY at ho |-;rw[AP hs] at ho |-;unfold Dy at ho |-
   repeat' split
   all_goals first
    |exact hT
    |rfl
    |(simp;omega)
 ·unfold EY;rw[AQ hs];rfl
theorem Xb (hD:D.length<=300) (hU:U.length<=300) (hT:T.length=n*2) (hn:n<=300):(IA D U k T n ks kind tk now N).D.length<=300/\(IA D U k T n ks kind tk now N).U.length<=300/\(IA D U k T n ks kind tk now N).T.length<=1000:=by
 unfold IA;by_cases hs:Ep D U k T n=true/\ks.length=32
 ·rw[AP hs];have hp:=GD hs.1;obtain⟨s1,s2⟩:=Pp (k:=k) (T:=T) (n:=n) (ks:=ks) (tk:=tk) (kind:=kind) (now:=now) (N:=N) hp.1 hp.2.2.1;have:=s1.len;have:=s2.len;have:=XY (D:=D) (U:=U) (k:=k) (ks:=ks) (tk:=tk) (kind:=kind) (now:=now) (N:=N) hT;exact⟨AJ,AJ,AJ⟩
 ·rw[AQ hs];exact⟨hD,hU,by show T.length<=1000;omega⟩
end
structure Y7 (w:aV) (aD:Option Addr) (nD:Nat) (aU:Option Addr) (nU:Nat) (aT:Option Addr) (nT cT:Nat) (D U T:List Int):Prop where
 hD:D.length=nD
 hU:U.length=nU
 hT:T.length=nT*2
 mD:nD<=300
 mU:nU<=300
 mT:nT<=300
 d:At aZ w aD D
 u:At aZ w aU U
 t:At aZ w aT T
 c:nT<=cT/\cT<=9223372036854775807
 nl:aT=aS->nT=0/\cT=0
theorem Y7.below {w w':aV} {aD:Option Addr} {nD:Nat} {aU:Option Addr} {nU:Nat} {aT:Option Addr} {nT cT:Nat} {D U T:List Int} (h:Y7 w aD nD aU nU aT nT cT D U T) (b:Below w.heap.size w w'):Y7 w' aD nD aU nU aT nT cT D U T:=
 ⟨h.hD,h.hU,h.hT,h.mD,h.mU,h.mT,h.d.below b,h.u.below b,h.t.below b,h.c,h.nl⟩
theorem Ls.stt {g:Nat} {w:aV} {aD:Option Addr} {nD cD:Nat} {aU:Option Addr} {nU cU:Nat} {aT:Option Addr} {nT cT:Nat} {D U T:List Int} (h:Ls g w (aM aD nD cD) (aM aU nU cU) (aM aT nT cT) D U T nT):Y7 w aD nD aU nU aT nT cT D U T:=by
 obtain⟨s1,e1,_⟩:=h.d.sat;obtain⟨s2,e2,_⟩:=h.u.sat;have hl:=h.l;have hT:T.length=nT*2:=by simpa using h.t.1
 refine⟨e1,e2,hT,AJ,AJ,hl.2.2,s1.at_,s2.at_,?_,h.t.cap,?_⟩
 ·obtain⟨q1,_,_⟩:=h.t.tapV.sat;exact q1.at_
 ·intro e;subst e;rcases h.t.2 with⟨h',h0⟩|⟨g,c,cur,h',_⟩
  {cases h';exact⟨h0,rfl⟩};{cases h'}
theorem Tryz.sizeSr:(tP.info? 32).map (·.size)=aR 5:=AM
theorem Tryz.sizeAr:(tP.info? 42).map (·.size)=aR 5:=AM
theorem Pq (w:aV) (t1 t2:TypeId) (z1 z2 c1 c2:Array aX):((w.alloc (aa z1 t1)).alloc (aa z2 t2)).heap[w.heap.size]?=aR (aa z1 t1 (0,0))/\(((w.alloc (aa z1 t1)).alloc (aa z2 t2)).setRow w.heap.size c1).heap[w.heap.size+1]?=aR (aa z2 t2 (0,0))/\
  ((((w.alloc (aa z1 t1)).alloc (aa z2 t2)).setRow w.heap.size c1).setRow (w.heap.size+1) c2).heap[w.heap.size]?=aR (aa c1 t1 (0,0))/\((((w.alloc (aa z1 t1)).alloc (aa z2 t2)).setRow w.heap.size c1).setRow (w.heap.size+1) c2).heap[w.heap.size+1]?=aR (aa c2 t2 (0,0))/\
  Below w.heap.size w ((((w.alloc (aa z1 t1)).alloc (aa z2 t2)).setRow w.heap.size c1).setRow (w.heap.size+1) c2):=by
 have e1:=heap_alloc2_old w (aa z1 t1) (aa z2 t2);have e2:=heap_alloc2_new w (aa z1 t1) (aa z2 t2);have w1:=Wr.setRow w.heap.size ((w.alloc (aa z1 t1)).alloc (aa z2 t2)) c1;have w2:=Wr.setRow (w.heap.size+1) (((w.alloc (aa z1 t1)).alloc (aa z2 t2)).setRow w.heap.size c1) c2;have e3:(((w.alloc (aa z1 t1)).alloc (aa z2 t2)).setRow w.heap.size c1).heap[w.heap.size+1]?=aR (aa z2 t2 (0,0)):=by rw[w1.block _ AJ];exact e2
 exact⟨e1,e3,by rw[w2.block _ AJ];exact AB e1,AB e3,((((Cf.alloc Ch _).alloc AL _).trans (w1.below Ch)).trans (w2.below AJ))⟩
theorem Jr (w:aV) (t1:TypeId) (z1 c1:Array aX):(w.alloc (aa z1 t1)).heap[w.heap.size]?=aR (aa z1 t1 (0,0))/\((w.alloc (aa z1 t1)).setRow w.heap.size c1).heap[w.heap.size]?=aR (aa c1 t1 (0,0))/\Below w.heap.size w ((w.alloc (aa z1 t1)).setRow w.heap.size c1):=
 ⟨AS w _,AB (AS w _),(Co w _).trans ((Wr.setRow _ _ _).below Ch)⟩
theorem DJ {w w':aV} {g:Nat} {o:Obj} (h:w.heap[g]?=aR o) (b:Below w.heap.size w w'):w'.heap[g]?=aR o:=by rw[b.block g (Cm h)];exact h
theorem Qz (x y:Option Addr) (n cap m cap':Nat) (zs ys:List Int) (w:aV) (hn:zs.length=n) (hm:ys.length=m) (hz:Cb zs) (hy:Cb ys) (ha:At .u8 w x zs) (hb:At .u8 w y ys) (nN:n<=9223372036854775807) (mN:m<=9223372036854775807) (hTb:EF w) (hV:1<w.heap.size) (hE:FM w) :
  Calls tP 3 #[aM x n cap,aM y m cap'] w λe w'=>e=.returned (ae true)/\Below w.heap.size w w':=by
 by_cases h1:n<=1048576;rotate_left
 ·have h1':(n:Int)>1048576:=AJ
  go_enter func3,ntmps3;go_wp2
  go_ret
  exact⟨rfl,A8 _ _⟩
 by_cases h2:m<=1048576;rotate_left
 ·have h1':¬ (n:Int)>1048576:=AJ
  have h2':(m:Int)>1048576:=AJ
  go_enter func3,ntmps3;go_wp2
  go_ret
  exact⟨rfl,A8 _ _⟩
 have h1':¬ (n:Int)>1048576:=AJ
 have h2':¬ (m:Int)>1048576:=AJ
 have HBW:=CY (Og x n cap zs w hn h1 hz ha);have HM:=CY (λwz (h:Below w.heap.size w wz)=>Ol y m cap' ys wz hm h2 hy (hb.below h));have HG:=CY (show ∀ wz,Below w.heap.size w wz->EF wz/\1<wz.heap.size/\FM wz from λwz h=>⟨Fk hTb hV h,Ap hV h.size,hE.below h⟩);clear hn hm hz hy ha hb hTb hV hE;go_enter func3,ntmps3;go_wp2_with fail;refine HBW.o.mono ?_;rintro e w1 ⟨aD,nD,cD,aU,nU,cU,k,aT,nT,cT,ak,nk,ck,kd,ta,tn,tc,nw,nn,rfl,hx,hnk,b1⟩;obtain⟨⟨D,U,T,hl⟩,hke,htk,hk⟩:=hx;have S1:=hl.stt;obtain⟨_,_,ks,ek,k1,k2,k3,k4⟩:=hke.at_;cases ek;obtain⟨t0,t1,tk,t2,t3,t4⟩:=htk.rd;obtain⟨x1,x2,r1,r2,b2⟩:=Pq w1 26 28 CJ CQ #[aM aD nD cD,aM aU nU cU,aO aZ k,aM aT nT cT] #[aO aZ kd,aM ta tn tc,aO aZ nw,aO aZ nn];have HX:=CY (Al x1 x2);have HB2:=CY (b1.trans (b2.mono b1.size));have HR:=CY (Al r1 r2);have HS:=CY (S1.below b2);have HK:=CY (show ks.length=nk/\Cb ks/\tk.length=tn/\Cb tk/\tn<=tc/\nk<=1048576/\tn<=1048576 from⟨k2,k3,t2,t3,t1,AJ,AJ⟩);have HA:=CY (Al (k4.below b2) (t4.below b2));have HKB:=CY hk;clear hl hke htk S1 k1 k2 k3 k4 t0 t1 t2 t3 t4 x1 x2 r1 r2 b1 b2 hnk hk HBW
 go_upto_region 4 with (first
  |(refine AE 26 (ah 5) (ah 25) w1.heap.size #[aM aD nD cD,aM aU nU cU,aO aZ k,aM aT nT cT] 26 HX.o.1 Tryz.sizeSt rfl (by simp[Value.oneCell']) ?_)
  |(refine AE 28 (ah 7) (ah 27) (w1.heap.size+1) #[aO aZ kd,aM ta tn tc,aO aZ nw,aO aZ nn] 28 HX.o.2 Tryz.sizeOp rfl (by simp[Value.oneCell']) ?_)
  |fail)
 clear HX;generalize (((w1.alloc (aa CJ 26)).alloc (aa CQ 28)).setRow w1.heap.size #[aM aD nD cD,aM aU nU cU,aO aZ k,aM aT nT cT]).setRow (w1.heap.size+1) #[aO aZ kd,aM ta tn tc,aO aZ nw,aO aZ nn]=w2 at *;generalize w1.heap.size=B1 at *;have HBW:=CY (VX aD aU aT nD cD nU cU nT cT D U k T ak nk ck ks ta tn tc tk kd nw nn w2 HS.o.hD HS.o.hU HS.o.hT (Ai HS.o.mD AK) (Ai HS.o.mU AK) (Ai HS.o.mT AK) HS.o.d HS.o.u HS.o.t HS.o.c.1 HS.o.c.2 HKB.o.1 (AG HKB.o.2) HK.o.1 HK.o.2.2.2.2.2.1 HA.o.1 HK.o.2.1 HK.o.2.2.1 HK.o.2.2.2.2.2.2 HK.o.2.2.2.2.1 HA.o.2 HK.o.2.2.2.1);have HC:=CY (λwz (h:Below w2.heap.size w2 wz)=>Vh aD aU aT nD cD nU cU nT cT D U k T ak nk ck ks ta tn tc tk kd nw nn wz HS.o.hD HS.o.hU HS.o.hT (Ai HS.o.mD AK) (Ai HS.o.mU AK) (Ai HS.o.mT AK) (HS.o.d.below h) (HS.o.u.below h) (HS.o.t.below h) HS.o.nl HKB.o.1 (AG HKB.o.2) HK.o.1 HK.o.2.2.2.2.2.1 (HA.o.1.below h) HK.o.2.1 HK.o.2.2.1 HK.o.2.2.2.2.2.2 HK.o.2.2.2.2.1 (HA.o.2.below h) HK.o.2.2.2.1 (HG.o wz (HB2.o.trans (h.mono HB2.o.size))).1 (HG.o wz (HB2.o.trans (h.mono HB2.o.size))).2.1 (HG.o wz (HB2.o.trans (h.mono HB2.o.size))).2.2);have HSB:=CY (Xb (k:=k) (ks:=ks) (kind:=kd) (tk:=tk) (now:=nw) (N:=nn) (HS.o.hD ▸ HS.o.mD) (HS.o.hU ▸ HS.o.mU) HS.o.hT HS.o.mT);have HST:=CY (λh=>XX (ks:=ks) (kind:=kd) (now:=nw) (N:=nn) (D:=D) (U:=U) (k:=k) (T:=T) (n:=nT) h HS.o.hT HK.o.2.2.2.1);have HRN:=CY (XZ (D:=D) (U:=U) (k:=k) (ks:=ks) (kind:=kd) (tk:=tk) (now:=nw) (N:=nn) HS.o.hT);clear HK HA;generalize IA D U k T nT ks kd tk nw nn=r at *;go_wp2_with (first
  |(refine AZ rfl 26 (ah 5) rfl B1 rfl 26 _ (0,0) _ HR.o.1 underlying26 rfl Tryz.sizeSt ?_)
  |(refine AZ rfl 28 (ah 7) rfl (B1+1) rfl 28 _ (0,0) _ HR.o.2 underlying28 rfl Tryz.sizeOp ?_)
  |fail)
 refine HBW.o.mono ?_;rintro e w3 ⟨v,rfl,⟨wD,nD1,wd,wU,nU1,wu,wT,nT1,wt,rfl,a1,a2,a3,l1,l2,l3,_,_,_,c1,c2⟩,b3⟩;obtain⟨x1,r3,b4⟩:=Jr w3 32 CT #[aO aZ r.c,aM wD nD1 wd,aM wU nU1 wu,aO aZ r.k,aM wT nT1 wt];have HX:=CY x1;have HB4:=CY (b3.trans (b4.mono b3.size));have HR4:=CY (Al (DJ HR.o.1 (b3.trans (b4.mono b3.size))) (Al (DJ HR.o.2 (b3.trans (b4.mono b3.size))) r3));have HW:=CY (show(At aZ _ wD r.D/\At aZ _ wU r.U/\At aZ _ wT r.T)/\r.D.length=nD1/\r.U.length=nU1/\r.T.length=nT1*2 from⟨⟨a1.below b4,a2.below b4,a3.below b4⟩,l1,l2,l3⟩);clear HBW a1 a2 a3 l1 l2 l3 c1 c2 b3 b4 x1 r3 HR
 go_upto_region 5 with (first
  |(refine AE 32 (ah 8) (ah 31) w3.heap.size #[aO aZ r.c,aM wD nD1 wd,aM wU nU1 wu,aO aZ r.k,aM wT nT1 wt] 32 HX.o Tryz.sizeSr rfl (by simp[Value.oneCell']) ?_)
  |fail)
 clear HX;generalize (w3.alloc (aa CT 32)).setRow w3.heap.size #[aO aZ r.c,aM wD nD1 wd,aM wU nU1 wu,aO aZ r.k,aM wT nT1 wt]=w4 at *;generalize w3.heap.size=B2 at *;go_wp2_with (first
  |(refine AZ rfl 26 (ah 5) rfl B1 rfl 26 _ (0,0) _ HR4.o.1 underlying26 rfl Tryz.sizeSt ?_)
  |(refine AZ rfl 28 (ah 7) rfl (B1+1) rfl 28 _ (0,0) _ HR4.o.2.1 underlying28 rfl Tryz.sizeOp ?_)
  |fail)
 refine(HC.o w4 HB4.o).mono ?_;rintro e w5 ⟨v,rfl,⟨vD,nD2,vd,vU,nU2,vu,vT,nT2,vt,rfl,s3⟩,b5⟩;obtain rfl:nD2=nD1:=AH s3.nd HW.o.2.1
 obtain rfl:nU2=nU1:=AH s3.nu HW.o.2.2.1
 obtain rfl:nT2=nT1:=AH s3.nt HW.o.2.2.2
 have HRM:=CY (show r.n=nT2 by have:=HRN.o;have:=HW.o.2.2.2;omega);obtain⟨x1,r3,b6⟩:=Jr w5 32 CT #[aO aZ r.c,aM vD nD2 vd,aM vU nU2 vu,aO aZ r.k,aM vT nT2 vt];have HX:=CY x1;have b56:=b5.trans (b6.mono b5.size);have HB6:=CY (HB4.o.trans (b56.mono HB4.o.size));have HR6:=CY (Al (DJ HR4.o.1 b56) (Al (DJ HR4.o.2.2 b56) r3));have HL:=CY (λwz (h:Below _ _ wz)=>TU vD vU vT wD wU wT nD2 vd nU2 vu nT2 vt wd wu wt r.D r.U r.T r.k wz HW.o.2.1 HW.o.2.2.1 HW.o.2.2.2 (AH HSB.o HW.o.2) (AH HSB.o HW.o.2) (AH HSB.o HW.o.2) ((s3.d.at_.below b6).below h) ((s3.u.at_.below b6).below h) ((s3.t.at_.below b6).below h) ((HW.o.1.1.below b56).below h) ((HW.o.1.2.1.below b56).below h) ((HW.o.1.2.2.below b56).below h));have HVS:=CY (λwz (h:Below w2.heap.size w2 wz)=>Hs aD aU aT nD cD nU cU nT cT D U k T wz HS.o.hD HS.o.hU HS.o.hT (Ai HS.o.mD AK) (Ai HS.o.mU AK) (Ai HS.o.mT AK) (HS.o.d.below h) (HS.o.u.below h) (HS.o.t.below h) HKB.o.1 (AG HKB.o.2));have HVR:=CY (λwz (h:Below _ _ wz) (k0:-9223372036854775808<=r.k) (k1:r.k<9223372036854775808)=>Hs vD vU vT nD2 vd nU2 vu nT2 vt r.D r.U r.k r.T wz HW.o.2.1 HW.o.2.2.1 HW.o.2.2.2 (AH HSB.o HW.o.2) (AH HSB.o HW.o.2) (AH HSB.o HW.o.2) ((s3.d.at_.below b6).below h) ((s3.u.at_.below b6).below h) ((s3.t.at_.below b6).below h) k0 k1);clear HC HW HSB b5 b6 b56 x1 r3 s3 HR4 HS HKB
 go_upto_region 6 with (first
  |(refine AE 32 (ah 9) (ah 35) w5.heap.size #[aO aZ r.c,aM vD nD2 vd,aM vU nU2 vu,aO aZ r.k,aM vT nT2 vt] 32 HX.o Tryz.sizeSr rfl (by simp[Value.oneCell']) ?_)
  |fail)
 clear HX;generalize (w5.alloc (aa CT 32)).setRow w5.heap.size #[aO aZ r.c,aM vD nD2 vd,aM vU nU2 vu,aO aZ r.k,aM vT nT2 vt]=w6 at *;generalize w5.heap.size=B3 at *;try dsimp only[Act.put]
 go_cut [58] from 14 (λv ww=>v=ae false/\Below w6.heap.size w6 ww)
 case first=>
  have hcc:(r.c != r.c)=false:=AL
  have p0:=AA HR6.o.2.2 0;have p1:=AA HR6.o.2.2 1;have p2:=AA HR6.o.2.2 2;have p3:=AA HR6.o.2.2 3;have p4:=AA HR6.o.2.2 4;simp at p0 p1 p2 p3 p4;have q0:=AA HR6.o.2.1 0;have q1:=AA HR6.o.2.1 1;have q2:=AA HR6.o.2.1 2;have q3:=AA HR6.o.2.1 3;have q4:=AA HR6.o.2.1 4;simp at q0 q1 q2 q3 q4;go_wp2_with fail;refine(HL.o w6 Cf).mono ?_;rintro e w7 ⟨rfl,b7⟩;have x0:=Bf w7 B1 0 _ _ _ (DJ HR6.o.1 b7);have x1:=Bf w7 B1 1 _ _ _ (DJ HR6.o.1 b7);have x2:=Bf w7 B1 2 _ _ _ (DJ HR6.o.1 b7);have x3:=Bf w7 B1 3 _ _ _ (DJ HR6.o.1 b7);simp at x0 x1 x2 x3;have HB7:=CY b7;clear p0 p1 p2 p3 p4 q0 q1 q2 q3 q4 hcc b7;go_wp2_with fail;refine(HVS.o w7 (HB6.o.trans (HB7.o.mono HB6.o.size))).mono ?_;rintro e w8 ⟨rfl,b8⟩;have HB8:=CY (HB7.o.trans (b8.mono HB7.o.size));clear b8 x0 x1 x2 x3;by_cases hs:Ep D U k T nT=true
  ·have hr:=HST.o hs;rw[HRM.o] at hr;obtain⟨h1,h2,h3,h4,h5,h6⟩:=GD hr;have h7:=h3.len;have p0:=Bf w8 B3 0 _ _ _ (DJ HR6.o.2.2 HB8.o);have p1:=Bf w8 B3 1 _ _ _ (DJ HR6.o.2.2 HB8.o);have p2:=Bf w8 B3 2 _ _ _ (DJ HR6.o.2.2 HB8.o);have p3:=Bf w8 B3 3 _ _ _ (DJ HR6.o.2.2 HB8.o);have p4:=Bf w8 B3 4 _ _ _ (DJ HR6.o.2.2 HB8.o);simp at p0 p1 p2 p3 p4;rw[hs];have HV:=CY (HVR.o w8 HB8.o AJ AJ);have HRR:=CY hr;clear h1 h2 h3 h4 h5 h6 h7 hr hs;go_wp2_with fail;refine HV.o.mono ?_;rintro e w9 ⟨rfl,b9⟩;rw[HRR.o];have HB9:=CY (HB8.o.trans (b9.mono HB8.o.size));clear HV b9;go_wp2
   go_meet
   case rel=>exact⟨rfl,HB9.o⟩
  ·rw[Bool.eq_false_iff.2 hs];clear hs;go_wp2
   go_meet
   case rel=>exact⟨rfl,HB8.o⟩
 case rest=>
  obtain⟨rfl,b9⟩:=hcut;have HB9:=CY (HB2.o.trans ((HB6.o.trans (b9.mono HB6.o.size)).mono HB2.o.size));clear b9 HL HVS HVR HR6 HB6 HRN HRM HST HB4;have HD:=CY (HM.o _ HB9.o);go_wp2_with fail;refine HD.o.mono ?_;rintro e w1 ⟨eD,mD,dD,eU,mU,dU,l,eT,mT,dT,kf,fa,fb,rfl,hfa,hfb,⟨⟨D1,U1,T1,hl⟩,hk⟩,b1⟩;have S1:=hl.stt;obtain⟨x1,x2,r1,r2,b2⟩:=Pq w1 26 38 CJ CI #[aM eD mD dD,aM eU mU dU,aO aZ l,aM eT mT dT] #[aO ai 5,aO aZ kf,aO ai fa,aO ai fb];have HX:=CY (Al x1 x2);have HB2':=CY (HB9.o.trans ((b1.trans (b2.mono b1.size)).mono HB9.o.size));have HR:=CY (Al r1 r2);have HS:=CY (S1.below b2);have HKB:=CY (Al hk (Al hfa hfb));clear hl S1 x1 x2 r1 r2 b1 b2 hk hfa hfb HD HB9 HB2 HM
  go_upto_region 9 with (first
   |(refine AE 26 (ah 10) (ah 62) w1.heap.size #[aM eD mD dD,aM eU mU dU,aO aZ l,aM eT mT dT] 26 HX.o.1 Tryz.sizeSt rfl (by simp[Value.oneCell']) ?_)
   |(refine AE 38 (ah 11) (ah 63) (w1.heap.size+1) #[aO ai 5,aO aZ kf,aO ai fa,aO ai fb] 38 HX.o.2 Tryz.sizeFr rfl (by simp[Value.oneCell']) ?_)
   |fail)
  clear HX;generalize (((w1.alloc (aa CJ 26)).alloc (aa CI 38)).setRow w1.heap.size #[aM eD mD dD,aM eU mU dU,aO aZ l,aM eT mT dT]).setRow (w1.heap.size+1) #[aO ai 5,aO aZ kf,aO ai fa,aO ai fb]=w2 at *;generalize w1.heap.size=E1 at *;have HC:=CY (Ve eD eU eT mD dD mU dU mT dT D1 U1 l T1 5 kf fa fb w2 HS.o.hD HS.o.hU HS.o.hT (Ai HS.o.mD AK) (Ai HS.o.mU AK) (Ai HS.o.mT AK) HS.o.d HS.o.u HS.o.t HS.o.nl HKB.o.1.1 (AG HKB.o.1.2) HKB.o.2.1 HKB.o.2.2);have HBW:=CY (λwz (h:Below w2.heap.size w2 wz)=>Pf eD eU eT mD dD mU dU mT dT D1 U1 l T1 5 kf fa fb wz HS.o.hD HS.o.hU HS.o.hT (Ai HS.o.mD AK) (Ai HS.o.mU AK) (Ai HS.o.mT AK) (HS.o.d.below h) (HS.o.u.below h) (HS.o.t.below h) HS.o.c.1 HS.o.c.2 HKB.o.1.1 (AG HKB.o.1.2) HKB.o.2.1 HKB.o.2.2);have HSB:=CY (VP (D:=D1) (U:=U1) (k:=l) (kind:=kf) (a:=fa) (b:=fb) HS.o.hT);have HT2:=CY (Xa (D:=D1) (U:=U1) (k:=l) (kind:=kf) (a:=fa) (b:=fb) HS.o.hT);have HST:=CY (λh=>Tk (D:=D1) (U:=U1) (k:=l) (T:=T1) (n:=mT) (kind:=kf) (a:=fa) (b:=fb) HS.o.hT HKB.o.2.2 h);have HVS:=CY (λwz (h:Below w2.heap.size w2 wz)=>Hs eD eU eT mD dD mU dU mT dT D1 U1 l T1 wz HS.o.hD HS.o.hU HS.o.hT (Ai HS.o.mD AK) (Ai HS.o.mU AK) (Ai HS.o.mT AK) (HS.o.d.below h) (HS.o.u.below h) (HS.o.t.below h) HKB.o.1.1 (AG HKB.o.1.2));have HVI:=CY (λwz (h:Below w2.heap.size w2 wz)=>U3 eD eU eT mD dD mU dU mT dT D1 U1 l T1 wz HS.o.hD HS.o.hU HS.o.hT (Ai HS.o.mD AK) (Ai HS.o.mU AK) (Ai HS.o.mT AK) (HS.o.d.below h) (HS.o.u.below h) (HS.o.t.below h) HS.o.nl HKB.o.1.1 (AG HKB.o.1.2));generalize EY D1 U1 l T1 mT kf fa fb=q at *;generalize Ep D1 U1 l T1 mT=sb at *;go_wp2_with (first
   |(refine AZ rfl 26 (ah 10) rfl E1 rfl 26 _ (0,0) _ HR.o.1 underlying26 rfl Tryz.sizeSt ?_)
   |(refine AZ rfl 38 (ah 11) rfl (E1+1) rfl 38 _ (0,0) _ HR.o.2 underlying38 rfl Tryz.sizeFr ?_)
   |fail)
  refine HC.o.mono ?_;rintro e w3 ⟨v,rfl,⟨gD,nD3,gd,gU,nU3,gu,gT,nT3,gt,rfl,s3⟩,b3⟩;obtain⟨x1,r3,b4⟩:=Jr w3 42 CE #[ae q.ok,aM gD nD3 gd,aM gU nU3 gu,aO aZ q.k,aM gT nT3 gt];have HX:=CY x1;have b34:=b3.trans (b4.mono b3.size);have HB4:=CY b34;have HR4:=CY (Al (DJ HR.o.1 b34) (Al (DJ HR.o.2 b34) r3));have HA:=CY (show(At aZ _ gD q.D/\At aZ _ gU q.U/\At aZ _ gT q.T)/\q.D.length=nD3/\q.U.length=nU3/\q.T.length=nT3*2 from⟨⟨s3.d.at_.below b4,s3.u.at_.below b4,s3.t.at_.below b4⟩,s3.nd,s3.nu,s3.nt⟩);clear HC s3 b3 b4 b34 x1 r3 HR HS HKB
  go_upto_region 10 with (first
   |(refine AE 42 (ah 12) (ah 66) w3.heap.size #[ae q.ok,aM gD nD3 gd,aM gU nU3 gu,aO aZ q.k,aM gT nT3 gt] 42 HX.o Tryz.sizeAr rfl (by simp[Value.oneCell']) ?_)
   |fail)
  clear HX;generalize (w3.alloc (aa CE 42)).setRow w3.heap.size #[ae q.ok,aM gD nD3 gd,aM gU nU3 gu,aO aZ q.k,aM gT nT3 gt]=w4 at *;generalize w3.heap.size=E2 at *;go_wp2_with (first
   |(refine AZ rfl 26 (ah 10) rfl E1 rfl 26 _ (0,0) _ HR4.o.1 underlying26 rfl Tryz.sizeSt ?_)
   |(refine AZ rfl 38 (ah 11) rfl (E1+1) rfl 38 _ (0,0) _ HR4.o.2.1 underlying38 rfl Tryz.sizeFr ?_)
   |fail)
  refine(HBW.o w4 HB4.o).mono ?_;rintro e w5 ⟨v,rfl,⟨hD,nD4,hd,hU,nU4,hu,hT,nT4,ht,rfl,a1,a2,a3,l1,l2,l3,_,_,_,_,_⟩,b5⟩;obtain rfl:nD4=nD3:=AG HA.o.2
  obtain rfl:nU4=nU3:=AG HA.o.2
  obtain rfl:nT4=nT3:=AG HA.o.2
  obtain⟨x1,r3,b6⟩:=Jr w5 42 CE #[ae q.ok,aM hD nD4 hd,aM hU nU4 hu,aO aZ q.k,aM hT nT4 ht];have HX:=CY x1;have b56:=b5.trans (b6.mono b5.size);have HB6:=CY (HB4.o.trans (b56.mono HB4.o.size));have HR6:=CY (Al (DJ HR4.o.1 b56) (Al (DJ HR4.o.2.2 b56) r3));have HL:=CY (λwz (h:Below _ _ wz)=>TU gD gU gT hD hU hT nD4 gd nU4 gu nT4 gt hd hu ht q.D q.U q.T q.k wz l1 l2 l3 (AG HSB.o) (AG HSB.o) (AG HSB.o) ((HA.o.1.1.below b56).below h) ((HA.o.1.2.1.below b56).below h) ((HA.o.1.2.2.below b56).below h) ((a1.below b6).below h) ((a2.below b6).below h) ((a3.below b6).below h));have HVA:=CY (λwz (h:Below _ _ wz) (k0:-9223372036854775808<=q.k) (k1:q.k<9223372036854775808)=>Hs gD gU gT nD4 gd nU4 gu nT4 gt q.D q.U q.k q.T wz l1 l2 l3 (AG HSB.o) (AG HSB.o) (AG HSB.o) ((HA.o.1.1.below b56).below h) ((HA.o.1.2.1.below b56).below h) ((HA.o.1.2.2.below b56).below h) k0 k1);have HN:=CY (show q.n=nT4 by have:=HT2.o;omega);clear HBW HA HSB HT2 b5 b6 b56 x1 r3 HR4 a1 a2 a3 l1 l2 l3
  go_upto_region 11 with (first
   |(refine AE 42 (ah 13) (ah 69) w5.heap.size #[ae q.ok,aM hD nD4 hd,aM hU nU4 hu,aO aZ q.k,aM hT nT4 ht] 42 HX.o Tryz.sizeAr rfl (by simp[Value.oneCell']) ?_)
   |fail)
  clear HX;generalize (w5.alloc (aa CE 42)).setRow w5.heap.size #[ae q.ok,aM hD nD4 hd,aM hU nU4 hu,aO aZ q.k,aM hT nT4 ht]=w6 at *;generalize w5.heap.size=E3 at *;generalize hok:q.ok=ok at *;cases ok with
  |true=>
   have hr:=HST.o rfl;rw[HN.o] at hr;obtain⟨h1,h2,h3,h4,h5,h6⟩:=GD hr;have h7:=h3.len;have HQK:=CY (show -9223372036854775808<=q.k/\q.k<9223372036854775808 by omega);have HRR:=CY hr;clear h1 h2 h3 h4 h5 h6 h7 hr HST hok;refine Ag AM ?_;refine Ej (λ_ _ _=>True) (frame:=(λ(a b c d e f g h i j k l m n o p q r s u v w x y z A B C D E F G H I J K L M N O P Q R S T U V W X Y Z a0 a1 a2 a3 a4 a5 a6 a7 a8 a9 b0 b1 b2 b3 b4 b5 b6 b7:aX)=>λ(t:Nat->aX)=>({ tmps:=List.toArray [a,b,c,d,t 29,e,f,g,h,i,j,k,l,m,n,o,p,q,r,s,u,v,w,x,y,z,A,B,C,D,E,F,G,H,I,J,K,L,M,N,O,P,Q,R,S,T,U,V,W,X,Y,Z,a0,a1,a2,a3,a4,a5,a6,a7,a8,a9,b0,b1,b2,b3,b4,b5,b6,b7,t 0,t 1,t 2,t 3,t 4,t 5,t 6,t 7,t 8,t 9,t 10,t 11,t 12,t 13,t 14,t 15,t 16,t 17,t 18,t 19,t 20,t 21,t 22,t 23,t 24,t 25,t 26,t 27,t 28],defers:=[] }:Act)) _ _ _ _ _ _ _ _ _ _ _ _ _ _ _ _ _ _ _ _ _ _ _ _ _ _ _ _ _ _ _ _ _ _ _ _ _ _ _ _ _ _ _ _ _ _ _ _ _ _ _ _ _ _ _ _ _ _ _ _ _ _ _ _ _ _ _ _ _)
    (Ext:=λL u w'=>Below w6.heap.size w6 w') (Good:=λi L w' v=>if i=0 then v=aY (aR ⟨E2,0,aS⟩) else if i=1 then v=ae true else if i=2 then v=aY (aR ⟨E3,0,aS⟩) else if i=3 then v=ae true else if i=4 then v=ae true else if i=5 then v=ae true else if i=6 then v=aY (aR ⟨E2,1,aS⟩) else if i=7 then v=af #[aM gD nD4 gd,aM gU nU4 gu,aO aZ q.k,aM gT nT4 gt] else if i=8 then v=aY (aR ⟨E3,1,aS⟩) else if i=9 then v=af #[aM hD nD4 hd,aM hU nU4 hu,aO aZ q.k,aM hT nT4 ht] else if i=10 then v=ae true else if i=11 then v=ae true else if i=12 then v=ae true else if i=13 then v=aY (aR ⟨E3,0,aS⟩) else if i=14 then v=ae true else if i=15 then v=ae false else if i=16 then v=ae false else if i=17 then v=aY (aR ⟨E2,1,aS⟩) else if i=18 then v=af #[aM gD nD4 gd,aM gU nU4 gu,aO aZ q.k,aM gT nT4 gt] else if i=19 then v=ae true else if i=20 then v=ae true else if i=21 then v=ae true else if i=22 then v=ae true else if i=23 then v=af #[aM eD mD dD,aM eU mU dU,aO aZ l,aM eT mT dT] else if i=24 then v=ae sb else if i=25 then v=af #[aM eD mD dD,aM eU mU dU,aO aZ l,aM eT mT dT] else if i=26 then v=ae sb else if i=27 then v=ae true else if i=28 then v=ae true else if i=29 then v=ae true else True) ?hstab AM ?hop ?hdone _ _ ((λ(x0 x1 x2 x3 x4 x5 x6 x7 x8 x9 x10 x11 x12 x13 x14 x15 x16 x17 x18 x19 x20 x21 x22 x23 x24 x25 x26 x27 x28 x29:aX)=>λ(i:Nat)=>if i=0 then x0 else if i=1 then x1 else if i=2 then x2 else if i=3 then x3 else if i=4 then x4 else if i=5 then x5 else if i=6 then x6 else if i=7 then x7 else if i=8 then x8 else if i=9 then x9 else if i=10 then x10 else if i=11 then x11 else if i=12 then x12 else if i=13 then x13 else if i=14 then x14 else if i=15 then x15 else if i=16 then x16 else if i=17 then x17 else if i=18 then x18 else if i=19 then x19 else if i=20 then x20 else if i=21 then x21 else if i=22 then x22 else if i=23 then x23 else if i=24 then x24 else if i=25 then x25 else if i=26 then x26 else if i=27 then x27 else if i=28 then x28 else if i=29 then x29 else undef) _ _ _ _ _ _ _ _ _ _ _ _ _ _ _ _ _ _ _ _ _ _ _ _ _ _ _ _ _ _) _ AL ?ext ?start AL
   case start=>intro i hi h;exact absurd h Ef
   case ext=>exact Cf.drew
   case hstab=>intro j L w9 w' i v hM hij hLi h;exact h
   case hop=>
    intro i o L t w' ho hLi hx hdep K hK;have hi:i<30:=(AR.1 ho).1;have ra:=DJ HR6.o.2.1 hx;have ra0:=AA ra 0;have ra1:=AA ra 1;have ra2:=AA ra 2;have ra3:=AA ra 3;have ra4:=AA ra 4;simp at ra0 ra1 ra2 ra3 ra4;have rb:=DJ HR6.o.2.2 hx;have rb0:=AA rb 0;have rb1:=AA rb 1;have rb2:=AA rb 2;have rb3:=AA rb 3;have rb4:=AA rb 4;simp at rb0 rb1 rb2 rb3 rb4;have rc:=DJ HR6.o.1 hx;have rc0:=AA rc 0;have rc1:=AA rc 1;have rc2:=AA rc 2;have rc3:=AA rc 3;simp at rc0 rc1 rc2 rc3;clear ra rb rc;obtain rfl|rfl|rfl|rfl|rfl|rfl|rfl|rfl|rfl|rfl|rfl|rfl|rfl|rfl|rfl|rfl|rfl|rfl|rfl|rfl|rfl|rfl|rfl|rfl|rfl|rfl|rfl|rfl|rfl|rfl:i=0\/i=1\/i=2\/i=3\/i=4\/i=5\/i=6\/i=7\/i=8\/i=9\/i=10\/i=11\/i=12\/i=13\/i=14\/i=15\/i=16\/i=17\/i=18\/i=19\/i=20\/i=21\/i=22\/i=23\/i=24\/i=25\/i=26\/i=27\/i=28\/i=29:=AJ
    all_goals(simp at ho;subst ho)
    all_goals try(have hK':=hK w' _ rfl hx trivial;clear hK;simp[Region.binds] at hdep;(first|rw[AP (by simp[Region.wanted,yielded,hdep])]|rw[AQ (by simp[Region.wanted,yielded,hdep])]);(try go_simp);simpa[Ca,hdep,Act.put] using hK';done)
    ·have d7:t 7=af #[aM gD nD4 gd,aM gU nU4 gu,aO aZ q.k,aM gT nT4 gt]:=by simpa using(hdep ⟨7,.data⟩ AL rfl).2
     have d9:t 9=af #[aM hD nD4 hd,aM hU nU4 hu,aO aZ q.k,aM hT nT4 ht]:=by simpa using(hdep ⟨9,.data⟩ AL rfl).2
     have d5:t 5=ae true:=by simpa using(hdep ⟨5,.guard⟩ AL rfl).2
     clear hdep;have A:=HL.o w' hx;have hK':∀ ww,Below w'.heap.size w' ww->K _ ww:=λww hb=>hK ww (ae true) AL (hx.trans (hb.mono hx.size)) trivial
     clear hK ra0 ra1 ra2 ra3 ra4 rb0 rb1 rb2 rb3 rb4 rc0 rc1 rc2 rc3;rw[AP (by simp[Region.wanted,yielded,d5])];go_simp;try simp only[d7,d9]
     refine A.mono ?_;rintro e w9 ⟨rfl,hb9⟩;have hK2:=hK' w9 hb9;clear hK' A hb9;go_simp;simpa[Ca,d7,d9,d5] using hK2
    ·have d18:t 18=af #[aM gD nD4 gd,aM gU nU4 gu,aO aZ q.k,aM gT nT4 gt]:=by simpa using(hdep ⟨18,.data⟩ AL rfl).2
     have d16:t 16=ae false:=by simpa using(hdep ⟨16,.guard⟩ AL rfl).2
     clear hdep;have A:=HVA.o w' hx HQK.o.1 HQK.o.2;rw[HRR.o] at A;have hK':∀ ww,Below w'.heap.size w' ww->K _ ww:=λww hb=>hK ww (ae true) AL (hx.trans (hb.mono hx.size)) trivial
     clear hK ra0 ra1 ra2 ra3 ra4 rb0 rb1 rb2 rb3 rb4 rc0 rc1 rc2 rc3;rw[AP (by simp[Region.wanted,yielded,d16])];go_simp;try simp only[d18]
     refine A.mono ?_;rintro e w9 ⟨rfl,hb9⟩;have hK2:=hK' w9 hb9;clear hK' A hb9;go_simp;simpa[Ca,d18,d16] using hK2
    ·have d23:t 23=af #[aM eD mD dD,aM eU mU dU,aO aZ l,aM eT mT dT]:=by simpa using(hdep ⟨23,.data⟩ AL rfl).2
     have d22:t 22=ae true:=by simpa using(hdep ⟨22,.guard⟩ AL rfl).2
     clear hdep;have A:=HVI.o w' (HB6.o.trans (hx.mono HB6.o.size));have hK':∀ ww,Below w'.heap.size w' ww->K _ ww:=λww hb=>hK ww (ae sb) AL (hx.trans (hb.mono hx.size)) trivial
     clear hK ra0 ra1 ra2 ra3 ra4 rb0 rb1 rb2 rb3 rb4 rc0 rc1 rc2 rc3;rw[AP (by simp[Region.wanted,yielded,d22])];go_simp;try simp only[d23]
     refine A.mono ?_;rintro e w9 ⟨rfl,hb9⟩;have hK2:=hK' w9 hb9;clear hK' A hb9;go_simp;simpa[Ca,d23,d22] using hK2
    ·have d25:t 25=af #[aM eD mD dD,aM eU mU dU,aO aZ l,aM eT mT dT]:=by simpa using(hdep ⟨25,.data⟩ AL rfl).2
     have d22:t 22=ae true:=by simpa using(hdep ⟨22,.guard⟩ AL rfl).2
     clear hdep;have A:=HVS.o w' (HB6.o.trans (hx.mono HB6.o.size));have hK':∀ ww,Below w'.heap.size w' ww->K _ ww:=λww hb=>hK ww (ae sb) AL (hx.trans (hb.mono hx.size)) trivial
     clear hK ra0 ra1 ra2 ra3 ra4 rb0 rb1 rb2 rb3 rb4 rc0 rc1 rc2 rc3;rw[AP (by simp[Region.wanted,yielded,d22])];go_simp;try simp only[d25]
     refine A.mono ?_;rintro e w9 ⟨rfl,hb9⟩;have hK2:=hK' w9 hb9;clear hK' A hb9;go_simp;simpa[Ca,d25,d22] using hK2
   case hdone=>
    intro L t w' hx hg;have d29:t 29=ae true:=by simpa using hg 29 AK
    have HF:=CY (HB2'.o.trans ((HB6.o.trans (hx.mono HB6.o.size)).mono HB2'.o.size));clear hg hx;simp only[d29];go_wp2
    go_ret
    exact⟨rfl,HF.o⟩
  |false=>
   clear HST hok;refine Ag AM ?_;refine Ej (λ_ _ _=>True) (frame:=(λ(a b c d e f g h i j k l m n o p q r s u v w x y z A B C D E F G H I J K L M N O P Q R S T U V W X Y Z a0 a1 a2 a3 a4 a5 a6 a7 a8 a9 b0 b1 b2 b3 b4 b5 b6 b7:aX)=>λ(t:Nat->aX)=>({ tmps:=List.toArray [a,b,c,d,t 29,e,f,g,h,i,j,k,l,m,n,o,p,q,r,s,u,v,w,x,y,z,A,B,C,D,E,F,G,H,I,J,K,L,M,N,O,P,Q,R,S,T,U,V,W,X,Y,Z,a0,a1,a2,a3,a4,a5,a6,a7,a8,a9,b0,b1,b2,b3,b4,b5,b6,b7,t 0,t 1,t 2,t 3,t 4,t 5,t 6,t 7,t 8,t 9,t 10,t 11,t 12,t 13,t 14,t 15,t 16,t 17,t 18,t 19,t 20,t 21,t 22,t 23,t 24,t 25,t 26,t 27,t 28],defers:=[] }:Act)) _ _ _ _ _ _ _ _ _ _ _ _ _ _ _ _ _ _ _ _ _ _ _ _ _ _ _ _ _ _ _ _ _ _ _ _ _ _ _ _ _ _ _ _ _ _ _ _ _ _ _ _ _ _ _ _ _ _ _ _ _ _ _ _ _ _ _ _ _)
    (Ext:=λL u w'=>Below w6.heap.size w6 w') (Good:=λi L w' v=>if i=0 then v=aY (aR ⟨E2,0,aS⟩) else if i=1 then v=ae false else if i=2 then v=aY (aR ⟨E3,0,aS⟩) else if i=3 then v=ae false else if i=4 then v=ae true else if i=5 then v=ae true else if i=6 then v=aY (aR ⟨E2,1,aS⟩) else if i=7 then v=af #[aM gD nD4 gd,aM gU nU4 gu,aO aZ q.k,aM gT nT4 gt] else if i=8 then v=aY (aR ⟨E3,1,aS⟩) else if i=9 then v=af #[aM hD nD4 hd,aM hU nU4 hu,aO aZ q.k,aM hT nT4 ht] else if i=10 then v=ae true else if i=11 then v=ae true else if i=12 then v=ae true else if i=13 then v=aY (aR ⟨E3,0,aS⟩) else if i=14 then v=ae false else if i=15 then v=ae true else if i=16 then v=ae true else if i=17 then v=undef else if i=18 then v=undef else if i=19 then v=undef else if i=20 then v=ae true else if i=21 then v=ae true else if i=22 then v=ae true else if i=23 then v=af #[aM eD mD dD,aM eU mU dU,aO aZ l,aM eT mT dT] else if i=24 then v=ae sb else if i=25 then v=af #[aM eD mD dD,aM eU mU dU,aO aZ l,aM eT mT dT] else if i=26 then v=ae sb else if i=27 then v=ae true else if i=28 then v=ae true else if i=29 then v=ae true else True) ?hstab AM ?hop ?hdone _ _ ((λ(x0 x1 x2 x3 x4 x5 x6 x7 x8 x9 x10 x11 x12 x13 x14 x15 x16 x17 x18 x19 x20 x21 x22 x23 x24 x25 x26 x27 x28 x29:aX)=>λ(i:Nat)=>if i=0 then x0 else if i=1 then x1 else if i=2 then x2 else if i=3 then x3 else if i=4 then x4 else if i=5 then x5 else if i=6 then x6 else if i=7 then x7 else if i=8 then x8 else if i=9 then x9 else if i=10 then x10 else if i=11 then x11 else if i=12 then x12 else if i=13 then x13 else if i=14 then x14 else if i=15 then x15 else if i=16 then x16 else if i=17 then x17 else if i=18 then x18 else if i=19 then x19 else if i=20 then x20 else if i=21 then x21 else if i=22 then x22 else if i=23 then x23 else if i=24 then x24 else if i=25 then x25 else if i=26 then x26 else if i=27 then x27 else if i=28 then x28 else if i=29 then x29 else undef) _ _ _ _ _ _ _ _ _ _ _ _ _ _ _ _ _ _ _ _ _ _ _ _ _ _ _ _ _ _) _ AL ?ext ?start AL
   case start=>intro i hi h;exact absurd h Ef
   case ext=>exact Cf.drew
   case hstab=>intro j L w9 w' i v hM hij hLi h;exact h
   case hop=>
    intro i o L t w' ho hLi hx hdep K hK;have hi:i<30:=(AR.1 ho).1;have ra:=DJ HR6.o.2.1 hx;have ra0:=AA ra 0;have ra1:=AA ra 1;have ra2:=AA ra 2;have ra3:=AA ra 3;have ra4:=AA ra 4;simp at ra0 ra1 ra2 ra3 ra4;have rb:=DJ HR6.o.2.2 hx;have rb0:=AA rb 0;have rb1:=AA rb 1;have rb2:=AA rb 2;have rb3:=AA rb 3;have rb4:=AA rb 4;simp at rb0 rb1 rb2 rb3 rb4;have rc:=DJ HR6.o.1 hx;have rc0:=AA rc 0;have rc1:=AA rc 1;have rc2:=AA rc 2;have rc3:=AA rc 3;simp at rc0 rc1 rc2 rc3;clear ra rb rc;obtain rfl|rfl|rfl|rfl|rfl|rfl|rfl|rfl|rfl|rfl|rfl|rfl|rfl|rfl|rfl|rfl|rfl|rfl|rfl|rfl|rfl|rfl|rfl|rfl|rfl|rfl|rfl|rfl|rfl|rfl:i=0\/i=1\/i=2\/i=3\/i=4\/i=5\/i=6\/i=7\/i=8\/i=9\/i=10\/i=11\/i=12\/i=13\/i=14\/i=15\/i=16\/i=17\/i=18\/i=19\/i=20\/i=21\/i=22\/i=23\/i=24\/i=25\/i=26\/i=27\/i=28\/i=29:=AJ
    all_goals(simp at ho;subst ho)
    all_goals try(have hK':=hK w' _ rfl hx trivial;clear hK;simp[Region.binds] at hdep;(first|rw[AP (by simp[Region.wanted,yielded,hdep])]|rw[AQ (by simp[Region.wanted,yielded,hdep])]);(try go_simp);simpa[Ca,hdep,Act.put] using hK';done)
    ·have d7:t 7=af #[aM gD nD4 gd,aM gU nU4 gu,aO aZ q.k,aM gT nT4 gt]:=by simpa using(hdep ⟨7,.data⟩ AL rfl).2
     have d9:t 9=af #[aM hD nD4 hd,aM hU nU4 hu,aO aZ q.k,aM hT nT4 ht]:=by simpa using(hdep ⟨9,.data⟩ AL rfl).2
     have d5:t 5=ae true:=by simpa using(hdep ⟨5,.guard⟩ AL rfl).2
     clear hdep;have A:=HL.o w' hx;have hK':∀ ww,Below w'.heap.size w' ww->K _ ww:=λww hb=>hK ww (ae true) AL (hx.trans (hb.mono hx.size)) trivial
     clear hK ra0 ra1 ra2 ra3 ra4 rb0 rb1 rb2 rb3 rb4 rc0 rc1 rc2 rc3;rw[AP (by simp[Region.wanted,yielded,d5])];go_simp;try simp only[d7,d9]
     refine A.mono ?_;rintro e w9 ⟨rfl,hb9⟩;have hK2:=hK' w9 hb9;clear hK' A hb9;go_simp;simpa[Ca,d7,d9,d5] using hK2
    ·have d16:t 16=ae true:=by simpa using(hdep ⟨16,.guard⟩ AL rfl).2
     clear hdep;have hK':=hK w' undef AL hx trivial;clear hK ra0 ra1 ra2 ra3 ra4 rb0 rb1 rb2 rb3 rb4 rc0 rc1 rc2 rc3;rw[AQ (by simp[Region.wanted,yielded,d16])];simpa[Ca,Act.put] using hK'
    ·have d16:t 16=ae true:=by simpa using(hdep ⟨16,.guard⟩ AL rfl).2
     clear hdep;have hK':=hK w' undef AL hx trivial;clear hK ra0 ra1 ra2 ra3 ra4 rb0 rb1 rb2 rb3 rb4 rc0 rc1 rc2 rc3;rw[AQ (by simp[Region.wanted,yielded,d16])];simpa[Ca,Act.put] using hK'
    ·have d16:t 16=ae true:=by simpa using(hdep ⟨16,.guard⟩ AL rfl).2
     clear hdep;have hK':=hK w' undef AL hx trivial;clear hK ra0 ra1 ra2 ra3 ra4 rb0 rb1 rb2 rb3 rb4 rc0 rc1 rc2 rc3;rw[AQ (by simp[Region.wanted,yielded,d16])];simpa[Ca,Act.put] using hK'
    ·have d23:t 23=af #[aM eD mD dD,aM eU mU dU,aO aZ l,aM eT mT dT]:=by simpa using(hdep ⟨23,.data⟩ AL rfl).2
     have d22:t 22=ae true:=by simpa using(hdep ⟨22,.guard⟩ AL rfl).2
     clear hdep;have A:=HVI.o w' (HB6.o.trans (hx.mono HB6.o.size));have hK':∀ ww,Below w'.heap.size w' ww->K _ ww:=λww hb=>hK ww (ae sb) AL (hx.trans (hb.mono hx.size)) trivial
     clear hK ra0 ra1 ra2 ra3 ra4 rb0 rb1 rb2 rb3 rb4 rc0 rc1 rc2 rc3;rw[AP (by simp[Region.wanted,yielded,d22])];go_simp;try simp only[d23]
     refine A.mono ?_;rintro e w9 ⟨rfl,hb9⟩;have hK2:=hK' w9 hb9;clear hK' A hb9;go_simp;simpa[Ca,d23,d22] using hK2
    ·have d25:t 25=af #[aM eD mD dD,aM eU mU dU,aO aZ l,aM eT mT dT]:=by simpa using(hdep ⟨25,.data⟩ AL rfl).2
     have d22:t 22=ae true:=by simpa using(hdep ⟨22,.guard⟩ AL rfl).2
     clear hdep;have A:=HVS.o w' (HB6.o.trans (hx.mono HB6.o.size));have hK':∀ ww,Below w'.heap.size w' ww->K _ ww:=λww hb=>hK ww (ae sb) AL (hx.trans (hb.mono hx.size)) trivial
     clear hK ra0 ra1 ra2 ra3 ra4 rb0 rb1 rb2 rb3 rb4 rc0 rc1 rc2 rc3;rw[AP (by simp[Region.wanted,yielded,d22])];go_simp;try simp only[d25]
     refine A.mono ?_;rintro e w9 ⟨rfl,hb9⟩;have hK2:=hK' w9 hb9;clear hK' A hb9;go_simp;simpa[Ca,d25,d22] using hK2
   case hdone=>
    intro L t w' hx hg;have d29:t 29=ae true:=by simpa using hg 29 AK
    have HF:=CY (HB2'.o.trans ((HB6.o.trans (hx.mono HB6.o.size)).mono HB2'.o.size));clear hg hx;simp only[d29];go_wp2
    go_ret
    exact⟨rfl,HF.o⟩
end Go.Proofs.YtncomnkdlpoelaaGreatDoor
