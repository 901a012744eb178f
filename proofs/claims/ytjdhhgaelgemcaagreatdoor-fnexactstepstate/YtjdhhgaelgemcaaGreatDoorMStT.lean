import Derived.Test.YtjdhhgaelgemcaaGreatDoorMCgS
import Derived.Test.YtjdhhgaelgemcaaGreatDoorStQ
open Go.Proofs.Tryz renaming prog->tP
open Go.Proofs.Tryz
open Go.Value renaming slice->Z7,int->Z8,pointer->aF,bool->aG,agg->aH
open Go.IntKind renaming i64->aI,u8->Z9
open Go.Obj renaming cells->aJ
open Go.Ending renaming returned->aK
open Go.Ground renaming data->aL
open Go.Operand renaming tmp->aM
open Option renaming some->aE,none->aA
open Go renaming World->aC,Value->aB
set_option maxHeartbeats 16000000
set_option maxRecDepth 100000
namespace Go.Proofs.YtjdhhgaelgemcaaGreatDoor
open Go.ChangeShapes Go.WideShapes Go.ChangeAt Go.RowKit
set_option linter.unusedVariables false
theorem El.below {w w':aC} (h:El w) (b:Below w.heap.size w w'):El w':=by
 have hlt:0<w.heap.size:=block_lt_of_cell (a:=⟨0,0,aA⟩) h;unfold El at h |-;rw[b.cell (p:=⟨0,0,aA⟩) hlt];exact h
theorem Ku.low {H B g:Nat} {w:aC} {d u:List Int} {v:aB} {D U:List Int} {k:Int} {T:List Int} {n:Nat} (h:Ku H B g w d u v D U k T n):H<=w.heap.size:=BG h.hHB h.hBw
theorem Yf {D U:List Int} {k:Int} {T:List Int} {n:Nat} {ks tk:List Int} {now N:Int}:FH D U k T n ks 1 tk now N=if DX D U ks tk now=1 then ⟨1,D,Df U (Ej tk).toNat,k,T++[Ej tk,now],n+1⟩ else ⟨DX D U ks tk now,D,U,k,T,n⟩:=by unfold FH;rw[AP rfl]
theorem VO {H B g:Nat} {w:aC} {d u:List Int} {v:aB} {D U:List Int} {k:Int} {T:List Int} {n:Nat} (h:Ku H B g w d u v D U k T n) (bp op cp:Nat) (ks:List Int) (ta:Option Addr) (tn tc:Nat) (tk:List Int) (kind now N:Int) (hk:ks.length=32) (hp:Fq w bp op ks) (zk:Ci ks) (ht:tk.length=tn) (mt:tn<=1048576) (hct:tn<=tc) (hat:At Z9 w ta tk) (zt:Ci tk) (hT:D4 w) (hV:1<w.heap.size) (hE:El w) :
  Calls tP 49 #[aF (aE ⟨g,0,aA⟩),Z7 (aE ⟨bp,op,aA⟩) 32 cp,aH #[Z8 aI kind,Z7 ta tn tc,Z8 aI now,Z8 aI N]] w (OL H B g w (FH D U k T n ks 1 tk now N)):=by
 have HR0:AO ((w.alloc (aJ #[Z8 aI kind,Z7 ta tn tc,Z8 aI now,Z8 aI N] 39)).heap[w.heap.size]?=aE (aJ #[Z8 aI kind,Z7 ta tn tc,Z8 aI now,Z8 aI N] 39 (0,0))):=AX w _;have HW:AO (Below w.heap.size w (w.alloc (aJ #[Z8 aI kind,Z7 ta tn tc,Z8 aI now,Z8 aI N] 39))):=Cg.alloc Cl _;have HB:=Cd (h.below HW.o);have HH:AO (H<=w.heap.size):=h.low;have HC:=Cd (VI HB.o bp op cp ks ta tn tc tk kind now N hk (hp.below HW.o) zk ht mt hct (hat.below HW.o) zt (FW hT hV HW.o) (As hV HW.o.size));have HE:=Cd (hE.below HW.o);have HOZ:AO ((tP.info? 39).map (·.size)=aE 4):=by show _=_;kernel_rfl
 have HT1:AO (DX D U ks tk now=1->∃ s m:Nat,Ej tk=s/\now=m/\s<256/\m<=4294967295/\I1 tk=true):=Jx zt;have HOP:=Cd (Yf (D:=D) (U:=U) (k:=k) (T:=T) (n:=n) (ks:=ks) (tk:=tk) (now:=now) (N:=N));clear h hk hp zk ht hat zt hT hV hE mt hct;go_enter func49,ntmps49
 go_upto_region 1 with fail
 generalize w.alloc (aJ #[Z8 aI kind,Z7 ta tn tc,Z8 aI now,Z8 aI N] 39)=w0 at *;go_wp2_with (first
  |(refine Ae rfl 39 (aM 5) rfl w.heap.size rfl 39 _ (0,0) _ HR0.o underlying39 rfl HOZ.o ?_)
  |fail)
 refine HC.o.mono ?_;rintro e w1 ⟨x,y,rfl,hb1,hxy⟩;have HB1:=Cd (HB.o.below hb1);have HW1:AO (Below w.heap.size w w1):=HW.o.trans (hb1.mono HW.o.size);have HE1:=Cd (HE.o.below hb1);have HR1:AO (w1.heap[w.heap.size]?=aE (aJ #[Z8 aI kind,Z7 ta tn tc,Z8 aI now,Z8 aI N] 39 (0,0))):=by show _=_;rw[hb1.block _ (AR.1 HR0.o).1];exact HR0.o
 clear HC HB HW HE HR0 hb1;rcases hxy with⟨hc,rfl,rfl⟩|⟨hc,rfl⟩
 ·obtain⟨s,m,hs,hm,hs2,hm2,-⟩:=HT1.o hc;have HF0:AO (FH D U k T n ks 1 tk now N=⟨1,D,Df U s,k,T++[(s:Int),now],n+1⟩):=by show _=_;rw[HOP.o,AP hc,hs];rfl
  have o2:w1.cell? ⟨w.heap.size,2,aA⟩=aE (Z8 aI now):=by rw[AA HR1.o 2];rfl
  rw[hs];clear hc HT1 HOP HR1 hs hm hm2 HE1;go_wp2_with fail;refine(QS (H:=H) s now hs2 HB1.o.bk HB1.o.sd HB1.o.su HB1.o.tv HB1.o.hn HB1.o.hH HB1.o.hHB HB1.o.ne HB1.o.hBw).mono ?_;rintro e w2 ⟨rfl,hb2,u',v',r1,r2,r3,r4⟩;have HF:AO (OL H B g w ⟨1,D,Df U s,k,T++[(s:Int),now],n+1⟩ (aK (Z8 aI 1)) w2):=⟨rfl,(HW1.o.mono HH.o).trans hb2,_,_,_,r1,HB1.o.sd,r2.congr (λx hx=>Kn hx),r3,r4⟩
  clear hb2 r1 r2 r3 r4 HB1 o2;go_wp2
  go_ret
  rw[HF0.o];exact HF.o
 ·have HF0:AO (FH D U k T n ks 1 tk now N=⟨DX D U ks tk now,D,U,k,T,n⟩):=by show _=_;rw[HOP.o,AQ hc]
  clear hc HT1 HOP HR1;generalize DX D U ks tk now=c at *;go_wp2_with fail;refine(VN c w1 HE1.o).mono ?_;rintro e w2 ⟨rfl,hb2⟩;have HF:=Cd (((HB1.o.below hb2).same c).from (w:=w) ((HW1.o.trans (hb2.mono HW1.o.size)).mono HH.o));clear hb2 HB1 HE1;go_wp2
  go_ret
  rw[HF0.o];exact HF.o
theorem VP {H B g:Nat} {w:aC} {d u:List Int} {v:aB} {D U:List Int} {k:Int} {T:List Int} {n:Nat} (h:Ku H B g w d u v D U k T n) (bp op cp:Nat) (ks:List Int) (ta:Option Addr) (tn tc:Nat) (tk:List Int) (kind now N:Int) (hk:ks.length=32) (hp:Fq w bp op ks) (zk:Ci ks) (ht:tk.length=tn) (mt:tn<=1048576) (hct:tn<=tc) (hat:At Z9 w ta tk) (zt:Ci tk) (hT:D4 w) (hV:1<w.heap.size) (hE:El w) :
  Calls tP 31 #[aF (aE ⟨g,0,aA⟩),Z7 (aE ⟨bp,op,aA⟩) 32 cp,aH #[Z8 aI kind,Z7 ta tn tc,Z8 aI now,Z8 aI N]] w (OL H B g w (FH D U k T n ks kind tk now N)):=by
 have HR0:AO ((w.alloc (aJ #[Z8 aI kind,Z7 ta tn tc,Z8 aI now,Z8 aI N] 39)).heap[w.heap.size]?=aE (aJ #[Z8 aI kind,Z7 ta tn tc,Z8 aI now,Z8 aI N] 39 (0,0))):=AX w _;have HWW:AO (Below w.heap.size w (w.alloc (aJ #[Z8 aI kind,Z7 ta tn tc,Z8 aI now,Z8 aI N] 39))):=Cg.alloc Cl _;have HW:AO (Below H w (w.alloc (aJ #[Z8 aI kind,Z7 ta tn tc,Z8 aI now,Z8 aI N] 39))):=HWW.o.mono h.low;have HB:=Cd (h.below HWW.o);have HAT:AO (∀ kk,Calls tP 49 #[aF (aE ⟨g,0,aA⟩),Z7 (aE ⟨bp,op,aA⟩) 32 cp,aH #[Z8 aI kk,Z7 ta tn tc,Z8 aI now,Z8 aI N]] (w.alloc (aJ #[Z8 aI kind,Z7 ta tn tc,Z8 aI now,Z8 aI N] 39)) (OL H B g (w.alloc (aJ #[Z8 aI kind,Z7 ta tn tc,Z8 aI now,Z8 aI N] 39)) (FH D U k T n ks 1 tk now N))):=λkk=>
  VO HB.o bp op cp ks ta tn tc tk kk now N hk (hp.below HWW.o) zk ht mt hct (hat.below HWW.o) zt (FW hT hV HWW.o) (As hV HWW.o.size) (hE.below HWW.o)
 have HOZ:AO ((tP.info? 39).map (·.size)=aE 4):=by show _=_;kernel_rfl
 have HO5:AO (FH D U k T n ks 5 tk now N=⟨9,D,U,k,T,n⟩):=by show _=_;unfold FH;rw[AQ AK,AQ AK,AQ AK,AQ AK,AP rfl]
 have HO6:AO (¬ kind=1->¬ kind=2->¬ kind=3->¬ kind=4->¬ kind=5->FH D U k T n ks kind tk now N=⟨10,D,U,k,T,n⟩):=by
  intro a b c d e;unfold FH;rw[AQ a,AQ b,AQ c,AQ d,AQ e]
 clear h hk hp zk ht hat zt hT hV hE mt hct HWW;go_enter func31,ntmps31
 go_upto_region 1 with fail
 generalize w.alloc (aJ #[Z8 aI kind,Z7 ta tn tc,Z8 aI now,Z8 aI N] 39)=w0 at *;have o0:w0.cell? ⟨w.heap.size,0,aA⟩=aE (Z8 aI kind):=by rw[AA HR0.o 0];rfl
 have o3:w0.cell? ⟨w.heap.size,3,aA⟩=aE (Z8 aI N):=by rw[AA HR0.o 3];rfl
 by_cases k1:kind=1
 ·subst k1;have HC:=Cd (HAT.o 1);clear HB HAT o3;go_wp2_with (first
   |(refine Ae rfl 39 (aM 5) rfl w.heap.size rfl 39 _ (0,0) _ HR0.o underlying39 rfl HOZ.o ?_)
   |fail)
  refine HC.o.mono ?_;intro e w2 h2;have HF:=Cd (h2.from HW.o);obtain⟨rfl,-⟩:=h2;clear HC o0;go_wp2
  go_ret
  exact HF.o
 by_cases k2:kind=2
 ·subst k2;clear k1;have HC:=Cd (VE (ks:=ks) (tk:=tk) (now:=now) (N:=N) HB.o);clear HB HAT;go_wp2_with fail;refine HC.o.mono ?_;intro e w2 h2;have HF:=Cd (h2.from HW.o);obtain⟨rfl,-⟩:=h2;clear HC o0 o3;go_wp2
  go_ret
  exact HF.o
 by_cases k3:kind=3
 ·subst k3;clear k1 k2;have HC:=Cd (VF (ks:=ks) (tk:=tk) (now:=now) (N:=N) HB.o);clear HB HAT;go_wp2_with fail;refine HC.o.mono ?_;intro e w2 h2;have HF:=Cd (h2.from HW.o);obtain⟨rfl,-⟩:=h2;clear HC o0 o3;go_wp2
  go_ret
  exact HF.o
 by_cases k4:kind=4
 ·subst k4;clear k1 k2 k3;have HC:=Cd (VG (ks:=ks) (tk:=tk) (now:=now) (N:=N) HB.o);clear HB HAT;go_wp2_with fail;refine HC.o.mono ?_;intro e w2 h2;have HF:=Cd (h2.from HW.o);obtain⟨rfl,-⟩:=h2;clear HC o0 o3;go_wp2
  go_ret
  exact HF.o
 by_cases k5:kind=5
 ·subst k5;have HF:=Cd ((HB.o.same 9).from HW.o);clear HB HAT k1 k2 k3 k4;go_wp2
  go_ret
  rw[HO5.o];exact HF.o
 ·have HO7:=Cd (HO6.o k1 k2 k3 k4 k5);have HF:=Cd ((HB.o.same 10).from HW.o);clear HB HAT;go_wp2
  go_ret
  rw[HO7.o];exact HF.o
def IC (lo:Nat) (w:aC) (v:aB) (r:I9):Prop:=
 ∃ aD nD cD aU nU cU aT nT cT,v=aH #[Z8 aI r.c,Z7 aD nD cD,Z7 aU nU cU,Z8 aI r.k,Z7 aT nT cT]/\S3 lo w aD aU aT nD nU nT r.D r.U r.T
theorem PX {D U:List Int} {k:Int} {T:List Int} {n:Nat} {ks tk:List Int} {kind now N:Int} (hD:Dk D) (hU:Dk U):Dk (FH D U k T n ks kind tk now N).D/\Dk (FH D U k T n ks kind tk now N).U:=by
 unfold FH
 repeat' split
 all_goals first
  |exact⟨hD,hU⟩
  |exact⟨hD,Kr _ _⟩
  |exact⟨Kr _ _,hU⟩
  |exact⟨Lz hD _,hU⟩
theorem VQ (aD aU aT:Option Addr) (nD cD nU cU nT cT:Nat) (D U:List Int) (k:Int) (T:List Int) (ka:Option Addr) (nk ck:Nat) (ks:List Int) (ta:Option Addr) (tn tc:Nat) (tk:List Int) (kind now N:Int) (w:aC) (hD:D.length=nD) (hU:U.length=nU) (hT:T.length=nT*2) (mD:nD<=1048576) (mU:nU<=1048576) (mT:nT<=1048576)
  (haD:At aI w aD D) (haU:At aI w aU U) (haT:At aI w aT T) (hnil:aT=aA->nT=0/\cT=0) (hk0:-9223372036854775808<=k) (hk1:k<9223372036854775808) (hk:ks.length=nk) (mk:nk<=1048576) (hp:At Z9 w ka ks) (zk:Ci ks) (ht:tk.length=tn) (mt:tn<=1048576) (hct:tn<=tc) (hat:At Z9 w ta tk) (zt:Ci tk) (hTb:D4 w) (hV:1<w.heap.size) (hE:El w) :
  Calls tP 10 #[aH #[Z7 aD nD cD,Z7 aU nU cU,Z8 aI k,Z7 aT nT cT],Z7 ka nk ck,aH #[Z8 aI kind,Z7 ta tn tc,Z8 aI now,Z8 aI N]] w λe w'=>∃ v,e=aK v/\IC w.heap.size w' v (JP D U k T nT ks kind tk now N)/\Below w.heap.size w w':=by
 have HX0:AO (JR w #[Z7 aD nD cD,Z7 aU nU cU,Z8 aI k,Z7 aT nT cT] #[Z8 aI kind,Z7 ta tn tc,Z8 aI now,Z8 aI N] (((w.alloc (aJ #[Z7 aD nD cD,Z7 aU nU cU,Z8 aI k,Z7 aT nT cT] 33)).alloc (aJ #[Z8 aI kind,Z7 ta tn tc,Z8 aI now,Z8 aI N] 39)).alloc (aJ CX 35))):=JR.start _ _ _;have HZ0:AO ((((w.alloc (aJ #[Z7 aD nD cD,Z7 aU nU cU,Z8 aI k,Z7 aT nT cT] 33)).alloc (aJ #[Z8 aI kind,Z7 ta tn tc,Z8 aI now,Z8 aI N] 39)).alloc (aJ CX 35)).heap.size=w.heap.size+3):=by show _=_;simp
 have HC:=K8 aD aU aT nD cD nU cU nT cT D U k T _ hD hU hT mD mU mT (haD.below HX0.o.below) (haU.below HX0.o.below) (haT.below HX0.o.below) hnil hk0 hk1;have HLN:AO (D.length=nD/\U.length=nU/\T.length=nT*2):=⟨hD,hU,hT⟩
 have HA:AO (∀ wz,Below w.heap.size w wz->At aI wz aD D/\At aI wz aU U/\At aI wz aT T/\At Z9 wz ka ks/\At Z9 wz ta tk/\D4 wz/\El wz):=λwz h=>⟨haD.below h,haU.below h,haT.below h,hp.below h,hat.below h,FW hTb hV h,hE.below h⟩
 have HKL:AO (ks.length=nk/\Ci ks/\tk.length=tn/\Ci tk):=⟨hk,zk,ht,zt⟩
 have HV1:AO (1<w.heap.size):=hV;have HRZ:AO ((tP.info? 35).map (·.size)=aE 5):=by show _=_;kernel_rfl
 have HSZ:AO ((tP.info? 33).map (·.size)=aE 4):=by show _=_;kernel_rfl
 have HOZ:AO ((tP.info? 39).map (·.size)=aE 4):=by show _=_;kernel_rfl
 have HST:AO (FL D U k T nT=true->WI D U k T nT):=Lc;clear haD haU haT hD hU hT hk hp zk ht hat zt hnil hk0 hk1 hTb hV hE;go_enter func10,ntmps10
 go_upto_region 1 with fail
 generalize (((w.alloc (aJ #[Z7 aD nD cD,Z7 aU nU cU,Z8 aI k,Z7 aT nT cT] 33)).alloc (aJ #[Z8 aI kind,Z7 ta tn tc,Z8 aI now,Z8 aI N] 39)).alloc (aJ CX 35))=w0 at *;go_wp2_with (first
  |(refine Ae rfl 33 (aM 3) rfl w.heap.size rfl 33 _ (0,0) _ HX0.o.sb underlying33 rfl HSZ.o ?_)
  |fail)
 refine HC.mono ?_;rintro e w1 ⟨bk,rfl,hs,ho,hb,hbk⟩;have HX1:AO (JR w #[Z7 aD nD cD,Z7 aU nU cU,Z8 aI k,Z7 aT nT cT] #[Z8 aI kind,Z7 ta tn tc,Z8 aI now,Z8 aI N] w1):=HX0.o.call hb;have HB1:AO (w.heap.size+3<=w1.heap.size):=by show _<=_;have:=hb.size;rw[HZ0.o] at this;exact this
 have HN:AO ((w1.alloc (aJ Tryz.zeroCells67 67)).heap[w1.heap.size]?=aE (aJ Tryz.zeroCells67 67 (0,0))):=AX w1 _;have HBZ:AO ((tP.info? 67).map (·.size)=aE bk.size):=by show _=_;rw[hs];exact Tryz.sizeBook
 have HEQ:AO ((Tryz.zeroCells67).size=bk.size):=by show _=_;rw[hs];exact Fj
 have HOK:AO (bk.all (λx=>x.oneCell')=true):=ho;have HB2:AO (Below w1.heap.size w1 ((w1.alloc (aJ Tryz.zeroCells67 67)).setRow w1.heap.size bk)):=(Cg.alloc Cl _).trans ((Wr.setRow _ _ _).below Cl);have HR2:AO (((w1.alloc (aJ Tryz.zeroCells67 67)).setRow w1.heap.size bk).heap[w1.heap.size]?=aE (aJ bk 67 (0,0))):=AB HN.o;have HBK:AO (FL D U k T nT=true->∃ db ub v,bk=Fn db ub k v/\Dg db (λv=>(v:Int)∈D)/\Dg ub (λv=>(v:Int)∈U)/\C7 (w.heap.size+3) w1 v T nT):=by
  intro h;obtain⟨db,ub,v,h1,h2,h3,h4⟩:=hbk h;rw[HZ0.o] at h4;exact⟨db,ub,v,h1,h2,h3,h4⟩
 have HX2:AO (JR w #[Z7 aD nD cD,Z7 aU nU cU,Z8 aI k,Z7 aT nT cT] #[Z8 aI kind,Z7 ta tn tc,Z8 aI now,Z8 aI N] ((w1.alloc (aJ Tryz.zeroCells67 67)).setRow w1.heap.size bk)):=HX1.o.call HB2.o;clear hs ho hb HC HX0 HZ0 hbk HX1;obtain⟨q,hq⟩:∃ q,q=FL D U k T nT:=⟨_,rfl⟩
 rw[<-hq];have HQ:AO (FL D U k T nT=q):=hq.symm;clear hq
 go_upto_region 2 with (first
  |(refine AE 67 (aM 7) (aM 13) w1.heap.size bk 67 HN.o HBZ.o HEQ.o HOK.o ?_)
  |fail)
 clear HN HBZ HEQ HOK;generalize ((w1.alloc (aJ Tryz.zeroCells67 67)).setRow w1.heap.size bk)=w2 at *;by_cases hbad:¬ (FL D U k T nT=true/\nk=32)
 ·have HR:AO (JP D U k T nT ks kind tk now N=⟨10,D,U,k,T,nT⟩):=by
   show _=_
   unfold JP;rw[AQ (λh=>hbad ⟨h.1,HKL.o.1.symm.trans h.2⟩)]
  have hcs:q=false\/(q=true/\((nk:Int) != 32)=true):=by
   cases q with
   |false=>exact .inl rfl
   |true=>exact .inr ⟨rfl,by have h3:¬ nk=32:=λh=>hbad ⟨HQ.o,h⟩
                             simp;omega⟩
  clear hbad HST HBK HR2 HB2 HQ;rcases hcs with rfl|⟨rfl,h32⟩
  all_goals
   go_upto_region 3 with fail
   go_wp2_with (first
    |(refine Ae rfl 33 (aM 3) rfl w.heap.size rfl 33 _ (0,0) _ HX2.o.sb underlying33 rfl HSZ.o ?_)
    |fail)
   refine(TL aD aU aT nD cD nU cU nT cT D U k T w2 HLN.o.1 HLN.o.2.1 HLN.o.2.2 mD mU mT (HA.o w2 HX2.o.below).1 (HA.o w2 HX2.o.below).2.1 (HA.o w2 HX2.o.below).2.2.1).mono ?_;rintro e w9 ⟨cs,rfl,hcp,hb9⟩;have HX9:AO (JR w #[Z7 aD nD cD,Z7 aU nU cU,Z8 aI k,Z7 aT nT cT] #[Z8 aI kind,Z7 ta tn tc,Z8 aI now,Z8 aI N] w9):=HX2.o.call hb9;have HL9:AO (w.heap.size+2<w2.heap.size):=HX2.o.lt;obtain⟨bD,mD',dD,bU,mU',dU,bT,dT,rfl,hs3⟩:=hcp;have HRB:AO (w9.heap[w.heap.size+2]?=aE (aJ CX 35 (0,0))):=HX9.o.rb;have HF:AO (IC w.heap.size (w9.setRow (w.heap.size+2) #[Z8 aI 10,Z7 bD mD' dD,Z7 bU mU' dU,Z8 aI k,Z7 bT nT dT]) (aH #[Z8 aI 10,Z7 bD mD' dD,Z7 bU mU' dU,Z8 aI k,Z7 bT nT dT]) (JP D U k T nT ks kind tk now N)/\Below w.heap.size w (w9.setRow (w.heap.size+2) #[Z8 aI 10,Z7 bD mD' dD,Z7 bU mU' dU,Z8 aI k,Z7 bT nT dT])):=by
    have hw:Wr (w.heap.size+2) w9 (w9.setRow (w.heap.size+2) #[Z8 aI 10,Z7 bD mD' dD,Z7 bU mU' dU,Z8 aI k,Z7 bT nT dT]):=Wr.setRow _ _ _;refine⟨?_,HX9.o.below.trans (hw.below AJ)⟩;rw[HR.o];exact⟨_,_,_,_,_,_,_,_,_,rfl,(hs3.keep (by rw[hw.size];exact Ac _) (λj hj _=>hw.block j (AG HL9.o))).lo (AG HL9.o)⟩
   clear hb9 hs3 HL9 HX2;go_wp2_with (first
    |(refine AE 35 (aM 6) (aM 24) (w.heap.size+2) #[Z8 aI 10,Z7 bD mD' dD,Z7 bU mU' dU,Z8 aI k,Z7 bT nT dT] 35 HRB.o HRZ.o rfl (by simp[Value.oneCell']) ?_)
    |fail)
   exact Ab (v:=aH #[Z8 aI 10,Z7 bD mD' dD,Z7 bU mU' dU,Z8 aI k,Z7 bT nT dT]) (Ah rfl _ _ (w.heap.size+2) 35 _ (0,0) _ rfl (AB HRB.o) underlying35 rfl HRZ.o) rfl ⟨_,rfl,HF.o.1,HF.o.2⟩
 obtain⟨hst0,h32⟩:=Decidable.not_not.1 hbad;have hst:=HST.o hst0;have hqt:q=true:=HQ.o.symm.trans hst0;subst hqt;have HSO:AO (JP D U k T nT ks kind tk now N=FH D U k T nT ks kind tk now N):=by show _=_;unfold JP;rw[AP ⟨hst0,HKL.o.1.trans h32⟩]
 have HSER:=Cd (PX (k:=k) (T:=T) (n:=nT) (ks:=ks) (tk:=tk) (kind:=kind) (now:=now) (N:=N) hst.1 hst.2.2.1);obtain⟨db,ub,v9,rfl,hsd,hsu,hto⟩:=HBK.o hst0;have hbk:Bk w2 w1.heap.size db ub k v9:=⟨HR2.o,hsd.1,hsu.1,hsd.2.1,hsu.2.1⟩
 have hne:NF w1.heap.size v9:=λt ht e=>by
  rcases hto.2 with⟨h',_⟩|⟨g,c,cur,h',hb,hh,_⟩
  ·rw[h'] at ht;simp[Value.ownBlock] at ht
  ·rw[h'] at ht;simp[Value.ownBlock] at ht;have:=(AR.1 hh).1;omega
 have hto2:C7 (w.heap.size+3) w2 v9 T nT:=by
  refine⟨hto.1,?_⟩;rcases hto.2 with h'|⟨g,c,cur,h1,h2,h3,h4⟩
  ·exact .inl h'
  ·exact .inr ⟨g,c,cur,h1,h2,by rw[HB2.o.block g (AR.1 h3).1];exact h3,h4⟩
 have hkn:k+nT=(nU:Int):=by have:=hst.2.2.2.2.1;rw[HLN.o.2.1] at this;exact this
 have HBV:AO (Ku (w.heap.size+3) (w.heap.size+3) w1.heap.size w2 db ub v9 D U k T nT):=⟨hbk,hsd,hsu,hto2.tapV,hst.1,hst.2.2.2.1,AJ,mT,HB1.o,Ac _,hne,AH HB2.o.size HB1.o⟩
 subst h32;obtain⟨bp,op,rfl,-,-⟩:=(HA.o w2 HX2.o.below).2.2.2.1.get (by rw[HKL.o.1];decide);have HPT:AO (Fq w2 bp op ks):=by
  obtain⟨b',o',e',hl',hc'⟩:=(HA.o w2 HX2.o.below).2.2.2.1.get (by rw[HKL.o.1];decide);cases e';exact⟨hl',hc'⟩
 have HSP:=Cd (VP HBV.o bp op ck ks ta tn tc tk kind now N HKL.o.1 HPT.o HKL.o.2.1 HKL.o.2.2.1 mt hct (HA.o w2 HX2.o.below).2.2.2.2.1 HKL.o.2.2.2 (HA.o w2 HX2.o.below).2.2.2.2.2.1 (As HV1.o HX2.o.below.size) (HA.o w2 HX2.o.below).2.2.2.2.2.2);clear hsd hsu hto hst hbk hto2 hkn hne HR2 HB2 HBV HBK HST hst0 HQ hbad HPT HA
 go_upto_region 4 with fail
 generalize FH D U k T nT ks kind tk now N=r at *;go_wp2_with (first
  |(refine Ae rfl 39 (aM 5) rfl (w.heap.size+1) rfl 39 _ (0,0) _ HX2.o.ob underlying39 rfl HOZ.o ?_)
  |fail)
 refine HSP.o.mono ?_;rintro e w3 ⟨rfl,hb3,d',u',v',r1,r2,r3,r4,r5⟩;have HX3:AO (JR w #[Z7 aD nD cD,Z7 aU nU cU,Z8 aI k,Z7 aT nT cT] #[Z8 aI kind,Z7 ta tn tc,Z8 aI now,Z8 aI N] w3):=HX2.o.keep hb3 Cl;have HRB:AO (w3.heap[w.heap.size+2]?=aE (aJ CX 35 (0,0))):=HX3.o.rb;obtain⟨aT',cT',rfl⟩:=r4.slice;have HS:=QX aT' r.n cT' (λv=>decide ((v:Int)∈r.D)) (λv=>decide ((v:Int)∈r.U)) r1 (r2.congr (λv _=>AL)) (r3.congr (λv _=>AL));rw[HSER.o.1.eq_upTo _ (λv _=>AL),HSER.o.2.eq_upTo _ (λv _=>AL)] at HS;have HTV:AO (Du (w.heap.size+3) w3 (Z7 aT' r.n cT') r.T r.n):=r4;clear r1 r2 r3 r4 r5 HSER hb3 HSP HX2;go_wp2_with fail;refine HS.mono ?_;rintro e w4 ⟨bD,mD',dD,bU,mU',dU,rfl,g1,g2,g3,hb4⟩;have HRB4:AO (w4.heap[w.heap.size+2]?=aE (aJ CX 35 (0,0))):=by show _=_;rw[hb4.block _ (AR.1 HRB.o).1];exact HRB.o
 have hw5:Wr (w.heap.size+2) w4 (w4.setRow (w.heap.size+2) #[Z8 aI r.c,Z7 bD mD' dD,Z7 bU mU' dU,Z8 aI r.k,Z7 aT' r.n cT']):=Wr.setRow _ _ _;have HF:AO (IC w.heap.size (w4.setRow (w.heap.size+2) #[Z8 aI r.c,Z7 bD mD' dD,Z7 bU mU' dU,Z8 aI r.k,Z7 aT' r.n cT']) (aH #[Z8 aI r.c,Z7 bD mD' dD,Z7 bU mU' dU,Z8 aI r.k,Z7 aT' r.n cT']) (JP D U k T nT ks kind tk now N)/\Below w.heap.size w (w4.setRow (w.heap.size+2) #[Z8 aI r.c,Z7 bD mD' dD,Z7 bU mU' dU,Z8 aI r.k,Z7 aT' r.n cT'])):=by
  have hlt:=(AR.1 HRB.o).1;obtain⟨s1,s2,s3⟩:=g1.sat;obtain⟨t1,t2,t3⟩:=g2.sat;obtain⟨q1,q2,q3⟩:=HTV.o.sat;have q4:NG w4 aT' r.T:=q1.below hb4;have q5:EY (w.heap.size+3) w4 aT':=q3.mono Cl hb4.size;refine⟨?_,(HX3.o.below.trans (hb4.mono HX3.o.below.size)).trans (hw5.below AJ)⟩;rw[HSO.o];refine⟨bD,mD',dD,bU,mU',dU,aT',r.n,cT',rfl,?_⟩;have z:(w4.setRow (w.heap.size+2) #[Z8 aI r.c,Z7 bD mD' dD,Z7 bU mU' dU,Z8 aI r.k,Z7 aT' r.n cT']).heap.size=w4.heap.size:=hw5.size;refine⟨s1.keep (by rw[z];exact Ac _) (λad e _=>hw5.block _ (AG (s3 ad e).1)),t1.keep (by rw[z];exact Ac _) (λad e _=>hw5.block _ (AG (t3 ad e).1)),q4.keep (by rw[z];exact Ac _) (λad e _=>hw5.block _ (AG (q5 ad e).1)),s2,t2,q2,?_,?_,?_,?_,?_,?_⟩
  ·exact s3.mono AJ (by rw[z];exact Ac _)
  ·exact t3.mono AJ (by rw[z];exact Ac _)
  ·exact q5.mono AJ (by rw[z];exact Ac _)
  ·exact λx y hx hy e=>g3 x.block (by rw[hx];rfl) (by rw[hy,e];rfl)
  ·exact λx y hx hy e=>AH (s3 x hx).1 (q3 y hy).2
  ·exact λx y hx hy e=>AH (t3 x hx).1 (q3 y hy).2
 clear g1 g2 g3 hb4 hw5 HS HTV;go_wp2_with (first
  |(refine AE 35 (aM 6) (aM 30) (w.heap.size+2) #[Z8 aI r.c,Z7 bD mD' dD,Z7 bU mU' dU,Z8 aI r.k,Z7 aT' r.n cT'] 35 HRB4.o HRZ.o rfl (by simp[Value.oneCell']) ?_)
  |fail)
 exact Ab (v:=aH #[Z8 aI r.c,Z7 bD mD' dD,Z7 bU mU' dU,Z8 aI r.k,Z7 aT' r.n cT']) (Ah rfl _ _ (w.heap.size+2) 35 _ (0,0) _ rfl (AB HRB4.o) underlying35 rfl HRZ.o) rfl ⟨_,rfl,HF.o.1,HF.o.2⟩
theorem Dk.lenS {xs:List Int} (h:Dk xs):xs.length<=256:=by
 have e:=h.eq_upTo (λv=>decide ((v:Int)∈xs)) (λv _=>AL);rw[<-e];exact JW _ _
theorem Yg {D U:List Int} {k:Int} {T:List Int} {n:Nat} {ks tk:List Int} {kind now N:Int}:(FH D U k T n ks kind tk now N).T.length<=T.length+2:=by
 unfold FH
 repeat' split
 all_goals simp
 omega
theorem VR {D U:List Int} {k:Int} {T:List Int} {n:Nat} {ks tk:List Int} {kind now N:Int} (hD:D.length<=1048576) (hU:U.length<=1048576) (hT:T.length=n*2) (hn:n<=1048576):(JP D U k T n ks kind tk now N).D.length<=1048576/\(JP D U k T n ks kind tk now N).U.length<=1048576/\(JP D U k T n ks kind tk now N).T.length<=2097152:=by
 unfold JP;split
 ·rename_i h
  have hs:=Lc h.1;have h1:=PX (k:=k) (T:=T) (n:=n) (ks:=ks) (tk:=tk) (kind:=kind) (now:=now) (N:=N) hs.1 hs.2.2.1;have h2:=hs.2.2.1.lenS;have h3:=hs.2.2.2.2.1;have h4:=hs.2.2.2.1;have h5:=h1.1.lenS;have h6:=h1.2.lenS;have h7:=Yg (D:=D) (U:=U) (k:=k) (T:=T) (n:=n) (ks:=ks) (tk:=tk) (kind:=kind) (now:=now) (N:=N);exact⟨AJ,AJ,AJ⟩
 ·exact⟨hD,hU,by show T.length<=_;omega⟩
section
variable (cc:Int) (aD aU aT:Option Addr) (nD cD nU cU nT cT:Nat) (k0 k:Int) (w:aC)
theorem TW (lo:Nat) (hlo:lo<=w.heap.size)
  (oD:FK w aD nD) (oU:FK w aU nU) (oT:FK w aT (nT*2)) (lD:EY lo w aD) (lU:EY lo w aU) (lT:EY lo w aT) (dU:Gq aD aU) (dT:Gq aD aT) (uT:Gq aU aT) (hk:0<=k) (hk':k+nD+nU+nT*2<=1099511627776) :
  Calls tP 18 #[aH #[Z8 aI cc,Z7 aD nD cD,Z7 aU nU cU,Z8 aI k0,Z7 aT nT cT],Z8 aI k] w λe w'=>e=aK (Z8 aI (k+nD+nU+nT*2))/\At aI w' aD (GU k nD)/\At aI w' aU (GU (k+nD) nU)/\At aI w' aT (GU (k+nD+nU) (nT*2))/\Below lo w w'/\∀ j,j<w.heap.size->E8 j aD->E8 j aU->E8 j aT->w'.heap[j]?=w.heap[j]?:=by
 have b1:Below w.heap.size w (w.alloc (aJ #[Z8 aI cc,Z7 aD nD cD,Z7 aU nU cU,Z8 aI k0,Z7 aT nT cT] 35)):=Cg.alloc Cl _;have HC:=Kq aD aU aT nD cD nU cU nT cT k0 k _ lo (BG hlo b1.size) (oD.below b1) (oU.below b1) (oT.below b1) (lD.mono Cl b1.size) (lU.mono Cl b1.size) (lT.mono Cl b1.size) dU dT uT hk hk';have HB1:AO (Below w.heap.size w (w.alloc (aJ #[Z8 aI cc,Z7 aD nD cD,Z7 aU nU cU,Z8 aI k0,Z7 aT nT cT] 35))):=b1;clear oD oU oT lD lU lT dU dT uT b1;go_enter func18,ntmps18;go_wp2_with fail;refine HC.mono ?_;rintro e w2 ⟨rfl,h1,h2,h3,hb,hn⟩;have HF:AO (At aI w2 aD (GU k nD)/\At aI w2 aU (GU (k+nD) nU)/\At aI w2 aT (GU (k+nD+nU) (nT*2))/\Below lo w w2/\∀ j,j<w.heap.size->E8 j aD->E8 j aU->E8 j aT->w2.heap[j]?=w.heap[j]?):=
  ⟨h1,h2,h3,(HB1.o.mono hlo).trans hb,λj hj q1 q2 q3=>(hn j (As hj HB1.o.size) q1 q2 q3).trans (HB1.o.block j hj)⟩
 clear h1 h2 h3 hb hn HC HB1;go_wp2
 go_ret
 exact⟨rfl,HF.o⟩
theorem TY (hD:At aI w aD (GU k nD)) (hU:At aI w aU (GU (k+nD) nU)) (hT:At aI w aT (GU (k+nD+nU) (nT*2))) (hk:0<=k) (hk':k+nD+nU+nT*2<=1099511627776) :
  Calls tP 19 #[aH #[Z8 aI cc,Z7 aD nD cD,Z7 aU nU cU,Z8 aI k0,Z7 aT nT cT],Z8 aI k] w λe w'=>e=aK (Z8 aI (k+nD+nU+nT*2))/\Below w.heap.size w w':=by
 have b1:Below w.heap.size w (w.alloc (aJ #[Z8 aI cc,Z7 aD nD cD,Z7 aU nU cU,Z8 aI k0,Z7 aT nT cT] 35)):=Cg.alloc Cl _;have HC:=Qa aD aU aT nD cD nU cU nT cT k0 k _ (hD.below b1) (hU.below b1) (hT.below b1) hk hk';have HB1:AO (Below w.heap.size w (w.alloc (aJ #[Z8 aI cc,Z7 aD nD cD,Z7 aU nU cU,Z8 aI k0,Z7 aT nT cT] 35))):=b1;have g3:¬ (k+(nD:Int)+nU+nT*2<0):=AJ
 clear hD hU hT b1;go_enter func19,ntmps19;go_wp2_with fail;refine HC.mono ?_;rintro e w2 ⟨rfl,hb⟩;have HF:AO (Below w.heap.size w w2):=HB1.o.trans (hb.mono HB1.o.size);clear hb HC HB1;go_wp2
 go_ret
 exact⟨rfl,HF.o⟩
end
theorem TZ (cc:Int) (aD bD aU bU aT bT:Option Addr) (nD cD dD nU cU dU nT cT dT:Nat) (D U T:List Int) (k:Int) (w:aC) (hD:D.length=nD) (hU:U.length=nU) (hT:T.length=nT*2) (mD:nD<=1048576) (mU:nU<=1048576) (mT:nT<=1048576)
  (AD:At aI w aD D) (BD:At aI w bD D) (AU:At aI w aU U) (BU:At aI w bU U) (AT:At aI w aT T) (BT:At aI w bT T) :
  Calls tP 11 #[aH #[Z8 aI cc,Z7 aD nD cD,Z7 aU nU cU,Z8 aI k,Z7 aT nT cT],aH #[Z8 aI cc,Z7 bD nD dD,Z7 bU nU dU,Z8 aI k,Z7 bT nT dT]] w λe w'=>e=aK (aG true)/\Below w.heap.size w w':=by
 have b1:Below w.heap.size w ((w.alloc (aJ #[Z8 aI cc,Z7 aD nD cD,Z7 aU nU cU,Z8 aI k,Z7 aT nT cT] 35)).alloc (aJ #[Z8 aI cc,Z7 bD nD dD,Z7 bU nU dU,Z8 aI k,Z7 bT nT dT] 35)):=(Cg.alloc Cl _).alloc AL _;have HC:=Mx aD bD aU bU aT bT nD cD dD nU cU dU nT cT dT D U T k _ hD hU hT mD mU mT (AD.below b1) (BD.below b1) (AU.below b1) (BU.below b1) (AT.below b1) (BT.below b1);have HB1:AO (Below w.heap.size w ((w.alloc (aJ #[Z8 aI cc,Z7 aD nD cD,Z7 aU nU cU,Z8 aI k,Z7 aT nT cT] 35)).alloc (aJ #[Z8 aI cc,Z7 bD nD dD,Z7 bU nU dU,Z8 aI k,Z7 bT nT dT] 35))):=b1;have ne:(cc != cc)=false:=AL
 clear AD BD AU BU AT BT b1 hD hU hT;go_enter func11,ntmps11;go_wp2_with fail;refine HC.mono ?_;rintro e w2 ⟨rfl,hb⟩;have HF:AO (Below w.heap.size w w2):=HB1.o.trans (hb.mono HB1.o.size);clear hb HC HB1;go_wp2
 go_ret
 exact⟨rfl,HF.o⟩
def XT (lo:Nat) (w:aC) (v:aB):Prop:=∃ g,v=aF (aE ⟨g,0,aA⟩)/\lo<=g/\w.heap[g]?=aE (aJ CX 35 (0,0))
theorem XT.below {lo:Nat} {w w':aC} {v:aB} (h:XT lo w v) (b:Below w.heap.size w w'):XT lo w' v:=by
 obtain⟨g,e,h1,h2⟩:=h;exact⟨g,e,h1,by rw[b.block g (AR.1 h2).1];exact h2⟩
theorem NC {cc:Int} {k:Int} {aD aU aT:Option Addr} {nD cD nU cU nT cT j:Nat} (h:Value.has (aH #[Z8 aI cc,Z7 aD nD cD,Z7 aU nU cU,Z8 aI k,Z7 aT nT cT]) j):(∃ ad,aD=aE ad/\ad.block=j)\/(∃ ad,aU=aE ad/\ad.block=j)\/∃ ad,aT=aE ad/\ad.block=j:=by
 rw[O8] at h;obtain⟨c,hc,a,ha,hj⟩:=h;simp at hc;rcases hc with rfl|rfl|rfl|rfl|rfl
 ·cases ha
 ·exact .inl ⟨a,ha,hj⟩
 ·exact .inr (.inl ⟨a,ha,hj⟩)
 ·cases ha
 ·exact .inr (.inr ⟨a,ha,hj⟩)
theorem GN {cc:Int} {k:Int} {aD aU aT:Option Addr} {nD cD nU cU nT cT:Nat} {ad:Addr} (h:aD=aE ad\/aU=aE ad\/aT=aE ad):Value.has (aH #[Z8 aI cc,Z7 aD nD cD,Z7 aU nU cU,Z8 aI k,Z7 aT nT cT]) ad.block:=by
 rw[O8];rcases h with h|h|h
 ·exact⟨Z7 aD nD cD,AL,ad,h,rfl⟩
 ·exact⟨Z7 aU nU cU,AL,ad,h,rfl⟩
 ·exact⟨Z7 aT nT cT,AL,ad,h,rfl⟩
theorem IE.cells {lo:Nat} {w:aC} {v:aB} {r:I9} (h:IE lo w v r):∃ cs,v=aH cs/\cs.size=5/\cs.all (λx=>x.oneCell')=true:=by
 obtain⟨aD,nD,cD,aU,nU,cU,aT,nT,cT,e,_⟩:=h;exact⟨_,e,rfl,by simp[Value.oneCell']⟩
theorem IC.cells {lo:Nat} {w:aC} {v:aB} {r:I9} (h:IC lo w v r):∃ cs,v=aH cs/\cs.size=5/\cs.all (λx=>x.oneCell')=true:=by
 obtain⟨aD,nD,cD,aU,nU,cU,aT,nT,cT,e,_⟩:=h;exact⟨_,e,rfl,by simp[Value.oneCell']⟩
theorem IE.fresh {w w':aC} {v:aB} {r:I9} (h:IE w.heap.size w' v r):Hw w w' v:=by
 obtain⟨aD,nD,cD,aU,nU,cU,aT,nT,cT,e,_,_,_,_,_,_,l1,l2,l3,_⟩:=h;intro j hj;rw[e] at hj;rcases NC hj with⟨ad,h,rfl⟩|⟨ad,h,rfl⟩|⟨ad,h,rfl⟩
 ·exact l1 ad h
 ·exact l2 ad h
 ·exact l3 ad h
theorem IC.fresh {w w':aC} {v:aB} {r:I9} (h:IC w.heap.size w' v r):Hw w w' v:=by
 obtain⟨aD,nD,cD,aU,nU,cU,aT,nT,cT,e,s⟩:=h;intro j hj;rw[e] at hj;rcases NC hj with⟨ad,h,rfl⟩|⟨ad,h,rfl⟩|⟨ad,h,rfl⟩
 ·exact s.ld ad h
 ·exact s.lu ad h
 ·exact s.lt ad h
theorem IE.keep {lo:Nat} {w w':aC} {v:aB} {r:I9} (h:IE lo w v r) (hs:w.heap.size<=w'.heap.size) (hb:∀ j,Value.has v j->j<w.heap.size->w'.heap[j]?=w.heap[j]?):IE lo w' v r:=by
 obtain⟨aD,nD,cD,aU,nU,cU,aT,nT,cT,e,h1,h2,h3,h4,h5,h6,l1,l2,l3,l4,l5⟩:=h;subst e;exact⟨aD,nD,cD,aU,nU,cU,aT,nT,cT,rfl,h1.keepT hs (λad e hl=>hb _ (GN (.inl e)) hl),h2.keepT hs (λad e hl=>hb _ (GN (.inr (.inl e))) hl),h3.keepT hs (λad e hl=>hb _ (GN (.inr (.inr e))) hl),h4,h5,h6,l1.mono Cl hs,l2.mono Cl hs,l3.mono Cl hs,l4,l5⟩
theorem IC.keep {lo:Nat} {w w':aC} {v:aB} {r:I9} (h:IC lo w v r) (hs:w.heap.size<=w'.heap.size) (hb:∀ j,Value.has v j->j<w.heap.size->w'.heap[j]?=w.heap[j]?):IC lo w' v r:=by
 obtain⟨aD,nD,cD,aU,nU,cU,aT,nT,cT,e,s⟩:=h;subst e;exact⟨aD,nD,cD,aU,nU,cU,aT,nT,cT,rfl,s.d.keep hs (λad e hl=>hb _ (GN (.inl e)) hl),s.u.keep hs (λad e hl=>hb _ (GN (.inr (.inl e))) hl),s.t.keep hs (λad e hl=>hb _ (GN (.inr (.inr e))) hl),s.nd,s.nu,s.nt,s.ld.mono Cl hs,s.lu.mono Cl hs,s.lt.mono Cl hs,s.du,s.dt,s.ut⟩
theorem IE.wrG {lo G:Nat} {w w':aC} {v:aB} {r:I9} (h:IE lo w v r) (hw:Wr G w w') (hn:∀ j,Value.has v j->j≠G):IE lo w' v r:=h.keep (by rw[hw.size];exact Ac _) (λj hj _=>hw.block j (hn j hj))
theorem IC.wrG {lo G:Nat} {w w':aC} {v:aB} {r:I9} (h:IC lo w v r) (hw:Wr G w w') (hn:∀ j,Value.has v j->j≠G):IC lo w' v r:=h.keep (by rw[hw.size];exact Ac _) (λj hj _=>hw.block j (hn j hj))
theorem IC.below {lo:Nat} {w w':aC} {v:aB} {r:I9} (h:IC lo w v r) (b:Below w.heap.size w w'):IC lo w' v r:=h.keep b.size (λj _ hj=>b.block j hj)
theorem IC.mono {lo lo':Nat} {w:aC} {v:aB} {r:I9} (h:IC lo w v r) (hl:lo'<=lo):IC lo' w v r:=by
 obtain⟨aD,nD,cD,aU,nU,cU,aT,nT,cT,e,s⟩:=h;exact⟨aD,nD,cD,aU,nU,cU,aT,nT,cT,e,s.d,s.u,s.t,s.nd,s.nu,s.nt,s.ld.mono hl Cl,s.lu.mono hl Cl,s.lt.mono hl Cl,s.du,s.dt,s.ut⟩
theorem IE.below {lo:Nat} {w w':aC} {v:aB} {r:I9} (h:IE lo w v r) (b:Below w.heap.size w w'):IE lo w' v r:=h.keep b.size (λj _ hj=>b.block j hj)
def Yh (PV:Nat->aC->aB->I9->Prop) (p:Nat) (W:aC) (r:I9) (u:Nat->aB) (w:aC):Prop:=
 ∃ G cs,u p=aF (aE ⟨G,0,aA⟩)/\W.heap.size<=G/\w.heap[G]?=aE (aJ cs 35 (0,0))/\PV W.heap.size w (aH cs) r/\(∀ j,Value.has (aH cs) j->j≠G)/\Below W.heap.size W w
theorem IC.lo {lo:Nat} {w:aC} {v:aB} {r:I9} (h:IC lo w v r) {j:Nat} (hj:Value.has v j):lo<=j:=by
 obtain⟨aD,nD,cD,aU,nU,cU,aT,nT,cT,e,s⟩:=h;rw[e] at hj;rcases NC hj with⟨ad,h,rfl⟩|⟨ad,h,rfl⟩|⟨ad,h,rfl⟩
 ·exact(s.ld ad h).1
 ·exact(s.lu ad h).1
 ·exact(s.lt ad h).1
structure SA where
 D:List Int
 U:List Int
 T:List Int
 nD:Nat
 nU:Nat
 nT:Nat
 k:Int
 ks:List Int
 nk:Nat
 tk:List Int
 tn:Nat
 kind:Int
 now:Int
 N:Int
noncomputable def SA.R (a:SA):I9:=JP a.D a.U a.k a.T a.nT a.ks a.kind a.tk a.now a.N
structure SA.Ok (a:SA):Prop where
 hD:a.D.length=a.nD
 hU:a.U.length=a.nU
 hT:a.T.length=a.nT*2
 hk:a.ks.length=a.nk
 ht:a.tk.length=a.tn
 bD:a.nD<=1048576
 bU:a.nU<=1048576
 bT:a.nT<=1048576
 bk:a.nk<=1048576
 bt:a.tn<=1048576
 k0:-9223372036854775808<=a.k
 k1:a.k<9223372036854775808
 zk:Ci a.ks
 zt:Ci a.tk
structure Lh (lo hi:Nat) (w w':aC):Prop where
 os:w'.os=w.os
 tape:w'.tape=w.tape
 output:w'.output=w.output
 size:w.heap.size<=w'.heap.size
 block:∀ j,j<w.heap.size->(j<lo\/hi<=j)->w'.heap[j]?=w.heap[j]?
theorem Lh.below {lo hi B:Nat} {w w':aC} (h:Lh lo hi w w') (hB:B<=lo) (hw:B<=w.heap.size):Below B w w':=⟨h.os,h.tape,h.output,h.size,λj hj=>h.block j AJ (.inl AJ)⟩
theorem Lh.of {lo hi:Nat} {w w':aC} (b:Below w.heap.size w w'):Lh lo hi w w':=⟨b.os,b.tape,b.output,b.size,λj hj _=>b.block j hj⟩
theorem Lh.mono {lo hi lo' hi':Nat} {w w':aC} (h:Lh lo hi w w') (h1:lo'<=lo) (h2:hi<=hi'):Lh lo' hi' w w':=⟨h.os,h.tape,h.output,h.size,λj hj hn=>h.block j hj AJ⟩
theorem DZ.mid {w w':aC} {g lo hi:Nat} {t:TypeId} {cs:Array aB} (h:DZ w g t cs) (hm:Lh lo hi w w') (hg:g<lo\/hi<=g):DZ w' g t cs:=by unfold DZ;rw[hm.block g h.lt hg];exact h
def TS (a:SA) (lo hi:Nat) (w:aC) (v:aB):Prop:=∃ gD gU gT,v=aH #[Z7 (aE ⟨gD,0,aA⟩) a.nD a.nD,Z7 (aE ⟨gU,0,aA⟩) a.nU a.nU,Z8 aI a.k,Z7 (aE ⟨gT,0,aA⟩) a.nT a.nT]/\DZ w gD 2 (iC a.D)/\DZ w gU 2 (iC a.U)/\DZ w gT 77 (iC a.T)/\lo<=gD/\gD<gU/\gU<gT/\gT<hi
def TB (a:SA) (lo hi:Nat) (w:aC) (v:aB):Prop:=∃ g,v=Z7 (aE ⟨g,0,aA⟩) a.nk a.nk/\DZ w g 5 (uC a.ks)/\lo<=g/\g<hi
def TO (a:SA) (lo hi:Nat) (w:aC) (v:aB):Prop:=∃ g,v=aH #[Z8 aI a.kind,Z7 (aE ⟨g,0,aA⟩) a.tn a.tn,Z8 aI a.now,Z8 aI a.N]/\DZ w g 5 (uC a.tk)/\lo<=g/\g<hi
section
variable {a:SA} {lo hi lo' hi':Nat} {w w':aC} {v v':aB}
theorem TS.mid (h:TS a lo hi w v) (hm:Lh lo' hi' w w') (ho:hi<=lo'\/hi'<=lo):TS a lo hi w' v:=by
 obtain⟨gD,gU,gT,e,h1,h2,h3,o1,o2,o3,o4⟩:=h;exact⟨gD,gU,gT,e,h1.mid hm AJ,h2.mid hm AJ,h3.mid hm AJ,o1,o2,o3,o4⟩
theorem TB.mid (h:TB a lo hi w v) (hm:Lh lo' hi' w w') (ho:hi<=lo'\/hi'<=lo):TB a lo hi w' v:=by
 obtain⟨g,e,h1,o1,o2⟩:=h;exact⟨g,e,h1.mid hm AJ,o1,o2⟩
theorem TO.mid (h:TO a lo hi w v) (hm:Lh lo' hi' w w') (ho:hi<=lo'\/hi'<=lo):TO a lo hi w' v:=by
 obtain⟨g,e,h1,o1,o2⟩:=h;exact⟨g,e,h1.mid hm AJ,o1,o2⟩
theorem TS.below (h:TS a lo hi w v) (b:Below w.heap.size w w'):TS a lo hi w' v:=h.mid (Lh.of (lo:=hi) (hi:=lo) b) (.inl Cl)
theorem TB.below (h:TB a lo hi w v) (b:Below w.heap.size w w'):TB a lo hi w' v:=h.mid (Lh.of (lo:=hi) (hi:=lo) b) (.inl Cl)
theorem TO.below (h:TO a lo hi w v) (b:Below w.heap.size w w'):TO a lo hi w' v:=h.mid (Lh.of (lo:=hi) (hi:=lo) b) (.inl Cl)
theorem TS.cells (h:TS a lo hi w v):∃ cs,v=aH cs/\cs.size=4/\cs.all (λx=>x.oneCell')=true:=by
 obtain⟨gD,gU,gT,e,_⟩:=h;exact⟨_,e,rfl,by simp[Value.oneCell']⟩
theorem TO.cells (h:TO a lo hi w v):∃ cs,v=aH cs/\cs.size=4/\cs.all (λx=>x.oneCell')=true:=by
 obtain⟨g,e,_⟩:=h;exact⟨_,e,rfl,by simp[Value.oneCell']⟩
theorem TB.slice (h:TB a lo hi w v):∃ x,v=Z7 x a.nk a.nk:=by
 obtain⟨g,e,_⟩:=h;exact⟨_,e⟩
theorem VS (hok:a.Ok) (aD aU aT:Option Addr) (cD cU cT:Nat) (AD:At aI w aD a.D) (AU:At aI w aU a.U) (AT:At aI w aT a.T) :
  Calls tP 7 #[aH #[Z7 aD a.nD cD,Z7 aU a.nU cU,Z8 aI a.k,Z7 aT a.nT cT]] w λe w'=>∃ v,e=aK v/\TS a w.heap.size w'.heap.size w' v/\Below w.heap.size w w':=
 (Sm aD aU aT a.nD cD a.nU cU a.nT cT a.D a.U a.T a.k w hok.hD hok.hU hok.hT hok.bD hok.bU hok.bT AD AU AT).mono (by
  rintro e w' ⟨gD,gU,gT,rfl,o1,o2,o3,r1,r2,r3,hb⟩;exact⟨_,rfl,⟨gD,gU,gT,rfl,r1,r2,r3,o1,o2,o3,r3.lt⟩,hb⟩)
theorem JS (hok:a.Ok) (ka:Option Addr) (ck:Nat) (A:At Z9 w ka a.ks) :
  Calls tP 8 #[Z7 ka a.nk ck] w λe w'=>∃ v,e=aK v/\TB a w.heap.size w'.heap.size w' v/\Below w.heap.size w w':=
 (My ka a.nk ck a.ks w hok.hk hok.bk A).mono (by
  rintro e w' ⟨rfl,r,hb⟩;exact⟨_,rfl,⟨_,rfl,r,Ac _,r.lt⟩,hb⟩)
theorem VV (hok:a.Ok) (ta:Option Addr) (tc:Nat) (A:At Z9 w ta a.tk) :
  Calls tP 9 #[aH #[Z8 aI a.kind,Z7 ta a.tn tc,Z8 aI a.now,Z8 aI a.N]] w λe w'=>∃ v,e=aK v/\TO a w.heap.size w'.heap.size w' v/\Below w.heap.size w w':=
 (Sr ta a.tn tc a.tk a.kind a.now a.N w hok.ht hok.bt A).mono (by
  rintro e w' ⟨g,rfl,o,r,hb⟩;exact⟨_,rfl,⟨g,rfl,r,o,r.lt⟩,hb⟩)
variable {l1 h1 l2 h2 l3 h3:Nat} {v1 v2 v3:aB}
theorem VW (hok:a.Ok) (s:TS a l1 h1 w v1) (b:TB a l2 h2 w v2) (o:TO a l3 h3 w v3) :
  Calls tP 6 #[v1,v2,v3] w λe w'=>∃ v,e=aK v/\IE w.heap.size w' v a.R/\Below w.heap.size w w':=by
 obtain⟨gD,gU,gT,rfl,r1,r2,r3,-⟩:=s;obtain⟨g,rfl,rb,-⟩:=b;obtain⟨g',rfl,ro,-⟩:=o;exact VC _ _ _ a.nD a.nD a.nU a.nU a.nT a.nT a.D a.U a.k a.T _ a.nk a.nk a.ks _ a.tn a.tn a.tk a.kind a.now a.N w hok.hD hok.hU hok.hT hok.bD hok.bU hok.bT r1.i64 r2.i64 r3.i64 Cl (AG hok.bT) hok.k0 hok.k1 hok.hk hok.bk rb.u8 hok.zk hok.ht hok.bt Cl ro.u8 hok.zt
theorem PY (hok:a.Ok) (s:TS a l1 h1 w v1) (b:TB a l2 h2 w v2) (o:TO a l3 h3 w v3) (hT:D4 w) (hV:1<w.heap.size) (hE:El w) :
  Calls tP 10 #[v1,v2,v3] w λe w'=>∃ v,e=aK v/\IC w.heap.size w' v a.R/\Below w.heap.size w w':=by
 obtain⟨gD,gU,gT,rfl,r1,r2,r3,-⟩:=s;obtain⟨g,rfl,rb,-⟩:=b;obtain⟨g',rfl,ro,-⟩:=o;exact VQ _ _ _ a.nD a.nD a.nU a.nU a.nT a.nT a.D a.U a.k a.T _ a.nk a.nk a.ks _ a.tn a.tn a.tk a.kind a.now a.N w hok.hD hok.hU hok.hT hok.bD hok.bU hok.bT r1.i64 r2.i64 r3.i64 (λh=>by cases h) hok.k0 hok.k1 hok.hk hok.bk rb.u8 hok.zk hok.ht hok.bt Cl ro.u8 hok.zt hT hV hE
theorem VX (hok:a.Ok) (s:TS a l1 h1 w v1) (s':TS a l2 h2 w v2):Calls tP 12 #[v1,v2] w λe w'=>e=aK (aG true)/\Below w.heap.size w w':=by
 obtain⟨gD,gU,gT,rfl,r1,r2,r3,-⟩:=s;obtain⟨gD',gU',gT',rfl,r1',r2',r3',-⟩:=s';exact Mx _ _ _ _ _ _ a.nD _ _ a.nU _ _ a.nT _ _ a.D a.U a.T a.k w hok.hD hok.hU hok.hT hok.bD hok.bU hok.bT r1.i64 r1'.i64 r2.i64 r2'.i64 r3.i64 r3'.i64
theorem VZ (hok:a.Ok) (s:TB a l1 h1 w v1) (s':TB a l2 h2 w v2):Calls tP 13 #[v1,v2] w λe w'=>e=aK (aG true)/\Below w.heap.size w w':=by
 obtain⟨g,rfl,r,-⟩:=s;obtain⟨g',rfl,r',-⟩:=s';refine(OU _ _ a.nk _ _ a.ks w hok.hk hok.bk r.u8 r'.u8).mono ?_;rintro e w' ⟨rfl,q,rfl⟩;exact⟨rfl,EG Cg _⟩
theorem Va (hok:a.Ok) (s:TO a l1 h1 w v1) (s':TO a l2 h2 w v2):Calls tP 14 #[v1,v2] w λe w'=>e=aK (aG true)/\Below w.heap.size w w':=by
 obtain⟨g,rfl,r,-⟩:=s;obtain⟨g',rfl,r',-⟩:=s';exact Ss _ _ a.tn _ _ a.tk a.kind a.now a.N w hok.ht hok.bt r.u8 r'.u8
theorem SA.len (hok:a.Ok):a.R.D.length<=1048576/\a.R.U.length<=1048576/\a.R.T.length<=2097152:=VR (by rw[hok.hD];exact hok.bD) (by rw[hok.hU];exact hok.bU) hok.hT hok.bT
theorem Li (hok:a.Ok) (s:IC l1 w v1 a.R) (s':IE l2 w v2 a.R):Calls tP 11 #[v1,v2] w λe w'=>e=aK (aG true)/\Below w.heap.size w w':=by
 have hl:=SA.len hok;obtain⟨aD,nD,cD,aU,nU,cU,aT,nT,cT,rfl,s⟩:=s;obtain⟨bD,mD,dD,bU,mU,dU,bT,mT,dT,rfl,q1,q2,q3,q4,q5,q6,-⟩:=s';obtain rfl:nD=mD:=s.nd.symm.trans q4;obtain rfl:nU=mU:=s.nu.symm.trans q5;obtain rfl:nT=mT:=AG s.nt
 have:=s.nd;have:=s.nu;have:=s.nt;exact TZ _ aD bD aU bU aT bT nD cD dD nU cU dU nT cT dT _ _ _ _ w s.nd s.nu s.nt AJ AJ AJ s.d.at_ q1 s.u.at_ q2 s.t.at_ q3
theorem Vb (hok:a.Ok) (s:TS a lo hi w v) (k:Int) (hk:0<=k) (hk':k<=8388608) (hlo:lo<=w.heap.size):Calls tP 15 #[v,Z8 aI k] w λe w'=>e=aK (Z8 aI (k+a.nD+a.nU+a.nT*2))/\Lh lo hi w w':=by
 obtain⟨gD,gU,gT,rfl,r1,r2,r3,o1,o2,o3,o4⟩:=s;have:=hok.bD;have:=hok.bU;have:=hok.bT;refine(Kq (aE ⟨gD,0,aA⟩) (aE ⟨gU,0,aA⟩) (aE ⟨gT,0,aA⟩) a.nD a.nD a.nU a.nU a.nT a.nT a.k k w lo hlo (r1.opn (by rw[Lb];exact hok.hD)) (r2.opn (by rw[Lb];exact hok.hU)) (r3.opn (by rw[Lb];exact hok.hT)) (λad e=>by cases e;exact⟨o1,r1.lt⟩) (λad e=>by cases e;exact⟨by show lo<=gU;omega,r2.lt⟩) (λad e=>by cases e;exact⟨by show lo<=gT;omega,r3.lt⟩) (λx y e1 e2=>by cases e1;cases e2;show gD≠gU;omega) (λx y e1 e2=>by cases e1;cases e2;show gD≠gT;omega) (λx y e1 e2=>by cases e1;cases e2;show gU≠gT;omega) hk AJ).mono ?_;rintro e w' ⟨rfl,-,-,-,hb,hn⟩;refine⟨rfl,hb.os,hb.tape,hb.output,hb.size,λj hj ho=>hn j hj ?_ ?_ ?_⟩
 ·intro ad e;cases e;show j≠gD;omega
 ·intro ad e;cases e;show j≠gU;omega
 ·intro ad e;cases e;show j≠gT;omega
theorem Vc (hok:a.Ok) (s:TB a lo hi w v) (k:Int) (hk:0<=k) (hk':k<=16777216):Calls tP 16 #[v,Z8 aI k] w λe w'=>e=aK (Z8 aI (k+a.nk))/\Lh lo hi w w':=by
 obtain⟨g,rfl,r,o1,o2⟩:=s;have:=hok.bk;refine(Kl (aE ⟨g,0,aA⟩) a.nk a.nk k w (r.opn (by rw[PG];exact hok.hk)) hk AJ).mono ?_;rintro e w' ⟨rfl,-,hw⟩;refine⟨rfl,hw.os,hw.tape,hw.output,by rw[hw.size];exact Ac _,λj hj ho=>hw.block j ?_⟩;intro ad e;cases e;show j≠g;omega
theorem Vd (hok:a.Ok) (s:TO a lo hi w v) (k:Int) (hk:0<=k) (hk':k<=33554432):Calls tP 17 #[v,Z8 aI k] w λe w'=>e=aK (Z8 aI (k+a.tn))/\Lh lo hi w w':=by
 obtain⟨g,rfl,r,o1,o2⟩:=s;have:=hok.bt;refine(Su (aE ⟨g,0,aA⟩) a.tn a.tn a.kind a.now a.N k w (r.opn (by rw[PG];exact hok.ht)) hk AJ).mono ?_;rintro e w' ⟨rfl,hs,ho,ht,hu,hn⟩;refine⟨rfl,ho,ht,hu,hs,λj hj ho=>hn j hj ?_⟩;intro ad e;cases e;show j≠g;omega
def Zh (m:Int) (w:aC) (v:aB):Prop:=∃ c k aD nD cD aU nU cU aT nT cT,v=aH #[Z8 aI c,Z7 aD nD cD,Z7 aU nU cU,Z8 aI k,Z7 aT nT cT]/\At aI w aD (GU 1 nD)/\At aI w aU (GU (1+nD) nU)/\At aI w aT (GU (1+nD+nU) (nT*2))/\m=1+(nD:Int)+nU+nT*2/\m<=8388608
theorem Ve (hok:a.Ok) (s:IC lo w v a.R) (hlo:lo<=w.heap.size):Calls tP 18 #[v,Z8 aI 1] w λe w'=>∃ m,e=aK (Z8 aI m)/\Zh m w' v/\0<=m/\Below lo w w'/\∀ j,j<w.heap.size->¬ Value.has v j->w'.heap[j]?=w.heap[j]?:=by
 have hl:=SA.len hok;obtain⟨aD,nD,cD,aU,nU,cU,aT,nT,cT,rfl,s⟩:=s;have:=s.nd;have:=s.nu;have:=s.nt;refine(TW _ aD aU aT nD cD nU cU nT cT _ 1 w lo hlo (s.d.open_ s.nd) (s.u.open_ s.nu) (s.t.open_ s.nt) s.ld s.lu s.lt s.du s.dt s.ut AK AJ).mono ?_;rintro e w' ⟨rfl,m1,m2,m3,hb,hn⟩;exact⟨_,rfl,⟨_,_,aD,nD,cD,aU,nU,cU,aT,nT,cT,rfl,m1,m2,m3,rfl,AJ⟩,AJ,hb,λj hj hh=>hn j hj (λad e h=>hh (h ▸ GN (.inl e))) (λad e h=>hh (h ▸ GN (.inr (.inl e)))) (λad e h=>hh (h ▸ GN (.inr (.inr e))))⟩
theorem Vf {m:Int} (s:Zh m w v):Calls tP 19 #[v,Z8 aI 1] w λe w'=>e=aK (Z8 aI m)/\Below w.heap.size w w':=by
 obtain⟨c,k,aD,nD,cD,aU,nU,cU,aT,nT,cT,rfl,m1,m2,m3,rfl,hm⟩:=s;exact TY c aD aU aT nD cD nU cU nT cT k 1 w m1 m2 m3 AK AJ
end
theorem I2 {ops:Array Oper} {rest:List Oper} {o:Oper} {a:Act} {w:aC} {Q:Exit->Act->aC->Prop} (hw:Region.wanted o (yielded ops a.tmps)=true)
  (h:∀ K:Act->aC->Prop,(∀ a w,wpList tP ops Q rest a w->K a w)->o.wp tP a w K Q):wpList tP ops Q (o::rest) a w:=
 wpList_step λK hK=>by rw[AP hw];exact h K hK
theorem FI {w:aC} {g:Nat} {o:Obj} (h:w.heap[g]?=aE o):g<w.heap.size:=(AR.1 h).1
theorem IE.hi {lo:Nat} {w:aC} {v:aB} {r:I9} (h:IE lo w v r) {j:Nat} (hj:Value.has v j):j<w.heap.size:=by
 obtain⟨aD,nD,cD,aU,nU,cU,aT,nT,cT,e,_,_,_,_,_,_,l1,l2,l3,_⟩:=h;rw[e] at hj;rcases NC hj with⟨ad,h,rfl⟩|⟨ad,h,rfl⟩|⟨ad,h,rfl⟩
 ·exact(l1 ad h).2
 ·exact(l2 ad h).2
 ·exact(l3 ad h).2
theorem IC.hi {lo:Nat} {w:aC} {v:aB} {r:I9} (h:IC lo w v r) {j:Nat} (hj:Value.has v j):j<w.heap.size:=by
 obtain⟨aD,nD,cD,aU,nU,cU,aT,nT,cT,e,s⟩:=h;rw[e] at hj;rcases NC hj with⟨ad,h,rfl⟩|⟨ad,h,rfl⟩|⟨ad,h,rfl⟩
 ·exact(s.ld ad h).2
 ·exact(s.lu ad h).2
 ·exact(s.lt ad h).2
def Qk (a:SA) (w:aC) (v:aB):Prop:=∃ lo hi,TS a lo hi w v
def Vg (a:SA) (w:aC) (v:aB):Prop:=∃ lo hi,TB a lo hi w v
def Ql (a:SA) (w:aC) (v:aB):Prop:=∃ lo hi,TO a lo hi w v
theorem Qk.below {a:SA} {w w':aC} {v:aB} (h:Qk a w v) (b:Below w.heap.size w w'):Qk a w' v:=by obtain⟨lo,hi,h⟩:=h;exact⟨lo,hi,h.below b⟩
theorem Vg.below {a:SA} {w w':aC} {v:aB} (h:Vg a w v) (b:Below w.heap.size w w'):Vg a w' v:=by obtain⟨lo,hi,h⟩:=h;exact⟨lo,hi,h.below b⟩
theorem Ql.below {a:SA} {w w':aC} {v:aB} (h:Ql a w v) (b:Below w.heap.size w w'):Ql a w' v:=by obtain⟨lo,hi,h⟩:=h;exact⟨lo,hi,h.below b⟩
structure L0 (w:aC) (sc oc:Array aB) (wr:aC):Prop where
 below:Below w.heap.size w wr
 b0:wr.heap[w.heap.size]?=aE (aJ sc 25 (0,0))
 b1:wr.heap[w.heap.size+1]?=aE (aJ oc 28 (0,0))
theorem L0.lt {w wr:aC} {sc oc:Array aB} (h:L0 w sc oc wr):w.heap.size+1<wr.heap.size:=FI h.b1
theorem L0.keep {w wr w':aC} {sc oc:Array aB} {B:Nat} (h:L0 w sc oc wr) (b:Below B wr w') (hB:w.heap.size+2<=B):L0 w sc oc w':=
 ⟨h.below.trans (b.mono AJ),by rw[b.block _ AJ];exact h.b0,by rw[b.block _ AJ];exact h.b1⟩
theorem L0.call {w wr w':aC} {sc oc:Array aB} (h:L0 w sc oc wr) (b:Below wr.heap.size wr w'):L0 w sc oc w':=h.keep b h.lt
theorem L0.start (w:aC) (sc oc:Array aB):L0 w sc oc ((w.alloc (aJ sc 25)).alloc (aJ oc 28)):=by
 have h:=NJ.start w 25 28 sc oc;exact⟨h.below,h.b0,h.b1⟩
structure L5 (a:SA) (w:aC) (sc oc:Array aB) (n5 G0:Nat) (cs0:Array aB) (wr:aC):Prop where
 l0:L0 w sc oc wr
 h5:w.heap.size+2<=n5
 g0:wr.heap[G0]?=aE (aJ cs0 35 (0,0))
 g0lt:G0<n5
 s0:IE w.heap.size wr (aH cs0) a.R
 s0lt:∀ j,Value.has (aH cs0) j->j<n5
theorem L5.keep {a:SA} {w wr w':aC} {sc oc cs0:Array aB} {n5 G0:Nat} (h:L5 a w sc oc n5 G0 cs0 wr) (b:Below n5 wr w') (hn:n5<=wr.heap.size):L5 a w sc oc n5 G0 cs0 w':=
 ⟨h.l0.keep b h.h5,h.h5,by rw[b.block _ h.g0lt];exact h.g0,h.g0lt,h.s0.keep b.size (λj hj _=>b.block j (h.s0lt j hj)),h.s0lt⟩
theorem L5.call {a:SA} {w wr w':aC} {sc oc cs0:Array aB} {n5 G0:Nat} (h:L5 a w sc oc n5 G0 cs0 wr) (b:Below wr.heap.size wr w'):L5 a w sc oc n5 G0 cs0 w':=
 ⟨h.l0.call b,h.h5,by rw[b.block _ (FI h.g0)];exact h.g0,h.g0lt,h.s0.below b,h.s0lt⟩
structure L9 (a:SA) (w:aC) (sc oc:Array aB) (n5 G0:Nat) (cs0:Array aB) (n10 G1:Nat) (cs4:Array aB) (wr:aC):Prop where
 l5:L5 a w sc oc n5 G0 cs0 wr
 h10:n5<=n10
 g1:wr.heap[G1]?=aE (aJ cs4 35 (0,0))
 g1ge:n10<=G1
 s1:IC n10 wr (aH cs4) a.R
 s1ne:∀ j,Value.has (aH cs4) j->j≠G1
theorem L9.mid {a:SA} {w wr w':aC} {sc oc cs0 cs4:Array aB} {n5 G0 n10 G1:Nat} (h:L9 a w sc oc n5 G0 cs0 n10 G1 cs4 wr) (hm:Lh n5 n10 wr w'):L9 a w sc oc n5 G0 cs0 n10 G1 cs4 w':=by
 have hl:=FI h.g1;have h1:=h.h10;have h2:=h.g1ge;exact⟨h.l5.keep (hm.below Cl AJ) AJ,h.h10,by rw[hm.block _ hl (.inr h2)];exact h.g1,h2,h.s1.keep hm.size (λj hj hl=>hm.block j hl (.inr (h.s1.lo hj))),h.s1ne⟩
theorem L9.call {a:SA} {w wr w':aC} {sc oc cs0 cs4:Array aB} {n5 G0 n10 G1:Nat} (h:L9 a w sc oc n5 G0 cs0 n10 G1 cs4 wr) (b:Below wr.heap.size wr w'):L9 a w sc oc n5 G0 cs0 n10 G1 cs4 w':=h.mid (Lh.of b)
theorem Vh (a:SA) (aD aU aT ka ta:Option Addr) (cD cU cT ck tc:Nat) (w:aC) (hD:a.D.length=a.nD) (hU:a.U.length=a.nU) (hT:a.T.length=a.nT*2) (hk:a.ks.length=a.nk) (ht:a.tk.length=a.tn)
  (mD:a.nD<=9223372036854775807) (mU:a.nU<=9223372036854775807) (mT:a.nT<=9223372036854775807) (mk:a.nk<=9223372036854775807) (mt:a.tn<=9223372036854775807) (k0:-9223372036854775808<=a.k) (k1:a.k<9223372036854775808) (zk:Ci a.ks) (zt:Ci a.tk)
  (haD:At aI w aD a.D) (haU:At aI w aU a.U) (haT:At aI w aT a.T) (hak:At Z9 w ka a.ks) (hat:At Z9 w ta a.tk) (hTb:D4 w) (hV:1<w.heap.size) (hE:El w) :
  Calls tP 3 #[aH #[Z7 aD a.nD cD,Z7 aU a.nU cU,Z8 aI a.k,Z7 aT a.nT cT],Z7 ka a.nk ck,aH #[Z8 aI a.kind,Z7 ta a.tn tc,Z8 aI a.now,Z8 aI a.N]] w λe w'=>e=aK (aG true)/\Below w.heap.size w w':=by
 have HZ:AO (∀ left n,Hd left n=if left<n then -1 else left-n):=λ_ _=>rfl
 have HM0:AO (L0 w #[Z7 aD a.nD cD,Z7 aU a.nU cU,Z8 aI a.k,Z7 aT a.nT cT] #[Z8 aI a.kind,Z7 ta a.tn tc,Z8 aI a.now,Z8 aI a.N] ((w.alloc (aJ #[Z7 aD a.nD cD,Z7 aU a.nU cU,Z8 aI a.k,Z7 aT a.nT cT] 25)).alloc (aJ #[Z8 aI a.kind,Z7 ta a.tn tc,Z8 aI a.now,Z8 aI a.N] 28))):=L0.start _ _ _;have HA:AO (∀ wz,Below w.heap.size w wz->At aI wz aD a.D/\At aI wz aU a.U/\At aI wz aT a.T/\At Z9 wz ka a.ks/\At Z9 wz ta a.tk/\D4 wz/\El wz):=λwz h=>⟨haD.below h,haU.below h,haT.below h,hak.below h,hat.below h,FW hTb hV h,hE.below h⟩
 have HV1:AO (1<w.heap.size):=hV;have HOL:AO (a.nD<=1048576->a.nU<=1048576->a.nT<=1048576->a.nk<=1048576->a.tn<=1048576->a.Ok):=λb1 b2 b3 b4 b5=>⟨hD,hU,hT,hk,ht,b1,b2,b3,b4,b5,k0,k1,zk,zt⟩
 have HRZ:AO ((tP.info? 35).map (·.size)=aE 5):=by show _=_;kernel_rfl
 have HSS:AO ((tP.info? 33).map (·.size)=aE 4):=by show _=_;kernel_rfl
 have HOO:AO ((tP.info? 39).map (·.size)=aE 4):=by show _=_;kernel_rfl
 have HSL:AO ((tP.info? 25).map (·.size)=aE (#[Z7 aD a.nD cD,Z7 aU a.nU cU,Z8 aI a.k,Z7 aT a.nT cT]:Array aB).size):=by show _=_;kernel_rfl
 have HSO:AO ((tP.info? 28).map (·.size)=aE (#[Z8 aI a.kind,Z7 ta a.tn tc,Z8 aI a.now,Z8 aI a.N]:Array aB).size):=by show _=_;kernel_rfl
 clear haD haU haT hak hat hTb hV hE hD hU hT hk ht k0 k1 zk zt;go_enter func3,ntmps3
 go_upto_region 1 with fail
 generalize ((w.alloc (aJ #[Z7 aD a.nD cD,Z7 aU a.nU cU,Z8 aI a.k,Z7 aT a.nT cT] 25)).alloc (aJ #[Z8 aI a.kind,Z7 ta a.tn tc,Z8 aI a.now,Z8 aI a.N] 28))=w0 at *;by_cases hkb:(1048576:Int)<(a.nk:Int)
 ·have HB0:AO (Below w.heap.size w w0):=HM0.o.below;clear HM0;go_wp2
  go_ret
  exact⟨rfl,HB0.o⟩
 go_wp2_with (first
  |(refine Ae rfl 25 (aM 3) rfl (w.heap.size) rfl 25 _ (0,0) _ HM0.o.b0 underlying25 rfl HSL.o ?_)
  |fail)
 refine(Sl aD aU aT a.nD cD a.nU cU a.nT cT a.k 1048576 _ AK AK mD mU mT).mono ?_;rintro e w2 ⟨rfl,hb2⟩;have HM2:AO (L0 w #[Z7 aD a.nD cD,Z7 aU a.nU cU,Z8 aI a.k,Z7 aT a.nT cT] #[Z8 aI a.kind,Z7 ta a.tn tc,Z8 aI a.now,Z8 aI a.N] w2):=HM0.o.call hb2;clear HM0 hb2;by_cases hbig:(1048576:Int)<((a.nD+a.nU+a.nT:Nat):Int)
 ·have hr:Hd 1048576 (a.nD+a.nU+a.nT)=-1:=by rw[HZ.o,AP hbig]
  rw[hr];have HB1:AO (Below w.heap.size w w2):=HM2.o.below;clear HM2 hr hbig;go_wp2
  go_ret
  exact⟨rfl,HB1.o⟩
 have hr:Hd 1048576 (a.nD+a.nU+a.nT)=1048576-((a.nD+a.nU+a.nT:Nat):Int):=by rw[HZ.o,AQ hbig]
 have hneg:¬ (Hd 1048576 (a.nD+a.nU+a.nT)<0):=by rw[hr];omega
 have HLF:AO (0<=Hd 1048576 (a.nD+a.nU+a.nT)/\Hd 1048576 (a.nD+a.nU+a.nT)<=1048576):=by rw[hr];exact⟨AJ,AJ⟩
 have HBB:AO (a.nD<=1048576/\a.nU<=1048576/\a.nT<=1048576/\a.nk<=1048576):=⟨AJ,AJ,AJ,AJ⟩
 generalize Hd 1048576 (a.nD+a.nU+a.nT)=left at *;clear hr hbig hkb;go_wp2_with (first
  |(refine Ae rfl 28 (aM 5) rfl (w.heap.size+1) rfl 28 _ (0,0) _ HM2.o.b1 underlying28 rfl HSO.o ?_)
  |fail)
 refine(St ta a.tn tc a.kind a.now a.N left _ HLF.o.1 HLF.o.2 mt).mono ?_;rintro e w4 ⟨rfl,hb4⟩;have HM4:AO (L0 w #[Z7 aD a.nD cD,Z7 aU a.nU cU,Z8 aI a.k,Z7 aT a.nT cT] #[Z8 aI a.kind,Z7 ta a.tn tc,Z8 aI a.now,Z8 aI a.N] w4):=HM2.o.call hb4;clear HM2 hb4 hneg;by_cases hbig:left<((a.tn:Nat):Int)
 ·have hr:Hd left a.tn=-1:=by rw[HZ.o,AP hbig]
  rw[hr];have HB1:AO (Below w.heap.size w w4):=HM4.o.below;clear HM4 hr hbig;go_wp2
  go_ret
  exact⟨rfl,HB1.o⟩
 have hr:Hd left a.tn=left-((a.tn:Nat):Int):=by rw[HZ.o,AQ hbig]
 have hneg:¬ (Hd left a.tn<0):=by rw[hr];omega
 have HOK:AO a.Ok:=HOL.o HBB.o.1 HBB.o.2.1 HBB.o.2.2.1 HBB.o.2.2.2 (AG HLF.o);generalize Hd left a.tn=left2 at *;have HCS:AO (∀ wz,Below w.heap.size w wz->Calls tP 7 #[aH #[Z7 aD a.nD cD,Z7 aU a.nU cU,Z8 aI a.k,Z7 aT a.nT cT]] wz λe w'=>∃ v,e=aK v/\TS a wz.heap.size w'.heap.size w' v/\Below wz.heap.size wz w'):=λwz h=>VS HOK.o aD aU aT cD cU cT (HA.o wz h).1 (HA.o wz h).2.1 (HA.o wz h).2.2.1
 have HCO:AO (∀ wz,Below w.heap.size w wz->Calls tP 9 #[aH #[Z8 aI a.kind,Z7 ta a.tn tc,Z8 aI a.now,Z8 aI a.N]] wz λe w'=>∃ v,e=aK v/\TO a wz.heap.size w'.heap.size w' v/\Below wz.heap.size wz w'):=λwz h=>VV HOK.o ta tc (HA.o wz h).2.2.2.2.1
 generalize (#[Z7 aD a.nD cD,Z7 aU a.nU cU,Z8 aI a.k,Z7 aT a.nT cT]:Array aB)=sc at *;generalize (#[Z8 aI a.kind,Z7 ta a.tn tc,Z8 aI a.now,Z8 aI a.N]:Array aB)=oc at *;clear hr hbig mD mU mT mk mt HZ HOL HBB HLF;go_wp2_with fail;refine Ag AM ?_;refine GI 8 (λ_ a b=>Below a.heap.size a b) (frame:=(λ(a b c d e f g h i j k l m n o p q r s u v w x y z A B C D E F G H I J K L M N O P Q R S T U V W X Y Z a0 a1 a2 a3 a4 a5 a6 a7 a8 a9 b0 b1 b2 b3 b4 b5 b6 b7 b8 b9 c0 c1 c2 c3 c4 c5 c6 c7 c8 c9 d0 d1 d2 d3 d4 d5 d6 d7 d8 d9 e0 e1 e2 e3 e4 e5:aB)=>λ(t:Nat->aB)=>({ tmps:=List.toArray [a,b,c,d,e,f,g,h,t 7,i,j,k,l,m,n,o,p,q,r,s,u,v,w,x,y,z,A,B,C,D,t 0,t 1,t 2,t 3,t 4,t 5,t 6,E,F,G,H,I,J,K,L,M,N,O,P,Q,R,S,T,U,V,W,X,Y,Z,a0,a1,a2,a3,a4,a5,a6,a7,a8,a9,b0,b1,b2,b3,b4,b5,b6,b7,b8,b9,c0,c1,c2,c3,c4,c5,c6,c7,c8,c9,d0,d1,d2,d3,d4,d5,d6,d7,d8,d9,e0,e1,e2,e3,e4,e5],defers:=[] }:Act)) _ _ _ _ _ _ _ _ _ _ _ _ _ _ _ _ _ _ _ _ _ _ _ _ _ _ _ _ _ _ _ _ _ _ _ _ _ _ _ _ _ _ _ _ _ _ _ _ _ _ _ _ _ _ _ _ _ _ _ _ _ _ _ _ _ _ _ _ _ _ _ _ _ _ _ _ _ _ _ _ _ _ _ _ _ _ _ _ _ _ _ _ _ _ _ _ _)
  (Ext:=λL u w'=>SD w4 [6,7] L u w') (Good:=λi L w' v=>if i=0 then v=aH sc else if i=1 then Qk a w' v else if i=2 then v=Z7 ka a.nk ck else if i=3 then Vg a w' v else if i=4 then v=aH oc else if i=5 then Ql a w' v else if i=6 then IE w4.heap.size w' v a.R else if i=7 then XT w4.heap.size w' v else True) (Fin:=Yh IE 7 w4 a.R) rfl AM ?hstab AM ?hop ?hend ?hdone _ _ ((λ(x0 x1 x2 x3 x4 x5 x6 x7:aB)=>λ(i:Nat)=>if i=0 then x0 else if i=1 then x1 else if i=2 then x2 else if i=3 then x3 else if i=4 then x4 else if i=5 then x5 else if i=6 then x6 else if i=7 then x7 else undef) _ _ _ _ _ _ _ _) _ AL ?none ?ext AL
 case none=>exact λ_=>J6
 case ext=>exact SD.start w4 [6,7] _ _ (λ_=>J6) ⟨rfl,rfl,rfl,Ac _,λ_ _=>rfl⟩
 case hstab=>
  intro j L w9 w' i v _ hM _ _ h;by_cases h1:j=1
  ·subst h1;simp at h |-;exact h.below hM
  by_cases h3:j=3
  ·subst h3;simp at h |-;exact h.below hM
  by_cases h5:j=5
  ·subst h5;simp at h |-;exact h.below hM
  by_cases h6:j=6
  ·subst h6;simp at h |-;exact h.below hM
  by_cases h7:j=7
  ·subst h7;simp at h |-;exact h.below hM
  simp only[if_neg h1,if_neg h3,if_neg h5,if_neg h6,if_neg h7] at h |-;exact h
 case hop=>
  intro i o L t w' hi ho hLi hx hdep K hK;obtain rfl|rfl|rfl|rfl|rfl|rfl|rfl|rfl:i=0\/i=1\/i=2\/i=3\/i=4\/i=5\/i=6\/i=7:=AJ
  all_goals(simp at ho;subst ho)
  ·clear hdep;have hr:w'.heap[w.heap.size]?=aE (aJ sc 25 (0,0)):=by rw[hx.below.block _ (Nat.lt_trans (Nat.lt_succ_self _) HM4.o.lt)];exact HM4.o.b0
   have hK':=hK w' (aH sc) AL (hx.step 0 _ Cg DY) Cg;clear hK;rw[AP AN];refine BR 25 (aM 3) rfl (w.heap.size) rfl 25 _ (0,0) _ hr underlying25 rfl HSL.o ?_;go_simp;simpa[Ce] using hK'
  ·have d0:t 0=aH sc:=by simpa using(hdep ⟨0,aL⟩ AL rfl).2
   clear hdep;have bw:Below w.heap.size w w':=HM4.o.below.trans (hx.below.mono HM4.o.below.size);have A:=HCS.o w' bw;have hK':∀ ww v,Qk a ww v->Below w'.heap.size w' ww->K _ ww:=λww v hv hb=>hK ww v (by simpa using hv) (hx.step 1 v hb DY) hb
   clear hK bw;rw[AP AN];go_simp;try simp only[d0]
   refine A.mono ?_;rintro e w9 ⟨v9,rfl,hv9,hb9⟩;have hK2:=hK' w9 v9 ⟨_,_,hv9⟩ hb9;clear hK' A hv9 hb9;go_simp;simpa[Ce,d0] using hK2
  ·clear hdep;have hK':=hK w' (Z7 ka a.nk ck) AL (hx.step 2 _ Cg DY) Cg;clear hK;rw[AP AN];go_simp;simpa[Ce] using hK'
  ·have d2:t 2=Z7 ka a.nk ck:=by simpa using(hdep ⟨2,aL⟩ AL rfl).2
   clear hdep;have bw:Below w.heap.size w w':=HM4.o.below.trans (hx.below.mono HM4.o.below.size);have A:=JS HOK.o ka ck (HA.o w' bw).2.2.2.1;have hK':∀ ww v,Vg a ww v->Below w'.heap.size w' ww->K _ ww:=λww v hv hb=>hK ww v (by simpa using hv) (hx.step 3 v hb DY) hb
   clear hK bw;rw[AP AN];go_simp;try simp only[d2]
   refine A.mono ?_;rintro e w9 ⟨v9,rfl,hv9,hb9⟩;have hK2:=hK' w9 v9 ⟨_,_,hv9⟩ hb9;clear hK' A hv9 hb9;go_simp;simpa[Ce,d2] using hK2
  ·clear hdep;have hr:w'.heap[w.heap.size+1]?=aE (aJ oc 28 (0,0)):=by rw[hx.below.block _ HM4.o.lt];exact HM4.o.b1
   have hK':=hK w' (aH oc) AL (hx.step 4 _ Cg DY) Cg;clear hK;rw[AP AN];refine BR 28 (aM 5) rfl (w.heap.size+1) rfl 28 _ (0,0) _ hr underlying28 rfl HSO.o ?_;go_simp;simpa[Ce] using hK'
  ·have d4:t 4=aH oc:=by simpa using(hdep ⟨4,aL⟩ AL rfl).2
   clear hdep;have bw:Below w.heap.size w w':=HM4.o.below.trans (hx.below.mono HM4.o.below.size);have A:=HCO.o w' bw;have hK':∀ ww v,Ql a ww v->Below w'.heap.size w' ww->K _ ww:=λww v hv hb=>hK ww v (by simpa using hv) (hx.step 5 v hb DY) hb
   clear hK bw;rw[AP AN];go_simp;try simp only[d4]
   refine A.mono ?_;rintro e w9 ⟨v9,rfl,hv9,hb9⟩;have hK2:=hK' w9 v9 ⟨_,_,hv9⟩ hb9;clear hK' A hv9 hb9;go_simp;simpa[Ce,d4] using hK2
  ·have f1:Qk a w' (t 1):=by simpa using(hdep ⟨1,aL⟩ AL rfl).2
   have f3:Vg a w' (t 3):=by simpa using(hdep ⟨3,aL⟩ AL rfl).2
   have f5:Ql a w' (t 5):=by simpa using(hdep ⟨5,aL⟩ AL rfl).2
   clear hdep;have bw:Below w.heap.size w w':=HM4.o.below.trans (hx.below.mono HM4.o.below.size);obtain⟨lS,hS,f1⟩:=f1;obtain⟨lB,hB,f3⟩:=f3;obtain⟨lO,hO,f5⟩:=f5;have hszw:w4.heap.size<=w'.heap.size:=hx.below.size;have A:=VW HOK.o f1 f3 f5;have hK':∀ ww v,IE w'.heap.size ww v a.R->Below w'.heap.size w' ww->K _ ww:=λww v hv hb=>hK ww v (by simpa using hv.mono hszw) (hx.step 6 v hb (λ_=>hv.fresh)) hb
   clear hK bw f1 f3 f5;rw[AP AN];go_simp;refine A.mono ?_;rintro e w9 ⟨v9,rfl,hv9,hb9⟩;have hK2:=hK' w9 v9 hv9 hb9;clear hK' A hv9 hb9;go_simp;simpa[Ce] using hK2
  ·clear hdep;have hsz:w4.heap.size<=w'.heap.size:=hx.below.size;have bb:Below w'.heap.size w' (w'.alloc (aJ CX 35)):=Cg.alloc Cl _;have hK':=hK (w'.alloc (aJ CX 35)) (aF (aE ⟨w'.heap.size,0,aA⟩)) (by simpa using⟨w'.heap.size,rfl,hsz,AX w' _⟩) (hx.step 7 _ bb (λ_=>λj hj=>by rw[Hf] at hj;subst hj;exact⟨Ac _,AL⟩)) bb;clear hK bb;rw[AP AN];go_simp;simpa[Ce] using hK'
 case hend=>
  intro o L t w' ho hx hg K hK;simp at ho;subst ho;have l6:L 6=true:=(hg 6 AK).1;have f6:IE w4.heap.size w' (t 6) a.R:=by simpa using(hg 6 AK).2
  have l7:L 7=true:=(hg 7 AK).1;have f7:XT w4.heap.size w' (t 7):=by simpa using(hg 7 AK).2
  clear hg;obtain⟨G,e7,hG,hrow⟩:=f7;have hap:=hx.ap 6 AK 7 AK AK l6 l7;obtain⟨cs,e6,h1,h2⟩:=f6.cells;have hK':∀ ww,Wr G w' ww->ww.heap[G]?=aE (aJ cs 35 (0,0))->K _ ww:=λww hw hr=>hK ww undef ⟨G,cs,by simp[Ce];exact e7,hG,hr,(e6 ▸ f6).wrG hw (λj hj e=>hap j (by rw[e6];exact hj) (by rw[e7,Hf];exact e)),λj hj e=>hap j (by rw[e6];exact hj) (by rw[e7,Hf];exact e),hx.below.trans (hw.below hG)⟩
  clear hK;rw[AP AN];refine Bt 35 (aM 8) (aM 36) rfl G cs e7 e6 35 _ hrow (by rw[h1];exact HRZ.o) (by rw[h1];rfl) h2 ?_;have hK2:=hK' _ (Wr.setRow _ _ _) (AB hrow);clear hK';simpa[Ce,Act.put] using hK2
 case hdone=>
  intro t w5 hf;obtain⟨G0,cs0,e7,hG,hrow,hpv,hne,hbw⟩:=hf;obtain⟨cs,ec,hz0,-⟩:=hpv.cells;cases ec;have HI0:AO ((tP.info? 35).map (·.size)=aE cs0.size):=by show _=_;rw[hz0];exact HRZ.o
  have HL5:AO (L5 a w sc oc w5.heap.size G0 cs0 w5):=⟨HM4.o.call hbw,AG (HM4.o.call hbw).lt,hrow,FI hrow,hpv.mono HM4.o.below.size,λj hj=>hpv.hi hj⟩
  simp only[e7];clear hbw hrow hpv hne hz0 e7 hG HM4;go_wp2_with (first
   |(refine Ae rfl 25 (aM 3) rfl (w.heap.size) rfl 25 _ (0,0) _ HL5.o.l0.b0 underlying25 rfl HSL.o ?_)
   |fail)
  refine(HCS.o w5 HL5.o.l0.below).mono ?_;rintro e w6 ⟨v1,rfl,hts,hb6⟩;obtain⟨cs1,rfl,hz1,ho1⟩:=hts.cells;have HL6:AO (L5 a w sc oc w5.heap.size G0 cs0 w6):=HL5.o.call hb6;have HTS6:=Cd hts;have HO6:AO (w5.heap.size<=w6.heap.size):=hb6.size;clear hts hb6 HL5;have HN:AO ((w6.alloc (aJ CU 33)).heap[w6.heap.size]?=aE (aJ CU 33 (0,0))):=AX w6 _;have HIn:AO ((tP.info? 33).map (·.size)=aE cs1.size):=by show _=_;rw[hz1];exact HSS.o
  have HEn:AO ((CU:Array aB).size=cs1.size):=by show _=_;rw[hz1];rfl
  have HOn:AO (cs1.all (λx=>x.oneCell')=true):=ho1;have HBn:AO (Below w6.heap.size w6 ((w6.alloc (aJ CU 33)).setRow w6.heap.size cs1)):=(Cg.alloc Cl _).trans ((Wr.setRow _ _ _).below Cl);have HRn:AO (((w6.alloc (aJ CU 33)).setRow w6.heap.size cs1).heap[w6.heap.size]?=aE (aJ cs1 33 (0,0))):=AB HN.o;have HQn:AO (((w6.alloc (aJ CU 33)).setRow w6.heap.size cs1).heap.size=w6.heap.size+1):=by show _=_;rw[(Wr.setRow _ _ _).size];simp
  go_upto_region 12 with (first
   |(refine AE 33 (aM 9) (aM 38) w6.heap.size cs1 33 HN.o HIn.o HEn.o HOn.o ?_)
   |fail)
  clear HN HEn HOn hz1 ho1;generalize ((w6.alloc (aJ CU 33)).setRow w6.heap.size cs1)=w7 at *;have HI1:=HIn;have HL7:AO (L5 a w sc oc w5.heap.size G0 cs0 w7):=HL6.o.call HBn.o;have HTS7:=Cd (HTS6.o.below HBn.o);have HX7:=HRn;have HO7:AO (w5.heap.size<=w6.heap.size/\w7.heap.size=w6.heap.size+1):=⟨HO6.o,HQn.o⟩
  clear HIn HBn HRn HQn HL6 HTS6 HO6;go_wp2_with fail;refine(JS HOK.o ka ck (HA.o w7 HL7.o.l0.below).2.2.2.1).mono ?_;rintro e w8 ⟨v2,rfl,htb,hb8⟩;obtain⟨x2,rfl⟩:=htb.slice;have HL8:AO (L5 a w sc oc w5.heap.size G0 cs0 w8):=HL7.o.call hb8;have HTS8:=Cd (HTS7.o.below hb8);have HX8:AO (w8.heap[w6.heap.size]?=aE (aJ cs1 33 (0,0))):=by show _=_;rw[hb8.block _ (FI HX7.o)];exact HX7.o
  have HTB8:=Cd htb;have HO8:AO (w5.heap.size<=w6.heap.size/\w7.heap.size=w6.heap.size+1/\w7.heap.size<=w8.heap.size):=⟨HO7.o.1,HO7.o.2,hb8.size⟩
  clear htb hb8 HL7 HTS7 HX7 HO7;go_wp2_with (first
   |(refine Ae rfl 28 (aM 5) rfl (w.heap.size+1) rfl 28 _ (0,0) _ HL8.o.l0.b1 underlying28 rfl HSO.o ?_)
   |fail)
  refine(HCO.o w8 HL8.o.l0.below).mono ?_;rintro e w9 ⟨v3,rfl,hto,hb9⟩;obtain⟨cs3,rfl,hz3,ho3⟩:=hto.cells;have HL9:AO (L5 a w sc oc w5.heap.size G0 cs0 w9):=HL8.o.call hb9;have HTS9:=Cd (HTS8.o.below hb9);have HX9:AO (w9.heap[w6.heap.size]?=aE (aJ cs1 33 (0,0))):=by show _=_;rw[hb9.block _ (FI HX8.o)];exact HX8.o
  have HTB9:=Cd (HTB8.o.below hb9);have HTO9:=Cd hto;have HO9:AO (w8.heap.size<=w9.heap.size):=hb9.size;clear hto hb9 HL8 HTS8 HX8 HTB8;have HN:AO ((w9.alloc (aJ CY 39)).heap[w9.heap.size]?=aE (aJ CY 39 (0,0))):=AX w9 _;have HIn:AO ((tP.info? 39).map (·.size)=aE cs3.size):=by show _=_;rw[hz3];exact HOO.o
  have HEn:AO ((CY:Array aB).size=cs3.size):=by show _=_;rw[hz3];rfl
  have HOn:AO (cs3.all (λx=>x.oneCell')=true):=ho3;have HBn:AO (Below w9.heap.size w9 ((w9.alloc (aJ CY 39)).setRow w9.heap.size cs3)):=(Cg.alloc Cl _).trans ((Wr.setRow _ _ _).below Cl);have HRn:AO (((w9.alloc (aJ CY 39)).setRow w9.heap.size cs3).heap[w9.heap.size]?=aE (aJ cs3 39 (0,0))):=AB HN.o;have HQn:AO (((w9.alloc (aJ CY 39)).setRow w9.heap.size cs3).heap.size=w9.heap.size+1):=by show _=_;rw[(Wr.setRow _ _ _).size];simp
  go_upto_region 14 with (first
   |(refine AE 39 (aM 11) (aM 42) w9.heap.size cs3 39 HN.o HIn.o HEn.o HOn.o ?_)
   |fail)
  clear HN HEn HOn hz3 ho3;generalize ((w9.alloc (aJ CY 39)).setRow w9.heap.size cs3)=w10 at *;have HI3:=HIn;have HL10:AO (L5 a w sc oc w5.heap.size G0 cs0 w10):=HL9.o.call HBn.o;have HTS10:=Cd (HTS9.o.below HBn.o);have HTB10:=Cd (HTB9.o.below HBn.o);have HTO10:=Cd (HTO9.o.below HBn.o);have HX10:AO (w10.heap[w6.heap.size]?=aE (aJ cs1 33 (0,0))):=by show _=_;rw[HBn.o.block _ (FI HX9.o)];exact HX9.o
  have HY10:=HRn;have HO:AO (w5.heap.size<=w6.heap.size/\w7.heap.size=w6.heap.size+1/\w7.heap.size<=w8.heap.size/\w8.heap.size<=w9.heap.size/\w10.heap.size=w9.heap.size+1/\w10.heap.size<=w10.heap.size):=⟨HO8.o.1,HO8.o.2.1,HO8.o.2.2,HO9.o,HQn.o,Ac _⟩
  clear HIn HBn HRn HQn HL9 HTS9 HTB9 HTO9 HX9 HO8 HO9;go_wp2_with (first
   |(refine Ae rfl 33 (aM 9) rfl (w6.heap.size) rfl 33 _ (0,0) _ HX10.o underlying33 rfl HI1.o ?_)
   |(refine Ae rfl 39 (aM 11) rfl (w9.heap.size) rfl 39 _ (0,0) _ HY10.o underlying39 rfl HI3.o ?_)
   |fail)
  refine(PY HOK.o HTS10.o HTB10.o HTO10.o (HA.o w10 HL10.o.l0.below).2.2.2.2.2.1 (As HV1.o HL10.o.l0.below.size) (HA.o w10 HL10.o.l0.below).2.2.2.2.2.2).mono ?_;rintro e w11 ⟨v4,rfl,has,hb11⟩;obtain⟨cs4,rfl,hz4,ho4⟩:=has.cells;have HAS:=Cd has;have HB11:=Cd hb11;clear has hb11;have HN:AO ((w11.alloc (aJ CX 35)).heap[w11.heap.size]?=aE (aJ CX 35 (0,0))):=AX w11 _;have HIn:AO ((tP.info? 35).map (·.size)=aE cs4.size):=by show _=_;rw[hz4];exact HRZ.o
  have HEn:AO ((CX:Array aB).size=cs4.size):=by show _=_;rw[hz4];rfl
  have HOn:AO (cs4.all (λx=>x.oneCell')=true):=ho4;have HBn:AO (Below w11.heap.size w11 ((w11.alloc (aJ CX 35)).setRow w11.heap.size cs4)):=(Cg.alloc Cl _).trans ((Wr.setRow _ _ _).below Cl);have HRn:AO (((w11.alloc (aJ CX 35)).setRow w11.heap.size cs4).heap[w11.heap.size]?=aE (aJ cs4 35 (0,0))):=AB HN.o;have HQn:AO (((w11.alloc (aJ CX 35)).setRow w11.heap.size cs4).heap.size=w11.heap.size+1):=by show _=_;rw[(Wr.setRow _ _ _).size];simp
  go_upto_region 15 with (first
   |(refine AE 35 (aM 12) (aM 46) w11.heap.size cs4 35 HN.o HIn.o HEn.o HOn.o ?_)
   |fail)
  clear HN HEn HOn hz4 ho4;generalize ((w11.alloc (aJ CX 35)).setRow w11.heap.size cs4)=w12 at *;have HI4:=HIn;have HB12:AO (Below w10.heap.size w10 w12):=HB11.o.trans (HBn.o.mono HB11.o.size);obtain⟨G1,hG1⟩:∃ G1,G1=w11.heap.size:=⟨_,rfl⟩
  rw[<-hG1] at HRn;rw[<-hG1];have HL12:AO (L9 a w sc oc w5.heap.size G0 cs0 w10.heap.size G1 cs4 w12):=⟨HL10.o.call HB12.o,AG HO.o,HRn.o,by rw[hG1];exact HB11.o.size,HAS.o.below HBn.o,λj hj=>by rw[hG1];exact Nat.ne_of_lt (HAS.o.hi hj)⟩
  have HX:AO (∀ wz,Below w12.heap.size w12 wz->wz.heap[w6.heap.size]?=aE (aJ cs1 33 (0,0))):=λwz h=>by
   have h2:w12.heap[w6.heap.size]?=aE (aJ cs1 33 (0,0)):=by rw[HB12.o.block _ (FI HX10.o)];exact HX10.o
   rw[h.block _ (FI h2)];exact h2
  have HY:AO (∀ wz,Below w12.heap.size w12 wz->wz.heap[w9.heap.size]?=aE (aJ cs3 39 (0,0))):=λwz h=>by
   have h2:w12.heap[w9.heap.size]?=aE (aJ cs3 39 (0,0)):=by rw[HB12.o.block _ (FI HY10.o)];exact HY10.o
   rw[h.block _ (FI h2)];exact h2
  have HTS:AO (∀ wz,Below w12.heap.size w12 wz->TS a w5.heap.size w6.heap.size wz (aH cs1)):=λwz h=>(HTS10.o.below HB12.o).below h
  have HTB:AO (∀ wz,Below w12.heap.size w12 wz->TB a w7.heap.size w8.heap.size wz (Z7 x2 a.nk a.nk)):=λwz h=>(HTB10.o.below HB12.o).below h
  have HTO:AO (∀ wz,Below w12.heap.size w12 wz->TO a w8.heap.size w9.heap.size wz (aH cs3)):=λwz h=>(HTO10.o.below HB12.o).below h
  have HO12:AO (w10.heap.size<=w12.heap.size):=HB12.o.size;have HO2:AO (w5.heap.size<=w6.heap.size/\w7.heap.size=w6.heap.size+1/\w7.heap.size<=w8.heap.size/\w8.heap.size<=w9.heap.size/\w10.heap.size=w9.heap.size+1/\w10.heap.size<=w12.heap.size):=⟨HO.o.1,HO.o.2.1,HO.o.2.2.1,HO.o.2.2.2.1,HO.o.2.2.2.2.1,HB12.o.size⟩
  clear HO;have HO:=HO2;clear HO2 HO12 HIn HBn HRn HQn HB11 HB12 HAS HL10 HTS10 HTB10 HTO10 HX10 HY10 hG1;have A:=Li HOK.o HL12.o.s1 HL12.o.l5.s0;go_wp2_with (first
   |(refine Ae rfl 35 (aM 12) rfl (G1) rfl 35 _ (0,0) _ HL12.o.g1 underlying35 rfl HI4.o ?_)
   |(refine Ae rfl 35 (aM 8) rfl (G0) rfl 35 _ (0,0) _ HL12.o.l5.g0 underlying35 rfl HI0.o ?_)
   |fail)
  refine A.mono ?_;rintro e w13 ⟨rfl,hb13⟩;have HL13:AO (L9 a w sc oc w5.heap.size G0 cs0 w10.heap.size G1 cs4 w13):=HL12.o.call hb13;have HB13:AO (Below w12.heap.size w12 w13):=hb13;clear A hb13 HL12;go_wp2_with fail;refine Ag AM ?_;refine Cn (λ_ a b=>Below a.heap.size a b) (frame:=(λ(a b c d e f g h i j k l m n o p q r s u v w x y z A B C D E F G H I J K L M N O P Q R S T U V W X Y Z a0 a1 a2 a3 a4 a5 a6 a7 a8 a9 b0 b1 b2 b3 b4 b5 b6 b7 b8 b9 c0 c1 c2 c3 c4 c5 c6 c7 c8 c9 d0 d1 d2 d3 d4 d5 d6 d7 d8 d9 e0 e1 e2 e3 e4 e5 e6 e7 e8:aB)=>λ(t:Nat->aB)=>({ tmps:=List.toArray [a,b,c,d,e,f,g,h,i,j,k,l,m,n,o,p,q,r,s,u,v,w,x,y,z,A,B,C,D,E,F,G,H,I,J,K,L,M,N,O,P,Q,R,S,T,U,V,W,X,Y,Z,t 0,t 1,t 2,t 3,t 4,a0,a1,a2,a3,a4,a5,a6,a7,a8,a9,b0,b1,b2,b3,b4,b5,b6,b7,b8,b9,c0,c1,c2,c3,c4,c5,c6,c7,c8,c9,d0,d1,d2,d3,d4,d5,d6,d7,d8,d9,e0,e1,e2,e3,e4,e5,e6,e7,e8],defers:=[] }:Act)) _ _ _ _ _ _ _ _ _ _ _ _ _ _ _ _ _ _ _ _ _ _ _ _ _ _ _ _ _ _ _ _ _ _ _ _ _ _ _ _ _ _ _ _ _ _ _ _ _ _ _ _ _ _ _ _ _ _ _ _ _ _ _ _ _ _ _ _ _ _ _ _ _ _ _ _ _ _ _ _ _ _ _ _ _ _ _ _ _ _ _ _ _ _ _ _ _ _ _ _)
   (Ext:=λL u w'=>JC w13 [] L u w') (Good:=λi L w' v=>if i=0 then v=aH cs1 else if i=1 then v=aH sc else if i=2 then Qk a w' v else if i=3 then v=aG true else if i=4 then v=aG false else True) ?hstab AM ?hop ?hdone _ _ ((λ(x0 x1 x2 x3 x4:aB)=>λ(i:Nat)=>if i=0 then x0 else if i=1 then x1 else if i=2 then x2 else if i=3 then x3 else if i=4 then x4 else undef) _ _ _ _ _) _ AL ?ext ?start AL
  case start=>intro i hi h;exact absurd h Et
  case ext=>exact(JC.start w13 [] _ _ (λ_=>J6)).drew
  case hstab=>
   intro j L w9 w' i v hM _ _ h;by_cases h2:j=2
   ·subst h2;simp at h |-;exact h.below hM
   simp only[if_neg h2] at h |-;exact h
  case hop=>
   intro i o L t w' ho hLi hx hdep K hK;have hi:i<5:=(AR.1 ho).1;obtain rfl|rfl|rfl|rfl|rfl:i=0\/i=1\/i=2\/i=3\/i=4:=AJ
   all_goals(simp at ho;subst ho)
   ·clear hdep;have hr:w'.heap[w6.heap.size]?=aE (aJ cs1 33 (0,0)):=by rw[hx.below.block _ (FI (HX.o w13 HB13.o))];exact(HX.o w13 HB13.o)
    have hK':=hK w' (aH cs1) AL (hx.step 0 _ Cg DY) Cg;clear hK;rw[AP AN];refine BR 33 (aM 9) rfl (w6.heap.size) rfl 33 _ (0,0) _ hr underlying33 rfl HI1.o ?_;go_simp;simpa[Ce] using hK'
   ·clear hdep;have hr:w'.heap[w.heap.size]?=aE (aJ sc 25 (0,0)):=by rw[hx.below.block _ (Nat.lt_trans (Nat.lt_succ_self _) HL13.o.l5.l0.lt)];exact HL13.o.l5.l0.b0
    have hK':=hK w' (aH sc) AL (hx.step 1 _ Cg DY) Cg;clear hK;rw[AP AN];refine BR 25 (aM 3) rfl (w.heap.size) rfl 25 _ (0,0) _ hr underlying25 rfl HSL.o ?_;go_simp;simpa[Ce] using hK'
   ·have d1:t 1=aH sc:=by simpa using(hdep ⟨1,aL⟩ AL rfl).2
    clear hdep;have bw:Below w.heap.size w w':=HL13.o.l5.l0.below.trans (hx.below.mono HL13.o.l5.l0.below.size);have A:=HCS.o w' bw;have hK':∀ ww v,Qk a ww v->Below w'.heap.size w' ww->K _ ww:=λww v hv hb=>hK ww v (by simpa using hv) (hx.step 2 v hb DY) hb
    clear hK bw;rw[AP AN];go_simp;try simp only[d1]
    refine A.mono ?_;rintro e w9 ⟨v9,rfl,hv9,hb9⟩;have hK2:=hK' w9 v9 ⟨_,_,hv9⟩ hb9;clear hK' A hv9 hb9;go_simp;simpa[Ce,d1] using hK2
   ·have d0:t 0=aH cs1:=by simpa using(hdep ⟨0,aL⟩ AL rfl).2
    have f2:Qk a w' (t 2):=by simpa using(hdep ⟨2,aL⟩ AL rfl).2
    clear hdep;obtain⟨lS,hS,f2⟩:=f2;have A:=VX HOK.o ((HTS.o w13 HB13.o).below hx.below) f2;have hK':∀ ww,Below w'.heap.size w' ww->K _ ww:=λww hb=>hK ww (aG true) AL (hx.step 3 _ hb DY) hb
    clear hK f2;rw[AP AN];go_simp;try simp only[d0]
    refine A.mono ?_;rintro e w9 ⟨rfl,hb⟩;have hK2:=hK' w9 hb;clear hK' A hb;go_simp;simpa[Ce,d0] using hK2
   ·have d3:t 3=aG true:=by simpa using(hdep ⟨3,aL⟩ AL rfl).2
    clear hdep;have hK':=hK w' (aG false) AL (hx.step 4 _ Cg DY) Cg;clear hK;rw[AP AN];go_simp;simpa[Ce,d3] using hK'
  case hdone=>
   intro L t w14 hx hg;have e4:t 4=aG false:=by simpa using hg 4 AK
   have HL14:AO (L9 a w sc oc w5.heap.size G0 cs0 w10.heap.size G1 cs4 w14):=HL13.o.call hx.below;have HB14:AO (Below w12.heap.size w12 w14):=HB13.o.trans (hx.below.mono HB13.o.size);clear hg hx HL13 HB13;simp only[e4];clear e4;go_wp2_with fail;refine(JS HOK.o ka ck (HA.o w14 HL14.o.l5.l0.below).2.2.2.1).mono ?_;rintro e w15 ⟨v15,rfl,ht15,hb15⟩;have HB15:AO (Below w12.heap.size w12 w15):=HB14.o.trans (hb15.mono HB14.o.size);have HL15:AO (L9 a w sc oc w5.heap.size G0 cs0 w10.heap.size G1 cs4 w15):=HL14.o.call hb15;have A:=VZ HOK.o (HTB.o w15 HB15.o) ht15;obtain⟨x15,rfl⟩:=ht15.slice;clear ht15 hb15 HL14 HB14;go_wp2_with fail;refine A.mono ?_;rintro e w16 ⟨rfl,hb16⟩;have HL16:AO (L9 a w sc oc w5.heap.size G0 cs0 w10.heap.size G1 cs4 w16):=HL15.o.call hb16;have HB16:AO (Below w12.heap.size w12 w16):=HB15.o.trans (hb16.mono HB15.o.size);clear A hb16 HL15 HB15;go_wp2_with fail;refine Ag AM ?_;refine Cn (λ_ a b=>Below a.heap.size a b) (frame:=(λ(a b c d e f g h i j k l m n o p q r s u v w x y z A B C D E F G H I J K L M N O P Q R S T U V W X Y Z a0 a1 a2 a3 a4 a5 a6 a7 a8 a9 b0 b1 b2 b3 b4 b5 b6 b7 b8 b9 c0 c1 c2 c3 c4 c5 c6 c7 c8 c9 d0 d1 d2 d3 d4 d5 d6 d7 d8 d9 e0 e1 e2 e3 e4 e5 e6 e7 e8:aB)=>λ(t:Nat->aB)=>({ tmps:=List.toArray [a,b,c,d,e,f,g,h,i,j,k,l,m,n,o,p,q,r,s,u,v,w,x,y,z,A,B,C,D,E,F,G,H,I,J,K,L,M,N,O,P,Q,R,S,T,U,V,W,X,Y,Z,a0,a1,a2,a3,a4,a5,a6,a7,a8,a9,t 0,t 1,t 2,t 3,t 4,b0,b1,b2,b3,b4,b5,b6,b7,b8,b9,c0,c1,c2,c3,c4,c5,c6,c7,c8,c9,d0,d1,d2,d3,d4,d5,d6,d7,d8,d9,e0,e1,e2,e3,e4,e5,e6,e7,e8],defers:=[] }:Act)) _ _ _ _ _ _ _ _ _ _ _ _ _ _ _ _ _ _ _ _ _ _ _ _ _ _ _ _ _ _ _ _ _ _ _ _ _ _ _ _ _ _ _ _ _ _ _ _ _ _ _ _ _ _ _ _ _ _ _ _ _ _ _ _ _ _ _ _ _ _ _ _ _ _ _ _ _ _ _ _ _ _ _ _ _ _ _ _ _ _ _ _ _ _ _ _ _ _ _ _)
    (Ext:=λL u w'=>JC w16 [] L u w') (Good:=λi L w' v=>if i=0 then v=aH cs3 else if i=1 then v=aH oc else if i=2 then Ql a w' v else if i=3 then v=aG true else if i=4 then v=aG false else True) ?hstab AM ?hop ?hdone _ _ ((λ(x0 x1 x2 x3 x4:aB)=>λ(i:Nat)=>if i=0 then x0 else if i=1 then x1 else if i=2 then x2 else if i=3 then x3 else if i=4 then x4 else undef) _ _ _ _ _) _ AL ?ext ?start AL
   case start=>intro i hi h;exact absurd h Et
   case ext=>exact(JC.start w16 [] _ _ (λ_=>J6)).drew
   case hstab=>
    intro j L w9 w' i v hM _ _ h;by_cases h2:j=2
    ·subst h2;simp at h |-;exact h.below hM
    simp only[if_neg h2] at h |-;exact h
   case hop=>
    intro i o L t w' ho hLi hx hdep K hK;have hi:i<5:=(AR.1 ho).1;obtain rfl|rfl|rfl|rfl|rfl:i=0\/i=1\/i=2\/i=3\/i=4:=AJ
    all_goals(simp at ho;subst ho)
    ·clear hdep;have hr:w'.heap[w9.heap.size]?=aE (aJ cs3 39 (0,0)):=by rw[hx.below.block _ (FI (HY.o w16 HB16.o))];exact(HY.o w16 HB16.o)
     have hK':=hK w' (aH cs3) AL (hx.step 0 _ Cg DY) Cg;clear hK;rw[AP AN];refine BR 39 (aM 11) rfl (w9.heap.size) rfl 39 _ (0,0) _ hr underlying39 rfl HI3.o ?_;go_simp;simpa[Ce] using hK'
    ·clear hdep;have hr:w'.heap[w.heap.size+1]?=aE (aJ oc 28 (0,0)):=by rw[hx.below.block _ HL16.o.l5.l0.lt];exact HL16.o.l5.l0.b1
     have hK':=hK w' (aH oc) AL (hx.step 1 _ Cg DY) Cg;clear hK;rw[AP AN];refine BR 28 (aM 5) rfl (w.heap.size+1) rfl 28 _ (0,0) _ hr underlying28 rfl HSO.o ?_;go_simp;simpa[Ce] using hK'
    ·have d1:t 1=aH oc:=by simpa using(hdep ⟨1,aL⟩ AL rfl).2
     clear hdep;have bw:Below w.heap.size w w':=HL16.o.l5.l0.below.trans (hx.below.mono HL16.o.l5.l0.below.size);have A:=HCO.o w' bw;have hK':∀ ww v,Ql a ww v->Below w'.heap.size w' ww->K _ ww:=λww v hv hb=>hK ww v (by simpa using hv) (hx.step 2 v hb DY) hb
     clear hK bw;rw[AP AN];go_simp;try simp only[d1]
     refine A.mono ?_;rintro e w9 ⟨v9,rfl,hv9,hb9⟩;have hK2:=hK' w9 v9 ⟨_,_,hv9⟩ hb9;clear hK' A hv9 hb9;go_simp;simpa[Ce,d1] using hK2
    ·have d0:t 0=aH cs3:=by simpa using(hdep ⟨0,aL⟩ AL rfl).2
     have f2:Ql a w' (t 2):=by simpa using(hdep ⟨2,aL⟩ AL rfl).2
     clear hdep;obtain⟨lS,hS,f2⟩:=f2;have A:=Va HOK.o ((HTO.o w16 HB16.o).below hx.below) f2;have hK':∀ ww,Below w'.heap.size w' ww->K _ ww:=λww hb=>hK ww (aG true) AL (hx.step 3 _ hb DY) hb
     clear hK f2;rw[AP AN];go_simp;try simp only[d0]
     refine A.mono ?_;rintro e w9 ⟨rfl,hb⟩;have hK2:=hK' w9 hb;clear hK' A hb;go_simp;simpa[Ce,d0] using hK2
    ·have d3:t 3=aG true:=by simpa using(hdep ⟨3,aL⟩ AL rfl).2
     clear hdep;have hK':=hK w' (aG false) AL (hx.step 4 _ Cg DY) Cg;clear hK;rw[AP AN];go_simp;simpa[Ce,d3] using hK'
   case hdone=>
    intro L t w17 hx hg;have e4:t 4=aG false:=by simpa using hg 4 AK
    have HL17:AO (L9 a w sc oc w5.heap.size G0 cs0 w10.heap.size G1 cs4 w17):=HL16.o.call hx.below;have HB17:AO (Below w12.heap.size w12 w17):=HB16.o.trans (hx.below.mono HB16.o.size);clear hg hx HL16 HB16;simp only[e4];clear e4;have HX17:=HX.o w17 HB17.o;go_wp2_with (first
     |(refine Ae rfl 33 (aM 9) rfl (w6.heap.size) rfl 33 _ (0,0) _ HX17 underlying33 rfl HI1.o ?_)
     |fail)
    refine(Vb HOK.o (HTS.o w17 HB17.o) 1 AK AK (AH HO.o HB17.o.size)).mono ?_;rintro e w18 ⟨rfl,hm18⟩;have HL18:AO (L9 a w sc oc w5.heap.size G0 cs0 w10.heap.size G1 cs4 w18):=HL17.o.mid (hm18.mono Cl (AG HO.o));have HTB18:AO (TB a w7.heap.size w8.heap.size w18 (Z7 x2 a.nk a.nk)):=(HTB.o w17 HB17.o).mid hm18 (.inr (AG HO.o));have HTO18:AO (TO a w8.heap.size w9.heap.size w18 (aH cs3)):=(HTO.o w17 HB17.o).mid hm18 (.inr (AG HO.o));have HY18:AO (w18.heap[w9.heap.size]?=aE (aJ cs3 39 (0,0))):=by
     show _=_
     have hy:=HY.o w17 HB17.o;rw[hm18.block _ (AR.1 hy).1 (.inr (AG HO.o))];exact hy
    have hbn:(0:Int)<=1+a.nD+a.nU+a.nT*2/\1+(a.nD:Int)+a.nU+a.nT*2<=8388608:=by have:=HOK.o.bD;have:=HOK.o.bU;have:=HOK.o.bT;exact⟨AJ,AJ⟩
    generalize 1+(a.nD:Int)+a.nU+a.nT*2=k1 at *;have HK1:=Cd hbn;clear hbn hm18 HX17 HX HTS HTB HTO HY HL17 HB17;go_wp2_with fail;refine(Vc HOK.o HTB18.o k1 HK1.o.1 (AG HK1.o.2)).mono ?_;rintro e w19 ⟨rfl,hm19⟩;have HL19:AO (L9 a w sc oc w5.heap.size G0 cs0 w10.heap.size G1 cs4 w19):=HL18.o.mid (hm19.mono (AG HO.o) (AG HO.o));have HTO19:AO (TO a w8.heap.size w9.heap.size w19 (aH cs3)):=HTO18.o.mid hm19 (.inr Cl);have HY19:AO (w19.heap[w9.heap.size]?=aE (aJ cs3 39 (0,0))):=by
     show _=_
     rw[hm19.block _ (AR.1 HY18.o).1 (.inr (AG HO.o))];exact HY18.o
    have hbn:(0:Int)<=k1+a.nk/\k1+a.nk<=16777216:=by have:=HOK.o.bk;have:=HK1.o;exact⟨AJ,AJ⟩
    generalize k1+(a.nk:Int)=k2 at *;have HK2:=Cd hbn;clear hbn hm19 HL18 HTB18 HTO18 HY18 HK1;go_wp2_with (first
     |(refine Ae rfl 39 (aM 11) rfl (w9.heap.size) rfl 39 _ (0,0) _ HY19.o underlying39 rfl HI3.o ?_)
     |fail)
    refine(Vd HOK.o HTO19.o k2 HK2.o.1 (AG HK2.o.2)).mono ?_;rintro e w20 ⟨rfl,hm20⟩;have HL20:AO (L9 a w sc oc w5.heap.size G0 cs0 w10.heap.size G1 cs4 w20):=HL19.o.mid (hm20.mono (AG HO.o) (AG HO.o));have hkk:¬ (k2+(a.tn:Int)<0):=AG HK2.o
    generalize k2+(a.tn:Int)=k3 at *;clear hm20 HL19 HTO19 HY19 HK2;have A:=Li HOK.o HL20.o.s1 HL20.o.l5.s0;go_wp2_with (first
     |(refine I2 (by first|rfl|(simp[Region.wanted,yielded,Act.put,hkk];done)) λ_ hK=>BR 35 (aM 12) rfl (G1) rfl 35 _ (0,0) _ HL20.o.g1 underlying35 rfl HI4.o (hK _ _ ?_))
     |(refine I2 (by first|rfl|(simp[Region.wanted,yielded,Act.put,hkk];done)) λ_ hK=>BR 35 (aM 8) rfl (G0) rfl 35 _ (0,0) _ HL20.o.l5.g0 underlying35 rfl HI0.o (hK _ _ ?_))
     |fail)
    refine A.mono ?_;rintro e w21 ⟨rfl,hb21⟩;have HL21:AO (L9 a w sc oc w5.heap.size G0 cs0 w10.heap.size G1 cs4 w21):=HL20.o.call hb21;clear A hb21 HL20;go_wp2_with (first
     |(refine Ae rfl 35 (aM 12) rfl (G1) rfl 35 _ (0,0) _ HL21.o.g1 underlying35 rfl HI4.o ?_)
     |fail)
    refine(Ve HOK.o HL21.o.s1 (AH (FI HL21.o.g1) HL21.o.g1ge)).mono ?_;rintro e w22 ⟨m,rfl,hmr,hm0,hb22,hn22⟩;have HM22:AO (L5 a w sc oc w5.heap.size G0 cs0 w22):=HL21.o.l5.keep (hb22.mono HL21.o.h10) (AI (FI HL21.o.g1) HL21.o.g1ge HL21.o.h10);have HG22:AO (w22.heap[G1]?=aE (aJ cs4 35 (0,0))):=by
     show _=_
     rw[hn22 _ (FI HL21.o.g1) (λh=>HL21.o.s1ne _ h rfl)];exact HL21.o.g1
    have HMR:=Cd hmr;have hmm:¬ (m<0):=AJ
    have hme:(m != m)=false:=AL
    clear hmr hm0 hb22 hn22 HL21;go_wp2_with (first
     |(refine Ae rfl 35 (aM 12) rfl (G1) rfl 35 _ (0,0) _ HG22.o underlying35 rfl HI4.o ?_)
     |fail)
    refine(Vf HMR.o).mono ?_;rintro e w23 ⟨rfl,hb23⟩;have HM23:AO (L5 a w sc oc w5.heap.size G0 cs0 w23):=HM22.o.call hb23;clear hb23 HM22 HMR HG22;go_wp2_with fail;refine Ag AM ?_;refine GI 8 (λ_ a b=>Below a.heap.size a b) (frame:=(λ(a b c d e f g h i j k l m n o p q r s u v w x y z A B C D E F G H I J K L M N O P Q R S T U V W X Y Z a0 a1 a2 a3 a4 a5 a6 a7 a8 a9 b0 b1 b2 b3 b4 b5 b6 b7 b8 b9 c0 c1 c2 c3 c4 c5 c6 c7 c8 c9 d0 d1 d2 d3 d4 d5 d6 d7 d8 d9 e0 e1 e2 e3 e4 e5:aB)=>λ(t:Nat->aB)=>({ tmps:=List.toArray [a,b,c,d,e,f,g,h,i,j,k,l,m,n,o,p,t 7,q,r,s,u,v,w,x,y,z,A,B,C,D,E,F,G,H,I,J,K,L,M,N,O,P,Q,R,S,T,U,V,W,X,Y,Z,a0,a1,a2,a3,a4,a5,a6,a7,a8,a9,b0,b1,b2,b3,b4,b5,b6,b7,b8,b9,c0,c1,c2,c3,c4,c5,c6,c7,c8,c9,d0,d1,d2,d3,d4,d5,d6,d7,d8,d9,e0,e1,t 0,t 1,t 2,t 3,t 4,t 5,t 6,e2,e3,e4,e5],defers:=[] }:Act)) _ _ _ _ _ _ _ _ _ _ _ _ _ _ _ _ _ _ _ _ _ _ _ _ _ _ _ _ _ _ _ _ _ _ _ _ _ _ _ _ _ _ _ _ _ _ _ _ _ _ _ _ _ _ _ _ _ _ _ _ _ _ _ _ _ _ _ _ _ _ _ _ _ _ _ _ _ _ _ _ _ _ _ _ _ _ _ _ _ _ _ _ _ _ _ _ _)
     (Ext:=λL u w'=>SD w23 [6,7] L u w') (Good:=λi L w' v=>if i=0 then v=aH sc else if i=1 then Qk a w' v else if i=2 then v=Z7 ka a.nk ck else if i=3 then Vg a w' v else if i=4 then v=aH oc else if i=5 then Ql a w' v else if i=6 then IC w23.heap.size w' v a.R else if i=7 then XT w23.heap.size w' v else True) (Fin:=Yh IC 7 w23 a.R) rfl AM ?hstab AM ?hop ?hend ?hdone _ _ ((λ(x0 x1 x2 x3 x4 x5 x6 x7:aB)=>λ(i:Nat)=>if i=0 then x0 else if i=1 then x1 else if i=2 then x2 else if i=3 then x3 else if i=4 then x4 else if i=5 then x5 else if i=6 then x6 else if i=7 then x7 else undef) _ _ _ _ _ _ _ _) _ AL ?none ?ext AL
    case none=>exact λ_=>J6
    case ext=>exact SD.start w23 [6,7] _ _ (λ_=>J6) ⟨rfl,rfl,rfl,Ac _,λ_ _=>rfl⟩
    case hstab=>
     intro j L w9 w' i v _ hM _ _ h;by_cases h1:j=1
     ·subst h1;simp at h |-;exact h.below hM
     by_cases h3:j=3
     ·subst h3;simp at h |-;exact h.below hM
     by_cases h5:j=5
     ·subst h5;simp at h |-;exact h.below hM
     by_cases h6:j=6
     ·subst h6;simp at h |-;exact h.below hM
     by_cases h7:j=7
     ·subst h7;simp at h |-;exact h.below hM
     simp only[if_neg h1,if_neg h3,if_neg h5,if_neg h6,if_neg h7] at h |-;exact h
    case hop=>
     intro i o L t w' hi ho hLi hx hdep K hK;obtain rfl|rfl|rfl|rfl|rfl|rfl|rfl|rfl:i=0\/i=1\/i=2\/i=3\/i=4\/i=5\/i=6\/i=7:=AJ
     all_goals(simp at ho;subst ho)
     ·clear hdep;have hr:w'.heap[w.heap.size]?=aE (aJ sc 25 (0,0)):=by rw[hx.below.block _ (Nat.lt_trans (Nat.lt_succ_self _) HM23.o.l0.lt)];exact HM23.o.l0.b0
      have hK':=hK w' (aH sc) AL (hx.step 0 _ Cg DY) Cg;clear hK;rw[AP AN];refine BR 25 (aM 3) rfl (w.heap.size) rfl 25 _ (0,0) _ hr underlying25 rfl HSL.o ?_;go_simp;simpa[Ce] using hK'
     ·have d0:t 0=aH sc:=by simpa using(hdep ⟨0,aL⟩ AL rfl).2
      clear hdep;have bw:Below w.heap.size w w':=HM23.o.l0.below.trans (hx.below.mono HM23.o.l0.below.size);have A:=HCS.o w' bw;have hK':∀ ww v,Qk a ww v->Below w'.heap.size w' ww->K _ ww:=λww v hv hb=>hK ww v (by simpa using hv) (hx.step 1 v hb DY) hb
      clear hK bw;rw[AP AN];go_simp;try simp only[d0]
      refine A.mono ?_;rintro e w9 ⟨v9,rfl,hv9,hb9⟩;have hK2:=hK' w9 v9 ⟨_,_,hv9⟩ hb9;clear hK' A hv9 hb9;go_simp;simpa[Ce,d0] using hK2
     ·clear hdep;have hK':=hK w' (Z7 ka a.nk ck) AL (hx.step 2 _ Cg DY) Cg;clear hK;rw[AP AN];go_simp;simpa[Ce] using hK'
     ·have d2:t 2=Z7 ka a.nk ck:=by simpa using(hdep ⟨2,aL⟩ AL rfl).2
      clear hdep;have bw:Below w.heap.size w w':=HM23.o.l0.below.trans (hx.below.mono HM23.o.l0.below.size);have A:=JS HOK.o ka ck (HA.o w' bw).2.2.2.1;have hK':∀ ww v,Vg a ww v->Below w'.heap.size w' ww->K _ ww:=λww v hv hb=>hK ww v (by simpa using hv) (hx.step 3 v hb DY) hb
      clear hK bw;rw[AP AN];go_simp;try simp only[d2]
      refine A.mono ?_;rintro e w9 ⟨v9,rfl,hv9,hb9⟩;have hK2:=hK' w9 v9 ⟨_,_,hv9⟩ hb9;clear hK' A hv9 hb9;go_simp;simpa[Ce,d2] using hK2
     ·clear hdep;have hr:w'.heap[w.heap.size+1]?=aE (aJ oc 28 (0,0)):=by rw[hx.below.block _ HM23.o.l0.lt];exact HM23.o.l0.b1
      have hK':=hK w' (aH oc) AL (hx.step 4 _ Cg DY) Cg;clear hK;rw[AP AN];refine BR 28 (aM 5) rfl (w.heap.size+1) rfl 28 _ (0,0) _ hr underlying28 rfl HSO.o ?_;go_simp;simpa[Ce] using hK'
     ·have d4:t 4=aH oc:=by simpa using(hdep ⟨4,aL⟩ AL rfl).2
      clear hdep;have bw:Below w.heap.size w w':=HM23.o.l0.below.trans (hx.below.mono HM23.o.l0.below.size);have A:=HCO.o w' bw;have hK':∀ ww v,Ql a ww v->Below w'.heap.size w' ww->K _ ww:=λww v hv hb=>hK ww v (by simpa using hv) (hx.step 5 v hb DY) hb
      clear hK bw;rw[AP AN];go_simp;try simp only[d4]
      refine A.mono ?_;rintro e w9 ⟨v9,rfl,hv9,hb9⟩;have hK2:=hK' w9 v9 ⟨_,_,hv9⟩ hb9;clear hK' A hv9 hb9;go_simp;simpa[Ce,d4] using hK2
     ·have f1:Qk a w' (t 1):=by simpa using(hdep ⟨1,aL⟩ AL rfl).2
      have f3:Vg a w' (t 3):=by simpa using(hdep ⟨3,aL⟩ AL rfl).2
      have f5:Ql a w' (t 5):=by simpa using(hdep ⟨5,aL⟩ AL rfl).2
      clear hdep;have bw:Below w.heap.size w w':=HM23.o.l0.below.trans (hx.below.mono HM23.o.l0.below.size);obtain⟨lS,hS,f1⟩:=f1;obtain⟨lB,hB,f3⟩:=f3;obtain⟨lO,hO,f5⟩:=f5;have hszw:w23.heap.size<=w'.heap.size:=hx.below.size;have A:=PY HOK.o f1 f3 f5 (HA.o w' bw).2.2.2.2.2.1 (As HV1.o bw.size) (HA.o w' bw).2.2.2.2.2.2;have hK':∀ ww v,IC w'.heap.size ww v a.R->Below w'.heap.size w' ww->K _ ww:=λww v hv hb=>hK ww v (by simpa using hv.mono hszw) (hx.step 6 v hb (λ_=>hv.fresh)) hb
      clear hK bw f1 f3 f5;rw[AP AN];go_simp;refine A.mono ?_;rintro e w9 ⟨v9,rfl,hv9,hb9⟩;have hK2:=hK' w9 v9 hv9 hb9;clear hK' A hv9 hb9;go_simp;simpa[Ce] using hK2
     ·clear hdep;have hsz:w23.heap.size<=w'.heap.size:=hx.below.size;have bb:Below w'.heap.size w' (w'.alloc (aJ CX 35)):=Cg.alloc Cl _;have hK':=hK (w'.alloc (aJ CX 35)) (aF (aE ⟨w'.heap.size,0,aA⟩)) (by simpa using⟨w'.heap.size,rfl,hsz,AX w' _⟩) (hx.step 7 _ bb (λ_=>λj hj=>by rw[Hf] at hj;subst hj;exact⟨Ac _,AL⟩)) bb;clear hK bb;rw[AP AN];go_simp;simpa[Ce] using hK'
    case hend=>
     intro o L t w' ho hx hg K hK;simp at ho;subst ho;have l6:L 6=true:=(hg 6 AK).1;have f6:IC w23.heap.size w' (t 6) a.R:=by simpa using(hg 6 AK).2
     have l7:L 7=true:=(hg 7 AK).1;have f7:XT w23.heap.size w' (t 7):=by simpa using(hg 7 AK).2
     clear hg;obtain⟨G,e7,hG,hrow⟩:=f7;have hap:=hx.ap 6 AK 7 AK AK l6 l7;obtain⟨cs,e6,h1,h2⟩:=f6.cells;have hK':∀ ww,Wr G w' ww->ww.heap[G]?=aE (aJ cs 35 (0,0))->K _ ww:=λww hw hr=>hK ww undef ⟨G,cs,by simp[Ce];exact e7,hG,hr,(e6 ▸ f6).wrG hw (λj hj e=>hap j (by rw[e6];exact hj) (by rw[e7,Hf];exact e)),λj hj e=>hap j (by rw[e6];exact hj) (by rw[e7,Hf];exact e),hx.below.trans (hw.below hG)⟩
     clear hK;rw[AP AN];refine Bt 35 (aM 16) (aM 100) rfl G cs e7 e6 35 _ hrow (by rw[h1];exact HRZ.o) (by rw[h1];rfl) h2 ?_;have hK2:=hK' _ (Wr.setRow _ _ _) (AB hrow);clear hK';simpa[Ce,Act.put] using hK2
    case hdone=>
     intro t w24 hf;obtain⟨G2,cs,e7,hG,hrow,hpv,hne,hbw⟩:=hf;obtain⟨cs5,e5,hz5,-⟩:=hpv.cells;cases e5;have HI5:AO ((tP.info? 35).map (·.size)=aE cs.size):=by show _=_;rw[hz5];exact HRZ.o
     have HM24:AO (L5 a w sc oc w5.heap.size G0 cs0 w24):=HM23.o.call hbw;have HG2:AO (w24.heap[G2]?=aE (aJ cs 35 (0,0))):=hrow;have A:=Li HOK.o hpv HM24.o.s0;simp only[e7];clear hbw hrow hpv hne hz5 HM23 e7;go_wp2_with (first
      |(refine Ae rfl 35 (aM 16) rfl (G2) rfl 35 _ (0,0) _ HG2.o underlying35 rfl HI5.o ?_)
      |(refine Ae rfl 35 (aM 8) rfl (G0) rfl 35 _ (0,0) _ HM24.o.g0 underlying35 rfl HI0.o ?_)
      |fail)
     refine A.mono ?_;rintro e w25 ⟨rfl,hb25⟩;have HF:AO (Below w.heap.size w w25):=HM24.o.l0.below.trans (hb25.mono HM24.o.l0.below.size);clear A hb25 HM24 HG2;go_wp2
     go_ret
     exact⟨rfl,HF.o⟩
end Go.Proofs.YtjdhhgaelgemcaaGreatDoor
