import Derived.Test.YthmeoilbmfdhfaaGreatMDkJ
open Go.Value renaming slice->UD,int->UE,bool->UF
open Go.IntKind renaming u32->UG
open Go.Obj renaming cells->UP
open Option renaming some->UI
namespace Go.Proofs.YthmeoilbmfdhfaaGreat
set_option maxHeartbeats 4000000
set_option maxRecDepth 100000
open Go.ChangeShapes Go.WideShapes Go.ChangeAt Go.RowKit
set_option linter.unusedVariables false
theorem TD {zs:List Int} {ps:List PD} {q:Nat} (h:(Fh (GJ zs ps q)).ok=false):Eb zs ps (q+1)=Eb zs ps q:=by
 have e:Gx zs ps q=Fg:=by unfold Gx;rw[AS (by rw[h];simp)]
 show(if _ then _ else _)=_
 rw[AS (by rw[e];simp[Fg])]
theorem TE {zs:List Int} {ps:List PD} {q:Nat} (h:¬ (Fh (GJ zs ps q)).g%2=(q:Int)):Eb zs ps (q+1)=Eb zs ps q:=by
 have e:Gx zs ps q=Fg:=by unfold Gx;rw[AS (λk=>h k.2)]
 show(if _ then _ else _)=_
 rw[AS (by rw[e];simp[Fg])]
theorem Mj {zs:List Int} {ps:List PD} {q:Nat} (h:(Fh (GJ zs ps q)).ok=true) (h2:(Fh (GJ zs ps q)).g%2=(q:Int)):Gx zs ps q=Fh (GJ zs ps q):=by unfold Gx;rw[AR ⟨h,h2⟩]
theorem TF {zs:List Int} {ps:List PD} {q:Nat} (h:(Fh (GJ zs ps q)).ok=true) (h2:(Fh (GJ zs ps q)).g%2=(q:Int)) (h3:(Eb zs ps q).ok=false\/(Eb zs ps q).g<(Fh (GJ zs ps q)).g):Eb zs ps (q+1)=Fh (GJ zs ps q):=by
 have e:=Mj h h2;show(if _ then _ else _)=_
 rw[e,AR ⟨h,h3⟩]
theorem TG {zs:List Int} {ps:List PD} {q:Nat} (h:(Fh (GJ zs ps q)).ok=true) (h2:(Fh (GJ zs ps q)).g%2=(q:Int)) (h3:(Eb zs ps q).ok=true) (h4:¬ (Eb zs ps q).g<(Fh (GJ zs ps q)).g):Eb zs ps (q+1)=Eb zs ps q:=by
 have e:=Mj h h2;show(if _ then _ else _)=_
 rw[e,AS (by rw[h3];simp;intro _;omega)]
theorem KC {zs:List Int} (h:Cu zs):0<=(Fh zs).g/\(Fh zs).g<4294967296:=by
 unfold Fh;split
 ·have:=Gi zs h 0;unfold D8 at this;exact⟨by show 0<=DD zs 0;omega,by show DD zs 0<_;omega⟩
 ·exact⟨AL,AL⟩
structure NX (w:World) (r:K6) (wr:World):Prop where
 bel:Below w.heap.size w wr
 res:wr.heap[w.heap.size]?=UI (UP Ce 63 (0,0))
 new:∃ aD nD cD aU nU cU,wr.heap[w.heap.size+1]?=UI (UP #[UF r.ok,UE UG r.g,UE UG r.t,UD aD nD cD,UD aU nU cU] 63 (0,0))/\S3 (w.heap.size+2) wr aD aU none nD nU 0 r.D r.U []
theorem NX.lt {w wr:World} {r:K6} (h:NX w r wr):w.heap.size+1<wr.heap.size:=by obtain⟨_,_,_,_,_,_,h1,_⟩:=h.new;exact(AQ.1 h1).1
theorem NX.below {w wr w':World} {r:K6} (h:NX w r wr) (b:Below wr.heap.size wr w'):NX w r w':=by
 have hl:=h.lt;obtain⟨aD,nD,cD,aU,nU,cU,h1,h2⟩:=h.new;exact⟨h.bel.trans (b.mono h.bel.size),by rw[b.block _ AK];exact h.res,aD,nD,cD,aU,nU,cU,by rw[b.block _ hl];exact h1,h2.below b⟩
theorem NX.start (w:World):NX w Fg ((w.alloc (UP Ce 63)).alloc (UP Ce 63)):=by
 refine⟨(Cs.alloc Cw _).alloc AM _,?_,none,0,0,none,0,0,?_,.inl rfl,.inl rfl,.inl rfl,rfl,rfl,rfl,λ_ h=>(by cases h),λ_ h=>(by cases h),λ_ h=>(by cases h),λ_ _ h=>(by cases h),λ_ _ h=>(by cases h),λ_ _ h=>(by cases h)⟩
 ·rw[BH _ _ w.heap.size AM];exact AV w _
 ·have:=AV (w.alloc (UP Ce 63)) (UP Ce 63);rw[Bl] at this;exact this
theorem MA {w:World} {g:Nat} {a x:Option Addr} {L c m cx:Nat} {f:Int} {d:Bool} {zs:List Int} {ps:List PD} (h:Md w g a x L c m cx f d zs ps) (F:JF L c m f zs ps) :
  Calls Tryz.prog 35 #[.pointer (UI ⟨g,0,none⟩)] w λe w'=>∃ v,e=.returned v/\Rt w.heap.size w' v (Eb zs ps 2)/\Below w.heap.size w w':=by
 have HD:=Cp h;have HN0:=Cp (NX.start w);have HSR:AP ((Tryz.prog.info? 63).map (·.size)=UI 5):=by show _=_;kernel_rfl
 clear h;go_enter Tryz.func35,Tryz.ntmps35;go_wp2_with fail
 go_loopw [7] (λi wr=>∃ q:Nat,q<=2/\i=UE .i64 q/\NX w (Eb zs ps q) wr) (λi _=>2-(intOf i).toNat)
 case atStart=>exact⟨0,AK,rfl,HN0.o⟩
 case round=>
  clear HN0;obtain⟨q,hq,rfl,hN⟩:=hrel;have HN:=Cp hN;clear hN;by_cases hlt:q<2
  ·have hlt':(q:Int)<2:=AK
   obtain⟨sl,sb⟩:=F.sl q hlt;have A:=Cp (Ng (HD.o.below (HN.o.bel)) F q hlt);have HU:=Cp (KC sb);have hsz:((GJ zs ps q).map (Value.int .u8)).toArray.size=128:=by rw[BX,BI];exact sl
   have HSS:AP ((Tryz.prog.info? 124).map (·.size)=UI ((GJ zs ps q).map (Value.int .u8)).toArray.size):=by show _=_;rw[hsz];kernel_rfl
   have HEQ:AP ((Tryz.zeroCells124).size=((GJ zs ps q).map (Value.int .u8)).toArray.size):=by show _=_;rw[hsz];kernel_rfl
   have HOK:AP (((GJ zs ps q).map (Value.int .u8)).toArray.all (λx=>x.oneCell')=true):=by show _=_;simp[Value.oneCell']
   have HLB:=Cp (Ac sl sb);clear hsz sl sb;go_wp2_with fail;refine A.o.mono ?_;rintro e w1 ⟨rfl,b1⟩;have HN1:=Cp (HN.o.below b1);clear A b1 HN;have HB2:AP (Below w1.heap.size w1 ((w1.alloc (UP Tryz.zeroCells124 124)).setRow w1.heap.size ((GJ zs ps q).map (Value.int .u8)).toArray)):=(Cs.alloc Cw _).trans ((Wr.setRow _ _ _).below Cw);have HR2:AP (DP ((w1.alloc (UP Tryz.zeroCells124 124)).setRow w1.heap.size ((GJ zs ps q).map (Value.int .u8)).toArray) w1.heap.size 124 (GJ zs ps q)):=AB (AV w1 _);go_wp2_with (first
    |(refine AC 124 (.tmp 5) (.tmp 12) w1.heap.size (((GJ zs ps q).map (Value.int .u8)).toArray) 124 (AV w1 _) HSS.o HEQ.o HOK.o ?_)
    |fail)
   have HN2:=Cp (HN1.o.below HB2.o);clear HN1 HB2 HSS HEQ HOK;generalize (w1.alloc (UP Tryz.zeroCells124 124)).setRow w1.heap.size ((GJ zs ps q).map (Value.int .u8)).toArray=w2 at *;have A:=Cp (PM w1.heap.size (GJ zs ps q) w2 HR2.o HLB.o.1 HLB.o.2);clear HR2;go_wp2_with fail;refine A.o.mono ?_;rintro e w3 ⟨v3,rfl,hv3,b3⟩;obtain⟨aD,nD,cD,aU,nU,cU,rfl,s3⟩:=hv3;have HN3:=Cp (HN2.o.below b3);have HS3:AP (S3 (w.heap.size+2) w3 aD aU none nD nU 0 (Fh (GJ zs ps q)).D (Fh (GJ zs ps q)).U []):=by
    have:=HN2.o.lt;exact⟨s3.d,s3.u,s3.t,s3.nd,s3.nu,s3.nt,s3.ld.mono AK Cw,s3.lu.mono AK Cw,s3.lt.mono AK Cw,s3.du,s3.dt,s3.ut⟩
   have Ka:=Cp (TD (zs:=zs) (ps:=ps) (q:=q));have Kb:=Cp (TE (zs:=zs) (ps:=ps) (q:=q));have Kc:=Cp (TF (zs:=zs) (ps:=ps) (q:=q));have Kd:=Cp (TG (zs:=zs) (ps:=ps) (q:=q));clear A b3 s3 HN2 HLB;generalize Fh (GJ zs ps q)=s at *;have hB4:Below w3.heap.size w3 ((w3.alloc (UP Ce 63)).setRow w3.heap.size #[UF s.ok,UE UG s.g,UE UG s.t,UD aD nD cD,UD aU nU cU]):=(Cs.alloc Cw _).trans ((Wr.setRow _ _ _).below Cw);have HR4:AP (((w3.alloc (UP Ce 63)).setRow w3.heap.size #[UF s.ok,UE UG s.g,UE UG s.t,UD aD nD cD,UD aU nU cU]).heap[w3.heap.size]?=UI (UP #[UF s.ok,UE UG s.g,UE UG s.t,UD aD nD cD,UD aU nU cU] 63 (0,0))):=AB (AV w3 _);have HN4:=Cp (HN3.o.below hB4);have HS4:=Cp (HS3.o.below hB4);have hl3:=HN3.o.lt;clear hB4
   go_upto_region 7 with (first
    |(refine AC 63 (.tmp 6) (.tmp 13) w3.heap.size #[UF s.ok,UE UG s.g,UE UG s.t,UD aD nD cD,UD aU nU cU] 63 (AV w3 _) HSR.o rfl (Er _ _ _ _ _ _ _ _ _) ?_)
    |fail)
   clear HN3 HS3;generalize (w3.alloc (UP Ce 63)).setRow w3.heap.size #[UF s.ok,UE UG s.g,UE UG s.t,UD aD nD cD,UD aU nU cU]=w4 at *;generalize w3.heap.size=Q at *;have c0:=AA HR4.o 0;have c1:=AA HR4.o 1;simp at c0 c1;generalize hr:Eb zs ps q=r at *;obtain⟨bD,mD,kD,bU,mU,kU,hnw,hns⟩:=HN4.o.new;have n0:=AA hnw 0;have n1:=AA hnw 1;simp at n0 n1;clear hnw hns;obtain⟨u0,u1⟩:=HU.o;cases hok:s.ok with
   |false=>
    have HK:=Cp (Ka.o hok);rw[hok] at c0;clear Ka Kb Kc Kd n0 n1 c1 HS4;go_wp2;go_roundw
    case rel=>exact⟨q+1,AK,by go_num,by rw[HK.o];exact HN4.o⟩
    case measure=>simp[intOf];omega
   |true=>
    rw[hok] at c0;have hmod:s.g%2=0\/s.g%2=1:=AK
    go_wp2_with fail;refine(I2 s.g u0 u1 _).mono ?_;rintro e w9 ⟨rfl,h9⟩;obtain rfl:w4=w9:=h9.symm;by_cases he:s.g%2=(q:Int)
    ·have hne:(s.g%2 != (q:Int))=false:=by simp[he]
     cases hrk:r.ok with
     |false=>
      have HK:=Cp (Kc.o hok he (.inl hrk));rw[hrk] at n0;clear Ka Kb Kc Kd;have HR5:AP (w4.heap[Q]?=UI (UP #[UF true,UE UG s.g,UE UG s.t,UD aD nD cD,UD aU nU cU] 63 (0,0))):=by show _=_;have:=HR4.o;rw[hok] at this;exact this
      have HNT:AP (NX w s (w4.setRow (w.heap.size+1) #[UF true,UE UG s.g,UE UG s.t,UD aD nD cD,UD aU nU cU])):=by
       have hw:=Wr.setRow (w.heap.size+1) w4 #[UF true,UE UG s.g,UE UG s.t,UD aD nD cD,UD aU nU cU];obtain⟨_,_,_,_,_,_,hnw,_⟩:=HN4.o.new;exact⟨HN4.o.bel.trans (hw.below (Br _)),by rw[hw.block _ AK];exact HN4.o.res,aD,nD,cD,aU,nU,cU,by rw[hok];exact AB hnw,HS4.o.keep (by rw[hw.size];exact AY _) (λk hk _=>hw.block k AK)⟩
      have HNW:AP (∃ cs,cs.size=5/\w4.heap[w.heap.size+1]?=UI (UP cs 63 (0,0))):=by obtain⟨_,_,_,_,_,_,hnw,_⟩:=HN4.o.new;exact⟨_,rfl,hnw⟩
      obtain⟨cs,hcs,hnw⟩:=HNW.o;have HCS:=Cp hcs;have HNW2:=Cp hnw;clear hcs hnw HNW HN4 HS4;go_wp2_with (first
       |(refine Ab rfl 63 (.tmp 6) rfl Q rfl 63 _ (0,0) _ HR5.o Tryz.underlying63 rfl HSR.o ?_)
       |(refine AC 63 (.tmp 3) (.tmp 37) (w.heap.size+1) #[UF true,UE UG s.g,UE UG s.t,UD aD nD cD,UD aU nU cU] 63 HNW2.o HSR.o HCS.o (Er _ _ _ _ _ _ _ _ _) ?_)
       |fail)
      clear n0 n1 c0 c1 HR4 HR5 HNW2;generalize w4.setRow (w.heap.size+1) #[UF true,UE UG s.g,UE UG s.t,UD aD nD cD,UD aU nU cU]=w5 at *;go_wp2;go_roundw
      case rel=>exact⟨q+1,AK,by go_num,by rw[HK.o];exact HNT.o⟩
      case measure=>simp[intOf];omega
     |true=>
      rw[hrk] at n0;by_cases hgt:r.g<s.g
      ·have HK:=Cp (Kc.o hok he (.inr hgt));clear Ka Kb Kc Kd;have HR5:AP (w4.heap[Q]?=UI (UP #[UF true,UE UG s.g,UE UG s.t,UD aD nD cD,UD aU nU cU] 63 (0,0))):=by show _=_;have:=HR4.o;rw[hok] at this;exact this
       have HNT:AP (NX w s (w4.setRow (w.heap.size+1) #[UF true,UE UG s.g,UE UG s.t,UD aD nD cD,UD aU nU cU])):=by
        have hw:=Wr.setRow (w.heap.size+1) w4 #[UF true,UE UG s.g,UE UG s.t,UD aD nD cD,UD aU nU cU];obtain⟨_,_,_,_,_,_,hnw,_⟩:=HN4.o.new;exact⟨HN4.o.bel.trans (hw.below (Br _)),by rw[hw.block _ AK];exact HN4.o.res,aD,nD,cD,aU,nU,cU,by rw[hok];exact AB hnw,HS4.o.keep (by rw[hw.size];exact AY _) (λk hk _=>hw.block k AK)⟩
       have HNW:AP (∃ cs,cs.size=5/\w4.heap[w.heap.size+1]?=UI (UP cs 63 (0,0))):=by obtain⟨_,_,_,_,_,_,hnw,_⟩:=HN4.o.new;exact⟨_,rfl,hnw⟩
       obtain⟨cs,hcs,hnw⟩:=HNW.o;have HCS:=Cp hcs;have HNW2:=Cp hnw;clear hcs hnw HNW HN4 HS4;go_wp2_with (first
        |(refine Ab rfl 63 (.tmp 6) rfl Q rfl 63 _ (0,0) _ HR5.o Tryz.underlying63 rfl HSR.o ?_)
        |(refine AC 63 (.tmp 3) (.tmp 37) (w.heap.size+1) #[UF true,UE UG s.g,UE UG s.t,UD aD nD cD,UD aU nU cU] 63 HNW2.o HSR.o HCS.o (Er _ _ _ _ _ _ _ _ _) ?_)
        |fail)
       clear n0 n1 c0 c1 HR4 HR5 HNW2;generalize w4.setRow (w.heap.size+1) #[UF true,UE UG s.g,UE UG s.t,UD aD nD cD,UD aU nU cU]=w5 at *;go_wp2;go_roundw
       case rel=>exact⟨q+1,AK,by go_num,by rw[HK.o];exact HNT.o⟩
       case measure=>simp[intOf];omega
      ·have HK:=Cp (Kd.o hok he hrk AK);clear Ka Kb Kc Kd HS4;go_wp2;go_roundw
       case rel=>exact⟨q+1,AK,by go_num,by rw[HK.o];exact HN4.o⟩
       case measure=>simp[intOf];omega
    ·have hne:(s.g%2 != (q:Int))=true:=by simp[he]
     have HK:=Cp (Kb.o he);clear Ka Kb Kc Kd HS4 n0 n1;go_wp2;go_roundw
     case rel=>exact⟨q+1,AK,by go_num,by rw[HK.o];exact HN4.o⟩
     case measure=>simp[intOf];omega
  ·obtain rfl:q=2:=AK
   obtain⟨aD,nD,cD,aU,nU,cU,hnw,hns⟩:=HN.o.new;have HW:AP (wr.heap[w.heap.size+1]?=UI (UP #[UF (Eb zs ps 2).ok,UE UG (Eb zs ps 2).g,UE UG (Eb zs ps 2).t,UD aD nD cD,UD aU nU cU] 63 (0,0))):=hnw;have HS:=Cp hns;clear hnw hns;obtain⟨r,hr⟩:∃ r,r=Eb zs ps 2:=⟨_,rfl⟩
   rw[<-hr] at HW HS;have HRR:=Cp hr;clear hr;go_wp2_with (first
    |(refine Ab rfl 63 (.tmp 3) rfl (w.heap.size+1) rfl 63 _ (0,0) _ HW.o Tryz.underlying63 rfl HSR.o ?_)
    |(refine AC 63 (.tmp 2) (.tmp 39) w.heap.size #[UF r.ok,UE UG r.g,UE UG r.t,UD aD nD cD,UD aU nU cU] 63 HN.o.res HSR.o rfl (Er _ _ _ _ _ _ _ _ _) ?_)
    |fail)
   (try simp only[Exit.inBlock,Exit.then])
   have hw:=Wr.setRow w.heap.size wr #[UF r.ok,UE UG r.g,UE UG r.t,UD aD nD cD,UD aU nU cU];have h3:=HS.o.keep (w':=wr.setRow w.heap.size #[UF r.ok,UE UG r.g,UE UG r.t,UD aD nD cD,UD aU nU cU]) (by rw[hw.size];exact AY _) (λk hk _=>hw.block k AK);refine AZ (v:=.agg #[UF r.ok,UE UG r.g,UE UG r.t,UD aD nD cD,UD aU nU cU]) (AW rfl _ _ w.heap.size 63 _ (0,0) _ rfl (AB HN.o.res) Tryz.underlying63 rfl HSR.o) rfl ⟨_,rfl,?_,HN.o.bel.trans (hw.below Cw)⟩;rw[<-HRR.o];exact⟨aD,nD,cD,aU,nU,cU,rfl,h3.d,h3.u,h3.t,h3.nd,h3.nu,h3.nt,h3.ld.mono AK Cw,h3.lu.mono AK Cw,h3.lt.mono AK Cw,h3.du,h3.dt,h3.ut⟩
end Go.Proofs.YthmeoilbmfdhfaaGreat
