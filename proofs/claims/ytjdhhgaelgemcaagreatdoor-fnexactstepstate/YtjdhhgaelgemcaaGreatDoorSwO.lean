import Derived.Test.YtjdhhgaelgemcaaGreatDoorMEqSt
open Go.Proofs.Tryz
open Go.Value renaming slice->Z7,int->Z8,bool->aG,agg->aH
open Go.IntKind renaming i64->aI,u32->aN
open Go.Obj renaming cells->aJ
open Go.Operand renaming tmp->aM
open Option renaming some->aE,none->aA
set_option maxHeartbeats 8000000
set_option maxRecDepth 100000
namespace Go.Proofs.YtjdhhgaelgemcaaGreatDoor
open Go.ChangeShapes Go.WideShapes Go.ChangeAt Go.RowKit
set_option linter.unusedVariables false
theorem XM (aD aU aT:Option Addr) (nD cD nU cU nT cT:Nat) (D U:List Int) (k:Int) (T:List Int) (seq kind:Int) (a b:Nat) (w:World) (hD:D.length=nD) (hU:U.length=nU) (hT:T.length=nT*2) (mD:nD<=1048576) (mU:nU<=1048576) (mT:nT<=1048576)
  (haD:At aI w aD D) (haU:At aI w aU U) (haT:At aI w aT T) (hcT:nT<=cT) (hcm:cT<=9223372036854775807) (hk0:-9223372036854775808<=k) (hk1:k<9223372036854775808) (ha:a<4294967296) (hbb:b<4294967296) (hok:(I8 D U k T nT kind a b).ok=true) :
  Calls Tryz.prog 26 #[aH #[Z7 aD nD cD,Z7 aU nU cU,Z8 aI k,Z7 aT nT cT],aH #[Z8 aN seq,Z8 aI kind,Z8 aN a,Z8 aN b]] w λe w'=>∃ v,e=.returned v/\Wy w.heap.size w' v (I8 D U k T nT kind a b)/\Below w.heap.size w w':=by
 have HX0:AO (SX w #[Z7 aD nD cD,Z7 aU nU cU,Z8 aI k,Z7 aT nT cT] #[Z8 aN seq,Z8 aI kind,Z8 aN a,Z8 aN b] (((w.alloc (aJ #[Z7 aD nD cD,Z7 aU nU cU,Z8 aI k,Z7 aT nT cT] 33)).alloc (aJ #[Z8 aN seq,Z8 aI kind,Z8 aN a,Z8 aN b] 56)).alloc (aJ CZ 60))):=SX.start _ _ _;have HLN:AO (D.length=nD/\U.length=nU/\T.length=nT*2):=⟨hD,hU,hT⟩
 have HA:AO (∀ wz,Below w.heap.size w wz->At aI wz aD D/\At aI wz aU U/\At aI wz aT T):=λwz h=>⟨haD.below h,haU.below h,haT.below h⟩
 have HC:=Oh aD aU aT nD cD nU cU nT cT D U k T _ hD hU hT mD mU mT (haD.below HX0.o.below) (haU.below HX0.o.below) (haT.below HX0.o.below) hk0 hk1;have HRZ:AO ((Tryz.prog.info? 60).map (·.size)=aE 5):=by show _=_;kernel_rfl
 have HSZ:AO ((Tryz.prog.info? 33).map (·.size)=aE 4):=by show _=_;kernel_rfl
 have HAF:AO (I8 D U k T nT kind a b=if FL D U k T nT=true then Km D U k T nT kind a b else IB):=rfl;have HST:AO (FL D U k T nT=true->WI D U k T nT):=Lc;have HOKF:=Cd hok;clear hok;clear haD haU haT hD hU hT;go_enter func26,ntmps26;go_wp2_with fail;generalize (((w.alloc (aJ #[Z7 aD nD cD,Z7 aU nU cU,Z8 aI k,Z7 aT nT cT] 33)).alloc (aJ #[Z8 aN seq,Z8 aI kind,Z8 aN a,Z8 aN b] 56)).alloc (aJ CZ 60))=w0 at *;refine HC.mono ?_;rintro e w1 ⟨rfl,hb1⟩;have HX1:AO (SX w #[Z7 aD nD cD,Z7 aU nU cU,Z8 aI k,Z7 aT nT cT] #[Z8 aN seq,Z8 aI kind,Z8 aN a,Z8 aN b] w1):=HX0.o.call hb1;clear HC HX0 hb1;generalize hq:FL D U k T nT=q at *;have HQ:AO (FL D U k T nT=q):=hq;clear hq;cases q with
 |false=>
  have HFN:AO (I8 D U k T nT kind a b=IB):=by show _=_;rw[HAF.o];rfl
  have h9:=HOKF.o;rw[HFN.o] at h9;cases h9
 |true=>
  have HAR:AO (I8 D U k T nT kind a b=Km D U k T nT kind a b):=by show _=_;rw[HAF.o];rfl
  have hst:=HST.o rfl;have hk0':0<=k:=hst.2.2.2.1;have hkn:k+nT=(nU:Int):=by have:=hst.2.2.2.2.1;rw[HLN.o.2.1] at this;exact this
  have hd16:nD<=16:=by have:=hst.2.1;rw[HLN.o.1] at this;exact this
  have HSD:AO (∀ z,z∈D->0<=z/\z<256):=λz hz=>hst.1.range hz
  clear hst HST HAF;have HL:=Ld aD aU aT nD cD nU cU nT cT D U k T w1 HLN.o.1 HLN.o.2.1 HLN.o.2.2 mD mU mT (HA.o w1 HX1.o.below).1 (HA.o w1 HX1.o.below).2.1 (HA.o w1 HX1.o.below).2.2;have s0:w1.cell? ⟨w.heap.size,0,aA⟩=aE (Z7 aD nD cD):=by rw[AA HX1.o.sb 0];rfl
  have s1:w1.cell? ⟨w.heap.size,1,aA⟩=aE (Z7 aU nU cU):=by rw[AA HX1.o.sb 1];rfl
  have s2:w1.cell? ⟨w.heap.size,2,aA⟩=aE (Z8 aI k):=by rw[AA HX1.o.sb 2];rfl
  have s3:w1.cell? ⟨w.heap.size,3,aA⟩=aE (Z7 aT nT cT):=by rw[AA HX1.o.sb 3];rfl
  go_wp2_with fail;refine HL.mono ?_;rintro e w3 ⟨cs,rfl,⟨aD',nD',cD',aU',nU',cU',aT',cT',rfl,hcD,hcU,hcTT⟩,hb3⟩;have HCC:AO (nT<=cT'/\cT'<=9223372036854775807):=hcTT.cap;have b4:Below w3.heap.size w3 (w3.alloc (aJ #[Z7 aD' nD' cD',Z7 aU' nU' cU',Z8 aI k,Z7 aT' nT cT'] 33)):=Cg.alloc Cl _;have HO:AO (OX w #[Z7 aD nD cD,Z7 aU nU cU,Z8 aI k,Z7 aT nT cT] #[Z8 aN seq,Z8 aI kind,Z8 aN a,Z8 aN b] w3.heap.size #[Z7 aD' nD' cD',Z7 aU' nU' cU',Z8 aI k,Z7 aT' nT cT'] (w3.alloc (aJ #[Z7 aD' nD' cD',Z7 aU' nU' cU',Z8 aI k,Z7 aT' nT cT'] 33))):=⟨(HX1.o.call hb3).call b4,AX w3 _,(HX1.o.call hb3).lt⟩
  have hb1:=HX1.o.lt;have HKD:AO (LK (w.heap.size+3) w3.heap.size (w3.alloc (aJ #[Z7 aD' nD' cD',Z7 aU' nU' cU',Z8 aI k,Z7 aT' nT cT'] 33)) aD' D):=(hcD.lk hb1 (.inr Cl)).below b4;have HKU:AO (LK (w.heap.size+3) w3.heap.size (w3.alloc (aJ #[Z7 aD' nD' cD',Z7 aU' nU' cU',Z8 aI k,Z7 aT' nT cT'] 33)) aU' U):=(hcU.lk hb1 (.inr Cl)).below b4;have HKT:AO (LK (w.heap.size+3) w3.heap.size (w3.alloc (aJ #[Z7 aD' nD' cD',Z7 aU' nU' cU',Z8 aI k,Z7 aT' nT cT'] 33)) aT' T):=(hcTT.lk hb1 (.inr Cl)).below b4;have HTO:AO (C7 (w.heap.size+3) (w3.alloc (aJ #[Z7 aD' nD' cD',Z7 aU' nU' cU',Z8 aI k,Z7 aT' nT cT'] 33)) (Z7 aT' nT cT') T nT):=(C7.mono hcTT hb1).below b4;have HDT:AO (∀ ad,aD'=aE ad->aE ad.block≠(Z7 aT' nT cT').ownBlock):=Sv hcD hcTT;have HTNE:AO (NF w3.heap.size (Z7 aT' nT cT')):=λt ht e=>by
   obtain⟨_,_,q3⟩:=hcTT.tapV.sat;cases aT' with
   |none=>simp[Value.ownBlock] at ht
   |some ad=>
    simp[Value.ownBlock] at ht;have:=(q3 ad rfl).2;omega
  have HND:AO (D.length=nD'/\U.length=nU'/\T.length=nT*2):=⟨hcD.sat.2.1,hcU.sat.2.1,HLN.o.2.2⟩
  clear hcD hcU hcTT hb3 b4 HL HX1 s0 s1 s2 s3 hb1
  go_upto_region 4 with fail
  generalize w3.alloc (aJ #[Z7 aD' nD' cD',Z7 aU' nU' cU',Z8 aI k,Z7 aT' nT cT'] 33)=w4 at *;generalize w3.heap.size=O at *;have s0:w4.cell? ⟨w.heap.size,0,aA⟩=aE (Z7 aD nD cD):=by rw[AA HO.o.sx.sb 0];rfl
  have s1:w4.cell? ⟨w.heap.size,1,aA⟩=aE (Z7 aU nU cU):=by rw[AA HO.o.sx.sb 1];rfl
  have s2:w4.cell? ⟨w.heap.size,2,aA⟩=aE (Z8 aI k):=by rw[AA HO.o.sx.sb 2];rfl
  have s3:w4.cell? ⟨w.heap.size,3,aA⟩=aE (Z7 aT nT cT):=by rw[AA HO.o.sx.sb 3];rfl
  have f1:w4.cell? ⟨w.heap.size+1,1,aA⟩=aE (Z8 aI kind):=by rw[AA HO.o.sx.fb 1];rfl
  have f2:w4.cell? ⟨w.heap.size+1,2,aA⟩=aE (Z8 aN a):=by rw[AA HO.o.sx.fb 2];rfl
  have f3:w4.cell? ⟨w.heap.size+1,3,aA⟩=aE (Z8 aN b):=by rw[AA HO.o.sx.fb 3];rfl
  have HAD:AO (At aI w4 aD D/\At aI w4 aU U/\At aI w4 aT T):=HA.o w4 HO.o.sx.below;have HON:AO (w.heap.size+3<=O/\O<w4.heap.size):=⟨HO.o.hO,HO.o.lt⟩
  by_cases k1:kind=1
  ·subst k1;by_cases hc:a<256/\¬ (a:Int)∈U/\¬ (a:Int)∈D
   ·have HR:AO (I8 D U k T nT 1 a b=⟨true,D,Df U a,k,T++[(a:Int),(b:Int)],nT+1⟩):=by show _=_;rw[HAR.o,PH hc]
    have h256:¬ ((a:Int)≥256):=AJ
    have HMU:AO (DO (a:Int) U=false):=Hc hc.2.1;have HMD:AO (DO (a:Int) D=false):=Hc hc.2.2;clear hc;go_wp2_with fail;refine(Dd _ _ _ U _ _ HLN.o.2.1 mU HAD.o.2.1).mono ?_;rintro e w5 ⟨rfl,rfl⟩;rw[HMU.o];go_wp2_with fail;refine(Dd _ _ _ D _ _ HLN.o.1 mD HAD.o.1).mono ?_;rintro e w5 ⟨rfl,rfl⟩;rw[HMD.o];go_wp2_with fail;refine(Mw _ _ _ U a _ HLN.o.2.1 mU HAD.o.2.1).mono ?_;rintro e w6 ⟨v6,rfl,hv6,hb6⟩;obtain⟨aU2,nU2,cU2,rfl⟩:=hv6.form;have HO6:AO (OX w #[Z7 aD nD cD,Z7 aU nU cU,Z8 aI k,Z7 aT nT cT] #[Z8 aN seq,Z8 aI 1,Z8 aN a,Z8 aN b] O #[Z7 aD' nD' cD',Z7 aU' nU' cU',Z8 aI k,Z7 aT' nT cT'] w6):=HO.o.call hb6;have HKD6:AO (LK (w.heap.size+3) O w6 aD' D):=HKD.o.below hb6;have HKU6:AO (LK (w.heap.size+3) O w6 aU2 (Df U a)):=hv6.lk (AG HON.o) (.inl HON.o.2);have HNU6:AO ((Df U a).length=nU2):=hv6.sat.2.1;have HTO6:AO (C7 (w.heap.size+3) w6 (Z7 aT' nT cT') T nT):=HTO.o.below hb6;have HUT6:AO (∀ ad,aU2=aE ad->aE ad.block≠(Z7 aT' nT cT').ownBlock):=Sv hv6 HTO6.o;have HON6:AO (w.heap.size+3<=O/\O<w6.heap.size):=⟨HO6.o.hO,HO6.o.lt⟩
    have v1:w6.cell? ⟨O,1,aA⟩=aE (Z7 aU' nU' cU'):=by rw[AA HO6.o.o 1];rfl
    have g1:=Ar w6 O 1 _ _ HO6.o.o;clear hv6 hb6 s0 s1 s2 s3 f1 f2 f3 HKD HKU HKT HTO HAD
    go_upto_region 10 with fail
    have hw7:Wr O w6 (w6.setCell ⟨O,1,aA⟩ (Z7 aU2 nU2 cU2)):=(Wr.refl _ _).setCell _ _;have HO7:AO (OX w #[Z7 aD nD cD,Z7 aU nU cU,Z8 aI k,Z7 aT nT cT] #[Z8 aN seq,Z8 aI 1,Z8 aN a,Z8 aN b] O #[Z7 aD' nD' cD',Z7 aU2 nU2 cU2,Z8 aI k,Z7 aT' nT cT'] (w6.setCell ⟨O,1,aA⟩ (Z7 aU2 nU2 cU2))):=HO6.o.put 1 _;have HKD7:AO (LK (w.heap.size+3) O (w6.setCell ⟨O,1,aA⟩ (Z7 aU2 nU2 cU2)) aD' D):=HKD6.o.wr hw7;have HKU7:AO (LK (w.heap.size+3) O (w6.setCell ⟨O,1,aA⟩ (Z7 aU2 nU2 cU2)) aU2 (Df U a)):=HKU6.o.wr hw7;have hTne:NF O (Z7 aT' nT cT'):=λt ht e=>HTNE.o t ht e
    have HTO7:AO (C7 (w.heap.size+3) (w6.setCell ⟨O,1,aA⟩ (Z7 aU2 nU2 cU2)) (Z7 aT' nT cT') T nT):=HTO6.o.wrg hTne hw7;have HON7:AO (w.heap.size+3<=(w6.setCell ⟨O,1,aA⟩ (Z7 aU2 nU2 cU2)).heap.size):=by show _<=_;rw[hw7.size];have:=HON6.o;omega
    clear v1 g1 hw7 HO6 HKD6 HKU6 HTO6;generalize w6.setCell ⟨O,1,aA⟩ (Z7 aU2 nU2 cU2)=w7 at *;have t3:w7.cell? ⟨O,3,aA⟩=aE (Z7 aT' nT cT'):=by rw[AA HO7.o.o 3];rfl
    have f3:w7.cell? ⟨w.heap.size+1,3,aA⟩=aE (Z8 aN b):=by rw[AA HO7.o.sx.fb 3];rfl
    have b8:Below w7.heap.size w7 (w7.alloc (aJ #[Z8 aI (a:Int),Z8 aI (b:Int)] 77)):=Cg.alloc Cl _;have HTO8:AO (C7 (w.heap.size+3) (w7.alloc (aJ #[Z8 aI (a:Int),Z8 aI (b:Int)] 77)) (Z7 aT' nT cT') T nT):=HTO7.o.below b8;have HB8:AO (w.heap.size+3<=(w7.alloc (aJ #[Z8 aI (a:Int),Z8 aI (b:Int)] 77)).heap.size):=by show _<=_;have:=HON7.o;have:=b8.size;omega
    go_wp2_with (first
     |(refine LX _ rfl (aM 41) (aM 47) rfl (w.heap.size+3) (Z7 aT' nT cT') T nT rfl HTO8.o w7 a b rfl rfl mT HB8.o ?_)
     |fail)
    intro v9 w9 h1 ho h2 hgr how;obtain⟨aT2,cT2,rfl⟩:=h1.tapV.slice;have HC2:AO (nT+1<=cT2/\cT2<=9223372036854775807):=h1.cap;have hO8:O<(w7.alloc (aJ #[Z8 aI (a:Int),Z8 aI (b:Int)] 77)).heap.size:=AH HO7.o.lt b8.size
    have HO9:AO (OX w #[Z7 aD nD cD,Z7 aU nU cU,Z8 aI k,Z7 aT nT cT] #[Z8 aN seq,Z8 aI 1,Z8 aN a,Z8 aN b] O #[Z7 aD' nD' cD',Z7 aU2 nU2 cU2,Z8 aI k,Z7 aT' nT cT'] w9):=⟨(HO7.o.call b8).sx.keep h2,by rw[hgr.block O hO8 (λe=>hTne O e.symm rfl)];exact(HO7.o.call b8).o,HO7.o.hO⟩
    have HKD9:AO (LK (w.heap.size+3) O w9 aD' D):=(HKD7.o.below b8).grown hgr HDT.o;have HKU9:AO (LK (w.heap.size+3) O w9 aU2 (Df U a)):=(HKU7.o.below b8).grown hgr HUT6.o;have hTne9:NF O (Z7 aT2 (nT+1:Nat) cT2):=λx hx=>by
     rcases how with e1|e1
     ·exact hTne x (e1 ▸ hx)
     ·rw[e1] at hx;have hx':=Bv hx;have hO7:=HO7.o.lt;have hz8:=b8.size;omega
    have HKT9:AO (LK (w.heap.size+3) O w9 aT2 (T++[(a:Int),(b:Int)])):=by
     obtain⟨q1,q2,q3⟩:=h1.tapV.sat;exact⟨q1.at_,λad e=>⟨(q3 ad e).1,hTne9 _ (by rw[e];rfl),(q3 ad e).2⟩⟩
    have v3:w9.cell? ⟨O,3,aA⟩=aE (Z7 aT' nT cT'):=by rw[AA HO9.o.o 3];rfl
    have g3:=Ar w9 O 3 _ _ HO9.o.o;have hw10:Wr O w9 (w9.setCell ⟨O,3,aA⟩ (Z7 aT2 (nT+1:Nat) cT2)):=(Wr.refl _ _).setCell _ _;have HO10:AO (OX w #[Z7 aD nD cD,Z7 aU nU cU,Z8 aI k,Z7 aT nT cT] #[Z8 aN seq,Z8 aI 1,Z8 aN a,Z8 aN b] O #[Z7 aD' nD' cD',Z7 aU2 nU2 cU2,Z8 aI k,Z7 aT2 (nT+1:Nat) cT2] (w9.setCell ⟨O,3,aA⟩ (Z7 aT2 (nT+1:Nat) cT2))):=HO9.o.put 3 _;have HK10:AO (LK (w.heap.size+3) O (w9.setCell ⟨O,3,aA⟩ (Z7 aT2 (nT+1:Nat) cT2)) aD' D/\LK (w.heap.size+3) O (w9.setCell ⟨O,3,aA⟩ (Z7 aT2 (nT+1:Nat) cT2)) aU2 (Df U a)/\LK (w.heap.size+3) O (w9.setCell ⟨O,3,aA⟩ (Z7 aT2 (nT+1:Nat) cT2)) aT2 (T++[(a:Int),(b:Int)])):=⟨HKD9.o.wr hw10,HKU9.o.wr hw10,HKT9.o.wr hw10⟩
    have HLT:AO ((T++[(a:Int),(b:Int)]).length=(nT+1)*2):=by show _=_;rw[Ak,HND.o.2.2];simp;omega
    clear h1 h2 hgr how hTne hTne9 hw10 HO9 HKD9 HKU9 HKT9 t3 f3 b8 HTO8 HB8 hO8 HO7 HKD7 HKU7 HTO7;have HRB:AO ((w9.setCell ⟨O,3,aA⟩ (Z7 aT2 (nT+1:Nat) cT2)).heap[w.heap.size+2]?=aE (aJ CZ 60 (0,0))):=HO10.o.sx.rb;have HOB:AO ((w9.setCell ⟨O,3,aA⟩ (Z7 aT2 (nT+1:Nat) cT2)).heap[O]?=aE (aJ #[Z7 aD' nD' cD',Z7 aU2 nU2 cU2,Z8 aI k,Z7 aT2 (nT+1:Nat) cT2] 33 (0,0))):=HO10.o.o;have HF:AO (Wy w.heap.size ((w9.setCell ⟨O,3,aA⟩ (Z7 aT2 (nT+1:Nat) cT2)).setRow (w.heap.size+2) #[aG true,Z7 aD' nD' cD',Z7 aU2 nU2 cU2,Z8 aI k,Z7 aT2 (nT+1:Nat) cT2]) (aH #[aG true,Z7 aD' nD' cD',Z7 aU2 nU2 cU2,Z8 aI k,Z7 aT2 (nT+1:Nat) cT2]) (I8 D U k T nT 1 a b)/\Below w.heap.size w ((w9.setCell ⟨O,3,aA⟩ (Z7 aT2 (nT+1:Nat) cT2)).setRow (w.heap.size+2) #[aG true,Z7 aD' nD' cD',Z7 aU2 nU2 cU2,Z8 aI k,Z7 aT2 (nT+1:Nat) cT2])):=by
     have hw:Wr (w.heap.size+2) (w9.setCell ⟨O,3,aA⟩ (Z7 aT2 (nT+1:Nat) cT2)) ((w9.setCell ⟨O,3,aA⟩ (Z7 aT2 (nT+1:Nat) cT2)).setRow (w.heap.size+2) #[aG true,Z7 aD' nD' cD',Z7 aU2 nU2 cU2,Z8 aI k,Z7 aT2 (nT+1:Nat) cT2]):=Wr.setRow _ _ _;refine⟨?_,HO10.o.sx.below.trans (hw.below AJ)⟩;rw[HR.o];exact⟨_,_,_,_,_,_,_,_,_,rfl,HK10.o.1.1.wrR hw HK10.o.1.2,HK10.o.2.1.1.wrR hw HK10.o.2.1.2,HK10.o.2.2.1.wrR hw HK10.o.2.2.2,HND.o.1,HNU6.o,HLT.o,λad e=>⟨AG (HK10.o.1.2 ad e).1,by rw[hw.size];exact(HK10.o.1.2 ad e).2.2⟩,λad e=>⟨AG (HK10.o.2.1.2 ad e).1,by rw[hw.size];exact(HK10.o.2.1.2 ad e).2.2⟩,λad e=>⟨AG (HK10.o.2.2.2 ad e).1,by rw[hw.size];exact(HK10.o.2.2.2 ad e).2.2⟩,HC2.o.1,HC2.o.2⟩
    go_upto_region 11 with fail
    generalize (w9.setCell ⟨O,3,aA⟩ (Z7 aT2 (nT+1:Nat) cT2))=wz at *;go_wp2_with (first
     |(refine Ae rfl 33 (aM 5) rfl O rfl 33 _ (0,0) _ HOB.o underlying33 rfl HSZ.o ?_)
     |(refine AE 60 (aM 4) (aM 51) (w.heap.size+2) #[aG true,Z7 aD' nD' cD',Z7 aU2 nU2 cU2,Z8 aI k,Z7 aT2 (nT+1:Nat) cT2] 60 HRB.o HRZ.o rfl (by simp[Value.oneCell']) ?_)
     |fail)
    exact Ab (v:=aH #[aG true,Z7 aD' nD' cD',Z7 aU2 nU2 cU2,Z8 aI k,Z7 aT2 (nT+1:Nat) cT2]) (Ah rfl _ _ (w.heap.size+2) 60 _ (0,0) _ rfl (AB HRB.o) underlying60 rfl HRZ.o) rfl ⟨_,rfl,HF.o.1,HF.o.2⟩
   ·have HAN:AO (I8 D U k T nT 1 a b=IB):=by show _=_;rw[HAR.o,Qc hc]
    have h9:=HOKF.o;rw[HAN.o] at h9;cases h9
  by_cases k2:kind=2
  ·subst k2;clear k1;by_cases hc:b=1/\a<256/\¬ (a:Int)∈D/\¬ D.length=16
   ·have HR:AO (I8 D U k T nT 2 a b=⟨true,Df D a,U,k,T,nT⟩):=by show _=_;rw[HAR.o,hc.1,PI hc.2]
    obtain⟨hb1,h256',hd,h16⟩:=hc;subst hb1;have h256:(a:Int)<256:=AJ
    have h16':(nD:Int)<16:=by rw[HLN.o.1] at h16;omega
    have HMD:AO (DO (a:Int) D=false):=Hc hd;clear hd h16;go_wp2_with fail;refine(Dd _ _ _ D _ _ HLN.o.1 mD HAD.o.1).mono ?_;rintro e w5 ⟨rfl,rfl⟩;rw[HMD.o];go_wp2_with fail;refine(Mw _ _ _ D a _ HLN.o.1 mD HAD.o.1).mono ?_;rintro e w6 ⟨v6,rfl,hv6,hb6⟩;obtain⟨aD2,nD2,cD2,rfl⟩:=hv6.form;have HO6:AO (OX w #[Z7 aD nD cD,Z7 aU nU cU,Z8 aI k,Z7 aT nT cT] #[Z8 aN seq,Z8 aI 2,Z8 aN a,Z8 aN 1] O #[Z7 aD' nD' cD',Z7 aU' nU' cU',Z8 aI k,Z7 aT' nT cT'] w6):=HO.o.call hb6;have HKU6:AO (LK (w.heap.size+3) O w6 aU' U):=HKU.o.below hb6;have HKT6:AO (LK (w.heap.size+3) O w6 aT' T):=HKT.o.below hb6;have HKD6:AO (LK (w.heap.size+3) O w6 aD2 (Df D a)):=hv6.lk (AG HON.o) (.inl HON.o.2);have HNU6:AO ((Df D a).length=nD2):=hv6.sat.2.1;have v1:w6.cell? ⟨O,0,aA⟩=aE (Z7 aD' nD' cD'):=by rw[AA HO6.o.o 0];rfl
    have g1:=Ar w6 O 0 _ _ HO6.o.o;have hw7:Wr O w6 (w6.setCell ⟨O,0,aA⟩ (Z7 aD2 nD2 cD2)):=(Wr.refl _ _).setCell _ _;have HO7:AO (OX w #[Z7 aD nD cD,Z7 aU nU cU,Z8 aI k,Z7 aT nT cT] #[Z8 aN seq,Z8 aI 2,Z8 aN a,Z8 aN 1] O #[Z7 aD2 nD2 cD2,Z7 aU' nU' cU',Z8 aI k,Z7 aT' nT cT'] (w6.setCell ⟨O,0,aA⟩ (Z7 aD2 nD2 cD2))):=HO6.o.put 0 _;have HK7:AO (LK (w.heap.size+3) O (w6.setCell ⟨O,0,aA⟩ (Z7 aD2 nD2 cD2)) aD2 (Df D a)/\LK (w.heap.size+3) O (w6.setCell ⟨O,0,aA⟩ (Z7 aD2 nD2 cD2)) aU' U/\LK (w.heap.size+3) O (w6.setCell ⟨O,0,aA⟩ (Z7 aD2 nD2 cD2)) aT' T):=⟨HKD6.o.wr hw7,HKU6.o.wr hw7,HKT6.o.wr hw7⟩
    clear hv6 hb6 s0 s1 s2 s3 f1 f2 f3 HKD HKU HKT HTO HAD hw7 HO6 HKU6 HKT6 HKD6;have HRB:AO ((w6.setCell ⟨O,0,aA⟩ (Z7 aD2 nD2 cD2)).heap[w.heap.size+2]?=aE (aJ CZ 60 (0,0))):=HO7.o.sx.rb;have HOB:AO ((w6.setCell ⟨O,0,aA⟩ (Z7 aD2 nD2 cD2)).heap[O]?=aE (aJ #[Z7 aD2 nD2 cD2,Z7 aU' nU' cU',Z8 aI k,Z7 aT' nT cT'] 33 (0,0))):=HO7.o.o;have HF:AO (Wy w.heap.size ((w6.setCell ⟨O,0,aA⟩ (Z7 aD2 nD2 cD2)).setRow (w.heap.size+2) #[aG true,Z7 aD2 nD2 cD2,Z7 aU' nU' cU',Z8 aI k,Z7 aT' nT cT']) (aH #[aG true,Z7 aD2 nD2 cD2,Z7 aU' nU' cU',Z8 aI k,Z7 aT' nT cT']) (I8 D U k T nT 2 a 1)/\Below w.heap.size w ((w6.setCell ⟨O,0,aA⟩ (Z7 aD2 nD2 cD2)).setRow (w.heap.size+2) #[aG true,Z7 aD2 nD2 cD2,Z7 aU' nU' cU',Z8 aI k,Z7 aT' nT cT'])):=by
     have hw:Wr (w.heap.size+2) (w6.setCell ⟨O,0,aA⟩ (Z7 aD2 nD2 cD2)) ((w6.setCell ⟨O,0,aA⟩ (Z7 aD2 nD2 cD2)).setRow (w.heap.size+2) #[aG true,Z7 aD2 nD2 cD2,Z7 aU' nU' cU',Z8 aI k,Z7 aT' nT cT']):=Wr.setRow _ _ _;refine⟨?_,HO7.o.sx.below.trans (hw.below AJ)⟩;rw[HR.o];exact⟨_,_,_,_,_,_,_,_,_,rfl,HK7.o.1.1.wrR hw HK7.o.1.2,HK7.o.2.1.1.wrR hw HK7.o.2.1.2,HK7.o.2.2.1.wrR hw HK7.o.2.2.2,HNU6.o,HND.o.2.1,HND.o.2.2,λad e=>⟨AG (HK7.o.1.2 ad e).1,by rw[hw.size];exact(HK7.o.1.2 ad e).2.2⟩,λad e=>⟨AG (HK7.o.2.1.2 ad e).1,by rw[hw.size];exact(HK7.o.2.1.2 ad e).2.2⟩,λad e=>⟨AG (HK7.o.2.2.2 ad e).1,by rw[hw.size];exact(HK7.o.2.2.2 ad e).2.2⟩,HCC.o.1,HCC.o.2⟩
    go_upto_region 15 with fail
    generalize (w6.setCell ⟨O,0,aA⟩ (Z7 aD2 nD2 cD2))=wz at *;go_wp2_with (first
     |(refine Ae rfl 33 (aM 5) rfl O rfl 33 _ (0,0) _ HOB.o underlying33 rfl HSZ.o ?_)
     |(refine AE 60 (aM 4) (aM 80) (w.heap.size+2) #[aG true,Z7 aD2 nD2 cD2,Z7 aU' nU' cU',Z8 aI k,Z7 aT' nT cT'] 60 HRB.o HRZ.o rfl (by simp[Value.oneCell']) ?_)
     |fail)
    exact Ab (v:=aH #[aG true,Z7 aD2 nD2 cD2,Z7 aU' nU' cU',Z8 aI k,Z7 aT' nT cT']) (Ah rfl _ _ (w.heap.size+2) 60 _ (0,0) _ rfl (AB HRB.o) underlying60 rfl HRZ.o) rfl ⟨_,rfl,HF.o.1,HF.o.2⟩
   by_cases hc0:b=0/\a<256/\(a:Int)∈D
   ·have HR:AO (I8 D U k T nT 2 a b=⟨true,Dl D a,U,k,T,nT⟩):=by show _=_;rw[HAR.o,hc0.1,PJ hc0.2]
    obtain⟨hb1,h256',hd⟩:=hc0;subst hb1;have HMD:AO (DO (a:Int) D=true):=Fb hd;clear hd hc;go_wp2_with fail;refine(Dd _ _ _ D _ _ HLN.o.1 mD HAD.o.1).mono ?_;rintro e w5 ⟨rfl,rfl⟩;rw[HMD.o];go_wp2_with fail;refine(Sp _ _ _ D a _ HLN.o.1 mD HAD.o.1).mono ?_;rintro e w6 ⟨v6,rfl,hv6,hb6⟩;obtain⟨aD2,nD2,cD2,rfl⟩:=hv6.form;have HO6:AO (OX w #[Z7 aD nD cD,Z7 aU nU cU,Z8 aI k,Z7 aT nT cT] #[Z8 aN seq,Z8 aI 2,Z8 aN a,Z8 aN 0] O #[Z7 aD' nD' cD',Z7 aU' nU' cU',Z8 aI k,Z7 aT' nT cT'] w6):=HO.o.call hb6;have HKU6:AO (LK (w.heap.size+3) O w6 aU' U):=HKU.o.below hb6;have HKT6:AO (LK (w.heap.size+3) O w6 aT' T):=HKT.o.below hb6;have HKD6:AO (LK (w.heap.size+3) O w6 aD2 (Dl D a)):=hv6.lk (AG HON.o) (.inl HON.o.2);have HNU6:AO ((Dl D a).length=nD2):=hv6.sat.2.1;have v1:w6.cell? ⟨O,0,aA⟩=aE (Z7 aD' nD' cD'):=by rw[AA HO6.o.o 0];rfl
    have g1:=Ar w6 O 0 _ _ HO6.o.o;have hw7:Wr O w6 (w6.setCell ⟨O,0,aA⟩ (Z7 aD2 nD2 cD2)):=(Wr.refl _ _).setCell _ _;have HO7:AO (OX w #[Z7 aD nD cD,Z7 aU nU cU,Z8 aI k,Z7 aT nT cT] #[Z8 aN seq,Z8 aI 2,Z8 aN a,Z8 aN 0] O #[Z7 aD2 nD2 cD2,Z7 aU' nU' cU',Z8 aI k,Z7 aT' nT cT'] (w6.setCell ⟨O,0,aA⟩ (Z7 aD2 nD2 cD2))):=HO6.o.put 0 _;have HK7:AO (LK (w.heap.size+3) O (w6.setCell ⟨O,0,aA⟩ (Z7 aD2 nD2 cD2)) aD2 (Dl D a)/\LK (w.heap.size+3) O (w6.setCell ⟨O,0,aA⟩ (Z7 aD2 nD2 cD2)) aU' U/\LK (w.heap.size+3) O (w6.setCell ⟨O,0,aA⟩ (Z7 aD2 nD2 cD2)) aT' T):=⟨HKD6.o.wr hw7,HKU6.o.wr hw7,HKT6.o.wr hw7⟩
    clear hv6 hb6 s0 s1 s2 s3 f1 f2 f3 HKD HKU HKT HTO HAD hw7 HO6 HKU6 HKT6 HKD6;have HRB:AO ((w6.setCell ⟨O,0,aA⟩ (Z7 aD2 nD2 cD2)).heap[w.heap.size+2]?=aE (aJ CZ 60 (0,0))):=HO7.o.sx.rb;have HOB:AO ((w6.setCell ⟨O,0,aA⟩ (Z7 aD2 nD2 cD2)).heap[O]?=aE (aJ #[Z7 aD2 nD2 cD2,Z7 aU' nU' cU',Z8 aI k,Z7 aT' nT cT'] 33 (0,0))):=HO7.o.o;have HF:AO (Wy w.heap.size ((w6.setCell ⟨O,0,aA⟩ (Z7 aD2 nD2 cD2)).setRow (w.heap.size+2) #[aG true,Z7 aD2 nD2 cD2,Z7 aU' nU' cU',Z8 aI k,Z7 aT' nT cT']) (aH #[aG true,Z7 aD2 nD2 cD2,Z7 aU' nU' cU',Z8 aI k,Z7 aT' nT cT']) (I8 D U k T nT 2 a 0)/\Below w.heap.size w ((w6.setCell ⟨O,0,aA⟩ (Z7 aD2 nD2 cD2)).setRow (w.heap.size+2) #[aG true,Z7 aD2 nD2 cD2,Z7 aU' nU' cU',Z8 aI k,Z7 aT' nT cT'])):=by
     have hw:Wr (w.heap.size+2) (w6.setCell ⟨O,0,aA⟩ (Z7 aD2 nD2 cD2)) ((w6.setCell ⟨O,0,aA⟩ (Z7 aD2 nD2 cD2)).setRow (w.heap.size+2) #[aG true,Z7 aD2 nD2 cD2,Z7 aU' nU' cU',Z8 aI k,Z7 aT' nT cT']):=Wr.setRow _ _ _;refine⟨?_,HO7.o.sx.below.trans (hw.below AJ)⟩;rw[HR.o];exact⟨_,_,_,_,_,_,_,_,_,rfl,HK7.o.1.1.wrR hw HK7.o.1.2,HK7.o.2.1.1.wrR hw HK7.o.2.1.2,HK7.o.2.2.1.wrR hw HK7.o.2.2.2,HNU6.o,HND.o.2.1,HND.o.2.2,λad e=>⟨AG (HK7.o.1.2 ad e).1,by rw[hw.size];exact(HK7.o.1.2 ad e).2.2⟩,λad e=>⟨AG (HK7.o.2.1.2 ad e).1,by rw[hw.size];exact(HK7.o.2.1.2 ad e).2.2⟩,λad e=>⟨AG (HK7.o.2.2.2 ad e).1,by rw[hw.size];exact(HK7.o.2.2.2 ad e).2.2⟩,HCC.o.1,HCC.o.2⟩
    go_upto_region 18 with fail
    generalize (w6.setCell ⟨O,0,aA⟩ (Z7 aD2 nD2 cD2))=wz at *;go_wp2_with (first
     |(refine Ae rfl 33 (aM 5) rfl O rfl 33 _ (0,0) _ HOB.o underlying33 rfl HSZ.o ?_)
     |(refine AE 60 (aM 4) (aM 96) (w.heap.size+2) #[aG true,Z7 aD2 nD2 cD2,Z7 aU' nU' cU',Z8 aI k,Z7 aT' nT cT'] 60 HRB.o HRZ.o rfl (by simp[Value.oneCell']) ?_)
     |fail)
    exact Ab (v:=aH #[aG true,Z7 aD2 nD2 cD2,Z7 aU' nU' cU',Z8 aI k,Z7 aT' nT cT']) (Ah rfl _ _ (w.heap.size+2) 60 _ (0,0) _ rfl (AB HRB.o) underlying60 rfl HRZ.o) rfl ⟨_,rfl,HF.o.1,HF.o.2⟩
   ·have HAN:AO (I8 D U k T nT 2 a b=IB):=by show _=_;rw[HAR.o,OF hc hc0]
    have h9:=HOKF.o;rw[HAN.o] at h9;cases h9
  by_cases k3:kind=3
  ·subst k3;clear k1 k2;by_cases hc:b=0/\(a:Int)<=k+nT
   ·have HR:AO (I8 D U k T nT 3 a b=⟨true,D,U,max a k,T.drop (I4 k a*2),nT-I4 k a⟩):=by show _=_;rw[HAR.o,hc.1,PK hc.2]
    obtain⟨hb0,hle⟩:=hc;subst hb0;by_cases hgt:k<(a:Int)
    ·obtain⟨m,hm⟩:∃ m:Nat,(a:Int)=k+m:=⟨(a-k).toNat,AJ⟩
     have hmn:m<=nT:=AJ
     have e:I4 k a=m:=by unfold I4;omega
     have HR2:AO (I8 D U k T nT 3 a 0=⟨true,D,U,(a:Int),T.drop (m*2),nT-m⟩):=by
      show _=_
      rw[HR.o,e,show max (a:Int) k=a by omega]
     have hsub:(a:Int)-k=m:=AJ
     obtain⟨t0,o0,eT,ht0,hct0⟩:=HAD.o.2.2.get (by rw[HND.o.2.2];omega);subst eT;have HCT:AO (t0<w4.heap.size/\∀ i,i<T.length->w4.cell? ⟨t0,o0+i,aA⟩=aE (Z8 aI (T.getD i 0))):=⟨ht0,hct0⟩
     have HEM:AO (Ip (w.heap.size+3) 77 (w4.alloc (aJ #[] 77)) (Z7 (aE ⟨w4.heap.size,0,aA⟩) 0 0)):=Ip.new _ w4 (AG HON.o);have HLD:AO ((T.drop (m*2)).length=(nT-m)*2):=by show _=_;rw[BJ,HND.o.2.2];omega
     have HMN:AO (nT-m<=1048576):=by show _<=_;omega
     have HS5:AO (w.heap.size+3<=(w4.alloc (aJ #[] 77)).heap.size):=by show _<=_;have:=HON.o;simp;omega
     have z3:(w4.alloc (aJ #[] 77)).cell? ⟨w.heap.size,3,aA⟩=aE (Z7 (aE ⟨t0,o0,aA⟩) nT cT):=by rw[World.cell?_alloc_old _ _ _ (by show w.heap.size≠w4.heap.size;have:=HON.o;omega)];exact s3
     have z2:(w4.alloc (aJ #[] 77)).cell? ⟨w.heap.size,2,aA⟩=aE (Z8 aI k):=by rw[World.cell?_alloc_old _ _ _ (by show w.heap.size≠w4.heap.size;have:=HON.o;omega)];exact s2
     clear hct0 ht0 e hm HR;by_cases hcm2:cT=m
     ·have hnm:nT=m:=AJ
      have HZ:AO (T.drop (m*2)=[]):=by show _=_;exact BP (by rw[HLD.o];omega)
      subst hcm2;have hb6:Below w4.heap.size w4 (w4.alloc (aJ #[] 77)):=Cg.alloc Cl _;have HO6:AO (OX w #[Z7 aD nD cD,Z7 aU nU cU,Z8 aI k,Z7 (aE ⟨t0,o0,aA⟩) nT cT] #[Z8 aN seq,Z8 aI 3,Z8 aN a,Z8 aN 0] O #[Z7 aD' nD' cD',Z7 aU' nU' cU',Z8 aI k,Z7 aT' nT cT'] (w4.alloc (aJ #[] 77))):=HO.o.call hb6;have HK6:AO (LK (w.heap.size+3) O (w4.alloc (aJ #[] 77)) aD' D/\LK (w.heap.size+3) O (w4.alloc (aJ #[] 77)) aU' U):=⟨HKD.o.below hb6,HKU.o.below hb6⟩
      have HKT6:AO (LK (w.heap.size+3) O (w4.alloc (aJ #[] 77)) (aE ⟨w4.heap.size,0,aA⟩) (T.drop (cT*2))):=⟨.inl HZ.o,λad e=>by cases e;have:=HON.o;simp;omega⟩
      have HNT:AO ((T.drop (cT*2)).length=0*2):=by show _=_;rw[HZ.o];rfl
      have v3:(w4.alloc (aJ #[] 77)).cell? ⟨O,3,aA⟩=aE (Z7 aT' nT cT'):=by rw[AA HO6.o.o 3];rfl
      have v2:(w4.alloc (aJ #[] 77)).cell? ⟨O,2,aA⟩=aE (Z8 aI k):=by rw[AA HO6.o.o 2];rfl
      have g3:=Ar (w4.alloc (aJ #[] 77)) O 3 _ _ HO6.o.o;have g2:=Ar (w4.alloc (aJ #[] 77)) O 2 _ _ HO6.o.o;have hw7:Wr O (w4.alloc (aJ #[] 77)) (((w4.alloc (aJ #[] 77)).setCell ⟨O,3,aA⟩ (Z7 (aE ⟨w4.heap.size,0,aA⟩) 0 0)).setCell ⟨O,2,aA⟩ (Z8 aI (a:Int))):=((Wr.refl _ _).setCell _ _).setCell _ _;have HO7:AO (OX w #[Z7 aD nD cD,Z7 aU nU cU,Z8 aI k,Z7 (aE ⟨t0,o0,aA⟩) nT cT] #[Z8 aN seq,Z8 aI 3,Z8 aN a,Z8 aN 0] O #[Z7 aD' nD' cD',Z7 aU' nU' cU',Z8 aI (a:Int),Z7 (aE ⟨w4.heap.size,0,aA⟩) 0 0] (((w4.alloc (aJ #[] 77)).setCell ⟨O,3,aA⟩ (Z7 (aE ⟨w4.heap.size,0,aA⟩) 0 0)).setCell ⟨O,2,aA⟩ (Z8 aI (a:Int)))):=(HO6.o.put 3 _).put 2 _;have HK7:AO (LK (w.heap.size+3) O (((w4.alloc (aJ #[] 77)).setCell ⟨O,3,aA⟩ (Z7 (aE ⟨w4.heap.size,0,aA⟩) 0 0)).setCell ⟨O,2,aA⟩ (Z8 aI (a:Int))) aD' D/\LK (w.heap.size+3) O (((w4.alloc (aJ #[] 77)).setCell ⟨O,3,aA⟩ (Z7 (aE ⟨w4.heap.size,0,aA⟩) 0 0)).setCell ⟨O,2,aA⟩ (Z8 aI (a:Int))) aU' U/\LK (w.heap.size+3) O (((w4.alloc (aJ #[] 77)).setCell ⟨O,3,aA⟩ (Z7 (aE ⟨w4.heap.size,0,aA⟩) 0 0)).setCell ⟨O,2,aA⟩ (Z8 aI (a:Int))) (aE ⟨w4.heap.size,0,aA⟩) (T.drop (cT*2))):=⟨HK6.o.1.wr hw7,HK6.o.2.wr hw7,HKT6.o.wr hw7⟩
      clear hb6 HO6 HK6 HKT6 hw7 HKD HKU HKT HTO HAD HEM HS5 HO;have HRB:AO ((((w4.alloc (aJ #[] 77)).setCell ⟨O,3,aA⟩ (Z7 (aE ⟨w4.heap.size,0,aA⟩) 0 0)).setCell ⟨O,2,aA⟩ (Z8 aI (a:Int))).heap[w.heap.size+2]?=aE (aJ CZ 60 (0,0))):=HO7.o.sx.rb;have HOB:AO ((((w4.alloc (aJ #[] 77)).setCell ⟨O,3,aA⟩ (Z7 (aE ⟨w4.heap.size,0,aA⟩) 0 0)).setCell ⟨O,2,aA⟩ (Z8 aI (a:Int))).heap[O]?=aE (aJ #[Z7 aD' nD' cD',Z7 aU' nU' cU',Z8 aI (a:Int),Z7 (aE ⟨w4.heap.size,0,aA⟩) 0 0] 33 (0,0))):=HO7.o.o;have HF:AO (Wy w.heap.size ((((w4.alloc (aJ #[] 77)).setCell ⟨O,3,aA⟩ (Z7 (aE ⟨w4.heap.size,0,aA⟩) 0 0)).setCell ⟨O,2,aA⟩ (Z8 aI (a:Int))).setRow (w.heap.size+2) #[aG true,Z7 aD' nD' cD',Z7 aU' nU' cU',Z8 aI (a:Int),Z7 (aE ⟨w4.heap.size,0,aA⟩) 0 0]) (aH #[aG true,Z7 aD' nD' cD',Z7 aU' nU' cU',Z8 aI (a:Int),Z7 (aE ⟨w4.heap.size,0,aA⟩) 0 0]) (I8 D U k T nT 3 a 0)/\Below w.heap.size w ((((w4.alloc (aJ #[] 77)).setCell ⟨O,3,aA⟩ (Z7 (aE ⟨w4.heap.size,0,aA⟩) 0 0)).setCell ⟨O,2,aA⟩ (Z8 aI (a:Int))).setRow (w.heap.size+2) #[aG true,Z7 aD' nD' cD',Z7 aU' nU' cU',Z8 aI (a:Int),Z7 (aE ⟨w4.heap.size,0,aA⟩) 0 0])):=by
       have hw:Wr (w.heap.size+2) (((w4.alloc (aJ #[] 77)).setCell ⟨O,3,aA⟩ (Z7 (aE ⟨w4.heap.size,0,aA⟩) 0 0)).setCell ⟨O,2,aA⟩ (Z8 aI (a:Int))) ((((w4.alloc (aJ #[] 77)).setCell ⟨O,3,aA⟩ (Z7 (aE ⟨w4.heap.size,0,aA⟩) 0 0)).setCell ⟨O,2,aA⟩ (Z8 aI (a:Int))).setRow (w.heap.size+2) #[aG true,Z7 aD' nD' cD',Z7 aU' nU' cU',Z8 aI (a:Int),Z7 (aE ⟨w4.heap.size,0,aA⟩) 0 0]):=Wr.setRow _ _ _;refine⟨?_,HO7.o.sx.below.trans (hw.below AJ)⟩;rw[HR2.o];exact⟨_,_,_,_,_,_,_,_,_,rfl,HK7.o.1.1.wrR hw HK7.o.1.2,HK7.o.2.1.1.wrR hw HK7.o.2.1.2,HK7.o.2.2.1.wrR hw HK7.o.2.2.2,HND.o.1,HND.o.2.1,HNT.o,λad e=>⟨AG (HK7.o.1.2 ad e).1,by rw[hw.size];exact(HK7.o.1.2 ad e).2.2⟩,λad e=>⟨AG (HK7.o.2.1.2 ad e).1,by rw[hw.size];exact(HK7.o.2.1.2 ad e).2.2⟩,λad e=>⟨AG (HK7.o.2.2.2 ad e).1,by rw[hw.size];exact(HK7.o.2.2.2 ad e).2.2⟩,AK,AK⟩
      go_upto_region 24 with fail
      generalize (((w4.alloc (aJ #[] 77)).setCell ⟨O,3,aA⟩ (Z7 (aE ⟨w4.heap.size,0,aA⟩) 0 0)).setCell ⟨O,2,aA⟩ (Z8 aI (a:Int)))=wz at *;go_wp2_with (first
       |(refine Ae rfl 33 (aM 5) rfl O rfl 33 _ (0,0) _ HOB.o underlying33 rfl HSZ.o ?_)
       |(refine AE 60 (aM 4) (aM 129) (w.heap.size+2) #[aG true,Z7 aD' nD' cD',Z7 aU' nU' cU',Z8 aI (a:Int),Z7 (aE ⟨w4.heap.size,0,aA⟩) 0 0] 60 HRB.o HRZ.o rfl (by simp[Value.oneCell']) ?_)
       |fail)
      exact Ab (v:=aH #[aG true,Z7 aD' nD' cD',Z7 aU' nU' cU',Z8 aI (a:Int),Z7 (aE ⟨w4.heap.size,0,aA⟩) 0 0]) (Ah rfl _ _ (w.heap.size+2) 60 _ (0,0) _ rfl (AB HRB.o) underlying60 rfl HRZ.o) rfl ⟨_,rfl,HF.o.1,HF.o.2⟩
     ·have HDR:AO (At aI w4 (aE ⟨t0,o0+m*2,aA⟩) (T.drop (m*2))):=.inr ⟨t0,o0+m*2,rfl,HCT.o.1,λi hi=>by
       rw[BJ] at hi;have:=HCT.o.2 (m*2+i) AJ;rw[<-Ax] at this;rw[this];simp[List.getD]⟩
      have HAT5:AO (At aI (w4.alloc (aJ #[] 77)) (aE ⟨t0,o0+m*2,aA⟩) (T.drop (m*2))):=At.below (HDR.o) (Cg.alloc Cl _);go_wp2_with (first
       |(refine Mz 31 77 (aH #[Z8 aI 0,Z8 aI 0]) 2 16 Tryz.infoTap underlying31 rfl AK AK _ rfl (aM 116) (aM 123) rfl (w.heap.size+3) _ rfl HEM.o (aE ⟨t0,o0+m*2,aA⟩) (nT-m) (cT-m) (T.drop (m*2)) rfl HLD.o HAT5.o HMN.o HS5.o ?_)
       |fail)
      intro v6 w6 h1 h2;have h1':C7 (w.heap.size+3) w6 v6 (T.drop (m*2)) (nT-m):=by unfold C7;rw[List.map_drop];exact h1
      obtain⟨aT2,cT2,rfl⟩:=h1'.tapV.slice;have HC2:AO (nT-m<=cT2/\cT2<=9223372036854775807):=h1'.cap;have hb6:Below w4.heap.size w4 w6:=(Cg.alloc Cl _).trans (h2.mono AL);have HO6:AO (OX w #[Z7 aD nD cD,Z7 aU nU cU,Z8 aI k,Z7 (aE ⟨t0,o0,aA⟩) nT cT] #[Z8 aN seq,Z8 aI 3,Z8 aN a,Z8 aN 0] O #[Z7 aD' nD' cD',Z7 aU' nU' cU',Z8 aI k,Z7 aT' nT cT'] w6):=HO.o.call hb6;have HK6:AO (LK (w.heap.size+3) O w6 aD' D/\LK (w.heap.size+3) O w6 aU' U):=⟨HKD.o.below hb6,HKU.o.below hb6⟩
      have HKT6:AO (LK (w.heap.size+3) O w6 aT2 (T.drop (m*2))):=by
       obtain⟨q1,q2,q3⟩:=h1'.tapV.sat;refine⟨q1.at_,λad e=>⟨(q3 ad e).1,λeo=>?_,(q3 ad e).2⟩⟩;rcases h1'.2 with⟨e2,_⟩|⟨g',cap',cur',e2,_,hh',_⟩
       ·injection e2 with e5
        rw[e5] at e;cases e
       ·injection e2 with e5
        rw[e5] at e;cases e;have h9:=HO6.o.o;rw[<-eo,hh'] at h9;injection h9 with e3
        injection e3 with _ e4 _
        exact absurd e4 AK
      have HNT:AO ((T.drop (m*2)).length=(nT-m)*2):=HLD.o;have v3:w6.cell? ⟨O,3,aA⟩=aE (Z7 aT' nT cT'):=by rw[AA HO6.o.o 3];rfl
      have v2:w6.cell? ⟨O,2,aA⟩=aE (Z8 aI k):=by rw[AA HO6.o.o 2];rfl
      have g3:=Ar w6 O 3 _ _ HO6.o.o;have g2:=Ar w6 O 2 _ _ HO6.o.o;have hw7:Wr O w6 ((w6.setCell ⟨O,3,aA⟩ (Z7 aT2 (nT-m:Nat) cT2)).setCell ⟨O,2,aA⟩ (Z8 aI (a:Int))):=((Wr.refl _ _).setCell _ _).setCell _ _;have HO7:AO (OX w #[Z7 aD nD cD,Z7 aU nU cU,Z8 aI k,Z7 (aE ⟨t0,o0,aA⟩) nT cT] #[Z8 aN seq,Z8 aI 3,Z8 aN a,Z8 aN 0] O #[Z7 aD' nD' cD',Z7 aU' nU' cU',Z8 aI (a:Int),Z7 aT2 (nT-m:Nat) cT2] ((w6.setCell ⟨O,3,aA⟩ (Z7 aT2 (nT-m:Nat) cT2)).setCell ⟨O,2,aA⟩ (Z8 aI (a:Int)))):=(HO6.o.put 3 _).put 2 _;have HK7:AO (LK (w.heap.size+3) O ((w6.setCell ⟨O,3,aA⟩ (Z7 aT2 (nT-m:Nat) cT2)).setCell ⟨O,2,aA⟩ (Z8 aI (a:Int))) aD' D/\LK (w.heap.size+3) O ((w6.setCell ⟨O,3,aA⟩ (Z7 aT2 (nT-m:Nat) cT2)).setCell ⟨O,2,aA⟩ (Z8 aI (a:Int))) aU' U/\LK (w.heap.size+3) O ((w6.setCell ⟨O,3,aA⟩ (Z7 aT2 (nT-m:Nat) cT2)).setCell ⟨O,2,aA⟩ (Z8 aI (a:Int))) aT2 (T.drop (m*2))):=⟨HK6.o.1.wr hw7,HK6.o.2.wr hw7,HKT6.o.wr hw7⟩
      clear h1 h1' h2 hb6 HO6 HK6 HKT6 hw7 z2 z3 s0 s1 s2 s3 f1 f2 f3 HKD HKU HKT HTO HAD HAT5 HEM HS5 HO;have HRB:AO (((w6.setCell ⟨O,3,aA⟩ (Z7 aT2 (nT-m:Nat) cT2)).setCell ⟨O,2,aA⟩ (Z8 aI (a:Int))).heap[w.heap.size+2]?=aE (aJ CZ 60 (0,0))):=HO7.o.sx.rb;have HOB:AO (((w6.setCell ⟨O,3,aA⟩ (Z7 aT2 (nT-m:Nat) cT2)).setCell ⟨O,2,aA⟩ (Z8 aI (a:Int))).heap[O]?=aE (aJ #[Z7 aD' nD' cD',Z7 aU' nU' cU',Z8 aI (a:Int),Z7 aT2 (nT-m:Nat) cT2] 33 (0,0))):=HO7.o.o;have HF:AO (Wy w.heap.size (((w6.setCell ⟨O,3,aA⟩ (Z7 aT2 (nT-m:Nat) cT2)).setCell ⟨O,2,aA⟩ (Z8 aI (a:Int))).setRow (w.heap.size+2) #[aG true,Z7 aD' nD' cD',Z7 aU' nU' cU',Z8 aI (a:Int),Z7 aT2 (nT-m:Nat) cT2]) (aH #[aG true,Z7 aD' nD' cD',Z7 aU' nU' cU',Z8 aI (a:Int),Z7 aT2 (nT-m:Nat) cT2]) (I8 D U k T nT 3 a 0)/\Below w.heap.size w (((w6.setCell ⟨O,3,aA⟩ (Z7 aT2 (nT-m:Nat) cT2)).setCell ⟨O,2,aA⟩ (Z8 aI (a:Int))).setRow (w.heap.size+2) #[aG true,Z7 aD' nD' cD',Z7 aU' nU' cU',Z8 aI (a:Int),Z7 aT2 (nT-m:Nat) cT2])):=by
       have hw:Wr (w.heap.size+2) ((w6.setCell ⟨O,3,aA⟩ (Z7 aT2 (nT-m:Nat) cT2)).setCell ⟨O,2,aA⟩ (Z8 aI (a:Int))) (((w6.setCell ⟨O,3,aA⟩ (Z7 aT2 (nT-m:Nat) cT2)).setCell ⟨O,2,aA⟩ (Z8 aI (a:Int))).setRow (w.heap.size+2) #[aG true,Z7 aD' nD' cD',Z7 aU' nU' cU',Z8 aI (a:Int),Z7 aT2 (nT-m:Nat) cT2]):=Wr.setRow _ _ _;refine⟨?_,HO7.o.sx.below.trans (hw.below AJ)⟩;rw[HR2.o];exact⟨_,_,_,_,_,_,_,_,_,rfl,HK7.o.1.1.wrR hw HK7.o.1.2,HK7.o.2.1.1.wrR hw HK7.o.2.1.2,HK7.o.2.2.1.wrR hw HK7.o.2.2.2,HND.o.1,HND.o.2.1,HNT.o,λad e=>⟨AG (HK7.o.1.2 ad e).1,by rw[hw.size];exact(HK7.o.1.2 ad e).2.2⟩,λad e=>⟨AG (HK7.o.2.1.2 ad e).1,by rw[hw.size];exact(HK7.o.2.1.2 ad e).2.2⟩,λad e=>⟨AG (HK7.o.2.2.2 ad e).1,by rw[hw.size];exact(HK7.o.2.2.2 ad e).2.2⟩,HC2.o.1,HC2.o.2⟩
      go_upto_region 24 with fail
      generalize ((w6.setCell ⟨O,3,aA⟩ (Z7 aT2 (nT-m:Nat) cT2)).setCell ⟨O,2,aA⟩ (Z8 aI (a:Int)))=wz at *;go_wp2_with (first
       |(refine Ae rfl 33 (aM 5) rfl O rfl 33 _ (0,0) _ HOB.o underlying33 rfl HSZ.o ?_)
       |(refine AE 60 (aM 4) (aM 129) (w.heap.size+2) #[aG true,Z7 aD' nD' cD',Z7 aU' nU' cU',Z8 aI (a:Int),Z7 aT2 (nT-m:Nat) cT2] 60 HRB.o HRZ.o rfl (by simp[Value.oneCell']) ?_)
       |fail)
      exact Ab (v:=aH #[aG true,Z7 aD' nD' cD',Z7 aU' nU' cU',Z8 aI (a:Int),Z7 aT2 (nT-m:Nat) cT2]) (Ah rfl _ _ (w.heap.size+2) 60 _ (0,0) _ rfl (AB HRB.o) underlying60 rfl HRZ.o) rfl ⟨_,rfl,HF.o.1,HF.o.2⟩
    ·have HR2:AO (I8 D U k T nT 3 a 0=⟨true,D,U,k,T,nT⟩):=by
      show _=_
      have e:I4 k a=0:=by unfold I4;omega
      rw[HR.o,e];simp;omega
     have HRB:AO (w4.heap[w.heap.size+2]?=aE (aJ CZ 60 (0,0))):=HO.o.sx.rb;have HOB:AO (w4.heap[O]?=aE (aJ #[Z7 aD' nD' cD',Z7 aU' nU' cU',Z8 aI k,Z7 aT' nT cT'] 33 (0,0))):=HO.o.o;have HF:AO (Wy w.heap.size (w4.setRow (w.heap.size+2) #[aG true,Z7 aD' nD' cD',Z7 aU' nU' cU',Z8 aI k,Z7 aT' nT cT']) (aH #[aG true,Z7 aD' nD' cD',Z7 aU' nU' cU',Z8 aI k,Z7 aT' nT cT']) (I8 D U k T nT 3 a 0)/\Below w.heap.size w (w4.setRow (w.heap.size+2) #[aG true,Z7 aD' nD' cD',Z7 aU' nU' cU',Z8 aI k,Z7 aT' nT cT'])):=by
      have hw:Wr (w.heap.size+2) w4 (w4.setRow (w.heap.size+2) #[aG true,Z7 aD' nD' cD',Z7 aU' nU' cU',Z8 aI k,Z7 aT' nT cT']):=Wr.setRow _ _ _;refine⟨?_,HO.o.sx.below.trans (hw.below AJ)⟩;rw[HR2.o];exact⟨_,_,_,_,_,_,_,_,_,rfl,HKD.o.1.wrR hw HKD.o.2,HKU.o.1.wrR hw HKU.o.2,HKT.o.1.wrR hw HKT.o.2,HND.o.1,HND.o.2.1,HND.o.2.2,λad e=>⟨AG (HKD.o.2 ad e).1,by rw[hw.size];exact(HKD.o.2 ad e).2.2⟩,λad e=>⟨AG (HKU.o.2 ad e).1,by rw[hw.size];exact(HKU.o.2 ad e).2.2⟩,λad e=>⟨AG (HKT.o.2 ad e).1,by rw[hw.size];exact(HKT.o.2 ad e).2.2⟩,HCC.o.1,HCC.o.2⟩
     go_upto_region 24 with fail
     generalize w4=wz at *;go_wp2_with (first
      |(refine Ae rfl 33 (aM 5) rfl O rfl 33 _ (0,0) _ HOB.o underlying33 rfl HSZ.o ?_)
      |(refine AE 60 (aM 4) (aM 129) (w.heap.size+2) #[aG true,Z7 aD' nD' cD',Z7 aU' nU' cU',Z8 aI k,Z7 aT' nT cT'] 60 HRB.o HRZ.o rfl (by simp[Value.oneCell']) ?_)
      |fail)
     exact Ab (v:=aH #[aG true,Z7 aD' nD' cD',Z7 aU' nU' cU',Z8 aI k,Z7 aT' nT cT']) (Ah rfl _ _ (w.heap.size+2) 60 _ (0,0) _ rfl (AB HRB.o) underlying60 rfl HRZ.o) rfl ⟨_,rfl,HF.o.1,HF.o.2⟩
   ·have HAN:AO (I8 D U k T nT 3 a b=IB):=by show _=_;rw[HAR.o,Qd hc]
    have h9:=HOKF.o;rw[HAN.o] at h9;cases h9
  have HAN:AO (I8 D U k T nT kind a b=IB):=by show _=_;rw[HAR.o,Qe k1 k2 k3]
  have h9:=HOKF.o;rw[HAN.o] at h9;cases h9
end Go.Proofs.YtjdhhgaelgemcaaGreatDoor
