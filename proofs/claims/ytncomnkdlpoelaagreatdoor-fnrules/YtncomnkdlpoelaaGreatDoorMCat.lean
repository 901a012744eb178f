import Derived.Test.YtncomnkdlpoelaaGreatDoorMShK
open Go.Proofs.Tryz
open Go.Value renaming slice->aM,int->aO,bool->ae,agg->af
open Go.IntKind renaming i64->aZ,u32->ai
open Go.Obj renaming cells->aa
open Go.Operand renaming tmp->ah
open Option renaming some->aR,none->aS
open Go renaming World->aV,Value->aX
set_option maxHeartbeats 8000000
set_option maxRecDepth 100000
namespace Go.Proofs.YtncomnkdlpoelaaGreatDoor
open Go.ChangeShapes Go.WideShapes Go.ChangeAt Go.RowKit
set_option linter.unusedVariables false
def M4 (x:Int):List Int:=[x%256,x/256%256,x/65536%256,x/16777216]
theorem TA (x:Int) (w:aV) (hx:Zs x) :
  Calls Tryz.prog 64 #[aO ai x] w λe w'=>e=.returned (aM (aR ⟨w.heap.size,0,aS⟩) 4 4)/\
   w'=w.alloc (aa #[aO .u8 (x%256),aO .u8 (x/256%256),aO .u8 (x/65536%256),aO .u8 (x/16777216)] 5):=by
 obtain⟨h0,h1⟩:=hx;go_enter func64,ntmps64;go_wp2
 go_ret
 exact⟨rfl,rfl⟩
def H9 (lo:Nat) (w:aV) (v:aX) (r:Xi):Prop:=
 ∃ aD nD cD aU nU cU aT nT cT,v=af #[ae r.ok,aM aD nD cD,aM aU nU cU,aO aZ r.k,aM aT nT cT]/\At aZ w aD r.D/\At aZ w aU r.U/\At aZ w aT r.T/\r.D.length=nD/\r.U.length=nU/\r.T.length=nT*2/\GC lo w aD/\GC lo w aU/\GC lo w aT/\nT<=cT/\cT<=9223372036854775807
theorem H9.no (lo:Nat) (w:aV):H9 lo w (af CE) EE:=⟨aS,0,0,aS,0,0,aS,0,0,rfl,.inl rfl,.inl rfl,.inl rfl,rfl,rfl,rfl,λ_ h=>(by cases h),λ_ h=>(by cases h),λ_ h=>(by cases h),AK,AK⟩
theorem Cj.cap {B:Nat} {w:aV} {a:Option Addr} {n c n':Nat} {T:List Int} (h:Cj B w (aM a n c) T n'):n<=c/\c<=9223372036854775807:=by
 rcases h.2 with⟨h1,h2⟩|⟨g,c',cur,h1,_,_,h4,h5,_⟩
 ·cases h1;exact⟨Aa _,AK⟩
 ·cases h1;exact⟨h4,by unfold maxLen at h5;omega⟩
structure SX (w:aV) (sc fr:Array aX) (wr:aV):Prop where
 below:Below w.heap.size w wr
 sb:wr.heap[w.heap.size]?=aR (aa sc 26 (0,0))
 fb:wr.heap[w.heap.size+1]?=aR (aa fr 38 (0,0))
 rb:wr.heap[w.heap.size+2]?=aR (aa CE 42 (0,0))
theorem SX.keep {w wr w':aV} {sc fr:Array aX} (h:SX w sc fr wr) (b:Below (w.heap.size+3) wr w'):SX w sc fr w':=
 ⟨h.below.trans (b.mono AJ),by rw[b.block _ AJ];exact h.sb,by rw[b.block _ AJ];exact h.fb,by rw[b.block _ AJ];exact h.rb⟩
theorem SX.lt {w wr:aV} {sc fr:Array aX} (h:SX w sc fr wr):w.heap.size+3<=wr.heap.size:=(AR.1 h.rb).1
theorem SX.call {w wr w':aV} {sc fr:Array aX} (h:SX w sc fr wr) (b:Below wr.heap.size wr w'):SX w sc fr w':=h.keep (b.mono h.lt)
theorem SX.start (w:aV) (sc fr:Array aX):SX w sc fr (((w.alloc (aa sc 26)).alloc (aa fr 38)).alloc (aa CE 42)):=by
 have h:=IX.start w sc fr;refine⟨h.below,?_,h.fb,h.rb⟩;rw[BD _ _ w.heap.size (by simp;omega),BD _ _ w.heap.size AL];exact AS w _
structure OX (w:aV) (sc fr:Array aX) (O:Nat) (cs:Array aX) (wr:aV):Prop where
 sx:SX w sc fr wr
 o:wr.heap[O]?=aR (aa cs 26 (0,0))
 hO:w.heap.size+3<=O
theorem OX.lt {w wr:aV} {sc fr cs:Array aX} {O:Nat} (h:OX w sc fr O cs wr):O<wr.heap.size:=(AR.1 h.o).1
theorem OX.call {w wr w':aV} {sc fr cs:Array aX} {O:Nat} (h:OX w sc fr O cs wr) (b:Below wr.heap.size wr w'):OX w sc fr O cs w':=⟨h.sx.call b,by rw[b.block _ h.lt];exact h.o,h.hO⟩
theorem OX.put {w wr:aV} {sc fr cs:Array aX} {O:Nat} (h:OX w sc fr O cs wr) (i:Nat) (v:aX):OX w sc fr O (cs.setIfInBounds i v) (wr.setCell ⟨O,i,aS⟩ v):=by
 have hw:Wr O wr (wr.setCell ⟨O,i,aS⟩ v):=(Wr.refl _ _).setCell _ _;exact⟨h.sx.keep (hw.below h.hO),Ao _ _ _ _ _ _ h.o,h.hO⟩
def LK (lo O:Nat) (w:aV) (a:Option Addr) (xs:List Int):Prop:=At aZ w a xs/\∀ ad,a=aR ad->lo<=ad.block/\ad.block≠O/\ad.block<w.heap.size
theorem LK.below {lo O:Nat} {w w':aV} {a:Option Addr} {xs:List Int} (h:LK lo O w a xs) (b:Below w.heap.size w w'):LK lo O w' a xs:=⟨h.1.below b,λad e=>AH (h.2 ad e) b.size⟩
theorem LK.wr {lo O:Nat} {w w':aV} {a:Option Addr} {xs:List Int} (h:LK lo O w a xs) (hw:Wr O w w'):LK lo O w' a xs:=
 ⟨h.1.keepT (by rw[hw.size];exact Aa _) (λad e _=>hw.block _ (h.2 ad e).2.1),λad e=>by rw[hw.size];exact h.2 ad e⟩
theorem LK.grown {lo O:Nat} {w w':aV} {a:Option Addr} {xs:List Int} {row:Option Nat} (h:LK lo O w a xs) (hg:w.grownBy w' row) (hne:∀ ad,a=aR ad->aR ad.block≠row):LK lo O w' a xs:=
 ⟨h.1.keepT hg.size (λad e hl=>hg.block _ hl (hne ad e)),λad e=>AH (h.2 ad e) hg.size⟩
theorem At.wrR {lo O R:Nat} {w w':aV} {a:Option Addr} {xs:List Int} (h:At aZ w a xs) (hw:Wr R w w') (h2:∀ ad,a=aR ad->lo<=ad.block/\ad.block≠O/\ad.block<w.heap.size) (hR:R<lo:=by omega):At aZ w' a xs:=
 h.keepT (by rw[hw.size];exact Aa _) (λad e _=>hw.block _ (AG (h2 ad e).1))
theorem Iow.lk {lo O B:Nat} {w:aV} {a:Option Addr} {n c:Nat} {xs:List Int} (h:Iow B w (aM a n c) xs) (hB:lo<=B) (hO:O<B\/w.heap.size<=O):LK lo O w a xs:=by
 obtain⟨h1,h2,h3⟩:=h.sat;exact⟨h1.at_,λad e=>AG (h3 ad e)⟩
theorem Cj.lk {lo O B:Nat} {w:aV} {a:Option Addr} {n c:Nat} {T:List Int} (h:Cj B w (aM a n c) T n) (hB:lo<=B) (hO:O<B\/w.heap.size<=O):LK lo O w a T:=by
 obtain⟨h1,h2,h3⟩:=h.tapV.sat;exact⟨h1.at_,λad e=>AG (h3 ad e)⟩
theorem TB {B B':Nat} {w:aV} {a a':Option Addr} {n c n' c':Nat} {xs T:List Int} (h:Iow B w (aM a n c) xs) (h':Cj B' w (aM a' n' c') T n'):∀ ad,a=aR ad->aR ad.block≠(aM a' n' c').ownBlock:=by
 intro ad e he;rcases h.2 with⟨h1,_⟩|⟨g,cap,cur,h1,_,hh,_⟩
 ·cases h1;cases e
 ·cases h1;cases e;rcases h'.2 with⟨h2,_⟩|⟨g',cap',cur',h2,_,hh',_⟩
  ·cases h2;simp[Value.ownBlock] at he
  ·cases h2;simp[Value.ownBlock] at he;subst he;rw[hh] at hh';injection hh' with e1
   injection e1 with _ e2 _
   exact absurd e2 AK
theorem Pb {D U:List Int} {k:Int} {T:List Int} {n a b:Nat} (h:a<256/\¬ (a:Int)∈U/\¬ (a:Int)∈D):Dy D U k T n 1 a b=⟨true,D,DF U a,k,T++[(a:Int),(b:Int)],n+1⟩:=by unfold Dy;rw[AP rfl,AP h]
theorem Qn {D U:List Int} {k:Int} {T:List Int} {n a b:Nat} (h:¬ (a<256/\¬ (a:Int)∈U/\¬ (a:Int)∈D)):Dy D U k T n 1 a b=EE:=by unfold Dy;rw[AP rfl,AQ h]
theorem Pc {D U:List Int} {k:Int} {T:List Int} {n a:Nat} (h:a<256/\¬ (a:Int)∈D/\¬ D.length=16):Dy D U k T n 2 a 1=⟨true,DF D a,U,k,T,n⟩:=by unfold Dy;rw[AQ AK,AP rfl,AP ⟨rfl,h⟩]
theorem Pd {D U:List Int} {k:Int} {T:List Int} {n a:Nat} (h:a<256/\(a:Int)∈D):Dy D U k T n 2 a 0=⟨true,Dq D a,U,k,T,n⟩:=by unfold Dy;rw[AQ AK,AP rfl,AQ (λh=>by cases h.1),AP ⟨rfl,h⟩]
theorem ON {D U:List Int} {k:Int} {T:List Int} {n a b:Nat} (h:¬ (b=1/\a<256/\¬ (a:Int)∈D/\¬ D.length=16)) (h':¬ (b=0/\a<256/\(a:Int)∈D)):Dy D U k T n 2 a b=EE:=by unfold Dy;rw[AQ AK,AP rfl,AQ h,AQ h']
theorem Pe {D U:List Int} {k:Int} {T:List Int} {n a:Nat} (h:(a:Int)<=k+n):Dy D U k T n 3 a 0=⟨true,D,U,max a k,T.drop (DW k a*2),n-DW k a⟩:=by unfold Dy;rw[AQ AK,AQ AK,AP rfl,AP ⟨rfl,h⟩]
theorem Qo {D U:List Int} {k:Int} {T:List Int} {n a b:Nat} (h:¬ (b=0/\(a:Int)<=k+n)):Dy D U k T n 3 a b=EE:=by unfold Dy;rw[AQ AK,AQ AK,AP rfl,AQ h]
theorem Qp {D U:List Int} {k:Int} {T:List Int} {n a b:Nat} {kind:Int} (h1:¬ kind=1) (h2:¬ kind=2) (h3:¬ kind=3):Dy D U k T n kind a b=EE:=by unfold Dy;rw[AQ h1,AQ h2,AQ h3]
theorem Pf (aD aU aT:Option Addr) (nD cD nU cU nT cT:Nat) (D U:List Int) (k:Int) (T:List Int) (seq kind:Int) (a b:Nat) (w:aV) (hD:D.length=nD) (hU:U.length=nU) (hT:T.length=nT*2) (mD:nD<=1048576) (mU:nU<=1048576) (mT:nT<=1048576)
  (haD:At aZ w aD D) (haU:At aZ w aU U) (haT:At aZ w aT T) (hcT:nT<=cT) (hcm:cT<=9223372036854775807) (hk0:-9223372036854775808<=k) (hk1:k<9223372036854775808) (ha:a<4294967296) (hbb:b<4294967296) :
  Calls Tryz.prog 11 #[af #[aM aD nD cD,aM aU nU cU,aO aZ k,aM aT nT cT],af #[aO ai seq,aO aZ kind,aO ai a,aO ai b]] w λe w'=>∃ v,e=.returned v/\H9 w.heap.size w' v (EY D U k T nT kind a b)/\Below w.heap.size w w':=by
 have HX0:AO (SX w #[aM aD nD cD,aM aU nU cU,aO aZ k,aM aT nT cT] #[aO ai seq,aO aZ kind,aO ai a,aO ai b] (((w.alloc (aa #[aM aD nD cD,aM aU nU cU,aO aZ k,aM aT nT cT] 26)).alloc (aa #[aO ai seq,aO aZ kind,aO ai a,aO ai b] 38)).alloc (aa CE 42))):=SX.start _ _ _;have HLN:AO (D.length=nD/\U.length=nU/\T.length=nT*2):=⟨hD,hU,hT⟩
 have HA:AO (∀ wz,Below w.heap.size w wz->At aZ wz aD D/\At aZ wz aU U/\At aZ wz aT T):=λwz h=>⟨haD.below h,haU.below h,haT.below h⟩
 have HC:=Hs aD aU aT nD cD nU cU nT cT D U k T _ hD hU hT mD mU mT (haD.below HX0.o.below) (haU.below HX0.o.below) (haT.below HX0.o.below) hk0 hk1;have HRZ:AO ((Tryz.prog.info? 42).map (·.size)=aR 5):=by show _=_;kernel_rfl
 have HSZ:AO ((Tryz.prog.info? 26).map (·.size)=aR 4):=by show _=_;kernel_rfl
 have HAF:AO (EY D U k T nT kind a b=if Ep D U k T nT=true then Dy D U k T nT kind a b else EE):=rfl;have HST:AO (Ep D U k T nT=true->Tt D U k T nT):=GD;go_enter func11,ntmps11;go_wp2_with fail;generalize (((w.alloc (aa #[aM aD nD cD,aM aU nU cU,aO aZ k,aM aT nT cT] 26)).alloc (aa #[aO ai seq,aO aZ kind,aO ai a,aO ai b] 38)).alloc (aa CE 42))=w0 at *;refine HC.mono ?_;rintro e w1 ⟨rfl,hb1⟩;have HX1:=CY <| HX0.o.call hb1
 generalize hq:Ep D U k T nT=q at *;have HQ:=CY <| hq
 cases q with
 |false=>
  have HFN:AO (EY D U k T nT kind a b=EE):=by show _=_;rw[HAF.o];rfl
  have HRB:=CY <| HX1.o.rb
  have HF:AO (H9 w.heap.size (w1.setRow (w.heap.size+2) CE) (af CE) (EY D U k T nT kind a b)/\Below w.heap.size w (w1.setRow (w.heap.size+2) CE)):=⟨by rw[HFN.o];exact H9.no _ _,HX1.o.below.trans ((Wr.setRow _ _ _).below AJ)⟩
  go_upto_region 2 with fail
  go_wp2_with (first
   |(refine AE 42 (ah 4) (ah 10) (w.heap.size+2) CE 42 HRB.o HRZ.o rfl (by simp[Value.oneCell']) ?_)
   |fail)
  exact AU (v:=af CE) (AY rfl _ _ (w.heap.size+2) 42 _ (0,0) _ rfl (AB HRB.o) underlying42 rfl HRZ.o) rfl ⟨_,rfl,HF.o.1,HF.o.2⟩
 |true=>
  have HAR:AO (EY D U k T nT kind a b=Dy D U k T nT kind a b):=by show _=_;rw[HAF.o];rfl
  have hst:=HST.o rfl;have hk0':=hst.2.2.2.1;have hkn:k+nT=(nU:Int):=by have:=hst.2.2.2.2.1;rw[HLN.o.2.1] at this;exact this
  have hd16:nD<=16:=by have:=hst.2.1;rw[HLN.o.1] at this;exact this
  have HSD:AO (∀ z,z∈D->0<=z/\z<256):=λz hz=>hst.1.range hz
  have HL:=L4 aD aU aT nD cD nU cU nT cT D U k T w1 HLN.o.1 HLN.o.2.1 HLN.o.2.2 mD mU mT (HA.o w1 HX1.o.below).1 (HA.o w1 HX1.o.below).2.1 (HA.o w1 HX1.o.below).2.2;have s0:w1.cell? ⟨w.heap.size,0,aS⟩=aR (aM aD nD cD):=by rw[AA HX1.o.sb 0];rfl
  have s1:w1.cell? ⟨w.heap.size,1,aS⟩=aR (aM aU nU cU):=by rw[AA HX1.o.sb 1];rfl
  have s2:w1.cell? ⟨w.heap.size,2,aS⟩=aR (aO aZ k):=by rw[AA HX1.o.sb 2];rfl
  have s3:w1.cell? ⟨w.heap.size,3,aS⟩=aR (aM aT nT cT):=by rw[AA HX1.o.sb 3];rfl
  go_wp2_with fail;refine HL.mono ?_;rintro e w3 ⟨cs,rfl,⟨aD',nD',cD',aU',nU',cU',aT',cT',rfl,hcD,hcU,hcTT⟩,hb3⟩;have HCC:=CY <| hcTT.cap
  have b4:Below w3.heap.size w3 (w3.alloc (aa #[aM aD' nD' cD',aM aU' nU' cU',aO aZ k,aM aT' nT cT'] 26)):=Cf.alloc Ch _;have HO:AO (OX w #[aM aD nD cD,aM aU nU cU,aO aZ k,aM aT nT cT] #[aO ai seq,aO aZ kind,aO ai a,aO ai b] w3.heap.size #[aM aD' nD' cD',aM aU' nU' cU',aO aZ k,aM aT' nT cT'] (w3.alloc (aa #[aM aD' nD' cD',aM aU' nU' cU',aO aZ k,aM aT' nT cT'] 26))):=⟨(HX1.o.call hb3).call b4,AS w3 _,(HX1.o.call hb3).lt⟩
  have hb1:=HX1.o.lt;have HKD:=CY <| (hcD.lk hb1 (.inr Ch)).below b4
  have HKU:=CY <| (hcU.lk hb1 (.inr Ch)).below b4
  have HKT:=CY <| (hcTT.lk hb1 (.inr Ch)).below b4
  have HTO:=CY <| (Cj.mono hcTT hb1).below b4
  have HDT:=CY <| TB hcD hcTT
  have HTNE:AO (Jn w3.heap.size (aM aT' nT cT')):=λt ht e=>by
   obtain⟨_,_,q3⟩:=hcTT.tapV.sat;cases aT' with
   |none=>simp[Value.ownBlock] at ht
   |some ad=>
    simp[Value.ownBlock] at ht;have:=(q3 ad rfl).2;omega
  have HND:AO (D.length=nD'/\U.length=nU'/\T.length=nT*2):=⟨hcD.sat.2.1,hcU.sat.2.1,HLN.o.2.2⟩
  go_upto_region 4 with fail
  generalize w3.alloc (aa #[aM aD' nD' cD',aM aU' nU' cU',aO aZ k,aM aT' nT cT'] 26)=w4 at *;generalize w3.heap.size=O at *;have s0:w4.cell? ⟨w.heap.size,0,aS⟩=aR (aM aD nD cD):=by rw[AA HO.o.sx.sb 0];rfl
  have s1:w4.cell? ⟨w.heap.size,1,aS⟩=aR (aM aU nU cU):=by rw[AA HO.o.sx.sb 1];rfl
  have s2:w4.cell? ⟨w.heap.size,2,aS⟩=aR (aO aZ k):=by rw[AA HO.o.sx.sb 2];rfl
  have s3:w4.cell? ⟨w.heap.size,3,aS⟩=aR (aM aT nT cT):=by rw[AA HO.o.sx.sb 3];rfl
  have f1:w4.cell? ⟨w.heap.size+1,1,aS⟩=aR (aO aZ kind):=by rw[AA HO.o.sx.fb 1];rfl
  have f2:w4.cell? ⟨w.heap.size+1,2,aS⟩=aR (aO ai a):=by rw[AA HO.o.sx.fb 2];rfl
  have f3:w4.cell? ⟨w.heap.size+1,3,aS⟩=aR (aO ai b):=by rw[AA HO.o.sx.fb 3];rfl
  have HAD:=CY <| HA.o w4 HO.o.sx.below
  have HON:AO (w.heap.size+3<=O/\O<w4.heap.size):=⟨HO.o.hO,HO.o.lt⟩
  by_cases k1:kind=1
  ·subst k1;by_cases hc:a<256/\¬ (a:Int)∈U/\¬ (a:Int)∈D
   ·have HR:AO (EY D U k T nT 1 a b=⟨true,D,DF U a,k,T++[(a:Int),(b:Int)],nT+1⟩):=by show _=_;rw[HAR.o,Pb hc]
    have h256:¬ ((a:Int)≥256):=AJ
    have HMU:=CY <| Fc hc.2.1
    have HMD:=CY <| Fc hc.2.2
    go_wp2_with fail;refine(C3 _ _ _ U _ _ HLN.o.2.1 mU HAD.o.2.1).mono ?_;rintro e w5 ⟨rfl,rfl⟩;rw[HMU.o];go_wp2_with fail;refine(C3 _ _ _ D _ _ HLN.o.1 mD HAD.o.1).mono ?_;rintro e w5 ⟨rfl,rfl⟩;rw[HMD.o];go_wp2_with fail;refine(Hc _ _ _ U a _ HLN.o.2.1 mU HAD.o.2.1).mono ?_;rintro e w6 ⟨v6,rfl,hv6,hb6⟩;obtain⟨aU2,nU2,cU2,rfl⟩:=hv6.form;have HO6:=CY <| HO.o.call hb6
    have HKD6:=CY <| HKD.o.below hb6
    have HKU6:AO (LK (w.heap.size+3) O w6 aU2 (DF U a)):=hv6.lk (AG HON.o) (.inl HON.o.2);have HNU6:=CY <| hv6.sat.2.1
    have HTO6:=CY <| HTO.o.below hb6
    have HUT6:=CY <| TB hv6 HTO6.o
    have HON6:AO (w.heap.size+3<=O/\O<w6.heap.size):=⟨HO6.o.hO,HO6.o.lt⟩
    have v1:w6.cell? ⟨O,1,aS⟩=aR (aM aU' nU' cU'):=by rw[AA HO6.o.o 1];rfl
    have g1:=An w6 O 1 _ _ HO6.o.o
    go_upto_region 10 with fail
    have hw7:Wr O w6 (w6.setCell ⟨O,1,aS⟩ (aM aU2 nU2 cU2)):=(Wr.refl _ _).setCell _ _;have HO7:AO (OX w #[aM aD nD cD,aM aU nU cU,aO aZ k,aM aT nT cT] #[aO ai seq,aO aZ 1,aO ai a,aO ai b] O #[aM aD' nD' cD',aM aU2 nU2 cU2,aO aZ k,aM aT' nT cT'] (w6.setCell ⟨O,1,aS⟩ (aM aU2 nU2 cU2))):=HO6.o.put 1 _;have HKD7:=CY <| HKD6.o.wr hw7
    have HKU7:=CY <| HKU6.o.wr hw7
    have hTne:Jn O (aM aT' nT cT'):=λt ht e=>HTNE.o t ht e
    have HTO7:=CY <| HTO6.o.wrg hTne hw7
    have HON7:AO (w.heap.size+3<=(w6.setCell ⟨O,1,aS⟩ (aM aU2 nU2 cU2)).heap.size):=by show _<=_;rw[hw7.size];have:=HON6.o;omega
    generalize w6.setCell ⟨O,1,aS⟩ (aM aU2 nU2 cU2)=w7 at *;have t3:w7.cell? ⟨O,3,aS⟩=aR (aM aT' nT cT'):=by rw[AA HO7.o.o 3];rfl
    have f3:w7.cell? ⟨w.heap.size+1,3,aS⟩=aR (aO ai b):=by rw[AA HO7.o.sx.fb 3];rfl
    have b8:Below w7.heap.size w7 (w7.alloc (aa #[aO aZ (a:Int),aO aZ (b:Int)] 70)):=Cf.alloc Ch _;have HTO8:=CY <| HTO7.o.below b8
    have HB8:AO (w.heap.size+3<=(w7.alloc (aa #[aO aZ (a:Int),aO aZ (b:Int)] 70)).heap.size):=by show _<=_;have:=HON7.o;have:=b8.size;omega
    go_wp2_with (first
     |(refine L1 _ rfl (ah 41) (ah 47) rfl (w.heap.size+3) (aM aT' nT cT') T nT rfl HTO8.o w7 a b rfl rfl mT HB8.o ?_)
     |fail)
    intro v9 w9 h1 ho h2 hgr how;obtain⟨aT2,cT2,rfl⟩:=h1.tapV.slice;have HC2:=CY <| h1.cap
    have hO8:O<(w7.alloc (aa #[aO aZ (a:Int),aO aZ (b:Int)] 70)).heap.size:=AH HO7.o.lt b8.size
    have HO9:AO (OX w #[aM aD nD cD,aM aU nU cU,aO aZ k,aM aT nT cT] #[aO ai seq,aO aZ 1,aO ai a,aO ai b] O #[aM aD' nD' cD',aM aU2 nU2 cU2,aO aZ k,aM aT' nT cT'] w9):=⟨(HO7.o.call b8).sx.keep h2,by rw[hgr.block O hO8 (λe=>hTne O e.symm rfl)];exact(HO7.o.call b8).o,HO7.o.hO⟩
    have HKD9:=CY <| (HKD7.o.below b8).grown hgr HDT.o
    have HKU9:=CY <| (HKU7.o.below b8).grown hgr HUT6.o
    have hTne9:Jn O (aM aT2 (nT+1:Nat) cT2):=λx hx=>by
     rcases how with e1|e1
     {exact hTne x (e1 ▸ hx)};{rw[e1] at hx;have hx':=Bt hx;have hO7:=HO7.o.lt;have hz8:=b8.size;omega}
    have HKT9:AO (LK (w.heap.size+3) O w9 aT2 (T++[(a:Int),(b:Int)])):=by
     obtain⟨q1,q2,q3⟩:=h1.tapV.sat;exact⟨q1.at_,λad e=>⟨(q3 ad e).1,hTne9 _ (by rw[e];rfl),(q3 ad e).2⟩⟩
    have v3:w9.cell? ⟨O,3,aS⟩=aR (aM aT' nT cT'):=by rw[AA HO9.o.o 3];rfl
    have g3:=An w9 O 3 _ _ HO9.o.o;have hw10:Wr O w9 (w9.setCell ⟨O,3,aS⟩ (aM aT2 (nT+1:Nat) cT2)):=(Wr.refl _ _).setCell _ _;have HO10:AO (OX w #[aM aD nD cD,aM aU nU cU,aO aZ k,aM aT nT cT] #[aO ai seq,aO aZ 1,aO ai a,aO ai b] O #[aM aD' nD' cD',aM aU2 nU2 cU2,aO aZ k,aM aT2 (nT+1:Nat) cT2] (w9.setCell ⟨O,3,aS⟩ (aM aT2 (nT+1:Nat) cT2))):=HO9.o.put 3 _;have HK10:AO (LK (w.heap.size+3) O (w9.setCell ⟨O,3,aS⟩ (aM aT2 (nT+1:Nat) cT2)) aD' D/\LK (w.heap.size+3) O (w9.setCell ⟨O,3,aS⟩ (aM aT2 (nT+1:Nat) cT2)) aU2 (DF U a)/\LK (w.heap.size+3) O (w9.setCell ⟨O,3,aS⟩ (aM aT2 (nT+1:Nat) cT2)) aT2 (T++[(a:Int),(b:Int)])):=⟨HKD9.o.wr hw10,HKU9.o.wr hw10,HKT9.o.wr hw10⟩
    have HLT:AO ((T++[(a:Int),(b:Int)]).length=(nT+1)*2):=by show _=_;rw[Ae,HND.o.2.2];simp;omega
    have HRB:=CY <| HO10.o.sx.rb
    have HOB:=CY <| HO10.o.o
    have HF:AO (H9 w.heap.size ((w9.setCell ⟨O,3,aS⟩ (aM aT2 (nT+1:Nat) cT2)).setRow (w.heap.size+2) #[ae true,aM aD' nD' cD',aM aU2 nU2 cU2,aO aZ k,aM aT2 (nT+1:Nat) cT2]) (af #[ae true,aM aD' nD' cD',aM aU2 nU2 cU2,aO aZ k,aM aT2 (nT+1:Nat) cT2]) (EY D U k T nT 1 a b)/\Below w.heap.size w ((w9.setCell ⟨O,3,aS⟩ (aM aT2 (nT+1:Nat) cT2)).setRow (w.heap.size+2) #[ae true,aM aD' nD' cD',aM aU2 nU2 cU2,aO aZ k,aM aT2 (nT+1:Nat) cT2])):=by
     have hw:Wr (w.heap.size+2) (w9.setCell ⟨O,3,aS⟩ (aM aT2 (nT+1:Nat) cT2)) ((w9.setCell ⟨O,3,aS⟩ (aM aT2 (nT+1:Nat) cT2)).setRow (w.heap.size+2) #[ae true,aM aD' nD' cD',aM aU2 nU2 cU2,aO aZ k,aM aT2 (nT+1:Nat) cT2]):=Wr.setRow _ _ _;refine⟨?_,HO10.o.sx.below.trans (hw.below AJ)⟩;rw[HR.o];exact⟨_,_,_,_,_,_,_,_,_,rfl,HK10.o.1.1.wrR hw HK10.o.1.2,HK10.o.2.1.1.wrR hw HK10.o.2.1.2,HK10.o.2.2.1.wrR hw HK10.o.2.2.2,HND.o.1,HNU6.o,HLT.o,λad e=>⟨AG (HK10.o.1.2 ad e).1,by rw[hw.size];exact(HK10.o.1.2 ad e).2.2⟩,λad e=>⟨AG (HK10.o.2.1.2 ad e).1,by rw[hw.size];exact(HK10.o.2.1.2 ad e).2.2⟩,λad e=>⟨AG (HK10.o.2.2.2 ad e).1,by rw[hw.size];exact(HK10.o.2.2.2 ad e).2.2⟩,HC2.o.1,HC2.o.2⟩
    go_upto_region 11 with fail
    generalize (w9.setCell ⟨O,3,aS⟩ (aM aT2 (nT+1:Nat) cT2))=wz at *;go_wp2_with (first
     |(refine AZ rfl 26 (ah 5) rfl O rfl 26 _ (0,0) _ HOB.o underlying26 rfl HSZ.o ?_)
     |(refine AE 42 (ah 4) (ah 51) (w.heap.size+2) #[ae true,aM aD' nD' cD',aM aU2 nU2 cU2,aO aZ k,aM aT2 (nT+1:Nat) cT2] 42 HRB.o HRZ.o rfl (by simp[Value.oneCell']) ?_)
     |fail)
    exact AU (v:=af #[ae true,aM aD' nD' cD',aM aU2 nU2 cU2,aO aZ k,aM aT2 (nT+1:Nat) cT2]) (AY rfl _ _ (w.heap.size+2) 42 _ (0,0) _ rfl (AB HRB.o) underlying42 rfl HRZ.o) rfl ⟨_,rfl,HF.o.1,HF.o.2⟩
   ·have HAN:AO (EY D U k T nT 1 a b=EE):=by show _=_;rw[HAR.o,Qn hc]
    have HX4:=CY <| HO.o.sx
    by_cases h256:(a:Int)≥256
    ·have HFN:=CY <| HAN.o
     have HRB:=CY <| HX4.o.rb
     have HF:AO (H9 w.heap.size (w4.setRow (w.heap.size+2) CE) (af CE) (EY D U k T nT 1 a b)/\Below w.heap.size w (w4.setRow (w.heap.size+2) CE)):=⟨by rw[HFN.o];exact H9.no _ _,HX4.o.below.trans ((Wr.setRow _ _ _).below AJ)⟩
     go_upto_region 8 with fail
     go_wp2_with (first
      |(refine AE 42 (ah 4) (ah 34) (w.heap.size+2) CE 42 HRB.o HRZ.o rfl (by simp[Value.oneCell']) ?_)
      |fail)
     exact AU (v:=af CE) (AY rfl _ _ (w.heap.size+2) 42 _ (0,0) _ rfl (AB HRB.o) underlying42 rfl HRZ.o) rfl ⟨_,rfl,HF.o.1,HF.o.2⟩
    have HH:AO (¬ (¬ (a:Int)∈U/\¬ (a:Int)∈D)):=λh=>hc ⟨AJ,h⟩
    by_cases hu:(a:Int)∈U
    ·have HMU:=CY <| EO hu
     go_wp2_with fail;refine(C3 _ _ _ U _ _ HLN.o.2.1 mU HAD.o.2.1).mono ?_;rintro e w5 ⟨rfl,rfl⟩;rw[HMU.o];have HFN:=CY <| HAN.o
     have HRB:=CY <| HX4.o.rb
     have HF:AO (H9 w.heap.size (w5.setRow (w.heap.size+2) CE) (af CE) (EY D U k T nT 1 a b)/\Below w.heap.size w (w5.setRow (w.heap.size+2) CE)):=⟨by rw[HFN.o];exact H9.no _ _,HX4.o.below.trans ((Wr.setRow _ _ _).below AJ)⟩
     go_upto_region 8 with fail
     go_wp2_with (first
      |(refine AE 42 (ah 4) (ah 34) (w.heap.size+2) CE 42 HRB.o HRZ.o rfl (by simp[Value.oneCell']) ?_)
      |fail)
     exact AU (v:=af CE) (AY rfl _ _ (w.heap.size+2) 42 _ (0,0) _ rfl (AB HRB.o) underlying42 rfl HRZ.o) rfl ⟨_,rfl,HF.o.1,HF.o.2⟩
    ·have hd:=Br λh=>HH.o ⟨hu,h⟩
     have HMU:=CY <| Fc hu
     have HMD:=CY <| EO hd
     go_wp2_with fail;refine(C3 _ _ _ U _ _ HLN.o.2.1 mU HAD.o.2.1).mono ?_;rintro e w5 ⟨rfl,rfl⟩;rw[HMU.o];go_wp2_with fail;refine(C3 _ _ _ D _ _ HLN.o.1 mD HAD.o.1).mono ?_;rintro e w5 ⟨rfl,rfl⟩;rw[HMD.o];have HFN:=CY <| HAN.o
     have HRB:=CY <| HX4.o.rb
     have HF:AO (H9 w.heap.size (w5.setRow (w.heap.size+2) CE) (af CE) (EY D U k T nT 1 a b)/\Below w.heap.size w (w5.setRow (w.heap.size+2) CE)):=⟨by rw[HFN.o];exact H9.no _ _,HX4.o.below.trans ((Wr.setRow _ _ _).below AJ)⟩
     go_upto_region 8 with fail
     go_wp2_with (first
      |(refine AE 42 (ah 4) (ah 34) (w.heap.size+2) CE 42 HRB.o HRZ.o rfl (by simp[Value.oneCell']) ?_)
      |fail)
     exact AU (v:=af CE) (AY rfl _ _ (w.heap.size+2) 42 _ (0,0) _ rfl (AB HRB.o) underlying42 rfl HRZ.o) rfl ⟨_,rfl,HF.o.1,HF.o.2⟩
  by_cases k2:kind=2
  ·subst k2;by_cases hc:b=1/\a<256/\¬ (a:Int)∈D/\¬ D.length=16
   ·have HR:AO (EY D U k T nT 2 a b=⟨true,DF D a,U,k,T,nT⟩):=by show _=_;rw[HAR.o,hc.1,Pc hc.2]
    obtain⟨hb1,h256',hd,h16⟩:=hc;subst hb1;have h256:(a:Int)<256:=AJ
    have h16':(nD:Int)<16:=by rw[HLN.o.1] at h16;omega
    have HMD:=CY <| Fc hd
    go_wp2_with fail;refine(C3 _ _ _ D _ _ HLN.o.1 mD HAD.o.1).mono ?_;rintro e w5 ⟨rfl,rfl⟩;rw[HMD.o];go_wp2_with fail;refine(Hc _ _ _ D a _ HLN.o.1 mD HAD.o.1).mono ?_;rintro e w6 ⟨v6,rfl,hv6,hb6⟩;obtain⟨aD2,nD2,cD2,rfl⟩:=hv6.form;have HO6:=CY <| HO.o.call hb6
    have HKU6:=CY <| HKU.o.below hb6
    have HKT6:=CY <| HKT.o.below hb6
    have HKD6:AO (LK (w.heap.size+3) O w6 aD2 (DF D a)):=hv6.lk (AG HON.o) (.inl HON.o.2);have HNU6:=CY <| hv6.sat.2.1
    have v1:w6.cell? ⟨O,0,aS⟩=aR (aM aD' nD' cD'):=by rw[AA HO6.o.o 0];rfl
    have g1:=An w6 O 0 _ _ HO6.o.o;have hw7:Wr O w6 (w6.setCell ⟨O,0,aS⟩ (aM aD2 nD2 cD2)):=(Wr.refl _ _).setCell _ _;have HO7:AO (OX w #[aM aD nD cD,aM aU nU cU,aO aZ k,aM aT nT cT] #[aO ai seq,aO aZ 2,aO ai a,aO ai 1] O #[aM aD2 nD2 cD2,aM aU' nU' cU',aO aZ k,aM aT' nT cT'] (w6.setCell ⟨O,0,aS⟩ (aM aD2 nD2 cD2))):=HO6.o.put 0 _;have HK7:AO (LK (w.heap.size+3) O (w6.setCell ⟨O,0,aS⟩ (aM aD2 nD2 cD2)) aD2 (DF D a)/\LK (w.heap.size+3) O (w6.setCell ⟨O,0,aS⟩ (aM aD2 nD2 cD2)) aU' U/\LK (w.heap.size+3) O (w6.setCell ⟨O,0,aS⟩ (aM aD2 nD2 cD2)) aT' T):=⟨HKD6.o.wr hw7,HKU6.o.wr hw7,HKT6.o.wr hw7⟩
    have HRB:=CY <| HO7.o.sx.rb
    have HOB:=CY <| HO7.o.o
    have HF:AO (H9 w.heap.size ((w6.setCell ⟨O,0,aS⟩ (aM aD2 nD2 cD2)).setRow (w.heap.size+2) #[ae true,aM aD2 nD2 cD2,aM aU' nU' cU',aO aZ k,aM aT' nT cT']) (af #[ae true,aM aD2 nD2 cD2,aM aU' nU' cU',aO aZ k,aM aT' nT cT']) (EY D U k T nT 2 a 1)/\Below w.heap.size w ((w6.setCell ⟨O,0,aS⟩ (aM aD2 nD2 cD2)).setRow (w.heap.size+2) #[ae true,aM aD2 nD2 cD2,aM aU' nU' cU',aO aZ k,aM aT' nT cT'])):=by
     have hw:Wr (w.heap.size+2) (w6.setCell ⟨O,0,aS⟩ (aM aD2 nD2 cD2)) ((w6.setCell ⟨O,0,aS⟩ (aM aD2 nD2 cD2)).setRow (w.heap.size+2) #[ae true,aM aD2 nD2 cD2,aM aU' nU' cU',aO aZ k,aM aT' nT cT']):=Wr.setRow _ _ _;refine⟨?_,HO7.o.sx.below.trans (hw.below AJ)⟩;rw[HR.o];exact⟨_,_,_,_,_,_,_,_,_,rfl,HK7.o.1.1.wrR hw HK7.o.1.2,HK7.o.2.1.1.wrR hw HK7.o.2.1.2,HK7.o.2.2.1.wrR hw HK7.o.2.2.2,HNU6.o,HND.o.2.1,HND.o.2.2,λad e=>⟨AG (HK7.o.1.2 ad e).1,by rw[hw.size];exact(HK7.o.1.2 ad e).2.2⟩,λad e=>⟨AG (HK7.o.2.1.2 ad e).1,by rw[hw.size];exact(HK7.o.2.1.2 ad e).2.2⟩,λad e=>⟨AG (HK7.o.2.2.2 ad e).1,by rw[hw.size];exact(HK7.o.2.2.2 ad e).2.2⟩,HCC.o.1,HCC.o.2⟩
    go_upto_region 15 with fail
    generalize (w6.setCell ⟨O,0,aS⟩ (aM aD2 nD2 cD2))=wz at *;go_wp2_with (first
     |(refine AZ rfl 26 (ah 5) rfl O rfl 26 _ (0,0) _ HOB.o underlying26 rfl HSZ.o ?_)
     |(refine AE 42 (ah 4) (ah 80) (w.heap.size+2) #[ae true,aM aD2 nD2 cD2,aM aU' nU' cU',aO aZ k,aM aT' nT cT'] 42 HRB.o HRZ.o rfl (by simp[Value.oneCell']) ?_)
     |fail)
    exact AU (v:=af #[ae true,aM aD2 nD2 cD2,aM aU' nU' cU',aO aZ k,aM aT' nT cT']) (AY rfl _ _ (w.heap.size+2) 42 _ (0,0) _ rfl (AB HRB.o) underlying42 rfl HRZ.o) rfl ⟨_,rfl,HF.o.1,HF.o.2⟩
   by_cases hc0:b=0/\a<256/\(a:Int)∈D
   ·have HR:AO (EY D U k T nT 2 a b=⟨true,Dq D a,U,k,T,nT⟩):=by show _=_;rw[HAR.o,hc0.1,Pd hc0.2]
    obtain⟨hb1,h256',hd⟩:=hc0;subst hb1;have HMD:=CY <| EO hd
    go_wp2_with fail;refine(C3 _ _ _ D _ _ HLN.o.1 mD HAD.o.1).mono ?_;rintro e w5 ⟨rfl,rfl⟩;rw[HMD.o];go_wp2_with fail;refine(S5 _ _ _ D a _ HLN.o.1 mD HAD.o.1).mono ?_;rintro e w6 ⟨v6,rfl,hv6,hb6⟩;obtain⟨aD2,nD2,cD2,rfl⟩:=hv6.form;have HO6:=CY <| HO.o.call hb6
    have HKU6:=CY <| HKU.o.below hb6
    have HKT6:=CY <| HKT.o.below hb6
    have HKD6:AO (LK (w.heap.size+3) O w6 aD2 (Dq D a)):=hv6.lk (AG HON.o) (.inl HON.o.2);have HNU6:=CY <| hv6.sat.2.1
    have v1:w6.cell? ⟨O,0,aS⟩=aR (aM aD' nD' cD'):=by rw[AA HO6.o.o 0];rfl
    have g1:=An w6 O 0 _ _ HO6.o.o;have hw7:Wr O w6 (w6.setCell ⟨O,0,aS⟩ (aM aD2 nD2 cD2)):=(Wr.refl _ _).setCell _ _;have HO7:AO (OX w #[aM aD nD cD,aM aU nU cU,aO aZ k,aM aT nT cT] #[aO ai seq,aO aZ 2,aO ai a,aO ai 0] O #[aM aD2 nD2 cD2,aM aU' nU' cU',aO aZ k,aM aT' nT cT'] (w6.setCell ⟨O,0,aS⟩ (aM aD2 nD2 cD2))):=HO6.o.put 0 _;have HK7:AO (LK (w.heap.size+3) O (w6.setCell ⟨O,0,aS⟩ (aM aD2 nD2 cD2)) aD2 (Dq D a)/\LK (w.heap.size+3) O (w6.setCell ⟨O,0,aS⟩ (aM aD2 nD2 cD2)) aU' U/\LK (w.heap.size+3) O (w6.setCell ⟨O,0,aS⟩ (aM aD2 nD2 cD2)) aT' T):=⟨HKD6.o.wr hw7,HKU6.o.wr hw7,HKT6.o.wr hw7⟩
    have HRB:=CY <| HO7.o.sx.rb
    have HOB:AO ((w6.setCell ⟨O,0,aS⟩ (aM aD2 nD2 cD2)).heap[O]?=aR (aa #[aM aD2 nD2 cD2,aM aU' nU' cU',aO aZ k,aM aT' nT cT'] 26 (0,0))):=HO7.o.o;have HF:AO (H9 w.heap.size ((w6.setCell ⟨O,0,aS⟩ (aM aD2 nD2 cD2)).setRow (w.heap.size+2) #[ae true,aM aD2 nD2 cD2,aM aU' nU' cU',aO aZ k,aM aT' nT cT']) (af #[ae true,aM aD2 nD2 cD2,aM aU' nU' cU',aO aZ k,aM aT' nT cT']) (EY D U k T nT 2 a 0)/\Below w.heap.size w ((w6.setCell ⟨O,0,aS⟩ (aM aD2 nD2 cD2)).setRow (w.heap.size+2) #[ae true,aM aD2 nD2 cD2,aM aU' nU' cU',aO aZ k,aM aT' nT cT'])):=by
     have hw:Wr (w.heap.size+2) (w6.setCell ⟨O,0,aS⟩ (aM aD2 nD2 cD2)) ((w6.setCell ⟨O,0,aS⟩ (aM aD2 nD2 cD2)).setRow (w.heap.size+2) #[ae true,aM aD2 nD2 cD2,aM aU' nU' cU',aO aZ k,aM aT' nT cT']):=Wr.setRow _ _ _;refine⟨?_,HO7.o.sx.below.trans (hw.below AJ)⟩;rw[HR.o];exact⟨_,_,_,_,_,_,_,_,_,rfl,HK7.o.1.1.wrR hw HK7.o.1.2,HK7.o.2.1.1.wrR hw HK7.o.2.1.2,HK7.o.2.2.1.wrR hw HK7.o.2.2.2,HNU6.o,HND.o.2.1,HND.o.2.2,λad e=>⟨AG (HK7.o.1.2 ad e).1,by rw[hw.size];exact(HK7.o.1.2 ad e).2.2⟩,λad e=>⟨AG (HK7.o.2.1.2 ad e).1,by rw[hw.size];exact(HK7.o.2.1.2 ad e).2.2⟩,λad e=>⟨AG (HK7.o.2.2.2 ad e).1,by rw[hw.size];exact(HK7.o.2.2.2 ad e).2.2⟩,HCC.o.1,HCC.o.2⟩
    go_upto_region 18 with fail
    generalize (w6.setCell ⟨O,0,aS⟩ (aM aD2 nD2 cD2))=wz at *;go_wp2_with (first
     |(refine AZ rfl 26 (ah 5) rfl O rfl 26 _ (0,0) _ HOB.o underlying26 rfl HSZ.o ?_)
     |(refine AE 42 (ah 4) (ah 96) (w.heap.size+2) #[ae true,aM aD2 nD2 cD2,aM aU' nU' cU',aO aZ k,aM aT' nT cT'] 42 HRB.o HRZ.o rfl (by simp[Value.oneCell']) ?_)
     |fail)
    exact AU (v:=af #[ae true,aM aD2 nD2 cD2,aM aU' nU' cU',aO aZ k,aM aT' nT cT']) (AY rfl _ _ (w.heap.size+2) 42 _ (0,0) _ rfl (AB HRB.o) underlying42 rfl HRZ.o) rfl ⟨_,rfl,HF.o.1,HF.o.2⟩
   ·have HAN:AO (EY D U k T nT 2 a b=EE):=by show _=_;rw[HAR.o,ON hc hc0]
    have HX4:=CY <| HO.o.sx
    by_cases hb1:b=1
    ·subst hb1;by_cases h256':a<256
     ·have h256:(a:Int)<256:=AJ
      by_cases hd:(a:Int)∈D
      ·have HMD:=CY <| EO hd
       go_wp2_with fail;refine(C3 _ _ _ D _ _ HLN.o.1 mD HAD.o.1).mono ?_;rintro e w5 ⟨rfl,rfl⟩;rw[HMD.o];have HFN:=CY <| HAN.o
       have HRB:=CY <| HX4.o.rb
       have HF:AO (H9 w.heap.size (w5.setRow (w.heap.size+2) CE) (af CE) (EY D U k T nT 2 a 1)/\Below w.heap.size w (w5.setRow (w.heap.size+2) CE)):=⟨by rw[HFN.o];exact H9.no _ _,HX4.o.below.trans ((Wr.setRow _ _ _).below AJ)⟩
       go_upto_region 25 with fail
       go_wp2_with (first
        |(refine AE 42 (ah 4) (ah 130) (w.heap.size+2) CE 42 HRB.o HRZ.o rfl (by simp[Value.oneCell']) ?_)
        |fail)
       exact AU (v:=af CE) (AY rfl _ _ (w.heap.size+2) 42 _ (0,0) _ rfl (AB HRB.o) underlying42 rfl HRZ.o) rfl ⟨_,rfl,HF.o.1,HF.o.2⟩
      ·have h16':¬ ((nD:Int)<16):=λh=>hc ⟨rfl,h256',hd,by rw[HLN.o.1];omega⟩
       have HMD:=CY <| Fc hd
       go_wp2_with fail;refine(C3 _ _ _ D _ _ HLN.o.1 mD HAD.o.1).mono ?_;rintro e w5 ⟨rfl,rfl⟩;rw[HMD.o];have HFN:=CY <| HAN.o
       have HRB:=CY <| HX4.o.rb
       have HF:AO (H9 w.heap.size (w5.setRow (w.heap.size+2) CE) (af CE) (EY D U k T nT 2 a 1)/\Below w.heap.size w (w5.setRow (w.heap.size+2) CE)):=⟨by rw[HFN.o];exact H9.no _ _,HX4.o.below.trans ((Wr.setRow _ _ _).below AJ)⟩
       go_upto_region 25 with fail
       go_wp2_with (first
        |(refine AE 42 (ah 4) (ah 130) (w.heap.size+2) CE 42 HRB.o HRZ.o rfl (by simp[Value.oneCell']) ?_)
        |fail)
       exact AU (v:=af CE) (AY rfl _ _ (w.heap.size+2) 42 _ (0,0) _ rfl (AB HRB.o) underlying42 rfl HRZ.o) rfl ⟨_,rfl,HF.o.1,HF.o.2⟩
     ·have h256:¬ ((a:Int)<256):=AJ
      have HFN:=CY <| HAN.o
      have HRB:=CY <| HX4.o.rb
      have HF:AO (H9 w.heap.size (w4.setRow (w.heap.size+2) CE) (af CE) (EY D U k T nT 2 a 1)/\Below w.heap.size w (w4.setRow (w.heap.size+2) CE)):=⟨by rw[HFN.o];exact H9.no _ _,HX4.o.below.trans ((Wr.setRow _ _ _).below AJ)⟩
      go_upto_region 25 with fail
      go_wp2_with (first
       |(refine AE 42 (ah 4) (ah 130) (w.heap.size+2) CE 42 HRB.o HRZ.o rfl (by simp[Value.oneCell']) ?_)
       |fail)
      exact AU (v:=af CE) (AY rfl _ _ (w.heap.size+2) 42 _ (0,0) _ rfl (AB HRB.o) underlying42 rfl HRZ.o) rfl ⟨_,rfl,HF.o.1,HF.o.2⟩
    ·by_cases hb0:b=0
     ·subst hb0;have hd:¬ (a:Int)∈D:=λh=>hc0 ⟨rfl,AG (HSD.o _ h),h⟩
      have HMD:=CY <| Fc hd
      go_wp2_with fail;refine(C3 _ _ _ D _ _ HLN.o.1 mD HAD.o.1).mono ?_;rintro e w5 ⟨rfl,rfl⟩;rw[HMD.o];have HFN:=CY <| HAN.o
      have HRB:=CY <| HX4.o.rb
      have HF:AO (H9 w.heap.size (w5.setRow (w.heap.size+2) CE) (af CE) (EY D U k T nT 2 a 0)/\Below w.heap.size w (w5.setRow (w.heap.size+2) CE)):=⟨by rw[HFN.o];exact H9.no _ _,HX4.o.below.trans ((Wr.setRow _ _ _).below AJ)⟩
      go_upto_region 25 with fail
      go_wp2_with (first
       |(refine AE 42 (ah 4) (ah 130) (w.heap.size+2) CE 42 HRB.o HRZ.o rfl (by simp[Value.oneCell']) ?_)
       |fail)
      exact AU (v:=af CE) (AY rfl _ _ (w.heap.size+2) 42 _ (0,0) _ rfl (AB HRB.o) underlying42 rfl HRZ.o) rfl ⟨_,rfl,HF.o.1,HF.o.2⟩
     ·have hb1':¬ ((b:Int)=1):=AJ
      have hb0':¬ ((b:Int)=0):=AJ
      have HFN:AO (EY D U k T nT 2 a b=EE):=HAN.o;have HRB:AO (w4.heap[w.heap.size+2]?=aR (aa CE 42 (0,0))):=HX4.o.rb;have HF:AO (H9 w.heap.size (w4.setRow (w.heap.size+2) CE) (af CE) (EY D U k T nT 2 a b)/\Below w.heap.size w (w4.setRow (w.heap.size+2) CE)):=⟨by rw[HFN.o];exact H9.no _ _,HX4.o.below.trans ((Wr.setRow _ _ _).below AJ)⟩
      go_upto_region 25 with fail
      go_wp2_with (first
       |(refine AE 42 (ah 4) (ah 130) (w.heap.size+2) CE 42 HRB.o HRZ.o rfl (by simp[Value.oneCell']) ?_)
       |fail)
      exact AU (v:=af CE) (AY rfl _ _ (w.heap.size+2) 42 _ (0,0) _ rfl (AB HRB.o) underlying42 rfl HRZ.o) rfl ⟨_,rfl,HF.o.1,HF.o.2⟩
  by_cases k3:kind=3
  ·subst k3;by_cases hc:b=0/\(a:Int)<=k+nT
   ·have HR:AO (EY D U k T nT 3 a b=⟨true,D,U,max a k,T.drop (DW k a*2),nT-DW k a⟩):=by show _=_;rw[HAR.o,hc.1,Pe hc.2]
    obtain⟨hb0,hle⟩:=hc;subst hb0;by_cases hgt:k<(a:Int)
    ·obtain⟨m,hm⟩:∃ m:Nat,(a:Int)=k+m:=⟨(a-k).toNat,AJ⟩
     have hmn:m<=nT:=AJ
     have e:DW k a=m:=by unfold DW;omega
     have HR2:AO (EY D U k T nT 3 a 0=⟨true,D,U,(a:Int),T.drop (m*2),nT-m⟩):=by
      show _=_
      rw[HR.o,e,show max (a:Int) k=a by omega]
     have hsub:(a:Int)-k=m:=AJ
     obtain⟨t0,o0,eT,ht0,hct0⟩:=HAD.o.2.2.get (by rw[HND.o.2.2];omega);subst eT;have HCT:AO (t0<w4.heap.size/\∀ i,i<T.length->w4.cell? ⟨t0,o0+i,aS⟩=aR (aO aZ (T.getD i 0))):=⟨ht0,hct0⟩
     have HEM:AO (JC (w.heap.size+3) 70 (w4.alloc (aa #[] 70)) (aM (aR ⟨w4.heap.size,0,aS⟩) 0 0)):=JC.new _ w4 (AG HON.o);have HLD:AO ((T.drop (m*2)).length=(nT-m)*2):=by show _=_;rw[BF,HND.o.2.2];omega
     have HMN:AO (nT-m<=1048576):=by show _<=_;omega
     have HS5:AO (w.heap.size+3<=(w4.alloc (aa #[] 70)).heap.size):=by show _<=_;have:=HON.o;simp;omega
     have z3:(w4.alloc (aa #[] 70)).cell? ⟨w.heap.size,3,aS⟩=aR (aM (aR ⟨t0,o0,aS⟩) nT cT):=by rw[World.cell?_alloc_old _ _ _ (by show w.heap.size≠w4.heap.size;have:=HON.o;omega)];exact s3
     have z2:(w4.alloc (aa #[] 70)).cell? ⟨w.heap.size,2,aS⟩=aR (aO aZ k):=by rw[World.cell?_alloc_old _ _ _ (by show w.heap.size≠w4.heap.size;have:=HON.o;omega)];exact s2
     clear hct0 ht0 e hm HR;by_cases hcm2:cT=m
     ·have hnm:nT=m:=AJ
      have HZ:AO (T.drop (m*2)=[]):=by show _=_;exact BU (by rw[HLD.o];omega)
      subst hcm2;have hb6:Below w4.heap.size w4 (w4.alloc (aa #[] 70)):=Cf.alloc Ch _;have HO6:AO (OX w #[aM aD nD cD,aM aU nU cU,aO aZ k,aM (aR ⟨t0,o0,aS⟩) nT cT] #[aO ai seq,aO aZ 3,aO ai a,aO ai 0] O #[aM aD' nD' cD',aM aU' nU' cU',aO aZ k,aM aT' nT cT'] (w4.alloc (aa #[] 70))):=HO.o.call hb6;have HK6:AO (LK (w.heap.size+3) O (w4.alloc (aa #[] 70)) aD' D/\LK (w.heap.size+3) O (w4.alloc (aa #[] 70)) aU' U):=⟨HKD.o.below hb6,HKU.o.below hb6⟩
      have HKT6:AO (LK (w.heap.size+3) O (w4.alloc (aa #[] 70)) (aR ⟨w4.heap.size,0,aS⟩) (T.drop (cT*2))):=⟨.inl HZ.o,λad e=>by cases e;have:=HON.o;simp;omega⟩
      have HNT:AO ((T.drop (cT*2)).length=0*2):=by show _=_;rw[HZ.o];rfl
      have v3:(w4.alloc (aa #[] 70)).cell? ⟨O,3,aS⟩=aR (aM aT' nT cT'):=by rw[AA HO6.o.o 3];rfl
      have v2:(w4.alloc (aa #[] 70)).cell? ⟨O,2,aS⟩=aR (aO aZ k):=by rw[AA HO6.o.o 2];rfl
      have g3:=An (w4.alloc (aa #[] 70)) O 3 _ _ HO6.o.o;have g2:=An (w4.alloc (aa #[] 70)) O 2 _ _ HO6.o.o;have hw7:Wr O (w4.alloc (aa #[] 70)) (((w4.alloc (aa #[] 70)).setCell ⟨O,3,aS⟩ (aM (aR ⟨w4.heap.size,0,aS⟩) 0 0)).setCell ⟨O,2,aS⟩ (aO aZ (a:Int))):=((Wr.refl _ _).setCell _ _).setCell _ _;have HO7:AO (OX w #[aM aD nD cD,aM aU nU cU,aO aZ k,aM (aR ⟨t0,o0,aS⟩) nT cT] #[aO ai seq,aO aZ 3,aO ai a,aO ai 0] O #[aM aD' nD' cD',aM aU' nU' cU',aO aZ (a:Int),aM (aR ⟨w4.heap.size,0,aS⟩) 0 0] (((w4.alloc (aa #[] 70)).setCell ⟨O,3,aS⟩ (aM (aR ⟨w4.heap.size,0,aS⟩) 0 0)).setCell ⟨O,2,aS⟩ (aO aZ (a:Int)))):=(HO6.o.put 3 _).put 2 _;have HK7:AO (LK (w.heap.size+3) O (((w4.alloc (aa #[] 70)).setCell ⟨O,3,aS⟩ (aM (aR ⟨w4.heap.size,0,aS⟩) 0 0)).setCell ⟨O,2,aS⟩ (aO aZ (a:Int))) aD' D/\LK (w.heap.size+3) O (((w4.alloc (aa #[] 70)).setCell ⟨O,3,aS⟩ (aM (aR ⟨w4.heap.size,0,aS⟩) 0 0)).setCell ⟨O,2,aS⟩ (aO aZ (a:Int))) aU' U/\LK (w.heap.size+3) O (((w4.alloc (aa #[] 70)).setCell ⟨O,3,aS⟩ (aM (aR ⟨w4.heap.size,0,aS⟩) 0 0)).setCell ⟨O,2,aS⟩ (aO aZ (a:Int))) (aR ⟨w4.heap.size,0,aS⟩) (T.drop (cT*2))):=⟨HK6.o.1.wr hw7,HK6.o.2.wr hw7,HKT6.o.wr hw7⟩
      clear hb6 HO6 HK6 HKT6 hw7 HKD HKU HKT HTO HAD HEM HS5 HO;have HRB:AO ((((w4.alloc (aa #[] 70)).setCell ⟨O,3,aS⟩ (aM (aR ⟨w4.heap.size,0,aS⟩) 0 0)).setCell ⟨O,2,aS⟩ (aO aZ (a:Int))).heap[w.heap.size+2]?=aR (aa CE 42 (0,0))):=HO7.o.sx.rb;have HOB:AO ((((w4.alloc (aa #[] 70)).setCell ⟨O,3,aS⟩ (aM (aR ⟨w4.heap.size,0,aS⟩) 0 0)).setCell ⟨O,2,aS⟩ (aO aZ (a:Int))).heap[O]?=aR (aa #[aM aD' nD' cD',aM aU' nU' cU',aO aZ (a:Int),aM (aR ⟨w4.heap.size,0,aS⟩) 0 0] 26 (0,0))):=HO7.o.o;have HF:AO (H9 w.heap.size ((((w4.alloc (aa #[] 70)).setCell ⟨O,3,aS⟩ (aM (aR ⟨w4.heap.size,0,aS⟩) 0 0)).setCell ⟨O,2,aS⟩ (aO aZ (a:Int))).setRow (w.heap.size+2) #[ae true,aM aD' nD' cD',aM aU' nU' cU',aO aZ (a:Int),aM (aR ⟨w4.heap.size,0,aS⟩) 0 0]) (af #[ae true,aM aD' nD' cD',aM aU' nU' cU',aO aZ (a:Int),aM (aR ⟨w4.heap.size,0,aS⟩) 0 0]) (EY D U k T nT 3 a 0)/\Below w.heap.size w ((((w4.alloc (aa #[] 70)).setCell ⟨O,3,aS⟩ (aM (aR ⟨w4.heap.size,0,aS⟩) 0 0)).setCell ⟨O,2,aS⟩ (aO aZ (a:Int))).setRow (w.heap.size+2) #[ae true,aM aD' nD' cD',aM aU' nU' cU',aO aZ (a:Int),aM (aR ⟨w4.heap.size,0,aS⟩) 0 0])):=by
       have hw:Wr (w.heap.size+2) (((w4.alloc (aa #[] 70)).setCell ⟨O,3,aS⟩ (aM (aR ⟨w4.heap.size,0,aS⟩) 0 0)).setCell ⟨O,2,aS⟩ (aO aZ (a:Int))) ((((w4.alloc (aa #[] 70)).setCell ⟨O,3,aS⟩ (aM (aR ⟨w4.heap.size,0,aS⟩) 0 0)).setCell ⟨O,2,aS⟩ (aO aZ (a:Int))).setRow (w.heap.size+2) #[ae true,aM aD' nD' cD',aM aU' nU' cU',aO aZ (a:Int),aM (aR ⟨w4.heap.size,0,aS⟩) 0 0]):=Wr.setRow _ _ _;refine⟨?_,HO7.o.sx.below.trans (hw.below AJ)⟩;rw[HR2.o];exact⟨_,_,_,_,_,_,_,_,_,rfl,HK7.o.1.1.wrR hw HK7.o.1.2,HK7.o.2.1.1.wrR hw HK7.o.2.1.2,HK7.o.2.2.1.wrR hw HK7.o.2.2.2,HND.o.1,HND.o.2.1,HNT.o,λad e=>⟨AG (HK7.o.1.2 ad e).1,by rw[hw.size];exact(HK7.o.1.2 ad e).2.2⟩,λad e=>⟨AG (HK7.o.2.1.2 ad e).1,by rw[hw.size];exact(HK7.o.2.1.2 ad e).2.2⟩,λad e=>⟨AG (HK7.o.2.2.2 ad e).1,by rw[hw.size];exact(HK7.o.2.2.2 ad e).2.2⟩,AK,AK⟩
      go_upto_region 24 with fail
      generalize (((w4.alloc (aa #[] 70)).setCell ⟨O,3,aS⟩ (aM (aR ⟨w4.heap.size,0,aS⟩) 0 0)).setCell ⟨O,2,aS⟩ (aO aZ (a:Int)))=wz at *;go_wp2_with (first
       |(refine AZ rfl 26 (ah 5) rfl O rfl 26 _ (0,0) _ HOB.o underlying26 rfl HSZ.o ?_)
       |(refine AE 42 (ah 4) (ah 129) (w.heap.size+2) #[ae true,aM aD' nD' cD',aM aU' nU' cU',aO aZ (a:Int),aM (aR ⟨w4.heap.size,0,aS⟩) 0 0] 42 HRB.o HRZ.o rfl (by simp[Value.oneCell']) ?_)
       |fail)
      exact AU (v:=af #[ae true,aM aD' nD' cD',aM aU' nU' cU',aO aZ (a:Int),aM (aR ⟨w4.heap.size,0,aS⟩) 0 0]) (AY rfl _ _ (w.heap.size+2) 42 _ (0,0) _ rfl (AB HRB.o) underlying42 rfl HRZ.o) rfl ⟨_,rfl,HF.o.1,HF.o.2⟩
     ·have HDR:AO (At aZ w4 (aR ⟨t0,o0+m*2,aS⟩) (T.drop (m*2))):=.inr ⟨t0,o0+m*2,rfl,HCT.o.1,λi hi=>by
       rw[BF] at hi;have:=HCT.o.2 (m*2+i) AJ;rw[<-A7] at this;rw[this];simp[List.getD]⟩
      have HAT5:AO (At aZ (w4.alloc (aa #[] 70)) (aR ⟨t0,o0+m*2,aS⟩) (T.drop (m*2))):=At.below (HDR.o) (Cf.alloc Ch _);go_wp2_with (first
       |(refine Mr 24 70 (af #[aO aZ 0,aO aZ 0]) 2 16 Tryz.infoTap underlying24 rfl AK AK _ rfl (ah 116) (ah 123) rfl (w.heap.size+3) _ rfl HEM.o (aR ⟨t0,o0+m*2,aS⟩) (nT-m) (cT-m) (T.drop (m*2)) rfl HLD.o HAT5.o HMN.o HS5.o ?_)
       |fail)
      intro v6 w6 h1 h2;have h1':Cj (w.heap.size+3) w6 v6 (T.drop (m*2)) (nT-m):=by unfold Cj;rw[List.map_drop];exact h1
      obtain⟨aT2,cT2,rfl⟩:=h1'.tapV.slice;have HC2:AO (nT-m<=cT2/\cT2<=9223372036854775807):=h1'.cap;have hb6:Below w4.heap.size w4 w6:=(Cf.alloc Ch _).trans (h2.mono AL);have HO6:AO (OX w #[aM aD nD cD,aM aU nU cU,aO aZ k,aM (aR ⟨t0,o0,aS⟩) nT cT] #[aO ai seq,aO aZ 3,aO ai a,aO ai 0] O #[aM aD' nD' cD',aM aU' nU' cU',aO aZ k,aM aT' nT cT'] w6):=HO.o.call hb6;have HK6:AO (LK (w.heap.size+3) O w6 aD' D/\LK (w.heap.size+3) O w6 aU' U):=⟨HKD.o.below hb6,HKU.o.below hb6⟩
      have HKT6:AO (LK (w.heap.size+3) O w6 aT2 (T.drop (m*2))):=by
       obtain⟨q1,q2,q3⟩:=h1'.tapV.sat;refine⟨q1.at_,λad e=>⟨(q3 ad e).1,λeo=>?_,(q3 ad e).2⟩⟩;rcases h1'.2 with⟨e2,_⟩|⟨g',cap',cur',e2,_,hh',_⟩
       ·injection e2 with e5
        rw[e5] at e;cases e
       ·injection e2 with e5
        rw[e5] at e;cases e;have h9:=HO6.o.o;rw[<-eo,hh'] at h9;injection h9 with e3
        injection e3 with _ e4 _
        exact absurd e4 AK
      have HNT:AO ((T.drop (m*2)).length=(nT-m)*2):=HLD.o;have v3:w6.cell? ⟨O,3,aS⟩=aR (aM aT' nT cT'):=by rw[AA HO6.o.o 3];rfl
      have v2:w6.cell? ⟨O,2,aS⟩=aR (aO aZ k):=by rw[AA HO6.o.o 2];rfl
      have g3:=An w6 O 3 _ _ HO6.o.o;have g2:=An w6 O 2 _ _ HO6.o.o;have hw7:Wr O w6 ((w6.setCell ⟨O,3,aS⟩ (aM aT2 (nT-m:Nat) cT2)).setCell ⟨O,2,aS⟩ (aO aZ (a:Int))):=((Wr.refl _ _).setCell _ _).setCell _ _;have HO7:AO (OX w #[aM aD nD cD,aM aU nU cU,aO aZ k,aM (aR ⟨t0,o0,aS⟩) nT cT] #[aO ai seq,aO aZ 3,aO ai a,aO ai 0] O #[aM aD' nD' cD',aM aU' nU' cU',aO aZ (a:Int),aM aT2 (nT-m:Nat) cT2] ((w6.setCell ⟨O,3,aS⟩ (aM aT2 (nT-m:Nat) cT2)).setCell ⟨O,2,aS⟩ (aO aZ (a:Int)))):=(HO6.o.put 3 _).put 2 _;have HK7:AO (LK (w.heap.size+3) O ((w6.setCell ⟨O,3,aS⟩ (aM aT2 (nT-m:Nat) cT2)).setCell ⟨O,2,aS⟩ (aO aZ (a:Int))) aD' D/\LK (w.heap.size+3) O ((w6.setCell ⟨O,3,aS⟩ (aM aT2 (nT-m:Nat) cT2)).setCell ⟨O,2,aS⟩ (aO aZ (a:Int))) aU' U/\LK (w.heap.size+3) O ((w6.setCell ⟨O,3,aS⟩ (aM aT2 (nT-m:Nat) cT2)).setCell ⟨O,2,aS⟩ (aO aZ (a:Int))) aT2 (T.drop (m*2))):=⟨HK6.o.1.wr hw7,HK6.o.2.wr hw7,HKT6.o.wr hw7⟩
      have HRB:AO (((w6.setCell ⟨O,3,aS⟩ (aM aT2 (nT-m:Nat) cT2)).setCell ⟨O,2,aS⟩ (aO aZ (a:Int))).heap[w.heap.size+2]?=aR (aa CE 42 (0,0))):=HO7.o.sx.rb;have HOB:AO (((w6.setCell ⟨O,3,aS⟩ (aM aT2 (nT-m:Nat) cT2)).setCell ⟨O,2,aS⟩ (aO aZ (a:Int))).heap[O]?=aR (aa #[aM aD' nD' cD',aM aU' nU' cU',aO aZ (a:Int),aM aT2 (nT-m:Nat) cT2] 26 (0,0))):=HO7.o.o;have HF:AO (H9 w.heap.size (((w6.setCell ⟨O,3,aS⟩ (aM aT2 (nT-m:Nat) cT2)).setCell ⟨O,2,aS⟩ (aO aZ (a:Int))).setRow (w.heap.size+2) #[ae true,aM aD' nD' cD',aM aU' nU' cU',aO aZ (a:Int),aM aT2 (nT-m:Nat) cT2]) (af #[ae true,aM aD' nD' cD',aM aU' nU' cU',aO aZ (a:Int),aM aT2 (nT-m:Nat) cT2]) (EY D U k T nT 3 a 0)/\Below w.heap.size w (((w6.setCell ⟨O,3,aS⟩ (aM aT2 (nT-m:Nat) cT2)).setCell ⟨O,2,aS⟩ (aO aZ (a:Int))).setRow (w.heap.size+2) #[ae true,aM aD' nD' cD',aM aU' nU' cU',aO aZ (a:Int),aM aT2 (nT-m:Nat) cT2])):=by
       have hw:Wr (w.heap.size+2) ((w6.setCell ⟨O,3,aS⟩ (aM aT2 (nT-m:Nat) cT2)).setCell ⟨O,2,aS⟩ (aO aZ (a:Int))) (((w6.setCell ⟨O,3,aS⟩ (aM aT2 (nT-m:Nat) cT2)).setCell ⟨O,2,aS⟩ (aO aZ (a:Int))).setRow (w.heap.size+2) #[ae true,aM aD' nD' cD',aM aU' nU' cU',aO aZ (a:Int),aM aT2 (nT-m:Nat) cT2]):=Wr.setRow _ _ _;refine⟨?_,HO7.o.sx.below.trans (hw.below AJ)⟩;rw[HR2.o];exact⟨_,_,_,_,_,_,_,_,_,rfl,HK7.o.1.1.wrR hw HK7.o.1.2,HK7.o.2.1.1.wrR hw HK7.o.2.1.2,HK7.o.2.2.1.wrR hw HK7.o.2.2.2,HND.o.1,HND.o.2.1,HNT.o,λad e=>⟨AG (HK7.o.1.2 ad e).1,by rw[hw.size];exact(HK7.o.1.2 ad e).2.2⟩,λad e=>⟨AG (HK7.o.2.1.2 ad e).1,by rw[hw.size];exact(HK7.o.2.1.2 ad e).2.2⟩,λad e=>⟨AG (HK7.o.2.2.2 ad e).1,by rw[hw.size];exact(HK7.o.2.2.2 ad e).2.2⟩,HC2.o.1,HC2.o.2⟩
      go_upto_region 24 with fail
      generalize ((w6.setCell ⟨O,3,aS⟩ (aM aT2 (nT-m:Nat) cT2)).setCell ⟨O,2,aS⟩ (aO aZ (a:Int)))=wz at *;go_wp2_with (first
       |(refine AZ rfl 26 (ah 5) rfl O rfl 26 _ (0,0) _ HOB.o underlying26 rfl HSZ.o ?_)
       |(refine AE 42 (ah 4) (ah 129) (w.heap.size+2) #[ae true,aM aD' nD' cD',aM aU' nU' cU',aO aZ (a:Int),aM aT2 (nT-m:Nat) cT2] 42 HRB.o HRZ.o rfl (by simp[Value.oneCell']) ?_)
       |fail)
      exact AU (v:=af #[ae true,aM aD' nD' cD',aM aU' nU' cU',aO aZ (a:Int),aM aT2 (nT-m:Nat) cT2]) (AY rfl _ _ (w.heap.size+2) 42 _ (0,0) _ rfl (AB HRB.o) underlying42 rfl HRZ.o) rfl ⟨_,rfl,HF.o.1,HF.o.2⟩
    ·have HR2:AO (EY D U k T nT 3 a 0=⟨true,D,U,k,T,nT⟩):=by
      show _=_
      have e:DW k a=0:=by unfold DW;omega
      rw[HR.o,e];simp;omega
     have HRB:AO (w4.heap[w.heap.size+2]?=aR (aa CE 42 (0,0))):=HO.o.sx.rb;have HOB:AO (w4.heap[O]?=aR (aa #[aM aD' nD' cD',aM aU' nU' cU',aO aZ k,aM aT' nT cT'] 26 (0,0))):=HO.o.o;have HF:AO (H9 w.heap.size (w4.setRow (w.heap.size+2) #[ae true,aM aD' nD' cD',aM aU' nU' cU',aO aZ k,aM aT' nT cT']) (af #[ae true,aM aD' nD' cD',aM aU' nU' cU',aO aZ k,aM aT' nT cT']) (EY D U k T nT 3 a 0)/\Below w.heap.size w (w4.setRow (w.heap.size+2) #[ae true,aM aD' nD' cD',aM aU' nU' cU',aO aZ k,aM aT' nT cT'])):=by
      have hw:Wr (w.heap.size+2) w4 (w4.setRow (w.heap.size+2) #[ae true,aM aD' nD' cD',aM aU' nU' cU',aO aZ k,aM aT' nT cT']):=Wr.setRow _ _ _;refine⟨?_,HO.o.sx.below.trans (hw.below AJ)⟩;rw[HR2.o];exact⟨_,_,_,_,_,_,_,_,_,rfl,HKD.o.1.wrR hw HKD.o.2,HKU.o.1.wrR hw HKU.o.2,HKT.o.1.wrR hw HKT.o.2,HND.o.1,HND.o.2.1,HND.o.2.2,λad e=>⟨AG (HKD.o.2 ad e).1,by rw[hw.size];exact(HKD.o.2 ad e).2.2⟩,λad e=>⟨AG (HKU.o.2 ad e).1,by rw[hw.size];exact(HKU.o.2 ad e).2.2⟩,λad e=>⟨AG (HKT.o.2 ad e).1,by rw[hw.size];exact(HKT.o.2 ad e).2.2⟩,HCC.o.1,HCC.o.2⟩
     go_upto_region 24 with fail
     generalize w4=wz at *;go_wp2_with (first
      |(refine AZ rfl 26 (ah 5) rfl O rfl 26 _ (0,0) _ HOB.o underlying26 rfl HSZ.o ?_)
      |(refine AE 42 (ah 4) (ah 129) (w.heap.size+2) #[ae true,aM aD' nD' cD',aM aU' nU' cU',aO aZ k,aM aT' nT cT'] 42 HRB.o HRZ.o rfl (by simp[Value.oneCell']) ?_)
      |fail)
     exact AU (v:=af #[ae true,aM aD' nD' cD',aM aU' nU' cU',aO aZ k,aM aT' nT cT']) (AY rfl _ _ (w.heap.size+2) 42 _ (0,0) _ rfl (AB HRB.o) underlying42 rfl HRZ.o) rfl ⟨_,rfl,HF.o.1,HF.o.2⟩
   ·have HAN:AO (EY D U k T nT 3 a b=EE):=by show _=_;rw[HAR.o,Qo hc]
    have HX4:=CY <| HO.o.sx
    by_cases hb0:b=0
    ·subst hb0;have hle:¬ ((a:Int)<=k+nT):=λh=>hc ⟨rfl,h⟩
     have HFN:=CY <| HAN.o
     have HRB:=CY <| HX4.o.rb
     have HF:AO (H9 w.heap.size (w4.setRow (w.heap.size+2) CE) (af CE) (EY D U k T nT 3 a 0)/\Below w.heap.size w (w4.setRow (w.heap.size+2) CE)):=⟨by rw[HFN.o];exact H9.no _ _,HX4.o.below.trans ((Wr.setRow _ _ _).below AJ)⟩
     go_upto_region 25 with fail
     go_wp2_with (first
      |(refine AE 42 (ah 4) (ah 130) (w.heap.size+2) CE 42 HRB.o HRZ.o rfl (by simp[Value.oneCell']) ?_)
      |fail)
     exact AU (v:=af CE) (AY rfl _ _ (w.heap.size+2) 42 _ (0,0) _ rfl (AB HRB.o) underlying42 rfl HRZ.o) rfl ⟨_,rfl,HF.o.1,HF.o.2⟩
    ·have hb0':¬ ((b:Int)=0):=AJ
     have HFN:=CY <| HAN.o
     have HRB:=CY <| HX4.o.rb
     have HF:AO (H9 w.heap.size (w4.setRow (w.heap.size+2) CE) (af CE) (EY D U k T nT 3 a b)/\Below w.heap.size w (w4.setRow (w.heap.size+2) CE)):=⟨by rw[HFN.o];exact H9.no _ _,HX4.o.below.trans ((Wr.setRow _ _ _).below AJ)⟩
     go_upto_region 25 with fail
     go_wp2_with (first
      |(refine AE 42 (ah 4) (ah 130) (w.heap.size+2) CE 42 HRB.o HRZ.o rfl (by simp[Value.oneCell']) ?_)
      |fail)
     exact AU (v:=af CE) (AY rfl _ _ (w.heap.size+2) 42 _ (0,0) _ rfl (AB HRB.o) underlying42 rfl HRZ.o) rfl ⟨_,rfl,HF.o.1,HF.o.2⟩
  have HAN:AO (EY D U k T nT kind a b=EE):=by show _=_;rw[HAR.o,Qp k1 k2 k3]
  have HX4:=CY <| HO.o.sx
  have HFN:AO (EY D U k T nT kind a b=EE):=HAN.o;have HRB:AO (w4.heap[w.heap.size+2]?=aR (aa CE 42 (0,0))):=HX4.o.rb;have HF:AO (H9 w.heap.size (w4.setRow (w.heap.size+2) CE) (af CE) (EY D U k T nT kind a b)/\Below w.heap.size w (w4.setRow (w.heap.size+2) CE)):=⟨by rw[HFN.o];exact H9.no _ _,HX4.o.below.trans ((Wr.setRow _ _ _).below AJ)⟩
  go_upto_region 25 with fail
  go_wp2_with (first
   |(refine AE 42 (ah 4) (ah 130) (w.heap.size+2) CE 42 HRB.o HRZ.o rfl (by simp[Value.oneCell']) ?_)
   |fail)
  exact AU (v:=af CE) (AY rfl _ _ (w.heap.size+2) 42 _ (0,0) _ rfl (AB HRB.o) underlying42 rfl HRZ.o) rfl ⟨_,rfl,HF.o.1,HF.o.2⟩
end Go.Proofs.YtncomnkdlpoelaaGreatDoor
