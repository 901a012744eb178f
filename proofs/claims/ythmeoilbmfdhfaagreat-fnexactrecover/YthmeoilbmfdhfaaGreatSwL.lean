import Derived.Test.YthmeoilbmfdhfaaGreatMSDec
open Go.Value renaming slice->UD,int->UE,bool->UF,agg->UN
open Go.IntKind renaming i64->UO,u32->UG
open Go.Obj renaming cells->UP
open Go.Operand renaming tmp->UT
open Option renaming some->UI,none->UJ
open Go renaming World->UK,Value->UL
namespace Go.Proofs.YthmeoilbmfdhfaaGreat
set_option maxHeartbeats 8000000
set_option maxRecDepth 100000
open Go.ChangeShapes Go.WideShapes Go.ChangeAt Go.RowKit
set_option linter.unusedVariables false
def El (lo:Nat) (w:UK) (v:UL) (r:GN):Prop:=
 ∃ aD nD cD aU nU cU aT nT cT,v=UN #[UF r.ok,UD aD nD cD,UD aU nU cU,UE UO r.k,UD aT nT cT]/\At UO w aD r.D/\At UO w aU r.U/\At UO w aT r.T/\r.D.length=nD/\r.U.length=nU/\r.T.length=nT*2/\De lo w aD/\De lo w aU/\De lo w aT/\nT<=cT/\cT<=9223372036854775807
theorem El.no (lo:Nat) (w:UK):El lo w (UN Cc) EL:=⟨UJ,0,0,UJ,0,0,UJ,0,0,rfl,.inl rfl,.inl rfl,.inl rfl,rfl,rfl,rfl,λ_ h=>(by cases h),λ_ h=>(by cases h),λ_ h=>(by cases h),AL,AL⟩
theorem El.below {lo:Nat} {w w':UK} {v:UL} {r:GN} (h:El lo w v r) (b:Below w.heap.size w w'):El lo w' v r:=by
 obtain⟨aD,nD,cD,aU,nU,cU,aT,nT,cT,e,h1,h2,h3,h4,h5,h6,l1,l2,l3,l4,l5⟩:=h;exact⟨aD,nD,cD,aU,nU,cU,aT,nT,cT,e,h1.below b,h2.below b,h3.below b,h4,h5,h6,l1.mono Cw b.size,l2.mono Cw b.size,l3.mono Cw b.size,l4,l5⟩
theorem DN.cap {B:Nat} {w:UK} {a:Option Addr} {n c n':Nat} {T:List Int} (h:DN B w (UD a n c) T n'):n<=c/\c<=9223372036854775807:=by
 rcases h.2 with⟨h1,h2⟩|⟨g,c',cur,h1,_,_,h4,h5,_⟩
 ·cases h1;exact⟨AY _,AL⟩
 ·cases h1;exact⟨h4,by unfold maxLen at h5;omega⟩
structure SX (w:UK) (sc fr:Array UL) (wr:UK):Prop where
 below:Below w.heap.size w wr
 sb:wr.heap[w.heap.size]?=UI (UP sc 34 (0,0))
 fb:wr.heap[w.heap.size+1]?=UI (UP fr 112 (0,0))
 rb:wr.heap[w.heap.size+2]?=UI (UP Cc 68 (0,0))
theorem SX.keep {w wr w':UK} {sc fr:Array UL} (h:SX w sc fr wr) (b:Below (w.heap.size+3) wr w'):SX w sc fr w':=
 ⟨h.below.trans (b.mono AK),by rw[b.block _ AK];exact h.sb,by rw[b.block _ AK];exact h.fb,by rw[b.block _ AK];exact h.rb⟩
theorem SX.lt {w wr:UK} {sc fr:Array UL} (h:SX w sc fr wr):w.heap.size+3<=wr.heap.size:=(AQ.1 h.rb).1
theorem SX.call {w wr w':UK} {sc fr:Array UL} (h:SX w sc fr wr) (b:Below wr.heap.size wr w'):SX w sc fr w':=h.keep (b.mono h.lt)
theorem SX.start (w:UK) (sc fr:Array UL):SX w sc fr (((w.alloc (UP sc 34)).alloc (UP fr 112)).alloc (UP Cc 68)):=by
 have h:=IX.start w sc fr;refine⟨h.below,?_,h.fb,h.rb⟩;rw[BH _ _ w.heap.size (by simp;omega),BH _ _ w.heap.size AM];exact AV w _
structure OX (w:UK) (sc fr:Array UL) (O:Nat) (cs:Array UL) (wr:UK):Prop where
 sx:SX w sc fr wr
 o:wr.heap[O]?=UI (UP cs 34 (0,0))
 hO:w.heap.size+3<=O
theorem OX.lt {w wr:UK} {sc fr cs:Array UL} {O:Nat} (h:OX w sc fr O cs wr):O<wr.heap.size:=(AQ.1 h.o).1
theorem OX.call {w wr w':UK} {sc fr cs:Array UL} {O:Nat} (h:OX w sc fr O cs wr) (b:Below wr.heap.size wr w'):OX w sc fr O cs w':=⟨h.sx.call b,by rw[b.block _ h.lt];exact h.o,h.hO⟩
theorem OX.put {w wr:UK} {sc fr cs:Array UL} {O:Nat} (h:OX w sc fr O cs wr) (i:Nat) (v:UL):OX w sc fr O (cs.setIfInBounds i v) (wr.setCell ⟨O,i,UJ⟩ v):=by
 have hw:Wr O wr (wr.setCell ⟨O,i,UJ⟩ v):=(Wr.refl _ _).setCell _ _;exact⟨h.sx.keep (hw.below h.hO),A9 _ _ _ _ _ _ h.o,h.hO⟩
def LK (lo O:Nat) (w:UK) (a:Option Addr) (xs:List Int):Prop:=At UO w a xs/\∀ ad,a=UI ad->lo<=ad.block/\ad.block≠O/\ad.block<w.heap.size
theorem LK.below {lo O:Nat} {w w':UK} {a:Option Addr} {xs:List Int} (h:LK lo O w a xs) (b:Below w.heap.size w w'):LK lo O w' a xs:=⟨h.1.below b,λad e=>AI (h.2 ad e) b.size⟩
theorem LK.wr {lo O:Nat} {w w':UK} {a:Option Addr} {xs:List Int} (h:LK lo O w a xs) (hw:Wr O w w'):LK lo O w' a xs:=
 ⟨h.1.keepT (by rw[hw.size];exact AY _) (λad e _=>hw.block _ (h.2 ad e).2.1),λad e=>by rw[hw.size];exact h.2 ad e⟩
theorem LK.grown {lo O:Nat} {w w':UK} {a:Option Addr} {xs:List Int} {row:Option Nat} (h:LK lo O w a xs) (hg:w.grownBy w' row) (hne:∀ ad,a=UI ad->UI ad.block≠row):LK lo O w' a xs:=
 ⟨h.1.keepT hg.size (λad e hl=>hg.block _ hl (hne ad e)),λad e=>AI (h.2 ad e) hg.size⟩
theorem At.wrR {lo O R:Nat} {w w':UK} {a:Option Addr} {xs:List Int} (h:At UO w a xs) (hw:Wr R w w') (h2:∀ ad,a=UI ad->lo<=ad.block/\ad.block≠O/\ad.block<w.heap.size) (hR:R<lo:=by omega):At UO w' a xs:=
 h.keepT (by rw[hw.size];exact AY _) (λad e _=>hw.block _ (AG (h2 ad e).1))
theorem Iow.lk {lo O B:Nat} {w:UK} {a:Option Addr} {n c:Nat} {xs:List Int} (h:Iow B w (UD a n c) xs) (hB:lo<=B) (hO:O<B\/w.heap.size<=O):LK lo O w a xs:=by
 obtain⟨h1,h2,h3⟩:=h.sat;exact⟨h1.at_,λad e=>AG (h3 ad e)⟩
theorem DN.lk {lo O B:Nat} {w:UK} {a:Option Addr} {n c:Nat} {T:List Int} (h:DN B w (UD a n c) T n) (hB:lo<=B) (hO:O<B\/w.heap.size<=O):LK lo O w a T:=by
 obtain⟨h1,h2,h3⟩:=h.tapV.sat;exact⟨h1.at_,λad e=>AG (h3 ad e)⟩
theorem Pe {B B':Nat} {w:UK} {a a':Option Addr} {n c n' c':Nat} {xs T:List Int} (h:Iow B w (UD a n c) xs) (h':DN B' w (UD a' n' c') T n'):∀ ad,a=UI ad->UI ad.block≠(UD a' n' c').ownBlock:=by
 intro ad e he;rcases h.2 with⟨h1,_⟩|⟨g,cap,cur,h1,_,hh,_⟩
 ·cases h1;cases e
 ·cases h1;cases e;rcases h'.2 with⟨h2,_⟩|⟨g',cap',cur',h2,_,hh',_⟩
  ·cases h2;simp[Value.ownBlock] at he
  ·cases h2;simp[Value.ownBlock] at he;subst he;rw[hh] at hh';injection hh' with e1
   injection e1 with _ e2 _
   exact absurd e2 AL
theorem RD {D U:List Int} {k:Int} {T:List Int} {n a b:Nat} (h:a<256/\¬ (a:Int)∈U/\¬ (a:Int)∈D):Ea D U k T n 1 a b=⟨true,D,Dy U a,k,T++[(a:Int),(b:Int)],n+1⟩:=by unfold Ea;rw[AR rfl,AR h]
theorem Nu {D U:List Int} {k:Int} {T:List Int} {n a b:Nat} (h:¬ (a<256/\¬ (a:Int)∈U/\¬ (a:Int)∈D)):Ea D U k T n 1 a b=EL:=by unfold Ea;rw[AR rfl,AS h]
theorem RE {D U:List Int} {k:Int} {T:List Int} {n a:Nat} (h:a<256/\¬ (a:Int)∈D/\¬ D.length=16):Ea D U k T n 2 a 1=⟨true,Dy D a,U,k,T,n⟩:=by unfold Ea;rw[AS AL,AR rfl,AR ⟨rfl,h⟩]
theorem RF {D U:List Int} {k:Int} {T:List Int} {n a:Nat} (h:a<256/\(a:Int)∈D):Ea D U k T n 2 a 0=⟨true,EB D a,U,k,T,n⟩:=by unfold Ea;rw[AS AL,AR rfl,AS (λh=>by cases h.1),AR ⟨rfl,h⟩]
theorem MD {D U:List Int} {k:Int} {T:List Int} {n a b:Nat} (h:¬ (b=1/\a<256/\¬ (a:Int)∈D/\¬ D.length=16)) (h':¬ (b=0/\a<256/\(a:Int)∈D)):Ea D U k T n 2 a b=EL:=by unfold Ea;rw[AS AL,AR rfl,AS h,AS h']
theorem RG {D U:List Int} {k:Int} {T:List Int} {n a:Nat} (h:(a:Int)<=k+n):Ea D U k T n 3 a 0=⟨true,D,U,max a k,T.drop (Do k a*2),n-Do k a⟩:=by unfold Ea;rw[AS AL,AS AL,AR rfl,AR ⟨rfl,h⟩]
theorem Nv {D U:List Int} {k:Int} {T:List Int} {n a b:Nat} (h:¬ (b=0/\(a:Int)<=k+n)):Ea D U k T n 3 a b=EL:=by unfold Ea;rw[AS AL,AS AL,AR rfl,AS h]
theorem Nw {D U:List Int} {k:Int} {T:List Int} {n a b:Nat} {kind:Int} (h1:¬ kind=1) (h2:¬ kind=2) (h3:¬ kind=3):Ea D U k T n kind a b=EL:=by unfold Ea;rw[AS h1,AS h2,AS h3]
theorem RH (aD aU aT:Option Addr) (nD cD nU cU nT cT:Nat) (D U:List Int) (k:Int) (T:List Int) (seq kind:Int) (a b:Nat) (w:UK) (hD:D.length=nD) (hU:U.length=nU) (hT:T.length=nT*2) (mD:nD<=1048576) (mU:nU<=1048576) (mT:nT<=1048576)
  (haD:At UO w aD D) (haU:At UO w aU U) (haT:At UO w aT T) (hcT:nT<=cT) (hcm:cT<=9223372036854775807) (hk0:-9223372036854775808<=k) (hk1:k<9223372036854775808) (ha:a<4294967296) (hbb:b<4294967296) :
  Calls Tryz.prog 74 #[UN #[UD aD nD cD,UD aU nU cU,UE UO k,UD aT nT cT],UN #[UE UG seq,UE UO kind,UE UG a,UE UG b]] w λe w'=>∃ v,e=.returned v/\El w.heap.size w' v (Ff D U k T nT kind a b)/\Below w.heap.size w w':=by
 have HX0:AP (SX w #[UD aD nD cD,UD aU nU cU,UE UO k,UD aT nT cT] #[UE UG seq,UE UO kind,UE UG a,UE UG b] (((w.alloc (UP #[UD aD nD cD,UD aU nU cU,UE UO k,UD aT nT cT] 34)).alloc (UP #[UE UG seq,UE UO kind,UE UG a,UE UG b] 112)).alloc (UP Cc 68))):=SX.start _ _ _;have HLN:AP (D.length=nD/\U.length=nU/\T.length=nT*2):=⟨hD,hU,hT⟩
 have HA:AP (∀ wz,Below w.heap.size w wz->At UO wz aD D/\At UO wz aU U/\At UO wz aT T):=λwz h=>⟨haD.below h,haU.below h,haT.below h⟩
 have HC:=Qf aD aU aT nD cD nU cU nT cT D U k T _ hD hU hT mD mU mT (haD.below HX0.o.below) (haU.below HX0.o.below) (haT.below HX0.o.below) hk0 hk1;have HRZ:AP ((Tryz.prog.info? 68).map (·.size)=UI 5):=by show _=_;kernel_rfl
 have HSZ:AP ((Tryz.prog.info? 34).map (·.size)=UI 4):=by show _=_;kernel_rfl
 have HAF:AP (Ff D U k T nT kind a b=if GI D U k T nT=true then Ea D U k T nT kind a b else EL):=rfl;have HST:AP (GI D U k T nT=true->JE D U k T nT):=SE;clear haD haU haT hD hU hT;go_enter Tryz.func74,Tryz.ntmps74;go_wp2_with fail;generalize (((w.alloc (UP #[UD aD nD cD,UD aU nU cU,UE UO k,UD aT nT cT] 34)).alloc (UP #[UE UG seq,UE UO kind,UE UG a,UE UG b] 112)).alloc (UP Cc 68))=w0 at *;refine HC.mono ?_;rintro e w1 ⟨rfl,hb1⟩;have HX1:AP (SX w #[UD aD nD cD,UD aU nU cU,UE UO k,UD aT nT cT] #[UE UG seq,UE UO kind,UE UG a,UE UG b] w1):=HX0.o.call hb1;clear HC HX0 hb1;generalize hq:GI D U k T nT=q at *;have HQ:AP (GI D U k T nT=q):=hq;clear hq;cases q with
 |false=>
  have HFN:AP (Ff D U k T nT kind a b=EL):=by show _=_;rw[HAF.o];rfl
  have HRB:AP (w1.heap[w.heap.size+2]?=UI (UP Cc 68 (0,0))):=HX1.o.rb;have HF:AP (El w.heap.size (w1.setRow (w.heap.size+2) Cc) (UN Cc) (Ff D U k T nT kind a b)/\Below w.heap.size w (w1.setRow (w.heap.size+2) Cc)):=⟨by rw[HFN.o];exact El.no _ _,HX1.o.below.trans ((Wr.setRow _ _ _).below AK)⟩
  go_upto_region 2 with fail
  go_wp2_with (first
   |(refine AC 68 (UT 4) (UT 10) (w.heap.size+2) Cc 68 HRB.o HRZ.o rfl (by simp[Value.oneCell']) ?_)
   |fail)
  exact AZ (v:=UN Cc) (AW rfl _ _ (w.heap.size+2) 68 _ (0,0) _ rfl (AB HRB.o) Tryz.underlying68 rfl HRZ.o) rfl ⟨_,rfl,HF.o.1,HF.o.2⟩
 |true=>
  have HAR:AP (Ff D U k T nT kind a b=Ea D U k T nT kind a b):=by show _=_;rw[HAF.o];rfl
  have hst:=HST.o rfl;have hk0':0<=k:=hst.2.2.2.1;have hkn:k+nT=(nU:Int):=by have:=hst.2.2.2.2.1;rw[HLN.o.2.1] at this;exact this
  have hd16:nD<=16:=by have:=hst.2.1;rw[HLN.o.1] at this;exact this
  have HSD:AP (∀ z,z∈D->0<=z/\z<256):=λz hz=>hst.1.range hz
  clear hst HST HAF;have HL:=Me aD aU aT nD cD nU cU nT cT D U k T w1 HLN.o.1 HLN.o.2.1 HLN.o.2.2 mD mU mT (HA.o w1 HX1.o.below).1 (HA.o w1 HX1.o.below).2.1 (HA.o w1 HX1.o.below).2.2;have s0:w1.cell? ⟨w.heap.size,0,UJ⟩=UI (UD aD nD cD):=by rw[AA HX1.o.sb 0];rfl
  have s1:w1.cell? ⟨w.heap.size,1,UJ⟩=UI (UD aU nU cU):=by rw[AA HX1.o.sb 1];rfl
  have s2:w1.cell? ⟨w.heap.size,2,UJ⟩=UI (UE UO k):=by rw[AA HX1.o.sb 2];rfl
  have s3:w1.cell? ⟨w.heap.size,3,UJ⟩=UI (UD aT nT cT):=by rw[AA HX1.o.sb 3];rfl
  go_wp2_with fail;refine HL.mono ?_;rintro e w3 ⟨cs,rfl,⟨aD',nD',cD',aU',nU',cU',aT',cT',rfl,hcD,hcU,hcTT⟩,hb3⟩;have HCC:AP (nT<=cT'/\cT'<=9223372036854775807):=hcTT.cap;have b4:Below w3.heap.size w3 (w3.alloc (UP #[UD aD' nD' cD',UD aU' nU' cU',UE UO k,UD aT' nT cT'] 34)):=Cs.alloc Cw _;have HO:AP (OX w #[UD aD nD cD,UD aU nU cU,UE UO k,UD aT nT cT] #[UE UG seq,UE UO kind,UE UG a,UE UG b] w3.heap.size #[UD aD' nD' cD',UD aU' nU' cU',UE UO k,UD aT' nT cT'] (w3.alloc (UP #[UD aD' nD' cD',UD aU' nU' cU',UE UO k,UD aT' nT cT'] 34))):=⟨(HX1.o.call hb3).call b4,AV w3 _,(HX1.o.call hb3).lt⟩
  have hb1:=HX1.o.lt;have HKD:AP (LK (w.heap.size+3) w3.heap.size (w3.alloc (UP #[UD aD' nD' cD',UD aU' nU' cU',UE UO k,UD aT' nT cT'] 34)) aD' D):=(hcD.lk hb1 (.inr Cw)).below b4;have HKU:AP (LK (w.heap.size+3) w3.heap.size (w3.alloc (UP #[UD aD' nD' cD',UD aU' nU' cU',UE UO k,UD aT' nT cT'] 34)) aU' U):=(hcU.lk hb1 (.inr Cw)).below b4;have HKT:AP (LK (w.heap.size+3) w3.heap.size (w3.alloc (UP #[UD aD' nD' cD',UD aU' nU' cU',UE UO k,UD aT' nT cT'] 34)) aT' T):=(hcTT.lk hb1 (.inr Cw)).below b4;have HTO:AP (DN (w.heap.size+3) (w3.alloc (UP #[UD aD' nD' cD',UD aU' nU' cU',UE UO k,UD aT' nT cT'] 34)) (UD aT' nT cT') T nT):=(DN.mono hcTT hb1).below b4;have HDT:AP (∀ ad,aD'=UI ad->UI ad.block≠(UD aT' nT cT').ownBlock):=Pe hcD hcTT;have HTNE:AP (Iy w3.heap.size (UD aT' nT cT')):=λt ht e=>by
   obtain⟨_,_,q3⟩:=hcTT.tapV.sat;cases aT' with
   |none=>simp[Value.ownBlock] at ht
   |some ad=>
    simp[Value.ownBlock] at ht;have:=(q3 ad rfl).2;omega
  have HND:AP (D.length=nD'/\U.length=nU'/\T.length=nT*2):=⟨hcD.sat.2.1,hcU.sat.2.1,HLN.o.2.2⟩
  clear hcD hcU hcTT hb3 b4 HL HX1 s0 s1 s2 s3 hb1
  go_upto_region 4 with fail
  generalize w3.alloc (UP #[UD aD' nD' cD',UD aU' nU' cU',UE UO k,UD aT' nT cT'] 34)=w4 at *;generalize w3.heap.size=O at *;have s0:w4.cell? ⟨w.heap.size,0,UJ⟩=UI (UD aD nD cD):=by rw[AA HO.o.sx.sb 0];rfl
  have s1:w4.cell? ⟨w.heap.size,1,UJ⟩=UI (UD aU nU cU):=by rw[AA HO.o.sx.sb 1];rfl
  have s2:w4.cell? ⟨w.heap.size,2,UJ⟩=UI (UE UO k):=by rw[AA HO.o.sx.sb 2];rfl
  have s3:w4.cell? ⟨w.heap.size,3,UJ⟩=UI (UD aT nT cT):=by rw[AA HO.o.sx.sb 3];rfl
  have f1:w4.cell? ⟨w.heap.size+1,1,UJ⟩=UI (UE UO kind):=by rw[AA HO.o.sx.fb 1];rfl
  have f2:w4.cell? ⟨w.heap.size+1,2,UJ⟩=UI (UE UG a):=by rw[AA HO.o.sx.fb 2];rfl
  have f3:w4.cell? ⟨w.heap.size+1,3,UJ⟩=UI (UE UG b):=by rw[AA HO.o.sx.fb 3];rfl
  have HAD:AP (At UO w4 aD D/\At UO w4 aU U/\At UO w4 aT T):=HA.o w4 HO.o.sx.below;have HON:AP (w.heap.size+3<=O/\O<w4.heap.size):=⟨HO.o.hO,HO.o.lt⟩
  by_cases k1:kind=1
  ·subst k1;by_cases hc:a<256/\¬ (a:Int)∈U/\¬ (a:Int)∈D
   ·have HR:AP (Ff D U k T nT 1 a b=⟨true,D,Dy U a,k,T++[(a:Int),(b:Int)],nT+1⟩):=by show _=_;rw[HAR.o,RD hc]
    have h256:¬ ((a:Int)≥256):=AK
    have HMU:AP (E9 (a:Int) U=false):=FM hc.2.1;have HMD:AP (E9 (a:Int) D=false):=FM hc.2.2;clear hc;go_wp2_with fail;refine(Dm _ _ _ U _ _ HLN.o.2.1 mU HAD.o.2.1).mono ?_;rintro e w5 ⟨rfl,rfl⟩;rw[HMU.o];go_wp2_with fail;refine(Dm _ _ _ D _ _ HLN.o.1 mD HAD.o.1).mono ?_;rintro e w5 ⟨rfl,rfl⟩;rw[HMD.o];go_wp2_with fail;refine(K0 _ _ _ U a _ HLN.o.2.1 mU HAD.o.2.1).mono ?_;rintro e w6 ⟨v6,rfl,hv6,hb6⟩;obtain⟨aU2,nU2,cU2,rfl⟩:=hv6.form;have HO6:AP (OX w #[UD aD nD cD,UD aU nU cU,UE UO k,UD aT nT cT] #[UE UG seq,UE UO 1,UE UG a,UE UG b] O #[UD aD' nD' cD',UD aU' nU' cU',UE UO k,UD aT' nT cT'] w6):=HO.o.call hb6;have HKD6:AP (LK (w.heap.size+3) O w6 aD' D):=HKD.o.below hb6;have HKU6:AP (LK (w.heap.size+3) O w6 aU2 (Dy U a)):=hv6.lk (AG HON.o) (.inl HON.o.2);have HNU6:AP ((Dy U a).length=nU2):=hv6.sat.2.1;have HTO6:AP (DN (w.heap.size+3) w6 (UD aT' nT cT') T nT):=HTO.o.below hb6;have HUT6:AP (∀ ad,aU2=UI ad->UI ad.block≠(UD aT' nT cT').ownBlock):=Pe hv6 HTO6.o;have HON6:AP (w.heap.size+3<=O/\O<w6.heap.size):=⟨HO6.o.hO,HO6.o.lt⟩
    have v1:w6.cell? ⟨O,1,UJ⟩=UI (UD aU' nU' cU'):=by rw[AA HO6.o.o 1];rfl
    have g1:=Ag w6 O 1 _ _ HO6.o.o;clear hv6 hb6 s0 s1 s2 s3 f1 f2 f3 HKD HKU HKT HTO HAD
    go_upto_region 10 with fail
    have hw7:Wr O w6 (w6.setCell ⟨O,1,UJ⟩ (UD aU2 nU2 cU2)):=(Wr.refl _ _).setCell _ _;have HO7:AP (OX w #[UD aD nD cD,UD aU nU cU,UE UO k,UD aT nT cT] #[UE UG seq,UE UO 1,UE UG a,UE UG b] O #[UD aD' nD' cD',UD aU2 nU2 cU2,UE UO k,UD aT' nT cT'] (w6.setCell ⟨O,1,UJ⟩ (UD aU2 nU2 cU2))):=HO6.o.put 1 _;have HKD7:AP (LK (w.heap.size+3) O (w6.setCell ⟨O,1,UJ⟩ (UD aU2 nU2 cU2)) aD' D):=HKD6.o.wr hw7;have HKU7:AP (LK (w.heap.size+3) O (w6.setCell ⟨O,1,UJ⟩ (UD aU2 nU2 cU2)) aU2 (Dy U a)):=HKU6.o.wr hw7;have hTne:Iy O (UD aT' nT cT'):=λt ht e=>HTNE.o t ht e
    have HTO7:AP (DN (w.heap.size+3) (w6.setCell ⟨O,1,UJ⟩ (UD aU2 nU2 cU2)) (UD aT' nT cT') T nT):=HTO6.o.wrg hTne hw7;have HON7:AP (w.heap.size+3<=(w6.setCell ⟨O,1,UJ⟩ (UD aU2 nU2 cU2)).heap.size):=by show _<=_;rw[hw7.size];have:=HON6.o;omega
    clear v1 g1 hw7 HO6 HKD6 HKU6 HTO6;generalize w6.setCell ⟨O,1,UJ⟩ (UD aU2 nU2 cU2)=w7 at *;have t3:w7.cell? ⟨O,3,UJ⟩=UI (UD aT' nT cT'):=by rw[AA HO7.o.o 3];rfl
    have f3:w7.cell? ⟨w.heap.size+1,3,UJ⟩=UI (UE UG b):=by rw[AA HO7.o.sx.fb 3];rfl
    have b8:Below w7.heap.size w7 (w7.alloc (UP #[UE UO (a:Int),UE UO (b:Int)] 133)):=Cs.alloc Cw _;have HTO8:AP (DN (w.heap.size+3) (w7.alloc (UP #[UE UO (a:Int),UE UO (b:Int)] 133)) (UD aT' nT cT') T nT):=HTO7.o.below b8;have HB8:AP (w.heap.size+3<=(w7.alloc (UP #[UE UO (a:Int),UE UO (b:Int)] 133)).heap.size):=by show _<=_;have:=HON7.o;have:=b8.size;omega
    go_wp2_with (first
     |(refine J0 _ rfl (UT 41) (UT 47) rfl (w.heap.size+3) (UD aT' nT cT') T nT rfl HTO8.o w7 a b rfl rfl mT HB8.o ?_)
     |fail)
    intro v9 w9 h1 ho h2 hgr how;obtain⟨aT2,cT2,rfl⟩:=h1.tapV.slice;have HC2:AP (nT+1<=cT2/\cT2<=9223372036854775807):=h1.cap;have hO8:O<(w7.alloc (UP #[UE UO (a:Int),UE UO (b:Int)] 133)).heap.size:=AI HO7.o.lt b8.size
    have HO9:AP (OX w #[UD aD nD cD,UD aU nU cU,UE UO k,UD aT nT cT] #[UE UG seq,UE UO 1,UE UG a,UE UG b] O #[UD aD' nD' cD',UD aU2 nU2 cU2,UE UO k,UD aT' nT cT'] w9):=⟨(HO7.o.call b8).sx.keep h2,by rw[hgr.block O hO8 (λe=>hTne O e.symm rfl)];exact(HO7.o.call b8).o,HO7.o.hO⟩
    have HKD9:AP (LK (w.heap.size+3) O w9 aD' D):=(HKD7.o.below b8).grown hgr HDT.o;have HKU9:AP (LK (w.heap.size+3) O w9 aU2 (Dy U a)):=(HKU7.o.below b8).grown hgr HUT6.o;have hTne9:Iy O (UD aT2 (nT+1:Nat) cT2):=λx hx=>by
     rcases how with e1|e1
     ·exact hTne x (e1 ▸ hx)
     ·rw[e1] at hx;have hx':=CT hx;have hO7:=HO7.o.lt;have hz8:=b8.size;omega
    have HKT9:AP (LK (w.heap.size+3) O w9 aT2 (T++[(a:Int),(b:Int)])):=by
     obtain⟨q1,q2,q3⟩:=h1.tapV.sat;exact⟨q1.at_,λad e=>⟨(q3 ad e).1,hTne9 _ (by rw[e];rfl),(q3 ad e).2⟩⟩
    have v3:w9.cell? ⟨O,3,UJ⟩=UI (UD aT' nT cT'):=by rw[AA HO9.o.o 3];rfl
    have g3:=Ag w9 O 3 _ _ HO9.o.o;have hw10:Wr O w9 (w9.setCell ⟨O,3,UJ⟩ (UD aT2 (nT+1:Nat) cT2)):=(Wr.refl _ _).setCell _ _;have HO10:AP (OX w #[UD aD nD cD,UD aU nU cU,UE UO k,UD aT nT cT] #[UE UG seq,UE UO 1,UE UG a,UE UG b] O #[UD aD' nD' cD',UD aU2 nU2 cU2,UE UO k,UD aT2 (nT+1:Nat) cT2] (w9.setCell ⟨O,3,UJ⟩ (UD aT2 (nT+1:Nat) cT2))):=HO9.o.put 3 _;have HK10:AP (LK (w.heap.size+3) O (w9.setCell ⟨O,3,UJ⟩ (UD aT2 (nT+1:Nat) cT2)) aD' D/\LK (w.heap.size+3) O (w9.setCell ⟨O,3,UJ⟩ (UD aT2 (nT+1:Nat) cT2)) aU2 (Dy U a)/\LK (w.heap.size+3) O (w9.setCell ⟨O,3,UJ⟩ (UD aT2 (nT+1:Nat) cT2)) aT2 (T++[(a:Int),(b:Int)])):=⟨HKD9.o.wr hw10,HKU9.o.wr hw10,HKT9.o.wr hw10⟩
    have HLT:AP ((T++[(a:Int),(b:Int)]).length=(nT+1)*2):=by show _=_;rw[Al,HND.o.2.2];simp;omega
    clear h1 h2 hgr how hTne hTne9 hw10 HO9 HKD9 HKU9 HKT9 t3 f3 b8 HTO8 HB8 hO8 HO7 HKD7 HKU7 HTO7;have HRB:AP ((w9.setCell ⟨O,3,UJ⟩ (UD aT2 (nT+1:Nat) cT2)).heap[w.heap.size+2]?=UI (UP Cc 68 (0,0))):=HO10.o.sx.rb;have HOB:AP ((w9.setCell ⟨O,3,UJ⟩ (UD aT2 (nT+1:Nat) cT2)).heap[O]?=UI (UP #[UD aD' nD' cD',UD aU2 nU2 cU2,UE UO k,UD aT2 (nT+1:Nat) cT2] 34 (0,0))):=HO10.o.o;have HF:AP (El w.heap.size ((w9.setCell ⟨O,3,UJ⟩ (UD aT2 (nT+1:Nat) cT2)).setRow (w.heap.size+2) #[UF true,UD aD' nD' cD',UD aU2 nU2 cU2,UE UO k,UD aT2 (nT+1:Nat) cT2]) (UN #[UF true,UD aD' nD' cD',UD aU2 nU2 cU2,UE UO k,UD aT2 (nT+1:Nat) cT2]) (Ff D U k T nT 1 a b)/\Below w.heap.size w ((w9.setCell ⟨O,3,UJ⟩ (UD aT2 (nT+1:Nat) cT2)).setRow (w.heap.size+2) #[UF true,UD aD' nD' cD',UD aU2 nU2 cU2,UE UO k,UD aT2 (nT+1:Nat) cT2])):=by
     have hw:Wr (w.heap.size+2) (w9.setCell ⟨O,3,UJ⟩ (UD aT2 (nT+1:Nat) cT2)) ((w9.setCell ⟨O,3,UJ⟩ (UD aT2 (nT+1:Nat) cT2)).setRow (w.heap.size+2) #[UF true,UD aD' nD' cD',UD aU2 nU2 cU2,UE UO k,UD aT2 (nT+1:Nat) cT2]):=Wr.setRow _ _ _;refine⟨?_,HO10.o.sx.below.trans (hw.below AK)⟩;rw[HR.o];exact⟨_,_,_,_,_,_,_,_,_,rfl,HK10.o.1.1.wrR hw HK10.o.1.2,HK10.o.2.1.1.wrR hw HK10.o.2.1.2,HK10.o.2.2.1.wrR hw HK10.o.2.2.2,HND.o.1,HNU6.o,HLT.o,λad e=>⟨AG (HK10.o.1.2 ad e).1,by rw[hw.size];exact(HK10.o.1.2 ad e).2.2⟩,λad e=>⟨AG (HK10.o.2.1.2 ad e).1,by rw[hw.size];exact(HK10.o.2.1.2 ad e).2.2⟩,λad e=>⟨AG (HK10.o.2.2.2 ad e).1,by rw[hw.size];exact(HK10.o.2.2.2 ad e).2.2⟩,HC2.o.1,HC2.o.2⟩
    go_upto_region 11 with fail
    generalize (w9.setCell ⟨O,3,UJ⟩ (UD aT2 (nT+1:Nat) cT2))=wz at *;go_wp2_with (first
     |(refine Ab rfl 34 (UT 5) rfl O rfl 34 _ (0,0) _ HOB.o Tryz.underlying34 rfl HSZ.o ?_)
     |(refine AC 68 (UT 4) (UT 51) (w.heap.size+2) #[UF true,UD aD' nD' cD',UD aU2 nU2 cU2,UE UO k,UD aT2 (nT+1:Nat) cT2] 68 HRB.o HRZ.o rfl (by simp[Value.oneCell']) ?_)
     |fail)
    exact AZ (v:=UN #[UF true,UD aD' nD' cD',UD aU2 nU2 cU2,UE UO k,UD aT2 (nT+1:Nat) cT2]) (AW rfl _ _ (w.heap.size+2) 68 _ (0,0) _ rfl (AB HRB.o) Tryz.underlying68 rfl HRZ.o) rfl ⟨_,rfl,HF.o.1,HF.o.2⟩
   ·have HAN:AP (Ff D U k T nT 1 a b=EL):=by show _=_;rw[HAR.o,Nu hc]
    have HX4:AP (SX w #[UD aD nD cD,UD aU nU cU,UE UO k,UD aT nT cT] #[UE UG seq,UE UO 1,UE UG a,UE UG b] w4):=HO.o.sx;by_cases h256:(a:Int)≥256
    ·have HFN:AP (Ff D U k T nT 1 a b=EL):=HAN.o;have HRB:AP (w4.heap[w.heap.size+2]?=UI (UP Cc 68 (0,0))):=HX4.o.rb;have HF:AP (El w.heap.size (w4.setRow (w.heap.size+2) Cc) (UN Cc) (Ff D U k T nT 1 a b)/\Below w.heap.size w (w4.setRow (w.heap.size+2) Cc)):=⟨by rw[HFN.o];exact El.no _ _,HX4.o.below.trans ((Wr.setRow _ _ _).below AK)⟩
     go_upto_region 8 with fail
     go_wp2_with (first
      |(refine AC 68 (UT 4) (UT 34) (w.heap.size+2) Cc 68 HRB.o HRZ.o rfl (by simp[Value.oneCell']) ?_)
      |fail)
     exact AZ (v:=UN Cc) (AW rfl _ _ (w.heap.size+2) 68 _ (0,0) _ rfl (AB HRB.o) Tryz.underlying68 rfl HRZ.o) rfl ⟨_,rfl,HF.o.1,HF.o.2⟩
    have HH:AP (¬ (¬ (a:Int)∈U/\¬ (a:Int)∈D)):=λh=>hc ⟨AK,h⟩
    clear hc;by_cases hu:(a:Int)∈U
    ·have HMU:AP (E9 (a:Int) U=true):=FZ hu;go_wp2_with fail;refine(Dm _ _ _ U _ _ HLN.o.2.1 mU HAD.o.2.1).mono ?_;rintro e w5 ⟨rfl,rfl⟩;rw[HMU.o];have HFN:AP (Ff D U k T nT 1 a b=EL):=HAN.o;have HRB:AP (w5.heap[w.heap.size+2]?=UI (UP Cc 68 (0,0))):=HX4.o.rb;have HF:AP (El w.heap.size (w5.setRow (w.heap.size+2) Cc) (UN Cc) (Ff D U k T nT 1 a b)/\Below w.heap.size w (w5.setRow (w.heap.size+2) Cc)):=⟨by rw[HFN.o];exact El.no _ _,HX4.o.below.trans ((Wr.setRow _ _ _).below AK)⟩
     go_upto_region 8 with fail
     go_wp2_with (first
      |(refine AC 68 (UT 4) (UT 34) (w.heap.size+2) Cc 68 HRB.o HRZ.o rfl (by simp[Value.oneCell']) ?_)
      |fail)
     exact AZ (v:=UN Cc) (AW rfl _ _ (w.heap.size+2) 68 _ (0,0) _ rfl (AB HRB.o) Tryz.underlying68 rfl HRZ.o) rfl ⟨_,rfl,HF.o.1,HF.o.2⟩
    ·have hd:(a:Int)∈D:=CO λh=>HH.o ⟨hu,h⟩
     have HMU:AP (E9 (a:Int) U=false):=FM hu;have HMD:AP (E9 (a:Int) D=true):=FZ hd;go_wp2_with fail;refine(Dm _ _ _ U _ _ HLN.o.2.1 mU HAD.o.2.1).mono ?_;rintro e w5 ⟨rfl,rfl⟩;rw[HMU.o];go_wp2_with fail;refine(Dm _ _ _ D _ _ HLN.o.1 mD HAD.o.1).mono ?_;rintro e w5 ⟨rfl,rfl⟩;rw[HMD.o];have HFN:AP (Ff D U k T nT 1 a b=EL):=HAN.o;have HRB:AP (w5.heap[w.heap.size+2]?=UI (UP Cc 68 (0,0))):=HX4.o.rb;have HF:AP (El w.heap.size (w5.setRow (w.heap.size+2) Cc) (UN Cc) (Ff D U k T nT 1 a b)/\Below w.heap.size w (w5.setRow (w.heap.size+2) Cc)):=⟨by rw[HFN.o];exact El.no _ _,HX4.o.below.trans ((Wr.setRow _ _ _).below AK)⟩
     go_upto_region 8 with fail
     go_wp2_with (first
      |(refine AC 68 (UT 4) (UT 34) (w.heap.size+2) Cc 68 HRB.o HRZ.o rfl (by simp[Value.oneCell']) ?_)
      |fail)
     exact AZ (v:=UN Cc) (AW rfl _ _ (w.heap.size+2) 68 _ (0,0) _ rfl (AB HRB.o) Tryz.underlying68 rfl HRZ.o) rfl ⟨_,rfl,HF.o.1,HF.o.2⟩
  by_cases k2:kind=2
  ·subst k2;clear k1;by_cases hc:b=1/\a<256/\¬ (a:Int)∈D/\¬ D.length=16
   ·have HR:AP (Ff D U k T nT 2 a b=⟨true,Dy D a,U,k,T,nT⟩):=by show _=_;rw[HAR.o,hc.1,RE hc.2]
    obtain⟨hb1,h256',hd,h16⟩:=hc;subst hb1;have h256:(a:Int)<256:=AK
    have h16':(nD:Int)<16:=by rw[HLN.o.1] at h16;omega
    have HMD:AP (E9 (a:Int) D=false):=FM hd;clear hd h16;go_wp2_with fail;refine(Dm _ _ _ D _ _ HLN.o.1 mD HAD.o.1).mono ?_;rintro e w5 ⟨rfl,rfl⟩;rw[HMD.o];go_wp2_with fail;refine(K0 _ _ _ D a _ HLN.o.1 mD HAD.o.1).mono ?_;rintro e w6 ⟨v6,rfl,hv6,hb6⟩;obtain⟨aD2,nD2,cD2,rfl⟩:=hv6.form;have HO6:AP (OX w #[UD aD nD cD,UD aU nU cU,UE UO k,UD aT nT cT] #[UE UG seq,UE UO 2,UE UG a,UE UG 1] O #[UD aD' nD' cD',UD aU' nU' cU',UE UO k,UD aT' nT cT'] w6):=HO.o.call hb6;have HKU6:AP (LK (w.heap.size+3) O w6 aU' U):=HKU.o.below hb6;have HKT6:AP (LK (w.heap.size+3) O w6 aT' T):=HKT.o.below hb6;have HKD6:AP (LK (w.heap.size+3) O w6 aD2 (Dy D a)):=hv6.lk (AG HON.o) (.inl HON.o.2);have HNU6:AP ((Dy D a).length=nD2):=hv6.sat.2.1;have v1:w6.cell? ⟨O,0,UJ⟩=UI (UD aD' nD' cD'):=by rw[AA HO6.o.o 0];rfl
    have g1:=Ag w6 O 0 _ _ HO6.o.o;have hw7:Wr O w6 (w6.setCell ⟨O,0,UJ⟩ (UD aD2 nD2 cD2)):=(Wr.refl _ _).setCell _ _;have HO7:AP (OX w #[UD aD nD cD,UD aU nU cU,UE UO k,UD aT nT cT] #[UE UG seq,UE UO 2,UE UG a,UE UG 1] O #[UD aD2 nD2 cD2,UD aU' nU' cU',UE UO k,UD aT' nT cT'] (w6.setCell ⟨O,0,UJ⟩ (UD aD2 nD2 cD2))):=HO6.o.put 0 _;have HK7:AP (LK (w.heap.size+3) O (w6.setCell ⟨O,0,UJ⟩ (UD aD2 nD2 cD2)) aD2 (Dy D a)/\LK (w.heap.size+3) O (w6.setCell ⟨O,0,UJ⟩ (UD aD2 nD2 cD2)) aU' U/\LK (w.heap.size+3) O (w6.setCell ⟨O,0,UJ⟩ (UD aD2 nD2 cD2)) aT' T):=⟨HKD6.o.wr hw7,HKU6.o.wr hw7,HKT6.o.wr hw7⟩
    clear hv6 hb6 s0 s1 s2 s3 f1 f2 f3 HKD HKU HKT HTO HAD hw7 HO6 HKU6 HKT6 HKD6;have HRB:AP ((w6.setCell ⟨O,0,UJ⟩ (UD aD2 nD2 cD2)).heap[w.heap.size+2]?=UI (UP Cc 68 (0,0))):=HO7.o.sx.rb;have HOB:AP ((w6.setCell ⟨O,0,UJ⟩ (UD aD2 nD2 cD2)).heap[O]?=UI (UP #[UD aD2 nD2 cD2,UD aU' nU' cU',UE UO k,UD aT' nT cT'] 34 (0,0))):=HO7.o.o;have HF:AP (El w.heap.size ((w6.setCell ⟨O,0,UJ⟩ (UD aD2 nD2 cD2)).setRow (w.heap.size+2) #[UF true,UD aD2 nD2 cD2,UD aU' nU' cU',UE UO k,UD aT' nT cT']) (UN #[UF true,UD aD2 nD2 cD2,UD aU' nU' cU',UE UO k,UD aT' nT cT']) (Ff D U k T nT 2 a 1)/\Below w.heap.size w ((w6.setCell ⟨O,0,UJ⟩ (UD aD2 nD2 cD2)).setRow (w.heap.size+2) #[UF true,UD aD2 nD2 cD2,UD aU' nU' cU',UE UO k,UD aT' nT cT'])):=by
     have hw:Wr (w.heap.size+2) (w6.setCell ⟨O,0,UJ⟩ (UD aD2 nD2 cD2)) ((w6.setCell ⟨O,0,UJ⟩ (UD aD2 nD2 cD2)).setRow (w.heap.size+2) #[UF true,UD aD2 nD2 cD2,UD aU' nU' cU',UE UO k,UD aT' nT cT']):=Wr.setRow _ _ _;refine⟨?_,HO7.o.sx.below.trans (hw.below AK)⟩;rw[HR.o];exact⟨_,_,_,_,_,_,_,_,_,rfl,HK7.o.1.1.wrR hw HK7.o.1.2,HK7.o.2.1.1.wrR hw HK7.o.2.1.2,HK7.o.2.2.1.wrR hw HK7.o.2.2.2,HNU6.o,HND.o.2.1,HND.o.2.2,λad e=>⟨AG (HK7.o.1.2 ad e).1,by rw[hw.size];exact(HK7.o.1.2 ad e).2.2⟩,λad e=>⟨AG (HK7.o.2.1.2 ad e).1,by rw[hw.size];exact(HK7.o.2.1.2 ad e).2.2⟩,λad e=>⟨AG (HK7.o.2.2.2 ad e).1,by rw[hw.size];exact(HK7.o.2.2.2 ad e).2.2⟩,HCC.o.1,HCC.o.2⟩
    go_upto_region 15 with fail
    generalize (w6.setCell ⟨O,0,UJ⟩ (UD aD2 nD2 cD2))=wz at *;go_wp2_with (first
     |(refine Ab rfl 34 (UT 5) rfl O rfl 34 _ (0,0) _ HOB.o Tryz.underlying34 rfl HSZ.o ?_)
     |(refine AC 68 (UT 4) (UT 80) (w.heap.size+2) #[UF true,UD aD2 nD2 cD2,UD aU' nU' cU',UE UO k,UD aT' nT cT'] 68 HRB.o HRZ.o rfl (by simp[Value.oneCell']) ?_)
     |fail)
    exact AZ (v:=UN #[UF true,UD aD2 nD2 cD2,UD aU' nU' cU',UE UO k,UD aT' nT cT']) (AW rfl _ _ (w.heap.size+2) 68 _ (0,0) _ rfl (AB HRB.o) Tryz.underlying68 rfl HRZ.o) rfl ⟨_,rfl,HF.o.1,HF.o.2⟩
   by_cases hc0:b=0/\a<256/\(a:Int)∈D
   ·have HR:AP (Ff D U k T nT 2 a b=⟨true,EB D a,U,k,T,nT⟩):=by show _=_;rw[HAR.o,hc0.1,RF hc0.2]
    obtain⟨hb1,h256',hd⟩:=hc0;subst hb1;have HMD:AP (E9 (a:Int) D=true):=FZ hd;clear hd hc;go_wp2_with fail;refine(Dm _ _ _ D _ _ HLN.o.1 mD HAD.o.1).mono ?_;rintro e w5 ⟨rfl,rfl⟩;rw[HMD.o];go_wp2_with fail;refine(PF _ _ _ D a _ HLN.o.1 mD HAD.o.1).mono ?_;rintro e w6 ⟨v6,rfl,hv6,hb6⟩;obtain⟨aD2,nD2,cD2,rfl⟩:=hv6.form;have HO6:AP (OX w #[UD aD nD cD,UD aU nU cU,UE UO k,UD aT nT cT] #[UE UG seq,UE UO 2,UE UG a,UE UG 0] O #[UD aD' nD' cD',UD aU' nU' cU',UE UO k,UD aT' nT cT'] w6):=HO.o.call hb6;have HKU6:AP (LK (w.heap.size+3) O w6 aU' U):=HKU.o.below hb6;have HKT6:AP (LK (w.heap.size+3) O w6 aT' T):=HKT.o.below hb6;have HKD6:AP (LK (w.heap.size+3) O w6 aD2 (EB D a)):=hv6.lk (AG HON.o) (.inl HON.o.2);have HNU6:AP ((EB D a).length=nD2):=hv6.sat.2.1;have v1:w6.cell? ⟨O,0,UJ⟩=UI (UD aD' nD' cD'):=by rw[AA HO6.o.o 0];rfl
    have g1:=Ag w6 O 0 _ _ HO6.o.o;have hw7:Wr O w6 (w6.setCell ⟨O,0,UJ⟩ (UD aD2 nD2 cD2)):=(Wr.refl _ _).setCell _ _;have HO7:AP (OX w #[UD aD nD cD,UD aU nU cU,UE UO k,UD aT nT cT] #[UE UG seq,UE UO 2,UE UG a,UE UG 0] O #[UD aD2 nD2 cD2,UD aU' nU' cU',UE UO k,UD aT' nT cT'] (w6.setCell ⟨O,0,UJ⟩ (UD aD2 nD2 cD2))):=HO6.o.put 0 _;have HK7:AP (LK (w.heap.size+3) O (w6.setCell ⟨O,0,UJ⟩ (UD aD2 nD2 cD2)) aD2 (EB D a)/\LK (w.heap.size+3) O (w6.setCell ⟨O,0,UJ⟩ (UD aD2 nD2 cD2)) aU' U/\LK (w.heap.size+3) O (w6.setCell ⟨O,0,UJ⟩ (UD aD2 nD2 cD2)) aT' T):=⟨HKD6.o.wr hw7,HKU6.o.wr hw7,HKT6.o.wr hw7⟩
    clear hv6 hb6 s0 s1 s2 s3 f1 f2 f3 HKD HKU HKT HTO HAD hw7 HO6 HKU6 HKT6 HKD6;have HRB:AP ((w6.setCell ⟨O,0,UJ⟩ (UD aD2 nD2 cD2)).heap[w.heap.size+2]?=UI (UP Cc 68 (0,0))):=HO7.o.sx.rb;have HOB:AP ((w6.setCell ⟨O,0,UJ⟩ (UD aD2 nD2 cD2)).heap[O]?=UI (UP #[UD aD2 nD2 cD2,UD aU' nU' cU',UE UO k,UD aT' nT cT'] 34 (0,0))):=HO7.o.o;have HF:AP (El w.heap.size ((w6.setCell ⟨O,0,UJ⟩ (UD aD2 nD2 cD2)).setRow (w.heap.size+2) #[UF true,UD aD2 nD2 cD2,UD aU' nU' cU',UE UO k,UD aT' nT cT']) (UN #[UF true,UD aD2 nD2 cD2,UD aU' nU' cU',UE UO k,UD aT' nT cT']) (Ff D U k T nT 2 a 0)/\Below w.heap.size w ((w6.setCell ⟨O,0,UJ⟩ (UD aD2 nD2 cD2)).setRow (w.heap.size+2) #[UF true,UD aD2 nD2 cD2,UD aU' nU' cU',UE UO k,UD aT' nT cT'])):=by
     have hw:Wr (w.heap.size+2) (w6.setCell ⟨O,0,UJ⟩ (UD aD2 nD2 cD2)) ((w6.setCell ⟨O,0,UJ⟩ (UD aD2 nD2 cD2)).setRow (w.heap.size+2) #[UF true,UD aD2 nD2 cD2,UD aU' nU' cU',UE UO k,UD aT' nT cT']):=Wr.setRow _ _ _;refine⟨?_,HO7.o.sx.below.trans (hw.below AK)⟩;rw[HR.o];exact⟨_,_,_,_,_,_,_,_,_,rfl,HK7.o.1.1.wrR hw HK7.o.1.2,HK7.o.2.1.1.wrR hw HK7.o.2.1.2,HK7.o.2.2.1.wrR hw HK7.o.2.2.2,HNU6.o,HND.o.2.1,HND.o.2.2,λad e=>⟨AG (HK7.o.1.2 ad e).1,by rw[hw.size];exact(HK7.o.1.2 ad e).2.2⟩,λad e=>⟨AG (HK7.o.2.1.2 ad e).1,by rw[hw.size];exact(HK7.o.2.1.2 ad e).2.2⟩,λad e=>⟨AG (HK7.o.2.2.2 ad e).1,by rw[hw.size];exact(HK7.o.2.2.2 ad e).2.2⟩,HCC.o.1,HCC.o.2⟩
    go_upto_region 18 with fail
    generalize (w6.setCell ⟨O,0,UJ⟩ (UD aD2 nD2 cD2))=wz at *;go_wp2_with (first
     |(refine Ab rfl 34 (UT 5) rfl O rfl 34 _ (0,0) _ HOB.o Tryz.underlying34 rfl HSZ.o ?_)
     |(refine AC 68 (UT 4) (UT 96) (w.heap.size+2) #[UF true,UD aD2 nD2 cD2,UD aU' nU' cU',UE UO k,UD aT' nT cT'] 68 HRB.o HRZ.o rfl (by simp[Value.oneCell']) ?_)
     |fail)
    exact AZ (v:=UN #[UF true,UD aD2 nD2 cD2,UD aU' nU' cU',UE UO k,UD aT' nT cT']) (AW rfl _ _ (w.heap.size+2) 68 _ (0,0) _ rfl (AB HRB.o) Tryz.underlying68 rfl HRZ.o) rfl ⟨_,rfl,HF.o.1,HF.o.2⟩
   ·have HAN:AP (Ff D U k T nT 2 a b=EL):=by show _=_;rw[HAR.o,MD hc hc0]
    have HX4:AP (SX w #[UD aD nD cD,UD aU nU cU,UE UO k,UD aT nT cT] #[UE UG seq,UE UO 2,UE UG a,UE UG b] w4):=HO.o.sx;by_cases hb1:b=1
    ·subst hb1;by_cases h256':a<256
     ·have h256:(a:Int)<256:=AK
      by_cases hd:(a:Int)∈D
      ·have HMD:AP (E9 (a:Int) D=true):=FZ hd;clear hd hc hc0;go_wp2_with fail;refine(Dm _ _ _ D _ _ HLN.o.1 mD HAD.o.1).mono ?_;rintro e w5 ⟨rfl,rfl⟩;rw[HMD.o];have HFN:AP (Ff D U k T nT 2 a 1=EL):=HAN.o;have HRB:AP (w5.heap[w.heap.size+2]?=UI (UP Cc 68 (0,0))):=HX4.o.rb;have HF:AP (El w.heap.size (w5.setRow (w.heap.size+2) Cc) (UN Cc) (Ff D U k T nT 2 a 1)/\Below w.heap.size w (w5.setRow (w.heap.size+2) Cc)):=⟨by rw[HFN.o];exact El.no _ _,HX4.o.below.trans ((Wr.setRow _ _ _).below AK)⟩
       go_upto_region 25 with fail
       go_wp2_with (first
        |(refine AC 68 (UT 4) (UT 130) (w.heap.size+2) Cc 68 HRB.o HRZ.o rfl (by simp[Value.oneCell']) ?_)
        |fail)
       exact AZ (v:=UN Cc) (AW rfl _ _ (w.heap.size+2) 68 _ (0,0) _ rfl (AB HRB.o) Tryz.underlying68 rfl HRZ.o) rfl ⟨_,rfl,HF.o.1,HF.o.2⟩
      ·have h16':¬ ((nD:Int)<16):=λh=>hc ⟨rfl,h256',hd,by rw[HLN.o.1];omega⟩
       have HMD:AP (E9 (a:Int) D=false):=FM hd;clear hd hc hc0;go_wp2_with fail;refine(Dm _ _ _ D _ _ HLN.o.1 mD HAD.o.1).mono ?_;rintro e w5 ⟨rfl,rfl⟩;rw[HMD.o];have HFN:AP (Ff D U k T nT 2 a 1=EL):=HAN.o;have HRB:AP (w5.heap[w.heap.size+2]?=UI (UP Cc 68 (0,0))):=HX4.o.rb;have HF:AP (El w.heap.size (w5.setRow (w.heap.size+2) Cc) (UN Cc) (Ff D U k T nT 2 a 1)/\Below w.heap.size w (w5.setRow (w.heap.size+2) Cc)):=⟨by rw[HFN.o];exact El.no _ _,HX4.o.below.trans ((Wr.setRow _ _ _).below AK)⟩
       go_upto_region 25 with fail
       go_wp2_with (first
        |(refine AC 68 (UT 4) (UT 130) (w.heap.size+2) Cc 68 HRB.o HRZ.o rfl (by simp[Value.oneCell']) ?_)
        |fail)
       exact AZ (v:=UN Cc) (AW rfl _ _ (w.heap.size+2) 68 _ (0,0) _ rfl (AB HRB.o) Tryz.underlying68 rfl HRZ.o) rfl ⟨_,rfl,HF.o.1,HF.o.2⟩
     ·have h256:¬ ((a:Int)<256):=AK
      clear hc hc0;have HFN:AP (Ff D U k T nT 2 a 1=EL):=HAN.o;have HRB:AP (w4.heap[w.heap.size+2]?=UI (UP Cc 68 (0,0))):=HX4.o.rb;have HF:AP (El w.heap.size (w4.setRow (w.heap.size+2) Cc) (UN Cc) (Ff D U k T nT 2 a 1)/\Below w.heap.size w (w4.setRow (w.heap.size+2) Cc)):=⟨by rw[HFN.o];exact El.no _ _,HX4.o.below.trans ((Wr.setRow _ _ _).below AK)⟩
      go_upto_region 25 with fail
      go_wp2_with (first
       |(refine AC 68 (UT 4) (UT 130) (w.heap.size+2) Cc 68 HRB.o HRZ.o rfl (by simp[Value.oneCell']) ?_)
       |fail)
      exact AZ (v:=UN Cc) (AW rfl _ _ (w.heap.size+2) 68 _ (0,0) _ rfl (AB HRB.o) Tryz.underlying68 rfl HRZ.o) rfl ⟨_,rfl,HF.o.1,HF.o.2⟩
    ·by_cases hb0:b=0
     ·subst hb0;have hd:¬ (a:Int)∈D:=λh=>hc0 ⟨rfl,AG (HSD.o _ h),h⟩
      have HMD:AP (E9 (a:Int) D=false):=FM hd;clear hd hc hc0 hb1;go_wp2_with fail;refine(Dm _ _ _ D _ _ HLN.o.1 mD HAD.o.1).mono ?_;rintro e w5 ⟨rfl,rfl⟩;rw[HMD.o];have HFN:AP (Ff D U k T nT 2 a 0=EL):=HAN.o;have HRB:AP (w5.heap[w.heap.size+2]?=UI (UP Cc 68 (0,0))):=HX4.o.rb;have HF:AP (El w.heap.size (w5.setRow (w.heap.size+2) Cc) (UN Cc) (Ff D U k T nT 2 a 0)/\Below w.heap.size w (w5.setRow (w.heap.size+2) Cc)):=⟨by rw[HFN.o];exact El.no _ _,HX4.o.below.trans ((Wr.setRow _ _ _).below AK)⟩
      go_upto_region 25 with fail
      go_wp2_with (first
       |(refine AC 68 (UT 4) (UT 130) (w.heap.size+2) Cc 68 HRB.o HRZ.o rfl (by simp[Value.oneCell']) ?_)
       |fail)
      exact AZ (v:=UN Cc) (AW rfl _ _ (w.heap.size+2) 68 _ (0,0) _ rfl (AB HRB.o) Tryz.underlying68 rfl HRZ.o) rfl ⟨_,rfl,HF.o.1,HF.o.2⟩
     ·have hb1':¬ ((b:Int)=1):=AK
      have hb0':¬ ((b:Int)=0):=AK
      clear hc hc0;have HFN:AP (Ff D U k T nT 2 a b=EL):=HAN.o;have HRB:AP (w4.heap[w.heap.size+2]?=UI (UP Cc 68 (0,0))):=HX4.o.rb;have HF:AP (El w.heap.size (w4.setRow (w.heap.size+2) Cc) (UN Cc) (Ff D U k T nT 2 a b)/\Below w.heap.size w (w4.setRow (w.heap.size+2) Cc)):=⟨by rw[HFN.o];exact El.no _ _,HX4.o.below.trans ((Wr.setRow _ _ _).below AK)⟩
      go_upto_region 25 with fail
      go_wp2_with (first
       |(refine AC 68 (UT 4) (UT 130) (w.heap.size+2) Cc 68 HRB.o HRZ.o rfl (by simp[Value.oneCell']) ?_)
       |fail)
      exact AZ (v:=UN Cc) (AW rfl _ _ (w.heap.size+2) 68 _ (0,0) _ rfl (AB HRB.o) Tryz.underlying68 rfl HRZ.o) rfl ⟨_,rfl,HF.o.1,HF.o.2⟩
  by_cases k3:kind=3
  ·subst k3;clear k1 k2;by_cases hc:b=0/\(a:Int)<=k+nT
   ·have HR:AP (Ff D U k T nT 3 a b=⟨true,D,U,max a k,T.drop (Do k a*2),nT-Do k a⟩):=by show _=_;rw[HAR.o,hc.1,RG hc.2]
    obtain⟨hb0,hle⟩:=hc;subst hb0;by_cases hgt:k<(a:Int)
    ·obtain⟨m,hm⟩:∃ m:Nat,(a:Int)=k+m:=⟨(a-k).toNat,AK⟩
     have hmn:m<=nT:=AK
     have e:Do k a=m:=by unfold Do;omega
     have HR2:AP (Ff D U k T nT 3 a 0=⟨true,D,U,(a:Int),T.drop (m*2),nT-m⟩):=by
      show _=_
      rw[HR.o,e,show max (a:Int) k=a by omega]
     have hsub:(a:Int)-k=m:=AK
     obtain⟨t0,o0,eT,ht0,hct0⟩:=HAD.o.2.2.get (by rw[HND.o.2.2];omega);subst eT;have HCT:AP (t0<w4.heap.size/\∀ i,i<T.length->w4.cell? ⟨t0,o0+i,UJ⟩=UI (UE UO (T.getD i 0))):=⟨ht0,hct0⟩
     have HEM:AP (E3 (w.heap.size+3) 133 (w4.alloc (UP #[] 133)) (UD (UI ⟨w4.heap.size,0,UJ⟩) 0 0)):=E3.new _ w4 (AG HON.o);have HLD:AP ((T.drop (m*2)).length=(nT-m)*2):=by show _=_;rw[Bj,HND.o.2.2];omega
     have HMN:AP (nT-m<=1048576):=by show _<=_;omega
     have HS5:AP (w.heap.size+3<=(w4.alloc (UP #[] 133)).heap.size):=by show _<=_;have:=HON.o;simp;omega
     have z3:(w4.alloc (UP #[] 133)).cell? ⟨w.heap.size,3,UJ⟩=UI (UD (UI ⟨t0,o0,UJ⟩) nT cT):=by rw[World.cell?_alloc_old _ _ _ (by show w.heap.size≠w4.heap.size;have:=HON.o;omega)];exact s3
     have z2:(w4.alloc (UP #[] 133)).cell? ⟨w.heap.size,2,UJ⟩=UI (UE UO k):=by rw[World.cell?_alloc_old _ _ _ (by show w.heap.size≠w4.heap.size;have:=HON.o;omega)];exact s2
     clear hct0 ht0 e hm HR;by_cases hcm2:cT=m
     ·have hnm:nT=m:=AK
      have HZ:AP (T.drop (m*2)=[]):=by show _=_;exact Aq (by rw[HLD.o];omega)
      subst hcm2;have hb6:Below w4.heap.size w4 (w4.alloc (UP #[] 133)):=Cs.alloc Cw _;have HO6:AP (OX w #[UD aD nD cD,UD aU nU cU,UE UO k,UD (UI ⟨t0,o0,UJ⟩) nT cT] #[UE UG seq,UE UO 3,UE UG a,UE UG 0] O #[UD aD' nD' cD',UD aU' nU' cU',UE UO k,UD aT' nT cT'] (w4.alloc (UP #[] 133))):=HO.o.call hb6;have HK6:AP (LK (w.heap.size+3) O (w4.alloc (UP #[] 133)) aD' D/\LK (w.heap.size+3) O (w4.alloc (UP #[] 133)) aU' U):=⟨HKD.o.below hb6,HKU.o.below hb6⟩
      have HKT6:AP (LK (w.heap.size+3) O (w4.alloc (UP #[] 133)) (UI ⟨w4.heap.size,0,UJ⟩) (T.drop (cT*2))):=⟨.inl HZ.o,λad e=>by cases e;have:=HON.o;simp;omega⟩
      have HNT:AP ((T.drop (cT*2)).length=0*2):=by show _=_;rw[HZ.o];rfl
      have v3:(w4.alloc (UP #[] 133)).cell? ⟨O,3,UJ⟩=UI (UD aT' nT cT'):=by rw[AA HO6.o.o 3];rfl
      have v2:(w4.alloc (UP #[] 133)).cell? ⟨O,2,UJ⟩=UI (UE UO k):=by rw[AA HO6.o.o 2];rfl
      have g3:=Ag (w4.alloc (UP #[] 133)) O 3 _ _ HO6.o.o;have g2:=Ag (w4.alloc (UP #[] 133)) O 2 _ _ HO6.o.o;have hw7:Wr O (w4.alloc (UP #[] 133)) (((w4.alloc (UP #[] 133)).setCell ⟨O,3,UJ⟩ (UD (UI ⟨w4.heap.size,0,UJ⟩) 0 0)).setCell ⟨O,2,UJ⟩ (UE UO (a:Int))):=((Wr.refl _ _).setCell _ _).setCell _ _;have HO7:AP (OX w #[UD aD nD cD,UD aU nU cU,UE UO k,UD (UI ⟨t0,o0,UJ⟩) nT cT] #[UE UG seq,UE UO 3,UE UG a,UE UG 0] O #[UD aD' nD' cD',UD aU' nU' cU',UE UO (a:Int),UD (UI ⟨w4.heap.size,0,UJ⟩) 0 0] (((w4.alloc (UP #[] 133)).setCell ⟨O,3,UJ⟩ (UD (UI ⟨w4.heap.size,0,UJ⟩) 0 0)).setCell ⟨O,2,UJ⟩ (UE UO (a:Int)))):=(HO6.o.put 3 _).put 2 _;have HK7:AP (LK (w.heap.size+3) O (((w4.alloc (UP #[] 133)).setCell ⟨O,3,UJ⟩ (UD (UI ⟨w4.heap.size,0,UJ⟩) 0 0)).setCell ⟨O,2,UJ⟩ (UE UO (a:Int))) aD' D/\LK (w.heap.size+3) O (((w4.alloc (UP #[] 133)).setCell ⟨O,3,UJ⟩ (UD (UI ⟨w4.heap.size,0,UJ⟩) 0 0)).setCell ⟨O,2,UJ⟩ (UE UO (a:Int))) aU' U/\LK (w.heap.size+3) O (((w4.alloc (UP #[] 133)).setCell ⟨O,3,UJ⟩ (UD (UI ⟨w4.heap.size,0,UJ⟩) 0 0)).setCell ⟨O,2,UJ⟩ (UE UO (a:Int))) (UI ⟨w4.heap.size,0,UJ⟩) (T.drop (cT*2))):=⟨HK6.o.1.wr hw7,HK6.o.2.wr hw7,HKT6.o.wr hw7⟩
      clear hb6 HO6 HK6 HKT6 hw7 HKD HKU HKT HTO HAD HEM HS5 HO;have HRB:AP ((((w4.alloc (UP #[] 133)).setCell ⟨O,3,UJ⟩ (UD (UI ⟨w4.heap.size,0,UJ⟩) 0 0)).setCell ⟨O,2,UJ⟩ (UE UO (a:Int))).heap[w.heap.size+2]?=UI (UP Cc 68 (0,0))):=HO7.o.sx.rb;have HOB:AP ((((w4.alloc (UP #[] 133)).setCell ⟨O,3,UJ⟩ (UD (UI ⟨w4.heap.size,0,UJ⟩) 0 0)).setCell ⟨O,2,UJ⟩ (UE UO (a:Int))).heap[O]?=UI (UP #[UD aD' nD' cD',UD aU' nU' cU',UE UO (a:Int),UD (UI ⟨w4.heap.size,0,UJ⟩) 0 0] 34 (0,0))):=HO7.o.o;have HF:AP (El w.heap.size ((((w4.alloc (UP #[] 133)).setCell ⟨O,3,UJ⟩ (UD (UI ⟨w4.heap.size,0,UJ⟩) 0 0)).setCell ⟨O,2,UJ⟩ (UE UO (a:Int))).setRow (w.heap.size+2) #[UF true,UD aD' nD' cD',UD aU' nU' cU',UE UO (a:Int),UD (UI ⟨w4.heap.size,0,UJ⟩) 0 0]) (UN #[UF true,UD aD' nD' cD',UD aU' nU' cU',UE UO (a:Int),UD (UI ⟨w4.heap.size,0,UJ⟩) 0 0]) (Ff D U k T nT 3 a 0)/\Below w.heap.size w ((((w4.alloc (UP #[] 133)).setCell ⟨O,3,UJ⟩ (UD (UI ⟨w4.heap.size,0,UJ⟩) 0 0)).setCell ⟨O,2,UJ⟩ (UE UO (a:Int))).setRow (w.heap.size+2) #[UF true,UD aD' nD' cD',UD aU' nU' cU',UE UO (a:Int),UD (UI ⟨w4.heap.size,0,UJ⟩) 0 0])):=by
       have hw:Wr (w.heap.size+2) (((w4.alloc (UP #[] 133)).setCell ⟨O,3,UJ⟩ (UD (UI ⟨w4.heap.size,0,UJ⟩) 0 0)).setCell ⟨O,2,UJ⟩ (UE UO (a:Int))) ((((w4.alloc (UP #[] 133)).setCell ⟨O,3,UJ⟩ (UD (UI ⟨w4.heap.size,0,UJ⟩) 0 0)).setCell ⟨O,2,UJ⟩ (UE UO (a:Int))).setRow (w.heap.size+2) #[UF true,UD aD' nD' cD',UD aU' nU' cU',UE UO (a:Int),UD (UI ⟨w4.heap.size,0,UJ⟩) 0 0]):=Wr.setRow _ _ _;refine⟨?_,HO7.o.sx.below.trans (hw.below AK)⟩;rw[HR2.o];exact⟨_,_,_,_,_,_,_,_,_,rfl,HK7.o.1.1.wrR hw HK7.o.1.2,HK7.o.2.1.1.wrR hw HK7.o.2.1.2,HK7.o.2.2.1.wrR hw HK7.o.2.2.2,HND.o.1,HND.o.2.1,HNT.o,λad e=>⟨AG (HK7.o.1.2 ad e).1,by rw[hw.size];exact(HK7.o.1.2 ad e).2.2⟩,λad e=>⟨AG (HK7.o.2.1.2 ad e).1,by rw[hw.size];exact(HK7.o.2.1.2 ad e).2.2⟩,λad e=>⟨AG (HK7.o.2.2.2 ad e).1,by rw[hw.size];exact(HK7.o.2.2.2 ad e).2.2⟩,AL,AL⟩
      go_upto_region 24 with fail
      generalize (((w4.alloc (UP #[] 133)).setCell ⟨O,3,UJ⟩ (UD (UI ⟨w4.heap.size,0,UJ⟩) 0 0)).setCell ⟨O,2,UJ⟩ (UE UO (a:Int)))=wz at *;go_wp2_with (first
       |(refine Ab rfl 34 (UT 5) rfl O rfl 34 _ (0,0) _ HOB.o Tryz.underlying34 rfl HSZ.o ?_)
       |(refine AC 68 (UT 4) (UT 129) (w.heap.size+2) #[UF true,UD aD' nD' cD',UD aU' nU' cU',UE UO (a:Int),UD (UI ⟨w4.heap.size,0,UJ⟩) 0 0] 68 HRB.o HRZ.o rfl (by simp[Value.oneCell']) ?_)
       |fail)
      exact AZ (v:=UN #[UF true,UD aD' nD' cD',UD aU' nU' cU',UE UO (a:Int),UD (UI ⟨w4.heap.size,0,UJ⟩) 0 0]) (AW rfl _ _ (w.heap.size+2) 68 _ (0,0) _ rfl (AB HRB.o) Tryz.underlying68 rfl HRZ.o) rfl ⟨_,rfl,HF.o.1,HF.o.2⟩
     ·have HDR:AP (At UO w4 (UI ⟨t0,o0+m*2,UJ⟩) (T.drop (m*2))):=.inr ⟨t0,o0+m*2,rfl,HCT.o.1,λi hi=>by
       rw[Bj] at hi;have:=HCT.o.2 (m*2+i) AK;rw[<-Ap] at this;rw[this];simp[List.getD]⟩
      have HAT5:AP (At UO (w4.alloc (UP #[] 133)) (UI ⟨t0,o0+m*2,UJ⟩) (T.drop (m*2))):=At.below (HDR.o) (Cs.alloc Cw _);go_wp2_with (first
       |(refine K9 32 133 (UN #[UE UO 0,UE UO 0]) 2 16 Tryz.infoTap Tryz.underlying32 rfl AL AL _ rfl (UT 116) (UT 123) rfl (w.heap.size+3) _ rfl HEM.o (UI ⟨t0,o0+m*2,UJ⟩) (nT-m) (cT-m) (T.drop (m*2)) rfl HLD.o HAT5.o HMN.o HS5.o ?_)
       |fail)
      intro v6 w6 h1 h2;have h1':DN (w.heap.size+3) w6 v6 (T.drop (m*2)) (nT-m):=by unfold DN;rw[List.map_drop];exact h1
      obtain⟨aT2,cT2,rfl⟩:=h1'.tapV.slice;have HC2:AP (nT-m<=cT2/\cT2<=9223372036854775807):=h1'.cap;have hb6:Below w4.heap.size w4 w6:=(Cs.alloc Cw _).trans (h2.mono AM);have HO6:AP (OX w #[UD aD nD cD,UD aU nU cU,UE UO k,UD (UI ⟨t0,o0,UJ⟩) nT cT] #[UE UG seq,UE UO 3,UE UG a,UE UG 0] O #[UD aD' nD' cD',UD aU' nU' cU',UE UO k,UD aT' nT cT'] w6):=HO.o.call hb6;have HK6:AP (LK (w.heap.size+3) O w6 aD' D/\LK (w.heap.size+3) O w6 aU' U):=⟨HKD.o.below hb6,HKU.o.below hb6⟩
      have HKT6:AP (LK (w.heap.size+3) O w6 aT2 (T.drop (m*2))):=by
       obtain⟨q1,q2,q3⟩:=h1'.tapV.sat;refine⟨q1.at_,λad e=>⟨(q3 ad e).1,λeo=>?_,(q3 ad e).2⟩⟩;rcases h1'.2 with⟨e2,_⟩|⟨g',cap',cur',e2,_,hh',_⟩
       ·injection e2 with e5
        rw[e5] at e;cases e
       ·injection e2 with e5
        rw[e5] at e;cases e;have h9:=HO6.o.o;rw[<-eo,hh'] at h9;injection h9 with e3
        injection e3 with _ e4 _
        exact absurd e4 AL
      have HNT:AP ((T.drop (m*2)).length=(nT-m)*2):=HLD.o;have v3:w6.cell? ⟨O,3,UJ⟩=UI (UD aT' nT cT'):=by rw[AA HO6.o.o 3];rfl
      have v2:w6.cell? ⟨O,2,UJ⟩=UI (UE UO k):=by rw[AA HO6.o.o 2];rfl
      have g3:=Ag w6 O 3 _ _ HO6.o.o;have g2:=Ag w6 O 2 _ _ HO6.o.o;have hw7:Wr O w6 ((w6.setCell ⟨O,3,UJ⟩ (UD aT2 (nT-m:Nat) cT2)).setCell ⟨O,2,UJ⟩ (UE UO (a:Int))):=((Wr.refl _ _).setCell _ _).setCell _ _;have HO7:AP (OX w #[UD aD nD cD,UD aU nU cU,UE UO k,UD (UI ⟨t0,o0,UJ⟩) nT cT] #[UE UG seq,UE UO 3,UE UG a,UE UG 0] O #[UD aD' nD' cD',UD aU' nU' cU',UE UO (a:Int),UD aT2 (nT-m:Nat) cT2] ((w6.setCell ⟨O,3,UJ⟩ (UD aT2 (nT-m:Nat) cT2)).setCell ⟨O,2,UJ⟩ (UE UO (a:Int)))):=(HO6.o.put 3 _).put 2 _;have HK7:AP (LK (w.heap.size+3) O ((w6.setCell ⟨O,3,UJ⟩ (UD aT2 (nT-m:Nat) cT2)).setCell ⟨O,2,UJ⟩ (UE UO (a:Int))) aD' D/\LK (w.heap.size+3) O ((w6.setCell ⟨O,3,UJ⟩ (UD aT2 (nT-m:Nat) cT2)).setCell ⟨O,2,UJ⟩ (UE UO (a:Int))) aU' U/\LK (w.heap.size+3) O ((w6.setCell ⟨O,3,UJ⟩ (UD aT2 (nT-m:Nat) cT2)).setCell ⟨O,2,UJ⟩ (UE UO (a:Int))) aT2 (T.drop (m*2))):=⟨HK6.o.1.wr hw7,HK6.o.2.wr hw7,HKT6.o.wr hw7⟩
      clear h1 h1' h2 hb6 HO6 HK6 HKT6 hw7 z2 z3 s0 s1 s2 s3 f1 f2 f3 HKD HKU HKT HTO HAD HAT5 HEM HS5 HO;have HRB:AP (((w6.setCell ⟨O,3,UJ⟩ (UD aT2 (nT-m:Nat) cT2)).setCell ⟨O,2,UJ⟩ (UE UO (a:Int))).heap[w.heap.size+2]?=UI (UP Cc 68 (0,0))):=HO7.o.sx.rb;have HOB:AP (((w6.setCell ⟨O,3,UJ⟩ (UD aT2 (nT-m:Nat) cT2)).setCell ⟨O,2,UJ⟩ (UE UO (a:Int))).heap[O]?=UI (UP #[UD aD' nD' cD',UD aU' nU' cU',UE UO (a:Int),UD aT2 (nT-m:Nat) cT2] 34 (0,0))):=HO7.o.o;have HF:AP (El w.heap.size (((w6.setCell ⟨O,3,UJ⟩ (UD aT2 (nT-m:Nat) cT2)).setCell ⟨O,2,UJ⟩ (UE UO (a:Int))).setRow (w.heap.size+2) #[UF true,UD aD' nD' cD',UD aU' nU' cU',UE UO (a:Int),UD aT2 (nT-m:Nat) cT2]) (UN #[UF true,UD aD' nD' cD',UD aU' nU' cU',UE UO (a:Int),UD aT2 (nT-m:Nat) cT2]) (Ff D U k T nT 3 a 0)/\Below w.heap.size w (((w6.setCell ⟨O,3,UJ⟩ (UD aT2 (nT-m:Nat) cT2)).setCell ⟨O,2,UJ⟩ (UE UO (a:Int))).setRow (w.heap.size+2) #[UF true,UD aD' nD' cD',UD aU' nU' cU',UE UO (a:Int),UD aT2 (nT-m:Nat) cT2])):=by
       have hw:Wr (w.heap.size+2) ((w6.setCell ⟨O,3,UJ⟩ (UD aT2 (nT-m:Nat) cT2)).setCell ⟨O,2,UJ⟩ (UE UO (a:Int))) (((w6.setCell ⟨O,3,UJ⟩ (UD aT2 (nT-m:Nat) cT2)).setCell ⟨O,2,UJ⟩ (UE UO (a:Int))).setRow (w.heap.size+2) #[UF true,UD aD' nD' cD',UD aU' nU' cU',UE UO (a:Int),UD aT2 (nT-m:Nat) cT2]):=Wr.setRow _ _ _;refine⟨?_,HO7.o.sx.below.trans (hw.below AK)⟩;rw[HR2.o];exact⟨_,_,_,_,_,_,_,_,_,rfl,HK7.o.1.1.wrR hw HK7.o.1.2,HK7.o.2.1.1.wrR hw HK7.o.2.1.2,HK7.o.2.2.1.wrR hw HK7.o.2.2.2,HND.o.1,HND.o.2.1,HNT.o,λad e=>⟨AG (HK7.o.1.2 ad e).1,by rw[hw.size];exact(HK7.o.1.2 ad e).2.2⟩,λad e=>⟨AG (HK7.o.2.1.2 ad e).1,by rw[hw.size];exact(HK7.o.2.1.2 ad e).2.2⟩,λad e=>⟨AG (HK7.o.2.2.2 ad e).1,by rw[hw.size];exact(HK7.o.2.2.2 ad e).2.2⟩,HC2.o.1,HC2.o.2⟩
      go_upto_region 24 with fail
      generalize ((w6.setCell ⟨O,3,UJ⟩ (UD aT2 (nT-m:Nat) cT2)).setCell ⟨O,2,UJ⟩ (UE UO (a:Int)))=wz at *;go_wp2_with (first
       |(refine Ab rfl 34 (UT 5) rfl O rfl 34 _ (0,0) _ HOB.o Tryz.underlying34 rfl HSZ.o ?_)
       |(refine AC 68 (UT 4) (UT 129) (w.heap.size+2) #[UF true,UD aD' nD' cD',UD aU' nU' cU',UE UO (a:Int),UD aT2 (nT-m:Nat) cT2] 68 HRB.o HRZ.o rfl (by simp[Value.oneCell']) ?_)
       |fail)
      exact AZ (v:=UN #[UF true,UD aD' nD' cD',UD aU' nU' cU',UE UO (a:Int),UD aT2 (nT-m:Nat) cT2]) (AW rfl _ _ (w.heap.size+2) 68 _ (0,0) _ rfl (AB HRB.o) Tryz.underlying68 rfl HRZ.o) rfl ⟨_,rfl,HF.o.1,HF.o.2⟩
    ·have HR2:AP (Ff D U k T nT 3 a 0=⟨true,D,U,k,T,nT⟩):=by
      show _=_
      have e:Do k a=0:=by unfold Do;omega
      rw[HR.o,e];simp;omega
     have HRB:AP (w4.heap[w.heap.size+2]?=UI (UP Cc 68 (0,0))):=HO.o.sx.rb;have HOB:AP (w4.heap[O]?=UI (UP #[UD aD' nD' cD',UD aU' nU' cU',UE UO k,UD aT' nT cT'] 34 (0,0))):=HO.o.o;have HF:AP (El w.heap.size (w4.setRow (w.heap.size+2) #[UF true,UD aD' nD' cD',UD aU' nU' cU',UE UO k,UD aT' nT cT']) (UN #[UF true,UD aD' nD' cD',UD aU' nU' cU',UE UO k,UD aT' nT cT']) (Ff D U k T nT 3 a 0)/\Below w.heap.size w (w4.setRow (w.heap.size+2) #[UF true,UD aD' nD' cD',UD aU' nU' cU',UE UO k,UD aT' nT cT'])):=by
      have hw:Wr (w.heap.size+2) w4 (w4.setRow (w.heap.size+2) #[UF true,UD aD' nD' cD',UD aU' nU' cU',UE UO k,UD aT' nT cT']):=Wr.setRow _ _ _;refine⟨?_,HO.o.sx.below.trans (hw.below AK)⟩;rw[HR2.o];exact⟨_,_,_,_,_,_,_,_,_,rfl,HKD.o.1.wrR hw HKD.o.2,HKU.o.1.wrR hw HKU.o.2,HKT.o.1.wrR hw HKT.o.2,HND.o.1,HND.o.2.1,HND.o.2.2,λad e=>⟨AG (HKD.o.2 ad e).1,by rw[hw.size];exact(HKD.o.2 ad e).2.2⟩,λad e=>⟨AG (HKU.o.2 ad e).1,by rw[hw.size];exact(HKU.o.2 ad e).2.2⟩,λad e=>⟨AG (HKT.o.2 ad e).1,by rw[hw.size];exact(HKT.o.2 ad e).2.2⟩,HCC.o.1,HCC.o.2⟩
     go_upto_region 24 with fail
     generalize w4=wz at *;go_wp2_with (first
      |(refine Ab rfl 34 (UT 5) rfl O rfl 34 _ (0,0) _ HOB.o Tryz.underlying34 rfl HSZ.o ?_)
      |(refine AC 68 (UT 4) (UT 129) (w.heap.size+2) #[UF true,UD aD' nD' cD',UD aU' nU' cU',UE UO k,UD aT' nT cT'] 68 HRB.o HRZ.o rfl (by simp[Value.oneCell']) ?_)
      |fail)
     exact AZ (v:=UN #[UF true,UD aD' nD' cD',UD aU' nU' cU',UE UO k,UD aT' nT cT']) (AW rfl _ _ (w.heap.size+2) 68 _ (0,0) _ rfl (AB HRB.o) Tryz.underlying68 rfl HRZ.o) rfl ⟨_,rfl,HF.o.1,HF.o.2⟩
   ·have HAN:AP (Ff D U k T nT 3 a b=EL):=by show _=_;rw[HAR.o,Nv hc]
    have HX4:AP (SX w #[UD aD nD cD,UD aU nU cU,UE UO k,UD aT nT cT] #[UE UG seq,UE UO 3,UE UG a,UE UG b] w4):=HO.o.sx;by_cases hb0:b=0
    ·subst hb0;have hle:¬ ((a:Int)<=k+nT):=λh=>hc ⟨rfl,h⟩
     clear hc;have HFN:AP (Ff D U k T nT 3 a 0=EL):=HAN.o;have HRB:AP (w4.heap[w.heap.size+2]?=UI (UP Cc 68 (0,0))):=HX4.o.rb;have HF:AP (El w.heap.size (w4.setRow (w.heap.size+2) Cc) (UN Cc) (Ff D U k T nT 3 a 0)/\Below w.heap.size w (w4.setRow (w.heap.size+2) Cc)):=⟨by rw[HFN.o];exact El.no _ _,HX4.o.below.trans ((Wr.setRow _ _ _).below AK)⟩
     go_upto_region 25 with fail
     go_wp2_with (first
      |(refine AC 68 (UT 4) (UT 130) (w.heap.size+2) Cc 68 HRB.o HRZ.o rfl (by simp[Value.oneCell']) ?_)
      |fail)
     exact AZ (v:=UN Cc) (AW rfl _ _ (w.heap.size+2) 68 _ (0,0) _ rfl (AB HRB.o) Tryz.underlying68 rfl HRZ.o) rfl ⟨_,rfl,HF.o.1,HF.o.2⟩
    ·have hb0':¬ ((b:Int)=0):=AK
     clear hc;have HFN:AP (Ff D U k T nT 3 a b=EL):=HAN.o;have HRB:AP (w4.heap[w.heap.size+2]?=UI (UP Cc 68 (0,0))):=HX4.o.rb;have HF:AP (El w.heap.size (w4.setRow (w.heap.size+2) Cc) (UN Cc) (Ff D U k T nT 3 a b)/\Below w.heap.size w (w4.setRow (w.heap.size+2) Cc)):=⟨by rw[HFN.o];exact El.no _ _,HX4.o.below.trans ((Wr.setRow _ _ _).below AK)⟩
     go_upto_region 25 with fail
     go_wp2_with (first
      |(refine AC 68 (UT 4) (UT 130) (w.heap.size+2) Cc 68 HRB.o HRZ.o rfl (by simp[Value.oneCell']) ?_)
      |fail)
     exact AZ (v:=UN Cc) (AW rfl _ _ (w.heap.size+2) 68 _ (0,0) _ rfl (AB HRB.o) Tryz.underlying68 rfl HRZ.o) rfl ⟨_,rfl,HF.o.1,HF.o.2⟩
  have HAN:AP (Ff D U k T nT kind a b=EL):=by show _=_;rw[HAR.o,Nw k1 k2 k3]
  have HX4:AP (SX w #[UD aD nD cD,UD aU nU cU,UE UO k,UD aT nT cT] #[UE UG seq,UE UO kind,UE UG a,UE UG b] w4):=HO.o.sx;have HFN:AP (Ff D U k T nT kind a b=EL):=HAN.o;have HRB:AP (w4.heap[w.heap.size+2]?=UI (UP Cc 68 (0,0))):=HX4.o.rb;have HF:AP (El w.heap.size (w4.setRow (w.heap.size+2) Cc) (UN Cc) (Ff D U k T nT kind a b)/\Below w.heap.size w (w4.setRow (w.heap.size+2) Cc)):=⟨by rw[HFN.o];exact El.no _ _,HX4.o.below.trans ((Wr.setRow _ _ _).below AK)⟩
  go_upto_region 25 with fail
  go_wp2_with (first
   |(refine AC 68 (UT 4) (UT 130) (w.heap.size+2) Cc 68 HRB.o HRZ.o rfl (by simp[Value.oneCell']) ?_)
   |fail)
  exact AZ (v:=UN Cc) (AW rfl _ _ (w.heap.size+2) 68 _ (0,0) _ rfl (AB HRB.o) Tryz.underlying68 rfl HRZ.o) rfl ⟨_,rfl,HF.o.1,HF.o.2⟩
end Go.Proofs.YthmeoilbmfdhfaaGreat
