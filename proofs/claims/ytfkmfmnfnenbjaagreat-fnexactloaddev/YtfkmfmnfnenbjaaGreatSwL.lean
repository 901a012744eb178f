import Derived.Test.YtfkmfmnfnenbjaaGreatMSwH
import Derived.Test.YtfkmfmnfnenbjaaGreatMAppG
import Derived.Test.YtfkmfmnfnenbjaaGreatMSvEa
namespace Go.Proofs.YtfkmfmnfnenbjaaGreat
open Go.ChangeShapes Go.WideShapes Go.ChangeAt Go.RowKit
set_option linter.unusedVariables false
def WPV (lo:Nat) (w:World) (v:Value) (r:ApR):Prop:=
 ∃ aD nD cD aU nU cU aT nT cT,v=.agg #[.bool r.ok,.slice aD nD cD,.slice aU nU cU,.int .i64 r.k,.slice aT nT cT]∧At .i64 w aD r.D∧At .i64 w aU r.U∧At .i64 w aT r.T∧r.D.length=nD∧r.U.length=nU∧r.T.length=nT*2∧Lies lo w aD∧Lies lo w aU∧Lies lo w aT∧nT≤cT∧cT≤9223372036854775807
theorem WPV.no (lo:Nat) (w:World):WPV lo w (.agg #[.bool false,.slice none 0 0,.slice none 0 0,.int .i64 0,.slice none 0 0]) apNo:=⟨none,0,0,none,0,0,none,0,0,rfl,.inl rfl,.inl rfl,.inl rfl,rfl,rfl,rfl,fun _ h=>(by cases h),fun _ h=>(by cases h),fun _ h=>(by cases h),by decide,by decide⟩
theorem WPV.below {lo:Nat} {w w':World} {v:Value} {r:ApR} (h:WPV lo w v r) (b:Below w.heap.size w w'):WPV lo w' v r:=by
 obtain⟨aD,nD,cD,aU,nU,cU,aT,nT,cT,e,h1,h2,h3,h4,h5,h6,l1,l2,l3,l4,l5⟩:=h
 exact⟨aD,nD,cD,aU,nU,cU,aT,nT,cT,e,h1.below b,h2.below b,h3.below b,h4,h5,h6,l1.mono (Nat.le_refl _) b.size,l2.mono (Nat.le_refl _) b.size,l3.mono (Nat.le_refl _) b.size,l4,l5⟩
theorem TapO.cap {B:Nat} {w:World} {a:Option Addr} {n c n':Nat} {T:List Int} (h:TapO B w (.slice a n c) T n'):n≤c∧c≤9223372036854775807:=by
 rcases h.2 with⟨h1,h2⟩|⟨g,c',cur,h1,_,_,h4,h5,_⟩
 ·cases h1;exact⟨Nat.le_refl _,by decide⟩
 ·cases h1;exact⟨h4,by unfold maxLen at h5;omega⟩
structure SX (w:World) (sc fr:Array Value) (wr:World):Prop where
 below:Below w.heap.size w wr
 sb:wr.heap[w.heap.size]?=some (.cells sc 34 (0,0))
 fb:wr.heap[w.heap.size+1]?=some (.cells fr 89 (0,0))
 rb:wr.heap[w.heap.size+2]?=some (.cells #[.bool false,.slice none 0 0,.slice none 0 0,.int .i64 0,.slice none 0 0] 56 (0,0))
theorem SX.keep {w wr w':World} {sc fr:Array Value} (h:SX w sc fr wr) (b:Below (w.heap.size+3) wr w'):SX w sc fr w':=
 ⟨h.below.trans (b.mono (by omega)),by rw[b.block _ (by omega)];exact h.sb,by rw[b.block _ (by omega)];exact h.fb,by rw[b.block _ (by omega)];exact h.rb⟩
theorem SX.lt {w wr:World} {sc fr:Array Value} (h:SX w sc fr wr):w.heap.size+3≤wr.heap.size:=(Array.getElem?_eq_some_iff.1 h.rb).1
theorem SX.call {w wr w':World} {sc fr:Array Value} (h:SX w sc fr wr) (b:Below wr.heap.size wr w'):SX w sc fr w':=h.keep (b.mono h.lt)
theorem SX.start (w:World) (sc fr:Array Value):SX w sc fr (((w.alloc (.cells sc 34)).alloc (.cells fr 89)).alloc (.cells #[.bool false,.slice none 0 0,.slice none 0 0,.int .i64 0,.slice none 0 0] 56)):=by
 have h:=IX.start w sc fr
 refine⟨h.below,?_,h.fb,h.rb⟩
 rw[Below.heap_alloc _ _ w.heap.size (by simp;omega),Below.heap_alloc _ _ w.heap.size (by simp)];exact heap_alloc_new w _
structure OX (w:World) (sc fr:Array Value) (O:Nat) (cs:Array Value) (wr:World):Prop where
 sx:SX w sc fr wr
 out:wr.heap[O]?=some (.cells cs 34 (0,0))
 hO:w.heap.size+3≤O
theorem OX.lt {w wr:World} {sc fr cs:Array Value} {O:Nat} (h:OX w sc fr O cs wr):O<wr.heap.size:=(Array.getElem?_eq_some_iff.1 h.out).1
theorem OX.call {w wr w':World} {sc fr cs:Array Value} {O:Nat} (h:OX w sc fr O cs wr) (b:Below wr.heap.size wr w'):OX w sc fr O cs w':=⟨h.sx.call b,by rw[b.block _ h.lt];exact h.out,h.hO⟩
theorem OX.put {w wr:World} {sc fr cs:Array Value} {O:Nat} (h:OX w sc fr O cs wr) (i:Nat) (v:Value):OX w sc fr O (cs.setIfInBounds i v) (wr.setCell ⟨O,i,none⟩ v):=by
 have hw:Wr O wr (wr.setCell ⟨O,i,none⟩ v):=(Wr.refl _ _).setCell _ _
 exact⟨h.sx.keep (hw.below h.hO),heap_setCell_same _ _ _ _ _ _ h.out,h.hO⟩
def LK (lo O:Nat) (w:World) (a:Option Addr) (xs:List Int):Prop:=At .i64 w a xs∧∀ ad,a=some ad→lo≤ad.block∧ad.block≠O∧ad.block<w.heap.size
theorem LK.below {lo O:Nat} {w w':World} {a:Option Addr} {xs:List Int} (h:LK lo O w a xs) (b:Below w.heap.size w w'):LK lo O w' a xs:=⟨h.1.below b,fun ad e=>by have:=h.2 ad e;have:=b.size;omega⟩
theorem LK.wr {lo O:Nat} {w w':World} {a:Option Addr} {xs:List Int} (h:LK lo O w a xs) (hw:Wr O w w'):LK lo O w' a xs:=
 ⟨h.1.keepT (by rw[hw.size];exact Nat.le_refl _) (fun ad e _=>hw.block _ (h.2 ad e).2.1),fun ad e=>by rw[hw.size];exact h.2 ad e⟩
theorem LK.grown {lo O:Nat} {w w':World} {a:Option Addr} {xs:List Int} {row:Option Nat} (h:LK lo O w a xs) (hg:w.grownBy w' row) (hne:∀ ad,a=some ad→some ad.block≠row):LK lo O w' a xs:=
 ⟨h.1.keepT hg.size (fun ad e hl=>hg.block _ hl (hne ad e)),fun ad e=>by have:=h.2 ad e;have:=hg.size;omega⟩
theorem At.wrR {lo O R:Nat} {w w':World} {a:Option Addr} {xs:List Int} (h:At .i64 w a xs) (hw:Wr R w w') (h2:∀ ad,a=some ad→lo≤ad.block∧ad.block≠O∧ad.block<w.heap.size) (hR:R<lo:=by omega):At .i64 w' a xs:=
 h.keepT (by rw[hw.size];exact Nat.le_refl _) (fun ad e _=>hw.block _ (by have:=(h2 ad e).1;omega))
theorem Iow.lk {lo O B:Nat} {w:World} {a:Option Addr} {n c:Nat} {xs:List Int} (h:Iow B w (.slice a n c) xs) (hB:lo≤B) (hO:O<B∨w.heap.size≤O):LK lo O w a xs:=by
 obtain⟨h1,h2,h3⟩:=h.sat
 exact⟨h1.at_,fun ad e=>by have:=h3 ad e;omega⟩
theorem TapO.lk {lo O B:Nat} {w:World} {a:Option Addr} {n c:Nat} {T:List Int} (h:TapO B w (.slice a n c) T n) (hB:lo≤B) (hO:O<B∨w.heap.size≤O):LK lo O w a T:=by
 obtain⟨h1,h2,h3⟩:=h.tapV.sat
 exact⟨h1.at_,fun ad e=>by have:=h3 ad e;omega⟩
theorem io_tap {B B':Nat} {w:World} {a a':Option Addr} {n c n' c':Nat} {xs T:List Int} (h:Iow B w (.slice a n c) xs) (h':TapO B' w (.slice a' n' c') T n'):∀ ad,a=some ad→some ad.block≠(Value.slice a' n' c').ownBlock:=by
 intro ad e he
 rcases h.2 with⟨h1,_⟩|⟨g,cap,cur,h1,_,hh,_⟩
 ·cases h1;cases e
 ·cases h1;cases e;rcases h'.2 with⟨h2,_⟩|⟨g',cap',cur',h2,_,hh',_⟩
  ·cases h2;simp[Value.ownBlock] at he
  ·cases h2;simp[Value.ownBlock] at he;subst he;rw[hh] at hh';injection hh' with e1
   injection e1 with _ e2 _
   exact absurd e2 (by decide)
theorem apR_tap {D U:List Int} {k:Int} {T:List Int} {n a b:Nat} (h:a<256∧¬ (a:Int)∈U∧¬ (a:Int)∈D):apR D U k T n 1 a b=⟨true,D,withS U a,k,T++[(a:Int),(b:Int)],n+1⟩:=by unfold apR;rw[if_pos rfl,if_pos h]
theorem apR_tapNo {D U:List Int} {k:Int} {T:List Int} {n a b:Nat} (h:¬ (a<256∧¬ (a:Int)∈U∧¬ (a:Int)∈D)):apR D U k T n 1 a b=apNo:=by unfold apR;rw[if_pos rfl,if_neg h]
theorem apR_add {D U:List Int} {k:Int} {T:List Int} {n a:Nat} (h:a<256∧¬ (a:Int)∈D∧¬ D.length=16):apR D U k T n 2 a 1=⟨true,withS D a,U,k,T,n⟩:=by unfold apR;rw[if_neg (by decide),if_pos rfl,if_pos ⟨rfl,h⟩]
theorem apR_rem {D U:List Int} {k:Int} {T:List Int} {n a:Nat} (h:a<256∧(a:Int)∈D):apR D U k T n 2 a 0=⟨true,lessS D a,U,k,T,n⟩:=by unfold apR;rw[if_neg (by decide),if_pos rfl,if_neg (fun h=>by cases h.1),if_pos ⟨rfl,h⟩]
theorem apR_denyNo {D U:List Int} {k:Int} {T:List Int} {n a b:Nat} (h:¬ (b=1∧a<256∧¬ (a:Int)∈D∧¬ D.length=16)) (h':¬ (b=0∧a<256∧(a:Int)∈D)):apR D U k T n 2 a b=apNo:=by unfold apR;rw[if_neg (by decide),if_pos rfl,if_neg h,if_neg h']
theorem apR_ack {D U:List Int} {k:Int} {T:List Int} {n a:Nat} (h:(a:Int)≤k+n):apR D U k T n 3 a 0=⟨true,D,U,max a k,T.drop (ackM k a*2),n-ackM k a⟩:=by unfold apR;rw[if_neg (by decide),if_neg (by decide),if_pos rfl,if_pos ⟨rfl,h⟩]
theorem apR_ackNo {D U:List Int} {k:Int} {T:List Int} {n a b:Nat} (h:¬ (b=0∧(a:Int)≤k+n)):apR D U k T n 3 a b=apNo:=by unfold apR;rw[if_neg (by decide),if_neg (by decide),if_pos rfl,if_neg h]
theorem apR_other {D U:List Int} {k:Int} {T:List Int} {n a b:Nat} {kind:Int} (h1:¬ kind=1) (h2:¬ kind=2) (h3:¬ kind=3):apR D U k T n kind a b=apNo:=by unfold apR;rw[if_neg h1,if_neg h2,if_neg h3]
set_option maxRecDepth 100000 in
set_option maxHeartbeats 8000000 in
theorem sap_any (aD aU aT:Option Addr) (nD cD nU cU nT cT:Nat) (D U:List Int) (k:Int) (T:List Int) (seq kind:Int) (a b:Nat) (w:World) (hD:D.length=nD) (hU:U.length=nU) (hT:T.length=nT*2) (mD:nD≤1048576) (mU:nU≤1048576) (mT:nT≤1048576)
  (haD:At .i64 w aD D) (haU:At .i64 w aU U) (haT:At .i64 w aT T) (hcT:nT≤cT) (hcm:cT≤9223372036854775807) (hk0:-9223372036854775808≤k) (hk1:k<9223372036854775808) (ha:a<4294967296) (hbb:b<4294967296) :
  Calls Tryz.prog 50 #[.agg #[.slice aD nD cD,.slice aU nU cU,.int .i64 k,.slice aT nT cT],.agg #[.int .u32 seq,.int .i64 kind,.int .u32 a,.int .u32 b]] w fun e w'=>∃ v,e=.returned v∧WPV w.heap.size w' v (apF D U k T nT kind a b)∧Below w.heap.size w w':=by
 have HX0:Hid (SX w #[.slice aD nD cD,.slice aU nU cU,.int .i64 k,.slice aT nT cT] #[.int .u32 seq,.int .i64 kind,.int .u32 a,.int .u32 b] (((w.alloc (.cells #[.slice aD nD cD,.slice aU nU cU,.int .i64 k,.slice aT nT cT] 34)).alloc (.cells #[.int .u32 seq,.int .i64 kind,.int .u32 a,.int .u32 b] 89)).alloc (.cells #[.bool false,.slice none 0 0,.slice none 0 0,.int .i64 0,.slice none 0 0] 56))):=SX.start _ _ _
 have HLN:Hid (D.length=nD∧U.length=nU∧T.length=nT*2):=⟨hD,hU,hT⟩
 have HA:Hid (∀ wz,Below w.heap.size w wz→At .i64 wz aD D∧At .i64 wz aU U∧At .i64 wz aT T):=fun wz h=>⟨haD.below h,haU.below h,haT.below h⟩
 have HC:=svs_any aD aU aT nD cD nU cU nT cT D U k T _ hD hU hT mD mU mT (haD.below HX0.out.below) (haU.below HX0.out.below) (haT.below HX0.out.below) hk0 hk1
 have HRZ:Hid ((Tryz.prog.info? 56).map (·.size)=some 5):=by show _=_;kernel_rfl
 have HSZ:Hid ((Tryz.prog.info? 34).map (·.size)=some 4):=by show _=_;kernel_rfl
 have HAF:Hid (apF D U k T nT kind a b=if stB D U k T nT=true then apR D U k T nT kind a b else apNo):=rfl
 have HST:Hid (stB D U k T nT=true→StP D U k T nT):=stP_of
 clear haD haU haT hD hU hT
 go_enter Tryz.func50,Tryz.ntmps50
 go_wp2_with fail
 generalize (((w.alloc (.cells #[.slice aD nD cD,.slice aU nU cU,.int .i64 k,.slice aT nT cT] 34)).alloc (.cells #[.int .u32 seq,.int .i64 kind,.int .u32 a,.int .u32 b] 89)).alloc (.cells #[.bool false,.slice none 0 0,.slice none 0 0,.int .i64 0,.slice none 0 0] 56))=w0 at *
 refine HC.mono ?_
 rintro e w1 ⟨rfl,hb1⟩
 have HX1:Hid (SX w #[.slice aD nD cD,.slice aU nU cU,.int .i64 k,.slice aT nT cT] #[.int .u32 seq,.int .i64 kind,.int .u32 a,.int .u32 b] w1):=HX0.out.call hb1
 clear HC HX0 hb1
 generalize hq:stB D U k T nT=q at *
 have HQ:Hid (stB D U k T nT=q):=hq
 clear hq
 cases q with
 |false=>
  have HFN:Hid (apF D U k T nT kind a b=apNo):=by show _=_;rw[HAF.out];rfl
  have HRB:Hid (w1.heap[w.heap.size+2]?=some (.cells #[.bool false,.slice none 0 0,.slice none 0 0,.int .i64 0,.slice none 0 0] 56 (0,0))):=HX1.out.rb;have HF:Hid (WPV w.heap.size (w1.setRow (w.heap.size+2) #[.bool false,.slice none 0 0,.slice none 0 0,.int .i64 0,.slice none 0 0]) (.agg #[.bool false,.slice none 0 0,.slice none 0 0,.int .i64 0,.slice none 0 0]) (apF D U k T nT kind a b)∧Below w.heap.size w (w1.setRow (w.heap.size+2) #[.bool false,.slice none 0 0,.slice none 0 0,.int .i64 0,.slice none 0 0])):=⟨by rw[HFN.out];exact WPV.no _ _,HX1.out.below.trans ((Wr.setRow _ _ _).below (by omega))⟩
  go_upto_region 2 with fail
  go_wp2_with (first
   |(refine wpList_store_row rfl 56 (.tmp 4) (.tmp 10) rfl (w.heap.size+2) #[.bool false,.slice none 0 0,.slice none 0 0,.int .i64 0,.slice none 0 0] rfl rfl 56 _ HRB.out HRZ.out rfl (by simp[Value.oneCell']) ?_)
   |fail)
  exact bodyPost_ret (v:=.agg #[.bool false,.slice none 0 0,.slice none 0 0,.int .i64 0,.slice none 0 0]) (results_cell_row rfl _ _ (w.heap.size+2) 56 _ (0,0) _ rfl (setRow_heap _ _ _ _ _ _ HRB.out) Tryz.underlying56 rfl HRZ.out) rfl ⟨_,rfl,HF.out.1,HF.out.2⟩
 |true=>
  have HAR:Hid (apF D U k T nT kind a b=apR D U k T nT kind a b):=by show _=_;rw[HAF.out];rfl
  have hst:=HST.out rfl;have hk0':0≤k:=hst.2.2.2.1;have hkn:k+nT=(nU:Int):=by have:=hst.2.2.2.2.1;rw[HLN.out.2.1] at this;exact this
  have hd16:nD≤16:=by have:=hst.2.1;rw[HLN.out.1] at this;exact this
  have HSD:Hid (∀ z,z∈D→0≤z∧z<256):=fun z hz=>hst.1.range hz
  clear hst HST HAF;have HL:=l5c_any aD aU aT nD cD nU cU nT cT D U k T w1 HLN.out.1 HLN.out.2.1 HLN.out.2.2 mD mU mT (HA.out w1 HX1.out.below).1 (HA.out w1 HX1.out.below).2.1 (HA.out w1 HX1.out.below).2.2;have s0:w1.cell? ⟨w.heap.size,0,none⟩=some (.slice aD nD cD):=by rw[cell_of_row w1 _ 0 _ _ _ HX1.out.sb];rfl
  have s1:w1.cell? ⟨w.heap.size,1,none⟩=some (.slice aU nU cU):=by rw[cell_of_row w1 _ 1 _ _ _ HX1.out.sb];rfl
  have s2:w1.cell? ⟨w.heap.size,2,none⟩=some (.int .i64 k):=by rw[cell_of_row w1 _ 2 _ _ _ HX1.out.sb];rfl
  have s3:w1.cell? ⟨w.heap.size,3,none⟩=some (.slice aT nT cT):=by rw[cell_of_row w1 _ 3 _ _ _ HX1.out.sb];rfl
  go_wp2_with fail;refine HL.mono ?_;rintro e w3 ⟨cs,rfl,⟨aD',nD',cD',aU',nU',cU',aT',cT',rfl,hcD,hcU,hcTT⟩,hb3⟩;have HCC:Hid (nT≤cT'∧cT'≤9223372036854775807):=hcTT.cap;have b4:Below w3.heap.size w3 (w3.alloc (.cells #[.slice aD' nD' cD',.slice aU' nU' cU',.int .i64 k,.slice aT' nT cT'] 34)):=(Below.refl _ _).alloc (Nat.le_refl _) _;have HO:Hid (OX w #[.slice aD nD cD,.slice aU nU cU,.int .i64 k,.slice aT nT cT] #[.int .u32 seq,.int .i64 kind,.int .u32 a,.int .u32 b] w3.heap.size #[.slice aD' nD' cD',.slice aU' nU' cU',.int .i64 k,.slice aT' nT cT'] (w3.alloc (.cells #[.slice aD' nD' cD',.slice aU' nU' cU',.int .i64 k,.slice aT' nT cT'] 34))):=⟨(HX1.out.call hb3).call b4,heap_alloc_new w3 _,(HX1.out.call hb3).lt⟩
  have hb1:=HX1.out.lt;have HKD:Hid (LK (w.heap.size+3) w3.heap.size (w3.alloc (.cells #[.slice aD' nD' cD',.slice aU' nU' cU',.int .i64 k,.slice aT' nT cT'] 34)) aD' D):=(hcD.lk hb1 (.inr (Nat.le_refl _))).below b4;have HKU:Hid (LK (w.heap.size+3) w3.heap.size (w3.alloc (.cells #[.slice aD' nD' cD',.slice aU' nU' cU',.int .i64 k,.slice aT' nT cT'] 34)) aU' U):=(hcU.lk hb1 (.inr (Nat.le_refl _))).below b4;have HKT:Hid (LK (w.heap.size+3) w3.heap.size (w3.alloc (.cells #[.slice aD' nD' cD',.slice aU' nU' cU',.int .i64 k,.slice aT' nT cT'] 34)) aT' T):=(hcTT.lk hb1 (.inr (Nat.le_refl _))).below b4;have HTO:Hid (TapO (w.heap.size+3) (w3.alloc (.cells #[.slice aD' nD' cD',.slice aU' nU' cU',.int .i64 k,.slice aT' nT cT'] 34)) (.slice aT' nT cT') T nT):=(TapO.mono hcTT hb1).below b4;have HDT:Hid (∀ ad,aD'=some ad→some ad.block≠(Value.slice aT' nT cT').ownBlock):=io_tap hcD hcTT;have HTNE:Hid (NeG w3.heap.size (.slice aT' nT cT')):=fun t ht e=>by
   obtain⟨_,_,q3⟩:=hcTT.tapV.sat;cases aT' with
   |none=>simp[Value.ownBlock] at ht
   |some ad=>
    simp[Value.ownBlock] at ht;have:=(q3 ad rfl).2;omega
  have HND:Hid (D.length=nD'∧U.length=nU'∧T.length=nT*2):=⟨hcD.sat.2.1,hcU.sat.2.1,HLN.out.2.2⟩
  clear hcD hcU hcTT hb3 b4 HL HX1 s0 s1 s2 s3 hb1
  go_upto_region 4 with fail
  generalize w3.alloc (.cells #[.slice aD' nD' cD',.slice aU' nU' cU',.int .i64 k,.slice aT' nT cT'] 34)=w4 at *;generalize w3.heap.size=O at *;have s0:w4.cell? ⟨w.heap.size,0,none⟩=some (.slice aD nD cD):=by rw[cell_of_row w4 _ 0 _ _ _ HO.out.sx.sb];rfl
  have s1:w4.cell? ⟨w.heap.size,1,none⟩=some (.slice aU nU cU):=by rw[cell_of_row w4 _ 1 _ _ _ HO.out.sx.sb];rfl
  have s2:w4.cell? ⟨w.heap.size,2,none⟩=some (.int .i64 k):=by rw[cell_of_row w4 _ 2 _ _ _ HO.out.sx.sb];rfl
  have s3:w4.cell? ⟨w.heap.size,3,none⟩=some (.slice aT nT cT):=by rw[cell_of_row w4 _ 3 _ _ _ HO.out.sx.sb];rfl
  have f1:w4.cell? ⟨w.heap.size+1,1,none⟩=some (.int .i64 kind):=by rw[cell_of_row w4 _ 1 _ _ _ HO.out.sx.fb];rfl
  have f2:w4.cell? ⟨w.heap.size+1,2,none⟩=some (.int .u32 a):=by rw[cell_of_row w4 _ 2 _ _ _ HO.out.sx.fb];rfl
  have f3:w4.cell? ⟨w.heap.size+1,3,none⟩=some (.int .u32 b):=by rw[cell_of_row w4 _ 3 _ _ _ HO.out.sx.fb];rfl
  have HAD:Hid (At .i64 w4 aD D∧At .i64 w4 aU U∧At .i64 w4 aT T):=HA.out w4 HO.out.sx.below;have HON:Hid (w.heap.size+3≤O∧O<w4.heap.size):=⟨HO.out.hO,HO.out.lt⟩
  by_cases k1:kind=1
  ·subst k1;by_cases hc:a<256∧¬ (a:Int)∈U∧¬ (a:Int)∈D
   ·have HR:Hid (apF D U k T nT 1 a b=⟨true,D,withS U a,k,T++[(a:Int),(b:Int)],nT+1⟩):=by show _=_;rw[HAR.out,apR_tap hc]
    have h256:¬ ((a:Int)≥256):=by omega
    have HMU:Hid (memB (a:Int) U=false):=memB_no hc.2.1;have HMD:Hid (memB (a:Int) D=false):=memB_no hc.2.2;clear hc;go_wp2_with fail;refine(holds_any _ _ _ U _ _ HLN.out.2.1 mU HAD.out.2.1).mono ?_;rintro e w5 ⟨rfl,rfl⟩;rw[HMU.out];go_wp2_with fail;refine(holds_any _ _ _ D _ _ HLN.out.1 mD HAD.out.1).mono ?_;rintro e w5 ⟨rfl,rfl⟩;rw[HMD.out];go_wp2_with fail;refine(with_any _ _ _ U a _ HLN.out.2.1 mU HAD.out.2.1).mono ?_;rintro e w6 ⟨v6,rfl,hv6,hb6⟩;obtain⟨aU2,nU2,cU2,rfl⟩:=hv6.form;have HO6:Hid (OX w #[.slice aD nD cD,.slice aU nU cU,.int .i64 k,.slice aT nT cT] #[.int .u32 seq,.int .i64 1,.int .u32 a,.int .u32 b] O #[.slice aD' nD' cD',.slice aU' nU' cU',.int .i64 k,.slice aT' nT cT'] w6):=HO.out.call hb6;have HKD6:Hid (LK (w.heap.size+3) O w6 aD' D):=HKD.out.below hb6;have HKU6:Hid (LK (w.heap.size+3) O w6 aU2 (withS U a)):=hv6.lk (by have:=HON.out;omega) (.inl HON.out.2);have HNU6:Hid ((withS U a).length=nU2):=hv6.sat.2.1;have HTO6:Hid (TapO (w.heap.size+3) w6 (.slice aT' nT cT') T nT):=HTO.out.below hb6;have HUT6:Hid (∀ ad,aU2=some ad→some ad.block≠(Value.slice aT' nT cT').ownBlock):=io_tap hv6 HTO6.out;have HON6:Hid (w.heap.size+3≤O∧O<w6.heap.size):=⟨HO6.out.hO,HO6.out.lt⟩
    have v1:w6.cell? ⟨O,1,none⟩=some (.slice aU' nU' cU'):=by rw[cell_of_row w6 _ 1 _ _ _ HO6.out.out];rfl
    have g1:=frozen_of_row w6 O 1 _ _ HO6.out.out;clear hv6 hb6 s0 s1 s2 s3 f1 f2 f3 HKD HKU HKT HTO HAD
    go_upto_region 10 with fail
    have hw7:Wr O w6 (w6.setCell ⟨O,1,none⟩ (.slice aU2 nU2 cU2)):=(Wr.refl _ _).setCell _ _;have HO7:Hid (OX w #[.slice aD nD cD,.slice aU nU cU,.int .i64 k,.slice aT nT cT] #[.int .u32 seq,.int .i64 1,.int .u32 a,.int .u32 b] O #[.slice aD' nD' cD',.slice aU2 nU2 cU2,.int .i64 k,.slice aT' nT cT'] (w6.setCell ⟨O,1,none⟩ (.slice aU2 nU2 cU2))):=HO6.out.put 1 _;have HKD7:Hid (LK (w.heap.size+3) O (w6.setCell ⟨O,1,none⟩ (.slice aU2 nU2 cU2)) aD' D):=HKD6.out.wr hw7;have HKU7:Hid (LK (w.heap.size+3) O (w6.setCell ⟨O,1,none⟩ (.slice aU2 nU2 cU2)) aU2 (withS U a)):=HKU6.out.wr hw7;have hTne:NeG O (.slice aT' nT cT'):=fun t ht e=>HTNE.out t ht e
    have HTO7:Hid (TapO (w.heap.size+3) (w6.setCell ⟨O,1,none⟩ (.slice aU2 nU2 cU2)) (.slice aT' nT cT') T nT):=HTO6.out.wrg hTne hw7;have HON7:Hid (w.heap.size+3≤(w6.setCell ⟨O,1,none⟩ (.slice aU2 nU2 cU2)).heap.size):=by show _≤_;rw[hw7.size];have:=HON6.out;omega
    clear v1 g1 hw7 HO6 HKD6 HKU6 HTO6;generalize w6.setCell ⟨O,1,none⟩ (.slice aU2 nU2 cU2)=w7 at *;have t3:w7.cell? ⟨O,3,none⟩=some (.slice aT' nT cT'):=by rw[cell_of_row w7 _ 3 _ _ _ HO7.out.out];rfl
    have f3:w7.cell? ⟨w.heap.size+1,3,none⟩=some (.int .u32 b):=by rw[cell_of_row w7 _ 3 _ _ _ HO7.out.sx.fb];rfl
    have b8:Below w7.heap.size w7 (w7.alloc (.cells #[.int .i64 (a:Int),.int .i64 (b:Int)] 111)):=(Below.refl _ _).alloc (Nat.le_refl _) _;have HTO8:Hid (TapO (w.heap.size+3) (w7.alloc (.cells #[.int .i64 (a:Int),.int .i64 (b:Int)] 111)) (.slice aT' nT cT') T nT):=HTO7.out.below b8;have HB8:Hid (w.heap.size+3≤(w7.alloc (.cells #[.int .i64 (a:Int),.int .i64 (b:Int)] 111)).heap.size):=by show _≤_;have:=HON7.out;have:=b8.size;omega
    go_wp2_with (first
     |(refine wpList_appT0 _ rfl (.tmp 41) (.tmp 47) rfl (w.heap.size+3) (.slice aT' nT cT') T nT rfl HTO8.out w7 a b rfl rfl mT HB8.out ?_)
     |fail)
    intro v9 w9 h1 ho h2 hgr how;obtain⟨aT2,cT2,rfl⟩:=h1.tapV.slice;have HC2:Hid (nT+1≤cT2∧cT2≤9223372036854775807):=h1.cap;have hO8:O<(w7.alloc (.cells #[.int .i64 (a:Int),.int .i64 (b:Int)] 111)).heap.size:=by have:=HO7.out.lt;have:=b8.size;omega
    have HO9:Hid (OX w #[.slice aD nD cD,.slice aU nU cU,.int .i64 k,.slice aT nT cT] #[.int .u32 seq,.int .i64 1,.int .u32 a,.int .u32 b] O #[.slice aD' nD' cD',.slice aU2 nU2 cU2,.int .i64 k,.slice aT' nT cT'] w9):=⟨(HO7.out.call b8).sx.keep h2,by rw[hgr.block O hO8 (fun e=>hTne O e.symm rfl)];exact(HO7.out.call b8).out,HO7.out.hO⟩
    have HKD9:Hid (LK (w.heap.size+3) O w9 aD' D):=(HKD7.out.below b8).grown hgr HDT.out;have HKU9:Hid (LK (w.heap.size+3) O w9 aU2 (withS U a)):=(HKU7.out.below b8).grown hgr HUT6.out;have hTne9:NeG O (.slice aT2 (nT+1:Nat) cT2):=fun x hx=>by
     rcases how with e1|e1
     ·exact hTne x (e1 ▸ hx)
     ·rw[e1] at hx;have hx':=Option.some.inj hx;have hO7:=HO7.out.lt;have hz8:=b8.size;omega
    have HKT9:Hid (LK (w.heap.size+3) O w9 aT2 (T++[(a:Int),(b:Int)])):=by
     obtain⟨q1,q2,q3⟩:=h1.tapV.sat;exact⟨q1.at_,fun ad e=>⟨(q3 ad e).1,hTne9 _ (by rw[e];rfl),(q3 ad e).2⟩⟩
    have v3:w9.cell? ⟨O,3,none⟩=some (.slice aT' nT cT'):=by rw[cell_of_row w9 _ 3 _ _ _ HO9.out.out];rfl
    have g3:=frozen_of_row w9 O 3 _ _ HO9.out.out;have hw10:Wr O w9 (w9.setCell ⟨O,3,none⟩ (.slice aT2 (nT+1:Nat) cT2)):=(Wr.refl _ _).setCell _ _;have HO10:Hid (OX w #[.slice aD nD cD,.slice aU nU cU,.int .i64 k,.slice aT nT cT] #[.int .u32 seq,.int .i64 1,.int .u32 a,.int .u32 b] O #[.slice aD' nD' cD',.slice aU2 nU2 cU2,.int .i64 k,.slice aT2 (nT+1:Nat) cT2] (w9.setCell ⟨O,3,none⟩ (.slice aT2 (nT+1:Nat) cT2))):=HO9.out.put 3 _;have HK10:Hid (LK (w.heap.size+3) O (w9.setCell ⟨O,3,none⟩ (.slice aT2 (nT+1:Nat) cT2)) aD' D∧LK (w.heap.size+3) O (w9.setCell ⟨O,3,none⟩ (.slice aT2 (nT+1:Nat) cT2)) aU2 (withS U a)∧LK (w.heap.size+3) O (w9.setCell ⟨O,3,none⟩ (.slice aT2 (nT+1:Nat) cT2)) aT2 (T++[(a:Int),(b:Int)])):=⟨HKD9.out.wr hw10,HKU9.out.wr hw10,HKT9.out.wr hw10⟩
    have HLT:Hid ((T++[(a:Int),(b:Int)]).length=(nT+1)*2):=by show _=_;rw[List.length_append,HND.out.2.2];simp;omega
    clear h1 h2 hgr how hTne hTne9 hw10 HO9 HKD9 HKU9 HKT9 t3 f3 b8 HTO8 HB8 hO8 HO7 HKD7 HKU7 HTO7;have HRB:Hid ((w9.setCell ⟨O,3,none⟩ (.slice aT2 (nT+1:Nat) cT2)).heap[w.heap.size+2]?=some (.cells #[.bool false,.slice none 0 0,.slice none 0 0,.int .i64 0,.slice none 0 0] 56 (0,0))):=HO10.out.sx.rb;have HOB:Hid ((w9.setCell ⟨O,3,none⟩ (.slice aT2 (nT+1:Nat) cT2)).heap[O]?=some (.cells #[.slice aD' nD' cD',.slice aU2 nU2 cU2,.int .i64 k,.slice aT2 (nT+1:Nat) cT2] 34 (0,0))):=HO10.out.out;have HF:Hid (WPV w.heap.size ((w9.setCell ⟨O,3,none⟩ (.slice aT2 (nT+1:Nat) cT2)).setRow (w.heap.size+2) #[.bool true,.slice aD' nD' cD',.slice aU2 nU2 cU2,.int .i64 k,.slice aT2 (nT+1:Nat) cT2]) (.agg #[.bool true,.slice aD' nD' cD',.slice aU2 nU2 cU2,.int .i64 k,.slice aT2 (nT+1:Nat) cT2]) (apF D U k T nT 1 a b)∧Below w.heap.size w ((w9.setCell ⟨O,3,none⟩ (.slice aT2 (nT+1:Nat) cT2)).setRow (w.heap.size+2) #[.bool true,.slice aD' nD' cD',.slice aU2 nU2 cU2,.int .i64 k,.slice aT2 (nT+1:Nat) cT2])):=by
     have hw:Wr (w.heap.size+2) (w9.setCell ⟨O,3,none⟩ (.slice aT2 (nT+1:Nat) cT2)) ((w9.setCell ⟨O,3,none⟩ (.slice aT2 (nT+1:Nat) cT2)).setRow (w.heap.size+2) #[.bool true,.slice aD' nD' cD',.slice aU2 nU2 cU2,.int .i64 k,.slice aT2 (nT+1:Nat) cT2]):=Wr.setRow _ _ _;refine⟨?_,HO10.out.sx.below.trans (hw.below (by omega))⟩;rw[HR.out];exact⟨_,_,_,_,_,_,_,_,_,rfl,HK10.out.1.1.wrR hw HK10.out.1.2,HK10.out.2.1.1.wrR hw HK10.out.2.1.2,HK10.out.2.2.1.wrR hw HK10.out.2.2.2,HND.out.1,HNU6.out,HLT.out,fun ad e=>⟨by have:=(HK10.out.1.2 ad e).1;omega,by rw[hw.size];exact(HK10.out.1.2 ad e).2.2⟩,fun ad e=>⟨by have:=(HK10.out.2.1.2 ad e).1;omega,by rw[hw.size];exact(HK10.out.2.1.2 ad e).2.2⟩,fun ad e=>⟨by have:=(HK10.out.2.2.2 ad e).1;omega,by rw[hw.size];exact(HK10.out.2.2.2 ad e).2.2⟩,HC2.out.1,HC2.out.2⟩
    go_upto_region 11 with fail
    generalize (w9.setCell ⟨O,3,none⟩ (.slice aT2 (nT+1:Nat) cT2))=wz at *;go_wp2_with (first
     |(refine wpList_load_row rfl 34 (.tmp 5) rfl O rfl 34 _ (0,0) _ HOB.out Tryz.underlying34 rfl HSZ.out ?_)
     |(refine wpList_store_row rfl 56 (.tmp 4) (.tmp 51) rfl (w.heap.size+2) #[.bool true,.slice aD' nD' cD',.slice aU2 nU2 cU2,.int .i64 k,.slice aT2 (nT+1:Nat) cT2] rfl rfl 56 _ HRB.out HRZ.out rfl (by simp[Value.oneCell']) ?_)
     |fail)
    exact bodyPost_ret (v:=.agg #[.bool true,.slice aD' nD' cD',.slice aU2 nU2 cU2,.int .i64 k,.slice aT2 (nT+1:Nat) cT2]) (results_cell_row rfl _ _ (w.heap.size+2) 56 _ (0,0) _ rfl (setRow_heap _ _ _ _ _ _ HRB.out) Tryz.underlying56 rfl HRZ.out) rfl ⟨_,rfl,HF.out.1,HF.out.2⟩
   ·have HAN:Hid (apF D U k T nT 1 a b=apNo):=by show _=_;rw[HAR.out,apR_tapNo hc]
    have HX4:Hid (SX w #[.slice aD nD cD,.slice aU nU cU,.int .i64 k,.slice aT nT cT] #[.int .u32 seq,.int .i64 1,.int .u32 a,.int .u32 b] w4):=HO.out.sx;by_cases h256:(a:Int)≥256
    ·have HFN:Hid (apF D U k T nT 1 a b=apNo):=HAN.out;have HRB:Hid (w4.heap[w.heap.size+2]?=some (.cells #[.bool false,.slice none 0 0,.slice none 0 0,.int .i64 0,.slice none 0 0] 56 (0,0))):=HX4.out.rb;have HF:Hid (WPV w.heap.size (w4.setRow (w.heap.size+2) #[.bool false,.slice none 0 0,.slice none 0 0,.int .i64 0,.slice none 0 0]) (.agg #[.bool false,.slice none 0 0,.slice none 0 0,.int .i64 0,.slice none 0 0]) (apF D U k T nT 1 a b)∧Below w.heap.size w (w4.setRow (w.heap.size+2) #[.bool false,.slice none 0 0,.slice none 0 0,.int .i64 0,.slice none 0 0])):=⟨by rw[HFN.out];exact WPV.no _ _,HX4.out.below.trans ((Wr.setRow _ _ _).below (by omega))⟩
     go_upto_region 8 with fail
     go_wp2_with (first
      |(refine wpList_store_row rfl 56 (.tmp 4) (.tmp 34) rfl (w.heap.size+2) #[.bool false,.slice none 0 0,.slice none 0 0,.int .i64 0,.slice none 0 0] rfl rfl 56 _ HRB.out HRZ.out rfl (by simp[Value.oneCell']) ?_)
      |fail)
     exact bodyPost_ret (v:=.agg #[.bool false,.slice none 0 0,.slice none 0 0,.int .i64 0,.slice none 0 0]) (results_cell_row rfl _ _ (w.heap.size+2) 56 _ (0,0) _ rfl (setRow_heap _ _ _ _ _ _ HRB.out) Tryz.underlying56 rfl HRZ.out) rfl ⟨_,rfl,HF.out.1,HF.out.2⟩
    have HH:Hid (¬ (¬ (a:Int)∈U∧¬ (a:Int)∈D)):=fun h=>hc ⟨by omega,h⟩
    clear hc;by_cases hu:(a:Int)∈U
    ·have HMU:Hid (memB (a:Int) U=true):=memB_yes hu;go_wp2_with fail;refine(holds_any _ _ _ U _ _ HLN.out.2.1 mU HAD.out.2.1).mono ?_;rintro e w5 ⟨rfl,rfl⟩;rw[HMU.out];have HFN:Hid (apF D U k T nT 1 a b=apNo):=HAN.out;have HRB:Hid (w5.heap[w.heap.size+2]?=some (.cells #[.bool false,.slice none 0 0,.slice none 0 0,.int .i64 0,.slice none 0 0] 56 (0,0))):=HX4.out.rb;have HF:Hid (WPV w.heap.size (w5.setRow (w.heap.size+2) #[.bool false,.slice none 0 0,.slice none 0 0,.int .i64 0,.slice none 0 0]) (.agg #[.bool false,.slice none 0 0,.slice none 0 0,.int .i64 0,.slice none 0 0]) (apF D U k T nT 1 a b)∧Below w.heap.size w (w5.setRow (w.heap.size+2) #[.bool false,.slice none 0 0,.slice none 0 0,.int .i64 0,.slice none 0 0])):=⟨by rw[HFN.out];exact WPV.no _ _,HX4.out.below.trans ((Wr.setRow _ _ _).below (by omega))⟩
     go_upto_region 8 with fail
     go_wp2_with (first
      |(refine wpList_store_row rfl 56 (.tmp 4) (.tmp 34) rfl (w.heap.size+2) #[.bool false,.slice none 0 0,.slice none 0 0,.int .i64 0,.slice none 0 0] rfl rfl 56 _ HRB.out HRZ.out rfl (by simp[Value.oneCell']) ?_)
      |fail)
     exact bodyPost_ret (v:=.agg #[.bool false,.slice none 0 0,.slice none 0 0,.int .i64 0,.slice none 0 0]) (results_cell_row rfl _ _ (w.heap.size+2) 56 _ (0,0) _ rfl (setRow_heap _ _ _ _ _ _ HRB.out) Tryz.underlying56 rfl HRZ.out) rfl ⟨_,rfl,HF.out.1,HF.out.2⟩
    ·have hd:(a:Int)∈D:=Classical.byContradiction fun h=>HH.out ⟨hu,h⟩
     have HMU:Hid (memB (a:Int) U=false):=memB_no hu;have HMD:Hid (memB (a:Int) D=true):=memB_yes hd;go_wp2_with fail;refine(holds_any _ _ _ U _ _ HLN.out.2.1 mU HAD.out.2.1).mono ?_;rintro e w5 ⟨rfl,rfl⟩;rw[HMU.out];go_wp2_with fail;refine(holds_any _ _ _ D _ _ HLN.out.1 mD HAD.out.1).mono ?_;rintro e w5 ⟨rfl,rfl⟩;rw[HMD.out];have HFN:Hid (apF D U k T nT 1 a b=apNo):=HAN.out;have HRB:Hid (w5.heap[w.heap.size+2]?=some (.cells #[.bool false,.slice none 0 0,.slice none 0 0,.int .i64 0,.slice none 0 0] 56 (0,0))):=HX4.out.rb;have HF:Hid (WPV w.heap.size (w5.setRow (w.heap.size+2) #[.bool false,.slice none 0 0,.slice none 0 0,.int .i64 0,.slice none 0 0]) (.agg #[.bool false,.slice none 0 0,.slice none 0 0,.int .i64 0,.slice none 0 0]) (apF D U k T nT 1 a b)∧Below w.heap.size w (w5.setRow (w.heap.size+2) #[.bool false,.slice none 0 0,.slice none 0 0,.int .i64 0,.slice none 0 0])):=⟨by rw[HFN.out];exact WPV.no _ _,HX4.out.below.trans ((Wr.setRow _ _ _).below (by omega))⟩
     go_upto_region 8 with fail
     go_wp2_with (first
      |(refine wpList_store_row rfl 56 (.tmp 4) (.tmp 34) rfl (w.heap.size+2) #[.bool false,.slice none 0 0,.slice none 0 0,.int .i64 0,.slice none 0 0] rfl rfl 56 _ HRB.out HRZ.out rfl (by simp[Value.oneCell']) ?_)
      |fail)
     exact bodyPost_ret (v:=.agg #[.bool false,.slice none 0 0,.slice none 0 0,.int .i64 0,.slice none 0 0]) (results_cell_row rfl _ _ (w.heap.size+2) 56 _ (0,0) _ rfl (setRow_heap _ _ _ _ _ _ HRB.out) Tryz.underlying56 rfl HRZ.out) rfl ⟨_,rfl,HF.out.1,HF.out.2⟩
  by_cases k2:kind=2
  ·subst k2;clear k1;by_cases hc:b=1∧a<256∧¬ (a:Int)∈D∧¬ D.length=16
   ·have HR:Hid (apF D U k T nT 2 a b=⟨true,withS D a,U,k,T,nT⟩):=by show _=_;rw[HAR.out,hc.1,apR_add hc.2]
    obtain⟨hb1,h256',hd,h16⟩:=hc;subst hb1;have h256:(a:Int)<256:=by omega
    have h16':(nD:Int)<16:=by rw[HLN.out.1] at h16;omega
    have HMD:Hid (memB (a:Int) D=false):=memB_no hd;clear hd h16;go_wp2_with fail;refine(holds_any _ _ _ D _ _ HLN.out.1 mD HAD.out.1).mono ?_;rintro e w5 ⟨rfl,rfl⟩;rw[HMD.out];go_wp2_with fail;refine(with_any _ _ _ D a _ HLN.out.1 mD HAD.out.1).mono ?_;rintro e w6 ⟨v6,rfl,hv6,hb6⟩;obtain⟨aD2,nD2,cD2,rfl⟩:=hv6.form;have HO6:Hid (OX w #[.slice aD nD cD,.slice aU nU cU,.int .i64 k,.slice aT nT cT] #[.int .u32 seq,.int .i64 2,.int .u32 a,.int .u32 1] O #[.slice aD' nD' cD',.slice aU' nU' cU',.int .i64 k,.slice aT' nT cT'] w6):=HO.out.call hb6;have HKU6:Hid (LK (w.heap.size+3) O w6 aU' U):=HKU.out.below hb6;have HKT6:Hid (LK (w.heap.size+3) O w6 aT' T):=HKT.out.below hb6;have HKD6:Hid (LK (w.heap.size+3) O w6 aD2 (withS D a)):=hv6.lk (by have:=HON.out;omega) (.inl HON.out.2);have HNU6:Hid ((withS D a).length=nD2):=hv6.sat.2.1;have v1:w6.cell? ⟨O,0,none⟩=some (.slice aD' nD' cD'):=by rw[cell_of_row w6 _ 0 _ _ _ HO6.out.out];rfl
    have g1:=frozen_of_row w6 O 0 _ _ HO6.out.out;have hw7:Wr O w6 (w6.setCell ⟨O,0,none⟩ (.slice aD2 nD2 cD2)):=(Wr.refl _ _).setCell _ _;have HO7:Hid (OX w #[.slice aD nD cD,.slice aU nU cU,.int .i64 k,.slice aT nT cT] #[.int .u32 seq,.int .i64 2,.int .u32 a,.int .u32 1] O #[.slice aD2 nD2 cD2,.slice aU' nU' cU',.int .i64 k,.slice aT' nT cT'] (w6.setCell ⟨O,0,none⟩ (.slice aD2 nD2 cD2))):=HO6.out.put 0 _;have HK7:Hid (LK (w.heap.size+3) O (w6.setCell ⟨O,0,none⟩ (.slice aD2 nD2 cD2)) aD2 (withS D a)∧LK (w.heap.size+3) O (w6.setCell ⟨O,0,none⟩ (.slice aD2 nD2 cD2)) aU' U∧LK (w.heap.size+3) O (w6.setCell ⟨O,0,none⟩ (.slice aD2 nD2 cD2)) aT' T):=⟨HKD6.out.wr hw7,HKU6.out.wr hw7,HKT6.out.wr hw7⟩
    clear hv6 hb6 s0 s1 s2 s3 f1 f2 f3 HKD HKU HKT HTO HAD hw7 HO6 HKU6 HKT6 HKD6;have HRB:Hid ((w6.setCell ⟨O,0,none⟩ (.slice aD2 nD2 cD2)).heap[w.heap.size+2]?=some (.cells #[.bool false,.slice none 0 0,.slice none 0 0,.int .i64 0,.slice none 0 0] 56 (0,0))):=HO7.out.sx.rb;have HOB:Hid ((w6.setCell ⟨O,0,none⟩ (.slice aD2 nD2 cD2)).heap[O]?=some (.cells #[.slice aD2 nD2 cD2,.slice aU' nU' cU',.int .i64 k,.slice aT' nT cT'] 34 (0,0))):=HO7.out.out;have HF:Hid (WPV w.heap.size ((w6.setCell ⟨O,0,none⟩ (.slice aD2 nD2 cD2)).setRow (w.heap.size+2) #[.bool true,.slice aD2 nD2 cD2,.slice aU' nU' cU',.int .i64 k,.slice aT' nT cT']) (.agg #[.bool true,.slice aD2 nD2 cD2,.slice aU' nU' cU',.int .i64 k,.slice aT' nT cT']) (apF D U k T nT 2 a 1)∧Below w.heap.size w ((w6.setCell ⟨O,0,none⟩ (.slice aD2 nD2 cD2)).setRow (w.heap.size+2) #[.bool true,.slice aD2 nD2 cD2,.slice aU' nU' cU',.int .i64 k,.slice aT' nT cT'])):=by
     have hw:Wr (w.heap.size+2) (w6.setCell ⟨O,0,none⟩ (.slice aD2 nD2 cD2)) ((w6.setCell ⟨O,0,none⟩ (.slice aD2 nD2 cD2)).setRow (w.heap.size+2) #[.bool true,.slice aD2 nD2 cD2,.slice aU' nU' cU',.int .i64 k,.slice aT' nT cT']):=Wr.setRow _ _ _;refine⟨?_,HO7.out.sx.below.trans (hw.below (by omega))⟩;rw[HR.out];exact⟨_,_,_,_,_,_,_,_,_,rfl,HK7.out.1.1.wrR hw HK7.out.1.2,HK7.out.2.1.1.wrR hw HK7.out.2.1.2,HK7.out.2.2.1.wrR hw HK7.out.2.2.2,HNU6.out,HND.out.2.1,HND.out.2.2,fun ad e=>⟨by have:=(HK7.out.1.2 ad e).1;omega,by rw[hw.size];exact(HK7.out.1.2 ad e).2.2⟩,fun ad e=>⟨by have:=(HK7.out.2.1.2 ad e).1;omega,by rw[hw.size];exact(HK7.out.2.1.2 ad e).2.2⟩,fun ad e=>⟨by have:=(HK7.out.2.2.2 ad e).1;omega,by rw[hw.size];exact(HK7.out.2.2.2 ad e).2.2⟩,HCC.out.1,HCC.out.2⟩
    go_upto_region 15 with fail
    generalize (w6.setCell ⟨O,0,none⟩ (.slice aD2 nD2 cD2))=wz at *;go_wp2_with (first
     |(refine wpList_load_row rfl 34 (.tmp 5) rfl O rfl 34 _ (0,0) _ HOB.out Tryz.underlying34 rfl HSZ.out ?_)
     |(refine wpList_store_row rfl 56 (.tmp 4) (.tmp 80) rfl (w.heap.size+2) #[.bool true,.slice aD2 nD2 cD2,.slice aU' nU' cU',.int .i64 k,.slice aT' nT cT'] rfl rfl 56 _ HRB.out HRZ.out rfl (by simp[Value.oneCell']) ?_)
     |fail)
    exact bodyPost_ret (v:=.agg #[.bool true,.slice aD2 nD2 cD2,.slice aU' nU' cU',.int .i64 k,.slice aT' nT cT']) (results_cell_row rfl _ _ (w.heap.size+2) 56 _ (0,0) _ rfl (setRow_heap _ _ _ _ _ _ HRB.out) Tryz.underlying56 rfl HRZ.out) rfl ⟨_,rfl,HF.out.1,HF.out.2⟩
   by_cases hc0:b=0∧a<256∧(a:Int)∈D
   ·have HR:Hid (apF D U k T nT 2 a b=⟨true,lessS D a,U,k,T,nT⟩):=by show _=_;rw[HAR.out,hc0.1,apR_rem hc0.2]
    obtain⟨hb1,h256',hd⟩:=hc0;subst hb1;have HMD:Hid (memB (a:Int) D=true):=memB_yes hd;clear hd hc;go_wp2_with fail;refine(holds_any _ _ _ D _ _ HLN.out.1 mD HAD.out.1).mono ?_;rintro e w5 ⟨rfl,rfl⟩;rw[HMD.out];go_wp2_with fail;refine(less_any _ _ _ D a _ HLN.out.1 mD HAD.out.1).mono ?_;rintro e w6 ⟨v6,rfl,hv6,hb6⟩;obtain⟨aD2,nD2,cD2,rfl⟩:=hv6.form;have HO6:Hid (OX w #[.slice aD nD cD,.slice aU nU cU,.int .i64 k,.slice aT nT cT] #[.int .u32 seq,.int .i64 2,.int .u32 a,.int .u32 0] O #[.slice aD' nD' cD',.slice aU' nU' cU',.int .i64 k,.slice aT' nT cT'] w6):=HO.out.call hb6;have HKU6:Hid (LK (w.heap.size+3) O w6 aU' U):=HKU.out.below hb6;have HKT6:Hid (LK (w.heap.size+3) O w6 aT' T):=HKT.out.below hb6;have HKD6:Hid (LK (w.heap.size+3) O w6 aD2 (lessS D a)):=hv6.lk (by have:=HON.out;omega) (.inl HON.out.2);have HNU6:Hid ((lessS D a).length=nD2):=hv6.sat.2.1;have v1:w6.cell? ⟨O,0,none⟩=some (.slice aD' nD' cD'):=by rw[cell_of_row w6 _ 0 _ _ _ HO6.out.out];rfl
    have g1:=frozen_of_row w6 O 0 _ _ HO6.out.out;have hw7:Wr O w6 (w6.setCell ⟨O,0,none⟩ (.slice aD2 nD2 cD2)):=(Wr.refl _ _).setCell _ _;have HO7:Hid (OX w #[.slice aD nD cD,.slice aU nU cU,.int .i64 k,.slice aT nT cT] #[.int .u32 seq,.int .i64 2,.int .u32 a,.int .u32 0] O #[.slice aD2 nD2 cD2,.slice aU' nU' cU',.int .i64 k,.slice aT' nT cT'] (w6.setCell ⟨O,0,none⟩ (.slice aD2 nD2 cD2))):=HO6.out.put 0 _;have HK7:Hid (LK (w.heap.size+3) O (w6.setCell ⟨O,0,none⟩ (.slice aD2 nD2 cD2)) aD2 (lessS D a)∧LK (w.heap.size+3) O (w6.setCell ⟨O,0,none⟩ (.slice aD2 nD2 cD2)) aU' U∧LK (w.heap.size+3) O (w6.setCell ⟨O,0,none⟩ (.slice aD2 nD2 cD2)) aT' T):=⟨HKD6.out.wr hw7,HKU6.out.wr hw7,HKT6.out.wr hw7⟩
    clear hv6 hb6 s0 s1 s2 s3 f1 f2 f3 HKD HKU HKT HTO HAD hw7 HO6 HKU6 HKT6 HKD6;have HRB:Hid ((w6.setCell ⟨O,0,none⟩ (.slice aD2 nD2 cD2)).heap[w.heap.size+2]?=some (.cells #[.bool false,.slice none 0 0,.slice none 0 0,.int .i64 0,.slice none 0 0] 56 (0,0))):=HO7.out.sx.rb;have HOB:Hid ((w6.setCell ⟨O,0,none⟩ (.slice aD2 nD2 cD2)).heap[O]?=some (.cells #[.slice aD2 nD2 cD2,.slice aU' nU' cU',.int .i64 k,.slice aT' nT cT'] 34 (0,0))):=HO7.out.out;have HF:Hid (WPV w.heap.size ((w6.setCell ⟨O,0,none⟩ (.slice aD2 nD2 cD2)).setRow (w.heap.size+2) #[.bool true,.slice aD2 nD2 cD2,.slice aU' nU' cU',.int .i64 k,.slice aT' nT cT']) (.agg #[.bool true,.slice aD2 nD2 cD2,.slice aU' nU' cU',.int .i64 k,.slice aT' nT cT']) (apF D U k T nT 2 a 0)∧Below w.heap.size w ((w6.setCell ⟨O,0,none⟩ (.slice aD2 nD2 cD2)).setRow (w.heap.size+2) #[.bool true,.slice aD2 nD2 cD2,.slice aU' nU' cU',.int .i64 k,.slice aT' nT cT'])):=by
     have hw:Wr (w.heap.size+2) (w6.setCell ⟨O,0,none⟩ (.slice aD2 nD2 cD2)) ((w6.setCell ⟨O,0,none⟩ (.slice aD2 nD2 cD2)).setRow (w.heap.size+2) #[.bool true,.slice aD2 nD2 cD2,.slice aU' nU' cU',.int .i64 k,.slice aT' nT cT']):=Wr.setRow _ _ _;refine⟨?_,HO7.out.sx.below.trans (hw.below (by omega))⟩;rw[HR.out];exact⟨_,_,_,_,_,_,_,_,_,rfl,HK7.out.1.1.wrR hw HK7.out.1.2,HK7.out.2.1.1.wrR hw HK7.out.2.1.2,HK7.out.2.2.1.wrR hw HK7.out.2.2.2,HNU6.out,HND.out.2.1,HND.out.2.2,fun ad e=>⟨by have:=(HK7.out.1.2 ad e).1;omega,by rw[hw.size];exact(HK7.out.1.2 ad e).2.2⟩,fun ad e=>⟨by have:=(HK7.out.2.1.2 ad e).1;omega,by rw[hw.size];exact(HK7.out.2.1.2 ad e).2.2⟩,fun ad e=>⟨by have:=(HK7.out.2.2.2 ad e).1;omega,by rw[hw.size];exact(HK7.out.2.2.2 ad e).2.2⟩,HCC.out.1,HCC.out.2⟩
    go_upto_region 18 with fail
    generalize (w6.setCell ⟨O,0,none⟩ (.slice aD2 nD2 cD2))=wz at *;go_wp2_with (first
     |(refine wpList_load_row rfl 34 (.tmp 5) rfl O rfl 34 _ (0,0) _ HOB.out Tryz.underlying34 rfl HSZ.out ?_)
     |(refine wpList_store_row rfl 56 (.tmp 4) (.tmp 96) rfl (w.heap.size+2) #[.bool true,.slice aD2 nD2 cD2,.slice aU' nU' cU',.int .i64 k,.slice aT' nT cT'] rfl rfl 56 _ HRB.out HRZ.out rfl (by simp[Value.oneCell']) ?_)
     |fail)
    exact bodyPost_ret (v:=.agg #[.bool true,.slice aD2 nD2 cD2,.slice aU' nU' cU',.int .i64 k,.slice aT' nT cT']) (results_cell_row rfl _ _ (w.heap.size+2) 56 _ (0,0) _ rfl (setRow_heap _ _ _ _ _ _ HRB.out) Tryz.underlying56 rfl HRZ.out) rfl ⟨_,rfl,HF.out.1,HF.out.2⟩
   ·have HAN:Hid (apF D U k T nT 2 a b=apNo):=by show _=_;rw[HAR.out,apR_denyNo hc hc0]
    have HX4:Hid (SX w #[.slice aD nD cD,.slice aU nU cU,.int .i64 k,.slice aT nT cT] #[.int .u32 seq,.int .i64 2,.int .u32 a,.int .u32 b] w4):=HO.out.sx;by_cases hb1:b=1
    ·subst hb1;by_cases h256':a<256
     ·have h256:(a:Int)<256:=by omega
      by_cases hd:(a:Int)∈D
      ·have HMD:Hid (memB (a:Int) D=true):=memB_yes hd;clear hd hc hc0;go_wp2_with fail;refine(holds_any _ _ _ D _ _ HLN.out.1 mD HAD.out.1).mono ?_;rintro e w5 ⟨rfl,rfl⟩;rw[HMD.out];have HFN:Hid (apF D U k T nT 2 a 1=apNo):=HAN.out;have HRB:Hid (w5.heap[w.heap.size+2]?=some (.cells #[.bool false,.slice none 0 0,.slice none 0 0,.int .i64 0,.slice none 0 0] 56 (0,0))):=HX4.out.rb;have HF:Hid (WPV w.heap.size (w5.setRow (w.heap.size+2) #[.bool false,.slice none 0 0,.slice none 0 0,.int .i64 0,.slice none 0 0]) (.agg #[.bool false,.slice none 0 0,.slice none 0 0,.int .i64 0,.slice none 0 0]) (apF D U k T nT 2 a 1)∧Below w.heap.size w (w5.setRow (w.heap.size+2) #[.bool false,.slice none 0 0,.slice none 0 0,.int .i64 0,.slice none 0 0])):=⟨by rw[HFN.out];exact WPV.no _ _,HX4.out.below.trans ((Wr.setRow _ _ _).below (by omega))⟩
       go_upto_region 25 with fail
       go_wp2_with (first
        |(refine wpList_store_row rfl 56 (.tmp 4) (.tmp 130) rfl (w.heap.size+2) #[.bool false,.slice none 0 0,.slice none 0 0,.int .i64 0,.slice none 0 0] rfl rfl 56 _ HRB.out HRZ.out rfl (by simp[Value.oneCell']) ?_)
        |fail)
       exact bodyPost_ret (v:=.agg #[.bool false,.slice none 0 0,.slice none 0 0,.int .i64 0,.slice none 0 0]) (results_cell_row rfl _ _ (w.heap.size+2) 56 _ (0,0) _ rfl (setRow_heap _ _ _ _ _ _ HRB.out) Tryz.underlying56 rfl HRZ.out) rfl ⟨_,rfl,HF.out.1,HF.out.2⟩
      ·have h16':¬ ((nD:Int)<16):=fun h=>hc ⟨rfl,h256',hd,by rw[HLN.out.1];omega⟩
       have HMD:Hid (memB (a:Int) D=false):=memB_no hd;clear hd hc hc0;go_wp2_with fail;refine(holds_any _ _ _ D _ _ HLN.out.1 mD HAD.out.1).mono ?_;rintro e w5 ⟨rfl,rfl⟩;rw[HMD.out];have HFN:Hid (apF D U k T nT 2 a 1=apNo):=HAN.out;have HRB:Hid (w5.heap[w.heap.size+2]?=some (.cells #[.bool false,.slice none 0 0,.slice none 0 0,.int .i64 0,.slice none 0 0] 56 (0,0))):=HX4.out.rb;have HF:Hid (WPV w.heap.size (w5.setRow (w.heap.size+2) #[.bool false,.slice none 0 0,.slice none 0 0,.int .i64 0,.slice none 0 0]) (.agg #[.bool false,.slice none 0 0,.slice none 0 0,.int .i64 0,.slice none 0 0]) (apF D U k T nT 2 a 1)∧Below w.heap.size w (w5.setRow (w.heap.size+2) #[.bool false,.slice none 0 0,.slice none 0 0,.int .i64 0,.slice none 0 0])):=⟨by rw[HFN.out];exact WPV.no _ _,HX4.out.below.trans ((Wr.setRow _ _ _).below (by omega))⟩
       go_upto_region 25 with fail
       go_wp2_with (first
        |(refine wpList_store_row rfl 56 (.tmp 4) (.tmp 130) rfl (w.heap.size+2) #[.bool false,.slice none 0 0,.slice none 0 0,.int .i64 0,.slice none 0 0] rfl rfl 56 _ HRB.out HRZ.out rfl (by simp[Value.oneCell']) ?_)
        |fail)
       exact bodyPost_ret (v:=.agg #[.bool false,.slice none 0 0,.slice none 0 0,.int .i64 0,.slice none 0 0]) (results_cell_row rfl _ _ (w.heap.size+2) 56 _ (0,0) _ rfl (setRow_heap _ _ _ _ _ _ HRB.out) Tryz.underlying56 rfl HRZ.out) rfl ⟨_,rfl,HF.out.1,HF.out.2⟩
     ·have h256:¬ ((a:Int)<256):=by omega
      clear hc hc0;have HFN:Hid (apF D U k T nT 2 a 1=apNo):=HAN.out;have HRB:Hid (w4.heap[w.heap.size+2]?=some (.cells #[.bool false,.slice none 0 0,.slice none 0 0,.int .i64 0,.slice none 0 0] 56 (0,0))):=HX4.out.rb;have HF:Hid (WPV w.heap.size (w4.setRow (w.heap.size+2) #[.bool false,.slice none 0 0,.slice none 0 0,.int .i64 0,.slice none 0 0]) (.agg #[.bool false,.slice none 0 0,.slice none 0 0,.int .i64 0,.slice none 0 0]) (apF D U k T nT 2 a 1)∧Below w.heap.size w (w4.setRow (w.heap.size+2) #[.bool false,.slice none 0 0,.slice none 0 0,.int .i64 0,.slice none 0 0])):=⟨by rw[HFN.out];exact WPV.no _ _,HX4.out.below.trans ((Wr.setRow _ _ _).below (by omega))⟩
      go_upto_region 25 with fail
      go_wp2_with (first
       |(refine wpList_store_row rfl 56 (.tmp 4) (.tmp 130) rfl (w.heap.size+2) #[.bool false,.slice none 0 0,.slice none 0 0,.int .i64 0,.slice none 0 0] rfl rfl 56 _ HRB.out HRZ.out rfl (by simp[Value.oneCell']) ?_)
       |fail)
      exact bodyPost_ret (v:=.agg #[.bool false,.slice none 0 0,.slice none 0 0,.int .i64 0,.slice none 0 0]) (results_cell_row rfl _ _ (w.heap.size+2) 56 _ (0,0) _ rfl (setRow_heap _ _ _ _ _ _ HRB.out) Tryz.underlying56 rfl HRZ.out) rfl ⟨_,rfl,HF.out.1,HF.out.2⟩
    ·by_cases hb0:b=0
     ·subst hb0;have hd:¬ (a:Int)∈D:=fun h=>hc0 ⟨rfl,by have:=HSD.out _ h;omega,h⟩
      have HMD:Hid (memB (a:Int) D=false):=memB_no hd;clear hd hc hc0 hb1;go_wp2_with fail;refine(holds_any _ _ _ D _ _ HLN.out.1 mD HAD.out.1).mono ?_;rintro e w5 ⟨rfl,rfl⟩;rw[HMD.out];have HFN:Hid (apF D U k T nT 2 a 0=apNo):=HAN.out;have HRB:Hid (w5.heap[w.heap.size+2]?=some (.cells #[.bool false,.slice none 0 0,.slice none 0 0,.int .i64 0,.slice none 0 0] 56 (0,0))):=HX4.out.rb;have HF:Hid (WPV w.heap.size (w5.setRow (w.heap.size+2) #[.bool false,.slice none 0 0,.slice none 0 0,.int .i64 0,.slice none 0 0]) (.agg #[.bool false,.slice none 0 0,.slice none 0 0,.int .i64 0,.slice none 0 0]) (apF D U k T nT 2 a 0)∧Below w.heap.size w (w5.setRow (w.heap.size+2) #[.bool false,.slice none 0 0,.slice none 0 0,.int .i64 0,.slice none 0 0])):=⟨by rw[HFN.out];exact WPV.no _ _,HX4.out.below.trans ((Wr.setRow _ _ _).below (by omega))⟩
      go_upto_region 25 with fail
      go_wp2_with (first
       |(refine wpList_store_row rfl 56 (.tmp 4) (.tmp 130) rfl (w.heap.size+2) #[.bool false,.slice none 0 0,.slice none 0 0,.int .i64 0,.slice none 0 0] rfl rfl 56 _ HRB.out HRZ.out rfl (by simp[Value.oneCell']) ?_)
       |fail)
      exact bodyPost_ret (v:=.agg #[.bool false,.slice none 0 0,.slice none 0 0,.int .i64 0,.slice none 0 0]) (results_cell_row rfl _ _ (w.heap.size+2) 56 _ (0,0) _ rfl (setRow_heap _ _ _ _ _ _ HRB.out) Tryz.underlying56 rfl HRZ.out) rfl ⟨_,rfl,HF.out.1,HF.out.2⟩
     ·have hb1':¬ ((b:Int)=1):=by omega
      have hb0':¬ ((b:Int)=0):=by omega
      clear hc hc0;have HFN:Hid (apF D U k T nT 2 a b=apNo):=HAN.out;have HRB:Hid (w4.heap[w.heap.size+2]?=some (.cells #[.bool false,.slice none 0 0,.slice none 0 0,.int .i64 0,.slice none 0 0] 56 (0,0))):=HX4.out.rb;have HF:Hid (WPV w.heap.size (w4.setRow (w.heap.size+2) #[.bool false,.slice none 0 0,.slice none 0 0,.int .i64 0,.slice none 0 0]) (.agg #[.bool false,.slice none 0 0,.slice none 0 0,.int .i64 0,.slice none 0 0]) (apF D U k T nT 2 a b)∧Below w.heap.size w (w4.setRow (w.heap.size+2) #[.bool false,.slice none 0 0,.slice none 0 0,.int .i64 0,.slice none 0 0])):=⟨by rw[HFN.out];exact WPV.no _ _,HX4.out.below.trans ((Wr.setRow _ _ _).below (by omega))⟩
      go_upto_region 25 with fail
      go_wp2_with (first
       |(refine wpList_store_row rfl 56 (.tmp 4) (.tmp 130) rfl (w.heap.size+2) #[.bool false,.slice none 0 0,.slice none 0 0,.int .i64 0,.slice none 0 0] rfl rfl 56 _ HRB.out HRZ.out rfl (by simp[Value.oneCell']) ?_)
       |fail)
      exact bodyPost_ret (v:=.agg #[.bool false,.slice none 0 0,.slice none 0 0,.int .i64 0,.slice none 0 0]) (results_cell_row rfl _ _ (w.heap.size+2) 56 _ (0,0) _ rfl (setRow_heap _ _ _ _ _ _ HRB.out) Tryz.underlying56 rfl HRZ.out) rfl ⟨_,rfl,HF.out.1,HF.out.2⟩
  by_cases k3:kind=3
  ·subst k3;clear k1 k2;by_cases hc:b=0∧(a:Int)≤k+nT
   ·have HR:Hid (apF D U k T nT 3 a b=⟨true,D,U,max a k,T.drop (ackM k a*2),nT-ackM k a⟩):=by show _=_;rw[HAR.out,hc.1,apR_ack hc.2]
    obtain⟨hb0,hle⟩:=hc;subst hb0;by_cases hgt:k<(a:Int)
    ·obtain⟨m,hm⟩:∃ m:Nat,(a:Int)=k+m:=⟨(a-k).toNat,by omega⟩
     have hmn:m≤nT:=by omega
     have e:ackM k a=m:=by unfold ackM;omega
     have HR2:Hid (apF D U k T nT 3 a 0=⟨true,D,U,(a:Int),T.drop (m*2),nT-m⟩):=by
      show _=_
      rw[HR.out,e,show max (a:Int) k=a by omega]
     have hsub:(a:Int)-k=m:=by omega
     obtain⟨t0,o0,eT,ht0,hct0⟩:=HAD.out.2.2.get (by rw[HND.out.2.2];omega);subst eT;have HCT:Hid (t0<w4.heap.size∧∀ i,i<T.length→w4.cell? ⟨t0,o0+i,none⟩=some (.int .i64 (T.getD i 0))):=⟨ht0,hct0⟩
     have HEM:Hid (EmS (w.heap.size+3) 111 (w4.alloc (.cells #[] 111)) (.slice (some ⟨w4.heap.size,0,none⟩) 0 0)):=EmS.new _ w4 (by have:=HON.out;omega);have HLD:Hid ((T.drop (m*2)).length=(nT-m)*2):=by show _=_;rw[List.length_drop,HND.out.2.2];omega
     have HMN:Hid (nT-m≤1048576):=by show _≤_;omega
     have HS5:Hid (w.heap.size+3≤(w4.alloc (.cells #[] 111)).heap.size):=by show _≤_;have:=HON.out;simp;omega
     have z3:(w4.alloc (.cells #[] 111)).cell? ⟨w.heap.size,3,none⟩=some (.slice (some ⟨t0,o0,none⟩) nT cT):=by rw[World.cell?_alloc_old _ _ _ (by show w.heap.size≠w4.heap.size;have:=HON.out;omega)];exact s3
     have z2:(w4.alloc (.cells #[] 111)).cell? ⟨w.heap.size,2,none⟩=some (.int .i64 k):=by rw[World.cell?_alloc_old _ _ _ (by show w.heap.size≠w4.heap.size;have:=HON.out;omega)];exact s2
     clear hct0 ht0 e hm HR;by_cases hcm2:cT=m
     ·have hnm:nT=m:=by omega
      have HZ:Hid (T.drop (m*2)=[]):=by show _=_;exact List.eq_nil_of_length_eq_zero (by rw[HLD.out];omega)
      subst hcm2;have hb6:Below w4.heap.size w4 (w4.alloc (.cells #[] 111)):=(Below.refl _ _).alloc (Nat.le_refl _) _;have HO6:Hid (OX w #[.slice aD nD cD,.slice aU nU cU,.int .i64 k,.slice (some ⟨t0,o0,none⟩) nT cT] #[.int .u32 seq,.int .i64 3,.int .u32 a,.int .u32 0] O #[.slice aD' nD' cD',.slice aU' nU' cU',.int .i64 k,.slice aT' nT cT'] (w4.alloc (.cells #[] 111))):=HO.out.call hb6;have HK6:Hid (LK (w.heap.size+3) O (w4.alloc (.cells #[] 111)) aD' D∧LK (w.heap.size+3) O (w4.alloc (.cells #[] 111)) aU' U):=⟨HKD.out.below hb6,HKU.out.below hb6⟩
      have HKT6:Hid (LK (w.heap.size+3) O (w4.alloc (.cells #[] 111)) (some ⟨w4.heap.size,0,none⟩) (T.drop (cT*2))):=⟨.inl HZ.out,fun ad e=>by cases e;have:=HON.out;simp;omega⟩
      have HNT:Hid ((T.drop (cT*2)).length=0*2):=by show _=_;rw[HZ.out];rfl
      have v3:(w4.alloc (.cells #[] 111)).cell? ⟨O,3,none⟩=some (.slice aT' nT cT'):=by rw[cell_of_row _ _ 3 _ _ _ HO6.out.out];rfl
      have v2:(w4.alloc (.cells #[] 111)).cell? ⟨O,2,none⟩=some (.int .i64 k):=by rw[cell_of_row _ _ 2 _ _ _ HO6.out.out];rfl
      have g3:=frozen_of_row (w4.alloc (.cells #[] 111)) O 3 _ _ HO6.out.out;have g2:=frozen_of_row (w4.alloc (.cells #[] 111)) O 2 _ _ HO6.out.out;have hw7:Wr O (w4.alloc (.cells #[] 111)) (((w4.alloc (.cells #[] 111)).setCell ⟨O,3,none⟩ (.slice (some ⟨w4.heap.size,0,none⟩) 0 0)).setCell ⟨O,2,none⟩ (.int .i64 (a:Int))):=((Wr.refl _ _).setCell _ _).setCell _ _;have HO7:Hid (OX w #[.slice aD nD cD,.slice aU nU cU,.int .i64 k,.slice (some ⟨t0,o0,none⟩) nT cT] #[.int .u32 seq,.int .i64 3,.int .u32 a,.int .u32 0] O #[.slice aD' nD' cD',.slice aU' nU' cU',.int .i64 (a:Int),.slice (some ⟨w4.heap.size,0,none⟩) 0 0] (((w4.alloc (.cells #[] 111)).setCell ⟨O,3,none⟩ (.slice (some ⟨w4.heap.size,0,none⟩) 0 0)).setCell ⟨O,2,none⟩ (.int .i64 (a:Int)))):=(HO6.out.put 3 _).put 2 _;have HK7:Hid (LK (w.heap.size+3) O (((w4.alloc (.cells #[] 111)).setCell ⟨O,3,none⟩ (.slice (some ⟨w4.heap.size,0,none⟩) 0 0)).setCell ⟨O,2,none⟩ (.int .i64 (a:Int))) aD' D∧LK (w.heap.size+3) O (((w4.alloc (.cells #[] 111)).setCell ⟨O,3,none⟩ (.slice (some ⟨w4.heap.size,0,none⟩) 0 0)).setCell ⟨O,2,none⟩ (.int .i64 (a:Int))) aU' U∧LK (w.heap.size+3) O (((w4.alloc (.cells #[] 111)).setCell ⟨O,3,none⟩ (.slice (some ⟨w4.heap.size,0,none⟩) 0 0)).setCell ⟨O,2,none⟩ (.int .i64 (a:Int))) (some ⟨w4.heap.size,0,none⟩) (T.drop (cT*2))):=⟨HK6.out.1.wr hw7,HK6.out.2.wr hw7,HKT6.out.wr hw7⟩
      clear hb6 HO6 HK6 HKT6 hw7 HKD HKU HKT HTO HAD HEM HS5 HO;have HRB:Hid ((((w4.alloc (.cells #[] 111)).setCell ⟨O,3,none⟩ (.slice (some ⟨w4.heap.size,0,none⟩) 0 0)).setCell ⟨O,2,none⟩ (.int .i64 (a:Int))).heap[w.heap.size+2]?=some (.cells #[.bool false,.slice none 0 0,.slice none 0 0,.int .i64 0,.slice none 0 0] 56 (0,0))):=HO7.out.sx.rb;have HOB:Hid ((((w4.alloc (.cells #[] 111)).setCell ⟨O,3,none⟩ (.slice (some ⟨w4.heap.size,0,none⟩) 0 0)).setCell ⟨O,2,none⟩ (.int .i64 (a:Int))).heap[O]?=some (.cells #[.slice aD' nD' cD',.slice aU' nU' cU',.int .i64 (a:Int),.slice (some ⟨w4.heap.size,0,none⟩) 0 0] 34 (0,0))):=HO7.out.out;have HF:Hid (WPV w.heap.size ((((w4.alloc (.cells #[] 111)).setCell ⟨O,3,none⟩ (.slice (some ⟨w4.heap.size,0,none⟩) 0 0)).setCell ⟨O,2,none⟩ (.int .i64 (a:Int))).setRow (w.heap.size+2) #[.bool true,.slice aD' nD' cD',.slice aU' nU' cU',.int .i64 (a:Int),.slice (some ⟨w4.heap.size,0,none⟩) 0 0]) (.agg #[.bool true,.slice aD' nD' cD',.slice aU' nU' cU',.int .i64 (a:Int),.slice (some ⟨w4.heap.size,0,none⟩) 0 0]) (apF D U k T nT 3 a 0)∧Below w.heap.size w ((((w4.alloc (.cells #[] 111)).setCell ⟨O,3,none⟩ (.slice (some ⟨w4.heap.size,0,none⟩) 0 0)).setCell ⟨O,2,none⟩ (.int .i64 (a:Int))).setRow (w.heap.size+2) #[.bool true,.slice aD' nD' cD',.slice aU' nU' cU',.int .i64 (a:Int),.slice (some ⟨w4.heap.size,0,none⟩) 0 0])):=by
       have hw:Wr (w.heap.size+2) (((w4.alloc (.cells #[] 111)).setCell ⟨O,3,none⟩ (.slice (some ⟨w4.heap.size,0,none⟩) 0 0)).setCell ⟨O,2,none⟩ (.int .i64 (a:Int))) ((((w4.alloc (.cells #[] 111)).setCell ⟨O,3,none⟩ (.slice (some ⟨w4.heap.size,0,none⟩) 0 0)).setCell ⟨O,2,none⟩ (.int .i64 (a:Int))).setRow (w.heap.size+2) #[.bool true,.slice aD' nD' cD',.slice aU' nU' cU',.int .i64 (a:Int),.slice (some ⟨w4.heap.size,0,none⟩) 0 0]):=Wr.setRow _ _ _;refine⟨?_,HO7.out.sx.below.trans (hw.below (by omega))⟩;rw[HR2.out];exact⟨_,_,_,_,_,_,_,_,_,rfl,HK7.out.1.1.wrR hw HK7.out.1.2,HK7.out.2.1.1.wrR hw HK7.out.2.1.2,HK7.out.2.2.1.wrR hw HK7.out.2.2.2,HND.out.1,HND.out.2.1,HNT.out,fun ad e=>⟨by have:=(HK7.out.1.2 ad e).1;omega,by rw[hw.size];exact(HK7.out.1.2 ad e).2.2⟩,fun ad e=>⟨by have:=(HK7.out.2.1.2 ad e).1;omega,by rw[hw.size];exact(HK7.out.2.1.2 ad e).2.2⟩,fun ad e=>⟨by have:=(HK7.out.2.2.2 ad e).1;omega,by rw[hw.size];exact(HK7.out.2.2.2 ad e).2.2⟩,by decide,by decide⟩
      go_upto_region 24 with fail
      generalize (((w4.alloc (.cells #[] 111)).setCell ⟨O,3,none⟩ (.slice (some ⟨w4.heap.size,0,none⟩) 0 0)).setCell ⟨O,2,none⟩ (.int .i64 (a:Int)))=wz at *;go_wp2_with (first
       |(refine wpList_load_row rfl 34 (.tmp 5) rfl O rfl 34 _ (0,0) _ HOB.out Tryz.underlying34 rfl HSZ.out ?_)
       |(refine wpList_store_row rfl 56 (.tmp 4) (.tmp 129) rfl (w.heap.size+2) #[.bool true,.slice aD' nD' cD',.slice aU' nU' cU',.int .i64 (a:Int),.slice (some ⟨w4.heap.size,0,none⟩) 0 0] rfl rfl 56 _ HRB.out HRZ.out rfl (by simp[Value.oneCell']) ?_)
       |fail)
      exact bodyPost_ret (v:=.agg #[.bool true,.slice aD' nD' cD',.slice aU' nU' cU',.int .i64 (a:Int),.slice (some ⟨w4.heap.size,0,none⟩) 0 0]) (results_cell_row rfl _ _ (w.heap.size+2) 56 _ (0,0) _ rfl (setRow_heap _ _ _ _ _ _ HRB.out) Tryz.underlying56 rfl HRZ.out) rfl ⟨_,rfl,HF.out.1,HF.out.2⟩
     ·have HDR:Hid (At .i64 w4 (some ⟨t0,o0+m*2,none⟩) (T.drop (m*2))):=.inr ⟨t0,o0+m*2,rfl,HCT.out.1,fun i hi=>by
       rw[List.length_drop] at hi;have:=HCT.out.2 (m*2+i) (by omega);rw[←Nat.add_assoc] at this;rw[this];simp[List.getD]⟩
      have HAT5:Hid (At .i64 (w4.alloc (.cells #[] 111)) (some ⟨t0,o0+m*2,none⟩) (T.drop (m*2))):=At.below (HDR.out) ((Below.refl _ _).alloc (Nat.le_refl _) _);go_wp2_with (first
       |(refine wpList_appG 32 111 (.agg #[.int .i64 0,.int .i64 0]) 2 16 Tryz.infoTap Tryz.underlying32 rfl (by decide) (by decide) _ rfl (.tmp 116) (.tmp 123) rfl (w.heap.size+3) _ rfl HEM.out (some ⟨t0,o0+m*2,none⟩) (nT-m) (cT-m) (T.drop (m*2)) rfl HLD.out HAT5.out HMN.out HS5.out ?_)
       |fail)
      intro v6 w6 h1 h2;have h1':TapO (w.heap.size+3) w6 v6 (T.drop (m*2)) (nT-m):=by unfold TapO;rw[List.map_drop];exact h1
      obtain⟨aT2,cT2,rfl⟩:=h1'.tapV.slice;have HC2:Hid (nT-m≤cT2∧cT2≤9223372036854775807):=h1'.cap;have hb6:Below w4.heap.size w4 w6:=((Below.refl _ _).alloc (Nat.le_refl _) _).trans (h2.mono (by simp));have HO6:Hid (OX w #[.slice aD nD cD,.slice aU nU cU,.int .i64 k,.slice (some ⟨t0,o0,none⟩) nT cT] #[.int .u32 seq,.int .i64 3,.int .u32 a,.int .u32 0] O #[.slice aD' nD' cD',.slice aU' nU' cU',.int .i64 k,.slice aT' nT cT'] w6):=HO.out.call hb6;have HK6:Hid (LK (w.heap.size+3) O w6 aD' D∧LK (w.heap.size+3) O w6 aU' U):=⟨HKD.out.below hb6,HKU.out.below hb6⟩
      have HKT6:Hid (LK (w.heap.size+3) O w6 aT2 (T.drop (m*2))):=by
       obtain⟨q1,q2,q3⟩:=h1'.tapV.sat;refine⟨q1.at_,fun ad e=>⟨(q3 ad e).1,fun eo=>?_,(q3 ad e).2⟩⟩;rcases h1'.2 with⟨e2,_⟩|⟨g',cap',cur',e2,_,hh',_⟩
       ·injection e2 with e5
        rw[e5] at e;cases e
       ·injection e2 with e5
        rw[e5] at e;cases e;have h9:=HO6.out.out;rw[←eo,hh'] at h9;injection h9 with e3
        injection e3 with _ e4 _
        exact absurd e4 (by decide)
      have HNT:Hid ((T.drop (m*2)).length=(nT-m)*2):=HLD.out;have v3:w6.cell? ⟨O,3,none⟩=some (.slice aT' nT cT'):=by rw[cell_of_row w6 _ 3 _ _ _ HO6.out.out];rfl
      have v2:w6.cell? ⟨O,2,none⟩=some (.int .i64 k):=by rw[cell_of_row w6 _ 2 _ _ _ HO6.out.out];rfl
      have g3:=frozen_of_row w6 O 3 _ _ HO6.out.out;have g2:=frozen_of_row w6 O 2 _ _ HO6.out.out;have hw7:Wr O w6 ((w6.setCell ⟨O,3,none⟩ (.slice aT2 (nT-m:Nat) cT2)).setCell ⟨O,2,none⟩ (.int .i64 (a:Int))):=((Wr.refl _ _).setCell _ _).setCell _ _;have HO7:Hid (OX w #[.slice aD nD cD,.slice aU nU cU,.int .i64 k,.slice (some ⟨t0,o0,none⟩) nT cT] #[.int .u32 seq,.int .i64 3,.int .u32 a,.int .u32 0] O #[.slice aD' nD' cD',.slice aU' nU' cU',.int .i64 (a:Int),.slice aT2 (nT-m:Nat) cT2] ((w6.setCell ⟨O,3,none⟩ (.slice aT2 (nT-m:Nat) cT2)).setCell ⟨O,2,none⟩ (.int .i64 (a:Int)))):=(HO6.out.put 3 _).put 2 _;have HK7:Hid (LK (w.heap.size+3) O ((w6.setCell ⟨O,3,none⟩ (.slice aT2 (nT-m:Nat) cT2)).setCell ⟨O,2,none⟩ (.int .i64 (a:Int))) aD' D∧LK (w.heap.size+3) O ((w6.setCell ⟨O,3,none⟩ (.slice aT2 (nT-m:Nat) cT2)).setCell ⟨O,2,none⟩ (.int .i64 (a:Int))) aU' U∧LK (w.heap.size+3) O ((w6.setCell ⟨O,3,none⟩ (.slice aT2 (nT-m:Nat) cT2)).setCell ⟨O,2,none⟩ (.int .i64 (a:Int))) aT2 (T.drop (m*2))):=⟨HK6.out.1.wr hw7,HK6.out.2.wr hw7,HKT6.out.wr hw7⟩
      clear h1 h1' h2 hb6 HO6 HK6 HKT6 hw7 z2 z3 s0 s1 s2 s3 f1 f2 f3 HKD HKU HKT HTO HAD HAT5 HEM HS5 HO;have HRB:Hid (((w6.setCell ⟨O,3,none⟩ (.slice aT2 (nT-m:Nat) cT2)).setCell ⟨O,2,none⟩ (.int .i64 (a:Int))).heap[w.heap.size+2]?=some (.cells #[.bool false,.slice none 0 0,.slice none 0 0,.int .i64 0,.slice none 0 0] 56 (0,0))):=HO7.out.sx.rb;have HOB:Hid (((w6.setCell ⟨O,3,none⟩ (.slice aT2 (nT-m:Nat) cT2)).setCell ⟨O,2,none⟩ (.int .i64 (a:Int))).heap[O]?=some (.cells #[.slice aD' nD' cD',.slice aU' nU' cU',.int .i64 (a:Int),.slice aT2 (nT-m:Nat) cT2] 34 (0,0))):=HO7.out.out;have HF:Hid (WPV w.heap.size (((w6.setCell ⟨O,3,none⟩ (.slice aT2 (nT-m:Nat) cT2)).setCell ⟨O,2,none⟩ (.int .i64 (a:Int))).setRow (w.heap.size+2) #[.bool true,.slice aD' nD' cD',.slice aU' nU' cU',.int .i64 (a:Int),.slice aT2 (nT-m:Nat) cT2]) (.agg #[.bool true,.slice aD' nD' cD',.slice aU' nU' cU',.int .i64 (a:Int),.slice aT2 (nT-m:Nat) cT2]) (apF D U k T nT 3 a 0)∧Below w.heap.size w (((w6.setCell ⟨O,3,none⟩ (.slice aT2 (nT-m:Nat) cT2)).setCell ⟨O,2,none⟩ (.int .i64 (a:Int))).setRow (w.heap.size+2) #[.bool true,.slice aD' nD' cD',.slice aU' nU' cU',.int .i64 (a:Int),.slice aT2 (nT-m:Nat) cT2])):=by
       have hw:Wr (w.heap.size+2) ((w6.setCell ⟨O,3,none⟩ (.slice aT2 (nT-m:Nat) cT2)).setCell ⟨O,2,none⟩ (.int .i64 (a:Int))) (((w6.setCell ⟨O,3,none⟩ (.slice aT2 (nT-m:Nat) cT2)).setCell ⟨O,2,none⟩ (.int .i64 (a:Int))).setRow (w.heap.size+2) #[.bool true,.slice aD' nD' cD',.slice aU' nU' cU',.int .i64 (a:Int),.slice aT2 (nT-m:Nat) cT2]):=Wr.setRow _ _ _;refine⟨?_,HO7.out.sx.below.trans (hw.below (by omega))⟩;rw[HR2.out];exact⟨_,_,_,_,_,_,_,_,_,rfl,HK7.out.1.1.wrR hw HK7.out.1.2,HK7.out.2.1.1.wrR hw HK7.out.2.1.2,HK7.out.2.2.1.wrR hw HK7.out.2.2.2,HND.out.1,HND.out.2.1,HNT.out,fun ad e=>⟨by have:=(HK7.out.1.2 ad e).1;omega,by rw[hw.size];exact(HK7.out.1.2 ad e).2.2⟩,fun ad e=>⟨by have:=(HK7.out.2.1.2 ad e).1;omega,by rw[hw.size];exact(HK7.out.2.1.2 ad e).2.2⟩,fun ad e=>⟨by have:=(HK7.out.2.2.2 ad e).1;omega,by rw[hw.size];exact(HK7.out.2.2.2 ad e).2.2⟩,HC2.out.1,HC2.out.2⟩
      go_upto_region 24 with fail
      generalize ((w6.setCell ⟨O,3,none⟩ (.slice aT2 (nT-m:Nat) cT2)).setCell ⟨O,2,none⟩ (.int .i64 (a:Int)))=wz at *;go_wp2_with (first
       |(refine wpList_load_row rfl 34 (.tmp 5) rfl O rfl 34 _ (0,0) _ HOB.out Tryz.underlying34 rfl HSZ.out ?_)
       |(refine wpList_store_row rfl 56 (.tmp 4) (.tmp 129) rfl (w.heap.size+2) #[.bool true,.slice aD' nD' cD',.slice aU' nU' cU',.int .i64 (a:Int),.slice aT2 (nT-m:Nat) cT2] rfl rfl 56 _ HRB.out HRZ.out rfl (by simp[Value.oneCell']) ?_)
       |fail)
      exact bodyPost_ret (v:=.agg #[.bool true,.slice aD' nD' cD',.slice aU' nU' cU',.int .i64 (a:Int),.slice aT2 (nT-m:Nat) cT2]) (results_cell_row rfl _ _ (w.heap.size+2) 56 _ (0,0) _ rfl (setRow_heap _ _ _ _ _ _ HRB.out) Tryz.underlying56 rfl HRZ.out) rfl ⟨_,rfl,HF.out.1,HF.out.2⟩
    ·have HR2:Hid (apF D U k T nT 3 a 0=⟨true,D,U,k,T,nT⟩):=by
      show _=_
      have e:ackM k a=0:=by unfold ackM;omega
      rw[HR.out,e];simp;omega
     have HRB:Hid (w4.heap[w.heap.size+2]?=some (.cells #[.bool false,.slice none 0 0,.slice none 0 0,.int .i64 0,.slice none 0 0] 56 (0,0))):=HO.out.sx.rb;have HOB:Hid (w4.heap[O]?=some (.cells #[.slice aD' nD' cD',.slice aU' nU' cU',.int .i64 k,.slice aT' nT cT'] 34 (0,0))):=HO.out.out;have HF:Hid (WPV w.heap.size (w4.setRow (w.heap.size+2) #[.bool true,.slice aD' nD' cD',.slice aU' nU' cU',.int .i64 k,.slice aT' nT cT']) (.agg #[.bool true,.slice aD' nD' cD',.slice aU' nU' cU',.int .i64 k,.slice aT' nT cT']) (apF D U k T nT 3 a 0)∧Below w.heap.size w (w4.setRow (w.heap.size+2) #[.bool true,.slice aD' nD' cD',.slice aU' nU' cU',.int .i64 k,.slice aT' nT cT'])):=by
      have hw:Wr (w.heap.size+2) w4 (w4.setRow (w.heap.size+2) #[.bool true,.slice aD' nD' cD',.slice aU' nU' cU',.int .i64 k,.slice aT' nT cT']):=Wr.setRow _ _ _;refine⟨?_,HO.out.sx.below.trans (hw.below (by omega))⟩;rw[HR2.out];exact⟨_,_,_,_,_,_,_,_,_,rfl,HKD.out.1.wrR hw HKD.out.2,HKU.out.1.wrR hw HKU.out.2,HKT.out.1.wrR hw HKT.out.2,HND.out.1,HND.out.2.1,HND.out.2.2,fun ad e=>⟨by have:=(HKD.out.2 ad e).1;omega,by rw[hw.size];exact(HKD.out.2 ad e).2.2⟩,fun ad e=>⟨by have:=(HKU.out.2 ad e).1;omega,by rw[hw.size];exact(HKU.out.2 ad e).2.2⟩,fun ad e=>⟨by have:=(HKT.out.2 ad e).1;omega,by rw[hw.size];exact(HKT.out.2 ad e).2.2⟩,HCC.out.1,HCC.out.2⟩
     go_upto_region 24 with fail
     generalize w4=wz at *;go_wp2_with (first
      |(refine wpList_load_row rfl 34 (.tmp 5) rfl O rfl 34 _ (0,0) _ HOB.out Tryz.underlying34 rfl HSZ.out ?_)
      |(refine wpList_store_row rfl 56 (.tmp 4) (.tmp 129) rfl (w.heap.size+2) #[.bool true,.slice aD' nD' cD',.slice aU' nU' cU',.int .i64 k,.slice aT' nT cT'] rfl rfl 56 _ HRB.out HRZ.out rfl (by simp[Value.oneCell']) ?_)
      |fail)
     exact bodyPost_ret (v:=.agg #[.bool true,.slice aD' nD' cD',.slice aU' nU' cU',.int .i64 k,.slice aT' nT cT']) (results_cell_row rfl _ _ (w.heap.size+2) 56 _ (0,0) _ rfl (setRow_heap _ _ _ _ _ _ HRB.out) Tryz.underlying56 rfl HRZ.out) rfl ⟨_,rfl,HF.out.1,HF.out.2⟩
   ·have HAN:Hid (apF D U k T nT 3 a b=apNo):=by show _=_;rw[HAR.out,apR_ackNo hc]
    have HX4:Hid (SX w #[.slice aD nD cD,.slice aU nU cU,.int .i64 k,.slice aT nT cT] #[.int .u32 seq,.int .i64 3,.int .u32 a,.int .u32 b] w4):=HO.out.sx;by_cases hb0:b=0
    ·subst hb0;have hle:¬ ((a:Int)≤k+nT):=fun h=>hc ⟨rfl,h⟩
     clear hc;have HFN:Hid (apF D U k T nT 3 a 0=apNo):=HAN.out;have HRB:Hid (w4.heap[w.heap.size+2]?=some (.cells #[.bool false,.slice none 0 0,.slice none 0 0,.int .i64 0,.slice none 0 0] 56 (0,0))):=HX4.out.rb;have HF:Hid (WPV w.heap.size (w4.setRow (w.heap.size+2) #[.bool false,.slice none 0 0,.slice none 0 0,.int .i64 0,.slice none 0 0]) (.agg #[.bool false,.slice none 0 0,.slice none 0 0,.int .i64 0,.slice none 0 0]) (apF D U k T nT 3 a 0)∧Below w.heap.size w (w4.setRow (w.heap.size+2) #[.bool false,.slice none 0 0,.slice none 0 0,.int .i64 0,.slice none 0 0])):=⟨by rw[HFN.out];exact WPV.no _ _,HX4.out.below.trans ((Wr.setRow _ _ _).below (by omega))⟩
     go_upto_region 25 with fail
     go_wp2_with (first
      |(refine wpList_store_row rfl 56 (.tmp 4) (.tmp 130) rfl (w.heap.size+2) #[.bool false,.slice none 0 0,.slice none 0 0,.int .i64 0,.slice none 0 0] rfl rfl 56 _ HRB.out HRZ.out rfl (by simp[Value.oneCell']) ?_)
      |fail)
     exact bodyPost_ret (v:=.agg #[.bool false,.slice none 0 0,.slice none 0 0,.int .i64 0,.slice none 0 0]) (results_cell_row rfl _ _ (w.heap.size+2) 56 _ (0,0) _ rfl (setRow_heap _ _ _ _ _ _ HRB.out) Tryz.underlying56 rfl HRZ.out) rfl ⟨_,rfl,HF.out.1,HF.out.2⟩
    ·have hb0':¬ ((b:Int)=0):=by omega
     clear hc;have HFN:Hid (apF D U k T nT 3 a b=apNo):=HAN.out;have HRB:Hid (w4.heap[w.heap.size+2]?=some (.cells #[.bool false,.slice none 0 0,.slice none 0 0,.int .i64 0,.slice none 0 0] 56 (0,0))):=HX4.out.rb;have HF:Hid (WPV w.heap.size (w4.setRow (w.heap.size+2) #[.bool false,.slice none 0 0,.slice none 0 0,.int .i64 0,.slice none 0 0]) (.agg #[.bool false,.slice none 0 0,.slice none 0 0,.int .i64 0,.slice none 0 0]) (apF D U k T nT 3 a b)∧Below w.heap.size w (w4.setRow (w.heap.size+2) #[.bool false,.slice none 0 0,.slice none 0 0,.int .i64 0,.slice none 0 0])):=⟨by rw[HFN.out];exact WPV.no _ _,HX4.out.below.trans ((Wr.setRow _ _ _).below (by omega))⟩
     go_upto_region 25 with fail
     go_wp2_with (first
      |(refine wpList_store_row rfl 56 (.tmp 4) (.tmp 130) rfl (w.heap.size+2) #[.bool false,.slice none 0 0,.slice none 0 0,.int .i64 0,.slice none 0 0] rfl rfl 56 _ HRB.out HRZ.out rfl (by simp[Value.oneCell']) ?_)
      |fail)
     exact bodyPost_ret (v:=.agg #[.bool false,.slice none 0 0,.slice none 0 0,.int .i64 0,.slice none 0 0]) (results_cell_row rfl _ _ (w.heap.size+2) 56 _ (0,0) _ rfl (setRow_heap _ _ _ _ _ _ HRB.out) Tryz.underlying56 rfl HRZ.out) rfl ⟨_,rfl,HF.out.1,HF.out.2⟩
  have HAN:Hid (apF D U k T nT kind a b=apNo):=by show _=_;rw[HAR.out,apR_other k1 k2 k3]
  have HX4:Hid (SX w #[.slice aD nD cD,.slice aU nU cU,.int .i64 k,.slice aT nT cT] #[.int .u32 seq,.int .i64 kind,.int .u32 a,.int .u32 b] w4):=HO.out.sx;have HFN:Hid (apF D U k T nT kind a b=apNo):=HAN.out;have HRB:Hid (w4.heap[w.heap.size+2]?=some (.cells #[.bool false,.slice none 0 0,.slice none 0 0,.int .i64 0,.slice none 0 0] 56 (0,0))):=HX4.out.rb;have HF:Hid (WPV w.heap.size (w4.setRow (w.heap.size+2) #[.bool false,.slice none 0 0,.slice none 0 0,.int .i64 0,.slice none 0 0]) (.agg #[.bool false,.slice none 0 0,.slice none 0 0,.int .i64 0,.slice none 0 0]) (apF D U k T nT kind a b)∧Below w.heap.size w (w4.setRow (w.heap.size+2) #[.bool false,.slice none 0 0,.slice none 0 0,.int .i64 0,.slice none 0 0])):=⟨by rw[HFN.out];exact WPV.no _ _,HX4.out.below.trans ((Wr.setRow _ _ _).below (by omega))⟩
  go_upto_region 25 with fail
  go_wp2_with (first
   |(refine wpList_store_row rfl 56 (.tmp 4) (.tmp 130) rfl (w.heap.size+2) #[.bool false,.slice none 0 0,.slice none 0 0,.int .i64 0,.slice none 0 0] rfl rfl 56 _ HRB.out HRZ.out rfl (by simp[Value.oneCell']) ?_)
   |fail)
  exact bodyPost_ret (v:=.agg #[.bool false,.slice none 0 0,.slice none 0 0,.int .i64 0,.slice none 0 0]) (results_cell_row rfl _ _ (w.heap.size+2) 56 _ (0,0) _ rfl (setRow_heap _ _ _ _ _ _ HRB.out) Tryz.underlying56 rfl HRZ.out) rfl ⟨_,rfl,HF.out.1,HF.out.2⟩
end Go.Proofs.YtfkmfmnfnenbjaaGreat
