import Derived.Test.YtjdhhgaelgemcaaGreatDoorStR
open Go.Proofs.Tryz renaming prog->tP
open Go.Proofs.Tryz
open Go.Value renaming slice->Z7,int->Z8,pointer->aF,bool->aG,agg->aH
open Go.IntKind renaming i64->aI,u32->aN,u8->Z9
open Go.Obj renaming cells->aJ
open Go.Ending renaming returned->aK
open Go.Ground renaming data->aL
open Go.Operand renaming tmp->aM
open Option renaming some->aE,none->aA
open Go renaming World->aC,Value->aB
set_option maxHeartbeats 8000000
set_option maxRecDepth 100000
namespace Go.Proofs.YtjdhhgaelgemcaaGreatDoor
open Go.ChangeShapes Go.WideShapes Go.ChangeAt Go.RowKit
set_option linter.unusedVariables false
theorem M7 (t tE:TypeId) (hu:tP.underlying t=aE (.slice tE)) (w:aC) (a:Option Addr) (n c:Nat):(binOp .eql t (Z7 a n c) (Z7 aA 0 0)).run tP w=.ok (aG a.isNone) w:=by
 have h:∀ d,(Op.equalIn (d+1) t (Z7 a n c) (Z7 aA 0 0)).run tP w=.ok a.isNone w:=λd=>by
  cases a<;>simp[Op.equalIn,run_underlying hu]
 have h':(Op.equal t (Z7 a n c) (Z7 aA 0 0)).run tP w=.ok a.isNone w:=h 9999;simp only[binOp];simp[h']
theorem M8 (a:Option Addr) (n cap:Nat) (xs:List Int) (w:aC) (hn:xs.length=n) (hm:n<=1048576) (ha:At aI w a xs) :
  Calls tP 48 #[Z7 a n cap] w λe w'=>∃ v,e=aK v/\Iow w.heap.size w' v xs/\Below w.heap.size w w':=by
 have E:=M7 22 2 underlying22 w a n cap;cases a with
 |none=>
  have hx:xs=[]:=by rcases ha with h|⟨b,o,e,_⟩;exact h;cases e
  have HP:AO (Iow w.heap.size w (Z7 aA 0 0) xs):=by
   subst hx
   skip
   exact⟨rfl,.inl ⟨rfl,rfl⟩⟩
  clear hn ha hm hx;go_enter func48,ntmps48;go_wp2
  go_ret
  exact⟨_,rfl,HP.o,A9 _ _⟩
 |some ad=>
  have bb:Below w.heap.size w (w.alloc (aJ #[] 2)):=Cg.alloc Cl _;have HA:AO (At aI (w.alloc (aJ #[] 2)) (aE ad) xs/\Ip w.heap.size 2 (w.alloc (aJ #[] 2)) (Z7 (aE ⟨w.heap.size,0,aA⟩) 0 0)):=⟨ha.below bb,Ip.new _ w Cl⟩
  have HB:=GL bb;have HN:=GL (BC hn hm);clear hn ha hm bb;go_enter func48,ntmps48;go_wp2_with (first
   |(refine wpList_plain rfl λK hK=>Hi 22 2 (Z8 aI 0) 1 8 Tryz.infoI64 underlying22 rfl AK AK _ (aM 5) (aM 6) rfl w.heap.size _ rfl HA.o.2 (aE ad) n cap xs rfl (by rw[HN.o.1,Bx]) HA.o.1 HN.o.2 AL λv' w3 ho hb=>hK _ _ ?_)
   |fail)
  have HF:AO (Iow w.heap.size w3 v' xs/\Below w.heap.size w w3):=⟨by first|exact ho|(unfold Iow;rw[HN.o.1];exact ho),HB.o.trans (hb.mono HB.o.size)⟩
  clear ho hb HA HB HN;go_wp2
  go_ret
  exact⟨_,rfl,HF.o.1,HF.o.2⟩
theorem Qg (a:Option Addr) (n cap:Nat) (xs:List Int) (w:aC) (hn:xs.length=n*2) (hm:n<=1048576) (ha:At aI w a xs) :
  Calls tP 47 #[Z7 a n cap] w λe w'=>∃ v,e=aK v/\C7 w.heap.size w' v xs n/\Below w.heap.size w w':=by
 have E:=M7 31 77 underlying31 w a n cap;cases a with
 |none=>
  have hx:xs=[]:=by rcases ha with h|⟨b,o,e,_⟩;exact h;cases e
  have HP:AO (C7 w.heap.size w (Z7 aA 0 0) xs n):=by
   subst hx;obtain rfl:n=0:=by simp at hn;omega
   exact⟨rfl,.inl ⟨rfl,rfl⟩⟩
  clear hn ha hm hx;go_enter func47,ntmps47;go_wp2
  go_ret
  exact⟨_,rfl,HP.o,A9 _ _⟩
 |some ad=>
  have bb:Below w.heap.size w (w.alloc (aJ #[] 77)):=Cg.alloc Cl _;have HA:AO (At aI (w.alloc (aJ #[] 77)) (aE ad) xs/\Ip w.heap.size 77 (w.alloc (aJ #[] 77)) (Z7 (aE ⟨w.heap.size,0,aA⟩) 0 0)):=⟨ha.below bb,Ip.new _ w Cl⟩
  have HB:=GL bb;have HN:=GL (BC hn hm);clear hn ha hm bb;go_enter func47,ntmps47;go_wp2_with (first
   |(refine wpList_plain rfl λK hK=>Hi 31 77 (aH #[Z8 aI 0,Z8 aI 0]) 2 16 Tryz.infoTap underlying31 rfl AK AK _ (aM 5) (aM 6) rfl w.heap.size _ rfl HA.o.2 (aE ad) n cap xs rfl HN.o.1 HA.o.1 HN.o.2 AL λv' w3 ho hb=>hK _ _ ?_)
   |fail)
  have HF:AO (C7 w.heap.size w3 v' xs n/\Below w.heap.size w w3):=⟨by first|exact ho|(unfold C7;rw[HN.o.1];exact ho),HB.o.trans (hb.mono HB.o.size)⟩
  clear ho hb HA HB HN;go_wp2
  go_ret
  exact⟨_,rfl,HF.o.1,HF.o.2⟩
theorem Ir {w0 w:aC} {tE:TypeId} {k n:Nat} {v:aB} {xs:List aB} (h:w.ownsRow w0.heap.size tE k v n xs):Hw w0 w v:=by
 intro j hj;rcases h.2 with⟨rfl,_⟩|⟨g,c,cur,rfl,hb,hh,_⟩
 ·rcases hj with⟨a,e,_⟩|⟨cs,e,_⟩<;>cases e
 ·rcases hj with⟨a,e,rfl⟩|⟨cs,e,_⟩
  ·cases e;exact⟨hb,(AR.1 hh).1⟩
  ·cases e
theorem V7 {w:aC} {lo lo':Nat} {tE:TypeId} {k n:Nat} {v:aB} {xs:List aB} (h:w.ownsRow lo tE k v n xs) (hl:lo'<=lo):w.ownsRow lo' tE k v n xs:=by
 refine⟨h.1,?_⟩;rcases h.2 with h|⟨g,c,cur,e,hb,r⟩
 ·exact .inl h
 ·exact .inr ⟨g,c,cur,e,BG hl hb,r⟩
theorem Iow.lo {lo lo':Nat} {w:aC} {v:aB} {xs:List Int} (h:Iow lo w v xs) (hl:lo'<=lo):Iow lo' w v xs:=V7 h hl
theorem C7.lo {lo lo' n:Nat} {w:aC} {v:aB} {xs:List Int} (h:C7 lo w v xs n) (hl:lo'<=lo):C7 lo' w v xs n:=V7 h hl
theorem C7.frm {B:Nat} {w:aC} {v:aB} {T:List Int} {m:Nat} (h:C7 B w v T m):∃ a c,v=Z7 a m c:=by
 rcases h.2 with⟨rfl,h0⟩|⟨g,c,cur,rfl,_⟩
 ·have:=h.1;rw[h0] at this;simp at this;exact⟨aA,0,by rw[show m=0 by omega]⟩
 ·exact⟨_,_,rfl⟩
theorem Jy {a a':Option Addr} {n c n' c':Nat} (h:YC (Z7 a n c) (Z7 a' n' c')):Gq a a':=λx y e e' h'=>h x.block (.inl ⟨x,e,rfl⟩) (.inl ⟨y,e',h'.symm⟩)
theorem S3.lo {lo lo':Nat} {w:aC} {aD aU aT:Option Addr} {nD nU nT:Nat} {D U T:List Int} (h:S3 lo w aD aU aT nD nU nT D U T) (hl:lo'<=lo):S3 lo' w aD aU aT nD nU nT D U T:=
 ⟨h.d,h.u,h.t,h.nd,h.nu,h.nt,h.ld.mono hl Cl,h.lu.mono hl Cl,h.lt.mono hl Cl,h.du,h.dt,h.ut⟩
theorem YT {lo:Nat} {w:aC} {aD aU aT:Option Addr} {nD cD nU cU nT cT:Nat} {D U T:List Int} (h1:Iow lo w (Z7 aD nD cD) D) (h2:Iow lo w (Z7 aU nU cU) U) (h3:C7 lo w (Z7 aT nT cT) T nT) (a1:Gq aD aU) (a2:Gq aD aT) (a3:Gq aU aT):S3 lo w aD aU aT nD nU nT D U T:=by
 obtain⟨d1,d2,d3⟩:=h1.sat;obtain⟨u1,u2,u3⟩:=h2.sat;obtain⟨t1,t2,t3⟩:=h3.tapV.sat;exact⟨d1,u1,t1,d2,u2,t2,d3,u3,t3,a1,a2,a3⟩
def V9 (lo:Nat) (w:aC) (v:aB) (D U:List Int) (k:Int) (T:List Int) (nT:Nat):Prop:=∃ bD mD dD bU mU dU bT dT,v=aH #[Z7 bD mD dD,Z7 bU mU dU,Z8 aI k,Z7 bT nT dT]/\S3 lo w bD bU bT mD mU nT D U T
theorem V9.below {lo:Nat} {w w':aC} {v:aB} {D U:List Int} {k:Int} {T:List Int} {nT:Nat} (h:V9 lo w v D U k T nT) (b:Below w.heap.size w w'):V9 lo w' v D U k T nT:=by
 obtain⟨bD,mD,dD,bU,mU,dU,bT,dT,e,h⟩:=h;exact⟨bD,mD,dD,bU,mU,dU,bT,dT,e,h.below b⟩
theorem TL (aD aU aT:Option Addr) (nD cD nU cU nT cT:Nat) (D U:List Int) (k:Int) (T:List Int) (w:aC) (hD:D.length=nD) (hU:U.length=nU) (hT:T.length=nT*2) (mD:nD<=1048576) (mU:nU<=1048576) (mT:nT<=1048576) (haD:At aI w aD D) (haU:At aI w aU U) (haT:At aI w aT T) :
  Calls tP 30 #[aH #[Z7 aD nD cD,Z7 aU nU cU,Z8 aI k,Z7 aT nT cT]] w λe w'=>∃ v,e=aK v/\V9 w.heap.size w' v D U k T nT/\Below w.heap.size w w':=by
 have HCD:=GL (λww (b:Below w.heap.size w ww)=>M8 aD nD cD D ww hD mD (haD.below b));have HCU:=GL (λww (b:Below w.heap.size w ww)=>M8 aU nU cU U ww hU mU (haU.below b));have HCT:=GL (λww (b:Below w.heap.size w ww)=>Qg aT nT cT T ww hT mT (haT.below b));have HSZ:AO ((tP.info? 33).map (·.size)=aE 4):=by show _=_;kernel_rfl
 have HE1:AO (BE w 33 #[Z7 aD nD cD,Z7 aU nU cU,Z8 aI k,Z7 aT nT cT] CU ((w.alloc (aJ #[Z7 aD nD cD,Z7 aU nU cU,Z8 aI k,Z7 aT nT cT] 33)).alloc (aJ CU 33))):=BE.start _ _ _ _;have HL1:AO (w.heap.size<((w.alloc (aJ #[Z7 aD nD cD,Z7 aU nU cU,Z8 aI k,Z7 aT nT cT] 33)).alloc (aJ CU 33)).heap.size):=(AR.1 HE1.o.b0).1;clear hD hU hT mD mU mT haD haU haT;go_enter func30,ntmps30;go_wp2_with fail;generalize ((w.alloc (aJ #[Z7 aD nD cD,Z7 aU nU cU,Z8 aI k,Z7 aT nT cT] 33)).alloc (aJ CU 33))=w1 at *;refine Ag AM ?_;refine GI 12 (λ_ a b=>Below a.heap.size a b) (frame:=(λ(a b c:aB)=>λ(t:Nat->aB)=>({ tmps:=List.toArray [a,b,c,t 0,t 1,t 2,t 3,t 4,t 5,t 6,t 7,t 8,t 9,t 10,t 11],defers:=[] }:Act)) _ _ _)
  (Ext:=λL u w'=>SD w1 [2,5,10] L u w') (Good:=λi L w' v=>if i=0 then v=aF (aE ⟨w.heap.size,0,aA⟩) else if i=1 then v=Z7 aD nD cD else if i=2 then Iow w1.heap.size w' v D else if i=3 then v=aF (aE ⟨w.heap.size,1,aA⟩) else if i=4 then v=Z7 aU nU cU else if i=5 then Iow w1.heap.size w' v U else if i=6 then v=aF (aE ⟨w.heap.size,2,aA⟩) else if i=7 then v=Z8 aI k else if i=8 then v=aF (aE ⟨w.heap.size,3,aA⟩) else if i=9 then v=Z7 aT nT cT else if i=10 then C7 w1.heap.size w' v T nT else if i=11 then V9 w1.heap.size w' v D U k T nT else True) (Fin:=λ_ ww=>∃ bD mD dD bU mU dU bT dT,ww.heap[w.heap.size+1]?=aE (aJ #[Z7 bD mD dD,Z7 bU mU dU,Z8 aI k,Z7 bT nT dT] 33 (0,0))/\S3 w.heap.size ww bD bU bT mD mU nT D U T/\Below w.heap.size w ww) rfl AM ?hstab AM ?hop ?hend ?hdone _ _ ((λ(x0 x1 x2 x3 x4 x5 x6 x7 x8 x9 x10 x11:aB)=>λ(i:Nat)=>if i=0 then x0 else if i=1 then x1 else if i=2 then x2 else if i=3 then x3 else if i=4 then x4 else if i=5 then x5 else if i=6 then x6 else if i=7 then x7 else if i=8 then x8 else if i=9 then x9 else if i=10 then x10 else if i=11 then x11 else undef) _ _ _ _ _ _ _ _ _ _ _ _) _ AL ?none ?ext AL
 case none=>exact λ_=>J6
 case ext=>exact SD.start w1 [2,5,10] _ _ (λ_=>J6) ⟨rfl,rfl,rfl,Ac _,λ_ _=>rfl⟩
 case hstab=>
  intro j L w9 w' i v _ hM _ _ h;by_cases h2:j=2
  ·subst h2;simp at h |-;exact h.below hM
  by_cases h5:j=5
  ·subst h5;simp at h |-;exact h.below hM
  by_cases h10:j=10
  ·subst h10;simp at h |-;exact h.below hM
  by_cases h11:j=11
  ·subst h11;simp at h |-;exact h.below hM
  simp only[if_neg h2,if_neg h5,if_neg h10,if_neg h11] at h |-;exact h
 case hop=>
  intro i o L t w' hi ho hLi hx hdep K hK;have cX:∀ q9:Nat,w'.cell? ⟨w.heap.size,q9,aA⟩=(#[Z7 aD nD cD,Z7 aU nU cU,Z8 aI k,Z7 aT nT cT]:Array aB)[q9]?:=λq9=>by rw[Ai (a:=⟨w.heap.size,q9,aA⟩) (w:=w1) (hx.below.block _ HL1.o),AA HE1.o.b0 q9]
  obtain rfl|rfl|rfl|rfl|rfl|rfl|rfl|rfl|rfl|rfl|rfl|rfl:i=0\/i=1\/i=2\/i=3\/i=4\/i=5\/i=6\/i=7\/i=8\/i=9\/i=10\/i=11:=AJ
  all_goals(simp at ho;subst ho)
  all_goals try(have hK':=hK w' _ rfl (hx.step _ _ Cg DY) Cg;clear hK;simp[Region.binds] at hdep;rw[AP AN];go_simp;simpa[Ce,hdep] using hK')
  ·have d1:t 1=Z7 aD nD cD:=by simpa using(hdep ⟨1,aL⟩ AL rfl).2
   clear hdep;have bw:Below w.heap.size w w':=HE1.o.below.trans (hx.below.mono HE1.o.below.size);have hsz:w1.heap.size<=w'.heap.size:=hx.below.size;have A:=HCD.o w' bw;have hK':∀ ww v,Iow w1.heap.size ww v D->Hw w' ww v->Below w'.heap.size w' ww->K _ ww:=λww v hv hf hb=>hK ww v (by simpa using hv) (hx.step 2 v hb (λ_=>hf)) hb
   clear hK;rw[AP AN];go_simp;try simp only[d1]
   refine A.mono ?_;rintro e w9 ⟨v9,rfl,h9,hb9⟩;have hK2:=hK' w9 v9 (h9.lo hsz) (Ir h9) hb9;clear hK' A h9 hb9;go_simp;simpa[Ce,d1] using hK2
  ·have d4:t 4=Z7 aU nU cU:=by simpa using(hdep ⟨4,aL⟩ AL rfl).2
   clear hdep;have bw:Below w.heap.size w w':=HE1.o.below.trans (hx.below.mono HE1.o.below.size);have hsz:w1.heap.size<=w'.heap.size:=hx.below.size;have A:=HCU.o w' bw;have hK':∀ ww v,Iow w1.heap.size ww v U->Hw w' ww v->Below w'.heap.size w' ww->K _ ww:=λww v hv hf hb=>hK ww v (by simpa using hv) (hx.step 5 v hb (λ_=>hf)) hb
   clear hK;rw[AP AN];go_simp;try simp only[d4]
   refine A.mono ?_;rintro e w9 ⟨v9,rfl,h9,hb9⟩;have hK2:=hK' w9 v9 (h9.lo hsz) (Ir h9) hb9;clear hK' A h9 hb9;go_simp;simpa[Ce,d4] using hK2
  ·have d9:t 9=Z7 aT nT cT:=by simpa using(hdep ⟨9,aL⟩ AL rfl).2
   clear hdep;have bw:Below w.heap.size w w':=HE1.o.below.trans (hx.below.mono HE1.o.below.size);have hsz:w1.heap.size<=w'.heap.size:=hx.below.size;have A:=HCT.o w' bw;have hK':∀ ww v,C7 w1.heap.size ww v T nT->Hw w' ww v->Below w'.heap.size w' ww->K _ ww:=λww v hv hf hb=>hK ww v (by simpa using hv) (hx.step 10 v hb (λ_=>hf)) hb
   clear hK;rw[AP AN];go_simp;try simp only[d9]
   refine A.mono ?_;rintro e w9 ⟨v9,rfl,h9,hb9⟩;have hK2:=hK' w9 v9 (h9.lo hsz) (Ir h9) hb9;clear hK' A h9 hb9;go_simp;simpa[Ce,d9] using hK2
  ·have l2:L 2=true:=(hdep ⟨2,aL⟩ AL rfl).1;have f2:Iow w1.heap.size w' (t 2) D:=by simpa using(hdep ⟨2,aL⟩ AL rfl).2
   have l5:L 5=true:=(hdep ⟨5,aL⟩ AL rfl).1;have f5:Iow w1.heap.size w' (t 5) U:=by simpa using(hdep ⟨5,aL⟩ AL rfl).2
   have d7:t 7=Z8 aI k:=by simpa using(hdep ⟨7,aL⟩ AL rfl).2
   have l10:L 10=true:=(hdep ⟨10,aL⟩ AL rfl).1;have f10:C7 w1.heap.size w' (t 10) T nT:=by simpa using(hdep ⟨10,aL⟩ AL rfl).2
   clear hdep;have a1:=hx.ap 2 AK 5 AK AK l2 l5;have a2:=hx.ap 2 AK 10 AK AK l2 l10;have a3:=hx.ap 5 AK 10 AK AK l5 l10;obtain⟨bD,mD,dD,eD⟩:=f2.form;obtain⟨bU,mU,dU,eU⟩:=f5.form;obtain⟨bT,dT,eT⟩:=f10.frm;rw[eD] at f2 a1 a2;rw[eU] at f5 a1 a3;rw[eT] at f10 a2 a3;have hsv:V9 w1.heap.size w' (aH #[Z7 bD mD dD,Z7 bU mU dU,Z8 aI k,Z7 bT nT dT]) D U k T nT:=⟨bD,mD,dD,bU,mU,dU,bT,dT,rfl,YT f2 f5 f10 (Jy a1) (Jy a2) (Jy a3)⟩
   have hK':=hK w' _ (by simpa using hsv) (hx.step 11 _ Cg DY) Cg;clear hK f2 f5 f10 hsv a1 a2 a3;rw[AP AN];go_simp;simpa[Ce,d7,eD,eU,eT] using hK'
 case hend=>
  intro o L t w' ho hx hg K hK;simp at ho;subst ho;have f11:V9 w1.heap.size w' (t 11) D U k T nT:=by simpa using(hg 11 AK).2
  clear hg;obtain⟨bD,mD,dD,bU,mU,dU,bT,dT,e11,s11⟩:=f11;have hrs:=(hx.below.block _ (AR.1 HE1.o.b1).1).trans HE1.o.b1;have hK':∀ ww,Wr (w.heap.size+1) w' ww->ww.heap[w.heap.size+1]?=aE (aJ #[Z7 bD mD dD,Z7 bU mU dU,Z8 aI k,Z7 bT nT dT] 33 (0,0))->K _ ww:=λww hw hr=>hK ww undef ⟨bD,mD,dD,bU,mU,dU,bT,dT,hr,(s11.keep (Nat.le_of_eq hw.size.symm) (λk hk _=>hw.block k (AG (AR.1 HE1.o.b1).1))).lo (AG HE1.o.below.size),(HE1.o.below.trans (hx.below.mono HE1.o.below.size)).trans (hw.below AJ)⟩
  clear hK s11;rw[AP AN];refine Bt 33 (aM 2) (aM 14) rfl (w.heap.size+1) #[Z7 bD mD dD,Z7 bU mU dU,Z8 aI k,Z7 bT nT dT] rfl e11 33 _ hrs HSZ.o rfl (by simp[Value.oneCell']) ?_;have hK2:=hK' _ (Wr.setRow _ _ _) (AB hrs);clear hK';simpa[Ce,Act.put] using hK2
 case hdone=>
  intro t w9 hf;obtain⟨bD,mD,dD,bU,mU,dU,bT,dT,hr,hI,hb9⟩:=hf;have HR9:AO (w9.heap[w.heap.size+1]?=aE (aJ #[Z7 bD mD dD,Z7 bU mU dU,Z8 aI k,Z7 bT nT dT] 33 (0,0))):=hr;have HF:AO (V9 w.heap.size w9 (aH #[Z7 bD mD dD,Z7 bU mU dU,Z8 aI k,Z7 bT nT dT]) D U k T nT/\Below w.heap.size w w9):=⟨⟨bD,mD,dD,bU,mU,dU,bT,dT,rfl,hI⟩,hb9⟩
  clear hr hI hb9;go_wp2_with fail;exact Ab (v:=aH #[Z7 bD mD dD,Z7 bU mU dU,Z8 aI k,Z7 bT nT dT]) (Ah rfl _ _ (w.heap.size+1) 33 _ (0,0) _ rfl HR9.o underlying33 rfl HSZ.o) rfl ⟨_,rfl,HF.o.1,HF.o.2⟩
theorem IE.mono {lo lo':Nat} {w:aC} {v:aB} {r:I9} (h:IE lo w v r) (hl:lo'<=lo):IE lo' w v r:=by
 obtain⟨aD,nD,cD,aU,nU,cU,aT,nT,cT,e,h1,h2,h3,h4,h5,h6,l1,l2,l3,l4,l5⟩:=h;exact⟨aD,nD,cD,aU,nU,cU,aT,nT,cT,e,h1,h2,h3,h4,h5,h6,l1.mono hl Cl,l2.mono hl Cl,l3.mono hl Cl,l4,l5⟩
theorem PT {lo R:Nat} {k c:Int} {D U T:List Int} {nT:Nat} {w w':aC} {aD aU aT:Option Addr} {nD cD nU cU cT:Nat} (h:F3 lo k D U T nT w #[Z7 aD nD cD,Z7 aU nU cU,Z8 aI k,Z7 aT nT cT]) (hR:R<lo) (hw:Wr R w w') :
  IE lo w' (aH #[Z8 aI c,Z7 aD nD cD,Z7 aU nU cU,Z8 aI k,Z7 aT nT cT]) ⟨c,D,U,k,T,nT⟩:=by
 obtain⟨bD,mD,dD,bU,mU,dU,bT,dT,e,h1,h2,h3⟩:=h;simp at e;obtain⟨⟨rfl,rfl,rfl⟩,⟨rfl,rfl,rfl⟩,rfl,rfl⟩:=e;obtain⟨-,q1,-⟩:=h1.sat;obtain⟨-,q2,-⟩:=h2.sat;obtain⟨-,q3,-⟩:=h3.tapV.sat;have y1:=(h1.lk (lo:=lo) (O:=R) Cl (.inl hR)).wr hw;have y2:=(h2.lk (lo:=lo) (O:=R) Cl (.inl hR)).wr hw;have y3:=(h3.lk (lo:=lo) (O:=R) Cl (.inl hR)).wr hw;have hc:=h3.cap;exact⟨_,_,_,_,_,_,_,_,_,rfl,y1.1,y2.1,y3.1,q1,q2,q3,λad e=>⟨(y1.2 ad e).1,(y1.2 ad e).2.2⟩,λad e=>⟨(y2.2 ad e).1,(y2.2 ad e).2.2⟩,λad e=>⟨(y3.2 ad e).1,(y3.2 ad e).2.2⟩,hc.1,hc.2⟩
theorem XN (w:aC) (o:Bool) (aD aU aT:Option Addr) (nD cD nU cU nT cT:Nat) (k:Int):(Instr.field 60 (aH #[aG o,Z7 aD nD cD,Z7 aU nU cU,Z8 aI k,Z7 aT nT cT]) 1).run tP w=.ok (aH #[Z7 aD nD cD,Z7 aU nU cU,Z8 aI k,Z7 aT nT cT]) w:=AM
structure JR (w:aC) (sc oc:Array aB) (wr:aC):Prop where
 below:Below w.heap.size w wr
 sb:wr.heap[w.heap.size]?=aE (aJ sc 33 (0,0))
 ob:wr.heap[w.heap.size+1]?=aE (aJ oc 39 (0,0))
 rb:wr.heap[w.heap.size+2]?=aE (aJ CX 35 (0,0))
theorem JR.lt {w wr:aC} {sc oc:Array aB} (h:JR w sc oc wr):w.heap.size+2<wr.heap.size:=(AR.1 h.rb).1
theorem JR.keep {w wr w':aC} {sc oc:Array aB} {B:Nat} (h:JR w sc oc wr) (b:Below B wr w') (hB:w.heap.size+3<=B):JR w sc oc w':=
 ⟨h.below.trans (b.mono AJ),by rw[b.block _ AJ];exact h.sb,by rw[b.block _ AJ];exact h.ob,by rw[b.block _ AJ];exact h.rb⟩
theorem JR.call {w wr w':aC} {sc oc:Array aB} (h:JR w sc oc wr) (b:Below wr.heap.size wr w'):JR w sc oc w':=h.keep b h.lt
theorem JR.start (w:aC) (sc oc:Array aB):JR w sc oc (((w.alloc (aJ sc 33)).alloc (aJ oc 39)).alloc (aJ CX 35)):=by
 have h:=NJ.start w 33 39 sc oc;have b:Below ((w.alloc (aJ sc 33)).alloc (aJ oc 39)).heap.size ((w.alloc (aJ sc 33)).alloc (aJ oc 39)) _:=Cg.alloc Cl (aJ CX 35);have h2:=h.call b;refine⟨h2.below,h2.b0,h2.b1,?_⟩;have:=AX ((w.alloc (aJ sc 33)).alloc (aJ oc 39)) (aJ CX 35)
 rwa [show((w.alloc (aJ sc 33)).alloc (aJ oc 39)).heap.size=w.heap.size+2 by simp] at this
theorem VC (aD aU aT:Option Addr) (nD cD nU cU nT cT:Nat) (D U:List Int) (k:Int) (T:List Int) (ka:Option Addr) (nk ck:Nat) (ks:List Int) (ta:Option Addr) (tn tc:Nat) (tk:List Int) (kind now N:Int) (w:aC) (hD:D.length=nD) (hU:U.length=nU) (hT:T.length=nT*2) (mD:nD<=1048576) (mU:nU<=1048576) (mT:nT<=1048576)
  (haD:At aI w aD D) (haU:At aI w aU U) (haT:At aI w aT T) (hcT:nT<=cT) (hcm:cT<=9223372036854775807) (hk0:-9223372036854775808<=k) (hk1:k<9223372036854775808) (hk:ks.length=nk) (mk:nk<=1048576) (hp:At Z9 w ka ks) (zk:Ci ks) (ht:tk.length=tn) (mt:tn<=1048576) (hct:tn<=tc) (hat:At Z9 w ta tk) (zt:Ci tk) :
  Calls tP 6 #[aH #[Z7 aD nD cD,Z7 aU nU cU,Z8 aI k,Z7 aT nT cT],Z7 ka nk ck,aH #[Z8 aI kind,Z7 ta tn tc,Z8 aI now,Z8 aI N]] w λe w'=>∃ v,e=aK v/\IE w.heap.size w' v (JP D U k T nT ks kind tk now N)/\Below w.heap.size w w':=by
 have HX0:AO (JR w #[Z7 aD nD cD,Z7 aU nU cU,Z8 aI k,Z7 aT nT cT] #[Z8 aI kind,Z7 ta tn tc,Z8 aI now,Z8 aI N] (((w.alloc (aJ #[Z7 aD nD cD,Z7 aU nU cU,Z8 aI k,Z7 aT nT cT] 33)).alloc (aJ #[Z8 aI kind,Z7 ta tn tc,Z8 aI now,Z8 aI N] 39)).alloc (aJ CX 35))):=JR.start _ _ _;have HLN:AO (D.length=nD/\U.length=nU/\T.length=nT*2):=⟨hD,hU,hT⟩
 have HA:AO (∀ wz,Below w.heap.size w wz->At aI wz aD D/\At aI wz aU U/\At aI wz aT T/\At Z9 wz ka ks/\At Z9 wz ta tk):=λwz h=>⟨haD.below h,haU.below h,haT.below h,hp.below h,hat.below h⟩
 have HKL:AO (ks.length=nk/\Ci ks/\tk.length=tn/\Ci tk):=⟨hk,zk,ht,zt⟩
 have HC:=Oh aD aU aT nD cD nU cU nT cT D U k T _ hD hU hT mD mU mT (haD.below HX0.o.below) (haU.below HX0.o.below) (haT.below HX0.o.below) hk0 hk1;have HRZ:AO ((tP.info? 35).map (·.size)=aE 5):=by show _=_;kernel_rfl
 have HSZ:AO ((tP.info? 33).map (·.size)=aE 4):=by show _=_;kernel_rfl
 have HOZ:AO ((tP.info? 39).map (·.size)=aE 4):=by show _=_;kernel_rfl
 have HFZ:AO ((tP.info? 56).map (·.size)=aE 4):=by show _=_;kernel_rfl
 have HST:AO (FL D U k T nT=true->WI D U k T nT):=Lc;have HSR:AO (JP D U k T nT ks kind tk now N=JP D U k T nT ks kind tk now N):=rfl;clear haD haU haT hD hU hT hk hp zk ht hat zt;go_enter func6,ntmps6
 go_upto_region 1 with fail
 generalize (((w.alloc (aJ #[Z7 aD nD cD,Z7 aU nU cU,Z8 aI k,Z7 aT nT cT] 33)).alloc (aJ #[Z8 aI kind,Z7 ta tn tc,Z8 aI now,Z8 aI N] 39)).alloc (aJ CX 35))=w0 at *;have o0:w0.cell? ⟨w.heap.size+1,0,aA⟩=aE (Z8 aI kind):=by rw[AA HX0.o.ob 0];rfl
 go_wp2_with (first
  |(refine Ae rfl 33 (aM 3) rfl w.heap.size rfl 33 _ (0,0) _ HX0.o.sb underlying33 rfl HSZ.o ?_)
  |fail)
 refine HC.mono ?_;rintro e w1 ⟨rfl,hb1⟩;have HX1:AO (JR w #[Z7 aD nD cD,Z7 aU nU cU,Z8 aI k,Z7 aT nT cT] #[Z8 aI kind,Z7 ta tn tc,Z8 aI now,Z8 aI N] w1):=HX0.o.call hb1;have o1:w1.cell? ⟨w.heap.size+1,0,aA⟩=aE (Z8 aI kind):=by rw[AA HX1.o.ob 0];rfl
 clear HC HX0 hb1 o0;by_cases hbad:¬ (FL D U k T nT=true/\nk=32/\1<=kind/\kind<=5)
 ·have HR:AO (JP D U k T nT ks kind tk now N=⟨10,D,U,k,T,nT⟩):=by
   show _=_
   unfold JP;by_cases h:FL D U k T nT=true/\ks.length=32
   ·rw[AP h];unfold FH;have h2:¬ (1<=kind/\kind<=5):=λh3=>hbad ⟨h.1,HKL.o.1.symm.trans h.2,h3⟩
    rw[AQ AJ,AQ AJ,AQ AJ,AQ AJ,AQ AJ]
   ·rw[AQ h]
  have hcs:FL D U k T nT=false\/(FL D U k T nT=true/\((nk:Int) != 32)=true)\/(FL D U k T nT=true/\nk=32/\kind<1)\/(FL D U k T nT=true/\nk=32/\¬ kind<1/\5<kind):=by
   cases hq:FL D U k T nT with
   |false=>exact .inl rfl
   |true=>
    by_cases h32:nk=32
    ·by_cases h1:kind<1
     ·exact .inr (.inr (.inl ⟨rfl,h32,h1⟩))
     ·have h3:¬ (1<=kind/\kind<=5):=λh=>hbad ⟨hq,h32,h⟩
      exact .inr (.inr (.inr ⟨rfl,h32,h1,AJ⟩))
    ·exact .inr (.inl ⟨rfl,by simp;omega⟩)
  clear hbad HST HSR;generalize hq:FL D U k T nT=q at *;clear hq;rcases hcs with rfl|⟨rfl,h32⟩|⟨rfl,rfl,h1⟩|⟨rfl,rfl,h1,h5⟩
  all_goals
   go_upto_region 2 with fail
   go_wp2_with (first
    |(refine Ae rfl 33 (aM 3) rfl w.heap.size rfl 33 _ (0,0) _ HX1.o.sb underlying33 rfl HSZ.o ?_)
    |fail)
   refine(Ld aD aU aT nD cD nU cU nT cT D U k T w1 HLN.o.1 HLN.o.2.1 HLN.o.2.2 mD mU mT (HA.o w1 HX1.o.below).1 (HA.o w1 HX1.o.below).2.1 (HA.o w1 HX1.o.below).2.2.1).mono ?_;rintro e w9 ⟨cs,rfl,hcp,hb9⟩;have HX9:AO (JR w #[Z7 aD nD cD,Z7 aU nU cU,Z8 aI k,Z7 aT nT cT] #[Z8 aI kind,Z7 ta tn tc,Z8 aI now,Z8 aI N] w9):=HX1.o.call hb9;have HL9:AO (w.heap.size+2<w1.heap.size):=HX1.o.lt;have HCP:AO (F3 w1.heap.size k D U T nT w9 cs):=hcp;obtain⟨bD,mD',dD,bU,mU',dU,bT,dT,rfl,-⟩:=hcp;have HRB:AO (w9.heap[w.heap.size+2]?=aE (aJ CX 35 (0,0))):=HX9.o.rb;have HF:AO (IE w.heap.size (w9.setRow (w.heap.size+2) #[Z8 aI 10,Z7 bD mD' dD,Z7 bU mU' dU,Z8 aI k,Z7 bT nT dT]) (aH #[Z8 aI 10,Z7 bD mD' dD,Z7 bU mU' dU,Z8 aI k,Z7 bT nT dT]) (JP D U k T nT ks kind tk now N)/\Below w.heap.size w (w9.setRow (w.heap.size+2) #[Z8 aI 10,Z7 bD mD' dD,Z7 bU mU' dU,Z8 aI k,Z7 bT nT dT])):=⟨by rw[HR.o];exact(PT HCP.o HL9.o (Wr.setRow _ _ _)).mono (AH HX9.o.below.size HL9.o),HX9.o.below.trans ((Wr.setRow _ _ _).below AJ)⟩
   clear hb9 HCP HL9 HX1;go_wp2_with (first
    |(refine AE 35 (aM 6) (aM 29) (w.heap.size+2) #[Z8 aI 10,Z7 bD mD' dD,Z7 bU mU' dU,Z8 aI k,Z7 bT nT dT] 35 HRB.o HRZ.o rfl (by simp[Value.oneCell']) ?_)
    |fail)
   exact Ab (v:=aH #[Z8 aI 10,Z7 bD mD' dD,Z7 bU mU' dU,Z8 aI k,Z7 bT nT dT]) (Ah rfl _ _ (w.heap.size+2) 35 _ (0,0) _ rfl (AB HRB.o) underlying35 rfl HRZ.o) rfl ⟨_,rfl,HF.o.1,HF.o.2⟩
 have hgood:FL D U k T nT=true/\nk=32/\1<=kind/\kind<=5:=Decidable.not_not.1 hbad;obtain⟨hq,h32,hki,hk5⟩:=hgood;have hst:=HST.o hq;have hkn:k+nT=(nU:Int):=by have:=hst.2.2.2.2.1;rw[HLN.o.2.1] at this;exact this
 have hkk:0<=k:=hst.2.2.2.1;have hd16:D.length<=16:=hst.2.1;have HSO:AO (JP D U k T nT ks kind tk now N=FH D U k T nT ks kind tk now N):=by show _=_;unfold JP;rw[AP ⟨hq,HKL.o.1.trans h32⟩]
 have HDO:=Cd (YS (ks:=ks) (kind:=kind) (tk:=tk) (now:=now) (N:=N) hq HKL.o.2.2.2 hkk AJ mT hd16 hki hk5);have hkb:k<=1048576:=AJ
 have h1:¬ kind<1:=AJ
 have h5:¬ 5<kind:=AJ
 have HQ:AO (FL D U k T nT=true):=hq;rw[hq];clear hst hbad HST hkn hd16 hq hki hk5 HSR;subst h32;obtain⟨bp,op,rfl,-,-⟩:=(HA.o w1 HX1.o.below).2.2.2.1.get (by rw[HKL.o.1];decide);have HPT:AO (∀ wz,Below w.heap.size w wz->Fq wz bp op ks):=λwz h=>by
  obtain⟨b',o',e',hl',hc'⟩:=(HA.o wz h).2.2.2.1.get (by rw[HKL.o.1];decide);cases e';exact⟨hl',hc'⟩
 go_upto_region 3 with fail
 clear h1 h5 o1;go_wp2_with (first
  |(refine Ae rfl 33 (aM 3) rfl w.heap.size rfl 33 _ (0,0) _ HX1.o.sb underlying33 rfl HSZ.o ?_)
  |(refine Ae rfl 39 (aM 5) rfl (w.heap.size+1) rfl 39 _ (0,0) _ HX1.o.ob underlying39 rfl HOZ.o ?_)
  |fail)
 refine(VA aD aU aT nD cD nU cU nT cT D U k bp op ck ks ta tn tc tk kind now N w1 HLN.o.1 HLN.o.2.1 mD mU mT (HA.o w1 HX1.o.below).1 (HA.o w1 HX1.o.below).2.1 hkk hkb HKL.o.1 (HPT.o w1 HX1.o.below) HKL.o.2.1 HKL.o.2.2.1 mt hct (HA.o w1 HX1.o.below).2.2.2.2 HKL.o.2.2.2).mono ?_;rintro e w4 ⟨rfl,hb4⟩;have HX4:AO (JR w #[Z7 aD nD cD,Z7 aU nU cU,Z8 aI k,Z7 aT nT cT] #[Z8 aI kind,Z7 ta tn tc,Z8 aI now,Z8 aI N] w4):=HX1.o.call hb4;clear hb4 HX1 HPT;generalize FP D U k nT ks kind tk now N=r at *;obtain⟨c,fk,a,b⟩:=r;unfold ID;dsimp only at HDO |-;have HN:AO ((w4.alloc (aJ CP 56)).heap[w4.heap.size]?=aE (aJ CP 56 (0,0))):=AX w4 _;have HB5:AO (Below w4.heap.size w4 ((w4.alloc (aJ CP 56)).setRow w4.heap.size #[Z8 aN 0,Z8 aI fk,Z8 aN (a:Int),Z8 aN (b:Int)])):=(Cg.alloc Cl _).trans ((Wr.setRow _ _ _).below Cl);have HR5:AO (((w4.alloc (aJ CP 56)).setRow w4.heap.size #[Z8 aN 0,Z8 aI fk,Z8 aN (a:Int),Z8 aN (b:Int)]).heap[w4.heap.size]?=aE (aJ #[Z8 aN 0,Z8 aI fk,Z8 aN (a:Int),Z8 aN (b:Int)] 56 (0,0))):=AB HN.o;have HX5:AO (JR w #[Z7 aD nD cD,Z7 aU nU cU,Z8 aI k,Z7 aT nT cT] #[Z8 aI kind,Z7 ta tn tc,Z8 aI now,Z8 aI N] ((w4.alloc (aJ CP 56)).setRow w4.heap.size #[Z8 aN 0,Z8 aI fk,Z8 aN (a:Int),Z8 aN (b:Int)])):=HX4.o.call HB5.o
 go_upto_region 4 with (first
  |(refine AE 56 (aM 8) (aM 36) w4.heap.size #[Z8 aN 0,Z8 aI fk,Z8 aN (a:Int),Z8 aN (b:Int)] 56 HN.o HFZ.o rfl (by simp[Value.oneCell']) ?_)
  |fail)
 clear HN HB5 HX4;generalize ((w4.alloc (aJ CP 56)).setRow w4.heap.size #[Z8 aN 0,Z8 aI fk,Z8 aN (a:Int),Z8 aN (b:Int)])=w5 at *;have f1:w5.cell? ⟨w4.heap.size,1,aA⟩=aE (Z8 aI fk):=by rw[AA HR5.o 1];rfl
 by_cases hfk:fk=0
 ·have HR:AO (JP D U k T nT ks kind tk now N=⟨c,D,U,k,T,nT⟩):=by show _=_;rw[HSO.o];exact HDO.o.1 hfk
  subst hfk;clear HDO HSO HR5
  go_upto_region 5 with fail
  go_wp2_with (first
   |(refine Ae rfl 33 (aM 3) rfl w.heap.size rfl 33 _ (0,0) _ HX5.o.sb underlying33 rfl HSZ.o ?_)
   |fail)
  refine(Ld aD aU aT nD cD nU cU nT cT D U k T w5 HLN.o.1 HLN.o.2.1 HLN.o.2.2 mD mU mT (HA.o w5 HX5.o.below).1 (HA.o w5 HX5.o.below).2.1 (HA.o w5 HX5.o.below).2.2.1).mono ?_;rintro e w9 ⟨cs,rfl,hcp,hb9⟩;have HX9:AO (JR w #[Z7 aD nD cD,Z7 aU nU cU,Z8 aI k,Z7 aT nT cT] #[Z8 aI kind,Z7 ta tn tc,Z8 aI now,Z8 aI N] w9):=HX5.o.call hb9;have HL9:AO (w.heap.size+2<w5.heap.size):=HX5.o.lt;have HCP:AO (F3 w5.heap.size k D U T nT w9 cs):=hcp;obtain⟨bD,mD',dD,bU,mU',dU,bT,dT,rfl,-⟩:=hcp;have HRB:AO (w9.heap[w.heap.size+2]?=aE (aJ CX 35 (0,0))):=HX9.o.rb;have HF:AO (IE w.heap.size (w9.setRow (w.heap.size+2) #[Z8 aI c,Z7 bD mD' dD,Z7 bU mU' dU,Z8 aI k,Z7 bT nT dT]) (aH #[Z8 aI c,Z7 bD mD' dD,Z7 bU mU' dU,Z8 aI k,Z7 bT nT dT]) (JP D U k T nT ks kind tk now N)/\Below w.heap.size w (w9.setRow (w.heap.size+2) #[Z8 aI c,Z7 bD mD' dD,Z7 bU mU' dU,Z8 aI k,Z7 bT nT dT])):=⟨by rw[HR.o];exact(PT HCP.o HL9.o (Wr.setRow _ _ _)).mono (AH HX9.o.below.size HL9.o),HX9.o.below.trans ((Wr.setRow _ _ _).below AJ)⟩
  clear hb9 HCP HL9 HX5;go_wp2_with (first
   |(refine AE 35 (aM 6) (aM 43) (w.heap.size+2) #[Z8 aI c,Z7 bD mD' dD,Z7 bU mU' dU,Z8 aI k,Z7 bT nT dT] 35 HRB.o HRZ.o rfl (by simp[Value.oneCell']) ?_)
   |fail)
  exact Ab (v:=aH #[Z8 aI c,Z7 bD mD' dD,Z7 bU mU' dU,Z8 aI k,Z7 bT nT dT]) (Ah rfl _ _ (w.heap.size+2) 35 _ (0,0) _ rfl (AB HRB.o) underlying35 rfl HRZ.o) rfl ⟨_,rfl,HF.o.1,HF.o.2⟩
 obtain⟨o,ho,hoc,hap,ha,hb⟩:=HDO.o.2 hfk;have HSO2:AO (JP D U k T nT ks kind tk now N=o):=by show _=_;rw[HSO.o];exact ho
 have HOC:AO (o.c=c):=hoc;have HAP:AO (I8 D U k T nT fk a b=⟨true,o.D,o.U,o.k,o.T,o.n⟩):=hap;clear HDO HSO ho hoc hap HQ
 go_upto_region 6 with fail
 clear f1 hfk;go_wp2_with (first
  |(refine Ae rfl 33 (aM 3) rfl w.heap.size rfl 33 _ (0,0) _ HX5.o.sb underlying33 rfl HSZ.o ?_)
  |(refine Ae rfl 56 (aM 8) rfl w4.heap.size rfl 56 _ (0,0) _ HR5.o underlying56 rfl HFZ.o ?_)
  |fail)
 have HAP2:=HAP;refine(XM aD aU aT nD cD nU cU nT cT D U k T 0 fk a b w5 HLN.o.1 HLN.o.2.1 HLN.o.2.2 mD mU mT (HA.o w5 HX5.o.below).1 (HA.o w5 HX5.o.below).2.1 (HA.o w5 HX5.o.below).2.2.1 hcT hcm hk0 hk1 ha hb (by rw[HAP.o])).mono ?_;rintro e w9 ⟨v,rfl,hv,hb9⟩;have HX9:AO (JR w #[Z7 aD nD cD,Z7 aU nU cU,Z8 aI k,Z7 aT nT cT] #[Z8 aI kind,Z7 ta tn tc,Z8 aI now,Z8 aI N] w9):=HX5.o.call hb9;have HL9:AO (w.heap.size+2<w5.heap.size):=HX5.o.lt;rw[HAP.o] at hv;obtain⟨bD,mD',dD,bU,mU',dU,bT,mT',dT,rfl,hv⟩:=hv;have HV:AO (At aI w9 bD o.D/\At aI w9 bU o.U/\At aI w9 bT o.T/\o.D.length=mD'/\o.U.length=mU'/\o.T.length=mT'*2/\EY w5.heap.size w9 bD/\EY w5.heap.size w9 bU/\EY w5.heap.size w9 bT/\mT'<=dT/\dT<=9223372036854775807):=hv;have HRB:AO (w9.heap[w.heap.size+2]?=aE (aJ CX 35 (0,0))):=HX9.o.rb;have HF:AO (IE w.heap.size (w9.setRow (w.heap.size+2) #[Z8 aI c,Z7 bD mD' dD,Z7 bU mU' dU,Z8 aI o.k,Z7 bT mT' dT]) (aH #[Z8 aI c,Z7 bD mD' dD,Z7 bU mU' dU,Z8 aI o.k,Z7 bT mT' dT]) (JP D U k T nT ks kind tk now N)/\Below w.heap.size w (w9.setRow (w.heap.size+2) #[Z8 aI c,Z7 bD mD' dD,Z7 bU mU' dU,Z8 aI o.k,Z7 bT mT' dT])):=by
  refine⟨?_,HX9.o.below.trans ((Wr.setRow _ _ _).below AJ)⟩;rw[HSO2.o];obtain⟨v1,v2,v3,v4,v5,v6,l1,l2,l3,v7,v8⟩:=HV.o;have hl:=HL9.o;have hw:Wr (w.heap.size+2) w9 (w9.setRow (w.heap.size+2) #[Z8 aI c,Z7 bD mD' dD,Z7 bU mU' dU,Z8 aI o.k,Z7 bT mT' dT]):=Wr.setRow _ _ _;have K:∀ {x:Option Addr} {xs:List Int},At aI w9 x xs->EY w5.heap.size w9 x->At aI (w9.setRow (w.heap.size+2) #[Z8 aI c,Z7 bD mD' dD,Z7 bU mU' dU,Z8 aI o.k,Z7 bT mT' dT]) x xs/\EY w.heap.size (w9.setRow (w.heap.size+2) #[Z8 aI c,Z7 bD mD' dD,Z7 bU mU' dU,Z8 aI o.k,Z7 bT mT' dT]) x:=λh l=>by
   refine⟨h.keepT (by rw[hw.size];exact Ac _) (λad e _=>hw.block _ (AG (l ad e).1)),λad e=>?_⟩;have:=l ad e;rw[hw.size];omega
  exact⟨_,_,_,_,_,_,_,_,_,by rw[HOC.o],(K v1 l1).1,(K v2 l2).1,(K v3 l3).1,v4,v5,v6,(K v1 l1).2,(K v2 l2).2,(K v3 l3).2,v7,v8⟩
 have hfd:=XN w9 true bD bU bT mD' dD mU' dU mT' dT o.k;clear hb9 HV HL9 HX5 hv;go_wp2_with (first
  |(refine AE 35 (aM 6) (aM 49) (w.heap.size+2) #[Z8 aI c,Z7 bD mD' dD,Z7 bU mU' dU,Z8 aI o.k,Z7 bT mT' dT] 35 HRB.o HRZ.o rfl (by simp[Value.oneCell']) ?_)
  |fail)
 exact Ab (v:=aH #[Z8 aI c,Z7 bD mD' dD,Z7 bU mU' dU,Z8 aI o.k,Z7 bT mT' dT]) (Ah rfl _ _ (w.heap.size+2) 35 _ (0,0) _ rfl (AB HRB.o) underlying35 rfl HRZ.o) rfl ⟨_,rfl,HF.o.1,HF.o.2⟩
def OL (H B g:Nat) (w:aC) (r:I9) (e:Ending) (w':aC):Prop:=
 e=aK (Z8 aI r.c)/\Below H w w'/\∃ d u v,Bk w' g d u r.k v/\Dg d (λx=>(x:Int)∈r.D)/\Dg u (λx=>(x:Int)∈r.U)/\Du B w' v r.T r.n/\NF g v
structure Ku (H B g:Nat) (w:aC) (d u:List Int) (v:aB) (D U:List Int) (k:Int) (T:List Int) (n:Nat):Prop where
 bk:Bk w g d u k v
 sd:Dg d (λx=>(x:Int)∈D)
 su:Dg u (λx=>(x:Int)∈U)
 tv:Du B w v T n
 ser:Dk D
 h0:0<=k
 h1:k<=1048576
 hn:n<=1048576
 hH:H<=g
 hHB:H<=B
 ne:NF g v
 hBw:B<=w.heap.size
section
variable {H B g:Nat} {w w':aC} {d u:List Int} {v:aB} {D U:List Int} {k:Int} {T:List Int} {n:Nat} {ks tk:List Int} {now N:Int}
theorem Ku.same (h:Ku H B g w d u v D U k T n) (c:Int):OL H B g w ⟨c,D,U,k,T,n⟩ (aK (Z8 aI c)) w:=⟨rfl,A9 _ _,d,u,v,h.bk,h.sd,h.su,h.tv,h.ne⟩
theorem Ku.drew (h:Ku H B g w d u v D U k T n) (q:Nat):Ku H B g (w.drewN q) d u v D U k T n:=⟨h.bk.drew q,h.sd,h.su,h.tv.drew q,h.ser,h.h0,h.h1,h.hn,h.hH,h.hHB,h.ne,h.hBw⟩
theorem Ku.below (h:Ku H B g w d u v D U k T n) (b:Below w.heap.size w w'):Ku H B g w' d u v D U k T n:=
 ⟨h.bk.below b h.bk.lt,h.sd,h.su,h.tv.block b.size (λt _ ht=>b.block t ht),h.ser,h.h0,h.h1,h.hn,h.hH,h.hHB,h.ne,BG h.hBw b.size⟩
theorem OL.from {r:I9} {e:Ending} {w1:aC} (h:OL H B g w1 r e w') (b:Below H w w1):OL H B g w r e w':=⟨h.1,b.trans h.2.1,h.2.2⟩
theorem PU:FH D U k T n ks 2 tk now N=if 0<=N/\N<256 then(if DO N D=true then ⟨9,D,U,k,T,n⟩ else if D.length=16 then ⟨10,D,U,k,T,n⟩ else ⟨9,Df D N.toNat,U,k,T,n⟩) else ⟨10,D,U,k,T,n⟩:=by unfold FH;rw[AQ AK,AP rfl]
theorem TM:FH D U k T n ks 3 tk now N=if 0<=N/\N<256 then(if DO N D=true then ⟨9,Dl D N.toNat,U,k,T,n⟩ else ⟨9,D,U,k,T,n⟩) else ⟨10,D,U,k,T,n⟩:=by unfold FH;rw[AQ AK,AQ AK,AP rfl]
theorem TN:FH D U k T n ks 4 tk now N=if N<k then ⟨10,D,U,k,T,n⟩ else if k+(n:Int)<N then ⟨10,D,U,k,T,n⟩ else if N=k then ⟨9,D,U,k,T,n⟩ else ⟨9,D,U,N,T.drop ((N-k).toNat*2),n-(N-k).toNat⟩:=by unfold FH;rw[AQ AK,AQ AK,AQ AK,AP rfl]
theorem VE (h:Ku H B g w d u v D U k T n) :
  Calls tP 50 #[aF (aE ⟨g,0,aA⟩),Z8 aI N] w (OL H B g w (FH D U k T n ks 2 tk now N)):=by
 have HB:=Cd h;clear h;by_cases hs:0<=N/\N<256
 ·obtain⟨m,rfl⟩:∃ m:Nat,N=m:=⟨N.toNat,AJ⟩
  have hm:m<256:=AJ
  have HSO:AO (FY (m:Int)=true):=Oi hm;by_cases hin:DO (m:Int) D=true
  ·have HR:AO (FH D U k T n ks 2 tk now (m:Int)=⟨9,D,U,k,T,n⟩):=by show _=_;rw[PU,AP hs,AP hin]
   have HQ:AO (m<256/\(m:Int)∈D):=⟨hm,JQ hin⟩
   clear hs hin;go_enter func50,ntmps50;go_wp2_with fail;refine(DJ _ _).mono ?_;rintro e w1 ⟨rfl,e1⟩;obtain rfl:w=w1:=e1.symm;rw[HSO.o];go_wp2_with fail;refine(NW m HB.o.bk.batd HB.o.sd HQ.o).mono ?_;rintro e w1 ⟨rfl,e1⟩;obtain rfl:w=w1:=e1.symm;have HF:=Cd (HB.o.same 9);clear HB HSO HQ;go_wp2
   go_ret
   rw[HR.o];exact HF.o
  ·have HQ:AO (¬ (m<256/\(m:Int)∈D)):=λh=>Gy hin h.2
   by_cases h16:D.length=16
   ·have HR:AO (FH D U k T n ks 2 tk now (m:Int)=⟨10,D,U,k,T,n⟩):=by show _=_;rw[PU,AP hs,AQ hin,AP h16]
    have HP:AO (decide (GB d 32=16)=true):=Al ((Oa HB.o.sd HB.o.ser).trans h16);clear hs hin h16;go_enter func50,ntmps50;go_wp2_with fail;refine(DJ _ _).mono ?_;rintro e w1 ⟨rfl,e1⟩;obtain rfl:w=w1:=e1.symm;rw[HSO.o];go_wp2_with fail;refine(KW m HB.o.bk.batd HB.o.sd HQ.o).mono ?_;rintro e w1 ⟨rfl,e1⟩;obtain rfl:w=w1:=e1.symm;go_wp2_with fail;refine(MI HB.o.bk).mono ?_;rintro e w1 ⟨rfl,e1⟩;obtain rfl:w=w1:=e1.symm;rw[HP.o];have HF:=Cd (HB.o.same 10);clear HB HSO HQ HP;go_wp2
    go_ret
    rw[HR.o];exact HF.o
   ·have HR:AO (FH D U k T n ks 2 tk now (m:Int)=⟨9,Df D m,U,k,T,n⟩):=by show _=_;rw[PU,AP hs,AQ hin,AQ h16];rfl
    have HP:AO (decide (GB d 32=16)=false):=Af (λh=>h16 ((Oa HB.o.sd HB.o.ser).symm.trans h));have HF:∀ q,AO (OL H B g w ⟨9,Df D m,U,k,T,n⟩ (aK (Z8 aI 9)) ((w.setCell ⟨g,0+m/8,aA⟩ (Z8 Z9 ((Ds d m).getD (m/8) 0))).drewN q)):=λq=>by
     have hw:Wr g w ((w.setCell ⟨g,0+m/8,aA⟩ (Z8 Z9 ((Ds d m).getD (m/8) 0))).drewN q):=((Wr.refl _ _).setCell _ _).drewN _;exact⟨rfl,hw.below HB.o.hH,_,_,_,(HB.o.bk.addD m hm).drew q,(HB.o.sd.add m hm).congr (λx hx=>Kn hx),HB.o.su,HB.o.tv.wr hw HB.o.ne,HB.o.ne⟩
    clear hs hin h16;go_enter func50,ntmps50;go_wp2_with fail;refine(DJ _ _).mono ?_;rintro e w1 ⟨rfl,e1⟩;obtain rfl:w=w1:=e1.symm;rw[HSO.o];go_wp2_with fail;refine(KW m HB.o.bk.batd HB.o.sd HQ.o).mono ?_;rintro e w1 ⟨rfl,e1⟩;obtain rfl:w=w1:=e1.symm;go_wp2_with fail;refine(MI HB.o.bk).mono ?_;rintro e w1 ⟨rfl,e1⟩;obtain rfl:w=w1:=e1.symm;rw[HP.o];go_wp2_with fail;refine(JU g 0 m d _ hm HB.o.bk.batd).mono ?_;rintro e w4 ⟨rfl,q,rfl⟩;have H2:=HF q;clear HF HB HSO HQ HP;generalize (w.setCell ⟨g,0+m/8,aA⟩ (Z8 Z9 ((Ds d m).getD (m/8) 0))).drewN q=w4 at *;go_wp2
    go_ret
    rw[HR.o];exact H2.o
 ·have HR:AO (FH D U k T n ks 2 tk now N=⟨10,D,U,k,T,n⟩):=by show _=_;rw[PU,AQ hs]
  have HSO:AO (FY N=false):=Af hs;clear hs;go_enter func50,ntmps50;go_wp2_with fail;refine(DJ _ _).mono ?_;rintro e w1 ⟨rfl,e1⟩;obtain rfl:w=w1:=e1.symm;rw[HSO.o];have HF:=Cd (HB.o.same 10);clear HB HSO;go_wp2
  go_ret
  rw[HR.o];exact HF.o
theorem VF (h:Ku H B g w d u v D U k T n) :
  Calls tP 51 #[aF (aE ⟨g,0,aA⟩),Z8 aI N] w (OL H B g w (FH D U k T n ks 3 tk now N)):=by
 have HB:=Cd h;clear h;by_cases hs:0<=N/\N<256
 ·obtain⟨m,rfl⟩:∃ m:Nat,N=m:=⟨N.toNat,AJ⟩
  have hm:m<256:=AJ
  have HSO:AO (FY (m:Int)=true):=Oi hm;have HF:∀ q,AO (OL H B g w (FH D U k T n ks 3 tk now (m:Int)) (aK (Z8 aI 9)) ((w.setCell ⟨g,0+m/8,aA⟩ (Z8 Z9 ((FD d m).getD (m/8) 0))).drewN q)):=λq=>by
   have hw:Wr g w ((w.setCell ⟨g,0+m/8,aA⟩ (Z8 Z9 ((FD d m).getD (m/8) 0))).drewN q):=((Wr.refl _ _).setCell _ _).drewN _;show OL _ _ _ _ _ _ _
   by_cases hin:DO (m:Int) D=true
   ·rw[TM,AP hs,AP hin];exact⟨rfl,hw.below HB.o.hH,_,_,_,(HB.o.bk.remD m hm).drew q,(HB.o.sd.rem m hm).congr (λx hx=>QW),HB.o.su,HB.o.tv.wr hw HB.o.ne,HB.o.ne⟩
   ·rw[TM,AP hs,AQ hin];refine⟨rfl,hw.below HB.o.hH,_,_,_,(HB.o.bk.remD m hm).drew q,(HB.o.sd.rem m hm).congr (λx hx=>⟨λh=>h.1,λh=>⟨h,λe=>?_⟩⟩),HB.o.su,HB.o.tv.wr hw HB.o.ne,HB.o.ne⟩;subst e;exact Gy hin h
  clear hs;go_enter func51,ntmps51;go_wp2_with fail;refine(DJ _ _).mono ?_;rintro e w1 ⟨rfl,e1⟩;obtain rfl:w=w1:=e1.symm;rw[HSO.o];go_wp2_with fail;refine(Lr g 0 m d _ hm HB.o.bk.batd).mono ?_;rintro e w4 ⟨rfl,q,rfl⟩;have H2:=HF q;clear HF HB HSO;generalize (w.setCell ⟨g,0+m/8,aA⟩ (Z8 Z9 ((FD d m).getD (m/8) 0))).drewN q=w4 at *;go_wp2
  go_ret
  exact H2.o
 ·have HR:AO (FH D U k T n ks 3 tk now N=⟨10,D,U,k,T,n⟩):=by show _=_;rw[TM,AQ hs]
  have HSO:AO (FY N=false):=Af hs;clear hs;go_enter func51,ntmps51;go_wp2_with fail;refine(DJ _ _).mono ?_;rintro e w1 ⟨rfl,e1⟩;obtain rfl:w=w1:=e1.symm;rw[HSO.o];have HF:=Cd (HB.o.same 10);clear HB HSO;go_wp2
  go_ret
  rw[HR.o];exact HF.o
theorem VG (h:Ku H B g w d u v D U k T n) :
  Calls tP 52 #[aF (aE ⟨g,0,aA⟩),Z8 aI N] w (OL H B g w (FH D U k T n ks 4 tk now N)):=by
 have HB:=Cd h;obtain⟨ad,c,rfl⟩:=h.tv.slice;have c0:=h.bk.ck;have h0:=h.h0;have h1:=h.h1;have hn:=h.hn;clear h;by_cases hlo:N<k
 ·have HR:AO (FH D U k T n ks 4 tk now N=⟨10,D,U,k,T,n⟩):=by show _=_;rw[TN,AP hlo]
  have HF:=Cd (HB.o.same 10);clear HB;go_enter func52,ntmps52;go_wp2
  go_ret
  rw[HR.o];exact HF.o
 have HAD:=LB ad n c HB.o.bk h0 h1 hn;by_cases hhi:k+(n:Int)<N
 ·have HR:AO (FH D U k T n ks 4 tk now N=⟨10,D,U,k,T,n⟩):=by show _=_;rw[TN,AQ hlo,AP hhi]
  go_enter func52,ntmps52;go_wp2_with fail;refine HAD.mono ?_;rintro e w1 ⟨rfl,q,rfl⟩;have HF:=Cd (((HB.o.drew q).same 10).from (w:=w) (EG Cg q));clear HB HAD c0;generalize w.drewN q=w1 at *;go_wp2
  go_ret
  rw[HR.o];exact HF.o
 ·obtain⟨m,rfl⟩:∃ m:Nat,N=k+m:=⟨(N-k).toNat,AJ⟩
  have HR:AO (FH D U k T n ks 4 tk now (k+(m:Int))=⟨9,D,U,k+(m:Int),T.drop (m*2),n-m⟩):=by
   show _=_
   rw[TN,AQ hlo,AQ hhi];by_cases hm:k+(m:Int)=k
   ·have:m=0:=AJ
    subst this;rw[AP hm];simp
   ·rw[AQ hm,show(k+(m:Int)-k).toNat=m by omega]
  go_enter func52,ntmps52;go_wp2_with fail;refine HAD.mono ?_;rintro e w1 ⟨rfl,q,rfl⟩;have HB1:=Cd (HB.o.drew q);have HW1:AO (Below H w (w.drewN q)):=EG Cg q;clear HB HAD c0;generalize w.drewN q=w1 at *;go_wp2_with fail;refine(UB m HB1.o.bk HB1.o.tv h0 h1 AJ hn HB1.o.hH HB1.o.ne).mono ?_;rintro e w2 ⟨rfl,hb2,v',r1,r2,r3⟩;have HF:AO (OL H B g w ⟨9,D,U,k+(m:Int),T.drop (m*2),n-m⟩ (aK (Z8 aI 9)) w2):=⟨rfl,HW1.o.trans hb2,_,_,_,r1,HB1.o.sd,HB1.o.su,r2,r3⟩
  clear hb2 r1 r2 r3 HB1 HW1;go_wp2
  go_ret
  rw[HR.o];exact HF.o
end
end Go.Proofs.YtjdhhgaelgemcaaGreatDoor
namespace Go.Proofs.YtjdhhgaelgemcaaGreatDoor
open Go.ChangeShapes Go.WideShapes Go.ChangeAt Go.RowKit Go.Joins
set_option linter.unusedVariables false
theorem FW {w w':aC} (h:D4 w) (hz:1<w.heap.size) (hb:Below w.heap.size w w'):D4 w':=λi hi=>by rw[hb.cell (p:=⟨1,i,aA⟩) hz];exact h i hi
theorem Lg (w:aC):Pt (w.alloc (aJ CW 140)) w.heap.size [0,0,0,0,0] [0,0,0,0,0] [0,0,0,0,0] [0,0,0,0,0]:=⟨AX w _,FN,FN,FN,FN⟩
theorem XO {pub msg sig:List Int} (h:¬ sig.length=64):Hj pub msg sig=false:=by unfold Hj;simp[h]
theorem YU {pub msg sig:List Int} (h:decide (val 256 (sig.drop 32)<DQ)=false):Hj pub msg sig=false:=by unfold Hj;simp[h]
theorem YV {pub msg sig:List Int} (h:mB pub Dy=false):Hj pub msg sig=false:=by unfold Hj;simp[h]
theorem YW {pub msg sig:List Int} (h:mB (sig.take 32) Dy=false):Hj pub msg sig=false:=by unfold Hj;simp[h]
theorem YX {pub msg sig:List Int} (h1:sig.length=64) (h2:decide (val 256 (sig.drop 32)<DQ)=true) (h3:mB pub Dy=true) (h4:mB (sig.take 32) Dy=true):Hj pub msg sig=Iq pub msg sig:=by unfold Hj;rw[h2,h3,h4,Al h1];simp
theorem TP {zs x y z t:List Int} (hz:Ci zs) (hb:mB zs Dy=true) (hv:LV zs=true->ev x=I7 zs/\ev y=Fh zs/\ev z=1/\ev t=I7 zs*Fh zs%fp):((ev x,ev y,ev z,ev t):Q4)=EM zs:=by
 obtain⟨e1,e2,e3,e4⟩:=hv (by rw[Ju zs hz];exact hb);have q1:=QT zs (JN hb).1 hz (JN hb).2;unfold EM;rw[e1,q1,e2,e3,e4,q1];rfl
theorem TQ (x y z t:List Int):Rd ((ev x,ev y,ev z,ev t):Q4):=⟨Gk _,Gk _,Gk _,Gk _⟩
theorem VH (bp op cp bm om cm bs os cs np nm ns:Nat) (pub msg sig:List Int) (w:aC) (hpl:pub.length=np) (hml:msg.length=nm) (hsl:sig.length=ns) (hp:Fq w bp op pub) (hm:Fq w bm om msg) (hs:Fq w bs os sig)
  (zp:Ci pub) (zm:Ci msg) (zs:Ci sig) (hcs:ns<=cs) (bnp:np<=1048576) (bnm:nm<=1048576) (bns:ns<=1048576) (hT:D4 w) (h0:1<w.heap.size) :
  Calls tP 81 #[Z7 (aE ⟨bp,op,aA⟩) np cp,Z7 (aE ⟨bm,om,aA⟩) nm cm,Z7 (aE ⟨bs,os,aA⟩) ns cs] w λe w'=>e=aK (aG (Hj pub msg sig))/\Below w.heap.size w w':=by
 have HB0:AO (Below w.heap.size w (((w.alloc (aJ CW 140)).alloc (aJ CW 140)).alloc (aJ CW 140))):=((Ck _ _).trans ((Ck _ _).mono AL)).trans ((Ck _ _).mono (by simp;omega));have HK0:AO (Pt (((w.alloc (aJ CW 140)).alloc (aJ CW 140)).alloc (aJ CW 140)) w.heap.size [0,0,0,0,0] [0,0,0,0,0] [0,0,0,0,0] [0,0,0,0,0]):=((Lg w).below (Ck _ _) AL).below (Ck _ _) (by simp;omega);have HN0:AO (Pt (((w.alloc (aJ CW 140)).alloc (aJ CW 140)).alloc (aJ CW 140)) (w.heap.size+1) [0,0,0,0,0] [0,0,0,0,0] [0,0,0,0,0] [0,0,0,0,0]):=by
  have:=(Lg (w.alloc (aJ CW 140))).below (Ck ((w.alloc (aJ CW 140)).alloc (aJ CW 140)) (aJ CW 140)) AL;rw[show(w.alloc (aJ CW 140)).heap.size=w.heap.size+1 by simp] at this;exact this
 have HL0:AO (Pt (((w.alloc (aJ CW 140)).alloc (aJ CW 140)).alloc (aJ CW 140)) (w.heap.size+1+1) [0,0,0,0,0] [0,0,0,0,0] [0,0,0,0,0] [0,0,0,0,0]):=by
  have:=Lg ((w.alloc (aJ CW 140)).alloc (aJ CW 140));rw[show((w.alloc (aJ CW 140)).alloc (aJ CW 140)).heap.size=w.heap.size+1+1 by simp] at this;exact this
 have HP:=Cd hp;have HM:=Cd hm;have HS:=Cd hs;have HZ:=Cd (BC zp (BC zm zs));have HT:=Cd (BC hT h0);clear hp hm hs zp zm zs hT h0;by_cases h64:ns=64
 ·subst h64;have hslh:=λw=>Iz w bs os cs hcs
  have hsll:=λw=>I0 w bs os cs hcs
  have hdl:(sig.drop 32).length=32:=by rw[BJ,hsl]
  have htl:(sig.take 32).length=32:=by rw[Ap,hsl];rfl
  go_enter func81,ntmps81;go_wp2_with fail;generalize (((w.alloc (aJ CW 140)).alloc (aJ CW 140)).alloc (aJ CW 140))=w0 at *;refine(Sk (aE ⟨bs,os+32,aA⟩) 32 (cs-32) (sig.drop 32) _ hdl ((HS.o.below HB0.o).drop 32).at_ (Hk HZ.o.2.2 32)).mono ?_;rintro e w1 ⟨rfl,b1⟩;have HB1:AO (Below w.heap.size w w1):=HB0.o.trans (b1.mono HB0.o.size);have HK1:AO (Pt w1 w.heap.size [0,0,0,0,0] [0,0,0,0,0] [0,0,0,0,0] [0,0,0,0,0]):=HK0.o.below b1 HK0.o.row.lt;have HN1:AO (Pt w1 (w.heap.size+1) [0,0,0,0,0] [0,0,0,0,0] [0,0,0,0,0] [0,0,0,0,0]):=HN0.o.below b1 HN0.o.row.lt;have HL1:AO (Pt w1 (w.heap.size+1+1) [0,0,0,0,0] [0,0,0,0,0] [0,0,0,0,0] [0,0,0,0,0]):=HL0.o.below b1 HL0.o.row.lt;have hqq:decide (32=32/\val 256 (sig.drop 32)<DQ)=decide (val 256 (sig.drop 32)<DQ):=AL
  rw[hqq];clear b1 HB0 HK0 HN0 HL0 hqq;cases hq:decide (val 256 (sig.drop 32)<DQ) with
  |false=>
   have HV:=Cd (YU (pub:=pub) (msg:=msg) hq);clear hq HK1 HN1 HL1;go_wp2
   go_ret
   exact⟨by rw[HV.o];rfl,HB1.o⟩
  |true=>
   have HQ:=Cd hq;clear hq;go_wp2_with fail;refine(IA w.heap.size _ _ _ _ (aE ⟨bp,op,aA⟩) np cp pub _ hpl bnp (HP.o.below HB1.o).at_ HZ.o.1 HK1.o).mono ?_;rintro e w2 ⟨x1,y1,z1,t1,P1,hw1,rfl,hv1⟩;have HB2:AO (Below w.heap.size w w2):=HB1.o.trans (hw1.below w.heap.size Cl HB1.o.size);have HK2:AO (Pt w2 w.heap.size x1 y1 z1 t1):=P1;have HN2:AO (Pt w2 (w.heap.size+1) [0,0,0,0,0] [0,0,0,0,0] [0,0,0,0,0] [0,0,0,0,0]):=HN1.o.wrh2 hw1 AJ;have HL2:AO (Pt w2 (w.heap.size+1+1) [0,0,0,0,0] [0,0,0,0,0] [0,0,0,0,0] [0,0,0,0,0]):=HL1.o.wrh2 hw1 AJ;have HV1:=Cd hv1;rw[Ju pub HZ.o.1];clear hw1 P1 hv1 HB1 HK1 HN1 HL1;cases hb:mB pub Dy with
   |false=>
    have HV:=Cd (YV (msg:=msg) (sig:=sig) hb);clear hb HK2 HN2 HL2 HV1;go_wp2
    go_ret
    exact⟨by rw[HV.o];rfl,HB2.o⟩
   |true=>
    have HE1:=Cd (TP HZ.o.1 hb HV1.o);have HBP:=Cd hb;obtain rfl:np=32:=by rw[<-hpl];exact(JN hb).1
    clear hb HV1;go_wp2_with fail;refine(IA (w.heap.size+1) _ _ _ _ (aE ⟨bs,os,aA⟩) 32 cs (sig.take 32) _ htl AK ((HS.o.below HB2.o).take 32).at_ (FV HZ.o.2.2 32) HN2.o).mono ?_;rintro e w3 ⟨x2,y2,z2,t2,P2,hw2,rfl,hv2⟩;have HB3:AO (Below w.heap.size w w3):=HB2.o.trans (hw2.below w.heap.size AJ HB2.o.size);have HK3:AO (Pt w3 w.heap.size x1 y1 z1 t1):=HK2.o.wrh2 hw2 AJ;have HN3:AO (Pt w3 (w.heap.size+1) x2 y2 z2 t2):=P2;have HL3:AO (Pt w3 (w.heap.size+1+1) [0,0,0,0,0] [0,0,0,0,0] [0,0,0,0,0] [0,0,0,0,0]):=HL2.o.wrh2 hw2 AJ;have HV2:=Cd hv2;rw[Ju (sig.take 32) (FV HZ.o.2.2 32)];clear hw2 P2 hv2 HB2 HK2 HN2 HL2;cases hb2:mB (sig.take 32) Dy with
    |false=>
     have HV:=Cd (YW (msg:=msg) (pub:=pub) hb2);clear hb2 HK3 HN3 HL3 HV2;go_wp2
     go_ret
     exact⟨by rw[HV.o];rfl,HB3.o⟩
    |true=>
     have HE2:=Cd (TP (FV HZ.o.2.2 32) hb2 HV2.o);have HVR:=Cd (YX (msg:=msg) hsl HQ.o HBP.o hb2);clear hb2 HV2 HQ HBP;go_wp2_with fail;refine(S5 _).mono ?_;rintro e w4 ⟨v4,b4s,rfl,o4,c1,c2,c3,b4⟩;obtain rfl:=V4 c1 c2 c3;obtain⟨g4,c4,rfl,hA4,hc4⟩:=Fq.of_own o4;have HB4:AO (Below w.heap.size w w4):=HB3.o.trans (b4.mono HB3.o.size);have HK4:AO (Pt w4 w.heap.size x1 y1 z1 t1):=HK3.o.below b4 HK3.o.row.lt;have HN4:AO (Pt w4 (w.heap.size+1) x2 y2 z2 t2):=HN3.o.below b4 HN3.o.row.lt;have HL4:AO (Pt w4 (w.heap.size+1+1) [0,0,0,0,0] [0,0,0,0,0] [0,0,0,0,0] [0,0,0,0,0]):=HL3.o.below b4 HL3.o.row.lt;have HA4:=Cd hA4;rw[Jv];clear o4 c1 c2 c3 b4 hA4 hc4 HB3 HK3 HN3 HL3;go_wp2_with fail;refine(IA (w.heap.size+1+1) _ _ _ _ (aE ⟨g4,0,aA⟩) 32 c4 bB _ Jv AK HA4.o.at_ JO HL4.o).mono ?_;rintro e w5 ⟨x3,y3,z3,t3,P3,hw3,rfl,hv3⟩;have HB5:AO (Below w.heap.size w w5):=HB4.o.trans (hw3.below w.heap.size AJ HB4.o.size);have HK5:AO (Pt w5 w.heap.size x1 y1 z1 t1):=HK4.o.wrh2 hw3 AJ;have HN5:AO (Pt w5 (w.heap.size+1) x2 y2 z2 t2):=HN4.o.wrh2 hw3 AJ;have HL5:AO (Pt w5 (w.heap.size+1+1) x3 y3 z3 t3):=P3;have HE3:=Cd (TP JO TA hv3);generalize LV bB=rb at *;clear hw3 P3 hv3 HB4 HK4 HN4 HL4 HA4;go_wp2_with fail;refine(LA (aE ⟨bs,os+32,aA⟩) 32 (cs-32) (sig.drop 32) _ hdl AK AK ((HS.o.below HB5.o).drop 32).at_ (Hk HZ.o.2.2 32)).mono ?_;rintro e w6 ⟨ms,hl,hw,hv,rfl,b6⟩;rw[Ad AJ] at hv;have HB6:AO (Below w.heap.size w w6):=HB5.o.trans (b6.mono HB5.o.size);have HK6:AO (Pt w6 w.heap.size x1 y1 z1 t1):=HK5.o.below b6 HK5.o.row.lt;have HN6:AO (Pt w6 (w.heap.size+1) x2 y2 z2 t2):=HN5.o.below b6 HN5.o.row.lt;have HL6:AO (Pt w6 (w.heap.size+1+1) x3 y3 z3 t3):=HL5.o.below b6 HL5.o.row.lt;have CM:=Cd (Ie (w.heap.size+1+1) x3 y3 z3 t3 ms w6 HL6.o hl hw);rw[HE3.o,hv] at CM;clear b6 HB5 HK5 HN5 HL5 hl hw hv;go_wp2_with fail;refine CM.o.mono ?_;rintro e w7 ⟨x4,y4,z4,t4,P4,hw4,rfl,hq4⟩;have HB7:AO (Below w.heap.size w w7):=HB6.o.trans (hw4.below w.heap.size AJ HB6.o.size);have HK7:AO (Pt w7 w.heap.size x1 y1 z1 t1):=HK6.o.wrh2 hw4 AJ;have HN7:AO (Pt w7 (w.heap.size+1) x2 y2 z2 t2):=HN6.o.wrh2 hw4 AJ;have HL7:AO (Pt w7 (w.heap.size+1+1) x4 y4 z4 t4):=P4;have HQ4:=Cd hq4;clear P4 hw4 hq4 CM HB6 HK6 HN6 HL6;have hfl:[sig.take 32,pub,msg].flatten=sig.take 32++pub++msg:=AL
     have hfn:(sig.take 32++pub++msg).length=32+32+nm:=by rw[Ak,Ak,htl,hpl,hml]
     have HAL:AO (Below w7.heap.size w7 (w7.alloc (aJ #[Z7 (aE ⟨bs,os,aA⟩) 32 cs,Z7 (aE ⟨bp,op,aA⟩) 32 cp,Z7 (aE ⟨bm,om,aA⟩) nm cm] 26))):=Ck _ _;have CC:AO (Calls tP 108 #[Z7 (aE ⟨w7.heap.size,0,aA⟩) 3 3] (w7.alloc (aJ #[Z7 (aE ⟨bs,os,aA⟩) 32 cs,Z7 (aE ⟨bp,op,aA⟩) 32 cp,Z7 (aE ⟨bm,om,aA⟩) nm cm] 26)) _):=
      Sz w7.heap.size 3 3 [Z7 (aE ⟨bs,os,aA⟩) 32 cs,Z7 (aE ⟨bp,op,aA⟩) 32 cp,Z7 (aE ⟨bm,om,aA⟩) nm cm] [sig.take 32,pub,msg] _ rfl AL
       (λi hi=>by
        rw[AA (AX w7 _) i]
        match i,hi with
        |0,_=>rfl
        |1,_=>rfl
        |2,_=>rfl)
       (λi hi=>by
        have bx:=HB7.o.trans (HAL.o.mono HB7.o.size)
        match i,hi with
        |0,_=>exact((HS.o.below bx).take 32).part 32 cs htl
        |1,_=>exact(HP.o.below bx).part 32 cp hpl
        |2,_=>exact(HM.o.below bx).part nm cm hml)
       (by rw[hfl,hfn];omega) (by rw[hfl,hfn];omega) AK
     rw[hfl] at CC;have HFN:=Cd hfn;clear hfl hfn;go_wp2_with fail;refine CC.o.mono ?_;rintro e w8 ⟨v8,rfl,o8,b8⟩;obtain⟨g8,c8,rfl,hA8,hc8⟩:=Fq.of_own o8;have b78:Below w7.heap.size w7 w8:=HAL.o.trans (b8.mono HAL.o.size);have HB8:AO (Below w.heap.size w w8):=HB7.o.trans (b78.mono HB7.o.size);have HK8:AO (Pt w8 w.heap.size x1 y1 z1 t1):=HK7.o.below b78 HK7.o.row.lt;have HN8:AO (Pt w8 (w.heap.size+1) x2 y2 z2 t2):=HN7.o.below b78 HN7.o.row.lt;have HL8:AO (Pt w8 (w.heap.size+1+1) x4 y4 z4 t4):=HL7.o.below b78 HL7.o.row.lt;have HBY:AO (Ci (sig.take 32++pub++msg)):=λz hz=>by
      simp only[List.mem_append] at hz;rcases hz with (h|h)|h
      ·exact FV HZ.o.2.2 32 z h
      ·exact HZ.o.1 z h
      ·exact HZ.o.2.1 z h
     have CH:=Cd (R5 (aE ⟨g8,0,aA⟩) _ c8 (sig.take 32++pub++msg) w8 rfl hA8.at_ HBY.o (by rw[HFN.o];omega) hc8 (FW HT.o.1 HT.o.2 HB8.o) (As HT.o.2 HB8.o.size));clear o8 b8 b78 hA8 hc8 CC HAL HB7 HK7 HN7 HL7;rw[HFN.o] at CH |-;go_wp2_with fail;refine CH.o.mono ?_;rintro e w9 ⟨v9,rfl,o9,b9⟩;obtain⟨g9,c9,rfl,hA9,hc9⟩:=Fq.of_own o9;have HB9:AO (Below w.heap.size w w9):=HB8.o.trans (b9.mono HB8.o.size);have HK9:AO (Pt w9 w.heap.size x1 y1 z1 t1):=HK8.o.below b9 HK8.o.row.lt;have HN9:AO (Pt w9 (w.heap.size+1) x2 y2 z2 t2):=HN8.o.below b9 HN8.o.row.lt;have HL9:AO (Pt w9 (w.heap.size+1+1) x4 y4 z4 t4):=HL8.o.below b9 HL8.o.row.lt;have hsl9:(Ge (sig.take 32++pub++msg)).length=64:=by unfold Ge;rw[IR,(LM _ _ _).1]
     have CR:=Cd (Ml (aE ⟨g9,0,aA⟩) 64 c9 (Ge (sig.take 32++pub++msg)) w9 hsl9 AK hA9.at_ (by unfold Ge;exact Kd _));rw[hsl9];clear o9 b9 hA9 hc9 CH HB8 HK8 HN8 HL8 hsl9 HBY;go_wp2_with fail;refine CR.o.mono ?_;rintro e w10 ⟨ks,hl,hw,hv,rfl,b10⟩;have HB10:AO (Below w.heap.size w w10):=HB9.o.trans (b10.mono HB9.o.size);have HK10:AO (Pt w10 w.heap.size x1 y1 z1 t1):=HK9.o.below b10 HK9.o.row.lt;have HN10:AO (Pt w10 (w.heap.size+1) x2 y2 z2 t2):=HN9.o.below b10 HN9.o.row.lt;have HL10:AO (Pt w10 (w.heap.size+1+1) x4 y4 z4 t4):=HL9.o.below b10 HL9.o.row.lt;have CM:=Cd (Ie w.heap.size x1 y1 z1 t1 ks w10 HK10.o hl hw);rw[HE1.o,show val 18446744073709551616 ks=KF pub msg sig from hv] at CM;clear b10 HB9 HK9 HN9 HL9 CR hl hw hv;go_wp2_with fail;refine CM.o.mono ?_;rintro e w11 ⟨x5,y5,z5,t5,P5,hw5,rfl,hq5⟩;have HB11:AO (Below w.heap.size w w11):=HB10.o.trans (hw5.below w.heap.size Cl HB10.o.size);have HK11:AO (Pt w11 w.heap.size x5 y5 z5 t5):=P5;have HN11:AO (Pt w11 (w.heap.size+1) x2 y2 z2 t2):=HN10.o.wrh2 hw5 AJ;have HL11:AO (Pt w11 (w.heap.size+1+1) x4 y4 z4 t4):=HL10.o.wrh2 hw5 AJ;have HQ5:=Cd hq5;clear P5 hw5 hq5 CM HB10 HK10 HN10 HL10;have CA:=Cd (LZ (w.heap.size+1) w.heap.size x2 y2 z2 t2 x5 y5 z5 t5 w11 HN11.o HK11.o);go_wp2_with fail;refine CA.o.mono ?_;intro e w12 h12;obtain⟨x6,y6,z6,t6,P6,hw6,rfl,hq6⟩:=h12.q4;have HB12:AO (Below w.heap.size w w12):=HB11.o.trans (hw6.below w.heap.size AJ HB11.o.size);have HN12:AO (Pt w12 (w.heap.size+1) x6 y6 z6 t6):=P6;have HL12:AO (Pt w12 (w.heap.size+1+1) x4 y4 z4 t4):=HL11.o.wrh2 hw6 AJ;have HEQ:AO (decide (OA (ev x4) (ev y4) (ev z4)=OA (ev x6) (ev y6) (ev z6))=Hj pub msg sig):=by
      show _=_
      have hp1:Rd (EM pub):=by rw[<-HE1.o];exact TQ _ _ _ _
      have hp2:Rd (EM (sig.take 32)):=by rw[<-HE2.o];exact TQ _ _ _ _
      have hp3:Rd (EM bB):=by rw[<-HE3.o];exact TQ _ _ _ _
      rw[HVR.o,<-TD pub msg sig hp1 hp2 hp3];unfold XE;rw[<-HQ4.o,<-HQ5.o,<-HE2.o,<-hq6];rfl
     clear h12 P6 hw6 hq6 CA HB11 HK11 HN11 HL11 HE1 HE2 HE3 HQ4 HQ5 HVR;obtain⟨vr,hvr⟩:∃ v,v=Hj pub msg sig:=⟨_,rfl⟩
     rw[<-hvr] at HEQ;have HVV:=Cd hvr;clear hvr;have CL:=Cd (Ks (w.heap.size+1+1) x4 y4 z4 t4 w12 HL12.o);generalize OA (ev x4) (ev y4) (ev z4)=V1 at *;go_wp2_with fail;refine CL.o.mono ?_;rintro e w13 ⟨ls,hl1,hw1,hv1,rfl,b13⟩;have HB13:AO (Below w.heap.size w w13):=HB12.o.trans (b13.mono HB12.o.size);have HN13:AO (Pt w13 (w.heap.size+1) x6 y6 z6 t6):=HN12.o.below b13 HN12.o.row.lt;have CR:=Cd (Ks (w.heap.size+1) x6 y6 z6 t6 w13 HN13.o);generalize OA (ev x6) (ev y6) (ev z6)=V2 at *;have HW1:=Cd (BC hw1 hv1);clear b13 CL HB12 HN12 HL12 hw1 hv1;go_wp2_with fail;refine CR.o.mono ?_;rintro e w14 ⟨rs,hl2,hw2,hv2,rfl,b14⟩;have HB14:AO (Below w.heap.size w w14):=HB13.o.trans (b14.mono HB13.o.size);have HQ:AO (decide (ls=rs)=vr):=by
      show _=_
      rw[<-HEQ.o];obtain⟨hw1,hv1⟩:=HW1.o;by_cases h:ls=rs
      ·rw[Al h,Al (by rw[<-hv1,<-hv2,h])]
      ·rw[Af h,Af (λe=>h (F6 (B:=18446744073709551616) AK hw1 hw2 AJ (by rw[hv1,hv2,e])))]
     clear b14 CR HB13 HN13 HW1 HEQ hw2 hv2;go_wp2_with (simp only[IF _ 9998 4 143 underlying143 ls rs hl1 hl2]);rw[HQ.o];clear HQ;simp only[Result.andThen_ok];go_simp;go_wp2
     go_ret
     exact⟨by rw[<-HVV.o];rfl,HB14.o⟩
 ·have HV:=Cd (XO (pub:=pub) (msg:=msg) (sig:=sig) (by rw[hsl];exact h64));have h65:¬ ((ns:Int)=64):=AJ
  have h66:((ns:Int) != 64)=true:=by simpa using h65
  clear HK0 HN0 HL0;go_enter func81,ntmps81;go_wp2
  go_ret
  exact⟨by rw[HV.o];rfl,HB0.o⟩
end Go.Proofs.YtjdhhgaelgemcaaGreatDoor
namespace Go.Proofs.YtjdhhgaelgemcaaGreatDoor
open Go.ChangeShapes Go.WideShapes Go.ChangeAt Go.RowKit
set_option linter.unusedVariables false
theorem VI {H B g:Nat} {w:aC} {d u:List Int} {v:aB} {D U:List Int} {k:Int} {T:List Int} {n:Nat} (h:Ku H B g w d u v D U k T n) (bp op cp:Nat) (ks:List Int) (ta:Option Addr) (tn tc:Nat) (tk:List Int) (kind now N:Int)
  (hk:ks.length=32) (hp:Fq w bp op ks) (zk:Ci ks) (ht:tk.length=tn) (mt:tn<=1048576) (hct:tn<=tc) (hat:At Z9 w ta tk) (zt:Ci tk) (hT:D4 w) (hV:1<w.heap.size) :
  Calls tP 64 #[aF (aE ⟨g,0,aA⟩),Z7 (aE ⟨bp,op,aA⟩) 32 cp,aH #[Z8 aI kind,Z7 ta tn tc,Z8 aI now,Z8 aI N]] w λe w'=>∃ x y,e=aK (.tuple #[x,y])/\Below w.heap.size w w'/\((DX D U ks tk now=1/\x=Z8 aI (Ej tk)/\y=.nilIface)\/(¬ DX D U ks tk now=1/\y=.iface 118 (Z8 aI (DX D U ks tk now)))):=by
 have HKw0:=Cd h;have HA:AO (∀ wz,Below w.heap.size w wz->At Z9 wz ta tk/\Fq wz bp op ks/\D4 wz):=λwz h=>⟨hat.below h,hp.below h,FW hT hV h⟩
 have HL:AO (tk.length=tn/\ks.length=32/\Ci ks/\Ci tk):=⟨ht,hk,zk,zt⟩
 have HV1:AO (1<w.heap.size):=hV;have HTB:AO (I1 tk=true->tk.length=72):=λh=>by
  unfold I1 at h;simp at h;exact h.1
 have HNN:AO (0<=Ej tk):=TJ zt;have HSZ:AO ((tP.info? 81).map (·.size)=aE 3):=by show _=_;kernel_rfl
 have HCB:AO (now<0\/4294967295<now->DX D U ks tk now=10):=M5;have HCI:AO (0<=now->now<=4294967295->DX D U ks tk now=if I1 tk=false then 2 else if 256<=Ej tk then 3 else if Ez tk<now then 4 else if DO (Ej tk) D=true then 5 else if DO (Ej tk) U=true then 6 else if Hj ks (tk.take 8) (tk.drop 8)=true then 1 else 7):=PS;have HBA:AO (Below w.heap.size w (w.alloc (aJ #[Z8 aI kind,Z7 ta tn tc,Z8 aI now,Z8 aI N] 39))):=Cg.alloc Cl _;have HR0:AO ((w.alloc (aJ #[Z8 aI kind,Z7 ta tn tc,Z8 aI now,Z8 aI N] 39)).heap[w.heap.size]?=aE (aJ #[Z8 aI kind,Z7 ta tn tc,Z8 aI now,Z8 aI N] 39 (0,0))):=AX w _;clear h hk hp zk ht hat zt hT hV;go_enter func64,ntmps64
 go_upto_region 1 with fail
 generalize w.alloc (aJ #[Z8 aI kind,Z7 ta tn tc,Z8 aI now,Z8 aI N] 39)=w0 at *;have o1:w0.cell? ⟨w.heap.size,1,aA⟩=aE (Z7 ta tn tc):=by rw[AA HR0.o 1];rfl
 have o2:w0.cell? ⟨w.heap.size,2,aA⟩=aE (Z8 aI now):=by rw[AA HR0.o 2];rfl
 go_wp2_with fail;refine(KM _ _).mono ?_;rintro e w9 ⟨rfl,e9⟩;obtain rfl:w0=w9:=e9.symm;by_cases hn:0<=now/\now<=4294967295
 case neg=>
  have HNO:AO (Is now=false):=Af hn;have HF:AO (DX D U ks tk now=10):=HCB.o AJ;rw[HNO.o];clear HCB HCI HTB HKw0 o1 o2;go_wp2
  go_ret2
  exact⟨_,_,rfl,HBA.o,.inr ⟨by rw[HF.o];decide,by rw[HF.o];rfl⟩⟩
 have HNO:AO (Is now=true):=Al hn;rw[HNO.o];have HC:=Cd (HCI.o hn.1 hn.2);clear HCB HCI hn HNO;go_wp2_with fail;refine(U4 ta tn tc tk _ HL.o.1 mt hct (HA.o _ HBA.o).1 HL.o.2.2.2).mono ?_;rintro e w1 ⟨rfl,hb1⟩;have HR1:AO (w1.heap[w.heap.size]?=aE (aJ #[Z8 aI kind,Z7 ta tn tc,Z8 aI now,Z8 aI N] 39 (0,0))):=by show _=_;rw[hb1.block _ (AR.1 HR0.o).1];exact HR0.o
 have HB1:AO (Below w.heap.size w w1):=HBA.o.trans (hb1.mono HBA.o.size);clear hb1 HR0 HBA o1 o2;generalize hq:I1 tk=q at *;have HQ:AO (I1 tk=q):=hq;clear hq;obtain⟨s,x,HV⟩:∃ s x,AO (NI tk=aH #[aG q,Z8 aI s,Z8 aI x]/\(q=true->Ej tk=s/\Ez tk=x)):=by
  cases q with
  |false=>exact⟨0,0,Gw HQ.o,λh=>by cases h⟩
  |true=>exact⟨_,_,If HQ.o,λ_=>⟨rfl,rfl⟩⟩
 have HN:AO ((w1.alloc (aJ CO 81)).heap[w1.heap.size]?=aE (aJ CO 81 (0,0))):=AX w1 _;have HBX:AO (Below w1.heap.size w1 ((w1.alloc (aJ CO 81)).setRow w1.heap.size #[aG q,Z8 aI s,Z8 aI x])):=(Cg.alloc Cl _).trans ((Wr.setRow _ _ _).below Cl);have HR2:AO (((w1.alloc (aJ CO 81)).setRow w1.heap.size #[aG q,Z8 aI s,Z8 aI x]).heap[w1.heap.size]?=aE (aJ #[aG q,Z8 aI s,Z8 aI x] 81 (0,0))):=AB HN.o;rw[HV.o.1]
 go_upto_region 4 with (first
  |(refine AE 81 (aM 8) (aM 16) w1.heap.size #[aG q,Z8 aI s,Z8 aI x] 81 HN.o HSZ.o rfl (by simp[Value.oneCell']) ?_)
  |fail)
 clear HN HSZ;generalize (w1.alloc (aJ CO 81)).setRow w1.heap.size #[aG q,Z8 aI s,Z8 aI x]=w2 at *;have HB2:AO (Below w.heap.size w w2):=HB1.o.trans (HBX.o.mono HB1.o.size);have HKw2:AO (Ku H B g w2 d u v D U k T n):=HKw0.o.below HB2.o;have HRO:AO (w2.heap[w.heap.size]?=aE (aJ #[Z8 aI kind,Z7 ta tn tc,Z8 aI now,Z8 aI N] 39 (0,0))):=by show _=_;rw[HBX.o.block _ (AR.1 HR1.o).1];exact HR1.o
 have c0:w2.cell? ⟨w1.heap.size,0,aA⟩=aE (aG q):=by rw[AA HR2.o 0];rfl
 have c1:w2.cell? ⟨w1.heap.size,1,aA⟩=aE (Z8 aI s):=by rw[AA HR2.o 1];rfl
 have c2:w2.cell? ⟨w1.heap.size,2,aA⟩=aE (Z8 aI x):=by rw[AA HR2.o 2];rfl
 have o1:w2.cell? ⟨w.heap.size,1,aA⟩=aE (Z7 ta tn tc):=by rw[AA HRO.o 1];rfl
 have o2:w2.cell? ⟨w.heap.size,2,aA⟩=aE (Z8 aI now):=by rw[AA HRO.o 2];rfl
 clear HR2 HBX HR1 HRO HKw0 HB1;cases q with
 |false=>
  have HF:AO (DX D U ks tk now=2):=by show _=_;rw[HC.o,AP rfl]
  clear HC HV HTB HKw2 c1 c2 o1 o2;go_wp2
  go_ret2
  exact⟨_,_,rfl,HB2.o,.inr ⟨by rw[HF.o];decide,by rw[HF.o];rfl⟩⟩
 |true=>
 have HSV:AO (Ej tk=s):=(HV.o.2 rfl).1;have HCX:=HC.o;rw[AQ (λh=>by cases h),(HV.o.2 rfl).1,(HV.o.2 rfl).2] at HCX;have HC2:=Cd HCX;have HT72:AO (tk.length=72):=HTB.o rfl;have HS1:AO (0<=s):=by show _<=_;rw[<-HSV.o];exact HNN.o
 clear HC HV HTB HQ HCX
 go_upto_region 6 with fail
 clear c0;go_wp2_with fail;refine(DJ _ _).mono ?_;rintro e w9 ⟨rfl,e9⟩;obtain rfl:w2=w9:=e9.symm;by_cases hs:256<=s
 ·have HF:AO (DX D U ks tk now=3):=by show _=_;rw[HC2.o,AP hs]
  have HSO:AO (FY s=false):=Af AJ;rw[HSO.o];clear HC2 c1 c2 o1 o2 HKw2;go_wp2
  go_ret2
  exact⟨_,_,rfl,HB2.o,.inr ⟨by rw[HF.o];decide,by rw[HF.o];rfl⟩⟩
 have HSO:AO (FY s=true):=Al ⟨HS1.o,AJ⟩;have HS0:AO (0<=s/\s<256):=⟨HS1.o,AJ⟩
 rw[HSO.o];by_cases hx:x<now
 ·have HF:AO (DX D U ks tk now=4):=by show _=_;rw[HC2.o,AQ hs,AP hx]
  clear HC2 HKw2 c1 o1;go_wp2
  go_ret2
  exact⟨_,_,rfl,HB2.o,.inr ⟨by rw[HF.o];decide,by rw[HF.o];rfl⟩⟩
 have HCX:=HC2.o;rw[AQ hs,AQ hx] at HCX;have HC3:=Cd HCX;clear HC2 HCX hs HSO HS1
 go_upto_region 10 with fail
 clear hx c2 o2;have HAS:AO (∀ wz,Below w2.heap.size w2 wz->Calls tP 61 #[aF (aE ⟨g,0,aA⟩),Z8 aI s] wz λe w'=>e=aK (aG (DO s D))/\Below wz.heap.size wz w'):=λwz h=>by
  have hk:=HKw2.o.below h;refine(Fu g 0 s _ _ (DO s D) wz hk.bk.batd hk.sd ?_).mono ?_
  ·have e:((s.toNat:Nat):Int)=s:=Bw HS0.o.1;rw[e];exact⟨λh=>⟨HS0.o.1,HS0.o.2,JQ h⟩,λh=>Fb h.2.2⟩
  ·rintro e w' ⟨rfl,rfl⟩;exact⟨rfl,A9 _ _⟩
 have HCS:AO (w2.cell? ⟨w1.heap.size,1,aA⟩=aE (Z8 aI s)):=c1;have HLT1:AO (w1.heap.size<w2.heap.size):=block_lt_of_cell c1;have HO1:AO (w2.cell? ⟨w.heap.size,1,aA⟩=aE (Z7 ta tn tc)):=o1;have HLT:AO (w.heap.size<w2.heap.size):=block_lt_of_cell o1;obtain⟨m,hm⟩:∃ m,m=DO s D:=⟨_,rfl⟩
 have HM:AO (DO s D=m):=hm.symm;rw[<-hm] at HAS;clear hm c1 o1;go_wp2_with fail;refine Ag AM ?_;refine Cn (λ_ a b=>Below a.heap.size a b) (frame:=(λ(a b c d e f g h i j k l m n o p q r s u v w x y z A B C D E F G H I J K L M N O P Q R S T U V W X Y Z a0 a1 a2 a3 a4 a5:aB)=>λ(t:Nat->aB)=>({ tmps:=List.toArray [a,b,c,d,e,f,g,h,i,j,k,l,m,n,o,p,q,r,s,u,v,w,x,y,z,A,B,C,D,E,F,G,H,I,J,t 6,t 0,t 1,t 2,t 3,t 4,t 5,K,L,M,N,O,P,Q,R,S,T,U,V,W,X,Y,Z,a0,a1,a2,a3,a4,a5],defers:=[] }:Act)) _ _ _ _ _ _ _ _ _ _ _ _ _ _ _ _ _ _ _ _ _ _ _ _ _ _ _ _ _ _ _ _ _ _ _ _ _ _ _ _ _ _ _ _ _ _ _ _ _ _ _ _ _ _ _ _ _)
  (Ext:=λL u w'=>JC w2 [] L u w') (Good:=λi L w' v=>if i=0 then v=aF (aE ⟨g,0,aA⟩) else if i=1 then v=aF (aE ⟨g,0,aA⟩) else if i=2 then v=aF (aE ⟨g,0,aA⟩) else if i=3 then v=aF (aE ⟨w1.heap.size,1,aA⟩) else if i=4 then v=Z8 aI s else if i=5 then v=aG m else if i=6 then v=aG m else True) ?hstab AM ?hop ?hdone _ _ ((λ(x0 x1 x2 x3 x4 x5 x6:aB)=>λ(i:Nat)=>if i=0 then x0 else if i=1 then x1 else if i=2 then x2 else if i=3 then x3 else if i=4 then x4 else if i=5 then x5 else if i=6 then x6 else undef) _ _ _ _ _ _ _) _ AL ?ext ?start AL
 case start=>intro i hi h;exact absurd h Et
 case ext=>exact(JC.start w2 [] _ _ (λ_=>J6)).drew
 case hstab=>
  intro j L w9 w' i v hM _ _ h;exact h
 case hop=>
  intro i o L t w' ho hLi hx hdep K hK;have hi:i<7:=(AR.1 ho).1;obtain rfl|rfl|rfl|rfl|rfl|rfl|rfl:i=0\/i=1\/i=2\/i=3\/i=4\/i=5\/i=6:=AJ
  all_goals(simp at ho;subst ho)
  ·clear hdep;have hK':=hK w' (aF (aE ⟨g,0,aA⟩)) AL (hx.step 0 _ Cg DY) Cg;clear hK;rw[AP AN];go_simp;simpa[Ce] using hK'
  ·have d0:t 0=aF (aE ⟨g,0,aA⟩):=by simpa using(hdep ⟨0,aL⟩ AL rfl).2
   clear hdep;have hK':=hK w' (aF (aE ⟨g,0,aA⟩)) AL (hx.step 1 _ Cg DY) Cg;clear hK;rw[AP AN];go_simp;simpa[Ce,d0] using hK'
  ·have d1:t 1=aF (aE ⟨g,0,aA⟩):=by simpa using(hdep ⟨1,aL⟩ AL rfl).2
   clear hdep;have hK':=hK w' (aF (aE ⟨g,0,aA⟩)) AL (hx.step 2 _ Cg DY) Cg;clear hK;rw[AP AN];go_simp;simpa[Ce,d1] using hK'
  ·clear hdep;have hK':=hK w' (aF (aE ⟨w1.heap.size,1,aA⟩)) AL (hx.step 3 _ Cg DY) Cg;clear hK;rw[AP AN];go_simp;simpa[Ce] using hK'
  ·have d3:t 3=aF (aE ⟨w1.heap.size,1,aA⟩):=by simpa using(hdep ⟨3,aL⟩ AL rfl).2
   clear hdep;have cc:w'.cell? ⟨w1.heap.size,1,aA⟩=aE (Z8 aI s):=by rw[hx.below.cell (p:=⟨w1.heap.size,1,aA⟩) HLT1.o];exact HCS.o
   have hK':=hK w' (Z8 aI s) AL (hx.step 4 _ Cg DY) Cg;clear hK;rw[AP AN];go_simp;simpa[Ce,d3] using hK'
  ·have d2:t 2=aF (aE ⟨g,0,aA⟩):=by simpa using(hdep ⟨2,aL⟩ AL rfl).2
   have d4:t 4=Z8 aI s:=by simpa using(hdep ⟨4,aL⟩ AL rfl).2
   clear hdep;have A:=HAS.o w' hx.below;have hK':∀ ww,Below w'.heap.size w' ww->K _ ww:=λww hb=>hK ww (aG m) AL (hx.step 5 _ hb DY) hb
   clear hK;rw[AP AN];go_simp;try simp only[d2,d4]
   refine A.mono ?_;rintro e w9 ⟨rfl,hb9⟩;have hK2:=hK' w9 hb9;clear hK' A hb9;go_simp;simpa[Ce,d2,d4] using hK2
  ·have d5:t 5=aG m:=by simpa using(hdep ⟨5,aL⟩ AL rfl).2
   clear hdep;have hK':=hK w' (aG m) AL (hx.step 6 _ Cg DY) Cg;clear hK;rw[AP AN];go_simp;simpa[Ce,d5] using hK'
 case hdone=>
  intro L t w3 hx hg;have e6:t 6=aG m:=by simpa using hg 6 AK
  have HB3:AO (Below w.heap.size w w3):=HB2.o.trans (hx.below.mono HB2.o.size);have c1':w3.cell? ⟨w1.heap.size,1,aA⟩=aE (Z8 aI s):=by rw[hx.below.cell (p:=⟨w1.heap.size,1,aA⟩) HLT1.o];exact HCS.o
  have o1':w3.cell? ⟨w.heap.size,1,aA⟩=aE (Z7 ta tn tc):=by rw[hx.below.cell (p:=⟨w.heap.size,1,aA⟩) HLT.o];exact HO1.o
  have HKw3:AO (Ku H B g w3 d u v D U k T n):=HKw2.o.below hx.below;clear hg hx HAS HCS HO1 HLT HLT1 HKw2;have c1:=c1';have o1:=o1';clear c1' o1';simp only[e6];clear e6;cases m with
  |true=>
   have HF:AO (DX D U ks tk now=5):=by show _=_;rw[HC3.o,AP HM.o]
   clear HC3 HM c1 o1;go_wp2
   go_ret2
   exact⟨_,_,rfl,HB3.o,.inr ⟨by rw[HF.o];decide,by rw[HF.o];rfl⟩⟩
  |false=>
   have HC4:=HC3.o;rw[AQ (by rw[HM.o];decide)] at HC4;have HY:=Cd HC4;clear HC4 HC3 HM;have HC4:=HY;clear HY;have HAS:AO (∀ wz,Below w3.heap.size w3 wz->Calls tP 61 #[aF (aE ⟨g,32,aA⟩),Z8 aI s] wz λe w'=>e=aK (aG (DO s U))/\Below wz.heap.size wz w'):=λwz h=>by
    have hk:=HKw3.o.below h;refine(Fu g 32 s _ _ (DO s U) wz hk.bk.batu hk.su ?_).mono ?_
    ·have e:((s.toNat:Nat):Int)=s:=Bw HS0.o.1;rw[e];exact⟨λh=>⟨HS0.o.1,HS0.o.2,JQ h⟩,λh=>Fb h.2.2⟩
    ·rintro e w' ⟨rfl,rfl⟩;exact⟨rfl,A9 _ _⟩
   have HCS:AO (w3.cell? ⟨w1.heap.size,1,aA⟩=aE (Z8 aI s)):=c1;have HLT1:AO (w1.heap.size<w3.heap.size):=block_lt_of_cell c1;have HO1:AO (w3.cell? ⟨w.heap.size,1,aA⟩=aE (Z7 ta tn tc)):=o1;have HLT:AO (w.heap.size<w3.heap.size):=block_lt_of_cell o1;obtain⟨m,hm⟩:∃ m,m=DO s U:=⟨_,rfl⟩
   have HM:AO (DO s U=m):=hm.symm;rw[<-hm] at HAS;clear hm c1 o1;go_wp2_with fail;refine Ag AM ?_;refine Cn (λ_ a b=>Below a.heap.size a b) (frame:=(λ(a b c d e f g h i j k l m n o p q r s u v w x y z A B C D E F G H I J K L M N O P Q R S T U V W X Y Z a0 a1 a2 a3 a4 a5:aB)=>λ(t:Nat->aB)=>({ tmps:=List.toArray [a,b,c,d,e,f,g,h,i,j,k,l,m,n,o,p,q,r,s,u,v,w,x,y,z,A,B,C,D,E,F,G,H,I,J,K,L,M,N,O,P,Q,R,t 6,t 0,t 1,t 2,t 3,t 4,t 5,S,T,U,V,W,X,Y,Z,a0,a1,a2,a3,a4,a5],defers:=[] }:Act)) _ _ _ _ _ _ _ _ _ _ _ _ _ _ _ _ _ _ _ _ _ _ _ _ _ _ _ _ _ _ _ _ _ _ _ _ _ _ _ _ _ _ _ _ _ _ _ _ _ _ _ _ _ _ _ _ _)
    (Ext:=λL u w'=>JC w3 [] L u w') (Good:=λi L w' v=>if i=0 then v=aF (aE ⟨g,0,aA⟩) else if i=1 then v=aF (aE ⟨g,0,aA⟩) else if i=2 then v=aF (aE ⟨g,32,aA⟩) else if i=3 then v=aF (aE ⟨w1.heap.size,1,aA⟩) else if i=4 then v=Z8 aI s else if i=5 then v=aG m else if i=6 then v=aG m else True) ?hstab AM ?hop ?hdone _ _ ((λ(x0 x1 x2 x3 x4 x5 x6:aB)=>λ(i:Nat)=>if i=0 then x0 else if i=1 then x1 else if i=2 then x2 else if i=3 then x3 else if i=4 then x4 else if i=5 then x5 else if i=6 then x6 else undef) _ _ _ _ _ _ _) _ AL ?ext ?start AL
   case start=>intro i hi h;exact absurd h Et
   case ext=>exact(JC.start w3 [] _ _ (λ_=>J6)).drew
   case hstab=>
    intro j L w9 w' i v hM _ _ h;exact h
   case hop=>
    intro i o L t w' ho hLi hx hdep K hK;have hi:i<7:=(AR.1 ho).1;obtain rfl|rfl|rfl|rfl|rfl|rfl|rfl:i=0\/i=1\/i=2\/i=3\/i=4\/i=5\/i=6:=AJ
    all_goals(simp at ho;subst ho)
    ·clear hdep;have hK':=hK w' (aF (aE ⟨g,0,aA⟩)) AL (hx.step 0 _ Cg DY) Cg;clear hK;rw[AP AN];go_simp;simpa[Ce] using hK'
    ·have d0:t 0=aF (aE ⟨g,0,aA⟩):=by simpa using(hdep ⟨0,aL⟩ AL rfl).2
     clear hdep;have hK':=hK w' (aF (aE ⟨g,0,aA⟩)) AL (hx.step 1 _ Cg DY) Cg;clear hK;rw[AP AN];go_simp;simpa[Ce,d0] using hK'
    ·have d1:t 1=aF (aE ⟨g,0,aA⟩):=by simpa using(hdep ⟨1,aL⟩ AL rfl).2
     clear hdep;have hK':=hK w' (aF (aE ⟨g,32,aA⟩)) AL (hx.step 2 _ Cg DY) Cg;clear hK;rw[AP AN];go_simp;simpa[Ce,d1] using hK'
    ·clear hdep;have hK':=hK w' (aF (aE ⟨w1.heap.size,1,aA⟩)) AL (hx.step 3 _ Cg DY) Cg;clear hK;rw[AP AN];go_simp;simpa[Ce] using hK'
    ·have d3:t 3=aF (aE ⟨w1.heap.size,1,aA⟩):=by simpa using(hdep ⟨3,aL⟩ AL rfl).2
     clear hdep;have cc:w'.cell? ⟨w1.heap.size,1,aA⟩=aE (Z8 aI s):=by rw[hx.below.cell (p:=⟨w1.heap.size,1,aA⟩) HLT1.o];exact HCS.o
     have hK':=hK w' (Z8 aI s) AL (hx.step 4 _ Cg DY) Cg;clear hK;rw[AP AN];go_simp;simpa[Ce,d3] using hK'
    ·have d2:t 2=aF (aE ⟨g,32,aA⟩):=by simpa using(hdep ⟨2,aL⟩ AL rfl).2
     have d4:t 4=Z8 aI s:=by simpa using(hdep ⟨4,aL⟩ AL rfl).2
     clear hdep;have A:=HAS.o w' hx.below;have hK':∀ ww,Below w'.heap.size w' ww->K _ ww:=λww hb=>hK ww (aG m) AL (hx.step 5 _ hb DY) hb
     clear hK;rw[AP AN];go_simp;try simp only[d2,d4]
     refine A.mono ?_;rintro e w9 ⟨rfl,hb9⟩;have hK2:=hK' w9 hb9;clear hK' A hb9;go_simp;simpa[Ce,d2,d4] using hK2
    ·have d5:t 5=aG m:=by simpa using(hdep ⟨5,aL⟩ AL rfl).2
     clear hdep;have hK':=hK w' (aG m) AL (hx.step 6 _ Cg DY) Cg;clear hK;rw[AP AN];go_simp;simpa[Ce,d5] using hK'
   case hdone=>
    intro L t w4 hx hg;have e6:t 6=aG m:=by simpa using hg 6 AK
    have HB4:AO (Below w.heap.size w w4):=HB3.o.trans (hx.below.mono HB3.o.size);have c1':w4.cell? ⟨w1.heap.size,1,aA⟩=aE (Z8 aI s):=by rw[hx.below.cell (p:=⟨w1.heap.size,1,aA⟩) HLT1.o];exact HCS.o
    have o1':w4.cell? ⟨w.heap.size,1,aA⟩=aE (Z7 ta tn tc):=by rw[hx.below.cell (p:=⟨w.heap.size,1,aA⟩) HLT.o];exact HO1.o
    have HKw4:AO (Ku H B g w4 d u v D U k T n):=HKw3.o.below hx.below;clear hg hx HAS HCS HO1 HLT HLT1 HKw3;have c1:=c1';have o1:=o1';clear c1' o1';simp only[e6];clear e6;cases m with
    |true=>
     have HF:AO (DX D U ks tk now=6):=by show _=_;rw[HC4.o,AP HM.o]
     clear HC4 HM c1 o1;go_wp2
     go_ret2
     exact⟨_,_,rfl,HB4.o,.inr ⟨by rw[HF.o];decide,by rw[HF.o];rfl⟩⟩
    |false=>
     have HC5:=HC4.o;rw[AQ (by rw[HM.o];decide)] at HC5;have HTV:=Cd HC5;clear HC4 HC5 HM;have h72:72=tn:=HT72.o.symm.trans HL.o.1;subst h72;obtain⟨bt,ot,rfl,-,-⟩:=(HA.o _ HB4.o).1.get (by rw[HT72.o];decide);have HPT:AO (∀ wz,Below w.heap.size w wz->Fq wz bt ot tk):=λwz h=>by
      obtain⟨b',o',e',hl',hc'⟩:=(HA.o _ h).1.get (by rw[HT72.o];decide);cases e';exact⟨hl',hc'⟩
     have HT8:AO ((8:Int)<=tc/\(72:Int)<=tc/\¬ (tc=8)):=⟨AJ,AJ,AJ⟩
     have HVS:AO (∀ wz,Below w.heap.size w wz->Calls tP 81 #[Z7 (aE ⟨bp,op,aA⟩) 32 cp,Z7 (aE ⟨bt,ot,aA⟩) 8 tc,Z7 (aE ⟨bt,ot+8,aA⟩) 64 (tc-8:Nat)] wz λe w'=>e=aK (aG (Hj ks (tk.take 8) (tk.drop 8)))/\Below wz.heap.size wz w'):=λwz h=>
      VH bp op cp bt ot tc bt (ot+8) (tc-8) 32 8 64 ks (tk.take 8) (tk.drop 8) wz HL.o.2.1 (by rw[Ap,HT72.o];rfl) (by rw[BJ,HT72.o]) (HA.o wz h).2.1 ((HPT.o wz h).take 8) ((HPT.o wz h).drop 8) HL.o.2.2.1 (λz hz=>HL.o.2.2.2 z (Ay hz)) (λz hz=>HL.o.2.2.2 z (Bf hz)) AJ AK AK AK (HA.o wz h).2.2 (As HV1.o h.size)
     have HCS:AO (w4.cell? ⟨w1.heap.size,1,aA⟩=aE (Z8 aI s)):=c1;have HLT1:AO (w1.heap.size<w4.heap.size):=block_lt_of_cell c1;have HC1:AO (w4.cell? ⟨w.heap.size,1,aA⟩=aE (Z7 (aE ⟨bt,ot,aA⟩) 72 tc)):=o1;have HLT:AO (w.heap.size<w4.heap.size):=block_lt_of_cell o1;generalize Hj ks (tk.take 8) (tk.drop 8)=V at *;clear HPT HT72 HA HL c1 o1 mt hct;go_wp2_with fail;refine Ag AM ?_;refine Cn (λ_ a b=>Below a.heap.size a b) (frame:=(λ(a b c d e f g h i j k l m n o p q r s u v w x y z A B C D E F G H I J K L M N O P Q R S T U V W X Y Z a0 a1 a2:aB)=>λ(t:Nat->aB)=>({ tmps:=List.toArray [a,b,c,d,e,f,g,h,i,j,k,l,m,n,o,p,q,r,s,u,v,w,x,y,z,A,B,C,D,E,F,G,H,I,J,K,L,M,N,O,P,Q,R,S,T,U,V,W,X,Y,Z,t 9,t 0,t 1,t 2,t 3,t 4,t 5,t 6,t 7,t 8,a0,a1,a2],defers:=[] }:Act)) _ _ _ _ _ _ _ _ _ _ _ _ _ _ _ _ _ _ _ _ _ _ _ _ _ _ _ _ _ _ _ _ _ _ _ _ _ _ _ _ _ _ _ _ _ _ _ _ _ _ _ _ _ _)
      (Ext:=λL u w'=>JC w4 [] L u w') (Good:=λi L w' v=>if i=0 then v=Z7 (aE ⟨bp,op,aA⟩) 32 cp else if i=1 then v=aF (aE ⟨w.heap.size,1,aA⟩) else if i=2 then v=Z7 (aE ⟨bt,ot,aA⟩) 72 tc else if i=3 then v=Z7 (aE ⟨bt,ot,aA⟩) 8 tc else if i=4 then v=aF (aE ⟨w.heap.size,1,aA⟩) else if i=5 then v=Z7 (aE ⟨bt,ot,aA⟩) 72 tc else if i=6 then v=Z7 (aE ⟨bt,ot+8,aA⟩) 64 (tc-8:Nat) else if i=7 then v=aG V else if i=8 then v=aG (!V) else if i=9 then v=aG (!V) else True) ?hstab AM ?hop ?hdone _ _ ((λ(x0 x1 x2 x3 x4 x5 x6 x7 x8 x9:aB)=>λ(i:Nat)=>if i=0 then x0 else if i=1 then x1 else if i=2 then x2 else if i=3 then x3 else if i=4 then x4 else if i=5 then x5 else if i=6 then x6 else if i=7 then x7 else if i=8 then x8 else if i=9 then x9 else undef) _ _ _ _ _ _ _ _ _ _) _ AL ?ext ?start AL
     case start=>intro i hi h;exact absurd h Et
     case ext=>exact(JC.start w4 [] _ _ (λ_=>J6)).drew
     case hstab=>
      intro j L w9 w' i v hM _ _ h;exact h
     case hop=>
      intro i o L t w' ho hLi hx hdep K hK;have hi:i<10:=(AR.1 ho).1;obtain rfl|rfl|rfl|rfl|rfl|rfl|rfl|rfl|rfl|rfl:i=0\/i=1\/i=2\/i=3\/i=4\/i=5\/i=6\/i=7\/i=8\/i=9:=AJ
      all_goals(simp at ho;subst ho)
      ·clear hdep;have hK':=hK w' (Z7 (aE ⟨bp,op,aA⟩) 32 cp) AL (hx.step 0 _ Cg DY) Cg;clear hK;rw[AP AN];go_simp;simpa[Ce] using hK'
      ·clear hdep;have hK':=hK w' (aF (aE ⟨w.heap.size,1,aA⟩)) AL (hx.step 1 _ Cg DY) Cg;clear hK;rw[AP AN];go_simp;simpa[Ce] using hK'
      ·have d1:t 1=aF (aE ⟨w.heap.size,1,aA⟩):=by simpa using(hdep ⟨1,aL⟩ AL rfl).2
       clear hdep;have cc:w'.cell? ⟨w.heap.size,1,aA⟩=aE (Z7 (aE ⟨bt,ot,aA⟩) 72 tc):=by rw[hx.below.cell (p:=⟨w.heap.size,1,aA⟩) HLT.o];exact HC1.o
       have hK':=hK w' (Z7 (aE ⟨bt,ot,aA⟩) 72 tc) AL (hx.step 2 _ Cg DY) Cg;clear hK;rw[AP AN];go_simp;simpa[Ce,d1] using hK'
      ·have d2:t 2=Z7 (aE ⟨bt,ot,aA⟩) 72 tc:=by simpa using(hdep ⟨2,aL⟩ AL rfl).2
       clear hdep;have h8:(8:Int)<=tc:=HT8.o.1;have hK':=hK w' (Z7 (aE ⟨bt,ot,aA⟩) 8 tc) AL (hx.step 3 _ Cg DY) Cg;clear hK;rw[AP AN];go_simp;simpa[Ce,d2] using hK'
      ·clear hdep;have hK':=hK w' (aF (aE ⟨w.heap.size,1,aA⟩)) AL (hx.step 4 _ Cg DY) Cg;clear hK;rw[AP AN];go_simp;simpa[Ce] using hK'
      ·have d4:t 4=aF (aE ⟨w.heap.size,1,aA⟩):=by simpa using(hdep ⟨4,aL⟩ AL rfl).2
       clear hdep;have cc:w'.cell? ⟨w.heap.size,1,aA⟩=aE (Z7 (aE ⟨bt,ot,aA⟩) 72 tc):=by rw[hx.below.cell (p:=⟨w.heap.size,1,aA⟩) HLT.o];exact HC1.o
       have hK':=hK w' (Z7 (aE ⟨bt,ot,aA⟩) 72 tc) AL (hx.step 5 _ Cg DY) Cg;clear hK;rw[AP AN];go_simp;simpa[Ce,d4] using hK'
      ·have d5:t 5=Z7 (aE ⟨bt,ot,aA⟩) 72 tc:=by simpa using(hdep ⟨5,aL⟩ AL rfl).2
       clear hdep;have h8:(8:Int)<=tc:=HT8.o.1;have h72:(72:Int)<=tc:=HT8.o.2.1;have hne:¬ (tc=8):=HT8.o.2.2;have hK':=hK w' (Z7 (aE ⟨bt,ot+8,aA⟩) 64 (tc-8:Nat)) AL (hx.step 6 _ Cg DY) Cg;clear hK;rw[AP AN];go_simp;simpa[Ce,d5] using hK'
      ·have d0:t 0=Z7 (aE ⟨bp,op,aA⟩) 32 cp:=by simpa using(hdep ⟨0,aL⟩ AL rfl).2
       have d3:t 3=Z7 (aE ⟨bt,ot,aA⟩) 8 tc:=by simpa using(hdep ⟨3,aL⟩ AL rfl).2
       have d6:t 6=Z7 (aE ⟨bt,ot+8,aA⟩) 64 (tc-8:Nat):=by simpa using(hdep ⟨6,aL⟩ AL rfl).2
       clear hdep;have A:=HVS.o w' (HB4.o.trans (hx.below.mono HB4.o.size));have hK':∀ ww,Below w'.heap.size w' ww->K _ ww:=λww hb=>hK ww (aG V) AL (hx.step 7 _ hb DY) hb
       clear hK;rw[AP AN];go_simp;try simp only[d0,d3,d6]
       refine A.mono ?_;rintro e w9 ⟨rfl,hb9⟩;have hK2:=hK' w9 hb9;clear hK' A hb9;go_simp;simpa[Ce,d0,d3,d6] using hK2
      ·have d7:t 7=aG V:=by simpa using(hdep ⟨7,aL⟩ AL rfl).2
       clear hdep;have hK':=hK w' (aG (!V)) AL (hx.step 8 _ Cg DY) Cg;clear hK;rw[AP AN];go_simp;simpa[Ce,d7] using hK'
      ·have d8:t 8=aG (!V):=by simpa using(hdep ⟨8,aL⟩ AL rfl).2
       clear hdep;have hK':=hK w' (aG (!V)) AL (hx.step 9 _ Cg DY) Cg;clear hK;rw[AP AN];go_simp;simpa[Ce,d8] using hK'
     case hdone=>
      intro L t w5 hx hg;have e9:t 9=aG (!V):=by simpa using hg 9 AK
      have HB5:AO (Below w.heap.size w w5):=HB4.o.trans (hx.below.mono HB4.o.size);have cs5:w5.cell? ⟨w1.heap.size,1,aA⟩=aE (Z8 aI s):=by rw[hx.below.cell (p:=⟨w1.heap.size,1,aA⟩) HLT1.o];exact HCS.o
      clear hg hx;simp only[e9];clear e9;cases V with
      |true=>
       have HF:AO (DX D U ks tk now=1):=HTV.o;clear HTV;go_wp2
       go_ret2
       exact⟨_,_,rfl,HB5.o,.inl ⟨HF.o,by rw[HSV.o];rfl,rfl⟩⟩
      |false=>
       have HF:AO (DX D U ks tk now=7):=HTV.o;clear HTV cs5;go_wp2
       go_ret2
       exact⟨_,_,rfl,HB5.o,.inr ⟨by rw[HF.o];decide,by rw[HF.o];rfl⟩⟩
end Go.Proofs.YtjdhhgaelgemcaaGreatDoor
