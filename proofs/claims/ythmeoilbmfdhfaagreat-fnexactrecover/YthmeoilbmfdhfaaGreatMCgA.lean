import Derived.Test.YthmeoilbmfdhfaaGreatMLlA
open Go.Value renaming slice->UD,int->UE,pointer->UM,bool->UF,agg->UN
open Go.IntKind renaming i64->UO,u32->UG
open Go.Obj renaming cells->UP
open Go.Ending renaming returned->UQ
open Go.Ground renaming data->UR
open Option renaming some->UI,none->UJ
open Go renaming World->UK,Value->UL
namespace Go.Proofs.YthmeoilbmfdhfaaGreat
set_option maxHeartbeats 4000000
set_option maxRecDepth 100000
open Go.ChangeShapes Go.WideShapes Go.ChangeAt Go.RowKit
set_option linter.unusedVariables false
theorem I8 (t tE:TypeId) (hu:Tryz.prog.underlying t=UI (.slice tE)) (w:UK) (a:Option Addr) (n c:Nat):(binOp .eql t (UD a n c) (UD UJ 0 0)).run Tryz.prog w=.ok (UF a.isNone) w:=by
 have h:∀ d,(Op.equalIn (d+1) t (UD a n c) (UD UJ 0 0)).run Tryz.prog w=.ok a.isNone w:=λd=>by
  cases a<;>simp[Op.equalIn,run_underlying hu]
 have h':(Op.equal t (UD a n c) (UD UJ 0 0)).run Tryz.prog w=.ok a.isNone w:=h 9999;simp only[binOp];simp[h']
theorem H7 (a:Option Addr) (n cap:Nat) (xs:List Int) (w:UK) (hn:xs.length=n) (hm:n<=1048576) (ha:At UO w a xs) :
  Calls Tryz.prog 171 #[UD a n cap] w λe w'=>∃ v,e=UQ v/\Iow w.heap.size w' v xs/\Below w.heap.size w w':=by
 have E:=I8 28 2 Tryz.underlying28 w a n cap;cases a with
 |none=>
  have hx:xs=[]:=by rcases ha with h|⟨b,o,e,_⟩;exact h;cases e
  have HP:AP (Iow w.heap.size w (UD UJ 0 0) xs):=by
   subst hx
   skip
   exact⟨rfl,.inl ⟨rfl,rfl⟩⟩
  clear hn ha hm hx;go_enter Tryz.func171,Tryz.ntmps171;go_wp2
  go_ret
  exact⟨_,rfl,HP.o,Ad _ _⟩
 |some ad=>
  have bb:Below w.heap.size w (w.alloc (UP #[] 2)):=Cs.alloc Cw _;have HA:AP (At UO (w.alloc (UP #[] 2)) (UI ad) xs/\E3 w.heap.size 2 (w.alloc (UP #[] 2)) (UD (UI ⟨w.heap.size,0,UJ⟩) 0 0)):=⟨ha.below bb,E3.new _ w Cw⟩
  have HB:=Cq bb;have HN:=Cq (Ac hn hm);clear hn ha hm bb;go_enter Tryz.func171,Tryz.ntmps171;go_wp2_with (first
   |(refine wpList_plain rfl λK hK=>E4 28 2 (UE UO 0) 1 8 Tryz.infoI64 Tryz.underlying28 rfl AL AL _ (.tmp 5) (.tmp 6) rfl w.heap.size _ rfl HA.o.2 (UI ad) n cap xs rfl (by rw[HN.o.1,B8]) HA.o.1 HN.o.2 AM λv' w3 ho hb=>hK _ _ ?_)
   |fail)
  have HF:AP (Iow w.heap.size w3 v' xs/\Below w.heap.size w w3):=⟨by first|exact ho|(unfold Iow;rw[HN.o.1];exact ho),HB.o.trans (hb.mono HB.o.size)⟩
  clear ho hb HA HB HN;go_wp2
  go_ret
  exact⟨_,rfl,HF.o.1,HF.o.2⟩
theorem Nz (a:Option Addr) (n cap:Nat) (xs:List Int) (w:UK) (hn:xs.length=n*2) (hm:n<=1048576) (ha:At UO w a xs) :
  Calls Tryz.prog 85 #[UD a n cap] w λe w'=>∃ v,e=UQ v/\DN w.heap.size w' v xs n/\Below w.heap.size w w':=by
 have E:=I8 32 133 Tryz.underlying32 w a n cap;cases a with
 |none=>
  have hx:xs=[]:=by rcases ha with h|⟨b,o,e,_⟩;exact h;cases e
  have HP:AP (DN w.heap.size w (UD UJ 0 0) xs n):=by
   subst hx;obtain rfl:n=0:=by simp at hn;omega
   exact⟨rfl,.inl ⟨rfl,rfl⟩⟩
  clear hn ha hm hx;go_enter Tryz.func85,Tryz.ntmps85;go_wp2
  go_ret
  exact⟨_,rfl,HP.o,Ad _ _⟩
 |some ad=>
  have bb:Below w.heap.size w (w.alloc (UP #[] 133)):=Cs.alloc Cw _;have HA:AP (At UO (w.alloc (UP #[] 133)) (UI ad) xs/\E3 w.heap.size 133 (w.alloc (UP #[] 133)) (UD (UI ⟨w.heap.size,0,UJ⟩) 0 0)):=⟨ha.below bb,E3.new _ w Cw⟩
  have HB:=Cq bb;have HN:=Cq (Ac hn hm);clear hn ha hm bb;go_enter Tryz.func85,Tryz.ntmps85;go_wp2_with (first
   |(refine wpList_plain rfl λK hK=>E4 32 133 (UN #[UE UO 0,UE UO 0]) 2 16 Tryz.infoTap Tryz.underlying32 rfl AL AL _ (.tmp 5) (.tmp 6) rfl w.heap.size _ rfl HA.o.2 (UI ad) n cap xs rfl HN.o.1 HA.o.1 HN.o.2 AM λv' w3 ho hb=>hK _ _ ?_)
   |fail)
  have HF:AP (DN w.heap.size w3 v' xs n/\Below w.heap.size w w3):=⟨by first|exact ho|(unfold DN;rw[HN.o.1];exact ho),HB.o.trans (hb.mono HB.o.size)⟩
  clear ho hb HA HB HN;go_wp2
  go_ret
  exact⟨_,rfl,HF.o.1,HF.o.2⟩
theorem Po (a:Option Addr) (n cap:Nat) (xs:List Int) (w:UK) (hn:xs.length=n*4) (hm:n<=1048576) (ha:FC w a xs) :
  Calls Tryz.prog 167 #[UD a n cap] w λe w'=>∃ v,e=UQ v/\FO w.heap.size w' v xs n/\Below w.heap.size w w':=by
 have E:=I8 31 112 Tryz.underlying31 w a n cap;cases a with
 |none=>
  have hx:xs=[]:=by rcases ha with h|⟨b,o,e,_⟩;exact h;cases e
  have HP:AP (FO w.heap.size w (UD UJ 0 0) xs n):=by
   subst hx;obtain rfl:n=0:=by simp at hn;omega
   exact⟨rfl,.inl ⟨rfl,rfl⟩⟩
  clear hn ha hm hx;go_enter Tryz.func167,Tryz.ntmps167;go_wp2
  go_ret
  exact⟨_,rfl,HP.o,Ad _ _⟩
 |some ad=>
  have bb:Below w.heap.size w (w.alloc (UP #[] 112)):=Cs.alloc Cw _;have HA:AP (FC (w.alloc (UP #[] 112)) (UI ad) xs/\E3 w.heap.size 112 (w.alloc (UP #[] 112)) (UD (UI ⟨w.heap.size,0,UJ⟩) 0 0)):=⟨ha.below bb,E3.new _ w Cw⟩
  have HB:=Cq bb;have HN:=Cq (Ac hn hm);clear hn ha hm bb;go_enter Tryz.func167,Tryz.ntmps167;go_wp2_with (first
   |(refine wpList_plain rfl λK hK=>LN _ (.tmp 5) (.tmp 6) rfl w.heap.size _ rfl HA.o.2 (UI ad) n cap xs rfl HN.o.1 HA.o.1 HN.o.2 AM λv' w3 ho hb=>hK _ _ ?_)
   |fail)
  have HF:AP (FO w.heap.size w3 v' xs n/\Below w.heap.size w w3):=⟨by first|exact ho|(unfold FO;rw[HN.o.1];exact ho),HB.o.trans (hb.mono HB.o.size)⟩
  clear ho hb HA HB HN;go_wp2
  go_ret
  exact⟨_,rfl,HF.o.1,HF.o.2⟩
theorem FX {w0 w:UK} {tE:TypeId} {k n:Nat} {v:UL} {xs:List UL} (h:w.ownsRow w0.heap.size tE k v n xs):DU w0 w v:=by
 intro j hj;rcases h.2 with⟨rfl,_⟩|⟨g,c,cur,rfl,hb,hh,_⟩
 ·rcases hj with⟨a,e,_⟩|⟨cs,e,_⟩<;>cases e
 ·rcases hj with⟨a,e,rfl⟩|⟨cs,e,_⟩
  ·cases e;exact⟨hb,(AQ.1 hh).1⟩
  ·cases e
theorem Pp {w:UK} {lo lo':Nat} {tE:TypeId} {k n:Nat} {v:UL} {xs:List UL} (h:w.ownsRow lo tE k v n xs) (hl:lo'<=lo):w.ownsRow lo' tE k v n xs:=by
 refine⟨h.1,?_⟩;rcases h.2 with h|⟨g,c,cur,e,hb,r⟩
 ·exact .inl h
 ·exact .inr ⟨g,c,cur,e,BC hl hb,r⟩
theorem Iow.lo {lo lo':Nat} {w:UK} {v:UL} {xs:List Int} (h:Iow lo w v xs) (hl:lo'<=lo):Iow lo' w v xs:=Pp h hl
theorem DN.lo {lo lo' n:Nat} {w:UK} {v:UL} {xs:List Int} (h:DN lo w v xs n) (hl:lo'<=lo):DN lo' w v xs n:=Pp h hl
theorem FO.lo {lo lo' n:Nat} {w:UK} {v:UL} {xs:List Int} (h:FO lo w v xs n) (hl:lo'<=lo):FO lo' w v xs n:=Pp h hl
theorem DN.frm {B:Nat} {w:UK} {v:UL} {T:List Int} {m:Nat} (h:DN B w v T m):∃ a c,v=UD a m c:=by
 rcases h.2 with⟨rfl,h0⟩|⟨g,c,cur,rfl,_⟩
 ·have:=h.1;rw[h0] at this;simp at this;exact⟨UJ,0,by rw[show m=0 by omega]⟩
 ·exact⟨_,_,rfl⟩
theorem IA {a a':Option Addr} {n c n' c':Nat} (h:Ir (UD a n c) (UD a' n' c')):Ej a a':=λx y e e' h'=>h x.block (.inl ⟨x,e,rfl⟩) (.inl ⟨y,e',h'.symm⟩)
theorem S3.lo {lo lo':Nat} {w:UK} {aD aU aT:Option Addr} {nD nU nT:Nat} {D U T:List Int} (h:S3 lo w aD aU aT nD nU nT D U T) (hl:lo'<=lo):S3 lo' w aD aU aT nD nU nT D U T:=
 ⟨h.d,h.u,h.t,h.nd,h.nu,h.nt,h.ld.mono hl Cw,h.lu.mono hl Cw,h.lt.mono hl Cw,h.du,h.dt,h.ut⟩
theorem TK {lo:Nat} {w:UK} {aD aU aT:Option Addr} {nD cD nU cU nT cT:Nat} {D U T:List Int} (h1:Iow lo w (UD aD nD cD) D) (h2:Iow lo w (UD aU nU cU) U) (h3:DN lo w (UD aT nT cT) T nT) (a1:Ej aD aU) (a2:Ej aD aT) (a3:Ej aU aT):S3 lo w aD aU aT nD nU nT D U T:=by
 obtain⟨d1,d2,d3⟩:=h1.sat;obtain⟨u1,u2,u3⟩:=h2.sat;obtain⟨t1,t2,t3⟩:=h3.tapV.sat;exact⟨d1,u1,t1,d2,u2,t2,d3,u3,t3,a1,a2,a3⟩
def KP (lo:Nat) (w:UK) (v:UL) (gn tl:Int) (D U:List Int):Prop:=∃ bD mD dD bU mU dU,v=UN #[UE UG gn,UE UG tl,UD bD mD dD,UD bU mU dU]/\S3 lo w bD bU UJ mD mU 0 D U []
theorem KP.below {lo:Nat} {w w':UK} {v:UL} {gn tl:Int} {D U:List Int} (h:KP lo w v gn tl D U) (b:Below w.heap.size w w'):KP lo w' v gn tl D U:=by
 obtain⟨bD,mD,dD,bU,mU,dU,e,h⟩:=h;exact⟨bD,mD,dD,bU,mU,dU,e,h.below b⟩
def Ld (lo:Nat) (w:UK) (v:UL) (D U:List Int) (k:Int) (T:List Int) (nT:Nat):Prop:=∃ bD mD dD bU mU dU bT dT,v=UN #[UD bD mD dD,UD bU mU dU,UE UO k,UD bT nT dT]/\S3 lo w bD bU bT mD mU nT D U T
theorem Ld.below {lo:Nat} {w w':UK} {v:UL} {D U:List Int} {k:Int} {T:List Int} {nT:Nat} (h:Ld lo w v D U k T nT) (b:Below w.heap.size w w'):Ld lo w' v D U k T nT:=by
 obtain⟨bD,mD,dD,bU,mU,dU,bT,dT,e,h⟩:=h;exact⟨bD,mD,dD,bU,mU,dU,bT,dT,e,h.below b⟩
theorem Pq (gn tl:Int) (aD aU:Option Addr) (nD cD nU cU:Nat) (D U:List Int) (w:UK) (hD:D.length=nD) (hU:U.length=nU) (mD:nD<=1048576) (mU:nU<=1048576) (haD:At UO w aD D) (haU:At UO w aU U) :
  Calls Tryz.prog 166 #[UN #[UE UG gn,UE UG tl,UD aD nD cD,UD aU nU cU]] w λe w'=>∃ v,e=UQ v/\KP w.heap.size w' v gn tl D U/\Below w.heap.size w w':=by
 have HCD:=Cq (λww (b:Below w.heap.size w ww)=>H7 aD nD cD D ww hD mD (haD.below b));have HCU:=Cq (λww (b:Below w.heap.size w ww)=>H7 aU nU cU U ww hU mU (haU.below b));have HSZ:AP ((Tryz.prog.info? 30).map (·.size)=UI 4):=by show _=_;kernel_rfl
 have HE1:AP (BE w 30 #[UE UG gn,UE UG tl,UD aD nD cD,UD aU nU cU] Cj ((w.alloc (UP #[UE UG gn,UE UG tl,UD aD nD cD,UD aU nU cU] 30)).alloc (UP Cj 30))):=BE.start _ _ _ _;have HL1:AP (w.heap.size<((w.alloc (UP #[UE UG gn,UE UG tl,UD aD nD cD,UD aU nU cU] 30)).alloc (UP Cj 30)).heap.size):=(AQ.1 HE1.o.b0).1;clear hD hU mD mU haD haU;go_enter Tryz.func166,Tryz.ntmps166;go_wp2_with fail;generalize ((w.alloc (UP #[UE UG gn,UE UG tl,UD aD nD cD,UD aU nU cU] 30)).alloc (UP Cj 30))=w1 at *;refine Ae AN ?_;refine DF 11 (λ_ a b=>Below a.heap.size a b) (frame:=(λ(a b c:UL)=>λ(t:Nat->UL)=>({ tmps:=List.toArray [a,b,c,t 0,t 1,t 2,t 3,t 4,t 5,t 6,t 7,t 8,t 9,t 10],defers:=[] }:Act)) _ _ _)
  (Ext:=λL u w'=>Fo w1 [6,9] L u w') (Good:=λi L w' v=>if i=0 then v=UM (UI ⟨w.heap.size,0,UJ⟩) else if i=1 then v=UE UG gn else if i=2 then v=UM (UI ⟨w.heap.size,1,UJ⟩) else if i=3 then v=UE UG tl else if i=4 then v=UM (UI ⟨w.heap.size,2,UJ⟩) else if i=5 then v=UD aD nD cD else if i=6 then Iow w1.heap.size w' v D else if i=7 then v=UM (UI ⟨w.heap.size,3,UJ⟩) else if i=8 then v=UD aU nU cU else if i=9 then Iow w1.heap.size w' v U else if i=10 then KP w1.heap.size w' v gn tl D U else True) (Fin:=λ_ ww=>∃ bD mD dD bU mU dU,ww.heap[w.heap.size+1]?=UI (UP #[UE UG gn,UE UG tl,UD bD mD dD,UD bU mU dU] 30 (0,0))/\S3 w.heap.size ww bD bU UJ mD mU 0 D U []/\Below w.heap.size w ww) rfl AN ?hstab AN ?hop ?hend ?hdone _ _ ((λ(x0 x1 x2 x3 x4 x5 x6 x7 x8 x9 x10:UL)=>λ(i:Nat)=>if i=0 then x0 else if i=1 then x1 else if i=2 then x2 else if i=3 then x3 else if i=4 then x4 else if i=5 then x5 else if i=6 then x6 else if i=7 then x7 else if i=8 then x8 else if i=9 then x9 else if i=10 then x10 else undef) _ _ _ _ _ _ _ _ _ _ _) _ AM ?none ?ext AM
 case none=>exact λ_=>FJ
 case ext=>exact Fo.start w1 [6,9] _ _ (λ_=>FJ) ⟨rfl,rfl,rfl,AY _,λ_ _=>rfl⟩
 case hstab=>
  intro j L w9 w' i v _ hM _ _ h;by_cases h6:j=6
  ·subst h6;simp at h |-;exact h.below hM
  by_cases h9:j=9
  ·subst h9;simp at h |-;exact h.below hM
  by_cases h10:j=10
  ·subst h10;simp at h |-;exact h.below hM
  simp only[if_neg h6,if_neg h9,if_neg h10] at h |-;exact h
 case hop=>
  intro i o L t w' hi ho hLi hx hdep K hK;have cX:∀ q9:Nat,w'.cell? ⟨w.heap.size,q9,UJ⟩=(#[UE UG gn,UE UG tl,UD aD nD cD,UD aU nU cU]:Array UL)[q9]?:=λq9=>by rw[Aa (a:=⟨w.heap.size,q9,UJ⟩) (w:=w1) (hx.below.block _ HL1.o),AA HE1.o.b0 q9]
  obtain rfl|rfl|rfl|rfl|rfl|rfl|rfl|rfl|rfl|rfl|rfl:i=0\/i=1\/i=2\/i=3\/i=4\/i=5\/i=6\/i=7\/i=8\/i=9\/i=10:=AK
  all_goals(simp at ho;subst ho)
  all_goals try(have hK':=hK w' _ rfl (hx.step _ _ Cs C7) Cs;clear hK;simp[Region.binds] at hdep;rw[AR AO];go_simp;simpa[Cr,hdep] using hK')
  ·have d5:t 5=UD aD nD cD:=by simpa using(hdep ⟨5,UR⟩ AM rfl).2
   clear hdep;have bw:Below w.heap.size w w':=HE1.o.below.trans (hx.below.mono HE1.o.below.size);have hsz:w1.heap.size<=w'.heap.size:=hx.below.size;have A:=HCD.o w' bw;have hK':∀ ww v,Iow w1.heap.size ww v D->DU w' ww v->Below w'.heap.size w' ww->K _ ww:=λww v hv hf hb=>hK ww v (by simpa using hv) (hx.step 6 v hb (λ_=>hf)) hb
   clear hK;rw[AR AO];go_simp;try simp only[d5]
   refine A.mono ?_;rintro e w9 ⟨v9,rfl,h9,hb9⟩;have hK2:=hK' w9 v9 (h9.lo hsz) (FX h9) hb9;clear hK' A h9 hb9;go_simp;simpa[Cr,d5] using hK2
  ·have d8:t 8=UD aU nU cU:=by simpa using(hdep ⟨8,UR⟩ AM rfl).2
   clear hdep;have bw:Below w.heap.size w w':=HE1.o.below.trans (hx.below.mono HE1.o.below.size);have hsz:w1.heap.size<=w'.heap.size:=hx.below.size;have A:=HCU.o w' bw;have hK':∀ ww v,Iow w1.heap.size ww v U->DU w' ww v->Below w'.heap.size w' ww->K _ ww:=λww v hv hf hb=>hK ww v (by simpa using hv) (hx.step 9 v hb (λ_=>hf)) hb
   clear hK;rw[AR AO];go_simp;try simp only[d8]
   refine A.mono ?_;rintro e w9 ⟨v9,rfl,h9,hb9⟩;have hK2:=hK' w9 v9 (h9.lo hsz) (FX h9) hb9;clear hK' A h9 hb9;go_simp;simpa[Cr,d8] using hK2
  ·have d1:t 1=UE UG gn:=by simpa using(hdep ⟨1,UR⟩ AM rfl).2
   have d3:t 3=UE UG tl:=by simpa using(hdep ⟨3,UR⟩ AM rfl).2
   have l6:L 6=true:=(hdep ⟨6,UR⟩ AM rfl).1;have f6:Iow w1.heap.size w' (t 6) D:=by simpa using(hdep ⟨6,UR⟩ AM rfl).2
   have l9:L 9=true:=(hdep ⟨9,UR⟩ AM rfl).1;have f9:Iow w1.heap.size w' (t 9) U:=by simpa using(hdep ⟨9,UR⟩ AM rfl).2
   clear hdep;have a1:=hx.ap 6 AL 9 AL AL l6 l9;obtain⟨bD,mD,dD,eD⟩:=f6.form;obtain⟨bU,mU,dU,eU⟩:=f9.form;rw[eD] at f6 a1;rw[eU] at f9 a1;have hsv:KP w1.heap.size w' (UN #[UE UG gn,UE UG tl,UD bD mD dD,UD bU mU dU]) gn tl D U:=⟨bD,mD,dD,bU,mU,dU,rfl,S3.of_io f6 f9 (IA a1)⟩
   have hK':=hK w' _ (by simpa using hsv) (hx.step 10 _ Cs C7) Cs;clear hK f6 f9 hsv a1;rw[AR AO];go_simp;simpa[Cr,d1,d3,eD,eU] using hK'
 case hend=>
  intro o L t w' ho hx hg K hK;simp at ho;subst ho;have f10:KP w1.heap.size w' (t 10) gn tl D U:=by simpa using(hg 10 AL).2
  clear hg;obtain⟨bD,mD,dD,bU,mU,dU,e10,s10⟩:=f10;have hrs:=(hx.below.block _ (AQ.1 HE1.o.b1).1).trans HE1.o.b1;have hK':∀ ww,Wr (w.heap.size+1) w' ww->ww.heap[w.heap.size+1]?=UI (UP #[UE UG gn,UE UG tl,UD bD mD dD,UD bU mU dU] 30 (0,0))->K _ ww:=λww hw hr=>hK ww undef ⟨bD,mD,dD,bU,mU,dU,hr,(s10.keep (Aw hw.size.symm) (λk hk _=>hw.block k (AG (AQ.1 HE1.o.b1).1))).lo (AG HE1.o.below.size),(HE1.o.below.trans (hx.below.mono HE1.o.below.size)).trans (hw.below AK)⟩
  clear hK s10;rw[AR AO];refine A8 30 (.tmp 2) (.tmp 13) rfl (w.heap.size+1) #[UE UG gn,UE UG tl,UD bD mD dD,UD bU mU dU] rfl e10 30 _ hrs HSZ.o rfl (by simp[Value.oneCell']) ?_;have hK2:=hK' _ (Wr.setRow _ _ _) (AB hrs);clear hK';simpa[Cr,Act.put] using hK2
 case hdone=>
  intro t w9 hf;obtain⟨bD,mD,dD,bU,mU,dU,hr,hI,hb9⟩:=hf;have HR9:AP (w9.heap[w.heap.size+1]?=UI (UP #[UE UG gn,UE UG tl,UD bD mD dD,UD bU mU dU] 30 (0,0))):=hr;have HF:AP (KP w.heap.size w9 (UN #[UE UG gn,UE UG tl,UD bD mD dD,UD bU mU dU]) gn tl D U/\Below w.heap.size w w9):=⟨⟨bD,mD,dD,bU,mU,dU,rfl,hI⟩,hb9⟩
  clear hr hI hb9;go_wp2_with fail;exact AZ (v:=UN #[UE UG gn,UE UG tl,UD bD mD dD,UD bU mU dU]) (AW rfl _ _ (w.heap.size+1) 30 _ (0,0) _ rfl HR9.o Tryz.underlying30 rfl HSZ.o) rfl ⟨_,rfl,HF.o.1,HF.o.2⟩
theorem Pr (aD aU aT:Option Addr) (nD cD nU cU nT cT:Nat) (D U:List Int) (k:Int) (T:List Int) (w:UK) (hD:D.length=nD) (hU:U.length=nU) (hT:T.length=nT*2) (mD:nD<=1048576) (mU:nU<=1048576) (mT:nT<=1048576) (haD:At UO w aD D) (haU:At UO w aU U) (haT:At UO w aT T) :
  Calls Tryz.prog 168 #[UN #[UD aD nD cD,UD aU nU cU,UE UO k,UD aT nT cT]] w λe w'=>∃ v,e=UQ v/\Ld w.heap.size w' v D U k T nT/\Below w.heap.size w w':=by
 have HCD:=Cq (λww (b:Below w.heap.size w ww)=>H7 aD nD cD D ww hD mD (haD.below b));have HCU:=Cq (λww (b:Below w.heap.size w ww)=>H7 aU nU cU U ww hU mU (haU.below b));have HCT:=Cq (λww (b:Below w.heap.size w ww)=>Nz aT nT cT T ww hT mT (haT.below b));have HSZ:AP ((Tryz.prog.info? 34).map (·.size)=UI 4):=by show _=_;kernel_rfl
 have HE1:AP (BE w 34 #[UD aD nD cD,UD aU nU cU,UE UO k,UD aT nT cT] Cf ((w.alloc (UP #[UD aD nD cD,UD aU nU cU,UE UO k,UD aT nT cT] 34)).alloc (UP Cf 34))):=BE.start _ _ _ _;have HL1:AP (w.heap.size<((w.alloc (UP #[UD aD nD cD,UD aU nU cU,UE UO k,UD aT nT cT] 34)).alloc (UP Cf 34)).heap.size):=(AQ.1 HE1.o.b0).1;clear hD hU hT mD mU mT haD haU haT;go_enter Tryz.func168,Tryz.ntmps168;go_wp2_with fail;generalize ((w.alloc (UP #[UD aD nD cD,UD aU nU cU,UE UO k,UD aT nT cT] 34)).alloc (UP Cf 34))=w1 at *;refine Ae AN ?_;refine DF 12 (λ_ a b=>Below a.heap.size a b) (frame:=(λ(a b c:UL)=>λ(t:Nat->UL)=>({ tmps:=List.toArray [a,b,c,t 0,t 1,t 2,t 3,t 4,t 5,t 6,t 7,t 8,t 9,t 10,t 11],defers:=[] }:Act)) _ _ _)
  (Ext:=λL u w'=>Fo w1 [2,5,10] L u w') (Good:=λi L w' v=>if i=0 then v=UM (UI ⟨w.heap.size,0,UJ⟩) else if i=1 then v=UD aD nD cD else if i=2 then Iow w1.heap.size w' v D else if i=3 then v=UM (UI ⟨w.heap.size,1,UJ⟩) else if i=4 then v=UD aU nU cU else if i=5 then Iow w1.heap.size w' v U else if i=6 then v=UM (UI ⟨w.heap.size,2,UJ⟩) else if i=7 then v=UE UO k else if i=8 then v=UM (UI ⟨w.heap.size,3,UJ⟩) else if i=9 then v=UD aT nT cT else if i=10 then DN w1.heap.size w' v T nT else if i=11 then Ld w1.heap.size w' v D U k T nT else True) (Fin:=λ_ ww=>∃ bD mD dD bU mU dU bT dT,ww.heap[w.heap.size+1]?=UI (UP #[UD bD mD dD,UD bU mU dU,UE UO k,UD bT nT dT] 34 (0,0))/\S3 w.heap.size ww bD bU bT mD mU nT D U T/\Below w.heap.size w ww) rfl AN ?hstab AN ?hop ?hend ?hdone _ _ ((λ(x0 x1 x2 x3 x4 x5 x6 x7 x8 x9 x10 x11:UL)=>λ(i:Nat)=>if i=0 then x0 else if i=1 then x1 else if i=2 then x2 else if i=3 then x3 else if i=4 then x4 else if i=5 then x5 else if i=6 then x6 else if i=7 then x7 else if i=8 then x8 else if i=9 then x9 else if i=10 then x10 else if i=11 then x11 else undef) _ _ _ _ _ _ _ _ _ _ _ _) _ AM ?none ?ext AM
 case none=>exact λ_=>FJ
 case ext=>exact Fo.start w1 [2,5,10] _ _ (λ_=>FJ) ⟨rfl,rfl,rfl,AY _,λ_ _=>rfl⟩
 case hstab=>
  intro j L w9 w' i v _ hM _ _ h;by_cases h2:j=2
  ·subst h2;simp at h |-;exact h.below hM
  by_cases h5:j=5
  ·subst h5;simp at h |-;exact h.below hM
  by_cases h10:j=10
  ·subst h10;simp at h |-;exact h.below hM
  by_cases h11:j=11
  ·subst h11;simp at h |-;exact h.below hM
  simp only[if_neg h2,if_neg h5,if_neg h10,if_neg h11] at h |-;exact h
 case hop=>
  intro i o L t w' hi ho hLi hx hdep K hK;have cX:∀ q9:Nat,w'.cell? ⟨w.heap.size,q9,UJ⟩=(#[UD aD nD cD,UD aU nU cU,UE UO k,UD aT nT cT]:Array UL)[q9]?:=λq9=>by rw[Aa (a:=⟨w.heap.size,q9,UJ⟩) (w:=w1) (hx.below.block _ HL1.o),AA HE1.o.b0 q9]
  obtain rfl|rfl|rfl|rfl|rfl|rfl|rfl|rfl|rfl|rfl|rfl|rfl:i=0\/i=1\/i=2\/i=3\/i=4\/i=5\/i=6\/i=7\/i=8\/i=9\/i=10\/i=11:=AK
  all_goals(simp at ho;subst ho)
  all_goals try(have hK':=hK w' _ rfl (hx.step _ _ Cs C7) Cs;clear hK;simp[Region.binds] at hdep;rw[AR AO];go_simp;simpa[Cr,hdep] using hK')
  ·have d1:t 1=UD aD nD cD:=by simpa using(hdep ⟨1,UR⟩ AM rfl).2
   clear hdep;have bw:Below w.heap.size w w':=HE1.o.below.trans (hx.below.mono HE1.o.below.size);have hsz:w1.heap.size<=w'.heap.size:=hx.below.size;have A:=HCD.o w' bw;have hK':∀ ww v,Iow w1.heap.size ww v D->DU w' ww v->Below w'.heap.size w' ww->K _ ww:=λww v hv hf hb=>hK ww v (by simpa using hv) (hx.step 2 v hb (λ_=>hf)) hb
   clear hK;rw[AR AO];go_simp;try simp only[d1]
   refine A.mono ?_;rintro e w9 ⟨v9,rfl,h9,hb9⟩;have hK2:=hK' w9 v9 (h9.lo hsz) (FX h9) hb9;clear hK' A h9 hb9;go_simp;simpa[Cr,d1] using hK2
  ·have d4:t 4=UD aU nU cU:=by simpa using(hdep ⟨4,UR⟩ AM rfl).2
   clear hdep;have bw:Below w.heap.size w w':=HE1.o.below.trans (hx.below.mono HE1.o.below.size);have hsz:w1.heap.size<=w'.heap.size:=hx.below.size;have A:=HCU.o w' bw;have hK':∀ ww v,Iow w1.heap.size ww v U->DU w' ww v->Below w'.heap.size w' ww->K _ ww:=λww v hv hf hb=>hK ww v (by simpa using hv) (hx.step 5 v hb (λ_=>hf)) hb
   clear hK;rw[AR AO];go_simp;try simp only[d4]
   refine A.mono ?_;rintro e w9 ⟨v9,rfl,h9,hb9⟩;have hK2:=hK' w9 v9 (h9.lo hsz) (FX h9) hb9;clear hK' A h9 hb9;go_simp;simpa[Cr,d4] using hK2
  ·have d9:t 9=UD aT nT cT:=by simpa using(hdep ⟨9,UR⟩ AM rfl).2
   clear hdep;have bw:Below w.heap.size w w':=HE1.o.below.trans (hx.below.mono HE1.o.below.size);have hsz:w1.heap.size<=w'.heap.size:=hx.below.size;have A:=HCT.o w' bw;have hK':∀ ww v,DN w1.heap.size ww v T nT->DU w' ww v->Below w'.heap.size w' ww->K _ ww:=λww v hv hf hb=>hK ww v (by simpa using hv) (hx.step 10 v hb (λ_=>hf)) hb
   clear hK;rw[AR AO];go_simp;try simp only[d9]
   refine A.mono ?_;rintro e w9 ⟨v9,rfl,h9,hb9⟩;have hK2:=hK' w9 v9 (h9.lo hsz) (FX h9) hb9;clear hK' A h9 hb9;go_simp;simpa[Cr,d9] using hK2
  ·have l2:L 2=true:=(hdep ⟨2,UR⟩ AM rfl).1;have f2:Iow w1.heap.size w' (t 2) D:=by simpa using(hdep ⟨2,UR⟩ AM rfl).2
   have l5:L 5=true:=(hdep ⟨5,UR⟩ AM rfl).1;have f5:Iow w1.heap.size w' (t 5) U:=by simpa using(hdep ⟨5,UR⟩ AM rfl).2
   have d7:t 7=UE UO k:=by simpa using(hdep ⟨7,UR⟩ AM rfl).2
   have l10:L 10=true:=(hdep ⟨10,UR⟩ AM rfl).1;have f10:DN w1.heap.size w' (t 10) T nT:=by simpa using(hdep ⟨10,UR⟩ AM rfl).2
   clear hdep;have a1:=hx.ap 2 AL 5 AL AL l2 l5;have a2:=hx.ap 2 AL 10 AL AL l2 l10;have a3:=hx.ap 5 AL 10 AL AL l5 l10;obtain⟨bD,mD,dD,eD⟩:=f2.form;obtain⟨bU,mU,dU,eU⟩:=f5.form;obtain⟨bT,dT,eT⟩:=f10.frm;rw[eD] at f2 a1 a2;rw[eU] at f5 a1 a3;rw[eT] at f10 a2 a3;have hsv:Ld w1.heap.size w' (UN #[UD bD mD dD,UD bU mU dU,UE UO k,UD bT nT dT]) D U k T nT:=⟨bD,mD,dD,bU,mU,dU,bT,dT,rfl,TK f2 f5 f10 (IA a1) (IA a2) (IA a3)⟩
   have hK':=hK w' _ (by simpa using hsv) (hx.step 11 _ Cs C7) Cs;clear hK f2 f5 f10 hsv a1 a2 a3;rw[AR AO];go_simp;simpa[Cr,d7,eD,eU,eT] using hK'
 case hend=>
  intro o L t w' ho hx hg K hK;simp at ho;subst ho;have f11:Ld w1.heap.size w' (t 11) D U k T nT:=by simpa using(hg 11 AL).2
  clear hg;obtain⟨bD,mD,dD,bU,mU,dU,bT,dT,e11,s11⟩:=f11;have hrs:=(hx.below.block _ (AQ.1 HE1.o.b1).1).trans HE1.o.b1;have hK':∀ ww,Wr (w.heap.size+1) w' ww->ww.heap[w.heap.size+1]?=UI (UP #[UD bD mD dD,UD bU mU dU,UE UO k,UD bT nT dT] 34 (0,0))->K _ ww:=λww hw hr=>hK ww undef ⟨bD,mD,dD,bU,mU,dU,bT,dT,hr,(s11.keep (Aw hw.size.symm) (λk hk _=>hw.block k (AG (AQ.1 HE1.o.b1).1))).lo (AG HE1.o.below.size),(HE1.o.below.trans (hx.below.mono HE1.o.below.size)).trans (hw.below AK)⟩
  clear hK s11;rw[AR AO];refine A8 34 (.tmp 2) (.tmp 14) rfl (w.heap.size+1) #[UD bD mD dD,UD bU mU dU,UE UO k,UD bT nT dT] rfl e11 34 _ hrs HSZ.o rfl (by simp[Value.oneCell']) ?_;have hK2:=hK' _ (Wr.setRow _ _ _) (AB hrs);clear hK';simpa[Cr,Act.put] using hK2
 case hdone=>
  intro t w9 hf;obtain⟨bD,mD,dD,bU,mU,dU,bT,dT,hr,hI,hb9⟩:=hf;have HR9:AP (w9.heap[w.heap.size+1]?=UI (UP #[UD bD mD dD,UD bU mU dU,UE UO k,UD bT nT dT] 34 (0,0))):=hr;have HF:AP (Ld w.heap.size w9 (UN #[UD bD mD dD,UD bU mU dU,UE UO k,UD bT nT dT]) D U k T nT/\Below w.heap.size w w9):=⟨⟨bD,mD,dD,bU,mU,dU,bT,dT,rfl,hI⟩,hb9⟩
  clear hr hI hb9;go_wp2_with fail;exact AZ (v:=UN #[UD bD mD dD,UD bU mU dU,UE UO k,UD bT nT dT]) (AW rfl _ _ (w.heap.size+1) 34 _ (0,0) _ rfl HR9.o Tryz.underlying34 rfl HSZ.o) rfl ⟨_,rfl,HF.o.1,HF.o.2⟩
theorem FP {w:UK} {b:Nat} {C:Array UL} {t:TypeId} {fr:Nat×Nat} (h:w.heap[b]?=UI (UP C t fr)) (o:Nat) (cs:List UL) (hc:(C.toList.drop o).take cs.length=cs):w.rangeAt b o cs:=λj v hj=>by
 rw[AA h (o+j),<-Array.getElem?_toList,<-List.getElem?_drop,<-BS (Af.1 hj).1,hc];exact hj
section
variable {lo lo':Nat} {w w':UK} {v vd vk vi:UL} {zs ks D U T:List Int} {f gn tl k:Int} {d:Bool} {r:Dt} {C:Array UL} {nT:Nat}
theorem KP.dn (h:KP lo w v gn tl D U) (hl:lo'<=lo):KP lo' w v gn tl D U:=by obtain⟨bD,mD,dD,bU,mU,dU,e,h⟩:=h;exact⟨bD,mD,dD,bU,mU,dU,e,h.lo hl⟩
theorem Ld.dn (h:Ld lo w v D U k T nT) (hl:lo'<=lo):Ld lo' w v D U k T nT:=by obtain⟨bD,mD,dD,bU,mU,dU,bT,dT,e,h⟩:=h;exact⟨bD,mD,dD,bU,mU,dU,bT,dT,e,h.lo hl⟩
theorem KP.fresh {w0:UK} (h:KP w0.heap.size w v gn tl D U):DU w0 w v:=by
 obtain⟨bD,mD,dD,bU,mU,dU,rfl,h⟩:=h;intro k hk;obtain⟨x,hx,ad,hA,rfl⟩:=F6.1 hk;simp at hx;rcases hx with rfl|rfl|rfl|rfl
 ·cases hA
 ·cases hA
 ·exact h.ld ad hA
 ·exact h.lu ad hA
theorem Ld.fresh {w0:UK} (h:Ld w0.heap.size w v D U k T nT):DU w0 w v:=by
 obtain⟨bD,mD,dD,bU,mU,dU,bT,dT,rfl,h⟩:=h;intro k hk;obtain⟨x,hx,ad,hA,rfl⟩:=F6.1 hk;simp at hx;rcases hx with rfl|rfl|rfl|rfl
 ·exact h.ld ad hA
 ·exact h.lu ad hA
 ·cases hA
 ·exact h.lt ad hA
theorem IU.dn (h:IU lo w v r) (hl:lo'<=lo):IU lo' w v r:=by
 obtain⟨aSD,nSD,cSD,aSU,nSU,cSU,aF,mF,cF,aD,nD,cD,aU,nU,cU,aT,cT,b1,b2,e,g,h,h3⟩:=h;exact⟨aSD,nSD,cSD,aSU,nSU,cSU,aF,mF,cF,aD,nD,cD,aU,nU,cU,aT,cT,b1,b2,e,g.low hl,h,h3⟩
theorem IU.fresh {w0:UK} (h:IU w0.heap.size w v r):DU w0 w v:=by
 obtain⟨aSD,nSD,cSD,aSU,nSU,cSU,aF,mF,cF,aD,nD,cD,aU,nU,cU,aT,cT,b1,b2,rfl,g,h2⟩:=h;obtain⟨l1,l2,l3,l4,l5,l6⟩:=g.l6;intro k hk;obtain⟨x,hx,ad,hA,rfl⟩:=F6.1 hk;simp at hx;rcases hx with rfl|rfl|rfl|rfl|rfl|rfl|rfl|rfl|rfl|rfl|rfl
 all_goals first
  |exact l1 ad hA
  |exact l2 ad hA
  |exact l3 ad hA
  |exact l4 ad hA
  |exact l5 ad hA
  |exact l6 ad hA
  |cases hA
theorem SN {bSD bSU bF bD bU bT:Option Addr} {mSD dSD mSU dSU mF dF mD dD mU dU dT:Nat} (s1:S3 lo w bSD bSU UJ mSD mSU 0 r.sD r.sU []) (f1:FO lo w (UD bF mF dF) r.F mF) (s2:S3 lo w bD bU bT mD mU r.n r.D r.U r.T)
  (a1:Ir (UN #[UE UG r.g,UE UG r.t,UD bSD mSD dSD,UD bSU mSU dSU]) (UD bF mF dF)) (a2:Ir (UN #[UE UG r.g,UE UG r.t,UD bSD mSD dSD,UD bSU mSU dSU]) (UN #[UD bD mD dD,UD bU mU dU,UE UO r.k,UD bT r.n dT])) (a3:Ir (UD bF mF dF) (UN #[UD bD mD dD,UD bU mU dU,UE UO r.k,UD bT r.n dT])) :
  IU lo w (UN #[UF r.ok,UE UG r.g,UE UG r.t,UD bSD mSD dSD,UD bSU mSU dSU,UD bF mF dF,UD bD mD dD,UD bU mU dU,UE UO r.k,UD bT r.n dT,UE UG r.nx]) r:=by
 have fl:=f1.len;obtain⟨aF,cF,e,fA,fc,fL⟩:=f1.form;cases e;refine⟨bSD,mSD,dSD,bSU,mSU,dSU,bF,mF,dF,bD,mD,dD,bU,mU,dU,bT,dT,0,0,rfl,⟨s1.d.open_ s1.nd,s1.u.open_ s1.nu,f1.open_,s2.d.open_ s2.nd,s2.u.open_ s2.nu,s2.t.open_ s2.nt,s1.ld,s1.lu,fL,s2.ld,s2.lu,s2.lt,s1.du,s2.du,s2.dt,s2.ut,λad e=>?_,λad e=>?_⟩,⟨s1.d.at_,s1.u.at_,fA,s2.d.at_,s2.u.at_,s2.t.at_,s1.nd,s1.nu,fl,s2.nd,s2.nu,s2.nt⟩,fc⟩
 ·have q:Value.has (UN #[UE UG r.g,UE UG r.t,UD bSD mSD dSD,UD bSU mSU dSU]) ad.block:=by
   rcases e with e|e
   ·exact DH 2 rfl e
   ·exact DH 3 rfl e
  exact⟨λx hx h=>a1 _ q (.inl ⟨x,hx,h.symm⟩),λx hx h=>a2 _ q (by rw[h];exact DH 0 rfl hx),λx hx h=>a2 _ q (by rw[h];exact DH 1 rfl hx),λx hx h=>a2 _ q (by rw[h];exact DH 3 rfl hx)⟩
 ·have q:Value.has (UD bF mF dF) ad.block:=.inl ⟨ad,e,rfl⟩;exact⟨λx hx h=>a3 _ q (by rw[h];exact DH 0 rfl hx),λx hx h=>a3 _ q (by rw[h];exact DH 1 rfl hx),λx hx h=>a3 _ q (by rw[h];exact DH 3 rfl hx)⟩
def N1 (lo:Nat) (w:UK) (v:UL) (zs:List Int) (f:Int) (d:Bool):Prop:=∃ dv,v=UN #[dv,UD UJ 0 0,UE UO f,UF d]/\Dd w lo dv zs
theorem N1.below (h:N1 lo w v zs f d) (b:Below w.heap.size w w'):N1 lo w' v zs f d:=by obtain⟨dv,e,h⟩:=h;exact⟨dv,e,h.grow b⟩
theorem N1.dn (h:N1 lo w v zs f d) (hl:lo'<=lo):N1 lo' w v zs f d:=by obtain⟨dv,e,h⟩:=h;exact⟨dv,e,h.mono hl⟩
theorem N1.dvm (h:N1 lo w v zs f d):Mp lo w v zs f d:=by
 obtain⟨dv,rfl,h⟩:=h;obtain⟨ka,kc,rfl,q⟩:=h.km;refine⟨ka,kc,UJ,0,rfl,?_,q,λ_ e=>(by cases e)⟩;rcases h with⟨e,rfl⟩|h
 ·cases e;exact AY _
 ·obtain⟨g,c,e,q1,q2,q3,q4,q5⟩:=h.at_;cases e;exact q3
def MF (lo:Nat) (w:UK) (C:Array UL) (zs ks:List Int) (f:Int) (d:Bool) (r:Dt):Prop:=GP lo w C zs ks f d r/\C[1]?=UI (UD UJ 0 0)/\∃ dv,C[0]?=UI dv/\Dd w lo dv zs
def N2 (lo:Nat) (w:UK) (v:UL) (zs ks:List Int) (f:Int) (d:Bool) (r:Dt):Prop:=∃ C,v=UN C/\MF lo w C zs ks f d r
theorem MF.keep (h:MF lo w C zs ks f d r) (hs:w.heap.size<=w'.heap.size) (hb:∀ k,lo<=k->k<w.heap.size->w'.heap[k]?=w.heap[k]?):MF lo w' C zs ks f d r:=by
 obtain⟨h1,h2,dv,h3,h4⟩:=h;exact⟨h1.keep hs hb,h2,dv,h3,h4.keep λk e=>hb k (h4.lt k e).1 (h4.lt k e).2.1⟩
theorem MF.below (h:MF lo w C zs ks f d r) (b:Below w.heap.size w w'):MF lo w' C zs ks f d r:=h.keep b.size (λk _ hk=>b.block k hk)
theorem MF.mono (h:MF lo w C zs ks f d r) (hl:lo'<=lo):MF lo' w C zs ks f d r:=by
 obtain⟨h1,h2,dv,h3,h4⟩:=h;exact⟨h1.mono hl,h2,dv,h3,h4.mono hl⟩
theorem N2.below (h:N2 lo w v zs ks f d r) (b:Below w.heap.size w w'):N2 lo w' v zs ks f d r:=by obtain⟨C,e,h⟩:=h;exact⟨C,e,h.below b⟩
theorem Ps (h1:N1 lo w vd zs f d) (h2:KM lo w vk ks) (h3:IU lo w vi r) (a1:Ir vd vk) (a2:Ir vd vi) (a3:Ir vk vi) :
  ∃ xa xc ya yc bSD mSD dSD bSU mSU dSU bF mG dF bD mD dD bU mU dU bT dT,vd=UN #[UD xa zs.length xc,UD UJ 0 0,UE UO f,UF d]/\vk=UD ya ks.length yc/\vi=UN #[UF r.ok,UE UG r.g,UE UG r.t,UD bSD mSD dSD,UD bSU mSU dSU,UD bF mG dF,UD bD mD dD,UD bU mU dU,UE UO r.k,UD bT r.n dT,UE UG r.nx]/\MF lo w #[UD xa zs.length xc,UD UJ 0 0,UE UO f,UF d,UD ya ks.length yc,UF r.ok,UE UG r.g,UE UG r.t,UD bSD mSD dSD,UD bSU mSU dSU,UD bF mG dF,UD bD mD dD,UD bU mU dU,UE UO r.k,UD bT r.n dT,UE UG r.nx] zs ks f d r:=by
 obtain⟨da,dc,ca,cc,ka,kc,aSD,nSD,cSD,aSU,nSU,cSU,aF,mF,cF,aD,nD,cD,aU,nU,cU,aT,cT,e1,e2,e3,g⟩:=Mr h1.dvm h2 h3 a1 a2 a3;obtain⟨dv,e,o⟩:=h1;rw[e] at e1;injection e1 with e1
 simp at e1;obtain⟨rfl,⟨rfl,rfl⟩⟩:=e1;exact⟨da,dc,ka,kc,aSD,nSD,cSD,aSU,nSU,cSU,aF,mF,cF,aD,nD,cD,aU,nU,cU,aT,cT,e,e2,e3,g,rfl,_,rfl,o⟩
end
theorem Pt (v:UL) (r:Dt) (w:UK) (h:ME w v r) (hb:Eu r) :
  Calls Tryz.prog 163 #[v] w λe w'=>∃ C,e=UQ (UN C)/\IU w.heap.size w' (UN C) r/\Below w.heap.size w w':=by
 obtain⟨aSD,nSD,cSD,aSU,nSU,cSU,aF,mF,cF,aD,nD,cD,aU,nU,cU,aT,cT,rfl,A1,A2,A3,A4,A5,A6,e1,e2,e3,e4,e5,e6⟩:=h;obtain⟨l1,l2,l3,l4,l5,l6⟩:=hb;have HCS:=Cq (λww (b:Below w.heap.size w ww)=>Pq r.g r.t aSD aSU nSD cSD nSU cSU r.sD r.sU ww e1 e2 AK AK (A1.below b) (A2.below b));have HCF:=Cq (λww (b:Below w.heap.size w ww)=>Po aF mF cF r.F ww e3 AK (A3.below b));have HCT:=Cq (λww (b:Below w.heap.size w ww)=>Pr aD aU aT nD cD nU cU r.n cT r.D r.U r.k r.T ww e4 e5 e6 AK AK AK (A4.below b) (A5.below b) (A6.below b));have HSN:AP ((Tryz.prog.info? 30).map (·.size)=UI 4):=by show _=_;kernel_rfl
 have HST:AP ((Tryz.prog.info? 34).map (·.size)=UI 4):=by show _=_;kernel_rfl
 have HSI:AP ((Tryz.prog.info? 36).map (·.size)=UI 11):=by show _=_;kernel_rfl
 have HE1:AP (BE w 36 #[UF r.ok,UE UG r.g,UE UG r.t,UD aSD nSD cSD,UD aSU nSU cSU,UD aF mF cF,UD aD nD cD,UD aU nU cU,UE UO r.k,UD aT r.n cT,UE UG r.nx] Cg ((w.alloc (UP #[UF r.ok,UE UG r.g,UE UG r.t,UD aSD nSD cSD,UD aSU nSU cSU,UD aF mF cF,UD aD nD cD,UD aU nU cU,UE UO r.k,UD aT r.n cT,UE UG r.nx] 36)).alloc (UP Cg 36))):=BE.start _ _ _ _;have HL1:AP (w.heap.size<((w.alloc (UP #[UF r.ok,UE UG r.g,UE UG r.t,UD aSD nSD cSD,UD aSU nSU cSU,UD aF mF cF,UD aD nD cD,UD aU nU cU,UE UO r.k,UD aT r.n cT,UE UG r.nx] 36)).alloc (UP Cg 36)).heap.size):=(AQ.1 HE1.o.b0).1;clear A1 A2 A3 A4 A5 A6 e1 e2 e3 e4 e5 e6 l1 l2 l3 l4 l5 l6;go_enter Tryz.func163,Tryz.ntmps163;go_wp2_with fail;generalize ((w.alloc (UP #[UF r.ok,UE UG r.g,UE UG r.t,UD aSD nSD cSD,UD aSU nSU cSU,UD aF mF cF,UD aD nD cD,UD aU nU cU,UE UO r.k,UD aT r.n cT,UE UG r.nx] 36)).alloc (UP Cg 36))=w1 at *;refine Ae AN ?_;refine DF 14 (λ_ a b=>Below a.heap.size a b) (frame:=(λ(a b c:UL)=>λ(t:Nat->UL)=>({ tmps:=List.toArray [a,b,c,t 0,t 1,t 2,t 3,t 4,t 5,t 6,t 7,t 8,t 9,t 10,t 11,t 12,t 13],defers:=[] }:Act)) _ _ _)
  (Ext:=λL u w'=>Fo w1 [4,7,10] L u w') (Good:=λi L w' v=>if i=0 then v=UM (UI ⟨w.heap.size,0,UJ⟩) else if i=1 then v=UF r.ok else if i=2 then v=UM (UI ⟨w.heap.size,1,UJ⟩) else if i=3 then v=UN #[UE UG r.g,UE UG r.t,UD aSD nSD cSD,UD aSU nSU cSU] else if i=4 then KP w1.heap.size w' v r.g r.t r.sD r.sU else if i=5 then v=UM (UI ⟨w.heap.size,5,UJ⟩) else if i=6 then v=UD aF mF cF else if i=7 then FO w1.heap.size w' v r.F mF else if i=8 then v=UM (UI ⟨w.heap.size,6,UJ⟩) else if i=9 then v=UN #[UD aD nD cD,UD aU nU cU,UE UO r.k,UD aT r.n cT] else if i=10 then Ld w1.heap.size w' v r.D r.U r.k r.T r.n else if i=11 then v=UM (UI ⟨w.heap.size,10,UJ⟩) else if i=12 then v=UE UG r.nx else if i=13 then IU w1.heap.size w' v r else True) (Fin:=λ_ ww=>∃ C,ww.heap[w.heap.size+1]?=UI (UP C 36 (0,0))/\IU w.heap.size ww (UN C) r/\C.size=11/\Below w.heap.size w ww) rfl AN ?hstab AN ?hop ?hend ?hdone _ _ ((λ(x0 x1 x2 x3 x4 x5 x6 x7 x8 x9 x10 x11 x12 x13:UL)=>λ(i:Nat)=>if i=0 then x0 else if i=1 then x1 else if i=2 then x2 else if i=3 then x3 else if i=4 then x4 else if i=5 then x5 else if i=6 then x6 else if i=7 then x7 else if i=8 then x8 else if i=9 then x9 else if i=10 then x10 else if i=11 then x11 else if i=12 then x12 else if i=13 then x13 else undef) _ _ _ _ _ _ _ _ _ _ _ _ _ _) _ AM ?none ?ext AM
 case none=>exact λ_=>FJ
 case ext=>exact Fo.start w1 [4,7,10] _ _ (λ_=>FJ) ⟨rfl,rfl,rfl,AY _,λ_ _=>rfl⟩
 case hstab=>
  intro j L w9 w' i v _ hM _ _ h;by_cases h4:j=4
  ·subst h4;simp at h |-;exact h.below hM
  by_cases h7:j=7
  ·subst h7;simp at h |-;exact h.below hM
  by_cases h10:j=10
  ·subst h10;simp at h |-;exact h.below hM
  by_cases h13:j=13
  ·subst h13;simp at h |-;exact h.below hM
  simp only[if_neg h4,if_neg h7,if_neg h10,if_neg h13] at h |-;exact h
 case hop=>
  intro i o L t w' hi ho hLi hx hdep K hK;have cX:∀ q9:Nat,w'.cell? ⟨w.heap.size,q9,UJ⟩=(#[UF r.ok,UE UG r.g,UE UG r.t,UD aSD nSD cSD,UD aSU nSU cSU,UD aF mF cF,UD aD nD cD,UD aU nU cU,UE UO r.k,UD aT r.n cT,UE UG r.nx]:Array UL)[q9]?:=λq9=>by rw[Aa (a:=⟨w.heap.size,q9,UJ⟩) (w:=w1) (hx.below.block _ HL1.o),AA HE1.o.b0 q9]
  obtain rfl|rfl|rfl|rfl|rfl|rfl|rfl|rfl|rfl|rfl|rfl|rfl|rfl|rfl:i=0\/i=1\/i=2\/i=3\/i=4\/i=5\/i=6\/i=7\/i=8\/i=9\/i=10\/i=11\/i=12\/i=13:=AK
  all_goals(simp at ho;subst ho)
  all_goals try(have hK':=hK w' _ rfl (hx.step _ _ Cs C7) Cs;clear hK;simp[Region.binds] at hdep;rw[AR AO];go_simp;simpa[Cr,hdep] using hK')
  ·have d3:t 3=UN #[UE UG r.g,UE UG r.t,UD aSD nSD cSD,UD aSU nSU cSU]:=by simpa using(hdep ⟨3,UR⟩ AM rfl).2
   clear hdep;have bw:Below w.heap.size w w':=HE1.o.below.trans (hx.below.mono HE1.o.below.size);have hsz:w1.heap.size<=w'.heap.size:=hx.below.size;have A:=HCS.o w' bw;have hK':∀ ww v,KP w1.heap.size ww v r.g r.t r.sD r.sU->DU w' ww v->Below w'.heap.size w' ww->K _ ww:=λww v hv hf hb=>hK ww v (by simpa using hv) (hx.step 4 v hb (λ_=>hf)) hb
   clear hK;rw[AR AO];go_simp;try simp only[d3]
   refine A.mono ?_;rintro e w9 ⟨v9,rfl,h9,hb9⟩;have hK2:=hK' w9 v9 (h9.dn hsz) h9.fresh hb9;clear hK' A h9 hb9;go_simp;simpa[Cr,d3] using hK2
  ·have d6:t 6=UD aF mF cF:=by simpa using(hdep ⟨6,UR⟩ AM rfl).2
   clear hdep;have bw:Below w.heap.size w w':=HE1.o.below.trans (hx.below.mono HE1.o.below.size);have hsz:w1.heap.size<=w'.heap.size:=hx.below.size;have A:=HCF.o w' bw;have hK':∀ ww v,FO w1.heap.size ww v r.F mF->DU w' ww v->Below w'.heap.size w' ww->K _ ww:=λww v hv hf hb=>hK ww v (by simpa using hv) (hx.step 7 v hb (λ_=>hf)) hb
   clear hK;rw[AR AO];go_simp;try simp only[d6]
   refine A.mono ?_;rintro e w9 ⟨v9,rfl,h9,hb9⟩;have hK2:=hK' w9 v9 (h9.lo hsz) (FX h9) hb9;clear hK' A h9 hb9;go_simp;simpa[Cr,d6] using hK2
  ·have d9:t 9=UN #[UD aD nD cD,UD aU nU cU,UE UO r.k,UD aT r.n cT]:=by simpa using(hdep ⟨9,UR⟩ AM rfl).2
   clear hdep;have bw:Below w.heap.size w w':=HE1.o.below.trans (hx.below.mono HE1.o.below.size);have hsz:w1.heap.size<=w'.heap.size:=hx.below.size;have A:=HCT.o w' bw;have hK':∀ ww v,Ld w1.heap.size ww v r.D r.U r.k r.T r.n->DU w' ww v->Below w'.heap.size w' ww->K _ ww:=λww v hv hf hb=>hK ww v (by simpa using hv) (hx.step 10 v hb (λ_=>hf)) hb
   clear hK;rw[AR AO];go_simp;try simp only[d9]
   refine A.mono ?_;rintro e w9 ⟨v9,rfl,h9,hb9⟩;have hK2:=hK' w9 v9 (h9.dn hsz) h9.fresh hb9;clear hK' A h9 hb9;go_simp;simpa[Cr,d9] using hK2
  ·have d1:t 1=UF r.ok:=by simpa using(hdep ⟨1,UR⟩ AM rfl).2
   have l4:L 4=true:=(hdep ⟨4,UR⟩ AM rfl).1;have f4:KP w1.heap.size w' (t 4) r.g r.t r.sD r.sU:=by simpa using(hdep ⟨4,UR⟩ AM rfl).2
   have l7:L 7=true:=(hdep ⟨7,UR⟩ AM rfl).1;have f7:FO w1.heap.size w' (t 7) r.F mF:=by simpa using(hdep ⟨7,UR⟩ AM rfl).2
   have l10:L 10=true:=(hdep ⟨10,UR⟩ AM rfl).1;have f10:Ld w1.heap.size w' (t 10) r.D r.U r.k r.T r.n:=by simpa using(hdep ⟨10,UR⟩ AM rfl).2
   have d12:t 12=UE UG r.nx:=by simpa using(hdep ⟨12,UR⟩ AM rfl).2
   clear hdep;have a1:=hx.ap 4 AL 7 AL AL l4 l7;have a2:=hx.ap 4 AL 10 AL AL l4 l10;have a3:=hx.ap 7 AL 10 AL AL l7 l10;obtain⟨bSD,mSD,dSD,bSU,mSU,dSU,e4,s4⟩:=f4;obtain⟨bF,dF,e7,q1,q2,q3⟩:=f7.form;obtain⟨bD,mD,dD,bU,mU,dU,bT,dT,e10,s10⟩:=f10;rw[e4] at a1 a2;rw[e7] at f7 a1 a3;rw[e10] at a2 a3;have hsv:IU w1.heap.size w' (UN #[UF r.ok,UE UG r.g,UE UG r.t,UD bSD mSD dSD,UD bSU mSU dSU,UD bF mF dF,UD bD mD dD,UD bU mU dU,UE UO r.k,UD bT r.n dT,UE UG r.nx]) r:=SN s4 f7 s10 a1 a2 a3;have hK':=hK w' _ (by simpa using hsv) (hx.step 13 _ Cs C7) Cs;clear hK s4 f7 s10 hsv a1 a2 a3 q1 q2 q3;rw[AR AO];go_simp;simpa[Cr,d1,d12,e4,e7,e10] using hK'
 case hend=>
  intro o L t w' ho hx hg K hK;simp at ho;subst ho;have f13:IU w1.heap.size w' (t 13) r:=by simpa using(hg 13 AL).2
  clear hg;obtain⟨aSD,nSD,cSD,aSU,nSU,cSU,aF,mF,cF,aD,nD,cD,aU,nU,cU,aT,cT,b1,b2,e13,s13,s14,s15⟩:=f13;have hrs:=(hx.below.block _ (AQ.1 HE1.o.b1).1).trans HE1.o.b1;have hR:=(AQ.1 HE1.o.b1).1;have hK':∀ ww,Wr (w.heap.size+1) w' ww->ww.heap[w.heap.size+1]?=UI (UP #[UF r.ok,UE UG r.g,UE UG r.t,UD aSD nSD cSD,UD aSU nSU cSU,UD aF mF cF,UD aD nD cD,UD aU nU cU,UE UO r.k,UD aT r.n cT,UE UG r.nx] 36 (0,0))->K _ ww:=λww hw hr=>hK ww undef ⟨_,hr,⟨aSD,nSD,cSD,aSU,nSU,cSU,aF,mF,cF,aD,nD,cD,aU,nU,cU,aT,cT,b1,b2,rfl,(s13.keep (Aw hw.size.symm) (λk hk _=>hw.block k AK)).low (AG HE1.o.below.size),s14.keep s13.l6 (Aw hw.size.symm) (λk hk _=>hw.block k AK),s15⟩,rfl,(HE1.o.below.trans (hx.below.mono HE1.o.below.size)).trans (hw.below AK)⟩
  clear hK s13 s14 s15;rw[AR AO];refine A8 36 (.tmp 2) (.tmp 16) rfl (w.heap.size+1) #[UF r.ok,UE UG r.g,UE UG r.t,UD aSD nSD cSD,UD aSU nSU cSU,UD aF mF cF,UD aD nD cD,UD aU nU cU,UE UO r.k,UD aT r.n cT,UE UG r.nx] rfl e13 36 _ hrs HSI.o rfl (by simp[Value.oneCell']) ?_;have hK2:=hK' _ (Wr.setRow _ _ _) (AB hrs);clear hK';simpa[Cr,Act.put] using hK2
 case hdone=>
  intro t w9 hf;obtain⟨C,hr,hI,hz,hb9⟩:=hf;have HR9:AP (w9.heap[w.heap.size+1]?=UI (UP C 36 (0,0))):=hr;have HF:AP (IU w.heap.size w9 (UN C) r/\Below w.heap.size w w9):=⟨hI,hb9⟩
  have HS9:AP ((Tryz.prog.info? 36).map (·.size)=UI C.size):=by show _=_;rw[hz];exact HSI.o
  clear hr hI hz hb9;go_wp2_with fail;exact AZ (v:=UN C) (AW rfl _ _ (w.heap.size+1) 36 _ (0,0) _ rfl HR9.o Tryz.underlying36 rfl HS9.o) rfl ⟨_,rfl,HF.o.1,HF.o.2⟩
theorem Mv {lo:Nat} (C:Array UL) (zs ks:List Int) (f:Int) (d:Bool) (r:Dt) (w:UK) (h:GL lo w C zs ks f d r) (hb:Eu r) (hz:zs.length<=1048576) (hk:ks.length<=1048576) :
  Calls Tryz.prog 152 #[UN C] w λe w'=>∃ C',e=UQ (UN C')/\MF w.heap.size w' C' zs ks f d r/\Below w.heap.size w w':=by
 obtain⟨da,dc,ca,cc,ka,kc,aSD,nSD,cSD,aSU,nSU,cSU,aF,mF,cF,aD,nD,cD,aU,nU,cU,aT,cT,rfl,q1,q2,q3,q4,q5⟩:=h;have HCD:AP (∀ ww,Below w.heap.size w ww->Calls Tryz.prog 109 #[UN #[UD da zs.length dc,UD ca 0 cc,UE UO f,UF d]] ww λe w'=>∃ v,e=UQ v/\N1 ww.heap.size w' v zs f d/\Below ww.heap.size ww w'):=λww b=>(LF (UN #[UD da zs.length dc,UD ca 0 cc,UE UO f,UF d]) zs [] f d ww ⟨da,dc,ca,cc,rfl,q2.1.below b,.inl rfl,q1.1⟩ hz AM AM).mono λe w' ⟨v,e1,e2,e3,e4⟩=>⟨v,e1,by
  obtain⟨dv,cv,qs,E,e5,e6,_⟩:=e2;obtain⟨dv',e7⟩:=e4 rfl;rw[e7] at e5;injection e5 with e5
  simp at e5;exact⟨dv,by rw[e7,e5.1],e6⟩,e3⟩
 have HCK:=Cq (λww (b:Below w.heap.size w ww)=>GH ka ks.length kc ks ww rfl hk (q3.1.below b));have HCI:AP (∀ ww,Below w.heap.size w ww->Calls Tryz.prog 163 #[UN #[UF r.ok,UE UG r.g,UE UG r.t,UD aSD nSD cSD,UD aSU nSU cSU,UD aF mF cF,UD aD nD cD,UD aU nU cU,UE UO r.k,UD aT r.n cT,UE UG r.nx]] ww λe w'=>∃ v,e=UQ v/\IU ww.heap.size w' v r/\Below ww.heap.size ww w'):=λww b=>(Pt (UN #[UF r.ok,UE UG r.g,UE UG r.t,UD aSD nSD cSD,UD aSU nSU cSU,UD aF mF cF,UD aD nD cD,UD aU nU cU,UE UO r.k,UD aT r.n cT,UE UG r.nx]) r ww ⟨aSD,nSD,cSD,aSU,nSU,cSU,aF,mF,cF,aD,nD,cD,aU,nU,cU,aT,cT,rfl,q4.below b⟩ hb).mono λe w' ⟨C,h1,h2,h3⟩=>⟨_,h1,h2,h3⟩
 have HSD:AP ((Tryz.prog.info? 40).map (·.size)=UI 4):=by show _=_;kernel_rfl
 have HSI:AP ((Tryz.prog.info? 36).map (·.size)=UI 11):=by show _=_;kernel_rfl
 have HSG:AP ((Tryz.prog.info? 48).map (·.size)=UI 16):=by show _=_;kernel_rfl
 have HE1:AP (BE w 48 #[UD da zs.length dc,UD ca 0 cc,UE UO f,UF d,UD ka ks.length kc,UF r.ok,UE UG r.g,UE UG r.t,UD aSD nSD cSD,UD aSU nSU cSU,UD aF mF cF,UD aD nD cD,UD aU nU cU,UE UO r.k,UD aT r.n cT,UE UG r.nx] Ci ((w.alloc (UP #[UD da zs.length dc,UD ca 0 cc,UE UO f,UF d,UD ka ks.length kc,UF r.ok,UE UG r.g,UE UG r.t,UD aSD nSD cSD,UD aSU nSU cSU,UD aF mF cF,UD aD nD cD,UD aU nU cU,UE UO r.k,UD aT r.n cT,UE UG r.nx] 48)).alloc (UP Ci 48))):=BE.start _ _ _ _;have HL1:AP (w.heap.size<((w.alloc (UP #[UD da zs.length dc,UD ca 0 cc,UE UO f,UF d,UD ka ks.length kc,UF r.ok,UE UG r.g,UE UG r.t,UD aSD nSD cSD,UD aSU nSU cSU,UD aF mF cF,UD aD nD cD,UD aU nU cU,UE UO r.k,UD aT r.n cT,UE UG r.nx] 48)).alloc (UP Ci 48)).heap.size):=(AQ.1 HE1.o.b0).1;clear q1 q2 q3 q4 q5 hb hz hk;go_enter Tryz.func152,Tryz.ntmps152;go_wp2_with fail;generalize ((w.alloc (UP #[UD da zs.length dc,UD ca 0 cc,UE UO f,UF d,UD ka ks.length kc,UF r.ok,UE UG r.g,UE UG r.t,UD aSD nSD cSD,UD aSU nSU cSU,UD aF mF cF,UD aD nD cD,UD aU nU cU,UE UO r.k,UD aT r.n cT,UE UG r.nx] 48)).alloc (UP Ci 48))=w1 at *;refine Ae AN ?_;refine DF 10 (λ_ a b=>Below a.heap.size a b) (frame:=(λ(a b c:UL)=>λ(t:Nat->UL)=>({ tmps:=List.toArray [a,b,c,t 0,t 1,t 2,t 3,t 4,t 5,t 6,t 7,t 8,t 9],defers:=[] }:Act)) _ _ _)
  (Ext:=λL u w'=>Fo w1 [2,5,8] L u w') (Good:=λi L w' v=>if i=0 then v=UM (UI ⟨w.heap.size,0,UJ⟩) else if i=1 then v=UN #[UD da zs.length dc,UD ca 0 cc,UE UO f,UF d] else if i=2 then N1 w1.heap.size w' v zs f d else if i=3 then v=UM (UI ⟨w.heap.size,4,UJ⟩) else if i=4 then v=UD ka ks.length kc else if i=5 then KM w1.heap.size w' v ks else if i=6 then v=UM (UI ⟨w.heap.size,5,UJ⟩) else if i=7 then v=UN #[UF r.ok,UE UG r.g,UE UG r.t,UD aSD nSD cSD,UD aSU nSU cSU,UD aF mF cF,UD aD nD cD,UD aU nU cU,UE UO r.k,UD aT r.n cT,UE UG r.nx] else if i=8 then IU w1.heap.size w' v r else if i=9 then N2 w1.heap.size w' v zs ks f d r else True) (Fin:=λ_ ww=>∃ C,ww.heap[w.heap.size+1]?=UI (UP C 48 (0,0))/\MF w.heap.size ww C zs ks f d r/\C.size=16/\Below w.heap.size w ww) rfl AN ?hstab AN ?hop ?hend ?hdone _ _ ((λ(x0 x1 x2 x3 x4 x5 x6 x7 x8 x9:UL)=>λ(i:Nat)=>if i=0 then x0 else if i=1 then x1 else if i=2 then x2 else if i=3 then x3 else if i=4 then x4 else if i=5 then x5 else if i=6 then x6 else if i=7 then x7 else if i=8 then x8 else if i=9 then x9 else undef) _ _ _ _ _ _ _ _ _ _) _ AM ?none ?ext AM
 case none=>exact λ_=>FJ
 case ext=>exact Fo.start w1 [2,5,8] _ _ (λ_=>FJ) ⟨rfl,rfl,rfl,AY _,λ_ _=>rfl⟩
 case hstab=>
  intro j L w9 w' i v _ hM _ _ h;by_cases h2:j=2
  ·subst h2;simp at h |-;exact h.below hM
  by_cases h5:j=5
  ·subst h5;simp at h |-;exact h.below hM
  by_cases h8:j=8
  ·subst h8;simp at h |-;exact h.below hM
  by_cases h9:j=9
  ·subst h9;simp at h |-;exact h.below hM
  simp only[if_neg h2,if_neg h5,if_neg h8,if_neg h9] at h |-;exact h
 case hop=>
  intro i o L t w' hi ho hLi hx hdep K hK;have cX:∀ q9:Nat,w'.cell? ⟨w.heap.size,q9,UJ⟩=(#[UD da zs.length dc,UD ca 0 cc,UE UO f,UF d,UD ka ks.length kc,UF r.ok,UE UG r.g,UE UG r.t,UD aSD nSD cSD,UD aSU nSU cSU,UD aF mF cF,UD aD nD cD,UD aU nU cU,UE UO r.k,UD aT r.n cT,UE UG r.nx]:Array UL)[q9]?:=λq9=>by rw[Aa (a:=⟨w.heap.size,q9,UJ⟩) (w:=w1) (hx.below.block _ HL1.o),AA HE1.o.b0 q9]
  obtain rfl|rfl|rfl|rfl|rfl|rfl|rfl|rfl|rfl|rfl:i=0\/i=1\/i=2\/i=3\/i=4\/i=5\/i=6\/i=7\/i=8\/i=9:=AK
  all_goals(simp at ho;subst ho)
  all_goals try(have hK':=hK w' _ rfl (hx.step _ _ Cs C7) Cs;clear hK;simp[Region.binds] at hdep;rw[AR AO];go_simp;simpa[Cr,hdep] using hK')
  ·have d1:t 1=UN #[UD da zs.length dc,UD ca 0 cc,UE UO f,UF d]:=by simpa using(hdep ⟨1,UR⟩ AM rfl).2
   clear hdep;have bw:Below w.heap.size w w':=HE1.o.below.trans (hx.below.mono HE1.o.below.size);have hsz:w1.heap.size<=w'.heap.size:=hx.below.size;have A:=HCD.o w' bw;have hK':∀ ww v,N1 w1.heap.size ww v zs f d->DU w' ww v->Below w'.heap.size w' ww->K _ ww:=λww v hv hf hb=>hK ww v (by simpa using hv) (hx.step 2 v hb (λ_=>hf)) hb
   clear hK;rw[AR AO];go_simp;try simp only[d1]
   refine A.mono ?_;rintro e w9 ⟨v9,rfl,h9,hb9⟩;have hK2:=hK' w9 v9 (h9.dn hsz) h9.dvm.fresh hb9;clear hK' A h9 hb9;go_simp;simpa[Cr,d1] using hK2
  ·have d4:t 4=UD ka ks.length kc:=by simpa using(hdep ⟨4,UR⟩ AM rfl).2
   clear hdep;have bw:Below w.heap.size w w':=HE1.o.below.trans (hx.below.mono HE1.o.below.size);have hsz:w1.heap.size<=w'.heap.size:=hx.below.size;have A:=HCK.o w' bw;have hK':∀ ww v,KM w1.heap.size ww v ks->DU w' ww v->Below w'.heap.size w' ww->K _ ww:=λww v hv hf hb=>hK ww v (by simpa using hv) (hx.step 5 v hb (λ_=>hf)) hb
   clear hK;rw[AR AO];go_simp;try simp only[d4]
   refine A.mono ?_;rintro e w9 ⟨v9,rfl,h9,hb9⟩;have hK2:=hK' w9 v9 (h9.km.mono hsz) h9.km.fresh hb9;clear hK' A h9 hb9;go_simp;simpa[Cr,d4] using hK2
  ·have d7:t 7=UN #[UF r.ok,UE UG r.g,UE UG r.t,UD aSD nSD cSD,UD aSU nSU cSU,UD aF mF cF,UD aD nD cD,UD aU nU cU,UE UO r.k,UD aT r.n cT,UE UG r.nx]:=by simpa using(hdep ⟨7,UR⟩ AM rfl).2
   clear hdep;have bw:Below w.heap.size w w':=HE1.o.below.trans (hx.below.mono HE1.o.below.size);have hsz:w1.heap.size<=w'.heap.size:=hx.below.size;have A:=HCI.o w' bw;have hK':∀ ww v,IU w1.heap.size ww v r->DU w' ww v->Below w'.heap.size w' ww->K _ ww:=λww v hv hf hb=>hK ww v (by simpa using hv) (hx.step 8 v hb (λ_=>hf)) hb
   clear hK;rw[AR AO];go_simp;try simp only[d7]
   refine A.mono ?_;rintro e w9 ⟨v9,rfl,h9,hb9⟩;have hK2:=hK' w9 v9 (h9.dn hsz) h9.fresh hb9;clear hK' A h9 hb9;go_simp;simpa[Cr,d7] using hK2
  ·have l2:L 2=true:=(hdep ⟨2,UR⟩ AM rfl).1;have f2:N1 w1.heap.size w' (t 2) zs f d:=by simpa using(hdep ⟨2,UR⟩ AM rfl).2
   have l5:L 5=true:=(hdep ⟨5,UR⟩ AM rfl).1;have f5:KM w1.heap.size w' (t 5) ks:=by simpa using(hdep ⟨5,UR⟩ AM rfl).2
   have l8:L 8=true:=(hdep ⟨8,UR⟩ AM rfl).1;have f8:IU w1.heap.size w' (t 8) r:=by simpa using(hdep ⟨8,UR⟩ AM rfl).2
   clear hdep;have a1:=hx.ap 2 AL 5 AL AL l2 l5;have a2:=hx.ap 2 AL 8 AL AL l2 l8;have a3:=hx.ap 5 AL 8 AL AL l5 l8;obtain⟨xa,xc,ya,yc,bSD,mSD,dSD,bSU,mSU,dSU,bF,mG,dF,bD,mD,dD,bU,mU,dU,bT,dT,e2,e5,e8,hg⟩:=Ps f2 f5 f8 a1 a2 a3;have hsv:N2 w1.heap.size w' (UN #[UD xa zs.length xc,UD UJ 0 0,UE UO f,UF d,UD ya ks.length yc,UF r.ok,UE UG r.g,UE UG r.t,UD bSD mSD dSD,UD bSU mSU dSU,UD bF mG dF,UD bD mD dD,UD bU mU dU,UE UO r.k,UD bT r.n dT,UE UG r.nx]) zs ks f d r:=⟨_,rfl,hg⟩
   have hK':=hK w' _ (by simpa using hsv) (hx.step 9 _ Cs C7) Cs;clear hK hg hsv a1 a2 a3 f2 f5 f8;rw[AR AO];go_simp;simpa[Cr,e2,e5,e8] using hK'
 case hend=>
  intro o L t w' ho hx hg K hK;simp at ho;subst ho;have f9:N2 w1.heap.size w' (t 9) zs ks f d r:=by simpa using(hg 9 AL).2
  clear hg;obtain⟨C,e9,j0⟩:=f9;have hrs:=(hx.below.block _ (AQ.1 HE1.o.b1).1).trans HE1.o.b1;have hR:=(AQ.1 HE1.o.b1).1;have hz:=j0.1.gl.row;have hK':∀ ww,Wr (w.heap.size+1) w' ww->ww.heap[w.heap.size+1]?=UI (UP C 48 (0,0))->K _ ww:=λww hw hr=>hK ww undef ⟨C,hr,(j0.keep (Aw hw.size.symm) (λk hk _=>hw.block k AK)).mono (AG HE1.o.below.size),hz.1,(HE1.o.below.trans (hx.below.mono HE1.o.below.size)).trans (hw.below AK)⟩
  clear hK j0;rw[AR AO];refine A8 48 (.tmp 2) (.tmp 12) rfl (w.heap.size+1) C rfl e9 48 _ hrs (by rw[hz.1];exact HSG.o) (by rw[hz.1];rfl) hz.2 ?_;have hK2:=hK' _ (Wr.setRow _ _ _) (AB hrs);clear hK';simpa[Cr,Act.put] using hK2
 case hdone=>
  intro t w9 hf;obtain⟨C,hr,hI,hz,hb9⟩:=hf;have HR9:AP (w9.heap[w.heap.size+1]?=UI (UP C 48 (0,0))):=hr;have HF:AP (MF w.heap.size w9 C zs ks f d r/\Below w.heap.size w w9):=⟨hI,hb9⟩
  have HS9:AP ((Tryz.prog.info? 48).map (·.size)=UI C.size):=by show _=_;rw[hz];exact HSG.o
  clear hr hI hz hb9;go_wp2_with fail;exact AZ (v:=UN C) (AW rfl _ _ (w.heap.size+1) 48 _ (0,0) _ rfl HR9.o Tryz.underlying48 rfl HS9.o) rfl ⟨_,rfl,HF.o.1,HF.o.2⟩
end Go.Proofs.YthmeoilbmfdhfaaGreat
