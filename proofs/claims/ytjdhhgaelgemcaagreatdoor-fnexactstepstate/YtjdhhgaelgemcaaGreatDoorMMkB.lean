import Derived.Test.YtjdhhgaelgemcaaGreatDoorMSwA
import Derived.Test.YtjdhhgaelgemcaaGreatDoorShN
open Go.Proofs.Tryz renaming prog->tP
open Go.Proofs.Tryz
open Go.Value renaming slice->Z7,int->Z8,pointer->aF
open Go.IntKind renaming i64->aI,u8->Z9
open Go.Ground renaming data->aL
open Option renaming some->aE,none->aA
open Go renaming World->aC,Value->aB
set_option maxHeartbeats 4000000
set_option maxRecDepth 100000
namespace Go.Proofs.YtjdhhgaelgemcaaGreatDoor
open Go.ChangeShapes Go.WideShapes Go.ChangeAt Go.RowKit
set_option linter.unusedVariables false
def Kk (k:Int) (n:Nat):List Int:=(List.range n).map (λi:Nat=>(k+(i:Int))%256)
theorem QU (k:Int) (n:Nat):(Kk k n).length=n:=by simp[Kk]
theorem QV (k:Int) (n i:Nat) (h:i<n):(Kk k n).getD i 0=(k+i)%256:=by simp[Kk,h]
theorem Kl (a:Option Addr) (n cap:Nat) (k:Int) (w:aC) (ho:FK w a n) (hk:0<=k) (hk':k+n<=1099511627776) :
  Calls tP 16 #[Z7 a n cap,Z8 aI k] w λe w'=>e=.returned (Z8 aI (k+n))/\At Z9 w' a (Kk k n)/\J3 a w w':=by
 go_enter func16,ntmps16;go_wp2
 go_loopw [1,5] (λq i wr=>∃ j:Nat,j<=n/\i=Z8 aI j/\q=Z8 aI (k+j)/\J3 a w wr/\
   (n=0\/∃ g o,a=aE ⟨g,o,aA⟩/\g<w.heap.size/\(∀ t,t<n->(wr.cell? ⟨g,o+t,aA⟩).isSome=true/\wr.frozen? ⟨g,o+t,aA⟩=false)/\∀ t,t<j->wr.cell? ⟨g,o+t,aA⟩=aE (Z8 Z9 ((k+(t:Int))%256)))) (λ_ i _=>n-(intOf i).toNat)
 case atStart=>
  refine⟨0,Au _,rfl,AL,J3.refl _ _,?_⟩;rcases ho with h|⟨g,o,h1,h2,h3⟩
  ·exact .inl h
  ·exact .inr ⟨g,o,h1,h2,h3,λt ht=>AJ⟩
 case round=>
  obtain⟨j,hj,rfl,rfl,hwr,hs⟩:=hrel;by_cases hlt:j<n
  ·rcases hs with h|⟨g,o,rfl,hg,hc,hd⟩
   ·omega
   ·obtain⟨hc1,hf1⟩:=hc j hlt;obtain⟨v0,hv0⟩:=Bi.1 hc1;have HW:AO (J3 (aE ⟨g,o,aA⟩) w (wr.setCell ⟨g,o+j,aA⟩ (Z8 Z9 ((k+(j:Int))%256)))):=hwr.setCell _ rfl _ _;have HC:AO (∀ t,t<n->((wr.setCell ⟨g,o+j,aA⟩ (Z8 Z9 ((k+(j:Int))%256))).cell? ⟨g,o+t,aA⟩).isSome=true/\(wr.setCell ⟨g,o+j,aA⟩ (Z8 Z9 ((k+(j:Int))%256))).frozen? ⟨g,o+t,aA⟩=false):=by
     intro t ht;obtain⟨u,hu⟩:=Bi.1 (hc t ht).1;obtain⟨u',hu'⟩:=cell?_setCell_some (w:=wr) (p:=⟨g,o+j,aA⟩) (x:=Z8 Z9 ((k+(j:Int))%256)) (q:=⟨g,o+t,aA⟩) (v:=u) hu;refine⟨by rw[hu'];rfl,?_⟩;rw[World.frozen?_setCell];exact(hc t ht).2
    have HD:AO (∀ t,t<j+1->(wr.setCell ⟨g,o+j,aA⟩ (Z8 Z9 ((k+(j:Int))%256))).cell? ⟨g,o+t,aA⟩=aE (Z8 Z9 ((k+(t:Int))%256))):=by
     intro t ht;by_cases e:t=j
     ·subst e;exact World.cell?_setCell_same _ _ _ hv0
     ·rw[Bo _ _ _ _ (by simp;try omega)];exact hd t AJ
    clear hc hd hwr ho hc1;go_wp2;go_roundw
    case rel=>exact⟨j+1,AJ,by go_num,by go_num,HW.o,.inr ⟨g,o,rfl,hg,HC.o,HD.o⟩⟩
    case measure=>simp[intOf];omega
  ·have hjn:j=n:=AJ
   subst hjn;have HA:AO (At Z9 wr a (Kk k j)):=by
    rcases hs with h|⟨g,o,rfl,hg,hc,hd⟩
    ·subst h;exact .inl rfl
    ·exact .inr ⟨g,o,rfl,by rw[hwr.size];exact hg,λi hi=>by rw[QU] at hi;rw[hd i hi,QV k j i hi]⟩
   clear hs ho;go_wp2
   go_ret
   exact⟨rfl,HA.o,hwr⟩
structure Yt where
 ok:Bool
 D:List Int
 U:List Int
 k:Int
 T:List Int
 n:Nat
def IB:Yt:=⟨false,[],[],0,[],0⟩
open Classical in
noncomputable def Df (xs:List Int) (a:Nat):List Int:=De (λv=>decide ((v:Int)∈xs\/v=a)) 256
def Dl (xs:List Int) (a:Nat):List Int:=xs.filter (λz=>z != (a:Int))
open Classical in
noncomputable def Km (D U:List Int) (k:Int) (T:List Int) (n:Nat) (kind:Int) (a b:Nat):Yt:=
 if kind=1 then(if a<256/\¬ (a:Int)∈U/\¬ (a:Int)∈D then ⟨true,D,Df U a,k,T++[(a:Int),(b:Int)],n+1⟩ else IB)
 else if kind=2 then(if b=1/\a<256/\¬ (a:Int)∈D/\¬ D.length=16 then ⟨true,Df D a,U,k,T,n⟩ else if b=0/\a<256/\(a:Int)∈D then ⟨true,Dl D a,U,k,T,n⟩ else IB)
 else if kind=3 then(if b=0/\(a:Int)<=k+n then ⟨true,D,U,max a k,T.drop (I4 k a*2),n-I4 k a⟩ else IB)
 else IB
theorem Kn {xs:List Int} {a v:Nat} (h:v<256):((v:Int)∈xs\/v=a)↔(v:Int)∈Df xs a:=by
 unfold Df;rw[IL];constructor
 ·intro hv;exact⟨v,h,Al hv,rfl⟩
 ·rintro⟨v',h1,h2,h3⟩;have:v=v':=AJ
  subst this;exact CK h2
theorem QW {xs:List Int} {a v:Nat}:((v:Int)∈xs/\v≠a)↔(v:Int)∈Dl xs a:=by
 unfold Dl;rw[Be];constructor
 ·rintro⟨h1,h2⟩;exact⟨h1,by rw[bne_iff_ne];omega⟩
 ·rintro⟨h1,h2⟩;exact⟨h1,by rw[bne_iff_ne] at h2;omega⟩
theorem Iow.mono {B B':Nat} {w:aC} {v:aB} {xs:List Int} (h:Iow B' w v xs) (hB:B<=B'):Iow B w v xs:=by
 refine⟨h.1,?_⟩;rcases h.2 with h'|⟨g,c,cur,h1,h2,h3⟩
 ·exact .inl h'
 ·exact .inr ⟨g,c,cur,h1,AJ,h3⟩
theorem Iow.fresh {w w':aC} {v:aB} {xs:List Int} (h:Iow w.heap.size w' v xs):MG w w' v:=λk hk=>by
 rcases h.2 with⟨h',_⟩|⟨g,c,cur,h',hb,hh,_⟩
 ·rw[h'] at hk;simp[Value.ownBlock] at hk
 ·rw[h'] at hk;simp[Value.ownBlock] at hk;have:=(AR.1 hh).1;omega
theorem Iow.form {B:Nat} {w:aC} {v:aB} {xs:List Int} (h:Iow B w v xs):∃ a n c,v=Z7 a n c:=by
 rcases h.2 with⟨h',_⟩|⟨g,c,cur,h',_⟩
 ·exact⟨_,_,_,h'⟩
 ·exact⟨_,_,_,h'⟩
theorem Iow.keep {B:Nat} {w w':aC} {v:aB} {xs:List Int} (h:Iow B w v xs) (hb:∀ k,B<=k->k<w.heap.size->w'.heap[k]?=w.heap[k]?):Iow B w' v xs:=by
 refine⟨h.1,?_⟩;rcases h.2 with h'|⟨g,c,cur,h1,h2,h3,h4⟩
 ·exact .inl h'
 ·exact .inr ⟨g,c,cur,h1,h2,by rw[hb g h2 (AR.1 h3).1];exact h3,h4⟩
theorem Iow.below {B:Nat} {w w':aC} {v:aB} {xs:List Int} (h:Iow B w v xs) (b:Below w.heap.size w w'):Iow B w' v xs:=h.keep (λk _ hk=>b.block k hk)
theorem Iow.wr {B R:Nat} {w w':aC} {v:aB} {xs:List Int} (h:Iow B w v xs) (hw:Wr R w w') (hR:R<B):Iow B w' v xs:=h.keep (λk hk _=>hw.block k AJ)
def Mu (lo:Nat) (k:Int) (aT:Option Addr) (nT cT:Nat) (X Y:List Int) (w:aC) (cs:Array aB):Prop:=
 ∃ aD nD cD aU nU cU,cs=#[Z7 aD nD cD,Z7 aU nU cU,Z8 aI k,Z7 aT nT cT]/\Iow lo w (Z7 aD nD cD) X/\Iow lo w (Z7 aU nU cU) Y/\Yo (Z7 aD nD cD) (Z7 aU nU cU)
theorem Mu.below {lo:Nat} {k:Int} {aT:Option Addr} {nT cT:Nat} {X Y:List Int} {w w':aC} {cs:Array aB} (h:Mu lo k aT nT cT X Y w cs) (b:Below w.heap.size w w'):Mu lo k aT nT cT X Y w' cs:=by
 obtain⟨aD,nD,cD,aU,nU,cU,e,h1,h2,h3⟩:=h;exact⟨aD,nD,cD,aU,nU,cU,e,h1.below b,h2.below b,h3⟩
def Mv (lo:Nat) (k:Int) (aT:Option Addr) (nT cT:Nat) (X Y:List Int) (w:aC) (v:aB):Prop:=∃ cs,v=.agg cs/\Mu lo k aT nT cT X Y w cs
theorem Mv.below {lo:Nat} {k:Int} {aT:Option Addr} {nT cT:Nat} {X Y:List Int} {w w':aC} {v:aB} (h:Mv lo k aT nT cT X Y w v) (b:Below w.heap.size w w'):Mv lo k aT nT cT X Y w' v:=by
 obtain⟨cs,e,h⟩:=h;exact⟨cs,e,h.below b⟩
theorem Mv.wr {lo R:Nat} {k:Int} {aT:Option Addr} {nT cT:Nat} {X Y:List Int} {w w':aC} {v:aB} (h:Mv lo k aT nT cT X Y w v) (hw:Wr R w w') (hR:R<lo):Mv lo k aT nT cT X Y w' v:=by
 obtain⟨cs,e,aD,nD,cD,aU,nU,cU,e2,h1,h2,h3⟩:=h;exact⟨cs,e,aD,nD,cD,aU,nU,cU,e2,h1.wr hw hR,h2.wr hw hR,h3⟩
theorem QX {w:aC} {g:Nat} {d u:List Int} {k:Int} (aT:Option Addr) (nT cT:Nat) (P Q:Nat->Bool) (hb:Bk w g d u k (Z7 aT nT cT)) (hd:Dg d (λv=>P v=true)) (hu:Dg u (λv=>Q v=true)) :
  Calls tP 32 #[aF (aE ⟨g,0,aA⟩)] w λe w'=>∃ aD nD cD aU nU cU,e=.returned (.agg #[Z7 aD nD cD,Z7 aU nU cU,Z8 aI k,Z7 aT nT cT])/\Iow w.heap.size w' (Z7 aD nD cD) (De P 256)/\Iow w.heap.size w' (Z7 aU nU cU) (De Q 256)/\Yo (Z7 aD nD cD) (Z7 aU nU cU)/\Below w.heap.size w w':=by
 have HBK:AO (Bk w g d u k (Z7 aT nT cT)):=hb;have HGL:AO (g<w.heap.size):=hb.lt;have HSD:AO (Dg d (λv=>P v=true)):=hd;have HSU:AO (Dg u (λv=>Q v=true)):=hu;have HSZ:AO ((tP.info? 33).map (·.size)=aE 4):=by show _=_;kernel_rfl
 have HW0:AO (Below w.heap.size w (w.alloc (.cells CU 33)).drew):=by
  have h1:Below w.heap.size w (w.alloc (.cells CU 33)):=Cg.alloc Cl _;exact⟨h1.os,h1.tape,h1.output,h1.size,h1.block⟩
 have HR0:AO ((w.alloc (.cells CU 33)).drew.heap[w.heap.size]?=aE (.cells CU 33 (0,0))):=AX w _;clear hb hd hu;go_enter func32,ntmps32;go_wp2_with fail;refine Ag AM ?_;refine Cn (λi a b=>if i=17 then Wr (w.heap.size) a b else Below a.heap.size a b) (frame:=(λ(a b c:aB)=>λ(t:Nat->aB)=>({ tmps:=List.toArray [a,b,c,t 0,t 1,t 2,t 3,t 4,t 5,t 6,t 7,t 8,t 9,t 10,t 11,t 12,t 13,t 14,t 15,t 16],defers:=[] }:Act)) _ _ _)
  (Ext:=λL u w'=>NE w (w.heap.size) 17 33 CU (Mu (w.heap.size+1) k aT nT cT (De P 256) (De Q 256)) [3,7] L u w') (Good:=λi L w' v=>if i=0 then v=aF (aE ⟨g,0,aA⟩) else if i=1 then v=aF (aE ⟨g,0,aA⟩) else if i=2 then v=aF (aE ⟨g,0,aA⟩) else if i=3 then Iow (w.heap.size+1) w' v (De P 256) else if i=4 then v=aF (aE ⟨g,0,aA⟩) else if i=5 then v=aF (aE ⟨g,0,aA⟩) else if i=6 then v=aF (aE ⟨g,32,aA⟩) else if i=7 then Iow (w.heap.size+1) w' v (De Q 256) else if i=8 then v=aF (aE ⟨g,0,aA⟩) else if i=9 then v=aF (aE ⟨g,0,aA⟩) else if i=10 then v=aF (aE ⟨g,64,aA⟩) else if i=11 then v=Z8 aI k else if i=12 then v=aF (aE ⟨g,0,aA⟩) else if i=13 then v=aF (aE ⟨g,0,aA⟩) else if i=14 then v=aF (aE ⟨g,65,aA⟩) else if i=15 then v=Z7 aT nT cT else if i=16 then Mv (w.heap.size+1) k aT nT cT (De P 256) (De Q 256) w' v else if i=17 then L 17=true else True) ?hstab AM ?hop ?hdone _ _ ((λ(x0 x1 x2 x3 x4 x5 x6 x7 x8 x9 x10 x11 x12 x13 x14 x15 x16:aB)=>λ(i:Nat)=>if i=0 then x0 else if i=1 then x1 else if i=2 then x2 else if i=3 then x3 else if i=4 then x4 else if i=5 then x5 else if i=6 then x6 else if i=7 then x7 else if i=8 then x8 else if i=9 then x9 else if i=10 then x10 else if i=11 then x11 else if i=12 then x12 else if i=13 then x13 else if i=14 then x14 else if i=15 then x15 else if i=16 then x16 else undef) _ _ _ _ _ _ _ _ _ _ _ _ _ _ _ _ _) _ AL ?ext ?start AL
 case start=>intro i hi h;exact absurd h Et
 case ext=>exact NE.start ⟨HW0.o,λp _ hp=>absurd hp Et,λp _ q _ _ hp=>absurd hp Et⟩ (λ_=>J6) HR0.o
 case hstab=>
  intro j L w9 w' i v hM hij hLi h;by_cases h3:j=3
  ·subst h3;by_cases hl:i=17
   ·subst hl;simp at h hM |-;exact h.wr hM AJ
   ·rw[AQ hl] at hM;simp at h |-;exact h.below hM
  by_cases h7:j=7
  ·subst h7;by_cases hl:i=17
   ·subst hl;simp at h hM |-;exact h.wr hM AJ
   ·rw[AQ hl] at hM;simp at h |-;exact h.below hM
  by_cases h16:j=16
  ·subst h16;by_cases hl:i=17
   ·subst hl;simp at h hM |-;exact h.wr hM AJ
   ·rw[AQ hl] at hM;simp at h |-;exact h.below hM
  by_cases hl:j=17
  ·subst hl;simp at h |-;unfold Cf;simp[h]
  simp only[if_neg h3,if_neg h7,if_neg h16,if_neg hl] at h |-;exact h
 case hop=>
  intro i o L t w' ho hLi hx hdep K hK;have hi:i<18:=(AR.1 ho).1;obtain rfl|rfl|rfl|rfl|rfl|rfl|rfl|rfl|rfl|rfl|rfl|rfl|rfl|rfl|rfl|rfl|rfl|rfl:i=0\/i=1\/i=2\/i=3\/i=4\/i=5\/i=6\/i=7\/i=8\/i=9\/i=10\/i=11\/i=12\/i=13\/i=14\/i=15\/i=16\/i=17:=AJ
  all_goals(simp at ho;subst ho)
  ·clear hdep;have hK':=hK w' (aF (aE ⟨g,0,aA⟩)) AL (hx.step (λ_ _ _ b h=>h.below b) 0 AK _ Cg DY) (by rw[AQ AK];exact Cg);clear hK;rw[AP AN];go_simp;simpa[Ce] using hK'
  ·have d0:t 0=aF (aE ⟨g,0,aA⟩):=by simpa using(hdep ⟨0,aL⟩ AL rfl).2
   clear hdep;have hK':=hK w' (aF (aE ⟨g,0,aA⟩)) AL (hx.step (λ_ _ _ b h=>h.below b) 1 AK _ Cg DY) (by rw[AQ AK];exact Cg);clear hK;rw[AP AN];go_simp;simpa[Ce,d0] using hK'
  ·have d1:t 1=aF (aE ⟨g,0,aA⟩):=by simpa using(hdep ⟨1,aL⟩ AL rfl).2
   clear hdep;have hK':=hK w' (aF (aE ⟨g,0,aA⟩)) AL (hx.step (λ_ _ _ b h=>h.below b) 2 AK _ Cg DY) (by rw[AQ AK];exact Cg);clear hK;rw[AP AN];go_simp;simpa[Ce,d1] using hK'
  ·have d2:t 2=aF (aE ⟨g,0,aA⟩):=by simpa using(hdep ⟨2,aL⟩ AL rfl).2
   clear hdep;have hsz:w.heap.size+1<=w'.heap.size:=hx.lt;have bw:Below w.heap.size w w':=hx.ax.below;have A:=MF g 0 d P w' (λww hb=>(HBK.o.below (bw.trans (hb.mono bw.size)) HGL.o).batd) HSD.o;have hK':∀ ww v,Iow (w.heap.size+1) ww v (De P 256)->MG w' ww v->Below w'.heap.size w' ww->K _ ww:=λww v hv hf hb=>hK ww v (by simpa using hv) (hx.step (λ_ _ _ b h=>h.below b) 3 AK v hb (λ_=>hf)) (by rw[AQ AK];exact hb)
   clear hK;rw[AP AN];go_simp;try simp only[d2]
   refine A.mono ?_;rintro e w9 ⟨v9,rfl,hv9,hb9⟩;have hK2:=hK' w9 v9 (hv9.mono hsz) hv9.fresh hb9;clear hK' A hv9 bw hb9;go_simp;simpa[Ce,d2] using hK2
  ·clear hdep;have hK':=hK w' (aF (aE ⟨g,0,aA⟩)) AL (hx.step (λ_ _ _ b h=>h.below b) 4 AK _ Cg DY) (by rw[AQ AK];exact Cg);clear hK;rw[AP AN];go_simp;simpa[Ce] using hK'
  ·have d4:t 4=aF (aE ⟨g,0,aA⟩):=by simpa using(hdep ⟨4,aL⟩ AL rfl).2
   clear hdep;have hK':=hK w' (aF (aE ⟨g,0,aA⟩)) AL (hx.step (λ_ _ _ b h=>h.below b) 5 AK _ Cg DY) (by rw[AQ AK];exact Cg);clear hK;rw[AP AN];go_simp;simpa[Ce,d4] using hK'
  ·have d5:t 5=aF (aE ⟨g,0,aA⟩):=by simpa using(hdep ⟨5,aL⟩ AL rfl).2
   clear hdep;have hK':=hK w' (aF (aE ⟨g,32,aA⟩)) AL (hx.step (λ_ _ _ b h=>h.below b) 6 AK _ Cg DY) (by rw[AQ AK];exact Cg);clear hK;rw[AP AN];go_simp;simpa[Ce,d5] using hK'
  ·have d6:t 6=aF (aE ⟨g,32,aA⟩):=by simpa using(hdep ⟨6,aL⟩ AL rfl).2
   clear hdep;have hsz:w.heap.size+1<=w'.heap.size:=hx.lt;have bw:Below w.heap.size w w':=hx.ax.below;have A:=MF g 32 u Q w' (λww hb=>(HBK.o.below (bw.trans (hb.mono bw.size)) HGL.o).batu) HSU.o;have hK':∀ ww v,Iow (w.heap.size+1) ww v (De Q 256)->MG w' ww v->Below w'.heap.size w' ww->K _ ww:=λww v hv hf hb=>hK ww v (by simpa using hv) (hx.step (λ_ _ _ b h=>h.below b) 7 AK v hb (λ_=>hf)) (by rw[AQ AK];exact hb)
   clear hK;rw[AP AN];go_simp;try simp only[d6]
   refine A.mono ?_;rintro e w9 ⟨v9,rfl,hv9,hb9⟩;have hK2:=hK' w9 v9 (hv9.mono hsz) hv9.fresh hb9;clear hK' A hv9 bw hb9;go_simp;simpa[Ce,d6] using hK2
  ·clear hdep;have hK':=hK w' (aF (aE ⟨g,0,aA⟩)) AL (hx.step (λ_ _ _ b h=>h.below b) 8 AK _ Cg DY) (by rw[AQ AK];exact Cg);clear hK;rw[AP AN];go_simp;simpa[Ce] using hK'
  ·have d8:t 8=aF (aE ⟨g,0,aA⟩):=by simpa using(hdep ⟨8,aL⟩ AL rfl).2
   clear hdep;have hK':=hK w' (aF (aE ⟨g,0,aA⟩)) AL (hx.step (λ_ _ _ b h=>h.below b) 9 AK _ Cg DY) (by rw[AQ AK];exact Cg);clear hK;rw[AP AN];go_simp;simpa[Ce,d8] using hK'
  ·have d9:t 9=aF (aE ⟨g,0,aA⟩):=by simpa using(hdep ⟨9,aL⟩ AL rfl).2
   clear hdep;have hK':=hK w' (aF (aE ⟨g,64,aA⟩)) AL (hx.step (λ_ _ _ b h=>h.below b) 10 AK _ Cg DY) (by rw[AQ AK];exact Cg);clear hK;rw[AP AN];go_simp;simpa[Ce,d9] using hK'
  ·have d10:t 10=aF (aE ⟨g,64,aA⟩):=by simpa using(hdep ⟨10,aL⟩ AL rfl).2
   clear hdep;have cc:w'.cell? ⟨g,64,aA⟩=aE (Z8 aI k):=(HBK.o.below hx.ax.below HGL.o).ck;have hK':=hK w' (Z8 aI k) AL (hx.step (λ_ _ _ b h=>h.below b) 11 AK _ Cg DY) (by rw[AQ AK];exact Cg);clear hK;rw[AP AN];go_simp;simpa[Ce,d10] using hK'
  ·clear hdep;have hK':=hK w' (aF (aE ⟨g,0,aA⟩)) AL (hx.step (λ_ _ _ b h=>h.below b) 12 AK _ Cg DY) (by rw[AQ AK];exact Cg);clear hK;rw[AP AN];go_simp;simpa[Ce] using hK'
  ·have d12:t 12=aF (aE ⟨g,0,aA⟩):=by simpa using(hdep ⟨12,aL⟩ AL rfl).2
   clear hdep;have hK':=hK w' (aF (aE ⟨g,0,aA⟩)) AL (hx.step (λ_ _ _ b h=>h.below b) 13 AK _ Cg DY) (by rw[AQ AK];exact Cg);clear hK;rw[AP AN];go_simp;simpa[Ce,d12] using hK'
  ·have d13:t 13=aF (aE ⟨g,0,aA⟩):=by simpa using(hdep ⟨13,aL⟩ AL rfl).2
   clear hdep;have hK':=hK w' (aF (aE ⟨g,65,aA⟩)) AL (hx.step (λ_ _ _ b h=>h.below b) 14 AK _ Cg DY) (by rw[AQ AK];exact Cg);clear hK;rw[AP AN];go_simp;simpa[Ce,d13] using hK'
  ·have d14:t 14=aF (aE ⟨g,65,aA⟩):=by simpa using(hdep ⟨14,aL⟩ AL rfl).2
   clear hdep;have cc:w'.cell? ⟨g,65,aA⟩=aE (Z7 aT nT cT):=(HBK.o.below hx.ax.below HGL.o).cv;have hK':=hK w' (Z7 aT nT cT) AL (hx.step (λ_ _ _ b h=>h.below b) 15 AK _ Cg DY) (by rw[AQ AK];exact Cg);clear hK;rw[AP AN];go_simp;simpa[Ce,d14] using hK'
  ·have l3:L 3=true:=(hdep ⟨3,aL⟩ AL rfl).1;have f3:Iow (w.heap.size+1) w' (t 3) (De P 256):=by simpa using(hdep ⟨3,aL⟩ AL rfl).2
   have l7:L 7=true:=(hdep ⟨7,aL⟩ AL rfl).1;have f7:Iow (w.heap.size+1) w' (t 7) (De Q 256):=by simpa using(hdep ⟨7,aL⟩ AL rfl).2
   have d11:t 11=Z8 aI k:=by simpa using(hdep ⟨11,aL⟩ AL rfl).2
   have d15:t 15=Z7 aT nT cT:=by simpa using(hdep ⟨15,aL⟩ AL rfl).2
   clear hdep;obtain⟨aD,nD,cD,d3⟩:=f3.form;obtain⟨aU,nU,cU,d7⟩:=f7.form;have hap:=hx.ax.ap 3 AK 7 AK AK l3 l7;rw[d3] at f3 hap;rw[d7] at f7 hap;have hK':=hK w' (.agg #[Z7 aD nD cD,Z7 aU nU cU,Z8 aI k,Z7 aT nT cT]) (by simpa using⟨_,rfl,aD,nD,cD,aU,nU,cU,rfl,f3,f7,hap⟩) (hx.step (λ_ _ _ b h=>h.below b) 16 AK _ Cg DY) (by rw[AQ AK];exact Cg);clear hK f3 f7 hap;rw[AP AN];go_simp;simpa[Ce,d3,d7,d11,d15] using hK'
  ·have f16:Mv (w.heap.size+1) k aT nT cT (De P 256) (De Q 256) w' (t 16):=by simpa using(hdep ⟨16,aL⟩ AL rfl).2
   clear hdep;obtain⟨cs,e9,aD,nD,cD,aU,nU,cU,rfl,f3,f7,hap⟩:=f16;have hrs:=hx.pre hLi;have hK':∀ ww,Wr w.heap.size w' ww->ww.heap[w.heap.size]?=aE (.cells #[Z7 aD nD cD,Z7 aU nU cU,Z8 aI k,Z7 aT nT cT] 33 (0,0))->K _ ww:=λww hw hr=>hK ww undef (by simp[Cf]) (hx.put Cl AK _ hw hr ⟨aD,nD,cD,aU,nU,cU,rfl,f3.wr hw AJ,f7.wr hw AJ,hap⟩) (by rw[AP rfl];exact hw)
   clear hK f3 f7 hap;rw[AP AN];refine Bt 33 (.tmp 2) (.tmp 19) rfl w.heap.size _ rfl e9 33 _ hrs HSZ.o rfl (by simp[Value.oneCell']) ?_;have hK2:=hK' _ (Wr.setRow _ _ _) (AB hrs);clear hK';simpa[Ce,Act.put] using hK2
 case hdone=>
  intro L t w' hx hg;have l17:L 17=true:=by simpa using hg 17 AK
  clear hg;obtain⟨cs,hr,aD,nD,cD,aU,nU,cU,rfl,h1,h2,h3⟩:=hx.fin l17;have HR9:AO (w'.heap[w.heap.size]?=aE (.cells #[Z7 aD nD cD,Z7 aU nU cU,Z8 aI k,Z7 aT nT cT] 33 (0,0))):=hr;have HF:AO (Iow w.heap.size w' (Z7 aD nD cD) (De P 256)/\Iow w.heap.size w' (Z7 aU nU cU) (De Q 256)/\Yo (Z7 aD nD cD) (Z7 aU nU cU)/\Below w.heap.size w w'):=⟨h1.mono AJ,h2.mono AJ,h3,hx.ax.below⟩
  clear hx hr h1 h2 h3;go_wp2_with fail;exact Ab (v:=.agg #[Z7 aD nD cD,Z7 aU nU cU,Z8 aI k,Z7 aT nT cT]) (Ah rfl _ _ w.heap.size 33 _ (0,0) _ rfl HR9.o underlying33 rfl HSZ.o) rfl ⟨aD,nD,cD,aU,nU,cU,rfl,HF.o.1,HF.o.2.1,HF.o.2.2.1,HF.o.2.2.2⟩
def Tk (q:Nat):List Int:=(List.range q).map kt
theorem La (q:Nat):(Tk q).length=q:=by simp[Tk]
theorem Si (q:Nat):Tk (q+1)=Tk q++[kt q]:=by unfold Tk;rw[CN,BS];rfl
theorem Uq (q i:Nat) (h:i<q):(Tk q).getD i 0=kt i:=by unfold Tk;simp[List.getD,h]
theorem Wx (q:Nat) (h:q<88):Pl (q:Int)=kt q:=by
 unfold Pl kt;rw[AP AJ,Bq]
theorem OC (w:aC) (g c:Nat) (hc:88<=c):(Instr.sliceAt 131 (Z7 (aE ⟨g,0,aA⟩) 88 c) (aE (Z8 aI 80)) aA aA).run tP w=.ok (Z7 (aE ⟨g,80,aA⟩) 8 (c-80)) w:=by
 have h4:¬ (c=80):=AJ
 unfold Instr.sliceAt;simp[run_underlying underlying131,go_sem,Instr.sliceBounds,h4,Addr.add];try omega
theorem OD (w:aC) (g L c I:Nat) (hI:I+128<=L) (hc:L<=c):(Instr.sliceAt 26 (Z7 (aE ⟨g,0,aA⟩) L c) (aE (Z8 aI (I:Int))) (aE (Z8 aI ((I:Int)+128))) aA).run tP w=.ok (Z7 (aE ⟨g,I,aA⟩) 128 (c-I)) w:=by
 have h2:((I:Int)+128)<=(c:Int):=AJ
 have h3:((I:Int)+128).toNat=I+128:=AJ
 have h4:¬ (c=I):=AJ
 have h6:(0:Int)<=(I:Int):=AJ
 have h7:(0:Int)<=(I:Int)+128:=AJ
 unfold Instr.sliceAt;simp[run_underlying underlying26,go_sem,Instr.sliceBounds,h2,h3,h4,h6,h7,Addr.add];omega
structure HW (w:aC) (v:aB) (hs:List Int):Prop where
 ex:∃ b o c,v=Z7 (aE ⟨b,o,aA⟩) 8 c/\b<w.heap.size/\∀ i,i<8->w.cell? ⟨b,o+i,aA⟩=aE (Z8 .u64 (hs.getD i 0))
theorem HW.of_own {w:aC} {B:Nat} {v:aB} {hs:List Int} (h:Dt w B v hs) (h8:hs.length=8):HW w v hs:=by
 obtain⟨g,c,rfl,hB,hg,hc⟩:=h.base;refine⟨g,0,c,by rw[h8],hg,λi hi=>?_⟩;rw[Aq];exact h.cellAt rfl i AJ
structure MS (W:aC) (gk gm:Nat) (ms:List Int) (y:aC):Prop where
 k:gk<y.heap.size/\∀ i,i<88->y.cell? ⟨gk,i,aA⟩=aE (Z8 .u64 (kt i))
 m:gm<y.heap.size/\∀ i,i<ms.length->y.cell? ⟨gm,i,aA⟩=aE (Z8 Z9 (ms.getD i 0))
 below:Below W.heap.size W y
theorem MS.new {W:aC} {gk gm:Nat} {ms:List Int} {y y':aC} (h:MS W gk gm ms y) (hb:Below y.heap.size y y'):MS W gk gm ms y':=
 ⟨⟨As h.k.1 hb.size,λi hi=>by rw[Ai (w:=y) (hb.block gk h.k.1)];exact h.k.2 i hi⟩,⟨As h.m.1 hb.size,λi hi=>by rw[Ai (w:=y) (hb.block gm h.m.1)];exact h.m.2 i hi⟩,h.below.trans (hb.mono h.below.size)⟩
theorem Sj (b off cap n:Nat) (zs:List Int) (w:aC) (hn:zs.length=n) (hb:b<w.heap.size) (hc:∀ i,i<zs.length->w.cell? ⟨b,off+i,aA⟩=aE (Z8 Z9 (zs.getD i 0))) (hz:Ci zs) (hm:n<=2097152) :
  Calls tP 75 #[Z7 (aE ⟨b,off,aA⟩) n cap] w λe w'=>∃ v,e=.returned v/\DM w' w.heap.size v (Ge zs)/\Below w.heap.size w w':=by
 have HC:=Cd hc;have HN:=Cd hn;have HZ:=Cd hz;have HE0:=Cd (DR.empty (k:=.u64) (t:=132) w w.heap.size Cl);have HAL:AO (Below w.heap.size w (w.alloc (.cells #[] 132))):=Cg.alloc Cl _;clear hc hn hz;go_enter func75,ntmps75;go_wp2
 go_loopw [3,4] (λv i wr=>∃ q:Nat,q<=88/\i=Z8 aI q/\Dt wr w.heap.size v (Tk q)/\Below w.heap.size w wr) (λ_ i _=>88-(intOf i).toNat)
 case atStart=>exact⟨0,AJ,rfl,HE0.o,HAL.o⟩
 case round=>
  clear HE0 HAL;obtain⟨q,hq,rfl,hown,hbel⟩:=hrel;by_cases hlt:q<88
  ·have hlt':(q:Int)<88:=AJ
   have hsz:=hbel.size;have HO:=Cd hown;have HB:=Cd hbel;have A:=Cd (T8 (q:Int) wr AJ AJ);rw[Wx q hlt] at A;have HSN:=Cd (Si q);have HLS:=Cd (La q);clear hown hbel;generalize kt q=x at *;go_wp2_with fail;refine A.o.mono ?_;rintro e w1 ⟨rfl,b1⟩;have HO1:=Cd (HO.o.grow b1);have HB1:=Cd (HB.o.trans (b1.mono hsz));have hsz1:w.heap.size<=w1.heap.size:=HB1.o.size;clear A HO HB b1;have HLJ:AO ((Tk q).length+1<=1099511627776):=by show _<=_;rw[HLS.o];omega
   go_wp2_with (at_builtin;refine Db _ XX rfl _ _ rfl w.heap.size _ _ rfl (HO1.o.alloc _) ⟨w1.heap.size,0,aA⟩ 1 1 [x] rfl rfl ?c1 ?c2 ?c3 ?_);all_goals first|(intro j hj;obtain rfl:j=0:=AJ
                                                                                                                                                               simp[Addr.add];done)|skip
   case c2=>have:=HLJ.o;simpa using by omega
   case c3=>rw[A7];omega
   intro v' w2 hown' hbel' _;have HO2:AO (Dt w2 w.heap.size v' (Tk (q+1))):=by rw[HSN.o];exact hown'
   have HB2:AO (Below w.heap.size w w2):=(HB1.o.alloc hsz1 _).trans hbel';clear hown' hbel' HO1 HB1;go_wp2;go_roundw
   case rel=>exact⟨q+1,AJ,by go_num,HO2.o,HB2.o⟩
   case measure=>simp[intOf];omega
  ·obtain rfl:q=88:=AJ
   obtain⟨gk,ck,rfl,hk1,hk2,hk3⟩:=hown.base;have HKC:AO (∀ i,i<88->wr.cell? ⟨gk,i,aA⟩=aE (Z8 .u64 (kt i))):=λi hi=>by
    rw[hown.cellAt rfl i (by rw[La];exact hi),Uq _ _ hi]
   rw[La] at hk3 |-;have hsl:=λw=>OC w gk ck hk3
   have HB:=Cd hbel;have hsz:=hbel.size;have hbr:b<wr.heap.size:=AJ
   have A:=Cd (R4 b off cap n zs wr HN.o hbr (λi hi=>by rw[Ai (w:=w) (hbel.block b hb)];exact HC.o i hi) hm);clear hown hbel;go_wp2_with fail;refine A.o.mono ?_;rintro e W ⟨vm,rfl,om,bm⟩;obtain⟨gm,cm,rfl,hm1,hm2,hm3⟩:=om.base;have HMC:AO (∀ i,i<(Eq zs).length->W.cell? ⟨gm,i,aA⟩=aE (Z8 Z9 ((Eq zs).getD i 0))):=λi hi=>by
    obtain⟨b',o',c',e',_,hcc⟩:=om.part;cases e';have:=hcc i hi
    rwa [Aq] at this
   have HMS:AO (MS W gk gm (Eq zs) W):=⟨⟨As hk2 bm.size,λi hi=>by rw[Ai (w:=wr) (bm.block gk hk2)];exact HKC.o i hi⟩,⟨hm2,HMC.o⟩,A9 _ _⟩
   have HHW:AO (HW W (Z7 (aE ⟨gk,80,aA⟩) 8 (ck-80)) (Nn zs 0)):=⟨gk,80,ck-80,rfl,HMS.o.k.1,λi hi=>by
    rw[HMS.o.k.2 (80+i) AJ];show _=aE (Z8 .u64 (Nm.getD i 0))
    rw[Ot i hi]⟩
   have HBW:AO (Below w.heap.size w W):=HB.o.trans (bm.mono hsz);have HLP:AO ((Eq zs).length=128*Np n):=by show _=_;rw[O0,HN.o]
   rw[HLP.o] at hm3 |-;have hK:128*Np n<=2097152+256:=by rw[<-HLP.o,Mc,HN.o];have:=(Fy n).2;omega
   have HSH:AO (GQ (Nn zs (Np n))=Ge zs):=by show _=_;rw[<-HN.o];exact Ub zs (by rw[HN.o];exact hm)
   have HPB:=Cd (QG HZ.o);clear A hsl om bm HMC HKC HC HZ HB hk1 hm1 hk2 hm2;generalize Np n=K at *;obtain⟨L,hL⟩:∃ L,L=128*K:=⟨_,rfl⟩
   rw[<-hL] at hm3 HLP hK |-;have HL:=Cd hL;clear hL;go_wp2
   go_loopw [5,7] (λv i y=>∃ j I:Nat,j<=K/\I=128*j/\i=Z8 aI (I:Int)/\HW y v (Nn zs j)/\MS W gk gm (Eq zs) y) (λ_ i _=>(L+128-(intOf i).toNat))
   case atStart=>exact⟨0,0,AJ,rfl,rfl,HHW.o,HMS.o⟩
   case round=>
    clear HHW HMS;obtain⟨j,I,hj,hI,rfl,⟨bh,oh,ch,rfl,hh1,hh2⟩,hms⟩:=hrel;have hL:=HL.o;have HI:=Cd hI;by_cases hlt:j<K
    ·have hlt':(I:Int)<(L:Int):=AJ
     have hIL:I+128<=L:=AJ
     have hsl:=λw=>OD w gm L cm I hIL hm3
     have HMS:=Cd hms;have HBS:AO (Nn zs (j+1)=D6 (Nn zs j) (((Eq zs).drop (128*j)).take 128)):=rfl;have hbl:(((Eq zs).drop (128*j)).take 128).length=128:=by rw[Ap,BJ,HLP.o];omega
     have hbb:Ci (((Eq zs).drop (128*j)).take 128):=λz h=>HPB.o z (Bf (Ay h))
     have hBK:BK wr bh oh gm I gk (Nn zs j) (((Eq zs).drop (128*j)).take 128):=
      ⟨⟨hh1,hh2⟩,⟨hms.m.1,λi hi=>by rw[hms.m.2 (I+i) (by rw[HLP.o];omega),Gg _ _ _ hi,hI]⟩,hms.k⟩
     have A:=Cd (OB bh oh ch gm I (cm-I) gk ck _ _ wr hBK (No zs j) hbl hbb AJ);rw[<-HBS.o] at A;have HJ:AO (j+1<=K/\I+128=128*(j+1)):=by constructor<;>omega
     clear hms hh2 hbl hbb hBK HBS hI hL hj hlt;go_wp2_with fail;refine A.o.mono ?_;rintro e w3 ⟨v3,rfl,o3,b3⟩;have HMS3:=Cd (HMS.o.new b3);have HHW3:=Cd (HW.of_own o3 (No zs (j+1)).1);clear A hsl o3 b3 HMS;go_wp2;go_roundw
     case rel=>exact⟨j+1,I+128,HJ.o.1,HJ.o.2,by go_num,HHW3.o,HMS3.o⟩
     case measure=>simp[intOf];omega
    ·obtain rfl:j=K:=AJ
     have hlt':¬ ((I:Int)<(L:Int)):=AJ
     have HBR:AO (Below w.heap.size w wr):=HBW.o.trans (hms.below.mono HBW.o.size);have HHH:=Cd hh2;have H8:=Cd (No zs j);have hIb:I<=2097700:=AJ
     clear hms hh2 HBW HPB hI hL HI HL;generalize Nn zs j=hs at *;obtain⟨wy,rfl⟩:∃ y,y=wr:=⟨_,rfl⟩
     go_wp2
     go_loopw [8,9] (λv i y=>∃ q:Nat,q<=8/\i=Z8 aI q/\DM y wy.heap.size v (GQ (hs.take q))/\Below wy.heap.size wy y) (λ_ i _=>8-(intOf i).toNat)
     case atStart=>exact⟨0,AJ,rfl,DM.empty _ _ Cl,Cg.alloc Cl _⟩
     case round=>
      obtain⟨q,hq,rfl,hown,hbel⟩:=hrel;by_cases hlq:q<8
      ·have hlq':(q:Int)<8:=AJ
       have hsz:=hbel.size;have hcl:=HHH.o q hlq;rw[<-Ai (w':=wr) (hbel.block bh hh1)] at hcl;have HSN:=Cd (Kc hs q (by rw[H8.o.1];exact hlq));have HPL:=Cd (IR (hs.take q));rw[Ap,H8.o.1] at HPL;have hu:=H8.o.2 q;have HO:=Cd hown;have HB:=Cd hbel;clear hown hbel;obtain⟨x,hx⟩:∃ x,x=hs.getD q 0:=⟨_,rfl⟩
       rw[<-hx] at hcl hu HSN;clear hx;have A:=Cd (Jm x wr hu);obtain⟨hu0,hu1⟩:=hu;go_wp2_with fail;refine A.o.mono ?_;rintro e w5 ⟨v5,rfl,o5,b5⟩;obtain⟨g5,c5,rfl,h51,h52,h53⟩:=o5.base;have HC5:AO (∀ i,i<8->w5.cell? ((⟨g5,0,aA⟩:Addr).add i)=aE (Z8 Z9 ((JE x).getD i 0))):=λi hi=>by
        obtain⟨b',o',c',e',_,hcc⟩:=o5.part;cases e';rw[Az];exact hcc i (by rw[EB];exact hi)
       have HO5:=Cd (MZ HO.o b5);have HB5:=Cd (HB.o.trans (b5.mono hsz));have hsz5:wy.heap.size<=w5.heap.size:=HB5.o.size;rw[EB];clear A HO HB o5 b5;have HLY:AO ((GQ (hs.take q)).length+8<=1099511627776):=by show _<=_;rw[HPL.o];omega
       go_wp2_with (at_builtin;refine DI _ rfl _ _ rfl wy.heap.size _ _ rfl HO5.o ⟨g5,0,aA⟩ 8 c5 (JE x) rfl (EB _) HC5.o HLY.o hsz5 ?_);intro v6 w6 o6 b6 _;have HO6:AO (DM w6 wy.heap.size v6 (GQ (hs.take (q+1)))):=by rw[HSN.o];exact o6
       have HB6:=Cd (HB5.o.trans b6);clear o6 b6 HO5 HB5;go_wp2;go_roundw
       case rel=>exact⟨q+1,AJ,by go_num,HO6.o,HB6.o⟩
       case measure=>simp[intOf];omega
      ·obtain rfl:q=8:=AJ
       rw[Ad (by rw[H8.o.1];exact Ac _),HSH.o] at hown;have HOF:AO (DM _ w.heap.size _ (Ge zs)):=hown.lower HBR.o.size;have HBF:=Cd (HBR.o.trans (hbel.mono HBR.o.size));clear hown hbel;go_wp2
       go_ret
       exact⟨_,rfl,HOF.o,HBF.o⟩
end Go.Proofs.YtjdhhgaelgemcaaGreatDoor
