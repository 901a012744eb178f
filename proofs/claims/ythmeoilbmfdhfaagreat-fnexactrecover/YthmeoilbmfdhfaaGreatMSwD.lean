import Derived.Test.YthmeoilbmfdhfaaGreatMDevMark
open Go.Value renaming slice->UD,int->UE
open Go.IntKind renaming i64->UO
open Go.Obj renaming cells->UP
open Go.Ending renaming returned->UQ
open Option renaming some->UI,none->UJ
open Go renaming World->UK
namespace Go.Proofs.YthmeoilbmfdhfaaGreat
set_option maxHeartbeats 1000000
set_option maxRecDepth 100000
open Go.ChangeShapes Go.WideShapes Go.ChangeAt Go.RowKit
set_option linter.unusedVariables false
open Classical in
theorem K0 (ad:Option Addr) (n cap:Nat) (xs:List Int) (a:Nat) (w:UK) (hn:xs.length=n) (hm:n<=1048576) (ha:At UO w ad xs) :
  Calls Tryz.prog 125 #[UD ad n cap,UE UO a] w λe w'=>∃ v,e=UQ v/\Iow w.heap.size w' v (Dy xs a)/\Below w.heap.size w w':=by
 have HW:AP (Dy xs a=Dg (λv=>decide ((v:Int)∈xs\/v=a)) 256):=rfl;have HPD:AP (∀ v:Nat,(λv:Nat=>decide ((v:Int)∈xs\/v=a)) v=true↔((v:Int)∈xs\/v=a)):=λv=>AM
 generalize (λv:Nat=>decide ((v:Int)∈xs\/v=a))=P at HW HPD;have HA:AP (At UO w ad xs):=ha;have HNX:AP (xs.length=n):=hn;have H0:AP (Og w P 0 (UD (UI ⟨w.heap.size,0,UJ⟩) 0 0) (w.alloc (UP #[] 2))):=
  ⟨⟨by simp[Dg],.inr ⟨w.heap.size,0,#[],rfl,AY _,AV w _,AY _,by simp[maxLen],rfl,rfl⟩⟩,Cs.alloc Cw _⟩
 clear ha hn;go_enter Tryz.func125,Tryz.ntmps125;go_wp2_with fail
 go_loopw [5,6] (λl i wr=>∃(k:Nat) (v:Value),k<=256/\i=UE UO k/\v=l/\Og w P k v wr) (λ_ i _=>256-(intOf i).toNat)
 case atStart=>exact⟨0,_,AK,rfl,rfl,H0.o⟩
 case round=>
  clear H0;obtain⟨k,l,hk,rfl,rfl,hst⟩:=hrel;by_cases hlt:k<256
  ·have hlt':(k:Int)<256:=AK
   have HST:AP (Og w P k l wr):=hst;clear hst;by_cases hp:P k=true
   ·have HN:AP (Dg P (k+1)=Dg P k++[(k:Int)]):=by show _=_;rw[EI,AR hp]
    have HL:AP ((Dg P k).length<=1048576):=BC (Fu P k) AK;have HO:AP (Iow w.heap.size (wr.alloc (UP #[UE UO (k:Int)] 2)) l (Dg P k)):=HST.o.own.alloc _;have HZ:AP (w.heap.size<=(wr.alloc (UP #[UE UO (k:Int)] 2)).heap.size):=by
     show _<=_
     have:=HST.o.below.size;simp;omega
    have HD:AP ((k:Int)∈xs\/k=a):=(HPD.o k).1 hp;clear hp;by_cases hka:k=a
    ·subst hka;go_wp2_with (first
      |(refine Eg _ rfl (.tmp 20) (.tmp 22) rfl w.heap.size _ (Dg P k) rfl HO.o wr k rfl rfl HL.o HZ.o ?_)
      |fail)
     intro v' w3 h1 h2;have HF:AP (Og w P (k+1) v' w3):=⟨by rw[HN.o];exact h1,(HST.o.below.alloc HST.o.below.size _).trans h2⟩
     clear h1 h2 HO HZ HL;go_wp2;go_roundw
     case rel=>exact⟨k+1,_,AK,by go_num,rfl,HF.o⟩
     case measure=>simp[intOf];omega
    ·have hka':¬ ((k:Int)=(a:Int)):=AK
     have HM:AP (E9 (k:Int) xs=true):=FZ (HD.o.resolve_right hka);clear hka;go_wp2_with fail;refine(Dm ad n cap xs k _ HNX.o hm (HA.o.below HST.o.below)).mono ?_;rintro e w2 ⟨rfl,rfl⟩;rw[HM.o];go_wp2_with (first
      |(refine Eg _ rfl (.tmp 20) (.tmp 22) rfl w.heap.size _ (Dg P k) rfl HO.o _ k rfl rfl HL.o HZ.o ?_)
      |fail)
     intro v' w3 h1 h2;have HF:AP (Og w P (k+1) v' w3):=⟨by rw[HN.o];exact h1,(HST.o.below.alloc HST.o.below.size _).trans h2⟩
     clear h1 h2 HO HZ HL;go_wp2;go_roundw
     case rel=>exact⟨k+1,_,AK,by go_num,rfl,HF.o⟩
     case measure=>simp[intOf];omega
   ·have HF:AP (Og w P (k+1) l wr):=⟨by rw[EI,AS hp];exact HST.o.own,HST.o.below⟩
    have hka':¬ ((k:Int)=(a:Int)):=λh=>hp ((HPD.o k).2 (.inr AK))
    have HM:AP (E9 (k:Int) xs=false):=FM (λh=>hp ((HPD.o k).2 (.inl h)));clear hp;go_wp2_with fail;refine(Dm ad n cap xs k _ HNX.o hm (HA.o.below HST.o.below)).mono ?_;rintro e w2 ⟨rfl,rfl⟩;rw[HM.o];go_wp2;go_roundw
    case rel=>exact⟨k+1,_,AK,by go_num,rfl,HF.o⟩
    case measure=>simp[intOf];omega
  ·have hke:k=256:=AK
   subst hke;have HF:AP (∃ v,UQ l=UQ v/\Iow w.heap.size wr v (Dy xs a)/\Below w.heap.size w wr):=⟨l,rfl,by rw[HW.o];exact hst.own,hst.below⟩
   clear hst;go_wp2
   go_ret
   exact HF.o
structure S8 (w:UK) (xs:List Int) (a k:Nat) (v:Value) (wr:UK):Prop where
 own:Iow w.heap.size wr v (EB (xs.take k) a)
 below:Below w.heap.size w wr
theorem PC {xs:List Int} {a k:Nat} (h:k<xs.length) (hne:¬ xs.getD k 0=(a:Int)):EB (xs.take (k+1)) a=EB (xs.take k) a++[xs.getD k 0]:=by
 unfold EB;rw[FQ xs k h,List.filter_append];simp;simpa[List.getD] using hne
theorem Qo {xs:List Int} {a k:Nat} (h:k<xs.length) (he:xs.getD k 0=(a:Int)):EB (xs.take (k+1)) a=EB (xs.take k) a:=by
 unfold EB;rw[FQ xs k h,List.filter_append];simp;simpa[List.getD] using he
theorem PE (xs:List Int) (a k:Nat):(EB (xs.take k) a).length<=k:=by
 unfold EB;exact BC (List.length_filter_le _ _) (by rw[Az];omega)
theorem PF (ad:Option Addr) (n cap:Nat) (xs:List Int) (a:Nat) (w:UK) (hn:xs.length=n) (hm:n<=1048576) (ha:At UO w ad xs) :
  Calls Tryz.prog 126 #[UD ad n cap,UE UO a] w λe w'=>∃ v,e=UQ v/\Iow w.heap.size w' v (EB xs a)/\Below w.heap.size w w':=by
 have HA:AP (At UO w ad xs):=ha;have HNX:AP (xs.length=n):=hn;have H0:AP (S8 w xs a 0 (UD (UI ⟨w.heap.size,0,UJ⟩) 0 0) (w.alloc (UP #[] 2))):=
  ⟨⟨by simp[EB],.inr ⟨w.heap.size,0,#[],rfl,AY _,AV w _,AY _,by simp[maxLen],rfl,rfl⟩⟩,Cs.alloc Cw _⟩
 clear ha hn;go_enter Tryz.func126,Tryz.ntmps126;go_wp2_with fail
 go_loopw [5,6] (λl i wr=>∃(k:Nat) (v:Value),k<=n/\i=UE UO k/\v=l/\S8 w xs a k v wr) (λ_ i _=>n-(intOf i).toNat)
 case atStart=>exact⟨0,_,AK,rfl,rfl,H0.o⟩
 case round=>
  clear H0;obtain⟨k,l,hk,rfl,rfl,hst⟩:=hrel;by_cases hlt:k<n
  ·have hlt':(k:Int)<n:=AK
   have HST:AP (S8 w xs a k l wr):=hst;obtain⟨b,off,ea,hb,hc⟩:=(HA.o.below hst.below).get (AG HNX.o);have hck:=hc k (AG HNX.o);subst ea;clear hst hc hb;have HLT:AP (k<xs.length):=by show _<_;have:=HNX.o;omega
   by_cases hne:xs.getD k 0=(a:Int)
   ·have HF:AP (S8 w xs a (k+1) l wr):=⟨by rw[Qo HLT.o hne];exact HST.o.own,HST.o.below⟩
    rw[hne] at hck;clear hne;go_wp2;go_roundw
    case rel=>exact⟨k+1,_,AK,by go_num,rfl,HF.o⟩
    case measure=>simp[intOf];omega
   ·have HN:AP (EB (xs.take (k+1)) a=EB (xs.take k) a++[xs.getD k 0]):=PC HLT.o hne;have HL:AP ((EB (xs.take k) a).length<=1048576):=BC (PE xs a k) AK;generalize xs.getD k 0=z at *;have HO:AP (Iow w.heap.size (wr.alloc (UP #[UE UO z] 2)) l (EB (xs.take k) a)):=HST.o.own.alloc _;have HZ:AP (w.heap.size<=(wr.alloc (UP #[UE UO z] 2)).heap.size):=by
     show _<=_
     have:=HST.o.below.size;simp;omega
    go_wp2_with (first
     |(refine Eg _ rfl (.tmp 20) (.tmp 25) rfl w.heap.size _ (EB (xs.take k) a) rfl HO.o wr z rfl rfl HL.o HZ.o ?_)
     |fail)
    intro v' w3 h1 h2;have HF:AP (S8 w xs a (k+1) v' w3):=⟨by rw[HN.o];exact h1,(HST.o.below.alloc HST.o.below.size _).trans h2⟩
    clear h1 h2 HO HZ HL hck;go_wp2;go_roundw
    case rel=>exact⟨k+1,_,AK,by go_num,rfl,HF.o⟩
    case measure=>simp[intOf];omega
  ·have hke:k=n:=AK
   have hlt':¬ ((k:Int)<n):=AK
   have HF:AP (∃ v,UQ l=UQ v/\Iow w.heap.size wr v (EB xs a)/\Below w.heap.size w wr):=⟨l,rfl,by
    have:=hst.own
    rwa [An (AG HNX.o)] at this,hst.below⟩
   clear hst hke;go_wp2
   go_ret
   exact HF.o
def Fd (k:Int) (n:Nat):List Int:=(List.range n).map (λi:Nat=>k+(i:Int))
theorem E2 (k:Int) (n:Nat):(Fd k n).length=n:=by simp[Fd]
theorem FN (k:Int) (n i:Nat) (h:i<n):(Fd k n).getD i 0=k+i:=by simp[Fd,h]
theorem Gs (a:Option Addr) (n cap:Nat) (k:Int) (w:UK) (ho:Df w a n) (hk:0<=k) (hk':k+n<=1099511627776) :
  Calls Tryz.prog 92 #[UD a n cap,UE UO k] w λe w'=>e=UQ (UE UO (k+n))/\At UO w' a (Fd k n)/\Hb a w w':=by
 go_enter Tryz.func92,Tryz.ntmps92;go_wp2
 go_loopw [1,5] (λq i wr=>∃ j:Nat,j<=n/\i=UE UO j/\q=UE UO (k+j)/\Hb a w wr/\
   (n=0\/∃ g o,a=UI ⟨g,o,UJ⟩/\g<w.heap.size/\(∀ t,t<n->(wr.cell? ⟨g,o+t,UJ⟩).isSome=true/\wr.frozen? ⟨g,o+t,UJ⟩=false)/\∀ t,t<j->wr.cell? ⟨g,o+t,UJ⟩=UI (UE UO (k+(t:Int))))) (λ_ i _=>n-(intOf i).toNat)
 case atStart=>
  refine⟨0,Aj _,rfl,AM,Hb.refl _ _,?_⟩;rcases ho with h|⟨g,o,h1,h2,h3⟩
  ·exact .inl h
  ·exact .inr ⟨g,o,h1,h2,h3,λt ht=>AK⟩
 case round=>
  obtain⟨j,hj,rfl,rfl,hwr,hs⟩:=hrel;by_cases hlt:j<n
  ·rcases hs with h|⟨g,o,rfl,hg,hc,hd⟩
   ·omega
   ·obtain⟨hc1,hf1⟩:=hc j hlt;obtain⟨v0,hv0⟩:=Av.1 hc1;have HW:AP (Hb (UI ⟨g,o,UJ⟩) w (wr.setCell ⟨g,o+j,UJ⟩ (UE UO (k+(j:Int))))):=hwr.setCell _ rfl _ _;have HC:AP (∀ t,t<n->((wr.setCell ⟨g,o+j,UJ⟩ (UE UO (k+(j:Int)))).cell? ⟨g,o+t,UJ⟩).isSome=true/\(wr.setCell ⟨g,o+j,UJ⟩ (UE UO (k+(j:Int)))).frozen? ⟨g,o+t,UJ⟩=false):=by
     intro t ht;obtain⟨u,hu⟩:=Av.1 (hc t ht).1;obtain⟨u',hu'⟩:=cell?_setCell_some (w:=wr) (p:=⟨g,o+j,UJ⟩) (x:=UE UO (k+(j:Int))) (q:=⟨g,o+t,UJ⟩) (v:=u) hu;refine⟨by rw[hu'];rfl,?_⟩;rw[CH];exact(hc t ht).2
    have HD:AP (∀ t,t<j+1->(wr.setCell ⟨g,o+j,UJ⟩ (UE UO (k+(j:Int)))).cell? ⟨g,o+t,UJ⟩=UI (UE UO (k+(t:Int)))):=by
     intro t ht;by_cases e:t=j
     ·subst e;exact BQ _ _ _ hv0
     ·rw[BG _ _ _ _ (by simp;try omega)];exact hd t AK
    clear hc hd hwr ho hc1;go_wp2;go_roundw
    case rel=>exact⟨j+1,AK,by go_num,by go_num,HW.o,.inr ⟨g,o,rfl,hg,HC.o,HD.o⟩⟩
    case measure=>simp[intOf];omega
  ·have hjn:j=n:=AK
   subst hjn;have HA:AP (At UO wr a (Fd k j)):=by
    rcases hs with h|⟨g,o,rfl,hg,hc,hd⟩
    ·subst h;exact .inl rfl
    ·exact .inr ⟨g,o,rfl,by rw[hwr.size];exact hg,λi hi=>by rw[E2] at hi;rw[hd i hi,FN k j i hi]⟩
   clear hs ho;go_wp2
   go_ret
   exact⟨rfl,HA.o,hwr⟩
theorem Gt (a:Option Addr) (n cap:Nat) (k:Int) (w:UK) (ha:At UO w a (Fd k n)) (hk:0<=k) (hk':k+n<=1099511627776) :
  Calls Tryz.prog 94 #[UD a n cap,UE UO k] w λe w'=>e=UQ (UE UO (k+n))/\w'=w:=by
 go_enter Tryz.func94,Tryz.ntmps94;go_wp2
 go_loop [1,5] (λq i=>∃ j:Nat,j<=n/\i=UE UO j/\q=UE UO (k+j)) (λ_ i=>n-(intOf i).toNat)
 case atStart=>exact⟨0,Aj _,rfl,AM⟩
 case round=>
  obtain⟨j,hj,rfl,rfl⟩:=hrel;by_cases hlt:j<n
  ·obtain⟨b,off,rfl,hb,hc⟩:=ha.get (by rw[E2];omega);have hcj:=hc j (by rw[E2];omega);rw[FN k n j hlt] at hcj;have hne:((k+(j:Int)) != (k+(j:Int)))=false:=AM
   clear hc ha;go_wp2
   go_round
   case rel=>exact⟨j+1,AK,by go_num,by go_num⟩
   case measure=>simp[intOf];omega
  ·have hjn:j=n:=AK
   subst hjn;go_wp2
   go_ret
   exact⟨rfl,rfl⟩
theorem NS (a:Option Addr) (n cap:Nat) (k:Int) (w:UK) (ho:Df w a (n*2)) (hk:0<=k) (hk':k+n*2<=1099511627776) :
  Calls Tryz.prog 93 #[UD a n cap,UE UO k] w λe w'=>e=UQ (UE UO (k+n*2))/\At UO w' a (Fd k (n*2))/\Hb a w w':=by
 go_enter Tryz.func93,Tryz.ntmps93;go_wp2
 go_loopw [1,5] (λq i wr=>∃ j:Nat,j<=n/\i=UE UO j/\q=UE UO (k+j*2)/\Hb a w wr/\
   (n=0\/∃ g o,a=UI ⟨g,o,UJ⟩/\g<w.heap.size/\(∀ t,t<n*2->(wr.cell? ⟨g,o+t,UJ⟩).isSome=true/\wr.frozen? ⟨g,o+t,UJ⟩=false)/\∀ t,t<j*2->wr.cell? ⟨g,o+t,UJ⟩=UI (UE UO (k+(t:Int))))) (λ_ i _=>n-(intOf i).toNat)
 case atStart=>
  refine⟨0,Aj _,rfl,AM,Hb.refl _ _,?_⟩;rcases ho with h|⟨g,o,h1,h2,h3⟩
  ·exact .inl AK
  ·exact .inr ⟨g,o,h1,h2,h3,λt ht=>AK⟩
 case round=>
  obtain⟨j,hj,rfl,rfl,hwr,hs⟩:=hrel;by_cases hlt:j<n
  ·rcases hs with h|⟨g,o,rfl,hg,hc,hd⟩
   ·omega
   ·have hlt':(j:Int)<n:=AK
    have hst:∀(W:UK) (p:Nat) (x:Int),(∀ t,t<n*2->(W.cell? ⟨g,o+t,UJ⟩).isSome=true/\W.frozen? ⟨g,o+t,UJ⟩=false)->∀ t,t<n*2->((W.setCell ⟨g,p,UJ⟩ (UE UO x)).cell? ⟨g,o+t,UJ⟩).isSome=true/\(W.setCell ⟨g,p,UJ⟩ (UE UO x)).frozen? ⟨g,o+t,UJ⟩=false:=by
     intro W p x hW t ht;obtain⟨u,hu⟩:=Av.1 (hW t ht).1;obtain⟨u',hu'⟩:=cell?_setCell_some (w:=W) (p:=⟨g,p,UJ⟩) (x:=UE UO x) (q:=⟨g,o+t,UJ⟩) (v:=u) hu;refine⟨by rw[hu'];rfl,?_⟩;rw[CH];exact(hW t ht).2
    obtain⟨hc1,f0⟩:=hc (j*2) AK;obtain⟨v0,c0⟩:=Av.1 hc1;have hc':=hst wr (o+j*2) (k+j*2) hc;obtain⟨hc2,f1⟩:=hc' (j*2+1) AK;obtain⟨v1,c1⟩:=Av.1 hc2;have HC:AP (∀ t,t<n*2->(((wr.setCell ⟨g,o+j*2,UJ⟩ (UE UO (k+j*2))).setCell ⟨g,o+j*2+1,UJ⟩ (UE UO (k+j*2+1))).cell? ⟨g,o+t,UJ⟩).isSome=true/\((wr.setCell ⟨g,o+j*2,UJ⟩ (UE UO (k+j*2))).setCell ⟨g,o+j*2+1,UJ⟩ (UE UO (k+j*2+1))).frozen? ⟨g,o+t,UJ⟩=false):=hst _ _ _ hc';have HW:AP (Hb (UI ⟨g,o,UJ⟩) w ((wr.setCell ⟨g,o+j*2,UJ⟩ (UE UO (k+j*2))).setCell ⟨g,o+j*2+1,UJ⟩ (UE UO (k+j*2+1)))):=(hwr.setCell _ rfl _ _).setCell _ rfl _ _;rw[<-Ap] at c1 f1;have HD:AP (∀ t,t<(j+1)*2->((wr.setCell ⟨g,o+j*2,UJ⟩ (UE UO (k+j*2))).setCell ⟨g,o+j*2+1,UJ⟩ (UE UO (k+j*2+1))).cell? ⟨g,o+t,UJ⟩=UI (UE UO (k+(t:Int)))):=by
     intro t ht;by_cases e:t=j*2+1
     ·subst e;rw[<-Ap,BQ _ _ _ c1];rw[show k+(((j*2+1:Nat)):Int)=k+j*2+1 by omega]
     ·rw[BG _ _ _ _ (by simp;try omega)];by_cases e2:t=j*2
      ·subst e2;rw[BQ _ _ _ c0];rw[show k+(((j*2:Nat)):Int)=k+j*2 by omega]
      ·rw[BG _ _ _ _ (by simp;try omega)];exact hd t AK
    clear hc hd hwr ho hc1 hc2 hc' hst;go_wp2;go_roundw
    case rel=>exact⟨j+1,AK,by go_num,by go_num,HW.o,.inr ⟨g,o,rfl,hg,HC.o,HD.o⟩⟩
    case measure=>simp[intOf];omega
  ·have hjn:j=n:=AK
   subst hjn;have HA:AP (At UO wr a (Fd k (j*2))):=by
    rcases hs with h|⟨g,o,rfl,hg,hc,hd⟩
    ·subst h;exact .inl rfl
    ·exact .inr ⟨g,o,rfl,by rw[hwr.size];exact hg,λi hi=>by rw[E2] at hi;rw[hd i hi,FN k _ i hi]⟩
   clear hs ho;go_wp2
   go_ret
   exact⟨rfl,HA.o,hwr⟩
def Ly (w:UK) (a:Option Addr) (zs:List Int):Prop:=
 zs=[]\/∃ b off,a=UI ⟨b,off,UJ⟩/\b<w.heap.size/\∀ i,i<zs.length->w.cell? ⟨b,off+i,UJ⟩=UI (UE UO (zs.getD i 0))/\w.frozen? ⟨b,off+i,UJ⟩=false
theorem Ly.at_ {w:UK} {a:Option Addr} {zs:List Int} (h:Ly w a zs):At UO w a zs:=by
 rcases h with h|⟨b,off,e,hl,hc⟩
 ·exact .inl h
 ·exact .inr ⟨b,off,e,hl,λi hi=>(hc i hi).1⟩
theorem Ly.open_ {w:UK} {a:Option Addr} {zs:List Int} (h:Ly w a zs) {n:Nat} (hn:zs.length=n):Df w a n:=by
 rcases h with h|⟨b,off,e,hl,hc⟩
 ·subst h;exact .inl (by simpa using hn.symm)
 ·exact .inr ⟨b,off,e,hl,λi hi=>⟨by rw[(hc i AK).1];rfl,(hc i AK).2⟩⟩
def De (lo:Nat) (w:UK) (a:Option Addr):Prop:=∀ ad,a=UI ad->lo<=ad.block/\ad.block<w.heap.size
def Ej (a b:Option Addr):Prop:=∀ x y,a=UI x->b=UI y->x.block≠y.block
theorem De.mono {lo lo':Nat} {w w':UK} {a:Option Addr} (h:De lo w a) (hl:lo'<=lo) (hs:w.heap.size<=w'.heap.size):De lo' w' a:=λad e=>AG (h ad e)
theorem Ly.keep {w w':UK} {a:Option Addr} {zs:List Int} (h:Ly w a zs) (hs:w.heap.size<=w'.heap.size) (hb:∀ ad,a=UI ad->ad.block<w.heap.size->w'.heap[ad.block]?=w.heap[ad.block]?):Ly w' a zs:=by
 rcases h with h|⟨b,off,e,hl,hc⟩
 ·exact .inl h
 ·have hk:=hb _ e hl;refine .inr ⟨b,off,e,AK,λi hi=>?_⟩;rw[Aa (a:=⟨b,off+i,UJ⟩) (w:=w) hk,World.frozen?_of_block (a:=⟨b,off+i,UJ⟩) (w:=w) hk];exact hc i hi
theorem At.keepT {w w':UK} {a:Option Addr} {zs:List Int} (h:At UO w a zs) (hs:w.heap.size<=w'.heap.size) (hb:∀ ad,a=UI ad->ad.block<w.heap.size->w'.heap[ad.block]?=w.heap[ad.block]?):At UO w' a zs:=by
 rcases h with h|⟨b,off,e,hl,hc⟩
 ·exact .inl h
 ·have hk:=hb _ e hl;refine .inr ⟨b,off,e,AK,λi hi=>?_⟩;rw[Aa (a:=⟨b,off+i,UJ⟩) (w:=w) hk];exact hc i hi
theorem Df.keepT {w w':UK} {a:Option Addr} {n:Nat} (h:Df w a n) (hs:w.heap.size<=w'.heap.size) (hb:∀ ad,a=UI ad->ad.block<w.heap.size->w'.heap[ad.block]?=w.heap[ad.block]?):Df w' a n:=by
 rcases h with h|⟨b,off,e,hl,hc⟩
 ·exact .inl h
 ·have hk:=hb _ e hl;refine .inr ⟨b,off,e,AK,λi hi=>?_⟩;rw[Aa (a:=⟨b,off+i,UJ⟩) (w:=w) hk,World.frozen?_of_block (a:=⟨b,off+i,UJ⟩) (w:=w) hk];exact hc i hi
theorem Ly.below {w w':UK} {a:Option Addr} {zs:List Int} (h:Ly w a zs) (b:Below w.heap.size w w'):Ly w' a zs:=h.keep b.size (λad _ hl=>b.block _ hl)
theorem Hb.kept {a c:Option Addr} {w w':UK} (h:Hb a w w') (hap:Ej a c):∀ ad,c=UI ad->ad.block<w.heap.size->w'.heap[ad.block]?=w.heap[ad.block]?:=
 λad e _=>h.block _ (λx hx=>(hap x ad hx e).symm)
structure S3 (lo:Nat) (w:UK) (aD aU aT:Option Addr) (nD nU nT:Nat) (D U T:List Int):Prop where
 d:Ly w aD D
 u:Ly w aU U
 t:Ly w aT T
 nd:D.length=nD
 nu:U.length=nU
 nt:T.length=nT*2
 ld:De lo w aD
 lu:De lo w aU
 lt:De lo w aT
 du:Ej aD aU
 dt:Ej aD aT
 ut:Ej aU aT
theorem S3.keep {lo:Nat} {w w':UK} {aD aU aT:Option Addr} {nD nU nT:Nat} {D U T:List Int} (h:S3 lo w aD aU aT nD nU nT D U T) (hs:w.heap.size<=w'.heap.size) (hb:∀ k,lo<=k->k<w.heap.size->w'.heap[k]?=w.heap[k]?):S3 lo w' aD aU aT nD nU nT D U T:=
 ⟨h.d.keep hs (λad e hl=>hb _ (h.ld ad e).1 hl),h.u.keep hs (λad e hl=>hb _ (h.lu ad e).1 hl),h.t.keep hs (λad e hl=>hb _ (h.lt ad e).1 hl),h.nd,h.nu,h.nt,h.ld.mono Cw hs,h.lu.mono Cw hs,h.lt.mono Cw hs,h.du,h.dt,h.ut⟩
theorem S3.below {lo:Nat} {w w':UK} {aD aU aT:Option Addr} {nD nU nT:Nat} {D U T:List Int} (h:S3 lo w aD aU aT nD nU nT D U T) (b:Below w.heap.size w w'):S3 lo w' aD aU aT nD nU nT D U T:=h.keep b.size (λk _ hk=>b.block k hk)
theorem NU (a:Option Addr) (n cap:Nat) (k:Int) (w:UK) (ha:At UO w a (Fd k (n*2))) (hk:0<=k) (hk':k+n*2<=1099511627776) :
  Calls Tryz.prog 95 #[UD a n cap,UE UO k] w λe w'=>e=UQ (UE UO (k+n*2))/\w'=w:=by
 go_enter Tryz.func95,Tryz.ntmps95;go_wp2
 go_loop [1,5] (λq i=>∃ j:Nat,j<=n/\i=UE UO j/\q=UE UO (k+j*2)) (λ_ i=>n-(intOf i).toNat)
 case atStart=>exact⟨0,Aj _,rfl,AM⟩
 case round=>
  obtain⟨j,hj,rfl,rfl⟩:=hrel;by_cases hlt:j<n
  ·obtain⟨b,off,rfl,hb,hc⟩:=ha.get (by rw[E2];omega);have hc0:=hc (j*2) (by rw[E2];omega);have hc1:=hc (j*2+1) (by rw[E2];omega);rw[FN k _ _ AK] at hc0 hc1;rw[show k+((j*2:Nat):Int)=k+j*2 by omega] at hc0;rw[show k+((j*2+1:Nat):Int)=k+j*2+1 by omega,<-Ap] at hc1;have hlt':(j:Int)<n:=AK
   have hne:((k+(j:Int)*2) != (k+(j:Int)*2))=false:=AM
   have hne1:((k+(j:Int)*2+1) != (k+(j:Int)*2+1))=false:=AM
   clear hc ha;go_wp2
   go_round
   case rel=>exact⟨j+1,AK,by go_num,by go_num⟩
   case measure=>simp[intOf];omega
  ·have hjn:j=n:=AK
   subst hjn;go_wp2
   go_ret
   exact⟨rfl,rfl⟩
def DG (k:Nat) (a:Option Addr):Prop:=∀ ad,a=UI ad->k≠ad.block
structure MB (lo:Nat) (w:UK) (sc:Array Value) (wr:UK):Prop where
 below:Below lo w wr
 box:wr.heap[w.heap.size]?=UI (UP sc 34 (0,0))
theorem MB.wro {lo:Nat} {w wr w':UK} {sc:Array Value} (h:MB lo w sc wr) {a:Option Addr} (hl:De lo w a) (hw:Hb a wr w'):MB lo w sc w':=
 ⟨h.below.trans (hw.below lo (λad e=>(hl ad e).1)),by rw[hw.block _ (λad e=>AG (hl ad e))];exact h.box⟩
theorem NV (aD aU aT:Option Addr) (nD cD nU cU nT cT:Nat) (k0 k:Int) (w:UK) (lo:Nat) (hlo:lo<=w.heap.size)
  (oD:Df w aD nD) (oU:Df w aU nU) (oT:Df w aT (nT*2)) (lD:De lo w aD) (lU:De lo w aU) (lT:De lo w aT) (dU:Ej aD aU) (dT:Ej aD aT) (uT:Ej aU aT) (hk:0<=k) (hk':k+nD+nU+nT*2<=1099511627776) :
  Calls Tryz.prog 48 #[.agg #[UD aD nD cD,UD aU nU cU,UE UO k0,UD aT nT cT],UE UO k] w λe w'=>e=UQ (UE UO (k+nD+nU+nT*2))/\At UO w' aD (Fd k nD)/\At UO w' aU (Fd (k+nD) nU)/\At UO w' aT (Fd (k+nD+nU) (nT*2))/\Below lo w w'/\∀ j,j<w.heap.size->DG j aD->DG j aU->DG j aT->w'.heap[j]?=w.heap[j]?:=by
 have b1:Below w.heap.size w (w.alloc (UP #[UD aD nD cD,UD aU nU cU,UE UO k0,UD aT nT cT] 34)):=Cs.alloc Cw _;have HM1:AP (MB lo w #[UD aD nD cD,UD aU nU cU,UE UO k0,UD aT nT cT] (w.alloc (UP #[UD aD nD cD,UD aU nU cU,UE UO k0,UD aT nT cT] 34))):=⟨b1.mono hlo,AV w _⟩
 have HO:AP (Df (w.alloc (UP #[UD aD nD cD,UD aU nU cU,UE UO k0,UD aT nT cT] 34)) aD nD/\Df (w.alloc (UP #[UD aD nD cD,UD aU nU cU,UE UO k0,UD aT nT cT] 34)) aU nU/\Df (w.alloc (UP #[UD aD nD cD,UD aU nU cU,UE UO k0,UD aT nT cT] 34)) aT (nT*2)):=⟨oD.below b1,oU.below b1,oT.below b1⟩
 have HL:AP (De lo w aD/\De lo w aU/\De lo w aT):=⟨lD,lU,lT⟩
 have HP:AP (Ej aD aU/\Ej aD aT/\Ej aU aT):=⟨dU,dT,uT⟩
 have HN1:AP (∀ j,j<w.heap.size->(w.alloc (UP #[UD aD nD cD,UD aU nU cU,UE UO k0,UD aT nT cT] 34)).heap[j]?=w.heap[j]?):=λj hj=>b1.block j hj
 clear oD oU oT lD lU lT dU dT uT b1;go_enter Tryz.func48,Tryz.ntmps48;go_wp2_with fail;refine(Gs aD nD cD k _ HO.o.1 hk AK).mono ?_;rintro e w2 ⟨rfl,hA,hw⟩;generalize w.alloc (UP #[UD aD nD cD,UD aU nU cU,UE UO k0,UD aT nT cT] 34)=w1 at *;have HM2:AP (MB lo w #[UD aD nD cD,UD aU nU cU,UE UO k0,UD aT nT cT] w2):=HM1.o.wro HL.o.1 hw;have HO2:AP (Df w2 aU nU/\Df w2 aT (nT*2)):=⟨HO.o.2.1.keepT (by rw[hw.size];exact AY _) (hw.kept HP.o.1),HO.o.2.2.keepT (by rw[hw.size];exact AY _) (hw.kept HP.o.2.1)⟩
 have HA2:AP (At UO w2 aD (Fd k nD)):=hA;have HN2:AP (∀ j,j<w.heap.size->DG j aD->w2.heap[j]?=w.heap[j]?):=λj hj h1=>(hw.block j (λad e=>h1 ad e)).trans (HN1.o j hj)
 have x1:w2.cell? ⟨w.heap.size,1,UJ⟩=UI (UD aU nU cU):=by rw[AA HM2.o.box 1];rfl
 clear hA hw HM1 HO;go_wp2_with fail;refine(Gs aU nU cU (k+nD) _ HO2.o.1 AK AK).mono ?_;rintro e w3 ⟨rfl,hA,hw⟩;have HM3:AP (MB lo w #[UD aD nD cD,UD aU nU cU,UE UO k0,UD aT nT cT] w3):=HM2.o.wro HL.o.2.1 hw;have HO3:AP (Df w3 aT (nT*2)):=HO2.o.2.keepT (by rw[hw.size];exact AY _) (hw.kept HP.o.2.2);have HA3:AP (At UO w3 aD (Fd k nD)/\At UO w3 aU (Fd (k+nD) nU)):=⟨HA2.o.keepT (by rw[hw.size];exact AY _) (hw.kept (λx y hx hy=>(HP.o.1 y x hy hx).symm)),hA⟩
 have HN3:AP (∀ j,j<w.heap.size->DG j aD->DG j aU->w3.heap[j]?=w.heap[j]?):=λj hj h1 h2=>(hw.block j (λad e=>h2 ad e)).trans (HN2.o j hj h1)
 have x3:w3.cell? ⟨w.heap.size,3,UJ⟩=UI (UD aT nT cT):=by rw[AA HM3.o.box 3];rfl
 clear hA hw HM2 HO2 HA2 x1;go_wp2_with fail;refine(NS aT nT cT (k+nD+nU) _ HO3.o AK AK).mono ?_;rintro e w4 ⟨rfl,hA,hw⟩;have HM4:AP (Below lo w w4):=(HM3.o.wro HL.o.2.2 hw).below;have HN4:AP (∀ j,j<w.heap.size->DG j aD->DG j aU->DG j aT->w4.heap[j]?=w.heap[j]?):=λj hj h1 h2 h3=>(hw.block j (λad e=>h3 ad e)).trans (HN3.o j hj h1 h2)
 have HA4:AP (At UO w4 aD (Fd k nD)/\At UO w4 aU (Fd (k+nD) nU)/\At UO w4 aT (Fd (k+nD+nU) (nT*2))):=⟨HA3.o.1.keepT (by rw[hw.size];exact AY _) (hw.kept (λx y hx hy=>(HP.o.2.1 y x hy hx).symm)),HA3.o.2.keepT (by rw[hw.size];exact AY _) (hw.kept (λx y hx hy=>(HP.o.2.2 y x hy hx).symm)),hA⟩
 clear hA hw HM3 HO3 HA3 x3;go_wp2
 go_ret
 exact⟨rfl,HA4.o.1,HA4.o.2.1,HA4.o.2.2,HM4.o,HN4.o⟩
theorem NW (aD aU aT:Option Addr) (nD cD nU cU nT cT:Nat) (k0 k:Int) (w:UK)
  (hD:At UO w aD (Fd k nD)) (hU:At UO w aU (Fd (k+nD) nU)) (hT:At UO w aT (Fd (k+nD+nU) (nT*2))) (hk:0<=k) (hk':k+nD+nU+nT*2<=1099511627776) :
  Calls Tryz.prog 51 #[.agg #[UD aD nD cD,UD aU nU cU,UE UO k0,UD aT nT cT],UE UO k] w λe w'=>e=UQ (UE UO (k+nD+nU+nT*2))/\Below w.heap.size w w':=by
 have b1:Below w.heap.size w (w.alloc (UP #[UD aD nD cD,UD aU nU cU,UE UO k0,UD aT nT cT] 34)):=Cs.alloc Cw _;have HB:AP (Below w.heap.size w (w.alloc (UP #[UD aD nD cD,UD aU nU cU,UE UO k0,UD aT nT cT] 34))):=b1;have HA:AP (At UO (w.alloc (UP #[UD aD nD cD,UD aU nU cU,UE UO k0,UD aT nT cT] 34)) aD (Fd k nD)/\At UO (w.alloc (UP #[UD aD nD cD,UD aU nU cU,UE UO k0,UD aT nT cT] 34)) aU (Fd (k+nD) nU)/\At UO (w.alloc (UP #[UD aD nD cD,UD aU nU cU,UE UO k0,UD aT nT cT] 34)) aT (Fd (k+nD+nU) (nT*2))):=⟨hD.below b1,hU.below b1,hT.below b1⟩
 have g1:¬ (k+(nD:Int)<0):=AK
 have g2:¬ (k+(nD:Int)+nU<0):=AK
 have g3:¬ (k+(nD:Int)+nU+nT*2<0):=AK
 clear hD hU hT b1;go_enter Tryz.func51,Tryz.ntmps51;go_wp2_with fail;refine(Gt aD nD cD k _ HA.o.1 hk AK).mono ?_;rintro e w2 ⟨rfl,rfl⟩;go_wp2_with fail;refine(Gt aU nU cU (k+nD) _ HA.o.2.1 AK AK).mono ?_;rintro e w3 ⟨rfl,rfl⟩;go_wp2_with fail;refine(NU aT nT cT (k+nD+nU) _ HA.o.2.2 AK AK).mono ?_;rintro e w4 ⟨rfl,rfl⟩;go_wp2
 go_ret
 exact⟨rfl,HB.o⟩
end Go.Proofs.YthmeoilbmfdhfaaGreat
