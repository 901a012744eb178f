import Derived.Test.YtncomnkdlpoelaaGreatDoorMISt
open Go.Proofs.Tryz renaming prog->tP
open Go.Proofs.Tryz
open Go.Value renaming int->aO,pointer->aY,bool->ae,agg->af
open Go.Ground renaming data->ag
open Go.Operand renaming tmp->ah
open Option renaming some->aR,none->aS
open Go renaming World->aV,Value->aX
set_option maxHeartbeats 8000000
namespace Go.Proofs.YtncomnkdlpoelaaGreatDoor
open Go.ChangeShapes Go.WideShapes Go.ChangeAt Go.RowKit
set_option linter.unusedVariables false
theorem Jh {L:Nat->Bool} {i j:Nat} (h:j≠i):CZ L i j=L j:=by unfold CZ;simp[h]
theorem GO {L:Nat->Bool} {i:Nat}:CZ L i i=true:=by unfold CZ;simp
def Fg (w0:aV) (g k:Nat) (A B:aV->Prop) (L:Nat->Bool) (w':aV):Prop:=ET g w0 w'/\(L k=false->A w')/\(L k=true->B w')
theorem Fg.ref {w0:aV} {g k:Nat} {A B:aV->Prop} {L:Nat->Bool} {w':aV} (i:Nat) (hi:i≠k) (h:Fg w0 g k A B L w'):Fg w0 g k A B (CZ L i) w':=
 ⟨h.1,by rw[Jh (A9 hi)];exact h.2.1,by rw[Jh (A9 hi)];exact h.2.2⟩
theorem Fg.low {w0:aV} {g k:Nat} {A B:aV->Prop} {L:Nat->Bool} {w' ww:aV} (i:Nat) (hi:i≠k) (h:Fg w0 g k A B L w') (hA:A w'->A ww) (hB:B w'->B ww) (b:Below w'.heap.size w' ww):Fg w0 g k A B (CZ L i) ww:=
 ⟨h.1.trans (ET.of_below b),by rw[Jh (A9 hi)];exact λq=>hA (h.2.1 q),by rw[Jh (A9 hi)];exact λq=>hB (h.2.2 q)⟩
theorem Mk {w:aV} {o:Oper} {a:Act} {K:Act->aV->Prop} {Q:Exit->Act->aV->Prop} (x:Operand) (ho:o.op=.load 141 x)
  (g p:Nat) (es:List Int) (hx:a.eval x=aY (aR ⟨g,p,aS⟩)) (h:Dx w g p es) (hK:K (a.put o.dst (af (es.map (Value.int .u64)).toArray)) w):o.wp tP a w K Q:=by
 have hr:w.rangeAt g p (es.map (Value.int .u64)):=λj v hv=>by
  have hj:j<es.length:=by have:=(Am.1 hv).1;simpa using this
  rw[h.2.2 j (AG h.2.1.1)];simp[hj] at hv;simp[hj,hv]
 have hl:=h.2.1.1;exact wp_load_mid 141 x ho g p hx (es.map (Value.int .u64)) _ hr underlying141 rfl (by rw[Tryz.sizeEl];simp[hl]) hK
theorem Ji {w:aV} {g:Nat} {x y z t:List Int} {o:Oper} {a:Act} {K:Act->aV->Prop} {Q:Exit->Act->aV->Prop} (pt:Pt w g x y z t) (px py:Operand) (ho:o.op=.store 141 px py)
  (es:List Int) (hx:a.eval px=aY (aR ⟨g,15,aS⟩)) (hy:a.eval py=af (es.map (Value.int .u64)).toArray) (hk:Cq es)
  (hK:∀ w',Pt w' g x y z es->Wr g w w'->K (a.put o.dst undef) w'):o.wp tP a w K Q:=by
 have hsz:((es.map (Value.int .u64)).toArray).size=5:=by simp[hk.1]
 have hl:(pl x y z t).length=20:=by unfold pl;simp[pt.x.1,pt.y.1,pt.z.1,pt.t.1]
 refine wp_store_mid 141 px py ho g 15 ((es.map (Value.int .u64)).toArray) hx hy (by rw[hsz];exact λj hj=>⟨by rw[pt.row.cell (15+j) AJ];rfl,pt.row.frozen _⟩) (sizeEl hk.1) (all_oneCell_toArray (Az _ _)) (hK _ ?_ (Wr.setCells _ _ 15 (Wr.refl _ _)));have hr:=Cd.setCells es (pl x y z t) w 15 pt.row;rw[Wj pt.x.1 pt.y.1 pt.z.1 pt.t.1 hk.1] at hr;exact⟨hr,pt.x,pt.y,pt.z,hk⟩
def TG (X Y:Int) (v:aX):Prop:=∃ ts,Cq ts/\ev ts=X*Y%fp/\v=af (ts.map (Value.int .u64)).toArray
def Fz (zs:List Int):Int:=val 256 zs%(fp+19)
def Ts (zs:List Int):Bool:=val 256 zs/(fp+19) == 1
def K4 (zs:List Int):Int:=Wk (uF (Fz zs)) (vF (Fz zs))
def JY (zs:List Int):Int:=if((K4 zs%2 == 1) != Ts zs)=true then(0-K4 zs)%fp else K4 zs
def Lo (zs:List Int):Bool:=zs.length == 32 && decide (Fz zs<fp) && Kg (uF (Fz zs)) (vF (Fz zs)) && ((JY zs%2 == 1) == Ts zs)
def DC (w:aV) (g:Nat) (zs:List Int) (e:Ending) (w':aV):Prop:=
 ∃ x y z t,Pt w' g x y z t/\ET g w w'/\e=.returned (ae (Lo zs))/\(Lo zs=true->ev x=JY zs/\ev y=Fz zs/\ev z=1/\ev t=JY zs*Fz zs%fp)
theorem Wl (a b c d V:Int) (ha:0<=a) (ha':a<18446744073709551616) (hb:0<=b) (hb':b<18446744073709551616) (hc:0<=c) (hc':c<18446744073709551616) (hd:0<=d) (hd':d<18446744073709551616) (hV:val 18446744073709551616 [a,b,c,d]=V) :
  (d/9223372036854775808 == 1)=(V/(fp+19) == 1):=by
 have:d/9223372036854775808=V/(fp+19):=by
  subst hV;simp only[val,Ey];omega
 rw[this]
theorem IN (g:Nat) (x y z t0:List Int) (p:Option Addr) (n cap:Nat) (zs:List Int) (w:aV) (hn:zs.length=n) (hm:n<=1048576) (ha:At .u8 w p zs) (hz:Cb zs) (hp:Pt w g x y z t0) :
  Calls tP 103 #[aY (aR ⟨g,0,aS⟩),.slice p n cap] w (DC w g zs):=by
 have HP:=CY <| hp
 have hlt:=hp.row.lt;by_cases h32:n=32
 ·have h32':((n:Int) == 32)=true:=by rw[h32];rfl
  have H32:AO (32<=n):=by show _<=_;omega
  have HLN:AO (zs.length=32):=by show _=_;omega
  have htk:zs.take 32=zs:=Ad AJ;clear h32;go_enter func103,ntmps103;go_wp2_with fail;have cl:=LZ p n cap zs w hn H32.o hm ha hz;refine cl.mono ?_;rintro e w1 ⟨ms,hl,hw,hv,rfl,b1⟩;rw[htk] at hv
  match ms,hl with
  |[a,b,c,d],_=>
  obtain⟨a0,a1⟩:=hw.get 0;obtain⟨b0,b1'⟩:=hw.get 1;obtain⟨c0,c1⟩:=hw.get 2;obtain⟨d0,d1⟩:=hw.get 3;simp only[List.getD_cons_zero,List.getD_cons_succ] at a0 a1 b0 b1' c0 c1 d0 d1;have HO:AO ((d/9223372036854775808 == 1)=Ts zs):=Wl a b c d _ a0 a1 b0 b1' c0 c1 d0 d1 hv;have HY:AO (val DD (MB a b c d)=Fz zs):=by
   show _=_
   rw[Ul a b c d a0 a1 b0 b1' c0 c1 d0 d1,hv];rfl
  have HP1:AO (Pt w1 g x y z t0):=HP.o.below b1 hlt;have HW1:AO (ET g w w1):=ET.of_below b1;have HWD:AO (IE [a,b,c,d]):=hw;have HZN:AO (Cd (w1.alloc (.cells CK 146)) w1.heap.size 146 [0,0,0,0]):=AS w1 _;have HSZ:AO ((tP.info? 146).map (·.size)=aR (([a,b,c,d].map (Value.int .u64)).toArray).size):=sizeNum rfl;go_wp2_with (first
   |(refine AE 146 (ah 5) (ah 11) w1.heap.size (([a,b,c,d].map (Value.int .u64)).toArray) 146 HZN.o HSZ.o rfl (all_oneCell_toArray (Az _ _)) ?_)
   |fail)
  have R2:Cd ((w1.alloc (.cells CK 146)).setRow w1.heap.size #[aO .u64 a,aO .u64 b,aO .u64 c,aO .u64 d]) w1.heap.size 146 [a,b,c,d]:=HZN.o.setRow [a,b,c,d];have B2:Below w1.heap.size w1 ((w1.alloc (.cells CK 146)).setRow w1.heap.size #[aO .u64 a,aO .u64 b,aO .u64 c,aO .u64 d]):=(Ct _ _).trans ((Wr.setRow _ _ _).below Ch);have hlt1:=HP1.o.row.lt;generalize (w1.alloc (.cells CK 146)).setRow w1.heap.size #[aO .u64 a,aO .u64 b,aO .u64 c,aO .u64 d]=w2 at *;have HP2:AO (Pt w2 g x y z t0):=HP1.o.below B2 hlt1;have HW2:AO (ET g w w2):=HW1.o.trans (ET.of_below B2);have HR2:AO (Cd w2 w1.heap.size 146 [a,b,c,d]):=R2;clear R2 B2 HP1 HW1 HZN;generalize w1.heap.size=Gn at *;go_wp2_with fail;refine(N6 Gn [a,b,c,d] _ rfl HR2.o HWD.o).mono ?_;rintro e w2' ⟨rfl,rfl⟩;simp only[List.getD_cons_zero,List.getD_cons_succ];go_wp2_with (first
   |(refine AZ rfl 146 (ah 5) rfl Gn rfl 146 _ (0,0) _ HR2.o underlying146 rfl HSZ.o ?_)
   |fail)
  rw[HO.o];refine(Kh a b c d _ a0 a1 b0 b1' c0 c1 d0 d1).mono ?_;rintro e w3 ⟨rfl,b3⟩;have HS3:AO (Di w w3 g x y z t0 [] []):=⟨HW2.o.trans (ET.of_below b3),hlt,HP2.o.below b3 HP2.o.row.lt,AL,List.Pairwise.nil,AL⟩
  have HKlm:AO (Cq (MB a b c d)/\val DD (MB a b c d)=Fz zs):=⟨SO a b c d,HY.o⟩
  have HLS:AO (Gi (MB a b c d)=MB a b c d↔Fz zs<fp):=by
   show _↔_
   rw[<-HY.o];exact QS a b c d
  clear b3 HP2 HW2 HR2 HO HSZ HWD HY;generalize MB a b c d=ys at *;clear a0 a1 b0 b1' c0 c1 d0 d1;have HKys:AO (Cq ys/\ev ys=ev ys):=⟨HKlm.o.1,rfl⟩
  go_wp2_with (first
   |(refine Dj HS3.o rfl (ah 18) (ah 16) rfl 5 AK ys x ys z t0 (Wi HS3.o.pt.x.1 HS3.o.pt.y.1 HKlm.o.1.1) ⟨HS3.o.pt.x,HKlm.o.1,HS3.o.pt.z,HS3.o.pt.t⟩ rfl rfl HKlm.o.1 rfl ?_)
   |fail)
  intro w4 S4;have HS4:AO (Di w w4 g x ys z t0 [] []):=S4;clear S4 HS3;have HA:AO (∀(w' ww:aV),Below w'.heap.size w' ww->Pt w' g x ys z t0->Pt ww g x ys z t0):=λw' ww b h=>h.below b h.row.lt
  have hyl:=HKys.o.1.1;have hll:=Ek ys;by_cases hle:Gi ys=ys
  ·have HQ:AO (decide (ys=Gi ys)=true):=Aj hle.symm;have HYL:AO (Fz zs<fp):=HLS.o.1 hle;have HEV:AO (ev ys=Fz zs):=by
    show _=_
    have:=(FZ HKys.o.1).2.2;rw[hle,HKlm.o.2] at this;exact this.symm
   clear hle;have EX0:AO (Fg w g 11 (λw1=>Pt w1 g x ys z t0) (λw1=>∃ xs,Cq xs/\ev xs=K4 zs/\Pt w1 g xs ys z t0) (λn=>(Array.replicate 14 false).getD n false) w4.drew):=⟨HS4.o.wrh.trans (ET.of_below Cf.drew),λ_=>⟨HS4.o.pt.row,HS4.o.pt.x,HS4.o.pt.y,HS4.o.pt.z,HS4.o.pt.t⟩,λq=>absurd q AL⟩
   have HB:AO (∀(w' ww:aV),Below w'.heap.size w' ww->(∃ xs,Cq xs/\ev xs=K4 zs/\Pt w' g xs ys z t0)->(∃ xs,Cq xs/\ev xs=K4 zs/\Pt ww g xs ys z t0)):=λw' ww b ⟨xs,h1,h2,h⟩=>⟨xs,h1,h2,h.below b h.row.lt⟩
   have REF:AO (∀ i,i≠11->∀(L:Nat->Bool) (w':aV),Fg w g 11 (λw1=>Pt w1 g x ys z t0) (λw1=>∃ xs,Cq xs/\ev xs=K4 zs/\Pt w1 g xs ys z t0) L w'->Fg w g 11 (λw1=>Pt w1 g x ys z t0) (λw1=>∃ xs,Cq xs/\ev xs=K4 zs/\Pt w1 g xs ys z t0) (CZ L i) w'):=λi hi L w' h=>Fg.ref i hi h
   have YY:AO (∀(L:Nat->Bool) (w':aV),Fg w g 11 (λw1=>Pt w1 g x ys z t0) (λw1=>∃ xs,Cq xs/\ev xs=K4 zs/\Pt w1 g xs ys z t0) L w'->Dx w' g 5 ys):=λL w' h=>by
    cases hL:L 11
    {exact(h.2.1 hL).ey};{obtain⟨_,_,_,q⟩:=h.2.2 hL;exact q.ey}
   go_wp2;refine Ag AM ?_;refine DH (λ_ _ _=>True) (frame:=(λ(a b c d e f g h i j k l m n o p q r s u v w x y z A B C D E F G H I J K L M N O P Q R S T U V W X Y Z a0:aX)=>λ(t:Nat->aX)=>({ tmps:=List.toArray [a,b,c,d,e,f,g,h,i,j,k,l,m,n,o,p,q,r,s,t 0,t 1,t 2,t 3,t 4,t 5,t 6,t 7,t 8,t 9,t 10,t 11,t 12,t 13,u,v,w,x,y,z,A,B,C,D,E,F,G,H,I,J,K,L,M,N,O,P,Q,R,S,T,U,V,W,X,Y,Z,a0],defers:=[] }:Act)) _ _ _ _ _ _ _ _ _ _ _ _ _ _ _ _ _ _ _ _ _ _ _ _ _ _ _ _ _ _ _ _ _ _ _ _ _ _ _ _ _ _ _ _ _ _ _ _ _ _ _ _)
    (Ext:=λL w'=>Fg w g 11 (λw1=>Pt w1 g x ys z t0) (λw1=>∃ xs,Cq xs/\ev xs=K4 zs/\Pt w1 g xs ys z t0) L w') (Good:=λi L _ v=>if i=0 then v=aY (aR ⟨g,0,aS⟩) else if i=1 then v=aY (aR ⟨g,0,aS⟩) else if i=2 then v=aY (aR ⟨g,5,aS⟩) else if i=3 then v=af (ys.map (Value.int .u64)).toArray else if i=4 then v=aY (aR ⟨g,0,aS⟩) else if i=5 then v=aY (aR ⟨g,0,aS⟩) else if i=6 then v=aY (aR ⟨g,5,aS⟩) else if i=7 then v=af ((Gi ys).map (Value.int .u64)).toArray else if i=8 then v=ae false else if i=9 then v=ae false else if i=10 then v=aY (aR ⟨g,0,aS⟩) else if i=11 then v=ae (Kg (uF (Fz zs)) (vF (Fz zs)))/\L 11=true else if i=12 then v=ae (!(Kg (uF (Fz zs)) (vF (Fz zs)))) else if i=13 then v=ae (!(Kg (uF (Fz zs)) (vF (Fz zs)))) else True) ?hstab AM ?hop ?hdone _ _ ((λ(x0 x1 x2 x3 x4 x5 x6 x7 x8 x9 x10 x11 x12 x13:aX)=>λ(i:Nat)=>if i=0 then x0 else if i=1 then x1 else if i=2 then x2 else if i=3 then x3 else if i=4 then x4 else if i=5 then x5 else if i=6 then x6 else if i=7 then x7 else if i=8 then x8 else if i=9 then x9 else if i=10 then x10 else if i=11 then x11 else if i=12 then x12 else if i=13 then x13 else undef) _ _ _ _ _ _ _ _ _ _ _ _ _ _) _ AL ?ext ?start AL
   case start=>intro i hi h;exact absurd h Ef
   case ext=>exact EX0.o
   case hstab=>
    intro j L w w' i v _ _ _ h;by_cases hj:j=11
    {subst hj;simp at h |-;exact⟨h.1,by unfold CZ;simp[h.2]⟩};{simp only[if_neg hj] at h |-;exact h}
   case hop=>
    intro i o L t w' ho hLi hx hdep K hK;have hi:i<14:=(AR.1 ho).1;obtain rfl|rfl|rfl|rfl|rfl|rfl|rfl|rfl|rfl|rfl|rfl|rfl|rfl|rfl:i=0\/i=1\/i=2\/i=3\/i=4\/i=5\/i=6\/i=7\/i=8\/i=9\/i=10\/i=11\/i=12\/i=13:=AJ
    all_goals(simp at ho;subst ho)
    ·clear hdep;have hK':=hK w' (aY (aR ⟨g,0,aS⟩)) AL (REF.o 0 AK L w' hx) trivial;clear hK;rw[AP AN];go_simp;simpa[Ca] using hK'
    ·have d0:t 0=aY (aR ⟨g,0,aS⟩):=by simpa using hdep ⟨0,ag⟩ AL rfl
     clear hdep;have hK':=hK w' (aY (aR ⟨g,0,aS⟩)) AL (REF.o 1 AK L w' hx) trivial;clear hK;rw[AP AN];go_simp;simpa[Ca,d0] using hK'
    ·have d1:t 1=aY (aR ⟨g,0,aS⟩):=by simpa using hdep ⟨1,ag⟩ AL rfl
     clear hdep;have hK':=hK w' (aY (aR ⟨g,5,aS⟩)) AL (REF.o 2 AK L w' hx) trivial;clear hK;rw[AP AN];go_simp;simpa[Ca,d1] using hK'
    ·have d2:t 2=aY (aR ⟨g,5,aS⟩):=by simpa using hdep ⟨2,ag⟩ AL rfl
     clear hdep;have hK':=hK w' (af (ys.map (Value.int .u64)).toArray) AL (REF.o 3 AK L w' hx) trivial;have ex:=YY.o L w' hx;clear hK;rw[AP AN];refine Mk (ah 21) rfl g 5 ys (show t 2=_ from d2) ex ?_;go_simp;simpa[Ca,d2] using hK'
    ·clear hdep;have hK':=hK w' (aY (aR ⟨g,0,aS⟩)) AL (REF.o 4 AK L w' hx) trivial;clear hK;rw[AP AN];go_simp;simpa[Ca] using hK'
    ·have d4:t 4=aY (aR ⟨g,0,aS⟩):=by simpa using hdep ⟨4,ag⟩ AL rfl
     clear hdep;have hK':=hK w' (aY (aR ⟨g,0,aS⟩)) AL (REF.o 5 AK L w' hx) trivial;clear hK;rw[AP AN];go_simp;simpa[Ca,d4] using hK'
    ·have d5:t 5=aY (aR ⟨g,0,aS⟩):=by simpa using hdep ⟨5,ag⟩ AL rfl
     clear hdep;have hK':=hK w' (aY (aR ⟨g,5,aS⟩)) AL (REF.o 6 AK L w' hx) trivial;clear hK;rw[AP AN];go_simp;simpa[Ca,d5] using hK'
    ·have d6:t 6=aY (aR ⟨g,5,aS⟩):=by simpa using hdep ⟨6,ag⟩ AL rfl
     clear hdep;have A:=Ez g 5 ys w' (YY.o L w' hx);have hK':∀ ww,Below w'.heap.size w' ww->K _ ww:=λww b=>hK ww (af ((Gi ys).map (Value.int .u64)).toArray) AL (Fg.low 7 AK hx (λq=>HA.o _ _ b q) (λq=>HB.o _ _ b q) b) trivial
     clear hK;rw[AP AN];go_simp;refine A.mono ?_;rintro e w9 ⟨rfl,hb⟩;have hK2:=hK' w9 hb;clear hK' A hb;go_simp;simpa[Ca,d6] using hK2
    ·have d3:t 3=af (ys.map (Value.int .u64)).toArray:=by simpa using hdep ⟨3,ag⟩ AL rfl
     have d7:t 7=af ((Gi ys).map (Value.int .u64)).toArray:=by simpa using hdep ⟨7,ag⟩ AL rfl
     clear hdep;have hK':=hK w' (ae false) AL (REF.o 8 AK L w' hx) trivial;clear hK;rw[AP AN];go_simp;simp only[Id _ 9998 5 141 underlying141 ys (Gi ys) hyl hll,HQ.o,Result.andThen_ok];go_simp;simpa[Ca,d3,d7] using hK'
    ·have d8:t 8=ae false:=by simpa using hdep ⟨8,ag⟩ AL rfl
     clear hdep;have hK':=hK w' (ae false) AL (REF.o 9 AK L w' hx) trivial;clear hK;rw[AP AN];go_simp;simpa[Ca,d8] using hK'
    ·have d9:t 9=ae false:=by simpa using hdep ⟨9,.guard⟩ AL rfl
     clear hdep;have hK':=hK w' (aY (aR ⟨g,0,aS⟩)) AL (REF.o 10 AK L w' hx) trivial;clear hK;rw[AP (by simp[Region.wanted,yielded,d9])];go_simp;simpa[Ca,d9] using hK'
    ·have d10:t 10=aY (aR ⟨g,0,aS⟩):=by simpa using hdep ⟨10,ag⟩ AL rfl
     have d9:t 9=ae false:=by simpa using hdep ⟨9,.guard⟩ AL rfl
     clear hdep;have A:=QR g x ys z t0 w' (hx.2.1 hLi);rw[HEV.o] at A;have hK':∀ ww,(∃ xs,Cq xs/\ev xs=K4 zs/\Pt ww g xs ys z t0)->ET g w' ww->K _ ww:=λww hq hw=>hK ww (ae (Kg (uF (Fz zs)) (vF (Fz zs)))) (by simp[CZ]) ⟨hx.1.trans hw,λq=>absurd q (by rw[GO];decide),λ_=>hq⟩ trivial
     clear hK;rw[AP (by simp[Region.wanted,yielded,d9])];go_simp;refine A.mono ?_;rintro e w9 ⟨xs,hk,rfl,hv,hp,hw⟩;have hK2:=hK' w9 ⟨xs,hk,hv,hp⟩ hw;clear hK' A hk hv hp hw;go_simp;simpa[Ca,d9,d10] using hK2
    ·have d11:t 11=ae (Kg (uF (Fz zs)) (vF (Fz zs)))/\L 11=true:=by simpa using hdep ⟨11,ag⟩ AL rfl
     have d9:t 9=ae false:=by simpa using hdep ⟨9,.guard⟩ AL rfl
     clear hdep;have hK':=hK w' (ae (!(Kg (uF (Fz zs)) (vF (Fz zs))))) AL (REF.o 12 AK L w' hx) trivial;clear hK;rw[AP (by simp[Region.wanted,yielded,d9])];go_simp;simpa[Ca,d9,d11] using hK'
    ·have d9:t 9=ae false:=by simpa using hdep ⟨9,ag⟩ AL rfl
     have d12:t 12=ae (!(Kg (uF (Fz zs)) (vF (Fz zs)))):=by simpa using hdep ⟨12,ag⟩ AL rfl
     clear hdep;have hK':=hK w' (ae (!(Kg (uF (Fz zs)) (vF (Fz zs))))) AL (REF.o 13 AK L w' hx) trivial;clear hK;rw[AP AN];go_simp;simpa[Ca,d9,d12] using hK'
   case hdone=>
    intro L t w' hx hg;have d0:t 0=aY (aR ⟨g,0,aS⟩):=by simpa using hg 0 AK
    have d1:t 1=aY (aR ⟨g,0,aS⟩):=by simpa using hg 1 AK
    have d2:t 2=aY (aR ⟨g,5,aS⟩):=by simpa using hg 2 AK
    have d3:t 3=af (ys.map (Value.int .u64)).toArray:=by simpa using hg 3 AK
    have d4:t 4=aY (aR ⟨g,0,aS⟩):=by simpa using hg 4 AK
    have d5:t 5=aY (aR ⟨g,0,aS⟩):=by simpa using hg 5 AK
    have d6:t 6=aY (aR ⟨g,5,aS⟩):=by simpa using hg 6 AK
    have d7:t 7=af ((Gi ys).map (Value.int .u64)).toArray:=by simpa using hg 7 AK
    have d8:t 8=ae false:=by simpa using hg 8 AK
    have d9:t 9=ae false:=by simpa using hg 9 AK
    have d10:t 10=aY (aR ⟨g,0,aS⟩):=by simpa using hg 10 AK
    have d11:t 11=ae (Kg (uF (Fz zs)) (vF (Fz zs)))/\L 11=true:=by simpa using hg 11 AK
    have d12:t 12=ae (!(Kg (uF (Fz zs)) (vF (Fz zs)))):=by simpa using hg 12 AK
    have d13:t 13=ae (!(Kg (uF (Fz zs)) (vF (Fz zs)))):=by simpa using hg 13 AK
    clear hg;obtain⟨xs,hk,hv,hpt⟩:=hx.2.2 d11.2;have HS5:AO (Di w w' g xs ys z t0 [] []):=⟨hx.1,hlt,hpt,AL,List.Pairwise.nil,AL⟩
    have HKxs:AO (Cq xs/\ev xs=K4 zs):=⟨hk,hv⟩
    clear hx HS4 HA EX0 REF YY HQ HB hk hv hpt;dsimp only;rw[d0,d1,d2,d3,d4,d5,d6,d7,d8,d9,d10,d11.1,d12,d13];clear d0 d1 d2 d3 d4 d5 d6 d7 d8 d9 d10 d11 d12 d13;cases hr:Kg (uF (Fz zs)) (vF (Fz zs))
    ·have HDR:AO (Lo zs=false):=by
      show _=_
      unfold Lo;rw[hr];simp
     clear hr;go_wp2
     go_ret
     refine⟨xs,ys,z,t0,HS5.o.pt,HS5.o.wrh,by rw[HDR.o];rfl,λh=>?_⟩;rw[HDR.o] at h;cases h
    ·have HDR:AO (Lo zs=((JY zs%2 == 1) == Ts zs)):=by
      show _=_
      unfold Lo;rw[hr,Aj HYL.o,show(zs.length == 32)=true from by rw[HLN.o];rfl];simp
     clear hr;go_wp2_with fail;refine(Ff g 0 xs _ HS5.o.pt.ex).mono ?_;rintro e w6 ⟨rfl,b⟩;rw[HKxs.o.2];have HS6:AO (Di w w6 g xs ys z t0 [] []):=HS5.o.call b;have HXD:AO (JY zs=if((K4 zs%2 == 1) != Ts zs)=true then(0-K4 zs)%fp else K4 zs):=rfl;obtain⟨od,hod⟩:∃ od,od=Ts zs:=⟨_,rfl⟩
     obtain⟨o1,ho1⟩:∃ o1,o1=(K4 zs%2 == 1):=⟨_,rfl⟩
     rw[<-hod,<-ho1];have HOD:=CY <| hod
     have HXE:AO (JY zs=if(o1 != od)=true then(0-K4 zs)%fp else K4 zs):=by
      show _=_
      rw[HXD.o,<-hod,<-ho1]
     clear hod ho1 HXD;cases od
     ·cases o1
      ·have HKns:AO (Cq xs/\ev xs=JY zs):=⟨HKxs.o.1,by rw[HKxs.o.2,HXE.o];rfl⟩
       have HS8:=CY <| HS6.o
       clear HS6 HKxs;generalize hxn:xs=ns at *;clear hxn;go_wp2_with (first
        |(refine Dj HS8.o rfl (ah 49) (ah 47) rfl 10 AK Cw ns ys Cw t0 (Ll HS8.o.pt.x.1 HS8.o.pt.y.1 HS8.o.pt.z.1 El.1) ⟨HS8.o.pt.x,HS8.o.pt.y,El,HS8.o.pt.t⟩ rfl rfl El rfl ?_)
        |fail)
       intro wa Sa;have HSa:=CY <| Sa
       have EX0:AO (Fg w g 10 (λw1=>Pt w1 g ns ys Cw t0) (λw1=>∃ ts,Cq ts/\ev ts=ev ns*ev ys%fp/\Pt w1 g ns ys Cw ts) (λn=>(Array.replicate 11 false).getD n false) wa.drew):=⟨HSa.o.wrh.trans (ET.of_below Cf.drew),λ_=>⟨HSa.o.pt.row,HSa.o.pt.x,HSa.o.pt.y,HSa.o.pt.z,HSa.o.pt.t⟩,λq=>absurd q AL⟩
       have HA:AO (∀(w' ww:aV),Below w'.heap.size w' ww->Pt w' g ns ys Cw t0->Pt ww g ns ys Cw t0):=λw' ww b h=>h.below b h.row.lt
       have HB:AO (∀(w' ww:aV),Below w'.heap.size w' ww->(∃ ts,Cq ts/\ev ts=ev ns*ev ys%fp/\Pt w' g ns ys Cw ts)->(∃ ts,Cq ts/\ev ts=ev ns*ev ys%fp/\Pt ww g ns ys Cw ts)):=λw' ww b ⟨ts,h1,h2,h⟩=>⟨ts,h1,h2,h.below b h.row.lt⟩
       have REF:AO (∀ i,i≠10->∀(L:Nat->Bool) (w':aV),Fg w g 10 (λw1=>Pt w1 g ns ys Cw t0) (λw1=>∃ ts,Cq ts/\ev ts=ev ns*ev ys%fp/\Pt w1 g ns ys Cw ts) L w'->Fg w g 10 (λw1=>Pt w1 g ns ys Cw t0) (λw1=>∃ ts,Cq ts/\ev ts=ev ns*ev ys%fp/\Pt w1 g ns ys Cw ts) (CZ L i) w'):=λi hi L w' h=>Fg.ref i hi h
       have YY:AO (∀(L:Nat->Bool) (w':aV),Fg w g 10 (λw1=>Pt w1 g ns ys Cw t0) (λw1=>∃ ts,Cq ts/\ev ts=ev ns*ev ys%fp/\Pt w1 g ns ys Cw ts) L w'->Dx w' g 0 ns/\Dx w' g 5 ys):=λL w' h=>by
        cases hL:L 10
        {exact⟨(h.2.1 hL).ex,(h.2.1 hL).ey⟩};{obtain⟨_,_,_,q⟩:=h.2.2 hL;exact⟨q.ex,q.ey⟩}
       go_wp2;refine Ag AM ?_;refine DH (λ_ _ _=>True) (frame:=(λ(a b c d e f g h i j k l m n o p q r s u v w x y z A B C D E F G H I J K L M N O P Q R S T U V W X Y Z a0 a1 a2 a3 a4:aX)=>λ(t:Nat->aX)=>({ tmps:=List.toArray [a,b,c,d,e,f,g,h,i,j,k,l,m,n,o,p,q,r,s,u,v,w,x,y,z,A,B,C,D,E,F,G,H,I,J,K,L,M,N,O,P,Q,R,S,T,U,V,W,X,Y,t 0,t 1,t 2,t 3,t 4,t 5,t 6,t 7,t 8,t 9,Z,a0,a1,a2,a3,a4],defers:=[] }:Act)) _ _ _ _ _ _ _ _ _ _ _ _ _ _ _ _ _ _ _ _ _ _ _ _ _ _ _ _ _ _ _ _ _ _ _ _ _ _ _ _ _ _ _ _ _ _ _ _ _ _ _ _ _ _ _ _)
        (Ext:=λL w'=>Fg w g 10 (λw1=>Pt w1 g ns ys Cw t0) (λw1=>∃ ts,Cq ts/\ev ts=ev ns*ev ys%fp/\Pt w1 g ns ys Cw ts) L w') (Good:=λi L _ v=>if i=0 then v=aY (aR ⟨g,0,aS⟩) else if i=1 then v=aY (aR ⟨g,0,aS⟩) else if i=2 then v=aY (aR ⟨g,0,aS⟩) else if i=3 then v=aY (aR ⟨g,0,aS⟩) else if i=4 then v=aY (aR ⟨g,0,aS⟩) else if i=5 then v=aY (aR ⟨g,0,aS⟩) else if i=6 then v=aY (aR ⟨g,5,aS⟩) else if i=7 then TG (ev ns) (ev ys) (v) else if i=8 then v=aY (aR ⟨g,0,aS⟩) else if i=9 then v=aY (aR ⟨g,15,aS⟩) else if i=10 then v=undef/\L 10=true else True) ?hstab AM ?hop ?hdone _ _ ((λ(x0 x1 x2 x3 x4 x5 x6 x7 x8 x9:aX)=>λ(i:Nat)=>if i=0 then x0 else if i=1 then x1 else if i=2 then x2 else if i=3 then x3 else if i=4 then x4 else if i=5 then x5 else if i=6 then x6 else if i=7 then x7 else if i=8 then x8 else if i=9 then x9 else undef) _ _ _ _ _ _ _ _ _ _) _ AL ?ext ?start AL
       case start=>intro i hi h;exact absurd h Ef
       case ext=>exact EX0.o
       case hstab=>
        intro j L w w' i v _ _ _ h;by_cases hj:j=10
        {subst hj;simp at h |-;exact⟨h.1,by unfold CZ;simp[h.2]⟩};{simp only[if_neg hj] at h |-;exact h}
       case hop=>
        intro i o L t w' ho hLi hx hdep K hK;have hi:i<11:=(AR.1 ho).1;obtain rfl|rfl|rfl|rfl|rfl|rfl|rfl|rfl|rfl|rfl|rfl:i=0\/i=1\/i=2\/i=3\/i=4\/i=5\/i=6\/i=7\/i=8\/i=9\/i=10:=AJ
        all_goals(simp at ho;subst ho)
        all_goals try(have hK':=hK w' _ rfl (REF.o _ AK L w' hx) trivial;clear hK;simp[Region.binds] at hdep;rw[AP AN];go_simp;simpa[Ca,hdep] using hK';done)
        ·have d3:t 3=aY (aR ⟨g,0,aS⟩):=by simpa using hdep ⟨3,ag⟩ AL rfl
         have d6:t 6=aY (aR ⟨g,5,aS⟩):=by simpa using hdep ⟨6,ag⟩ AL rfl
         have A:=Cr g 0 g 5 ns ys w' (YY.o L w' hx).1 (YY.o L w' hx).2;have hK':∀ ww ts,Cq ts->ev ts=ev ns*ev ys%fp->Below w'.heap.size w' ww->K _ ww:=λww ts h1 h2 b=>hK ww (af (ts.map (Value.int .u64)).toArray) (by simp;exact⟨ts,h1,h2,rfl⟩) (Fg.low 7 AK hx (λq=>HA.o _ _ b q) (λq=>HB.o _ _ b q) b) trivial
         rw[AP AN];go_simp;refine A.mono ?_;rintro e w9 ⟨ts,h1,h2,rfl,hb⟩;have hK2:=hK' w9 ts h1 h2 hb;go_simp;simpa[Ca,d3,d6] using hK2
        ·have d9:t 9=aY (aR ⟨g,15,aS⟩):=by simpa using hdep ⟨9,ag⟩ AL rfl
         have d7:TG (ev ns) (ev ys) (t 7):=by simpa using hdep ⟨7,ag⟩ AL rfl
         obtain⟨ts,h1,h2,h3⟩:=d7;rw[AP AN];refine Ji (hx.2.1 hLi) (ah 59) (ah 57) rfl ts (show t 9=_ from d9) (show t 7=_ from h3) h1 ?_;intro ww hp hw;have hK':=hK ww undef (by simp[CZ]) ⟨hx.1.trans hw.wrH,λq=>absurd q (by rw[GO];decide),λ_=>⟨ts,h1,h2,hp⟩⟩ trivial;go_simp;simpa[Ca,d9,h3] using hK'
       case hdone=>
        intro L t w' hx hg;have d0:t 0=aY (aR ⟨g,0,aS⟩):=by simpa using hg 0 AK
        have d1:t 1=aY (aR ⟨g,0,aS⟩):=by simpa using hg 1 AK
        have d2:t 2=aY (aR ⟨g,0,aS⟩):=by simpa using hg 2 AK
        have d3:t 3=aY (aR ⟨g,0,aS⟩):=by simpa using hg 3 AK
        have d4:t 4=aY (aR ⟨g,0,aS⟩):=by simpa using hg 4 AK
        have d5:t 5=aY (aR ⟨g,0,aS⟩):=by simpa using hg 5 AK
        have d6:t 6=aY (aR ⟨g,5,aS⟩):=by simpa using hg 6 AK
        have d7:TG (ev ns) (ev ys) (t 7):=by simpa using hg 7 AK
        have d8:t 8=aY (aR ⟨g,0,aS⟩):=by simpa using hg 8 AK
        have d9:t 9=aY (aR ⟨g,15,aS⟩):=by simpa using hg 9 AK
        have d10:t 10=undef/\L 10=true:=by simpa using hg 10 AK
        obtain⟨ts,hk,hv,hpt⟩:=hx.2.2 d10.2;obtain⟨ts',_,_,e7⟩:=d7;have HSb:AO (Di w w' g ns ys Cw ts [] []):=⟨hx.1,hlt,hpt,AL,List.Pairwise.nil,AL⟩
        have HKts:AO (Cq ts/\ev ts=JY zs*Fz zs%fp):=⟨hk,by rw[hv,HKns.o.2,HEV.o]⟩
        dsimp only;rw[d0,d1,d2,d3,d4,d5,d6,e7,d8,d9];go_wp2_with fail;refine(Ff g 0 ns _ HSb.o.pt.ex).mono ?_;rintro e wc ⟨rfl,b⟩;rw[HKns.o.2];have HSc:=CY <| HSb.o.call b
        obtain⟨o2,ho2⟩:∃ o2,o2=(JY zs%2 == 1):=⟨_,rfl⟩
        rw[<-ho2];have HDD:AO (Lo zs=(o2 == false)):=by
         show _=_
         rw[HDR.o,<-ho2,<-HOD.o]
        clear ho2;go_wp2
        go_ret
        exact⟨ns,ys,Cw,ts,HSc.o.pt,HSc.o.wrh,by rw[HDD.o];cases o2<;>rfl,λ_=>⟨HKns.o.2,HEV.o,AK,HKts.o.2⟩⟩
      ·go_wp2_with fail;refine(Ha g 0 xs _ HS6.o.pt.ex).mono ?_;rintro e w7 ⟨ns,hk,hv,rfl,b⟩;have HKns:AO (Cq ns/\ev ns=JY zs):=⟨hk,by rw[hv,HKxs.o.2,HXE.o];rfl⟩
       have HS7:=CY <| HS6.o.call b
       clear hk hv b HS6;go_wp2_with (first
        |(refine Dj HS7.o rfl (ah 45) (ah 43) rfl 0 AK ns ns ys z t0 (Lk HS7.o.pt.x.1 HKns.o.1.1) ⟨HKns.o.1,HS7.o.pt.y,HS7.o.pt.z,HS7.o.pt.t⟩ rfl rfl HKns.o.1 rfl ?_)
        |fail)
       intro w8 S8;have HS8:=CY <| S8
       clear S8 HS7;go_wp2_with (first
        |(refine Dj HS8.o rfl (ah 49) (ah 47) rfl 10 AK Cw ns ys Cw t0 (Ll HS8.o.pt.x.1 HS8.o.pt.y.1 HS8.o.pt.z.1 El.1) ⟨HS8.o.pt.x,HS8.o.pt.y,El,HS8.o.pt.t⟩ rfl rfl El rfl ?_)
        |fail)
       intro wa Sa;have HSa:=CY <| Sa
       have EX0:AO (Fg w g 10 (λw1=>Pt w1 g ns ys Cw t0) (λw1=>∃ ts,Cq ts/\ev ts=ev ns*ev ys%fp/\Pt w1 g ns ys Cw ts) (λn=>(Array.replicate 11 false).getD n false) wa.drew):=⟨HSa.o.wrh.trans (ET.of_below Cf.drew),λ_=>⟨HSa.o.pt.row,HSa.o.pt.x,HSa.o.pt.y,HSa.o.pt.z,HSa.o.pt.t⟩,λq=>absurd q AL⟩
       have HA:AO (∀(w' ww:aV),Below w'.heap.size w' ww->Pt w' g ns ys Cw t0->Pt ww g ns ys Cw t0):=λw' ww b h=>h.below b h.row.lt
       have HB:AO (∀(w' ww:aV),Below w'.heap.size w' ww->(∃ ts,Cq ts/\ev ts=ev ns*ev ys%fp/\Pt w' g ns ys Cw ts)->(∃ ts,Cq ts/\ev ts=ev ns*ev ys%fp/\Pt ww g ns ys Cw ts)):=λw' ww b ⟨ts,h1,h2,h⟩=>⟨ts,h1,h2,h.below b h.row.lt⟩
       have REF:AO (∀ i,i≠10->∀(L:Nat->Bool) (w':aV),Fg w g 10 (λw1=>Pt w1 g ns ys Cw t0) (λw1=>∃ ts,Cq ts/\ev ts=ev ns*ev ys%fp/\Pt w1 g ns ys Cw ts) L w'->Fg w g 10 (λw1=>Pt w1 g ns ys Cw t0) (λw1=>∃ ts,Cq ts/\ev ts=ev ns*ev ys%fp/\Pt w1 g ns ys Cw ts) (CZ L i) w'):=λi hi L w' h=>Fg.ref i hi h
       have YY:AO (∀(L:Nat->Bool) (w':aV),Fg w g 10 (λw1=>Pt w1 g ns ys Cw t0) (λw1=>∃ ts,Cq ts/\ev ts=ev ns*ev ys%fp/\Pt w1 g ns ys Cw ts) L w'->Dx w' g 0 ns/\Dx w' g 5 ys):=λL w' h=>by
        cases hL:L 10
        {exact⟨(h.2.1 hL).ex,(h.2.1 hL).ey⟩};{obtain⟨_,_,_,q⟩:=h.2.2 hL;exact⟨q.ex,q.ey⟩}
       go_wp2;refine Ag AM ?_;refine DH (λ_ _ _=>True) (frame:=(λ(a b c d e f g h i j k l m n o p q r s u v w x y z A B C D E F G H I J K L M N O P Q R S T U V W X Y Z a0 a1 a2 a3 a4:aX)=>λ(t:Nat->aX)=>({ tmps:=List.toArray [a,b,c,d,e,f,g,h,i,j,k,l,m,n,o,p,q,r,s,u,v,w,x,y,z,A,B,C,D,E,F,G,H,I,J,K,L,M,N,O,P,Q,R,S,T,U,V,W,X,Y,t 0,t 1,t 2,t 3,t 4,t 5,t 6,t 7,t 8,t 9,Z,a0,a1,a2,a3,a4],defers:=[] }:Act)) _ _ _ _ _ _ _ _ _ _ _ _ _ _ _ _ _ _ _ _ _ _ _ _ _ _ _ _ _ _ _ _ _ _ _ _ _ _ _ _ _ _ _ _ _ _ _ _ _ _ _ _ _ _ _ _)
        (Ext:=λL w'=>Fg w g 10 (λw1=>Pt w1 g ns ys Cw t0) (λw1=>∃ ts,Cq ts/\ev ts=ev ns*ev ys%fp/\Pt w1 g ns ys Cw ts) L w') (Good:=λi L _ v=>if i=0 then v=aY (aR ⟨g,0,aS⟩) else if i=1 then v=aY (aR ⟨g,0,aS⟩) else if i=2 then v=aY (aR ⟨g,0,aS⟩) else if i=3 then v=aY (aR ⟨g,0,aS⟩) else if i=4 then v=aY (aR ⟨g,0,aS⟩) else if i=5 then v=aY (aR ⟨g,0,aS⟩) else if i=6 then v=aY (aR ⟨g,5,aS⟩) else if i=7 then TG (ev ns) (ev ys) (v) else if i=8 then v=aY (aR ⟨g,0,aS⟩) else if i=9 then v=aY (aR ⟨g,15,aS⟩) else if i=10 then v=undef/\L 10=true else True) ?hstab AM ?hop ?hdone _ _ ((λ(x0 x1 x2 x3 x4 x5 x6 x7 x8 x9:aX)=>λ(i:Nat)=>if i=0 then x0 else if i=1 then x1 else if i=2 then x2 else if i=3 then x3 else if i=4 then x4 else if i=5 then x5 else if i=6 then x6 else if i=7 then x7 else if i=8 then x8 else if i=9 then x9 else undef) _ _ _ _ _ _ _ _ _ _) _ AL ?ext ?start AL
       case start=>intro i hi h;exact absurd h Ef
       case ext=>exact EX0.o
       case hstab=>
        intro j L w w' i v _ _ _ h;by_cases hj:j=10
        {subst hj;simp at h |-;exact⟨h.1,by unfold CZ;simp[h.2]⟩};{simp only[if_neg hj] at h |-;exact h}
       case hop=>
        intro i o L t w' ho hLi hx hdep K hK;have hi:i<11:=(AR.1 ho).1;obtain rfl|rfl|rfl|rfl|rfl|rfl|rfl|rfl|rfl|rfl|rfl:i=0\/i=1\/i=2\/i=3\/i=4\/i=5\/i=6\/i=7\/i=8\/i=9\/i=10:=AJ
        all_goals(simp at ho;subst ho)
        all_goals try(have hK':=hK w' _ rfl (REF.o _ AK L w' hx) trivial;clear hK;simp[Region.binds] at hdep;rw[AP AN];go_simp;simpa[Ca,hdep] using hK';done)
        ·have d3:t 3=aY (aR ⟨g,0,aS⟩):=by simpa using hdep ⟨3,ag⟩ AL rfl
         have d6:t 6=aY (aR ⟨g,5,aS⟩):=by simpa using hdep ⟨6,ag⟩ AL rfl
         have A:=Cr g 0 g 5 ns ys w' (YY.o L w' hx).1 (YY.o L w' hx).2;have hK':∀ ww ts,Cq ts->ev ts=ev ns*ev ys%fp->Below w'.heap.size w' ww->K _ ww:=λww ts h1 h2 b=>hK ww (af (ts.map (Value.int .u64)).toArray) (by simp;exact⟨ts,h1,h2,rfl⟩) (Fg.low 7 AK hx (λq=>HA.o _ _ b q) (λq=>HB.o _ _ b q) b) trivial
         rw[AP AN];go_simp;refine A.mono ?_;rintro e w9 ⟨ts,h1,h2,rfl,hb⟩;have hK2:=hK' w9 ts h1 h2 hb;go_simp;simpa[Ca,d3,d6] using hK2
        ·have d9:t 9=aY (aR ⟨g,15,aS⟩):=by simpa using hdep ⟨9,ag⟩ AL rfl
         have d7:TG (ev ns) (ev ys) (t 7):=by simpa using hdep ⟨7,ag⟩ AL rfl
         obtain⟨ts,h1,h2,h3⟩:=d7;rw[AP AN];refine Ji (hx.2.1 hLi) (ah 59) (ah 57) rfl ts (show t 9=_ from d9) (show t 7=_ from h3) h1 ?_;intro ww hp hw;have hK':=hK ww undef (by simp[CZ]) ⟨hx.1.trans hw.wrH,λq=>absurd q (by rw[GO];decide),λ_=>⟨ts,h1,h2,hp⟩⟩ trivial;go_simp;simpa[Ca,d9,h3] using hK'
       case hdone=>
        intro L t w' hx hg;have d0:t 0=aY (aR ⟨g,0,aS⟩):=by simpa using hg 0 AK
        have d1:t 1=aY (aR ⟨g,0,aS⟩):=by simpa using hg 1 AK
        have d2:t 2=aY (aR ⟨g,0,aS⟩):=by simpa using hg 2 AK
        have d3:t 3=aY (aR ⟨g,0,aS⟩):=by simpa using hg 3 AK
        have d4:t 4=aY (aR ⟨g,0,aS⟩):=by simpa using hg 4 AK
        have d5:t 5=aY (aR ⟨g,0,aS⟩):=by simpa using hg 5 AK
        have d6:t 6=aY (aR ⟨g,5,aS⟩):=by simpa using hg 6 AK
        have d7:TG (ev ns) (ev ys) (t 7):=by simpa using hg 7 AK
        have d8:t 8=aY (aR ⟨g,0,aS⟩):=by simpa using hg 8 AK
        have d9:t 9=aY (aR ⟨g,15,aS⟩):=by simpa using hg 9 AK
        have d10:t 10=undef/\L 10=true:=by simpa using hg 10 AK
        obtain⟨ts,hk,hv,hpt⟩:=hx.2.2 d10.2;obtain⟨ts',_,_,e7⟩:=d7;have HSb:AO (Di w w' g ns ys Cw ts [] []):=⟨hx.1,hlt,hpt,AL,List.Pairwise.nil,AL⟩
        have HKts:AO (Cq ts/\ev ts=JY zs*Fz zs%fp):=⟨hk,by rw[hv,HKns.o.2,HEV.o]⟩
        dsimp only;rw[d0,d1,d2,d3,d4,d5,d6,e7,d8,d9];go_wp2_with fail;refine(Ff g 0 ns _ HSb.o.pt.ex).mono ?_;rintro e wc ⟨rfl,b⟩;rw[HKns.o.2];have HSc:=CY <| HSb.o.call b
        obtain⟨o2,ho2⟩:∃ o2,o2=(JY zs%2 == 1):=⟨_,rfl⟩
        rw[<-ho2];have HDD:AO (Lo zs=(o2 == false)):=by
         show _=_
         rw[HDR.o,<-ho2,<-HOD.o]
        clear ho2;go_wp2
        go_ret
        exact⟨ns,ys,Cw,ts,HSc.o.pt,HSc.o.wrh,by rw[HDD.o];cases o2<;>rfl,λ_=>⟨HKns.o.2,HEV.o,AK,HKts.o.2⟩⟩
     ·cases o1
      ·go_wp2_with fail;refine(Ha g 0 xs _ HS6.o.pt.ex).mono ?_;rintro e w7 ⟨ns,hk,hv,rfl,b⟩;have HKns:AO (Cq ns/\ev ns=JY zs):=⟨hk,by rw[hv,HKxs.o.2,HXE.o];rfl⟩
       have HS7:=CY <| HS6.o.call b
       clear hk hv b HS6;go_wp2_with (first
        |(refine Dj HS7.o rfl (ah 45) (ah 43) rfl 0 AK ns ns ys z t0 (Lk HS7.o.pt.x.1 HKns.o.1.1) ⟨HKns.o.1,HS7.o.pt.y,HS7.o.pt.z,HS7.o.pt.t⟩ rfl rfl HKns.o.1 rfl ?_)
        |fail)
       intro w8 S8;have HS8:=CY <| S8
       clear S8 HS7;go_wp2_with (first
        |(refine Dj HS8.o rfl (ah 49) (ah 47) rfl 10 AK Cw ns ys Cw t0 (Ll HS8.o.pt.x.1 HS8.o.pt.y.1 HS8.o.pt.z.1 El.1) ⟨HS8.o.pt.x,HS8.o.pt.y,El,HS8.o.pt.t⟩ rfl rfl El rfl ?_)
        |fail)
       intro wa Sa;have HSa:=CY <| Sa
       have EX0:AO (Fg w g 10 (λw1=>Pt w1 g ns ys Cw t0) (λw1=>∃ ts,Cq ts/\ev ts=ev ns*ev ys%fp/\Pt w1 g ns ys Cw ts) (λn=>(Array.replicate 11 false).getD n false) wa.drew):=⟨HSa.o.wrh.trans (ET.of_below Cf.drew),λ_=>⟨HSa.o.pt.row,HSa.o.pt.x,HSa.o.pt.y,HSa.o.pt.z,HSa.o.pt.t⟩,λq=>absurd q AL⟩
       have HA:AO (∀(w' ww:aV),Below w'.heap.size w' ww->Pt w' g ns ys Cw t0->Pt ww g ns ys Cw t0):=λw' ww b h=>h.below b h.row.lt
       have HB:AO (∀(w' ww:aV),Below w'.heap.size w' ww->(∃ ts,Cq ts/\ev ts=ev ns*ev ys%fp/\Pt w' g ns ys Cw ts)->(∃ ts,Cq ts/\ev ts=ev ns*ev ys%fp/\Pt ww g ns ys Cw ts)):=λw' ww b ⟨ts,h1,h2,h⟩=>⟨ts,h1,h2,h.below b h.row.lt⟩
       have REF:AO (∀ i,i≠10->∀(L:Nat->Bool) (w':aV),Fg w g 10 (λw1=>Pt w1 g ns ys Cw t0) (λw1=>∃ ts,Cq ts/\ev ts=ev ns*ev ys%fp/\Pt w1 g ns ys Cw ts) L w'->Fg w g 10 (λw1=>Pt w1 g ns ys Cw t0) (λw1=>∃ ts,Cq ts/\ev ts=ev ns*ev ys%fp/\Pt w1 g ns ys Cw ts) (CZ L i) w'):=λi hi L w' h=>Fg.ref i hi h
       have YY:AO (∀(L:Nat->Bool) (w':aV),Fg w g 10 (λw1=>Pt w1 g ns ys Cw t0) (λw1=>∃ ts,Cq ts/\ev ts=ev ns*ev ys%fp/\Pt w1 g ns ys Cw ts) L w'->Dx w' g 0 ns/\Dx w' g 5 ys):=λL w' h=>by
        cases hL:L 10
        {exact⟨(h.2.1 hL).ex,(h.2.1 hL).ey⟩};{obtain⟨_,_,_,q⟩:=h.2.2 hL;exact⟨q.ex,q.ey⟩}
       go_wp2;refine Ag AM ?_;refine DH (λ_ _ _=>True) (frame:=(λ(a b c d e f g h i j k l m n o p q r s u v w x y z A B C D E F G H I J K L M N O P Q R S T U V W X Y Z a0 a1 a2 a3 a4:aX)=>λ(t:Nat->aX)=>({ tmps:=List.toArray [a,b,c,d,e,f,g,h,i,j,k,l,m,n,o,p,q,r,s,u,v,w,x,y,z,A,B,C,D,E,F,G,H,I,J,K,L,M,N,O,P,Q,R,S,T,U,V,W,X,Y,t 0,t 1,t 2,t 3,t 4,t 5,t 6,t 7,t 8,t 9,Z,a0,a1,a2,a3,a4],defers:=[] }:Act)) _ _ _ _ _ _ _ _ _ _ _ _ _ _ _ _ _ _ _ _ _ _ _ _ _ _ _ _ _ _ _ _ _ _ _ _ _ _ _ _ _ _ _ _ _ _ _ _ _ _ _ _ _ _ _ _)
        (Ext:=λL w'=>Fg w g 10 (λw1=>Pt w1 g ns ys Cw t0) (λw1=>∃ ts,Cq ts/\ev ts=ev ns*ev ys%fp/\Pt w1 g ns ys Cw ts) L w') (Good:=λi L _ v=>if i=0 then v=aY (aR ⟨g,0,aS⟩) else if i=1 then v=aY (aR ⟨g,0,aS⟩) else if i=2 then v=aY (aR ⟨g,0,aS⟩) else if i=3 then v=aY (aR ⟨g,0,aS⟩) else if i=4 then v=aY (aR ⟨g,0,aS⟩) else if i=5 then v=aY (aR ⟨g,0,aS⟩) else if i=6 then v=aY (aR ⟨g,5,aS⟩) else if i=7 then TG (ev ns) (ev ys) (v) else if i=8 then v=aY (aR ⟨g,0,aS⟩) else if i=9 then v=aY (aR ⟨g,15,aS⟩) else if i=10 then v=undef/\L 10=true else True) ?hstab AM ?hop ?hdone _ _ ((λ(x0 x1 x2 x3 x4 x5 x6 x7 x8 x9:aX)=>λ(i:Nat)=>if i=0 then x0 else if i=1 then x1 else if i=2 then x2 else if i=3 then x3 else if i=4 then x4 else if i=5 then x5 else if i=6 then x6 else if i=7 then x7 else if i=8 then x8 else if i=9 then x9 else undef) _ _ _ _ _ _ _ _ _ _) _ AL ?ext ?start AL
       case start=>intro i hi h;exact absurd h Ef
       case ext=>exact EX0.o
       case hstab=>
        intro j L w w' i v _ _ _ h;by_cases hj:j=10
        {subst hj;simp at h |-;exact⟨h.1,by unfold CZ;simp[h.2]⟩};{simp only[if_neg hj] at h |-;exact h}
       case hop=>
        intro i o L t w' ho hLi hx hdep K hK;have hi:i<11:=(AR.1 ho).1;obtain rfl|rfl|rfl|rfl|rfl|rfl|rfl|rfl|rfl|rfl|rfl:i=0\/i=1\/i=2\/i=3\/i=4\/i=5\/i=6\/i=7\/i=8\/i=9\/i=10:=AJ
        all_goals(simp at ho;subst ho)
        all_goals try(have hK':=hK w' _ rfl (REF.o _ AK L w' hx) trivial;clear hK;simp[Region.binds] at hdep;rw[AP AN];go_simp;simpa[Ca,hdep] using hK';done)
        ·have d3:t 3=aY (aR ⟨g,0,aS⟩):=by simpa using hdep ⟨3,ag⟩ AL rfl
         have d6:t 6=aY (aR ⟨g,5,aS⟩):=by simpa using hdep ⟨6,ag⟩ AL rfl
         have A:=Cr g 0 g 5 ns ys w' (YY.o L w' hx).1 (YY.o L w' hx).2;have hK':∀ ww ts,Cq ts->ev ts=ev ns*ev ys%fp->Below w'.heap.size w' ww->K _ ww:=λww ts h1 h2 b=>hK ww (af (ts.map (Value.int .u64)).toArray) (by simp;exact⟨ts,h1,h2,rfl⟩) (Fg.low 7 AK hx (λq=>HA.o _ _ b q) (λq=>HB.o _ _ b q) b) trivial
         rw[AP AN];go_simp;refine A.mono ?_;rintro e w9 ⟨ts,h1,h2,rfl,hb⟩;have hK2:=hK' w9 ts h1 h2 hb;go_simp;simpa[Ca,d3,d6] using hK2
        ·have d9:t 9=aY (aR ⟨g,15,aS⟩):=by simpa using hdep ⟨9,ag⟩ AL rfl
         have d7:TG (ev ns) (ev ys) (t 7):=by simpa using hdep ⟨7,ag⟩ AL rfl
         obtain⟨ts,h1,h2,h3⟩:=d7;rw[AP AN];refine Ji (hx.2.1 hLi) (ah 59) (ah 57) rfl ts (show t 9=_ from d9) (show t 7=_ from h3) h1 ?_;intro ww hp hw;have hK':=hK ww undef (by simp[CZ]) ⟨hx.1.trans hw.wrH,λq=>absurd q (by rw[GO];decide),λ_=>⟨ts,h1,h2,hp⟩⟩ trivial;go_simp;simpa[Ca,d9,h3] using hK'
       case hdone=>
        intro L t w' hx hg;have d0:t 0=aY (aR ⟨g,0,aS⟩):=by simpa using hg 0 AK
        have d1:t 1=aY (aR ⟨g,0,aS⟩):=by simpa using hg 1 AK
        have d2:t 2=aY (aR ⟨g,0,aS⟩):=by simpa using hg 2 AK
        have d3:t 3=aY (aR ⟨g,0,aS⟩):=by simpa using hg 3 AK
        have d4:t 4=aY (aR ⟨g,0,aS⟩):=by simpa using hg 4 AK
        have d5:t 5=aY (aR ⟨g,0,aS⟩):=by simpa using hg 5 AK
        have d6:t 6=aY (aR ⟨g,5,aS⟩):=by simpa using hg 6 AK
        have d7:TG (ev ns) (ev ys) (t 7):=by simpa using hg 7 AK
        have d8:t 8=aY (aR ⟨g,0,aS⟩):=by simpa using hg 8 AK
        have d9:t 9=aY (aR ⟨g,15,aS⟩):=by simpa using hg 9 AK
        have d10:t 10=undef/\L 10=true:=by simpa using hg 10 AK
        obtain⟨ts,hk,hv,hpt⟩:=hx.2.2 d10.2;obtain⟨ts',_,_,e7⟩:=d7;have HSb:AO (Di w w' g ns ys Cw ts [] []):=⟨hx.1,hlt,hpt,AL,List.Pairwise.nil,AL⟩
        have HKts:AO (Cq ts/\ev ts=JY zs*Fz zs%fp):=⟨hk,by rw[hv,HKns.o.2,HEV.o]⟩
        dsimp only;rw[d0,d1,d2,d3,d4,d5,d6,e7,d8,d9];go_wp2_with fail;refine(Ff g 0 ns _ HSb.o.pt.ex).mono ?_;rintro e wc ⟨rfl,b⟩;rw[HKns.o.2];have HSc:=CY <| HSb.o.call b
        obtain⟨o2,ho2⟩:∃ o2,o2=(JY zs%2 == 1):=⟨_,rfl⟩
        rw[<-ho2];have HDD:AO (Lo zs=(o2 == true)):=by
         show _=_
         rw[HDR.o,<-ho2,<-HOD.o]
        clear ho2;go_wp2
        go_ret
        exact⟨ns,ys,Cw,ts,HSc.o.pt,HSc.o.wrh,by rw[HDD.o];cases o2<;>rfl,λ_=>⟨HKns.o.2,HEV.o,AK,HKts.o.2⟩⟩
      ·have HKns:AO (Cq xs/\ev xs=JY zs):=⟨HKxs.o.1,by rw[HKxs.o.2,HXE.o];rfl⟩
       have HS8:=CY <| HS6.o
       clear HS6 HKxs;generalize hxn:xs=ns at *;clear hxn;go_wp2_with (first
        |(refine Dj HS8.o rfl (ah 49) (ah 47) rfl 10 AK Cw ns ys Cw t0 (Ll HS8.o.pt.x.1 HS8.o.pt.y.1 HS8.o.pt.z.1 El.1) ⟨HS8.o.pt.x,HS8.o.pt.y,El,HS8.o.pt.t⟩ rfl rfl El rfl ?_)
        |fail)
       intro wa Sa;have HSa:=CY <| Sa
       have EX0:AO (Fg w g 10 (λw1=>Pt w1 g ns ys Cw t0) (λw1=>∃ ts,Cq ts/\ev ts=ev ns*ev ys%fp/\Pt w1 g ns ys Cw ts) (λn=>(Array.replicate 11 false).getD n false) wa.drew):=⟨HSa.o.wrh.trans (ET.of_below Cf.drew),λ_=>⟨HSa.o.pt.row,HSa.o.pt.x,HSa.o.pt.y,HSa.o.pt.z,HSa.o.pt.t⟩,λq=>absurd q AL⟩
       have HA:AO (∀(w' ww:aV),Below w'.heap.size w' ww->Pt w' g ns ys Cw t0->Pt ww g ns ys Cw t0):=λw' ww b h=>h.below b h.row.lt
       have HB:AO (∀(w' ww:aV),Below w'.heap.size w' ww->(∃ ts,Cq ts/\ev ts=ev ns*ev ys%fp/\Pt w' g ns ys Cw ts)->(∃ ts,Cq ts/\ev ts=ev ns*ev ys%fp/\Pt ww g ns ys Cw ts)):=λw' ww b ⟨ts,h1,h2,h⟩=>⟨ts,h1,h2,h.below b h.row.lt⟩
       have REF:AO (∀ i,i≠10->∀(L:Nat->Bool) (w':aV),Fg w g 10 (λw1=>Pt w1 g ns ys Cw t0) (λw1=>∃ ts,Cq ts/\ev ts=ev ns*ev ys%fp/\Pt w1 g ns ys Cw ts) L w'->Fg w g 10 (λw1=>Pt w1 g ns ys Cw t0) (λw1=>∃ ts,Cq ts/\ev ts=ev ns*ev ys%fp/\Pt w1 g ns ys Cw ts) (CZ L i) w'):=λi hi L w' h=>Fg.ref i hi h
       have YY:AO (∀(L:Nat->Bool) (w':aV),Fg w g 10 (λw1=>Pt w1 g ns ys Cw t0) (λw1=>∃ ts,Cq ts/\ev ts=ev ns*ev ys%fp/\Pt w1 g ns ys Cw ts) L w'->Dx w' g 0 ns/\Dx w' g 5 ys):=λL w' h=>by
        cases hL:L 10
        {exact⟨(h.2.1 hL).ex,(h.2.1 hL).ey⟩};{obtain⟨_,_,_,q⟩:=h.2.2 hL;exact⟨q.ex,q.ey⟩}
       go_wp2;refine Ag AM ?_;refine DH (λ_ _ _=>True) (frame:=(λ(a b c d e f g h i j k l m n o p q r s u v w x y z A B C D E F G H I J K L M N O P Q R S T U V W X Y Z a0 a1 a2 a3 a4:aX)=>λ(t:Nat->aX)=>({ tmps:=List.toArray [a,b,c,d,e,f,g,h,i,j,k,l,m,n,o,p,q,r,s,u,v,w,x,y,z,A,B,C,D,E,F,G,H,I,J,K,L,M,N,O,P,Q,R,S,T,U,V,W,X,Y,t 0,t 1,t 2,t 3,t 4,t 5,t 6,t 7,t 8,t 9,Z,a0,a1,a2,a3,a4],defers:=[] }:Act)) _ _ _ _ _ _ _ _ _ _ _ _ _ _ _ _ _ _ _ _ _ _ _ _ _ _ _ _ _ _ _ _ _ _ _ _ _ _ _ _ _ _ _ _ _ _ _ _ _ _ _ _ _ _ _ _)
        (Ext:=λL w'=>Fg w g 10 (λw1=>Pt w1 g ns ys Cw t0) (λw1=>∃ ts,Cq ts/\ev ts=ev ns*ev ys%fp/\Pt w1 g ns ys Cw ts) L w') (Good:=λi L _ v=>if i=0 then v=aY (aR ⟨g,0,aS⟩) else if i=1 then v=aY (aR ⟨g,0,aS⟩) else if i=2 then v=aY (aR ⟨g,0,aS⟩) else if i=3 then v=aY (aR ⟨g,0,aS⟩) else if i=4 then v=aY (aR ⟨g,0,aS⟩) else if i=5 then v=aY (aR ⟨g,0,aS⟩) else if i=6 then v=aY (aR ⟨g,5,aS⟩) else if i=7 then TG (ev ns) (ev ys) (v) else if i=8 then v=aY (aR ⟨g,0,aS⟩) else if i=9 then v=aY (aR ⟨g,15,aS⟩) else if i=10 then v=undef/\L 10=true else True) ?hstab AM ?hop ?hdone _ _ ((λ(x0 x1 x2 x3 x4 x5 x6 x7 x8 x9:aX)=>λ(i:Nat)=>if i=0 then x0 else if i=1 then x1 else if i=2 then x2 else if i=3 then x3 else if i=4 then x4 else if i=5 then x5 else if i=6 then x6 else if i=7 then x7 else if i=8 then x8 else if i=9 then x9 else undef) _ _ _ _ _ _ _ _ _ _) _ AL ?ext ?start AL
       case start=>intro i hi h;exact absurd h Ef
       case ext=>exact EX0.o
       case hstab=>
        intro j L w w' i v _ _ _ h;by_cases hj:j=10
        {subst hj;simp at h |-;exact⟨h.1,by unfold CZ;simp[h.2]⟩};{simp only[if_neg hj] at h |-;exact h}
       case hop=>
        intro i o L t w' ho hLi hx hdep K hK;have hi:i<11:=(AR.1 ho).1;obtain rfl|rfl|rfl|rfl|rfl|rfl|rfl|rfl|rfl|rfl|rfl:i=0\/i=1\/i=2\/i=3\/i=4\/i=5\/i=6\/i=7\/i=8\/i=9\/i=10:=AJ
        all_goals(simp at ho;subst ho)
        all_goals try(have hK':=hK w' _ rfl (REF.o _ AK L w' hx) trivial;clear hK;simp[Region.binds] at hdep;rw[AP AN];go_simp;simpa[Ca,hdep] using hK';done)
        ·have d3:t 3=aY (aR ⟨g,0,aS⟩):=by simpa using hdep ⟨3,ag⟩ AL rfl
         have d6:t 6=aY (aR ⟨g,5,aS⟩):=by simpa using hdep ⟨6,ag⟩ AL rfl
         have A:=Cr g 0 g 5 ns ys w' (YY.o L w' hx).1 (YY.o L w' hx).2;have hK':∀ ww ts,Cq ts->ev ts=ev ns*ev ys%fp->Below w'.heap.size w' ww->K _ ww:=λww ts h1 h2 b=>hK ww (af (ts.map (Value.int .u64)).toArray) (by simp;exact⟨ts,h1,h2,rfl⟩) (Fg.low 7 AK hx (λq=>HA.o _ _ b q) (λq=>HB.o _ _ b q) b) trivial
         rw[AP AN];go_simp;refine A.mono ?_;rintro e w9 ⟨ts,h1,h2,rfl,hb⟩;have hK2:=hK' w9 ts h1 h2 hb;go_simp;simpa[Ca,d3,d6] using hK2
        ·have d9:t 9=aY (aR ⟨g,15,aS⟩):=by simpa using hdep ⟨9,ag⟩ AL rfl
         have d7:TG (ev ns) (ev ys) (t 7):=by simpa using hdep ⟨7,ag⟩ AL rfl
         obtain⟨ts,h1,h2,h3⟩:=d7;rw[AP AN];refine Ji (hx.2.1 hLi) (ah 59) (ah 57) rfl ts (show t 9=_ from d9) (show t 7=_ from h3) h1 ?_;intro ww hp hw;have hK':=hK ww undef (by simp[CZ]) ⟨hx.1.trans hw.wrH,λq=>absurd q (by rw[GO];decide),λ_=>⟨ts,h1,h2,hp⟩⟩ trivial;go_simp;simpa[Ca,d9,h3] using hK'
       case hdone=>
        intro L t w' hx hg;have d0:t 0=aY (aR ⟨g,0,aS⟩):=by simpa using hg 0 AK
        have d1:t 1=aY (aR ⟨g,0,aS⟩):=by simpa using hg 1 AK
        have d2:t 2=aY (aR ⟨g,0,aS⟩):=by simpa using hg 2 AK
        have d3:t 3=aY (aR ⟨g,0,aS⟩):=by simpa using hg 3 AK
        have d4:t 4=aY (aR ⟨g,0,aS⟩):=by simpa using hg 4 AK
        have d5:t 5=aY (aR ⟨g,0,aS⟩):=by simpa using hg 5 AK
        have d6:t 6=aY (aR ⟨g,5,aS⟩):=by simpa using hg 6 AK
        have d7:TG (ev ns) (ev ys) (t 7):=by simpa using hg 7 AK
        have d8:t 8=aY (aR ⟨g,0,aS⟩):=by simpa using hg 8 AK
        have d9:t 9=aY (aR ⟨g,15,aS⟩):=by simpa using hg 9 AK
        have d10:t 10=undef/\L 10=true:=by simpa using hg 10 AK
        obtain⟨ts,hk,hv,hpt⟩:=hx.2.2 d10.2;obtain⟨ts',_,_,e7⟩:=d7;have HSb:AO (Di w w' g ns ys Cw ts [] []):=⟨hx.1,hlt,hpt,AL,List.Pairwise.nil,AL⟩
        have HKts:AO (Cq ts/\ev ts=JY zs*Fz zs%fp):=⟨hk,by rw[hv,HKns.o.2,HEV.o]⟩
        dsimp only;rw[d0,d1,d2,d3,d4,d5,d6,e7,d8,d9];go_wp2_with fail;refine(Ff g 0 ns _ HSb.o.pt.ex).mono ?_;rintro e wc ⟨rfl,b⟩;rw[HKns.o.2];have HSc:=CY <| HSb.o.call b
        obtain⟨o2,ho2⟩:∃ o2,o2=(JY zs%2 == 1):=⟨_,rfl⟩
        rw[<-ho2];have HDD:AO (Lo zs=(o2 == true)):=by
         show _=_
         rw[HDR.o,<-ho2,<-HOD.o]
        clear ho2;go_wp2
        go_ret
        exact⟨ns,ys,Cw,ts,HSc.o.pt,HSc.o.wrh,by rw[HDD.o];cases o2<;>rfl,λ_=>⟨HKns.o.2,HEV.o,AK,HKts.o.2⟩⟩
  ·have HQ:AO (decide (ys=Gi ys)=false):=Ac (λh=>hle h.symm);have HDR:AO (Lo zs=false):=by
    show _=_
    have:decide (Fz zs<fp)=false:=Ac (λh=>hle (HLS.o.2 h));unfold Lo;rw[this];simp
   have EX0:AO (Fg w g 99 (λw1=>Pt w1 g x ys z t0) (λw1=>Pt w1 g x ys z t0) (λn=>(Array.replicate 14 false).getD n false) w4.drew):=⟨HS4.o.wrh.trans (ET.of_below Cf.drew),λ_=>⟨HS4.o.pt.row,HS4.o.pt.x,HS4.o.pt.y,HS4.o.pt.z,HS4.o.pt.t⟩,λ_=>⟨HS4.o.pt.row,HS4.o.pt.x,HS4.o.pt.y,HS4.o.pt.z,HS4.o.pt.t⟩⟩
   have REF:AO (∀ i,i≠99->∀(L:Nat->Bool) (w':aV),Fg w g 99 (λw1=>Pt w1 g x ys z t0) (λw1=>Pt w1 g x ys z t0) L w'->Fg w g 99 (λw1=>Pt w1 g x ys z t0) (λw1=>Pt w1 g x ys z t0) (CZ L i) w'):=λi hi L w' h=>Fg.ref i hi h
   have YY:AO (∀(L:Nat->Bool) (w':aV),Fg w g 99 (λw1=>Pt w1 g x ys z t0) (λw1=>Pt w1 g x ys z t0) L w'->Dx w' g 5 ys):=λL w' h=>by
    cases hL:L 99
    {exact(h.2.1 hL).ey};{exact(h.2.2 hL).ey}
   go_wp2;refine Ag AM ?_;refine DH (λ_ _ _=>True) (frame:=(λ(a b c d e f g h i j k l m n o p q r s u v w x y z A B C D E F G H I J K L M N O P Q R S T U V W X Y Z a0:aX)=>λ(t:Nat->aX)=>({ tmps:=List.toArray [a,b,c,d,e,f,g,h,i,j,k,l,m,n,o,p,q,r,s,t 0,t 1,t 2,t 3,t 4,t 5,t 6,t 7,t 8,t 9,t 10,t 11,t 12,t 13,u,v,w,x,y,z,A,B,C,D,E,F,G,H,I,J,K,L,M,N,O,P,Q,R,S,T,U,V,W,X,Y,Z,a0],defers:=[] }:Act)) _ _ _ _ _ _ _ _ _ _ _ _ _ _ _ _ _ _ _ _ _ _ _ _ _ _ _ _ _ _ _ _ _ _ _ _ _ _ _ _ _ _ _ _ _ _ _ _ _ _ _ _)
    (Ext:=λL w'=>Fg w g 99 (λw1=>Pt w1 g x ys z t0) (λw1=>Pt w1 g x ys z t0) L w') (Good:=λi L _ v=>if i=0 then v=aY (aR ⟨g,0,aS⟩) else if i=1 then v=aY (aR ⟨g,0,aS⟩) else if i=2 then v=aY (aR ⟨g,5,aS⟩) else if i=3 then v=af (ys.map (Value.int .u64)).toArray else if i=4 then v=aY (aR ⟨g,0,aS⟩) else if i=5 then v=aY (aR ⟨g,0,aS⟩) else if i=6 then v=aY (aR ⟨g,5,aS⟩) else if i=7 then v=af ((Gi ys).map (Value.int .u64)).toArray else if i=8 then v=ae true else if i=9 then v=ae true else if i=10 then True else if i=11 then True else if i=12 then True else if i=13 then v=ae true else True) ?hstab AM ?hop ?hdone _ _ ((λ(x0 x1 x2 x3 x4 x5 x6 x7 x8 x9 x10 x11 x12 x13:aX)=>λ(i:Nat)=>if i=0 then x0 else if i=1 then x1 else if i=2 then x2 else if i=3 then x3 else if i=4 then x4 else if i=5 then x5 else if i=6 then x6 else if i=7 then x7 else if i=8 then x8 else if i=9 then x9 else if i=10 then x10 else if i=11 then x11 else if i=12 then x12 else if i=13 then x13 else undef) _ _ _ _ _ _ _ _ _ _ _ _ _ _) _ AL ?ext ?start AL
   case start=>intro i hi h;exact absurd h Ef
   case ext=>exact EX0.o
   case hstab=>intro j L w w' i v _ _ _ h;exact h
   case hop=>
    intro i o L t w' ho hLi hx hdep K hK;have hi:i<14:=(AR.1 ho).1;obtain rfl|rfl|rfl|rfl|rfl|rfl|rfl|rfl|rfl|rfl|rfl|rfl|rfl|rfl:i=0\/i=1\/i=2\/i=3\/i=4\/i=5\/i=6\/i=7\/i=8\/i=9\/i=10\/i=11\/i=12\/i=13:=AJ
    all_goals(simp at ho;subst ho)
    ·clear hdep;have hK':=hK w' (aY (aR ⟨g,0,aS⟩)) AL (REF.o 0 AK L w' hx) trivial;rw[AP AN];go_simp;simpa[Ca] using hK'
    ·have d0:t 0=aY (aR ⟨g,0,aS⟩):=by simpa using hdep ⟨0,ag⟩ AL rfl
     have hK':=hK w' (aY (aR ⟨g,0,aS⟩)) AL (REF.o 1 AK L w' hx) trivial;rw[AP AN];go_simp;simpa[Ca,d0] using hK'
    ·have d1:t 1=aY (aR ⟨g,0,aS⟩):=by simpa using hdep ⟨1,ag⟩ AL rfl
     have hK':=hK w' (aY (aR ⟨g,5,aS⟩)) AL (REF.o 2 AK L w' hx) trivial;rw[AP AN];go_simp;simpa[Ca,d1] using hK'
    ·have d2:t 2=aY (aR ⟨g,5,aS⟩):=by simpa using hdep ⟨2,ag⟩ AL rfl
     have hK':=hK w' (af (ys.map (Value.int .u64)).toArray) AL (REF.o 3 AK L w' hx) trivial;have ex:=YY.o L w' hx;rw[AP AN];refine Mk (ah 21) rfl g 5 ys (show t 2=_ from d2) ex ?_;go_simp;simpa[Ca,d2] using hK'
    ·clear hdep;have hK':=hK w' (aY (aR ⟨g,0,aS⟩)) AL (REF.o 4 AK L w' hx) trivial;rw[AP AN];go_simp;simpa[Ca] using hK'
    ·have d4:t 4=aY (aR ⟨g,0,aS⟩):=by simpa using hdep ⟨4,ag⟩ AL rfl
     have hK':=hK w' (aY (aR ⟨g,0,aS⟩)) AL (REF.o 5 AK L w' hx) trivial;rw[AP AN];go_simp;simpa[Ca,d4] using hK'
    ·have d5:t 5=aY (aR ⟨g,0,aS⟩):=by simpa using hdep ⟨5,ag⟩ AL rfl
     have hK':=hK w' (aY (aR ⟨g,5,aS⟩)) AL (REF.o 6 AK L w' hx) trivial;rw[AP AN];go_simp;simpa[Ca,d5] using hK'
    ·have d6:t 6=aY (aR ⟨g,5,aS⟩):=by simpa using hdep ⟨6,ag⟩ AL rfl
     have A:=Ez g 5 ys w' (YY.o L w' hx);have hK':∀ ww,Below w'.heap.size w' ww->K _ ww:=λww b=>hK ww (af ((Gi ys).map (Value.int .u64)).toArray) AL (Fg.low 7 AK hx (λq=>HA.o _ _ b q) (λq=>HA.o _ _ b q) b) trivial
     rw[AP AN];go_simp;refine A.mono ?_;rintro e w9 ⟨rfl,hb⟩;have hK2:=hK' w9 hb;go_simp;simpa[Ca,d6] using hK2
    ·have d3:t 3=af (ys.map (Value.int .u64)).toArray:=by simpa using hdep ⟨3,ag⟩ AL rfl
     have d7:t 7=af ((Gi ys).map (Value.int .u64)).toArray:=by simpa using hdep ⟨7,ag⟩ AL rfl
     have hK':=hK w' (ae true) AL (REF.o 8 AK L w' hx) trivial;rw[AP AN];go_simp;simp only[Id _ 9998 5 141 underlying141 ys (Gi ys) hyl hll,HQ.o,Result.andThen_ok];go_simp;simpa[Ca,d3,d7] using hK'
    ·have d8:t 8=ae true:=by simpa using hdep ⟨8,ag⟩ AL rfl
     have hK':=hK w' (ae true) AL (REF.o 9 AK L w' hx) trivial;rw[AP AN];go_simp;simpa[Ca,d8] using hK'
    ·have d9:t 9=ae true:=by simpa using hdep ⟨9,.guard⟩ AL rfl
     have hK':=hK w' undef AL (REF.o 10 AK L w' hx) trivial;rw[AQ (by simp[Region.wanted,yielded,d9])];go_simp;simpa[Ca,d9] using hK'
    ·have d9:t 9=ae true:=by simpa using hdep ⟨9,.guard⟩ AL rfl
     have hK':=hK w' undef AL (REF.o 11 AK L w' hx) trivial;rw[AQ (by simp[Region.wanted,yielded,d9])];go_simp;simpa[Ca,d9] using hK'
    ·have d9:t 9=ae true:=by simpa using hdep ⟨9,.guard⟩ AL rfl
     have hK':=hK w' undef AL (REF.o 12 AK L w' hx) trivial;rw[AQ (by simp[Region.wanted,yielded,d9])];go_simp;simpa[Ca,d9] using hK'
    ·have d9:t 9=ae true:=by simpa using hdep ⟨9,ag⟩ AL rfl
     have hK':=hK w' (ae true) AL (REF.o 13 AK L w' hx) trivial;rw[AP AN];go_simp;simpa[Ca,d9] using hK'
   case hdone=>
    intro L t w' hx hg;have d0:t 0=aY (aR ⟨g,0,aS⟩):=by simpa using hg 0 AK
    have d1:t 1=aY (aR ⟨g,0,aS⟩):=by simpa using hg 1 AK
    have d2:t 2=aY (aR ⟨g,5,aS⟩):=by simpa using hg 2 AK
    have d3:t 3=af (ys.map (Value.int .u64)).toArray:=by simpa using hg 3 AK
    have d4:t 4=aY (aR ⟨g,0,aS⟩):=by simpa using hg 4 AK
    have d5:t 5=aY (aR ⟨g,0,aS⟩):=by simpa using hg 5 AK
    have d6:t 6=aY (aR ⟨g,5,aS⟩):=by simpa using hg 6 AK
    have d7:t 7=af ((Gi ys).map (Value.int .u64)).toArray:=by simpa using hg 7 AK
    have d8:t 8=ae true:=by simpa using hg 8 AK
    have d9:t 9=ae true:=by simpa using hg 9 AK
    have d13:t 13=ae true:=by simpa using hg 13 AK
    have HF:AO (ET g w w'/\Pt w' g x ys z t0):=⟨hx.1,by
     cases hL:L 99
     ·exact hx.2.1 hL
     ·exact hx.2.2 hL⟩
    dsimp only;rw[d0,d1,d2,d3,d4,d5,d6,d7,d8,d9,d13];go_wp2
    go_ret
    refine⟨x,ys,z,t0,HF.o.2,HF.o.1,by rw[HDR.o];rfl,λh=>?_⟩;rw[HDR.o] at h;cases h
 ·have h32':((n:Int) == 32)=false:=by simp;omega
  have HR:AO (Lo zs=false):=by
   show _=_
   unfold Lo;have:(zs.length == 32)=false:=by simp;omega
   rw[this];rfl
  go_enter func103,ntmps103;go_wp2
  go_ret
  refine⟨x,y,z,t0,HP.o,ET.refl _ _,by rw[HR.o];rfl,λh=>?_⟩;rw[HR.o] at h;cases h
theorem ml (a b:Int):(a%fp)*b%fp=a*b%fp:=by rw[Int.mul_emod,Int.emod_emod_of_dvd _ (Int.dvd_refl fp),<-Int.mul_emod]
theorem mr (a b:Int):a*(b%fp)%fp=a*b%fp:=by rw[Int.mul_emod,Int.emod_emod_of_dvd _ (Int.dvd_refl fp),<-Int.mul_emod]
theorem N7 (a:Int) (n:Nat):(a%fp)^n%fp=a^n%fp:=by
 induction n with
 |zero=>simp only[Int.pow_zero]
 |succ n ih=>rw[Int.pow_succ,Int.pow_succ,mr,Int.mul_emod,ih,<-Int.mul_emod]
theorem aA (u a b:Int):u*(a%fp*b)%fp=u*(a*b)%fp:=by rw[<-mr u (a%fp*b),ml,mr]
def Wm (low nb top:Nat):Nat->Nat
 |0=>0
 |k+1=>2*Wm low nb top k+(if FW low nb (top-k) then 1 else 0)
theorem PM (x:Int) (low nb top k:Nat):F3 x low nb top k=x^Wm low nb top k%fp:=by
 induction k with
 |zero=>simp only[F3,Wm,Int.pow_zero];decide
 |succ k ih=>
  simp only[F3,Wm,ih,Dw];split
  ·generalize Wm low nb top k=E;have h1:∀ A:Int,A%fp*(A%fp)*x%fp=A*A*x%fp:=λA=>by rw[<-ml (A%fp*(A%fp)) x,DL,ml]
   rw[ml,h1,Int.pow_succ,Nat.two_mul,Int.pow_add]
  ·rw[ml,mr,Nat.add_zero,Nat.two_mul,Int.pow_add]
theorem aB:Wm 11 5 254 255=GG-2:=by decide +kernel
theorem aC:Wm 5 3 251 252=(GG-5)/8:=by decide +kernel
theorem aE:JA*4+1=(GG-5)/8:=by unfold JA Wg;decide +kernel
theorem Jj (x:Int) (h0:0<x) (h1:x<fp):x^(GG-1)%fp=1:=by
 obtain⟨a,rfl⟩:=Ab (Int.le_of_lt h0);rw[LT] at h1 |-;have ha:¬ GG∣a:=λh=>by
  have:=Nat.le_of_dvd AJ h;omega
 have:=RE (p:=GG) WP a ha;rw[<-Int.natCast_pow,<-Int.natCast_emod,this];rfl
theorem QU (u v:Int) (p e:Nat) (hp:p=8*e+5) (hv:v^(p-1)%fp=1) :
  u*(v*v*v)*(u*(v*v*v)*(v*v*(v*v)))^e%fp=u*v^(p-2)*(u*v^(p-2))^e%fp:=by
 have e1:u*v^(p-2)*(u*v^(p-2))^e=u*u^e*(v^3*(v^7)^e)*(v^(p-1))^e:=by
  rw[Int.mul_pow,<-Int.pow_mul,<-Int.pow_mul,<-Int.pow_mul];have:v^(p-2)*v^((p-2)*e)=v^3*v^(7*e)*v^((p-1)*e):=by
   rw[<-Int.pow_add,<-Int.pow_add,<-Int.pow_add]
   congr 1
   subst hp;have a1:8*e+5-2=8*e+3:=AJ
   have a2:8*e+5-1=8*e+4:=AJ
   rw[a1,a2,Nat.add_mul,Nat.add_mul];omega
  generalize v^(p-2)=A at *;generalize v^((p-2)*e)=B at *;generalize v^(7*e)=C at *;generalize v^((p-1)*e)=E at *;generalize u^e=F at *;have h3:v^3=v*v*v:=by simp only[Int.pow_succ,Int.pow_zero,Int.one_mul]
  rw[h3] at *
  grind
 have e2:u*(v*v*v)*(u*(v*v*v)*(v*v*(v*v)))^e=u*u^e*(v^3*(v^7)^e):=by
  have h7:u*(v*v*v)*(v*v*(v*v))=u*v^7:=by simp only[Int.pow_succ,Int.pow_zero,Int.one_mul];grind
  rw[h7,Int.mul_pow];have h3:v^3=v*v*v:=by simp only[Int.pow_succ,Int.pow_zero,Int.one_mul]
  rw[h3];generalize (v^7)^e=C;generalize u^e=F
  grind
 rw[e1,e2,Int.mul_emod _ ((v^(p-1))^e),<-N7 (v^(p-1)) e,hv,Int.one_pow];generalize u*u^e*(v^3*(v^7)^e)=Z;rw[show(1:Int)%fp=1 from by decide,Int.mul_one,Int.emod_emod_of_dvd _ (Int.dvd_refl fp)]
theorem Ml:GG=8*((GG-5)/8)+5:=by decide +kernel
theorem Ii (x:Int):Ft x=x^(GG-2)%fp:=by unfold Ft;rw[PM,aB]
theorem Wn (x:Int):UD x=x^((GG-5)/8)%fp:=by unfold UD;rw[PM,aC]
theorem Wo (x:Int):Yy x=x^((GG-5)/8)%fp:=by unfold Yy;rw[aE]
theorem YK (u v:Int) (h0:0<v) (h1:v<fp):KY u v=u*Ft v%fp*UD (u*Ft v%fp)%fp:=by
 have hs:=QU u v GG ((GG-5)/8) Ml (Jj v h0 h1);unfold KY;rw[Wo,Wn,Ii];have s1:Gw v 1=v*v%fp:=rfl;have s2:Gw v 2=v*v%fp*(v*v%fp)%fp:=rfl;rw[s1,s2];generalize (GG-5)/8=e at *;generalize v^(GG-2)=I at *;have a1:u*(v*v%fp*v%fp)%fp=u*(v*v*v)%fp:=by rw[mr,aA]
 have a2:v*v%fp*(v*v%fp)%fp=v*v*(v*v)%fp:=DL _ _;have a3:u*(I%fp)%fp=u*I%fp:=mr _ _;rw[a1,a2,a3,DL (u*(v*v*v)) (v*v*(v*v)),N7,N7,DL,DL];exact hs
def Q6:Nat:=37095705934669439343138083508754565189542113879843219016388785533085940283555
theorem Vx:Dl=(Q6:Int):=by decide +kernel
theorem SQ:ev Fa=(Q6:Int):=by decide +kernel
theorem ZO:Q3 (2%fp)*Q3 (2%fp)%fp=fp-1:=by decide +kernel
theorem ZP:ev Kf=Q3 (2%fp):=by decide +kernel
theorem YL:To Q6 GG 255 ((GG-1)/2)=GG-1:=by decide +kernel
theorem Wp:(Q6:Int)^((GG-1)/2)%fp=fp-1:=by
 have h:=Jt Q6 GG 255 ((GG-1)/2) (by decide +kernel);rw[YL] at h;rw[LT,<-Int.natCast_pow,<-Int.natCast_emod,<-h];decide +kernel
theorem QV:(GG-1)/2=2*((GG-1)/4):=by decide +kernel
theorem ST:2*((GG-1)/2)=GG-1:=by decide +kernel
theorem ZQ (Y:Int) (h0:0<=Y) (h1:Y<fp):((Q6:Int)*(Y*Y%fp)%fp+1%fp)%fp≠0:=by
 intro h;have hz:(Q6:Int)*(Y*Y)%fp=fp-1:=by
  rw[mr,show(1:Int)%fp=1 from by decide] at h;have a:=Int.emod_nonneg ((Q6:Int)*(Y*Y)) (show fp≠0 by decide);have b:=Int.emod_lt_of_pos ((Q6:Int)*(Y*Y)) (show 0<fp by decide);generalize (Q6:Int)*(Y*Y)%fp=q at *;rw[Ey] at *;omega
 have hY:0<Y:=by
  rcases Int.lt_or_eq_of_le h0 with h|h
  {exact h};{subst h;rw[Int.mul_zero,Int.mul_zero] at hz;exact absurd hz AK}
 have f:=Jj Y hY h1;have e1:((Q6:Int)*(Y*Y))^((GG-1)/2)%fp=fp-1:=by
  rw[Int.mul_pow,<-DL,Wp];have:(Y*Y)^((GG-1)/2)=Y^(GG-1):=by
   rw[<-ST,Int.pow_mul]
   congr 1
   simp only[Int.pow_succ,Int.pow_zero,Int.one_mul]
  rw[this,f];decide
 have e2:((Q6:Int)*(Y*Y))^((GG-1)/2)%fp=1:=by
  rw[<-N7,hz,QV,Int.pow_mul,<-N7];have:(fp-1)^2%fp=1:=AK
  rw[this,Int.one_pow];decide
 rw[e1] at e2;exact absurd e2 AK
theorem vI (v:Int) (h0:0<v) (h1:v<fp):v*Ft v%fp=1:=by
 have f:=Jj v h0 h1;rw[Ii,mr];rw[show GG-1=(GG-2)+1 from by decide +kernel,Int.pow_succ,Int.mul_comm] at f;exact f
theorem Mm (a u v I:Int) (h:v*I%fp=1) (hu:u%fp=u):a*v%fp=u↔a%fp=u*I%fp:=by
 constructor
 ·intro e;have:a%fp=a*(v*I)%fp:=by rw[<-mr,h,Int.mul_one]
  rw[this,<-Int.mul_assoc,<-ml,e]
 ·intro e;rw[<-ml,e,ml,Int.mul_assoc,Int.mul_comm I v,<-mr,h,Int.mul_one,hu]
theorem Un (x u:Int) (h0:0<=u) (h1:u<fp):x%fp=(0-u)%fp↔(-x)%fp=u:=by
 rw[Ey] at *;omega
theorem Vy (u v:Int):Uj u v=KY u v*KY u v*v%fp:=by
 show KY u v*KY u v%fp*v%fp=_
 rw[ml]
theorem QW (u v:Int) (h0:0<v) (h1:v<fp) (u0:0<=u) (u1:u<fp):Uj u v=u↔KY u v*KY u v%fp=u*Ft v%fp:=by
 rw[Vy];exact Mm _ u v _ (vI v h0 h1) (Int.emod_eq_of_lt u0 u1)
theorem Mn (a:Int):a*(fp-1)%fp=(-a)%fp:=by
 rw[show a*(fp-1)=-a+fp*a from by grind,Int.add_mul_emod_self_left]
theorem N8 (u v:Int) (h0:0<v) (h1:v<fp) (u0:0<=u) (u1:u<fp) :
  Uj u v=(0-u)%fp↔(KY u v*Q3 (2%fp)%fp)*(KY u v*Q3 (2%fp)%fp)%fp=u*Ft v%fp:=by
 have hq:(KY u v*Q3 (2%fp)%fp)*(KY u v*Q3 (2%fp)%fp)%fp=(-(KY u v*KY u v))%fp:=by
  rw[DL];have:=ZO;generalize Q3 (2%fp)=s at *;generalize KY u v=r at *;rw[show r*s*(r*s)=r*r*(s*s) from by grind,<-mr,this,Mn]
 rw[hq,Vy,Un _ u u0 u1,<-Mm _ u v _ (vI v h0 h1) (Int.emod_eq_of_lt u0 u1),Int.neg_mul]
theorem YM (Y:Int):uF Y=SH Y:=by
 unfold uF SH;rw[show ev Cw=1%fp from by decide];rfl
theorem YN (Y:Int):vF Y=Q5 Y Dl:=by
 unfold vF Q5;rw[show ev Cw=1%fp from by decide,SQ,Vx,Int.mul_comm];rfl
theorem Wq (Y:Int) (h0:0<=Y) (h1:Y<fp):0<Q5 Y Dl/\Q5 Y Dl<fp:=by
 have h:=ZQ Y h0 h1;rw[<-Vx] at h;unfold Q5;generalize Dl*(Y*Y%fp)%fp+1%fp=q at *;rw[Ey] at *;omega
theorem Ws (Y:Int):0<=SH Y/\SH Y<fp:=by unfold SH;rw[Ey];omega
theorem KD (Y:Int) (h0:0<=Y) (h1:Y<fp):Kg (uF Y) (vF Y)=Lg Y Dl/\Wk (uF Y) (vF Y)=GE Y Dl:=by
 rw[YM,YN];have hv:=Wq Y h0 h1;have hu:=Ws Y;have hR:Lf Y Dl=KY (SH Y) (Q5 Y Dl):=(YK _ _ hv.1 hv.2).symm;have i1:=QW _ _ hv.1 hv.2 hu.1 hu.2;have i2:=N8 _ _ hv.1 hv.2 hu.1 hu.2;unfold Kg Wk Lg GE N2 Mc;rw[hR,ZP];refine⟨?_,?_⟩
 ·rw[decide_eq_decide.2 i1,decide_eq_decide.2 i2]
 ·by_cases h:Uj (SH Y) (Q5 Y Dl)=SH Y
  {rw[AP h,AP (i1.1 h)]};{rw[AQ h,AQ (λe=>h (i1.2 e))]}
theorem Wt (Y:Int):0<=GE Y Dl/\GE Y Dl<fp:=by
 unfold GE N2 Lf;generalize Mc Y Dl*UD (Mc Y Dl)=a;generalize a%fp*Q3 (2%fp)=b;split<;>(rw[Ey];omega)
theorem Mo (zs:List Int) (hl:zs.length=32) (hz:Cb zs):Ts zs=(mO zs == 1):=by
 unfold Ts mO;have e:=DN 256 zs 31 AJ;rw[Ad AJ] at e;have dg:KW 256 (zs.take 31):=λz hz'=>hz z (Ax hz')
 have b0:=C0 (B:=256) AK dg;have b1:=Eg (B:=256) AK dg;rw[Aq,hl,show min 31 32=31 from rfl] at b1;have e3:(256:Int)^31=452312848583266388373324160190187140051835877600158453279131187530910662656:=AK
 rw[e3] at e b1;have hb:=hz.get 31;have:val 256 zs/(fp+19)=zs.getD 31 0/128:=by rw[Ey];omega
 rw[this]
theorem Uo (x:Int) (o:Bool) (h0:0<=x) (h1:x<fp):((((if((x%2 == 1) != o)=true then(0-x)%fp else x)%2 == 1) == o))=!(o && decide (x=0%fp)):=by
 have hz:(0:Int)%fp=0:=AK
 rw[hz];rw[Ey] at *;by_cases hx:x=0
 ·subst hx;cases o<;>decide
 ·rw[Ac hx,Bool.and_false];have hp:x%2=0\/x%2=1:=AJ
  have hn:(0-x)%57896044618658097711785492504343953926634992332820282019728792003956564819949=57896044618658097711785492504343953926634992332820282019728792003956564819949-x:=AJ
  rw[hn];rcases hp with hp|hp
  ·have h2:(57896044618658097711785492504343953926634992332820282019728792003956564819949-x)%2=1:=AJ
   cases o<;>simp[hp,h2]
  ·have h2:(57896044618658097711785492504343953926634992332820282019728792003956564819949-x)%2=0:=AJ
   cases o<;>simp[hp,h2]
theorem KE (zs:List Int) (hz:Cb zs):Lo zs=mB zs Dl:=by
 by_cases hl:zs.length=32
 ·have hY:Fz zs=mY zs:=rfl;unfold Lo mB;rw[hY];by_cases hy:mY zs<fp
  ·have h0:0<=mY zs:=by unfold mY;rw[Ey];omega
   obtain⟨r1,r2⟩:=KD (mY zs) h0 hy;have hb:=Wt (mY zs);have hx:JY zs=if((GE (mY zs) Dl%2 == 1) != Ts zs)=true then(0-GE (mY zs) Dl)%fp else GE (mY zs) Dl:=by
    unfold JY K4;rw[hY,r2]
   rw[r1,hx,Uo _ _ hb.1 hb.2,Mo zs hl hz]
  ·rw[Ac hy];simp
 ·unfold Lo mB;have:(zs.length == 32)=false:=by simpa using hl
  rw[this];rfl
theorem N9 (g o:Nat) (xs:List Int) (w:aV) (h:Dx w g o xs) (v1 goalv:Int) (hv1:ev xs^JA%fp=v1) (hgoal:Gw v1 5*ev xs^11%fp=goalv) :
  Calls tP 140 #[aY (aR ⟨g,o,aS⟩)] w (EP w goalv):=by
 have HE:=CY <| hgoal
 have HV1:=CY <| hv1
 have S0:=(GP.start w [(g,o,xs)] (λe he=>by rcases List.mem_singleton.1 he with rfl;exact h)).room;have HO:=CY <| S0
 clear S0 h hv1 hgoal;go_enter func140,ntmps140;go_wp2_with fail;refine(JJ g o xs _ (HO.o.el 0 _ _ _ rfl)).mono ?_;rintro e w1 ⟨es,hk,hv,rfl,b⟩;have HK1:AO (Cq es/\ev es=v1):=⟨hk,hv.trans HV1.o⟩
 have S1:=HO.o.call b;have H1:=CY <| S1
 clear S1 hk hv b HV1;go_wp2_with (first
  |(refine E9 H1.o rfl (ah 3) (ah 6) rfl es rfl rfl HK1.o.1 rfl ?_)
  |fail)
 intro w2 S2;have H2:=CY <| S2
 clear S2 H1 HO;generalize w1.heap.size=G1 at *;go_wp2_with fail;refine(Dp G1 0 es 5 _ AK (H2.o.re 0 _ _ rfl)).mono ?_;rintro e w3 ⟨fs,hk,hv,rfl,b⟩;have HK2:AO (Cq fs/\ev fs=Gw v1 5):=⟨hk,by rw[hv,HK1.o.2]⟩
 have H3:=CY <| H2.o.call b
 clear H2 hk hv b;go_wp2_with (first
  |(refine E9 H3.o rfl (ah 4) (ah 7) rfl fs rfl rfl HK2.o.1 rfl ?_)
  |fail)
 intro w4 S4;have H4:=CY <| S4
 clear S4 H3;generalize w3.heap.size=G2 at *;go_wp2
 go_loopw [8] (λi wr=>∃(k:Nat) (vs:List Int),k<=11/\i=aO .i64 k/\Cq vs/\ev vs=Gw v1 5*ev xs^k%fp/\GP w wr [(G2,vs),(G1,es),(w.heap.size,[0,0,0,0,0])] [(g,o,xs)]) (λi _=>11-(intOf i).toNat)
 case atStart=>
  refine⟨0,fs,AK,rfl,HK2.o.1,?_,H4.o⟩;rw[Int.pow_zero,Int.mul_one,<-HK2.o.2];exact(Int.emod_eq_of_lt (Gy fs).1 (Gy fs).2).symm
 case round=>
  clear H4;obtain⟨k,vs,hk,rfl,hok,hev,hrun⟩:=hrel;have HR:=CY <| hrun
  have HV:AO (Cq vs/\ev vs=Gw v1 5*ev xs^k%fp):=⟨hok,hev⟩
  clear hok hev hrun;by_cases hlt:k<11
  ·have hlt':(k:Int)<11:=AJ
   go_wp2_with fail;refine(Cr G2 0 g o vs xs _ (HR.o.re 0 _ _ rfl) (HR.o.el 0 _ _ _ rfl)).mono ?_;rintro e w5 ⟨us,hk',hv,rfl,b⟩;have HU:AO (Cq us/\ev us=Gw v1 5*ev xs^(k+1)%fp):=⟨hk',by rw[hv,HV.o.2,ml,Int.pow_succ,Int.mul_assoc]⟩
   have H5:=CY <| HR.o.call b
   clear hk' hv b HR;go_wp2_with (first
    |(refine De H5.o rfl (ah 4) (ah 11) rfl 0 G2 vs us rfl rfl rfl HU.o.1 rfl ?_)
    |fail)
   intro w6 S6;have H6:=CY <| S6
   clear S6 H5;go_wp2;go_roundw
   case rel=>exact⟨k+1,us,AJ,by go_num,HU.o.1,HU.o.2,H6.o⟩
   case measure=>simp[intOf];omega
  ·have hk11:k=11:=AJ
   have HVE:AO (ev vs=goalv):=by
    show _=_
    rw[HV.o.2,hk11,HE.o]
   have hlt':¬ (k:Int)<11:=AJ
   clear hk11;go_wp2_with (first
    |(refine DS rfl (ah 4) rfl G2 0 vs rfl (HR.o.re 0 _ _ rfl) ?_)
    |(refine De HR.o rfl (ah 2) (ah 13) rfl 2 w.heap.size [0,0,0,0,0] vs rfl rfl rfl HV.o.1 rfl ?_)
    |fail)
   intro w7 S7;have H7:=CY <| S7
   clear S7 HR;go_wp2;exact AU (v:=af (vs.map (Value.int .u64)).toArray) (H7.o.ret rfl _ 2 w.heap.size vs rfl rfl) rfl ⟨vs,HV.o.1,HVE.o,rfl,H7.o.below⟩
theorem aF:JA*32+11=GG-2:=by unfold JA Wg;decide +kernel
theorem Mp (g o:Nat) (xs:List Int) (w:aV) (h:Dx w g o xs) :
  Calls tP 140 #[aY (aR ⟨g,o,aS⟩)] w (EP w (Ft (ev xs))):=by
 have e:=YI (ev xs) JA 5 11;rw[mr,show JA*2^5+11=GG-2 from aF] at e;rw[Ii];exact N9 g o xs w h _ _ rfl e
theorem QX (zs:List Int) (hl:zs.length=32) (hz:Cb zs) (hy:mY zs<fp):JY zs=mX zs Dl:=by
 have h0:0<=mY zs:=by unfold mY;rw[Ey];omega
 obtain⟨r1,r2⟩:=KD (mY zs) h0 hy;have ho:=Mo zs hl hz;have hb:=hz.get 31;have hm:mO zs=0\/mO zs=1:=by unfold mO;omega
 have hx:JY zs=if((GE (mY zs) Dl%2 == 1) != Ts zs)=true then(0-GE (mY zs) Dl)%fp else GE (mY zs) Dl:=by
  unfold JY K4;rw[show Fz zs=mY zs from rfl,r2]
 rw[hx,ho];unfold mX;rw[show(0:Int)%fp=0 from by decide];generalize GE (mY zs) Dl=x;have hp:x%2=0\/x%2=1:=AJ
 rcases hm with hm|hm<;>rcases hp with hp|hp<;>rw[hm,hp]<;>simp
theorem ZT:ev FJ=(Dl+Dl)%fp:=by decide +kernel
def cp (zs:List Int) (k:Nat):List Int:=zs.take k++List.replicate (zs.length-k) 0
theorem dN (w:aV) (q p:Nat):(w.drewN q).drewN p=w.drewN (q+p):=by simp[World.drewN,Nat.add_assoc]
theorem Fu {B:Nat} {a w:aV} (h:Below B a w) (n:Nat):Below B a (w.drewN n):=⟨h.os,h.tape,h.output,h.size,h.block⟩
theorem Tryz.infoTap:(tP.info? 70).map (λi=>(i.zero,i.size,i.bytes))=aR (aR (af #[aO .i64 0,aO .i64 0]),2,16):=AM
theorem Tryz.infoI64:(tP.info? 2).map (λi=>(i.zero,i.size,i.bytes))=aR (aR (aO .i64 0),1,8):=AM
end Go.Proofs.YtncomnkdlpoelaaGreatDoor
