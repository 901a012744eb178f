import Derived.Test.YtjdhhgaelgemcaaGreatDoorMSvB
import Derived.Test.YtjdhhgaelgemcaaGreatDoorMTxt
import Derived.Test.YtjdhhgaelgemcaaGreatDoorMSvM
open Go.Proofs.Tryz renaming prog->tP
open Go.Proofs.Tryz
open Go.Value renaming slice->Z7,int->Z8,pointer->aF
open Go.IntKind renaming i64->aI
open Go.Ground renaming data->aL
open Option renaming some->aE,none->aA
open Go renaming World->aC,Value->aB
set_option maxHeartbeats 2000000
namespace Go.Proofs.YtjdhhgaelgemcaaGreatDoor
set_option linter.unusedVariables false
def Xd (xs:List Int):Prop:=xs.Pairwise (·<·)
theorem Tz:∀(xs ys:List Int),Xd xs->Xd ys->(∀ z,z∈xs↔z∈ys)->xs=ys:=by
 intro xs
 induction xs with
 |nil=>
  intro ys _ _ h;cases ys with
  |nil=>rfl
  |cons y ys=>exact absurd ((h y).2 AL) AL
 |cons x xs ih=>
  intro ys hx hy h;cases ys with
  |nil=>exact absurd ((h x).1 AL) AL
  |cons y ys=>
   have hx':=List.pairwise_cons.1 hx;have hy':=List.pairwise_cons.1 hy;have e:x=y:=by
    rcases Aa.1 ((h x).1 AL) with h1|h1
    ·exact h1
    ·rcases Aa.1 ((h y).2 AL) with h2|h2
     ·exact h2.symm
     ·have:=hy'.1 x h1;have:=hx'.1 y h2;omega
   subst e;rw[ih ys hx'.2 hy'.2 (λz=>?_)];constructor
   ·intro hz;rcases Aa.1 ((h z).1 (List.mem_cons_of_mem _ hz)) with h1|h1
    ·have:=hx'.1 z hz;omega
    ·exact h1
   ·intro hz;rcases Aa.1 ((h z).2 (List.mem_cons_of_mem _ hz)) with h1|h1
    ·have:=hy'.1 z hz;omega
    ·exact h1
theorem GA {xs:List Int} {i:Nat} (h:i<xs.length):xs.getD i 0=xs[i]:=by simp[List.getD,h]
theorem Dk.asc {xs:List Int} (h:Dk xs):Xd xs:=by
 have q:∀ d i,i+d+1<xs.length->xs.getD i 0<xs.getD (i+d+1) 0:=by
  intro d
  induction d with
  |zero=>intro i hi;exact(h (i+0+1) hi).2.2 AJ
  |succ d ih=>
   intro i hi;have h1:=ih i AJ;have h2:=(h (i+(d+1)+1) hi).2.2 AJ;rw[show i+(d+1)+1-1=i+d+1 by omega] at h2;omega
 refine List.pairwise_iff_getElem.2 (λi j hi hj hij=>?_);have:=q (j-i-1) i AJ;rw[show i+(j-i-1)+1=j by omega,GA hi,GA hj] at this;exact this
theorem Dk.range {xs:List Int} (h:Dk xs) {z:Int} (hz:z∈xs):0<=z/\z<256:=by
 obtain⟨i,hi,rfl⟩:=Br hz;have:=h i hi;unfold XW at this;rw[GA hi] at this;exact⟨this.1,this.2.1⟩
theorem Dk.of_asc {xs:List Int} (h:Xd xs) (hr:∀ z∈xs,0<=z/\z<256):Dk xs:=by
 intro i hi;have:=hr _ (Bl hi);refine⟨by rw[GA hi];exact this.1,by rw[GA hi];exact this.2,λh0=>?_⟩;rw[GA hi,GA (by omega:i-1<xs.length)];exact List.pairwise_iff_getElem.1 h (i-1) i AJ hi AJ
def De (P:Nat->Bool) (k:Nat):List Int:=((List.range k).filter P).map Int.ofNat
theorem FQ (P:Nat->Bool) (k:Nat):De P (k+1)=if P k=true then De P k++[(k:Int)] else De P k:=by
 unfold De;rw[CN,List.filter_append,BS];by_cases h:P k=true
 ·rw[AP h];simp[h]
 ·rw[AQ h];simp[h]
theorem IL {P:Nat->Bool} {k:Nat} {z:Int}:z∈De P k↔∃ v:Nat,v<k/\P v=true/\z=v:=by
 unfold De;simp only[List.mem_map,List.mem_filter,List.mem_range];constructor
 ·rintro⟨v,⟨h1,h2⟩,rfl⟩;exact⟨v,h1,h2,rfl⟩
 ·rintro⟨v,h1,h2,rfl⟩;exact⟨v,⟨h1,h2⟩,rfl⟩
theorem Ly (P:Nat->Bool) (k:Nat):Xd (De P k):=by
 induction k with
 |zero=>exact List.Pairwise.nil
 |succ k ih=>
  rw[FQ];split
  ·refine List.pairwise_append.2 ⟨ih,List.pairwise_singleton _ _,λa ha b hb=>?_⟩;obtain⟨v,hv,_,rfl⟩:=IL.1 ha;rw[List.mem_singleton.1 hb];omega
  ·exact ih
theorem JW (P:Nat->Bool) (k:Nat):(De P k).length<=k:=by
 unfold De;rw[Bn];exact BG (List.length_filter_le _ _) (by rw[List.length_range];exact Ac _)
theorem Q7 (P:Nat->Bool):Dk (De P 256):=Dk.of_asc (Ly P 256) (λz hz=>by
 obtain⟨v,hv,_,rfl⟩:=IL.1 hz;omega)
theorem Dk.eq_upTo {xs:List Int} (h:Dk xs) (P:Nat->Bool) (hP:∀ v,v<256->(P v=true↔(v:Int)∈xs)):De P 256=xs:=by
 refine Tz _ _ (Ly P 256) h.asc (λz=>?_);rw[IL];constructor
 ·rintro⟨v,hv,hp,rfl⟩;exact(hP v hv).1 hp
 ·intro hz;have hr:=h.range hz;obtain⟨v,rfl⟩:=Aj hr.1;exact⟨v,AJ,(hP v AJ).2 hz,rfl⟩
def I3 (x:Nat):Nat:=((List.range 8).filter (λj=>x/2^j%2 == 1)).length
def GB (bs:List Int) (k:Nat):Nat:=((List.range k).map (λi=>I3 (bs.getD i 0).toNat)).sum
theorem KQ (bs:List Int) (k:Nat):GB bs (k+1)=GB bs k+I3 (bs.getD k 0).toNat:=by
 unfold GB;rw[CN,BS,List.sum_append];simp
theorem Q8 (P:Nat->Bool) (k n:Nat):(De P (k+n)).length=(De P k).length+((List.range n).filter (λj=>P (k+j))).length:=by
 induction n with
 |zero=>simp
 |succ n ih=>
  rw[<-Ax,FQ,CN,List.filter_append,Ak,<-Ax,<-ih];by_cases h:P (k+n)=true
  ·rw[AP h];simp[h]
  ·rw[AQ h];simp[h]
theorem Pk {bs:List Int} {Q:Nat->Prop} (hs:Dg bs Q) (P:Nat->Bool) (hP:∀ v,v<256->(P v=true↔Q v)) (k:Nat) (hk:k<=32):GB bs k=(De P (k*8)).length:=by
 induction k with
 |zero=>rfl
 |succ k ih=>
  rw[KQ,ih AJ,show(k+1)*8=k*8+8 by omega,Q8]
  congr 1
  unfold I3
  congr 1
  refine List.filter_congr (λj hj=>?_);have hj':=BF.1 hj;have h3:=hs.2.2 (k*8+j) AJ;rw[show(k*8+j)/8=k by omega,show(k*8+j)%8=j by omega] at h3;have h0:=(hs.2.1.get k).1;obtain⟨x,hx⟩:=Aj h0;rw[hx] at h3;rw[hx,Bq];have e:((x:Int)/2^j%2=1)↔(x/2^j%2=1):=by
   rw[show((2:Int)^j)=((2^j:Nat):Int) by simp,<-Int.natCast_ediv];omega
  rw[e] at h3;have:=h3.trans (hP (k*8+j) AJ).symm;by_cases hp:P (k*8+j)=true
  ·rw[hp];simpa using this.2 hp
  ·have h4:¬ (x/2^j%2=1):=λh=>hp (this.1 h)
   rw[Bool.not_eq_true] at hp;rw[hp];simpa using h4
theorem Oa {bs D:List Int} (hs:Dg bs (λv=>(v:Int)∈D)) (hD:Dk D):GB bs 32=D.length:=by
 have h:=Pk hs (λv=>decide ((v:Int)∈D)) (λv _=>AL) 32 AJ;rw[h,hD.eq_upTo _ (λv _=>AL)]
theorem Lz {D:List Int} (hD:Dk D) (x:Int):Dk (D.filter (λz=>z != x)):=
 Dk.of_asc (List.Pairwise.filter _ hD.asc) (λz hz=>hD.range (Be.1 hz).1)
end Go.Proofs.YtjdhhgaelgemcaaGreatDoor
namespace Go.Proofs.YtjdhhgaelgemcaaGreatDoor
open Go.ChangeShapes Go.WideShapes Go.ChangeAt Go.RowKit
set_option linter.unusedVariables false
theorem K5 (w:aC) {o:Oper} {a:Act} {K:Act->aC->Prop} {Q:Exit->Act->aC->Prop} {k:IntKind} {t s:TypeId} {by':Nat} (hk:KT k t s by')
  (sx x:Operand) (hop:o.op=Op.call { callee:=Callee.builtin Builtin.append,args:=#[sx,x],argTypes:=#[s,s] })
  (B:Nat) (v:aB) (xs:List Int) (hs:a.eval sx=v) (hown:DR k t w B v xs) (ad:Addr) (m c:Nat) (news:List Int) (hx:a.eval x=Z7 (aE ad) m c) (hl:news.length=m)
  (hnews:∀ j,j<m->w.cell? (ad.add j)=aE (Z8 k (news.getD j 0))) (hb:xs.length+m<=1099511627776) (hB:B<=w.heap.size)
  (hK:∀ v' w',DR k t w' B v' (xs++news)->Below B w w'->K (a.put o.dst v') w') :
  o.wp tP a w K Q:=by
 obtain⟨i0,hi,hz0,hz1,hz2⟩:=Bh hk.info;have hbase:=hown.base;have hp:=hk.pos;have hle:=hk.le;refine wp_append_own w sx x s hop B t i0 (Z8 k 0) 1 by' hk.und hi hz0 hz1 hz2 rfl AJ v xs.length _ hs hown.1 ad m c (news.map (Value.int k)) hx (by simp[hl]) ?_ (Aw _ _) (by unfold maxLen;omega) ?_ hB ?_
 ·intro j u hu;have hj:j<news.length:=by have:=(Ao.1 hu).1;simpa using this
  rw[hnews j AJ];simp[hj] at hu;simp[hj,hu]
 ·have:=Nat.mul_le_mul hb hle;omega
 ·intro v' w' h1 h2 h3;obtain⟨g,c0,hv,hBg,_,_⟩:=hbase;have hbel:Below B w w':=Cg.grown h2 hB (λk hk=>by rw[hv] at hk;simp[Value.ownBlock] at hk;omega);refine hK v' w' ⟨?_,?_⟩ hbel
  ·rw[BS,Ak,hl];exact h1
  ·rcases h1.2 with⟨h',_⟩|⟨g',c',cur,h',_⟩
   ·exact absurd (h3.1 h').1 (by rw[hv];simp)
   ·exact⟨g',c',by rw[h',Ak,hl]⟩
def Xe (B:Nat) (u va vb:aB) (pa pb:Addr) (k:Nat) (x y s:Int) (zs:List Int):Nat->(Nat->Bool)->aC->aB->Prop
 |0,_,_,v=>v=u
 |1,_,_,v=>v=va
 |2,_,_,v=>v=Z8 aI k
 |3,_,_,v=>v=aF (aE pa)
 |4,_,_,v=>v=Z8 aI x
 |5,_,_,v=>v=vb
 |6,_,_,v=>v=Z8 aI k
 |7,_,_,v=>v=aF (aE pb)
 |8,_,_,v=>v=Z8 aI y
 |9,_,_,v=>v=Z8 aI s
 |10,L,w,v=>L 11=false->∃ g',v=Z7 (aE ⟨g',0,aA⟩) 1 1/\g'<w.heap.size/\w.cell? ⟨g',0,aA⟩=aE (Z8 aI s)
 |11,_,w,v=>D3 w B v (zs++[s])
 |_,_,_,_=>True
theorem MA (B:Nat) (u va vb:aB) (pa pb:Addr) (k:Nat) (x y s:Int) (zs:List Int) (j:Nat) (L:Nat->Bool) (w w':aC) (i:Nat) (v:aB) (hm:i≠11->Below w.heap.size w w') (hij:i≠j) (hL:L i=false) (h:Xe B u va vb pa pb k x y s zs j L w v) :
  Xe B u va vb pa pb k x y s zs j (Cf L i) w' v:=by
 unfold Xe at *;split at h<;>try exact h
 ·intro h14;have hi:i≠11:=λe=>by subst e;simp[Cf] at h14
  have hL14:L 11=false:=by simpa[Cf,Ne.symm hi] using h14
  obtain⟨g',e,hg,c0⟩:=h hL14;have hb:=hm hi;exact⟨g',e,AG hb.size,by rw[hb.cell (p:=⟨g',0,aA⟩) hg];exact c0⟩
 ·exact h.grow (hm (λe=>hij e))
def GC (xs ys:List Int):List Int:=(List.range 16).map λi=>xs.getD i 0+ys.getD i 0
theorem E5 (xs ys:List Int):(GC xs ys).length=16:=by simp[GC]
theorem Ob {xs ys:List Int} (hx:R xs) (hy:R ys):Bd 131400 (GC xs ys):=by
 intro i;by_cases h:i<16
 ·rw[show(GC xs ys).getD i 0=_ from Ig _ i h];have:=hx.2 i;have:=hy.2 i;omega
 ·rw[DB (by rw[E5];omega)];omega
theorem T5 {xs ys:List Int} (hx:R xs) (hy:R ys):fv (GC xs ys)=(fv xs+fv ys)%fp:=by
 unfold fv GC;have e:=F8 65536 (λi=>xs.getD i 0) (λi=>ys.getD i 0) 16 (1);rw[show(λi=>xs.getD i 0+ys.getD i 0)=λi=>xs.getD i 0+1*ys.getD i 0 from by funext i;omega,e,<-DD 65536 xs 16 hx.1,<-DD 65536 ys 16 hy.1];rw[<-Int.add_emod]
 congr 1;omega
theorem FZ (a a':Option Addr) (cap cap':Nat) (x y:Int) (w:aC) (ha:Cu w a x) (ha':Cu w a' y) :
  Calls tP 99 #[Z7 a 16 cap,Z7 a' 16 cap'] w (ND w ((x+y)%fp)):=by
 obtain⟨xs,hA,hR,rfl⟩:=ha;obtain⟨ys,hA',hR',rfl⟩:=ha';obtain⟨b0,off,rfl,hb0,hc⟩:=hA.get (AG hR.1);obtain⟨b1,off',rfl,hb1,hc'⟩:=hA'.get (AG hR'.1);obtain⟨t1,t2⟩:=Vl (E5 xs ys) (Ob hR hR');have HT:AO (R (Cj (GC xs ys))/\fv (Cj (GC xs ys))=(fv xs+fv ys)%fp):=⟨t1,by rw[t2,T5 hR hR']⟩
 have HB1:AO (Bd 131400 (GC xs ys)):=Ob hR hR';have HC:AO (∀ i,i<16->w.cell? ⟨b0,off+i,aA⟩=aE (Z8 aI (xs.getD i 0))):=λi hi=>hc i (AG hR.1)
 have HC':AO (∀ i,i<16->w.cell? ⟨b1,off'+i,aA⟩=aE (Z8 aI (ys.getD i 0))):=λi hi=>hc' i (AG hR'.1)
 have HR:AO (R xs/\R ys):=⟨hR,hR'⟩
 clear t1 t2 hc hc' hA hA' hR hR';go_enter func99,ntmps99;go_wp2
 go_loopw [5,6] (λv i wr=>∃ k:Nat,k<=16/\i=Z8 aI k/\D3 wr w.heap.size v ((GC xs ys).take k)/\Below w.heap.size w wr) (λ_ i _=>16-(intOf i).toNat)
 case atStart=>exact⟨0,AK,rfl,DR.empty _ _ Cl,Cg.alloc Cl _⟩
 case round=>
  obtain⟨k,hk,rfl,hown,hbel⟩:=hrel;by_cases hlt:k<16
  ·have hlt':(k:Int)<16:=AJ
   have HO:AO (D3 wr w.heap.size u5 ((GC xs ys).take k)):=hown;have HBE:AO (Below w.heap.size w wr):=hbel;have hx:=(HR.o.1).2 k;have hy:=(HR.o.2).2 k;obtain⟨x0,x1⟩:=hx;obtain⟨y0,y1⟩:=hy;have HTK:AO ((GC xs ys).take (k+1)=(GC xs ys).take k++[xs.getD k 0+ys.getD k 0]):=by
    show _=_
    have e:(GC xs ys).getD k 0=xs.getD k 0+ys.getD k 0:=Ig _ k hlt;rw[<-e,A0 (by rw[E5];exact hlt),AS,Av (by rw[E5];exact hlt)];rfl
   have HTL:AO (((GC xs ys).take k).length=k):=by show _=_;rw[Ap,E5];omega
   have HCX:AO (w.cell? ⟨b0,off+k,aA⟩=aE (Z8 aI (xs.getD k 0))):=HC.o k hlt;have HCY:AO (w.cell? ⟨b1,off'+k,aA⟩=aE (Z8 aI (ys.getD k 0))):=HC'.o k hlt;have hsz:=hbel.size;clear hown hbel;generalize (GC xs ys).take k=zs at *;generalize xs.getD k 0=x at *;generalize ys.getD k 0=y at *;have HWR:AO (IntKind.i64.wrap (x+y)=x+y):=by show _=_;rw[An];omega
   go_wp2;refine Ag AM ?_;refine Eb 12 (λi w w'=>i≠11->Below w.heap.size w w') (frame:=(λ(a b c d e f g h i j k l m n:aB)=>λ(t:Nat->aB)=>({ tmps:=List.toArray [a,b,c,d,e,f,g,h,i,j,k,l,t 0,t 1,t 2,t 3,t 4,t 5,t 6,t 7,t 8,t 9,t 10,t 11,m,n],defers:=[] }:Act)) _ _ _ _ _ _ _ _ _ _ _ _ _ _)
    (Ext:=λL w'=>(L 11=false->Below wr.heap.size wr w')/\Below w.heap.size w w'/\wr.heap.size<=w'.heap.size)
    (Good:=Xe w.heap.size u5 (Z7 (aE ⟨b0,off,aA⟩) 16 cap) (Z7 (aE ⟨b1,off',aA⟩) 16 cap') ⟨b0,off+k,aA⟩ ⟨b1,off'+k,aA⟩ k x y (x+y) zs) AN AM (MA _ _ _ _ _ _ _ _ _ _ _) AM AM ?hop ?hend _ _ ((λ(x0 x1 x2 x3 x4 x5 x6 x7 x8 x9 x10 x11:aB)=>λ(i:Nat)=>if i=0 then x0 else if i=1 then x1 else if i=2 then x2 else if i=3 then x3 else if i=4 then x4 else if i=5 then x5 else if i=6 then x6 else if i=7 then x7 else if i=8 then x8 else if i=9 then x9 else if i=10 then x10 else if i=11 then x11 else undef) _ _ _ _ _ _ _ _ _ _ _ _) _ AL AL ?ext ?start AL
   case start=>intro i hi h;exact absurd h Et
   case ext=>exact⟨λ_=>Cg.drew,⟨HBE.o.os,HBE.o.tape,HBE.o.output,HBE.o.size,HBE.o.block⟩,Ac _⟩
   case hop=>
    intro i o L t w' hil ho hLi hx hdep K hK;obtain⟨hx14,hxB,hxS⟩:=hx;have cX:w'.cell? ⟨b0,off+k,aA⟩=aE (Z8 aI x):=by rw[hxB.cell (p:=⟨b0,off+k,aA⟩) hb0];exact HCX.o
    have cY:w'.cell? ⟨b1,off'+k,aA⟩=aE (Z8 aI y):=by rw[hxB.cell (p:=⟨b1,off'+k,aA⟩) hb1];exact HCY.o
    have RX:AO (∀ j,j≠11->∀ ww,Below w'.heap.size w' ww->((Cf L j 11=false->Below wr.heap.size wr ww)/\Below w.heap.size w ww/\wr.heap.size<=ww.heap.size)):=λj hj ww hb=>
     ⟨λhL=>(hx14 (by simpa[Cf,Ne.symm hj] using hL)).trans (hb.mono hxS),hxB.trans (hb.mono hxB.size),AG hb.size⟩
    have RR:AO (∀ j,j≠11->((Cf L j 11=false->Below wr.heap.size wr w')/\Below w.heap.size w w'/\wr.heap.size<=w'.heap.size)):=λj hj=>RX.o j hj w' Cg
    have RM:AO (∀ j:Nat,j≠11->Below w'.heap.size w' w'):=λ_ _=>A9 _ _
    have H14:AO (L 11=false->Below wr.heap.size wr w'):=hx14;have HXB:AO (Below w.heap.size w w'):=hxB;clear hx14 hxB;obtain rfl|rfl|rfl|rfl|rfl|rfl|rfl|rfl|rfl|rfl|rfl|rfl:i=0\/i=1\/i=2\/i=3\/i=4\/i=5\/i=6\/i=7\/i=8\/i=9\/i=10\/i=11:=AJ
    all_goals(simp at ho;subst ho)
    ·clear hdep;go_simp;exact hK w' u5 rfl (RR.o 0 AK) (RM.o 0)
    ·clear hdep;go_simp;exact hK w' (Z7 (aE ⟨b0,off,aA⟩) 16 cap) rfl (RR.o 1 AK) (RM.o 1)
    ·clear hdep;go_simp;exact hK w' (Z8 aI k) rfl (RR.o 2 AK) (RM.o 2)
    ·have d1:t 1=_:=hdep ⟨1,aL⟩ AL rfl;have d2:t 2=_:=hdep ⟨2,aL⟩ AL rfl;clear hdep;go_simp;simpa[Ce,d1,d2] using hK w' (aF (aE ⟨b0,off+k,aA⟩)) rfl (RR.o 3 AK) (RM.o 3)
    ·have d3:t 3=_:=hdep ⟨3,aL⟩ AL rfl;clear hdep;go_simp;simpa[Ce,d3] using hK w' (Z8 aI x) rfl (RR.o 4 AK) (RM.o 4)
    ·clear hdep;go_simp;exact hK w' (Z7 (aE ⟨b1,off',aA⟩) 16 cap') rfl (RR.o 5 AK) (RM.o 5)
    ·clear hdep;go_simp;exact hK w' (Z8 aI k) rfl (RR.o 6 AK) (RM.o 6)
    ·have d5:t 5=_:=hdep ⟨5,aL⟩ AL rfl;have d6:t 6=_:=hdep ⟨6,aL⟩ AL rfl;clear hdep;go_simp;simpa[Ce,d5,d6] using hK w' (aF (aE ⟨b1,off'+k,aA⟩)) rfl (RR.o 7 AK) (RM.o 7)
    ·have d7:t 7=_:=hdep ⟨7,aL⟩ AL rfl;clear hdep;go_simp;simpa[Ce,d7] using hK w' (Z8 aI y) rfl (RR.o 8 AK) (RM.o 8)
    ·have d4:t 4=_:=hdep ⟨4,aL⟩ AL rfl;have d8:t 8=_:=hdep ⟨8,aL⟩ AL rfl;clear hdep;go_simp;simpa[Ce,d4,d8,HWR.o] using hK w' (Z8 aI (x+y)) rfl (RR.o 9 AK) (RM.o 9)
    ·have d9:t 9=_:=hdep ⟨9,aL⟩ AL rfl;clear hdep;have hK':=hK (w'.alloc (.cells #[Z8 aI (x+y)] 2)) (Z7 (aE ⟨w'.heap.size,0,aA⟩) 1 1) (λ_=>⟨w'.heap.size,rfl,AL,AA (AX _ _) _⟩) (RX.o 10 AK _ (Ck _ _)) (λ_=>Ck _ _);clear hK;go_simp;simpa[Ce,d9] using hK'
    ·have d0:t 0=_:=hdep ⟨0,aL⟩ AL rfl;have d10:=hdep ⟨10,aL⟩ AL rfl;obtain⟨g',e10,hg',cc0⟩:=d10 hLi;clear hdep d10;have hO:=HO.o.grow (H14.o hLi);refine K5 (a:=_) _ Vm _ _ rfl w.heap.size _ zs (by first|exact d0|(simp[d0];done)) hO ⟨g',0,aA⟩ 1 1 [x+y] (by first|exact e10|(simp[e10];done)) rfl ?_ ?_ ?_ ?_
     ·intro j hj;obtain rfl:j=0:=AJ
      rw[Az];exact cc0
     ·rw[HTL.o];omega
     ·exact HXB.o.size
     ·intro v' w9 hown' hbel';exact hK w9 v' hown' ⟨λh=>by simp[Cf] at h,HXB.o.trans hbel',AH hbel'.size HXB.o.size⟩ (λh=>absurd rfl h)
   case hend=>
    intro o L t w' ho hx hg K hK;simp at ho;subst ho;obtain⟨hx14,hxB,hxS⟩:=hx;have O14:D3 w' w.heap.size (t 11) (zs++[x+y]):=hg 11 AK;have HXB:AO (Below w.heap.size w w'):=hxB;have HO14:AO (D3 w' w.heap.size (t 11) ((GC xs ys).take (k+1))):=by rw[HTK.o];exact O14
    clear hg O14 hx14 hxB hxS;go_simp;refine hK _ _ ?_;go_wp2;go_roundw
    case rel=>exact⟨k+1,AJ,by go_num,HO14.o,HXB.o⟩
    case measure=>simp[intOf];omega
  ·have hk16:k=16:=AJ
   have ho:D3 wr w.heap.size u5 (GC xs ys):=by rw[hk16,Ad (by rw[E5];decide)] at hown;exact hown
   obtain⟨g,c,rfl,hg,hg',hA⟩:=ho.at_;rw[E5];clear ho hown;have hlt':¬ (k:Int)<16:=AJ
   go_wp2_with fail;refine(Dw _ c (GC xs ys) _ (E5 _ _) hA 131400 3 HB1.o AK AK AK AK).mono ?_;rintro e w2 h2;have HP:AO (ND w ((fv xs+fv ys)%fp) e w2):=by
    obtain⟨g2,c2,rfl,p1,p2,p3,p4⟩:=h2.fe HT.o.1 HT.o.2;exact⟨g2,c2,rfl,AG hbel.size,p2,p3,hbel.trans (p4.mono hbel.size)⟩
   obtain⟨g2,c2,rfl,_⟩:=h2;clear hA hbel hk16;go_wp2
   go_ret
   exact HP.o
def GD (xs ys:List Int):List Int:=(List.range 16).map λi=>xs.getD i 0-ys.getD i 0
theorem E6 (xs ys:List Int):(GD xs ys).length=16:=by simp[GD]
theorem Oc {xs ys:List Int} (hx:R xs) (hy:R ys):Bd 131400 (GD xs ys):=by
 intro i;by_cases h:i<16
 ·rw[show(GD xs ys).getD i 0=_ from Ig _ i h];have:=hx.2 i;have:=hy.2 i;omega
 ·rw[DB (by rw[E6];omega)];omega
theorem T6 {xs ys:List Int} (hx:R xs) (hy:R ys):fv (GD xs ys)=(fv xs-fv ys)%fp:=by
 unfold fv GD;have e:=F8 65536 (λi=>xs.getD i 0) (λi=>ys.getD i 0) 16 (-1);rw[show(λi=>xs.getD i 0-ys.getD i 0)=λi=>xs.getD i 0+-1*ys.getD i 0 from by funext i;omega,e,<-DD 65536 xs 16 hx.1,<-DD 65536 ys 16 hy.1];rw[<-Int.sub_emod]
 congr 1;omega
theorem Fa (a a':Option Addr) (cap cap':Nat) (x y:Int) (w:aC) (ha:Cu w a x) (ha':Cu w a' y) :
  Calls tP 93 #[Z7 a 16 cap,Z7 a' 16 cap'] w (ND w ((x-y)%fp)):=by
 obtain⟨xs,hA,hR,rfl⟩:=ha;obtain⟨ys,hA',hR',rfl⟩:=ha';obtain⟨b0,off,rfl,hb0,hc⟩:=hA.get (AG hR.1);obtain⟨b1,off',rfl,hb1,hc'⟩:=hA'.get (AG hR'.1);obtain⟨t1,t2⟩:=Vl (E6 xs ys) (Oc hR hR');have HT:AO (R (Cj (GD xs ys))/\fv (Cj (GD xs ys))=(fv xs-fv ys)%fp):=⟨t1,by rw[t2,T6 hR hR']⟩
 have HB1:AO (Bd 131400 (GD xs ys)):=Oc hR hR';have HC:AO (∀ i,i<16->w.cell? ⟨b0,off+i,aA⟩=aE (Z8 aI (xs.getD i 0))):=λi hi=>hc i (AG hR.1)
 have HC':AO (∀ i,i<16->w.cell? ⟨b1,off'+i,aA⟩=aE (Z8 aI (ys.getD i 0))):=λi hi=>hc' i (AG hR'.1)
 have HR:AO (R xs/\R ys):=⟨hR,hR'⟩
 clear t1 t2 hc hc' hA hA' hR hR';go_enter func93,ntmps93;go_wp2
 go_loopw [5,6] (λv i wr=>∃ k:Nat,k<=16/\i=Z8 aI k/\D3 wr w.heap.size v ((GD xs ys).take k)/\Below w.heap.size w wr) (λ_ i _=>16-(intOf i).toNat)
 case atStart=>exact⟨0,AK,rfl,DR.empty _ _ Cl,Cg.alloc Cl _⟩
 case round=>
  obtain⟨k,hk,rfl,hown,hbel⟩:=hrel;by_cases hlt:k<16
  ·have hlt':(k:Int)<16:=AJ
   have HO:AO (D3 wr w.heap.size u5 ((GD xs ys).take k)):=hown;have HBE:AO (Below w.heap.size w wr):=hbel;have hx:=(HR.o.1).2 k;have hy:=(HR.o.2).2 k;obtain⟨x0,x1⟩:=hx;obtain⟨y0,y1⟩:=hy;have HTK:AO ((GD xs ys).take (k+1)=(GD xs ys).take k++[xs.getD k 0-ys.getD k 0]):=by
    show _=_
    have e:(GD xs ys).getD k 0=xs.getD k 0-ys.getD k 0:=Ig _ k hlt;rw[<-e,A0 (by rw[E6];exact hlt),AS,Av (by rw[E6];exact hlt)];rfl
   have HTL:AO (((GD xs ys).take k).length=k):=by show _=_;rw[Ap,E6];omega
   have HCX:AO (w.cell? ⟨b0,off+k,aA⟩=aE (Z8 aI (xs.getD k 0))):=HC.o k hlt;have HCY:AO (w.cell? ⟨b1,off'+k,aA⟩=aE (Z8 aI (ys.getD k 0))):=HC'.o k hlt;have hsz:=hbel.size;clear hown hbel;generalize (GD xs ys).take k=zs at *;generalize xs.getD k 0=x at *;generalize ys.getD k 0=y at *;have HWR:AO (IntKind.i64.wrap (x-y)=x-y):=by show _=_;rw[An];omega
   go_wp2;refine Ag AM ?_;refine Eb 12 (λi w w'=>i≠11->Below w.heap.size w w') (frame:=(λ(a b c d e f g h i j k l m n:aB)=>λ(t:Nat->aB)=>({ tmps:=List.toArray [a,b,c,d,e,f,g,h,i,j,k,l,t 0,t 1,t 2,t 3,t 4,t 5,t 6,t 7,t 8,t 9,t 10,t 11,m,n],defers:=[] }:Act)) _ _ _ _ _ _ _ _ _ _ _ _ _ _)
    (Ext:=λL w'=>(L 11=false->Below wr.heap.size wr w')/\Below w.heap.size w w'/\wr.heap.size<=w'.heap.size)
    (Good:=Xe w.heap.size u5 (Z7 (aE ⟨b0,off,aA⟩) 16 cap) (Z7 (aE ⟨b1,off',aA⟩) 16 cap') ⟨b0,off+k,aA⟩ ⟨b1,off'+k,aA⟩ k x y (x-y) zs) AN AM (MA _ _ _ _ _ _ _ _ _ _ _) AM AM ?hop ?hend _ _ ((λ(x0 x1 x2 x3 x4 x5 x6 x7 x8 x9 x10 x11:aB)=>λ(i:Nat)=>if i=0 then x0 else if i=1 then x1 else if i=2 then x2 else if i=3 then x3 else if i=4 then x4 else if i=5 then x5 else if i=6 then x6 else if i=7 then x7 else if i=8 then x8 else if i=9 then x9 else if i=10 then x10 else if i=11 then x11 else undef) _ _ _ _ _ _ _ _ _ _ _ _) _ AL AL ?ext ?start AL
   case start=>intro i hi h;exact absurd h Et
   case ext=>exact⟨λ_=>Cg.drew,⟨HBE.o.os,HBE.o.tape,HBE.o.output,HBE.o.size,HBE.o.block⟩,Ac _⟩
   case hop=>
    intro i o L t w' hil ho hLi hx hdep K hK;obtain⟨hx14,hxB,hxS⟩:=hx;have cX:w'.cell? ⟨b0,off+k,aA⟩=aE (Z8 aI x):=by rw[hxB.cell (p:=⟨b0,off+k,aA⟩) hb0];exact HCX.o
    have cY:w'.cell? ⟨b1,off'+k,aA⟩=aE (Z8 aI y):=by rw[hxB.cell (p:=⟨b1,off'+k,aA⟩) hb1];exact HCY.o
    have RX:AO (∀ j,j≠11->∀ ww,Below w'.heap.size w' ww->((Cf L j 11=false->Below wr.heap.size wr ww)/\Below w.heap.size w ww/\wr.heap.size<=ww.heap.size)):=λj hj ww hb=>
     ⟨λhL=>(hx14 (by simpa[Cf,Ne.symm hj] using hL)).trans (hb.mono hxS),hxB.trans (hb.mono hxB.size),AG hb.size⟩
    have RR:AO (∀ j,j≠11->((Cf L j 11=false->Below wr.heap.size wr w')/\Below w.heap.size w w'/\wr.heap.size<=w'.heap.size)):=λj hj=>RX.o j hj w' Cg
    have RM:AO (∀ j:Nat,j≠11->Below w'.heap.size w' w'):=λ_ _=>A9 _ _
    have H14:AO (L 11=false->Below wr.heap.size wr w'):=hx14;have HXB:AO (Below w.heap.size w w'):=hxB;clear hx14 hxB;obtain rfl|rfl|rfl|rfl|rfl|rfl|rfl|rfl|rfl|rfl|rfl|rfl:i=0\/i=1\/i=2\/i=3\/i=4\/i=5\/i=6\/i=7\/i=8\/i=9\/i=10\/i=11:=AJ
    all_goals(simp at ho;subst ho)
    ·clear hdep;go_simp;exact hK w' u5 rfl (RR.o 0 AK) (RM.o 0)
    ·clear hdep;go_simp;exact hK w' (Z7 (aE ⟨b0,off,aA⟩) 16 cap) rfl (RR.o 1 AK) (RM.o 1)
    ·clear hdep;go_simp;exact hK w' (Z8 aI k) rfl (RR.o 2 AK) (RM.o 2)
    ·have d1:t 1=_:=hdep ⟨1,aL⟩ AL rfl;have d2:t 2=_:=hdep ⟨2,aL⟩ AL rfl;clear hdep;go_simp;simpa[Ce,d1,d2] using hK w' (aF (aE ⟨b0,off+k,aA⟩)) rfl (RR.o 3 AK) (RM.o 3)
    ·have d3:t 3=_:=hdep ⟨3,aL⟩ AL rfl;clear hdep;go_simp;simpa[Ce,d3] using hK w' (Z8 aI x) rfl (RR.o 4 AK) (RM.o 4)
    ·clear hdep;go_simp;exact hK w' (Z7 (aE ⟨b1,off',aA⟩) 16 cap') rfl (RR.o 5 AK) (RM.o 5)
    ·clear hdep;go_simp;exact hK w' (Z8 aI k) rfl (RR.o 6 AK) (RM.o 6)
    ·have d5:t 5=_:=hdep ⟨5,aL⟩ AL rfl;have d6:t 6=_:=hdep ⟨6,aL⟩ AL rfl;clear hdep;go_simp;simpa[Ce,d5,d6] using hK w' (aF (aE ⟨b1,off'+k,aA⟩)) rfl (RR.o 7 AK) (RM.o 7)
    ·have d7:t 7=_:=hdep ⟨7,aL⟩ AL rfl;clear hdep;go_simp;simpa[Ce,d7] using hK w' (Z8 aI y) rfl (RR.o 8 AK) (RM.o 8)
    ·have d4:t 4=_:=hdep ⟨4,aL⟩ AL rfl;have d8:t 8=_:=hdep ⟨8,aL⟩ AL rfl;clear hdep;go_simp;simpa[Ce,d4,d8,HWR.o] using hK w' (Z8 aI (x-y)) rfl (RR.o 9 AK) (RM.o 9)
    ·have d9:t 9=_:=hdep ⟨9,aL⟩ AL rfl;clear hdep;have hK':=hK (w'.alloc (.cells #[Z8 aI (x-y)] 2)) (Z7 (aE ⟨w'.heap.size,0,aA⟩) 1 1) (λ_=>⟨w'.heap.size,rfl,AL,AA (AX _ _) _⟩) (RX.o 10 AK _ (Ck _ _)) (λ_=>Ck _ _);clear hK;go_simp;simpa[Ce,d9] using hK'
    ·have d0:t 0=_:=hdep ⟨0,aL⟩ AL rfl;have d10:=hdep ⟨10,aL⟩ AL rfl;obtain⟨g',e10,hg',cc0⟩:=d10 hLi;clear hdep d10;have hO:=HO.o.grow (H14.o hLi);refine K5 (a:=_) _ Vm _ _ rfl w.heap.size _ zs (by first|exact d0|(simp[d0];done)) hO ⟨g',0,aA⟩ 1 1 [x-y] (by first|exact e10|(simp[e10];done)) rfl ?_ ?_ ?_ ?_
     ·intro j hj;obtain rfl:j=0:=AJ
      rw[Az];exact cc0
     ·rw[HTL.o];omega
     ·exact HXB.o.size
     ·intro v' w9 hown' hbel';exact hK w9 v' hown' ⟨λh=>by simp[Cf] at h,HXB.o.trans hbel',AH hbel'.size HXB.o.size⟩ (λh=>absurd rfl h)
   case hend=>
    intro o L t w' ho hx hg K hK;simp at ho;subst ho;obtain⟨hx14,hxB,hxS⟩:=hx;have O14:D3 w' w.heap.size (t 11) (zs++[x-y]):=hg 11 AK;have HXB:AO (Below w.heap.size w w'):=hxB;have HO14:AO (D3 w' w.heap.size (t 11) ((GD xs ys).take (k+1))):=by rw[HTK.o];exact O14
    clear hg O14 hx14 hxB hxS;go_simp;refine hK _ _ ?_;go_wp2;go_roundw
    case rel=>exact⟨k+1,AJ,by go_num,HO14.o,HXB.o⟩
    case measure=>simp[intOf];omega
  ·have hk16:k=16:=AJ
   have ho:D3 wr w.heap.size u5 (GD xs ys):=by rw[hk16,Ad (by rw[E6];decide)] at hown;exact hown
   obtain⟨g,c,rfl,hg,hg',hA⟩:=ho.at_;rw[E6];clear ho hown;have hlt':¬ (k:Int)<16:=AJ
   go_wp2_with fail;refine(Dw _ c (GD xs ys) _ (E6 _ _) hA 131400 3 HB1.o AK AK AK AK).mono ?_;rintro e w2 h2;have HP:AO (ND w ((fv xs-fv ys)%fp) e w2):=by
    obtain⟨g2,c2,rfl,p1,p2,p3,p4⟩:=h2.fe HT.o.1 HT.o.2;exact⟨g2,c2,rfl,AG hbel.size,p2,p3,hbel.trans (p4.mono hbel.size)⟩
   obtain⟨g2,c2,rfl,_⟩:=h2;clear hA hbel hk16;go_wp2
   go_ret
   exact HP.o
def Tg:List Nat:=[23241441160490167842,26604808713878332877,31543488660544240431,35287351959220771772,41025191555757552952,43374469216020582425,47431773444313272219,49223322299838333208,52460086356995146306,56674242196778545086,57948244932766773900,61468643694135456994,63608380943893236079,64626287408284341937,66571091106846937653,69291241975837173396,71813108563482594002,72615556083564357091,74922338351982630325,76384605279477341285,77095200552867529333,79152035218479047811,80466001307761769428,82360010132597855157,84757271453788200875,85906662539289440784,86470001012957192511,87575168524888248036,88117443448470540226,89182409882623190821,92723033081372705391,93686458245878541936,95095488024300105724,95556006044611561766,97794660939065469677,98230277650290947039,99514478923103560670,100766364611844223656,101583977345534766822,102786266195516601659,103961068102722061156,104346826991781163009,106234157551817627537,106603670640207904304,107335108066752287256,107697117917222381840,109819772810290077738,111863398698143437240,112528278492720320712,112857792170093030227,113511107980111571865,114477206417490790568,114795642568024087139,116361942610802215627,117281838038729876339,118187525164200278179,119079540232616391420,119373928427484032864,120248493880617511794,120824543361758411244,121110519679094562344,122520547622920568297,124441674862916172053,124979807718728684331,125247145020423037340,125778422408467759623,127603441353585912606,128369846764518166904,129627222056361226170,129875788766833580198,130370087684295691694,131104582549941012251,132071287192121802116,132787134709014930579,133495346155087314620,133963344184962190668,134659270149180113590,135576127461610847786,136029942151059536620,136928597060811708439,26087635650665564424,31950697969885030203,41248173712355948587,48805497317890012913,61180928696206656209,66510681623121259551,76057874264641092971,80407493254657745273]
def tab:List Nat:=Tg.map (·%18446744073709551616)
theorem Xf:∀ t<80,Tg.getD t 0^3<=FA.getD (t+1) 0*2^(64*3)/\FA.getD (t+1) 0*2^(64*3)<(Tg.getD t 0+1)^3:=by decide +kernel
theorem Xg:∀ t<8,Tg.getD (80+t) 0^2<=FA.getD (t+1) 0*2^(64*2)/\FA.getD (t+1) 0*2^(64*2)<(Tg.getD (80+t) 0+1)^2:=by decide +kernel
theorem Q9:∀ t<80,FA.getD (t+1) 0<=409:=by decide +kernel
theorem T7:∀ t<8,FA.getD (t+1) 0<64:=by decide +kernel
theorem K6 (t:Nat):tab.getD t 0=Tg.getD t 0%18446744073709551616:=by
 simp only[tab,List.getD_eq_getElem?_getD,List.getElem?_map];cases Tg[t]?<;>simp
theorem JX {X R T e:Nat} (h1:X^e<=T) (h2:T<(X+1)^e) (h3:R^e<=T) (h4:T<(R+1)^e):X=R:=by
 rcases Nat.lt_trichotomy X R with h|h|h
 ·have:=Nat.pow_le_pow_left (show X+1<=R from h) e;omega
 ·exact h
 ·have:=Nat.pow_le_pow_left (show R+1<=X from h) e;omega
def Pl (t:Int):Int:=if 0<=t/\t<88 then(tab.getD t.toNat 0:Nat) else 0
theorem Yx (n:Nat) (hn:n<80):∃ p R:Nat,(∀ w,Calls tP 119 #[Z8 aI n] w λe w'=>e=.returned (Z8 .u64 p)/\w'=w)/\p<=409/\R^3<=p*2^(64*3)/\p*2^(64*3)<(R+1)^3/\Pl (n:Int)=(R:Int)%18446744073709551616:=by
 refine⟨FA.getD (n+1) 0,Tg.getD n 0,λw=>KH n w hn,Q9 n hn,(Xf n hn).1,(Xf n hn).2,?_⟩;unfold Pl;rw[AP AJ,Bq,K6];exact Int.natCast_emod _ _
theorem Yy (n:Nat) (hn:n<8):∃ p R:Nat,(∀ w,Calls tP 119 #[Z8 aI n] w λe w'=>e=.returned (Z8 .u64 p)/\w'=w)/\p<=409/\p<64/\R^2<=p*2^(64*2)/\p*2^(64*2)<(R+1)^2/\Pl (80+(n:Int))=(R:Int)%18446744073709551616:=by
 refine⟨FA.getD (n+1) 0,Tg.getD (80+n) 0,λw=>KH n w AJ,Q9 n AJ,T7 n hn,(Xg n hn).1,(Xg n hn).2,?_⟩;unfold Pl;rw[AP AJ,show(80+(n:Int)).toNat=80+n by omega,K6];exact Int.natCast_emod _ _
theorem T8 (t:Int) (w:aC) (h0:-9223372036854775808<=t) (h1:t<=9223372036854775807) :
  Calls tP 95 #[Z8 aI t] w λe w'=>e=.returned (Z8 .u64 (Pl t))/\Below w.heap.size w w':=by
 by_cases ha:0<=t
 ·by_cases hb:t<80
  ·obtain⟨n,rfl⟩:=Aj ha;obtain⟨p,R,hp,hp1,hp2,hp3,e⟩:=Yx n AJ;generalize Pl (n:Int)=r at *;have HE:AO (r=(R:Int)%18446744073709551616):=e;clear e;go_enter func95,ntmps95;go_wp2_with fail;refine(hp _).mono ?_;rintro e w1 ⟨rfl,rfl⟩;go_wp2_with fail;have A:=KO p 3 w1 hp1 (.inr rfl);refine A.mono ?_;rintro e w2 ⟨X,rfl,x1,x2,B⟩;rw[JX x1 x2 hp2 hp3,<-HE.o];have HB:AO (Below w1.heap.size w1 w2):=B;clear B x1 x2 A hp hp2 hp3 HE;go_wp2
   go_ret
   exact⟨rfl,HB.o⟩
  ·by_cases hc:t<88
   ·obtain⟨n,hn⟩:∃ n:Nat,t=80+(n:Int):=⟨(t-80).toNat,AJ⟩
    obtain⟨p,R,hp,hp1,hp4,hp2,hp3,e⟩:=Yy n AJ;rw[<-hn] at e;generalize Pl t=r at *;have HE:AO (r=(R:Int)%18446744073709551616):=e;have HSUB:AO (t-80=(n:Int)):=by show _=_;omega
    have hb':decide (t<80)=false:=by simpa using hb
    have ha':decide (0<=t)=true:=by simpa using ha
    have hg:80<=t:=AJ
    clear e hn;go_enter func95,ntmps95;go_wp2_with fail;rw[HSUB.o];refine(hp _).mono ?_;rintro e w1 ⟨rfl,rfl⟩;go_wp2_with fail;have A:=KO p 2 w1 hp1 (.inl ⟨rfl,hp4⟩);refine A.mono ?_;rintro e w2 ⟨X,rfl,x1,x2,B⟩;rw[JX x1 x2 hp2 hp3,<-HE.o];have HB:AO (Below w1.heap.size w1 w2):=B;clear B x1 x2 A hp hp2 hp3 HE;go_wp2
    go_ret
    exact⟨rfl,HB.o⟩
   ·have e:Pl t=0:=by unfold Pl;rw[AQ AJ]
    rw[e];go_enter func95,ntmps95;go_wp2
    go_ret
    exact⟨rfl,A9 _ _⟩
 ·have e:Pl t=0:=by unfold Pl;rw[AQ AJ]
  rw[e];have ha':decide (0<=t)=false:=by simpa using ha
  go_enter func95,ntmps95;go_wp2
  go_ret
  exact⟨rfl,A9 _ _⟩
def D4 (w:aC):Prop:=∀ i,i<88->w.cell? ⟨1,i,aA⟩=aE (Z8 .u64 (tab.getD i 0:Nat))
end Go.Proofs.YtjdhhgaelgemcaaGreatDoor
