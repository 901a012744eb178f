import Derived.Test.YtncomnkdlpoelaaGreatDoorMCatZ
open Go.Proofs.Tryz renaming prog->tP
open Go.Proofs.Tryz
open Go.Value renaming slice->aM,int->aO,pointer->aY
open Go.IntKind renaming i64->aZ,u8->aP
open Go.Ending renaming returned->aQ
open Go.Ground renaming data->ag
open Option renaming some->aR,none->aS
open Go renaming World->aV,Value->aX
set_option maxHeartbeats 4000000
set_option maxRecDepth 100000
namespace Go.Proofs.YtncomnkdlpoelaaGreatDoor
open Go.ChangeShapes Go.WideShapes Go.ChangeAt Go.RowKit
set_option linter.unusedVariables false
theorem Le (w:aV) {o:Oper} {a:Act} {K:Act->aV->Prop} {Q:Exit->Act->aV->Prop} {k:IntKind} {t s:TypeId} {by':Nat} (hk:KT k t s by')
  (sx x:Operand) (hop:o.op=Op.call { callee:=Callee.builtin Builtin.append,args:=#[sx,x],argTypes:=#[s,s] })
  (B:Nat) (v:aX) (xs:List Int) (hs:a.eval sx=v) (hown:DQ k t w B v xs) (ad:Addr) (m c:Nat) (news:List Int) (hx:a.eval x=aM (aR ad) m c) (hl:news.length=m)
  (hnews:∀ j,j<m->w.cell? (ad.add j)=aR (aO k (news.getD j 0))) (hb:xs.length+m<=1099511627776) (hB:B<=w.heap.size)
  (hK:∀ v' w',DQ k t w' B v' (xs++news)->Below B w w'->K (a.put o.dst v') w') :
  o.wp tP a w K Q:=by
 obtain⟨i0,hi,hz0,hz1,hz2⟩:=BZ hk.info;have hbase:=hown.base;have hp:=hk.pos;have hle:=hk.le;refine wp_append_own w sx x s hop B t i0 (aO k 0) 1 by' hk.und hi hz0 hz1 hz2 rfl AJ v xs.length _ hs hown.1 ad m c (news.map (Value.int k)) hx (by simp[hl]) ?_ (Az _ _) (by unfold maxLen;omega) ?_ hB ?_
 ·intro j u hu;have hj:j<news.length:=by have:=(Am.1 hu).1;simpa using this
  rw[hnews j AJ];simp[hj] at hu;simp[hj,hu]
 ·have:=Nat.mul_le_mul hb hle;omega
 ·intro v' w' h1 h2 h3;obtain⟨g,c0,hv,hBg,_,_⟩:=hbase;have hbel:=Cf.grown h2 hB (λk hk=>by rw[hv] at hk;simp[Value.ownBlock] at hk;omega);refine hK v' w' ⟨?_,?_⟩ hbel
  ·rw[BI,Ae,hl];exact h1
  ·rcases h1.2 with⟨h',_⟩|⟨g',c',cur,h',_⟩
   {exact absurd (h3.1 h').1 (by rw[hv];simp)};{exact⟨g',c',by rw[h',Ae,hl]⟩}
def YH (B:Nat) (u va vb:aX) (pa pb:Addr) (k:Nat) (x y s:Int) (zs:List Int):Nat->(Nat->Bool)->aV->aX->Prop
 |0,_,_,v=>v=u
 |1,_,_,v=>v=va
 |2,_,_,v=>v=aO aZ k
 |3,_,_,v=>v=aY (aR pa)
 |4,_,_,v=>v=aO aZ x
 |5,_,_,v=>v=vb
 |6,_,_,v=>v=aO aZ k
 |7,_,_,v=>v=aY (aR pb)
 |8,_,_,v=>v=aO aZ y
 |9,_,_,v=>v=aO aZ s
 |10,L,w,v=>L 11=false->∃ g',v=aM (aR ⟨g',0,aS⟩) 1 1/\g'<w.heap.size/\w.cell? ⟨g',0,aS⟩=aR (aO aZ s)
 |11,_,w,v=>FF w B v (zs++[s])
 |_,_,_,_=>True
theorem Mb (B:Nat) (u va vb:aX) (pa pb:Addr) (k:Nat) (x y s:Int) (zs:List Int) (j:Nat) (L:Nat->Bool) (w w':aV) (i:Nat) (v:aX) (hm:i≠11->Below w.heap.size w w') (hij:i≠j) (hL:L i=false) (h:YH B u va vb pa pb k x y s zs j L w v) :
  YH B u va vb pa pb k x y s zs j (CZ L i) w' v:=by
 unfold YH at *;split at h<;>try exact h
 ·intro h14;have hi:i≠11:=λe=>by subst e;simp[CZ] at h14
  have hL14:L 11=false:=by simpa[CZ,Ne.symm hi] using h14
  obtain⟨g',e,hg,c0⟩:=h hL14;have hb:=hm hi;exact⟨g',e,AG hb.size,by rw[hb.cell (p:=⟨g',0,aS⟩) hg];exact c0⟩
 ·exact h.grow (hm (λe=>hij e))
def Gz (xs ys:List Int):List Int:=(List.range 16).map λi=>xs.getD i 0+ys.getD i 0
theorem FH (xs ys:List Int):(Gz xs ys).length=16:=by simp[Gz]
theorem PH {xs ys:List Int} (hx:R xs) (hy:R ys):Bd 131400 (Gz xs ys):=by
 intro i;by_cases h:i<16
 ·rw[show(Gz xs ys).getD i 0=_ from I2 _ i h];have:=hx.2 i;have:=hy.2 i;omega
 ·rw[C9 (by rw[FH];omega)];omega
theorem Ue {xs ys:List Int} (hx:R xs) (hy:R ys):fv (Gz xs ys)=(fv xs+fv ys)%fp:=by
 unfold fv Gz;have e:=GU 65536 (λi=>xs.getD i 0) (λi=>ys.getD i 0) 16 (1);rw[show(λi=>xs.getD i 0+ys.getD i 0)=λi=>xs.getD i 0+1*ys.getD i 0 from by funext i;omega,e,<-DE 65536 xs 16 hx.1,<-DE 65536 ys 16 hy.1];rw[<-Int.add_emod]
 congr 1;omega
theorem Fr (a a':Option Addr) (cap cap':Nat) (x y:Int) (w:aV) (ha:Cy w a x) (ha':Cy w a' y) :
  Calls tP 83 #[aM a 16 cap,aM a' 16 cap'] w (NT w ((x+y)%fp)):=by
 obtain⟨xs,hA,hR,rfl⟩:=ha;obtain⟨ys,hA',hR',rfl⟩:=ha';obtain⟨b0,off,rfl,hb0,hc⟩:=hA.get (AG hR.1);obtain⟨b1,off',rfl,hb1,hc'⟩:=hA'.get (AG hR'.1);obtain⟨t1,t2⟩:=Vl (FH xs ys) (PH hR hR');have HT:AO (R (Ci (Gz xs ys))/\fv (Ci (Gz xs ys))=(fv xs+fv ys)%fp):=⟨t1,by rw[t2,Ue hR hR']⟩
 have HB1:=CY <| PH hR hR'
 have HC:AO (∀ i,i<16->w.cell? ⟨b0,off+i,aS⟩=aR (aO aZ (xs.getD i 0))):=λi hi=>hc i (AG hR.1)
 have HC':AO (∀ i,i<16->w.cell? ⟨b1,off'+i,aS⟩=aR (aO aZ (ys.getD i 0))):=λi hi=>hc' i (AG hR'.1)
 have HR:AO (R xs/\R ys):=⟨hR,hR'⟩
 go_enter func83,ntmps83;go_wp2
 go_loopw [5,6] (λv i wr=>∃ k:Nat,k<=16/\i=aO aZ k/\FF wr w.heap.size v ((Gz xs ys).take k)/\Below w.heap.size w wr) (λ_ i _=>16-(intOf i).toNat)
 case atStart=>exact⟨0,AK,rfl,DQ.empty _ _ Ch,Cf.alloc Ch _⟩
 case round=>
  obtain⟨k,hk,rfl,hown,hbel⟩:=hrel;by_cases hlt:k<16
  ·have hlt':(k:Int)<16:=AJ
   have HO:=CY <| hown
   have HBE:=CY <| hbel
   have hx:=(HR.o.1).2 k;have hy:=(HR.o.2).2 k;obtain⟨x0,x1⟩:=hx;obtain⟨y0,y1⟩:=hy;have HTK:AO ((Gz xs ys).take (k+1)=(Gz xs ys).take k++[xs.getD k 0+ys.getD k 0]):=by
    show _=_
    have e:(Gz xs ys).getD k 0=xs.getD k 0+ys.getD k 0:=I2 _ k hlt;rw[<-e,A5 (by rw[FH];exact hlt),AX,As (by rw[FH];exact hlt)];rfl
   have HTL:AO (((Gz xs ys).take k).length=k):=by show _=_;rw[Aq,FH];omega
   have HCX:=CY <| HC.o k hlt
   have HCY:=CY <| HC'.o k hlt
   have hsz:=hbel.size;generalize (Gz xs ys).take k=zs at *;generalize xs.getD k 0=x at *;generalize ys.getD k 0=y at *;have HWR:AO (IntKind.i64.wrap (x+y)=x+y):=by show _=_;rw[Ak];omega
   go_wp2;refine Ag AM ?_;refine Ei 12 (λi w w'=>i≠11->Below w.heap.size w w') (frame:=(λ(a b c d e f g h i j k l m n:aX)=>λ(t:Nat->aX)=>({ tmps:=List.toArray [a,b,c,d,e,f,g,h,i,j,k,l,t 0,t 1,t 2,t 3,t 4,t 5,t 6,t 7,t 8,t 9,t 10,t 11,m,n],defers:=[] }:Act)) _ _ _ _ _ _ _ _ _ _ _ _ _ _)
    (Ext:=λL w'=>(L 11=false->Below wr.heap.size wr w')/\Below w.heap.size w w'/\wr.heap.size<=w'.heap.size)
    (Good:=YH w.heap.size u5 (aM (aR ⟨b0,off,aS⟩) 16 cap) (aM (aR ⟨b1,off',aS⟩) 16 cap') ⟨b0,off+k,aS⟩ ⟨b1,off'+k,aS⟩ k x y (x+y) zs) AN AM (Mb _ _ _ _ _ _ _ _ _ _ _) AM AM ?hop ?hend _ _ ((λ(x0 x1 x2 x3 x4 x5 x6 x7 x8 x9 x10 x11:aX)=>λ(i:Nat)=>if i=0 then x0 else if i=1 then x1 else if i=2 then x2 else if i=3 then x3 else if i=4 then x4 else if i=5 then x5 else if i=6 then x6 else if i=7 then x7 else if i=8 then x8 else if i=9 then x9 else if i=10 then x10 else if i=11 then x11 else undef) _ _ _ _ _ _ _ _ _ _ _ _) _ AL AL ?ext ?start AL
   case start=>intro i hi h;exact absurd h Ef
   case ext=>exact⟨λ_=>Cf.drew,⟨HBE.o.os,HBE.o.tape,HBE.o.output,HBE.o.size,HBE.o.block⟩,Aa _⟩
   case hop=>
    intro i o L t w' hil ho hLi hx hdep K hK;obtain⟨hx14,hxB,hxS⟩:=hx;have cX:w'.cell? ⟨b0,off+k,aS⟩=aR (aO aZ x):=by rw[hxB.cell (p:=⟨b0,off+k,aS⟩) hb0];exact HCX.o
    have cY:w'.cell? ⟨b1,off'+k,aS⟩=aR (aO aZ y):=by rw[hxB.cell (p:=⟨b1,off'+k,aS⟩) hb1];exact HCY.o
    have RX:AO (∀ j,j≠11->∀ ww,Below w'.heap.size w' ww->((CZ L j 11=false->Below wr.heap.size wr ww)/\Below w.heap.size w ww/\wr.heap.size<=ww.heap.size)):=λj hj ww hb=>
     ⟨λhL=>(hx14 (by simpa[CZ,Ne.symm hj] using hL)).trans (hb.mono hxS),hxB.trans (hb.mono hxB.size),AG hb.size⟩
    have RR:AO (∀ j,j≠11->((CZ L j 11=false->Below wr.heap.size wr w')/\Below w.heap.size w w'/\wr.heap.size<=w'.heap.size)):=λj hj=>RX.o j hj w' Cf
    have RM:AO (∀ j:Nat,j≠11->Below w'.heap.size w' w'):=λ_ _=>A8 _ _
    have H14:=CY <| hx14
    have HXB:=CY <| hxB
    obtain rfl|rfl|rfl|rfl|rfl|rfl|rfl|rfl|rfl|rfl|rfl|rfl:i=0\/i=1\/i=2\/i=3\/i=4\/i=5\/i=6\/i=7\/i=8\/i=9\/i=10\/i=11:=AJ
    all_goals(simp at ho;subst ho)
    {clear hdep;go_simp;exact hK w' u5 rfl (RR.o 0 AK) (RM.o 0)};{clear hdep;go_simp;exact hK w' (aM (aR ⟨b0,off,aS⟩) 16 cap) rfl (RR.o 1 AK) (RM.o 1)};{clear hdep;go_simp;exact hK w' (aO aZ k) rfl (RR.o 2 AK) (RM.o 2)};{have d1:t 1=_:=hdep ⟨1,ag⟩ AL rfl;have d2:t 2=_:=hdep ⟨2,ag⟩ AL rfl;go_simp;simpa[Ca,d1,d2] using hK w' (aY (aR ⟨b0,off+k,aS⟩)) rfl (RR.o 3 AK) (RM.o 3)};{have d3:t 3=_:=hdep ⟨3,ag⟩ AL rfl;go_simp;simpa[Ca,d3] using hK w' (aO aZ x) rfl (RR.o 4 AK) (RM.o 4)};{clear hdep;go_simp;exact hK w' (aM (aR ⟨b1,off',aS⟩) 16 cap') rfl (RR.o 5 AK) (RM.o 5)};{clear hdep;go_simp;exact hK w' (aO aZ k) rfl (RR.o 6 AK) (RM.o 6)};{have d5:t 5=_:=hdep ⟨5,ag⟩ AL rfl;have d6:t 6=_:=hdep ⟨6,ag⟩ AL rfl;go_simp;simpa[Ca,d5,d6] using hK w' (aY (aR ⟨b1,off'+k,aS⟩)) rfl (RR.o 7 AK) (RM.o 7)};{have d7:t 7=_:=hdep ⟨7,ag⟩ AL rfl;go_simp;simpa[Ca,d7] using hK w' (aO aZ y) rfl (RR.o 8 AK) (RM.o 8)};{have d4:t 4=_:=hdep ⟨4,ag⟩ AL rfl;have d8:t 8=_:=hdep ⟨8,ag⟩ AL rfl;go_simp;simpa[Ca,d4,d8,HWR.o] using hK w' (aO aZ (x+y)) rfl (RR.o 9 AK) (RM.o 9)};{have d9:t 9=_:=hdep ⟨9,ag⟩ AL rfl;have hK':=hK (w'.alloc (.cells #[aO aZ (x+y)] 2)) (aM (aR ⟨w'.heap.size,0,aS⟩) 1 1) (λ_=>⟨w'.heap.size,rfl,AL,AA (AS _ _) _⟩) (RX.o 10 AK _ (Ce _ _)) (λ_=>Ce _ _);go_simp;simpa[Ca,d9] using hK'}
    ·have d0:=hdep ⟨0,ag⟩ AL rfl;have d10:=hdep ⟨10,ag⟩ AL rfl;obtain⟨g',e10,hg',cc0⟩:=d10 hLi;have hO:=HO.o.grow (H14.o hLi);refine Le (a:=_) _ Vm _ _ rfl w.heap.size _ zs (by first|exact d0|(simp[d0];done)) hO ⟨g',0,aS⟩ 1 1 [x+y] (by first|exact e10|(simp[e10];done)) rfl ?_ ?_ ?_ ?_
     ·intro j hj;obtain rfl:j=0:=AJ
      rw[A0];exact cc0
     {rw[HTL.o];omega};{exact HXB.o.size};{intro v' w9 hown' hbel';exact hK w9 v' hown' ⟨λh=>by simp[CZ] at h,HXB.o.trans hbel',AH hbel'.size HXB.o.size⟩ (λh=>absurd rfl h)}
   case hend=>
    intro o L t w' ho hx hg K hK;simp at ho;subst ho;obtain⟨hx14,hxB,hxS⟩:=hx;have O14:=hg 11 AK;have HXB:=CY <| hxB
    have HO14:AO (FF w' w.heap.size (t 11) ((Gz xs ys).take (k+1))):=by rw[HTK.o];exact O14
    go_simp;refine hK _ _ ?_;go_wp2;go_roundw
    case rel=>exact⟨k+1,AJ,by go_num,HO14.o,HXB.o⟩
    case measure=>simp[intOf];omega
  ·have hk16:k=16:=AJ
   have ho:FF wr w.heap.size u5 (Gz xs ys):=by rw[hk16,Ad (by rw[FH];decide)] at hown;exact hown
   obtain⟨g,c,rfl,hg,hg',hA⟩:=ho.at_;rw[FH];have hlt':¬ (k:Int)<16:=AJ
   go_wp2_with fail;refine(Dt _ c (Gz xs ys) _ (FH _ _) hA 131400 3 HB1.o AK AK AK AK).mono ?_;rintro e w2 h2;have HP:AO (NT w ((fv xs+fv ys)%fp) e w2):=by
    obtain⟨g2,c2,rfl,p1,p2,p3,p4⟩:=h2.fe HT.o.1 HT.o.2;exact⟨g2,c2,rfl,AG hbel.size,p2,p3,hbel.trans (p4.mono hbel.size)⟩
   obtain⟨g2,c2,rfl,_⟩:=h2;go_wp2
   go_ret
   exact HP.o
def G0 (xs ys:List Int):List Int:=(List.range 16).map λi=>xs.getD i 0-ys.getD i 0
theorem FI (xs ys:List Int):(G0 xs ys).length=16:=by simp[G0]
theorem PI {xs ys:List Int} (hx:R xs) (hy:R ys):Bd 131400 (G0 xs ys):=by
 intro i;by_cases h:i<16
 ·rw[show(G0 xs ys).getD i 0=_ from I2 _ i h];have:=hx.2 i;have:=hy.2 i;omega
 ·rw[C9 (by rw[FI];omega)];omega
theorem Uf {xs ys:List Int} (hx:R xs) (hy:R ys):fv (G0 xs ys)=(fv xs-fv ys)%fp:=by
 unfold fv G0;have e:=GU 65536 (λi=>xs.getD i 0) (λi=>ys.getD i 0) 16 (-1);rw[show(λi=>xs.getD i 0-ys.getD i 0)=λi=>xs.getD i 0+-1*ys.getD i 0 from by funext i;omega,e,<-DE 65536 xs 16 hx.1,<-DE 65536 ys 16 hy.1];rw[<-Int.sub_emod]
 congr 1;omega
theorem Fs (a a':Option Addr) (cap cap':Nat) (x y:Int) (w:aV) (ha:Cy w a x) (ha':Cy w a' y) :
  Calls tP 82 #[aM a 16 cap,aM a' 16 cap'] w (NT w ((x-y)%fp)):=by
 obtain⟨xs,hA,hR,rfl⟩:=ha;obtain⟨ys,hA',hR',rfl⟩:=ha';obtain⟨b0,off,rfl,hb0,hc⟩:=hA.get (AG hR.1);obtain⟨b1,off',rfl,hb1,hc'⟩:=hA'.get (AG hR'.1);obtain⟨t1,t2⟩:=Vl (FI xs ys) (PI hR hR');have HT:AO (R (Ci (G0 xs ys))/\fv (Ci (G0 xs ys))=(fv xs-fv ys)%fp):=⟨t1,by rw[t2,Uf hR hR']⟩
 have HB1:=CY <| PI hR hR'
 have HC:AO (∀ i,i<16->w.cell? ⟨b0,off+i,aS⟩=aR (aO aZ (xs.getD i 0))):=λi hi=>hc i (AG hR.1)
 have HC':AO (∀ i,i<16->w.cell? ⟨b1,off'+i,aS⟩=aR (aO aZ (ys.getD i 0))):=λi hi=>hc' i (AG hR'.1)
 have HR:AO (R xs/\R ys):=⟨hR,hR'⟩
 go_enter func82,ntmps82;go_wp2
 go_loopw [5,6] (λv i wr=>∃ k:Nat,k<=16/\i=aO aZ k/\FF wr w.heap.size v ((G0 xs ys).take k)/\Below w.heap.size w wr) (λ_ i _=>16-(intOf i).toNat)
 case atStart=>exact⟨0,AK,rfl,DQ.empty _ _ Ch,Cf.alloc Ch _⟩
 case round=>
  obtain⟨k,hk,rfl,hown,hbel⟩:=hrel;by_cases hlt:k<16
  ·have hlt':(k:Int)<16:=AJ
   have HO:=CY <| hown
   have HBE:=CY <| hbel
   have hx:=(HR.o.1).2 k;have hy:=(HR.o.2).2 k;obtain⟨x0,x1⟩:=hx;obtain⟨y0,y1⟩:=hy;have HTK:AO ((G0 xs ys).take (k+1)=(G0 xs ys).take k++[xs.getD k 0-ys.getD k 0]):=by
    show _=_
    have e:(G0 xs ys).getD k 0=xs.getD k 0-ys.getD k 0:=I2 _ k hlt;rw[<-e,A5 (by rw[FI];exact hlt),AX,As (by rw[FI];exact hlt)];rfl
   have HTL:AO (((G0 xs ys).take k).length=k):=by show _=_;rw[Aq,FI];omega
   have HCX:=CY <| HC.o k hlt
   have HCY:=CY <| HC'.o k hlt
   have hsz:=hbel.size;generalize (G0 xs ys).take k=zs at *;generalize xs.getD k 0=x at *;generalize ys.getD k 0=y at *;have HWR:AO (IntKind.i64.wrap (x-y)=x-y):=by show _=_;rw[Ak];omega
   go_wp2;refine Ag AM ?_;refine Ei 12 (λi w w'=>i≠11->Below w.heap.size w w') (frame:=(λ(a b c d e f g h i j k l m n:aX)=>λ(t:Nat->aX)=>({ tmps:=List.toArray [a,b,c,d,e,f,g,h,i,j,k,l,t 0,t 1,t 2,t 3,t 4,t 5,t 6,t 7,t 8,t 9,t 10,t 11,m,n],defers:=[] }:Act)) _ _ _ _ _ _ _ _ _ _ _ _ _ _)
    (Ext:=λL w'=>(L 11=false->Below wr.heap.size wr w')/\Below w.heap.size w w'/\wr.heap.size<=w'.heap.size)
    (Good:=YH w.heap.size u5 (aM (aR ⟨b0,off,aS⟩) 16 cap) (aM (aR ⟨b1,off',aS⟩) 16 cap') ⟨b0,off+k,aS⟩ ⟨b1,off'+k,aS⟩ k x y (x-y) zs) AN AM (Mb _ _ _ _ _ _ _ _ _ _ _) AM AM ?hop ?hend _ _ ((λ(x0 x1 x2 x3 x4 x5 x6 x7 x8 x9 x10 x11:aX)=>λ(i:Nat)=>if i=0 then x0 else if i=1 then x1 else if i=2 then x2 else if i=3 then x3 else if i=4 then x4 else if i=5 then x5 else if i=6 then x6 else if i=7 then x7 else if i=8 then x8 else if i=9 then x9 else if i=10 then x10 else if i=11 then x11 else undef) _ _ _ _ _ _ _ _ _ _ _ _) _ AL AL ?ext ?start AL
   case start=>intro i hi h;exact absurd h Ef
   case ext=>exact⟨λ_=>Cf.drew,⟨HBE.o.os,HBE.o.tape,HBE.o.output,HBE.o.size,HBE.o.block⟩,Aa _⟩
   case hop=>
    intro i o L t w' hil ho hLi hx hdep K hK;obtain⟨hx14,hxB,hxS⟩:=hx;have cX:w'.cell? ⟨b0,off+k,aS⟩=aR (aO aZ x):=by rw[hxB.cell (p:=⟨b0,off+k,aS⟩) hb0];exact HCX.o
    have cY:w'.cell? ⟨b1,off'+k,aS⟩=aR (aO aZ y):=by rw[hxB.cell (p:=⟨b1,off'+k,aS⟩) hb1];exact HCY.o
    have RX:AO (∀ j,j≠11->∀ ww,Below w'.heap.size w' ww->((CZ L j 11=false->Below wr.heap.size wr ww)/\Below w.heap.size w ww/\wr.heap.size<=ww.heap.size)):=λj hj ww hb=>
     ⟨λhL=>(hx14 (by simpa[CZ,Ne.symm hj] using hL)).trans (hb.mono hxS),hxB.trans (hb.mono hxB.size),AG hb.size⟩
    have RR:AO (∀ j,j≠11->((CZ L j 11=false->Below wr.heap.size wr w')/\Below w.heap.size w w'/\wr.heap.size<=w'.heap.size)):=λj hj=>RX.o j hj w' Cf
    have RM:AO (∀ j:Nat,j≠11->Below w'.heap.size w' w'):=λ_ _=>A8 _ _
    have H14:=CY <| hx14
    have HXB:=CY <| hxB
    obtain rfl|rfl|rfl|rfl|rfl|rfl|rfl|rfl|rfl|rfl|rfl|rfl:i=0\/i=1\/i=2\/i=3\/i=4\/i=5\/i=6\/i=7\/i=8\/i=9\/i=10\/i=11:=AJ
    all_goals(simp at ho;subst ho)
    {clear hdep;go_simp;exact hK w' u5 rfl (RR.o 0 AK) (RM.o 0)};{clear hdep;go_simp;exact hK w' (aM (aR ⟨b0,off,aS⟩) 16 cap) rfl (RR.o 1 AK) (RM.o 1)};{clear hdep;go_simp;exact hK w' (aO aZ k) rfl (RR.o 2 AK) (RM.o 2)};{have d1:t 1=_:=hdep ⟨1,ag⟩ AL rfl;have d2:t 2=_:=hdep ⟨2,ag⟩ AL rfl;go_simp;simpa[Ca,d1,d2] using hK w' (aY (aR ⟨b0,off+k,aS⟩)) rfl (RR.o 3 AK) (RM.o 3)};{have d3:t 3=_:=hdep ⟨3,ag⟩ AL rfl;go_simp;simpa[Ca,d3] using hK w' (aO aZ x) rfl (RR.o 4 AK) (RM.o 4)};{clear hdep;go_simp;exact hK w' (aM (aR ⟨b1,off',aS⟩) 16 cap') rfl (RR.o 5 AK) (RM.o 5)};{clear hdep;go_simp;exact hK w' (aO aZ k) rfl (RR.o 6 AK) (RM.o 6)};{have d5:t 5=_:=hdep ⟨5,ag⟩ AL rfl;have d6:t 6=_:=hdep ⟨6,ag⟩ AL rfl;go_simp;simpa[Ca,d5,d6] using hK w' (aY (aR ⟨b1,off'+k,aS⟩)) rfl (RR.o 7 AK) (RM.o 7)};{have d7:t 7=_:=hdep ⟨7,ag⟩ AL rfl;go_simp;simpa[Ca,d7] using hK w' (aO aZ y) rfl (RR.o 8 AK) (RM.o 8)};{have d4:t 4=_:=hdep ⟨4,ag⟩ AL rfl;have d8:t 8=_:=hdep ⟨8,ag⟩ AL rfl;go_simp;simpa[Ca,d4,d8,HWR.o] using hK w' (aO aZ (x-y)) rfl (RR.o 9 AK) (RM.o 9)};{have d9:t 9=_:=hdep ⟨9,ag⟩ AL rfl;have hK':=hK (w'.alloc (.cells #[aO aZ (x-y)] 2)) (aM (aR ⟨w'.heap.size,0,aS⟩) 1 1) (λ_=>⟨w'.heap.size,rfl,AL,AA (AS _ _) _⟩) (RX.o 10 AK _ (Ce _ _)) (λ_=>Ce _ _);go_simp;simpa[Ca,d9] using hK'}
    ·have d0:=hdep ⟨0,ag⟩ AL rfl;have d10:=hdep ⟨10,ag⟩ AL rfl;obtain⟨g',e10,hg',cc0⟩:=d10 hLi;have hO:=HO.o.grow (H14.o hLi);refine Le (a:=_) _ Vm _ _ rfl w.heap.size _ zs (by first|exact d0|(simp[d0];done)) hO ⟨g',0,aS⟩ 1 1 [x-y] (by first|exact e10|(simp[e10];done)) rfl ?_ ?_ ?_ ?_
     ·intro j hj;obtain rfl:j=0:=AJ
      rw[A0];exact cc0
     {rw[HTL.o];omega};{exact HXB.o.size};{intro v' w9 hown' hbel';exact hK w9 v' hown' ⟨λh=>by simp[CZ] at h,HXB.o.trans hbel',AH hbel'.size HXB.o.size⟩ (λh=>absurd rfl h)}
   case hend=>
    intro o L t w' ho hx hg K hK;simp at ho;subst ho;obtain⟨hx14,hxB,hxS⟩:=hx;have O14:=hg 11 AK;have HXB:=CY <| hxB
    have HO14:AO (FF w' w.heap.size (t 11) ((G0 xs ys).take (k+1))):=by rw[HTK.o];exact O14
    go_simp;refine hK _ _ ?_;go_wp2;go_roundw
    case rel=>exact⟨k+1,AJ,by go_num,HO14.o,HXB.o⟩
    case measure=>simp[intOf];omega
  ·have hk16:k=16:=AJ
   have ho:FF wr w.heap.size u5 (G0 xs ys):=by rw[hk16,Ad (by rw[FI];decide)] at hown;exact hown
   obtain⟨g,c,rfl,hg,hg',hA⟩:=ho.at_;rw[FI];have hlt':¬ (k:Int)<16:=AJ
   go_wp2_with fail;refine(Dt _ c (G0 xs ys) _ (FI _ _) hA 131400 3 HB1.o AK AK AK AK).mono ?_;rintro e w2 h2;have HP:AO (NT w ((fv xs-fv ys)%fp) e w2):=by
    obtain⟨g2,c2,rfl,p1,p2,p3,p4⟩:=h2.fe HT.o.1 HT.o.2;exact⟨g2,c2,rfl,AG hbel.size,p2,p3,hbel.trans (p4.mono hbel.size)⟩
   obtain⟨g2,c2,rfl,_⟩:=h2;go_wp2
   go_ret
   exact HP.o
theorem Ug (i:Nat) (w:aV) (hi:i<16):Calls tP 81 #[aO aZ i] w λe w'=>e=aQ (aO aZ (pD.getD i 0))/\w'=w:=by
 rw[WU i hi];by_cases h0:i=0
 ·subst h0;go_enter func81,ntmps81;go_wp2
  go_ret
  exact⟨rfl,rfl⟩
 ·rw[AQ h0];have h0':((i:Int) == 0)=false:=by simp;omega
  by_cases h15:i=15
  ·subst h15;go_enter func81,ntmps81;go_wp2
   go_ret
   exact⟨rfl,rfl⟩
  ·rw[AQ h15];have h15':((i:Int) == 15)=false:=by simp;omega
   go_enter func81,ntmps81;go_wp2
   go_ret
   exact⟨rfl,rfl⟩
def Vu (w:aV) (a:Option Addr) (x:Int):Prop:=∃ zs,At aZ w a zs/\zs.length=16/\(∀ i,0<=zs.getD i 0/\zs.getD i 0<65536)/\val 65536 zs=x
def ZM (w:aV) (x:Int) (e:Ending) (w':aV):Prop:=
 ∃ g c,e=aQ (aM (aR ⟨g,0,aS⟩) 16 c)/\w.heap.size<=g/\g<w'.heap.size/\Vu w' (aR ⟨g,0,aS⟩) x/\Below w.heap.size w w'
theorem Vu.below {w w':aV} {a:Option Addr} {x:Int} (h:Vu w a x) (hb:Below w.heap.size w w'):Vu w' a x:=by
 obtain⟨zs,h1,h2⟩:=h;exact⟨zs,h1.below hb,h2⟩
structure Yw (w:aV) (x:Int) (v:aX) (wr:aV):Prop where
 ls:∃ g c,v=aM (aR ⟨g,0,aS⟩) 16 c/\w.heap.size<=g/\g<wr.heap.size/\Vu wr (aR ⟨g,0,aS⟩) x
 below:Below w.heap.size w wr
def KA (x:Int):Int:=if fp<=x then x-fp else x
def G4 (x:Int):Nat->Int
 |0=>x
 |k+1=>KA (G4 x k)
theorem QP {x:Int} (h0:0<=x) (h1:x<65536^16):G4 x 2=x%fp:=by
 have e:(65536:Int)^16=2*fp+38:=AK
 rw[e] at h1;have e2:G4 x 2=KA (KA x):=rfl;rw[e2];unfold KA;unfold fp at *;split<;>(try split)<;>omega
theorem Eb (a:Option Addr) (cap:Nat) (x:Int) (w:aV) (ha:Cy w a x):Calls tP 56 #[aM a 16 cap] w (ZM w x):=by
 obtain⟨xs,hA,hR,hx⟩:=ha;have hd:=Pz hR;have h1b:=hR.2;have h2b:Bd 65611 (Ci xs):=by
  have hc:=MH (C:=2) hR.2 AK AK 16;exact(Gq AK hc).1
 have h3b:Bd 65535 (Ci (Ci xs)):=λi=>AG (hd i)
 have hid:=Ra (C5 _) hd;have hfv:val 65536 (Ci (Ci xs))%fp=x:=by
  rw[<-hx];have:=Gt (Ci xs) (C5 _);rw[Gt xs hR.1] at this;exact this
 have hv0:=C0 AK (Dz hd);have hv1:val 65536 (Ci (Ci xs))<65536^16:=by
  have:=Eg (B:=65536) AK (Dz hd)
  rwa [C5] at this
 have hfin:=QP hv0 hv1;rw[hfv] at hfin;have HD:=CY <| hd
 have HFIN:=CY <| hfin
 have HR:=CY <| hR.1
 go_enter func56,ntmps56;go_wp2_with fail;refine(Dt _ cap xs _ HR.o hA 65700 2 h1b AK AK AK AK).mono ?_;rintro e w1 ⟨g1,c1,rfl,o1,b1⟩;obtain⟨hA1,_,_⟩:=o1.atS;go_wp2_with fail;refine(Dt _ c1 (Ci xs) _ (C5 _) hA1 65611 2 h2b AK AK AK AK).mono ?_;rintro e w2 ⟨g2,c2,rfl,o2,b2⟩;obtain⟨hA2,_,_⟩:=o2.atS;have B2:=b1.trans (b2.mono b1.size);generalize hys:Ci (Ci xs)=ys at *;have HYL:AO (ys.length=16):=by rw[<-hys];exact C5 _
 go_wp2_with fail;refine(Dt _ c2 ys _ HYL.o hA2 65535 1 h3b AK AK AK AK).mono ?_;rintro e w3 ⟨g3,c3,rfl,o3,b3⟩;rw[hid] at o3;obtain⟨hA3,_,_⟩:=o3.atS;have B3:=B2.trans (b3.mono B2.size);go_wp2_with fail;refine(Dt _ c3 ys _ HYL.o hA3 65535 1 h3b AK AK AK AK).mono ?_;rintro e w4 ⟨g4,c4,rfl,o4,b4⟩;rw[hid] at o4;obtain⟨hA4,hg4,hg4'⟩:=o4.atS;have B4:=B3.trans (b4.mono B3.size);have HS:AO (Yw w (G4 (val 65536 ys) 0) (aM (aR ⟨g4,0,aS⟩) 16 c4) w4):=⟨⟨g4,c4,rfl,AG B3.size,hg4',⟨ys,hA4,HYL.o,HD.o,rfl⟩⟩,B4⟩
 generalize val 65536 ys=V at *;go_wp2
 go_loopw [3,4] (λv i wr=>∃ m:Nat,m<=2/\i=aO aZ m/\Yw w (G4 V m) v wr) (λ_ i _=>2-(intOf i).toNat)
 case atStart=>exact⟨0,AK,rfl,HS.o⟩
 case round=>
  obtain⟨m,hm,rfl,⟨⟨g,c,rfl,hg,hg',⟨zs,hzA,hzl,hzd,hzv⟩⟩,hbel⟩⟩:=hrel;by_cases hm2:m<2
  ·have hm2':(m:Int)<2:=AJ
   have HN:AO (G4 V (m+1)=KA (G4 V m)):=rfl;have HZ:AO (At aZ wr (aR ⟨g,0,aS⟩) zs/\zs.length=16/\(∀ i,0<=zs.getD i 0/\zs.getD i 0<65536)/\val 65536 zs=G4 V m):=⟨hzA,hzl,hzd,hzv⟩
   have HB:=CY <| hbel
   generalize G4 V m=U at *;obtain⟨w5,hw5⟩:∃ x,x=wr:=⟨_,rfl⟩
   subst hw5;go_wp2
   go_loopw [5,6,7] (λv b i wq=>∃(k:Nat) (ds:List Int) (bb:Int),k<=16/\i=aO aZ k/\b=aO aZ bb/\(bb=0\/bb=1)/\ds.length=k/\(∀ i,0<=ds.getD i 0/\ds.getD i 0<65536)/\val 65536 (zs.take k)-val 65536 (pD.take k)=val 65536 ds-bb*65536^k/\FF wq w5.heap.size v ds/\Below w5.heap.size w5 wq) (λ_ _ i _=>16-(intOf i).toNat)
   case atStart=>exact⟨0,[],0,AK,rfl,rfl,.inl rfl,rfl,λi=>AL,by simp[val],DQ.empty _ _ Ch,Cf.alloc Ch _⟩
   case round=>
    obtain⟨k,ds,bb,hk,rfl,rfl,hbb,hdl,hdd,hdv,hown,hbq⟩:=hrel;by_cases hk16:k<16
    ·have hk16':(k:Int)<16:=AJ
     have hsz:=hbq.size;have c0:wr.cell? ⟨g,k,aS⟩=aR (aO aZ (zs.getD k 0)):=by
      obtain⟨_,_,e,_,hc⟩:=HZ.o.1.get (AG HZ.o.2.1);cases e;rw[hbq.cell (p:=⟨g,k,aS⟩) hg'];have:=hc k (AG HZ.o.2.1)
      rwa [Ar] at this
     have hx:=HZ.o.2.2.1 k;have hy:=WT k;have vx:=DN 65536 zs k (AG HZ.o.2.1);have vy:=DN 65536 pD k (by simpa[pD] using hk16);obtain⟨x',b',hb',hx0',hx1',hx2⟩:∃ x' b':Int,(b'=0\/b'=1)/\0<=x'/\x'<65536/\x'-b'*65536=zs.getD k 0-pD.getD k 0-bb:=by
      by_cases h:zs.getD k 0-pD.getD k 0-bb<0
      {exact⟨zs.getD k 0-pD.getD k 0-bb+65536,1,.inr rfl,AJ,AJ,AJ⟩};{exact⟨zs.getD k 0-pD.getD k 0-bb,0,.inl rfl,AJ,AJ,AJ⟩}
     have hstep:=Ni _ _ _ _ _ _ _ _ _ _ hdv hx2;rw[<-vx,<-vy,<-Int.pow_succ,<-hdl,<-GF,hdl] at hstep;have HST:=CY <| hstep
     have HDD:AO (∀ i,0<=(ds++[x']).getD i 0/\(ds++[x']).getD i 0<65536):=by
      intro i;rcases Nat.lt_trichotomy i ds.length with h|h|h
      {rw[AX,BJ h,<-AX];exact hdd i};{subst h;rw[AX,BA Ch];simp;omega};{rw[C9 (by simp;omega)];omega}
     have HDL:=CY <| hdl
     have LP:=Ug k;clear hstep hdv vx vy hdd hdl;generalize zs.getD k 0=x at *;generalize pD.getD k 0=y at *;obtain⟨hx0,hx1⟩:=hx;obtain⟨hy0,hy1⟩:=hy;go_wp2
     go_quiet (first|(go_at_call 81;refine Calls.quiet_of_same (LP _ hk16)))
     have O2:FF (wr.drewN nq) w5.heap.size u5 ds:=hown;have B2:Below w5.heap.size w5 (wr.drewN nq):=⟨hbq.os,hbq.tape,hbq.output,hbq.size,hbq.block⟩
     have Z2:w5.heap.size<=(wr.drewN nq).heap.size:=hsz;clear hown hbq hsz c0 LP;generalize wr.drewN nq=w6 at *;have ht0:-65538<x-y-bb:=AJ
     have ht1:x-y-bb<65536:=AJ
     generalize x-y-bb=t at *;by_cases hneg:t<0
     ·obtain rfl:b'=1:=AJ
      obtain rfl:x'=t+65536:=AJ
      clear hx2 hbb hb';go_wp2_with (at_builtin;refine Dd _ Vm rfl _ _ rfl w5.heap.size _ _ rfl (O2.alloc _) ⟨w6.heap.size,0,aS⟩ 1 1 [t+65536] rfl rfl ?c1 ?c2 ?c3 ?_);all_goals first|(intro j hj;obtain rfl:j=0:=AJ
                                                                                                                                                                                        simp[Addr.add];done)|skip
      case c2=>rw[HDL.o];omega
      case c3=>first|omega|(rw[Ay];omega)
      intro v' w7 hown' hbel' _;have HO:AO (FF w7 w5.heap.size v' (ds++[t+65536])):=hown';have HB7:AO (Below w5.heap.size w5 w7):=(B2.alloc AJ _).trans hbel';clear O2 hown' B2 hbel';go_wp2;go_roundw
      case rel=>exact⟨k+1,ds++[t+65536],1,AJ,by go_num,rfl,.inr rfl,by rw[Ae,HDL.o];rfl,HDD.o,HST.o,HO.o,HB7.o⟩
      case measure=>simp[intOf];omega
     ·obtain rfl:b'=0:=AJ
      obtain rfl:x'=t:=AJ
      clear hx2 hbb hb';go_wp2_with (at_builtin;refine Dd _ Vm rfl _ _ rfl w5.heap.size _ _ rfl (O2.alloc _) ⟨w6.heap.size,0,aS⟩ 1 1 [x'] rfl rfl ?d1 ?d2 ?d3 ?_);all_goals first|(intro j hj;obtain rfl:j=0:=AJ
                                                                                                                                                                                   simp[Addr.add];done)|skip
      case d2=>rw[HDL.o];omega
      case d3=>first|omega|(rw[Ay];omega)
      intro v' w7 hown' hbel' _;have HO:=CY <| hown'
      have HB7:=CY <| (B2.alloc AJ _).trans hbel'
      go_wp2;go_roundw
      case rel=>exact⟨k+1,ds++[x'],0,AJ,by go_num,rfl,.inl rfl,by rw[Ae,HDL.o];rfl,HDD.o,HST.o,HO.o,HB7.o⟩
      case measure=>simp[intOf];omega
    ·have hk16e:k=16:=AJ
     rw[hk16e,Ad (AG HZ.o.2.1),Ad (by simp[pD]),WS,HZ.o.2.2.2] at hdv;have z0:=C0 AK (Dz hdd);have z1:val 65536 ds<65536^16:=by
      have:=Eg (B:=65536) AK (Dz hdd)
      rwa [hdl,hk16e] at this
     have hk16':¬ (k:Int)<16:=AJ
     have hUl:U<65536^16:=by
      have:=Eg (B:=65536) AK (Dz HZ.o.2.2.1)
      rwa [HZ.o.2.1,HZ.o.2.2.2] at this
     obtain⟨gd,cd,rfl,hgd,hgd',hdA⟩:=hown.at_;have hdl16:ds.length=16:=AJ
     rw[hdl16];have hs5:=HB.o.size;have HB8:=CY <| HB.o.trans (hbq.mono hs5)
     rcases hbb with rfl|rfl
     ·have HP:AO (Yw w (G4 V (m+1)) (aM (aR ⟨gd,0,aS⟩) 16 cd) wr):=by
       refine⟨⟨gd,cd,rfl,AJ,hgd',⟨ds,hdA,hdl16,hdd,?_⟩⟩,HB8.o⟩;rw[HN.o];unfold KA;rw[AP AJ];omega
      go_wp2;go_roundw
      case rel=>exact⟨m+1,AJ,by go_num,HP.o⟩
      case measure=>simp[intOf];omega
     ·have HP:AO (Yw w (G4 V (m+1)) (aM (aR ⟨g,0,aS⟩) 16 c) wr):=by
       obtain⟨q1,q2,q3,q4⟩:=HZ.o;refine⟨⟨g,c,rfl,hg,AG hbq.size,⟨zs,q1.below hbq,q2,q3,?_⟩⟩,HB8.o⟩;rw[HN.o,q4];unfold KA;rw[AQ AJ]
      go_wp2;go_roundw
      case rel=>exact⟨m+1,AJ,by go_num,HP.o⟩
      case measure=>simp[intOf];omega
  ·have hme:m=2:=AJ
   have HP:AO (ZM w x (aQ (aM (aR ⟨g,0,aS⟩) 16 c)) wr):=⟨g,c,rfl,hg,hg',⟨zs,hzA,hzl,hzd,by rw[hzv,hme];exact HFIN.o⟩,hbel⟩
   go_wp2
   go_ret
   exact HP.o
structure N1 (w:aV) (x:Int) (v:aX) (wr:aV):Prop where
 fe:∃ g c,v=aM (aR ⟨g,0,aS⟩) 16 c/\w.heap.size<=g/\g<wr.heap.size/\Cy wr (aR ⟨g,0,aS⟩) x
 below:Below w.heap.size w wr
theorem If (a:Option Addr) (cap:Nat) (x:Int) (w:aV) (ha:Cy w a x) :
  Calls tP 55 #[aM a 16 cap,aO aZ 0] w (NT w (F3 x 11 5 254 255)):=by
 have HA:=CY <| ha
 go_enter func55,ntmps55;go_wp2_with fail;refine(DA 1 _ AK AK).mono ?_;rintro e w1 ⟨g1,c1,rfl,hg1,hg1',hf1,hb1⟩;have HS:AO (N1 w (F3 x 11 5 254 0) (aM (aR ⟨g1,0,aS⟩) 16 c1) w1):=⟨⟨g1,c1,rfl,hg1,hg1',hf1⟩,hb1⟩
 go_wp2
 go_loopw [8,9] (λv i wr=>∃ j:Nat,j<=255/\i=aO aZ ((j:Int)-1)/\N1 w (F3 x 11 5 254 (255-j)) v wr) (λ_ i _=>(intOf i+1).toNat)
 case atStart=>exact⟨255,Aa _,by go_num,HS.o⟩
 case round=>
  obtain⟨j,hj,rfl,⟨⟨g,c,rfl,hg,hg',hf⟩,hbel⟩⟩:=hrel;by_cases hj0:0<j
  ·obtain⟨j,rfl⟩:∃ i,j=i+1:=⟨j-1,AJ⟩
   have ei:((j+1:Nat):Int)-1=(j:Int):=AJ
   rw[ei];have hstep:F3 x 11 5 254 (255-j)=Dw x (FW 11 5 j) (F3 x 11 5 254 (255-(j+1))):=by
    have e1:255-j=(255-(j+1))+1:=AJ
    rw[e1,F3];have e2:254-(255-(j+1))=j:=AJ
    rw[e2]
   have HST:=CY <| hstep
   generalize F3 x 11 5 254 (255-(j+1))=s at *;have HF:=CY <| hf
   have HB:=CY <| hbel
   go_wp2_with fail;refine(Cs _ _ c c s s _ HF.o HF.o).mono ?_;rintro e w2 ⟨g2,c2,rfl,hg2,hg2',hf2,hb2⟩;have HB2:=CY <| HB.o.trans (hb2.mono HB.o.size)
   have HF2:=CY <| hf2
   have HA2:=CY <| (HA.o.below HB.o).below hb2
   have hs:=HB.o.size;by_cases hge:5<=j
   ·have hge':(5:Int)<=(j:Int):=AJ
    have hge2:decide ((5:Int)<=(j:Int))=true:=by simpa using hge'
    have HPS:AO (Dw x (FW 11 5 j) s=s*s%fp*x%fp):=by show _=_;unfold FW Dw;simp[hge]
    go_wp2_with fail;refine(Cs _ _ c2 cap (s*s%fp) x _ HF2.o HA2.o).mono ?_;rintro e w3 ⟨g3,c3,rfl,hg3,hg3',hf3,hb3⟩;have HP:AO (N1 w (F3 x 11 5 254 (255-j)) (aM (aR ⟨g3,0,aS⟩) 16 c3) w3):=by
     rw[HST.o,HPS.o];exact⟨⟨g3,c3,rfl,AG HB2.o.size,hg3',hf3⟩,HB2.o.trans (hb3.mono HB2.o.size)⟩
    go_wp2;go_roundw
    case rel=>exact⟨j,AJ,rfl,HP.o⟩
    case measure=>first|(simp[intOf];done)|(simp[intOf];omega)
   ·have hge':¬ (5:Int)<=(j:Int):=AJ
    have hge2:decide ((5:Int)<=(j:Int))=false:=by simpa using hge'
    by_cases hbit:11/2^j%2=1
    ·have HPS:AO (Dw x (FW 11 5 j) s=s*s%fp*x%fp):=by show _=_;unfold FW Dw;simp[hbit]
     have hb2:((11:Int)/2^j).tmod 2=1:=by
      rw[Ah (Int.ediv_nonneg AK (Int.pow_nonneg AK))];have:(((11/2^j%2:Nat)):Int)=1:=by rw[hbit];rfl
      simpa using this
     have hb3:((11:Int)/2^j)%2=1:=by
      have:(((11/2^j%2:Nat)):Int)=1:=by rw[hbit];rfl
      simpa using this
     go_wp2_with fail;refine(Cs _ _ c2 cap (s*s%fp) x _ HF2.o HA2.o).mono ?_;rintro e w3 ⟨g3,c3,rfl,hg3,hg3',hf3,hb3'⟩;have HP:AO (N1 w (F3 x 11 5 254 (255-j)) (aM (aR ⟨g3,0,aS⟩) 16 c3) w3):=by
      rw[HST.o,HPS.o];exact⟨⟨g3,c3,rfl,AG HB2.o.size,hg3',hf3⟩,HB2.o.trans (hb3'.mono HB2.o.size)⟩
     go_wp2;go_roundw
     case rel=>exact⟨j,AJ,rfl,HP.o⟩
     case measure=>first|(simp[intOf];done)|(simp[intOf];omega)
    ·have HPS:AO (Dw x (FW 11 5 j) s=s*s%fp):=by show _=_;unfold FW Dw;simp[hge,hbit]
     have hbit0:11/2^j%2=0:=AJ
     have hb3:((11:Int)/2^j)%2=0:=by
      have:(((11/2^j%2:Nat)):Int)=0:=by rw[hbit0];rfl
      simpa using this
     have hb2:((11:Int)/2^j).tmod 2=0:=by
      rw[Ah (Int.ediv_nonneg AK (Int.pow_nonneg AK))];exact hb3
     have HP:AO (N1 w (F3 x 11 5 254 (255-j)) (aM (aR ⟨g2,0,aS⟩) 16 c2) w2):=by
      rw[HST.o,HPS.o];exact⟨⟨g2,c2,rfl,AJ,hg2',HF2.o⟩,HB2.o⟩
     go_wp2;go_roundw
     case rel=>exact⟨j,AJ,rfl,HP.o⟩
     case measure=>first|(simp[intOf];done)|(simp[intOf];omega)
  ·obtain rfl:j=0:=AJ
   have HP:AO (NT w (F3 x 11 5 254 255) (aQ (aM (aR ⟨g,0,aS⟩) 16 c)) wr):=⟨g,c,rfl,hg,hg',hf,hbel⟩
   go_wp2
   go_ret
   exact HP.o
theorem SE (a:Option Addr) (cap:Nat) (x:Int) (w:aV) (ha:Cy w a x) :
  Calls tP 55 #[aM a 16 cap,aO aZ 1] w (NT w (F3 x 5 3 251 252)):=by
 have HA:=CY <| ha
 go_enter func55,ntmps55;go_wp2_with fail;refine(DA 1 _ AK AK).mono ?_;rintro e w1 ⟨g1,c1,rfl,hg1,hg1',hf1,hb1⟩;have HS:AO (N1 w (F3 x 5 3 251 0) (aM (aR ⟨g1,0,aS⟩) 16 c1) w1):=⟨⟨g1,c1,rfl,hg1,hg1',hf1⟩,hb1⟩
 go_wp2
 go_loopw [8,9] (λv i wr=>∃ j:Nat,j<=252/\i=aO aZ ((j:Int)-1)/\N1 w (F3 x 5 3 251 (252-j)) v wr) (λ_ i _=>(intOf i+1).toNat)
 case atStart=>exact⟨252,Aa _,by go_num,HS.o⟩
 case round=>
  obtain⟨j,hj,rfl,⟨⟨g,c,rfl,hg,hg',hf⟩,hbel⟩⟩:=hrel;by_cases hj0:0<j
  ·obtain⟨j,rfl⟩:∃ i,j=i+1:=⟨j-1,AJ⟩
   have ei:((j+1:Nat):Int)-1=(j:Int):=AJ
   rw[ei];have hstep:F3 x 5 3 251 (252-j)=Dw x (FW 5 3 j) (F3 x 5 3 251 (252-(j+1))):=by
    have e1:252-j=(252-(j+1))+1:=AJ
    rw[e1,F3];have e2:251-(252-(j+1))=j:=AJ
    rw[e2]
   have HST:=CY <| hstep
   generalize F3 x 5 3 251 (252-(j+1))=s at *;have HF:=CY <| hf
   have HB:=CY <| hbel
   go_wp2_with fail;refine(Cs _ _ c c s s _ HF.o HF.o).mono ?_;rintro e w2 ⟨g2,c2,rfl,hg2,hg2',hf2,hb2⟩;have HB2:=CY <| HB.o.trans (hb2.mono HB.o.size)
   have HF2:=CY <| hf2
   have HA2:=CY <| (HA.o.below HB.o).below hb2
   have hs:=HB.o.size;by_cases hge:3<=j
   ·have hge':(3:Int)<=(j:Int):=AJ
    have hge2:decide ((3:Int)<=(j:Int))=true:=by simpa using hge'
    have HPS:AO (Dw x (FW 5 3 j) s=s*s%fp*x%fp):=by show _=_;unfold FW Dw;simp[hge]
    go_wp2_with fail;refine(Cs _ _ c2 cap (s*s%fp) x _ HF2.o HA2.o).mono ?_;rintro e w3 ⟨g3,c3,rfl,hg3,hg3',hf3,hb3⟩;have HP:AO (N1 w (F3 x 5 3 251 (252-j)) (aM (aR ⟨g3,0,aS⟩) 16 c3) w3):=by
     rw[HST.o,HPS.o];exact⟨⟨g3,c3,rfl,AG HB2.o.size,hg3',hf3⟩,HB2.o.trans (hb3.mono HB2.o.size)⟩
    go_wp2;go_roundw
    case rel=>exact⟨j,AJ,rfl,HP.o⟩
    case measure=>first|(simp[intOf];done)|(simp[intOf];omega)
   ·have hge':¬ (3:Int)<=(j:Int):=AJ
    have hge2:decide ((3:Int)<=(j:Int))=false:=by simpa using hge'
    by_cases hbit:5/2^j%2=1
    ·have HPS:AO (Dw x (FW 5 3 j) s=s*s%fp*x%fp):=by show _=_;unfold FW Dw;simp[hbit]
     have hb2:((5:Int)/2^j).tmod 2=1:=by
      rw[Ah (Int.ediv_nonneg AK (Int.pow_nonneg AK))];have:(((5/2^j%2:Nat)):Int)=1:=by rw[hbit];rfl
      simpa using this
     have hb3:((5:Int)/2^j)%2=1:=by
      have:(((5/2^j%2:Nat)):Int)=1:=by rw[hbit];rfl
      simpa using this
     go_wp2_with fail;refine(Cs _ _ c2 cap (s*s%fp) x _ HF2.o HA2.o).mono ?_;rintro e w3 ⟨g3,c3,rfl,hg3,hg3',hf3,hb3'⟩;have HP:AO (N1 w (F3 x 5 3 251 (252-j)) (aM (aR ⟨g3,0,aS⟩) 16 c3) w3):=by
      rw[HST.o,HPS.o];exact⟨⟨g3,c3,rfl,AG HB2.o.size,hg3',hf3⟩,HB2.o.trans (hb3'.mono HB2.o.size)⟩
     go_wp2;go_roundw
     case rel=>exact⟨j,AJ,rfl,HP.o⟩
     case measure=>first|(simp[intOf];done)|(simp[intOf];omega)
    ·have HPS:AO (Dw x (FW 5 3 j) s=s*s%fp):=by show _=_;unfold FW Dw;simp[hge,hbit]
     have hbit0:5/2^j%2=0:=AJ
     have hb3:((5:Int)/2^j)%2=0:=by
      have:(((5/2^j%2:Nat)):Int)=0:=by rw[hbit0];rfl
      simpa using this
     have hb2:((5:Int)/2^j).tmod 2=0:=by
      rw[Ah (Int.ediv_nonneg AK (Int.pow_nonneg AK))];exact hb3
     have HP:AO (N1 w (F3 x 5 3 251 (252-j)) (aM (aR ⟨g2,0,aS⟩) 16 c2) w2):=by
      rw[HST.o,HPS.o];exact⟨⟨g2,c2,rfl,AJ,hg2',HF2.o⟩,HB2.o⟩
     go_wp2;go_roundw
     case rel=>exact⟨j,AJ,rfl,HP.o⟩
     case measure=>first|(simp[intOf];done)|(simp[intOf];omega)
  ·obtain rfl:j=0:=AJ
   have HP:AO (NT w (F3 x 5 3 251 252) (aQ (aM (aR ⟨g,0,aS⟩) 16 c)) wr):=⟨g,c,rfl,hg,hg',hf,hbel⟩
   go_wp2
   go_ret
   exact HP.o
theorem SG (a:Option Addr) (cap:Nat) (x:Int) (w:aV) (ha:Cy w a x) :
  Calls tP 55 #[aM a 16 cap,aO aZ 2] w (NT w (F3 x 3 3 252 253)):=by
 have HA:=CY <| ha
 go_enter func55,ntmps55;go_wp2_with fail;refine(DA 1 _ AK AK).mono ?_;rintro e w1 ⟨g1,c1,rfl,hg1,hg1',hf1,hb1⟩;have HS:AO (N1 w (F3 x 3 3 252 0) (aM (aR ⟨g1,0,aS⟩) 16 c1) w1):=⟨⟨g1,c1,rfl,hg1,hg1',hf1⟩,hb1⟩
 go_wp2
 go_loopw [8,9] (λv i wr=>∃ j:Nat,j<=253/\i=aO aZ ((j:Int)-1)/\N1 w (F3 x 3 3 252 (253-j)) v wr) (λ_ i _=>(intOf i+1).toNat)
 case atStart=>exact⟨253,Aa _,by go_num,HS.o⟩
 case round=>
  obtain⟨j,hj,rfl,⟨⟨g,c,rfl,hg,hg',hf⟩,hbel⟩⟩:=hrel;by_cases hj0:0<j
  ·obtain⟨j,rfl⟩:∃ i,j=i+1:=⟨j-1,AJ⟩
   have ei:((j+1:Nat):Int)-1=(j:Int):=AJ
   rw[ei];have hstep:F3 x 3 3 252 (253-j)=Dw x (FW 3 3 j) (F3 x 3 3 252 (253-(j+1))):=by
    have e1:253-j=(253-(j+1))+1:=AJ
    rw[e1,F3];have e2:252-(253-(j+1))=j:=AJ
    rw[e2]
   have HST:=CY <| hstep
   generalize F3 x 3 3 252 (253-(j+1))=s at *;have HF:=CY <| hf
   have HB:=CY <| hbel
   go_wp2_with fail;refine(Cs _ _ c c s s _ HF.o HF.o).mono ?_;rintro e w2 ⟨g2,c2,rfl,hg2,hg2',hf2,hb2⟩;have HB2:=CY <| HB.o.trans (hb2.mono HB.o.size)
   have HF2:=CY <| hf2
   have HA2:=CY <| (HA.o.below HB.o).below hb2
   have hs:=HB.o.size;by_cases hge:3<=j
   ·have hge':(3:Int)<=(j:Int):=AJ
    have hge2:decide ((3:Int)<=(j:Int))=true:=by simpa using hge'
    have HPS:AO (Dw x (FW 3 3 j) s=s*s%fp*x%fp):=by show _=_;unfold FW Dw;simp[hge]
    go_wp2_with fail;refine(Cs _ _ c2 cap (s*s%fp) x _ HF2.o HA2.o).mono ?_;rintro e w3 ⟨g3,c3,rfl,hg3,hg3',hf3,hb3⟩;have HP:AO (N1 w (F3 x 3 3 252 (253-j)) (aM (aR ⟨g3,0,aS⟩) 16 c3) w3):=by
     rw[HST.o,HPS.o];exact⟨⟨g3,c3,rfl,AG HB2.o.size,hg3',hf3⟩,HB2.o.trans (hb3.mono HB2.o.size)⟩
    go_wp2;go_roundw
    case rel=>exact⟨j,AJ,rfl,HP.o⟩
    case measure=>first|(simp[intOf];done)|(simp[intOf];omega)
   ·have hge':¬ (3:Int)<=(j:Int):=AJ
    have hge2:decide ((3:Int)<=(j:Int))=false:=by simpa using hge'
    by_cases hbit:3/2^j%2=1
    ·have HPS:AO (Dw x (FW 3 3 j) s=s*s%fp*x%fp):=by show _=_;unfold FW Dw;simp[hbit]
     have hb2:((3:Int)/2^j).tmod 2=1:=by
      rw[Ah (Int.ediv_nonneg AK (Int.pow_nonneg AK))];have:(((3/2^j%2:Nat)):Int)=1:=by rw[hbit];rfl
      simpa using this
     have hb3:((3:Int)/2^j)%2=1:=by
      have:(((3/2^j%2:Nat)):Int)=1:=by rw[hbit];rfl
      simpa using this
     go_wp2_with fail;refine(Cs _ _ c2 cap (s*s%fp) x _ HF2.o HA2.o).mono ?_;rintro e w3 ⟨g3,c3,rfl,hg3,hg3',hf3,hb3'⟩;have HP:AO (N1 w (F3 x 3 3 252 (253-j)) (aM (aR ⟨g3,0,aS⟩) 16 c3) w3):=by
      rw[HST.o,HPS.o];exact⟨⟨g3,c3,rfl,AG HB2.o.size,hg3',hf3⟩,HB2.o.trans (hb3'.mono HB2.o.size)⟩
     go_wp2;go_roundw
     case rel=>exact⟨j,AJ,rfl,HP.o⟩
     case measure=>first|(simp[intOf];done)|(simp[intOf];omega)
    ·have HPS:AO (Dw x (FW 3 3 j) s=s*s%fp):=by show _=_;unfold FW Dw;simp[hge,hbit]
     have hbit0:3/2^j%2=0:=AJ
     have hb3:((3:Int)/2^j)%2=0:=by
      have:(((3/2^j%2:Nat)):Int)=0:=by rw[hbit0];rfl
      simpa using this
     have hb2:((3:Int)/2^j).tmod 2=0:=by
      rw[Ah (Int.ediv_nonneg AK (Int.pow_nonneg AK))];exact hb3
     have HP:AO (N1 w (F3 x 3 3 252 (253-j)) (aM (aR ⟨g2,0,aS⟩) 16 c2) w2):=by
      rw[HST.o,HPS.o];exact⟨⟨g2,c2,rfl,AJ,hg2',HF2.o⟩,HB2.o⟩
     go_wp2;go_roundw
     case rel=>exact⟨j,AJ,rfl,HP.o⟩
     case measure=>first|(simp[intOf];done)|(simp[intOf];omega)
  ·obtain rfl:j=0:=AJ
   have HP:AO (NT w (F3 x 3 3 252 253) (aQ (aM (aR ⟨g,0,aS⟩) 16 c)) wr):=⟨g,c,rfl,hg,hg',hf,hbel⟩
   go_wp2
   go_ret
   exact HP.o
theorem Vv {xs ys:List Int} (hx:xs.length=16) (hy:ys.length=16) (dx:∀ i,0<=xs.getD i 0/\xs.getD i 0<65536) (dy:∀ i,0<=ys.getD i 0/\ys.getD i 0<65536):val 65536 xs=val 65536 ys↔∀ i,i<16->xs.getD i 0=ys.getD i 0:=by
 constructor
 ·intro h i _;rw[GQ (B:=65536) AK (Dz dx) (Dz dy) AJ h]
 ·intro h;rw[I3 hx hy h]
theorem I9 (a a':Option Addr) (cap cap':Nat) (x y:Int) (w:aV) (ha:Cy w a x) (ha':Cy w a' y) :
  Calls tP 86 #[aM a 16 cap,aM a' 16 cap'] w λe w'=>e=aQ (.bool (decide (x=y)))/\Below w.heap.size w w':=by
 have HA':=CY <| ha'
 go_enter func86,ntmps86;go_wp2_with fail;refine(Eb a cap x _ ha).mono ?_;rintro e w1 ⟨g1,c1,rfl,hg1,hg1',hl1,hb1⟩;have HB1:=CY <| hb1
 have HL1:=CY <| hl1
 have ha2:=HA'.o.below hb1;go_wp2_with fail;refine(Eb a' cap' y _ ha2).mono ?_;rintro e w2 ⟨g2,c2,rfl,hg2,hg2',hl2,hb2⟩;have HB2:=CY <| HB1.o.trans (hb2.mono HB1.o.size)
 have hl1:=HL1.o.below hb2;obtain⟨xs,hA1,hx1,hx2,hx3⟩:=hl1;obtain⟨ys,hA2,hy1,hy2,hy3⟩:=hl2;have HEQ:AO (x=y↔∀ i,i<16->xs.getD i 0=ys.getD i 0):=by
  show _↔_
  rw[<-hx3,<-hy3];exact Vv hx1 hy1 hx2 hy2
 have HC1:AO (∀ i,i<16->w2.cell? ⟨g1,i,aS⟩=aR (aO aZ (xs.getD i 0))):=λi hi=>by
  obtain⟨b,o,e,_,h⟩:=hA1.get AJ;cases e;have:=h i AJ
  rwa [Ar] at this
 have HC2:AO (∀ i,i<16->w2.cell? ⟨g2,i,aS⟩=aR (aO aZ (ys.getD i 0))):=λi hi=>by
  obtain⟨b,o,e,_,h⟩:=hA2.get AJ;cases e;have:=h i AJ
  rwa [Ar] at this
 go_wp2
 go_loopw [7] (λi wr=>∃(k q:Nat),k<=16/\i=aO aZ k/\wr=w2.drewN q/\∀ i,i<k->xs.getD i 0=ys.getD i 0) (λi _=>16-(intOf i).toNat)
 case atStart=>exact⟨0,0,AK,rfl,rfl,λi hi=>AJ⟩
 case round=>
  obtain⟨k,q,hk,rfl,rfl,hall⟩:=hrel;have HALL:=CY <| hall
  by_cases hlt:k<16
  ·have hlt':(k:Int)<16:=AJ
   have c1':=HC1.o k hlt;have c2':=HC2.o k hlt;have HXY:AO (∀ d e:Int,xs.getD k 0=d->ys.getD k 0=e->d=e->∀ i,i<k+1->xs.getD i 0=ys.getD i 0):=λd e h1 h2 h3 i hi=>by
    by_cases h:i=k
    {subst h;rw[h1,h2,h3]};{exact HALL.o i AJ}
   have HNE:AO (xs.getD k 0≠ys.getD k 0->decide (x=y)=false):=λh=>Ac (λe=>h (HEQ.o.1 e k hlt))
   by_cases hxy:xs.getD k 0=ys.getD k 0
   ·have HS:=CY <| HXY.o _ _ rfl rfl hxy
    rw[<-hxy] at c2';generalize xs.getD k 0=d at *;go_wp2
    go_quiet (fail)
    rw[Kt];go_wp2;go_roundw
    case rel=>exact⟨k+1,q+nq,AJ,by go_num,rfl,HS.o⟩
    case measure=>simp[intOf];omega
   ·have HD:=CY <| HNE.o hxy
    generalize xs.getD k 0=d at *;generalize ys.getD k 0=d' at *;have hdd:(d == d')=false:=by simpa using hxy
    have hdn:(d != d')=true:=by simpa using hxy
    go_wp2
    go_quiet (fail)
    rw[Kt];go_wp2
    go_ret
    exact⟨by rw[HD.o];rfl,⟨HB2.o.os,HB2.o.tape,HB2.o.output,HB2.o.size,HB2.o.block⟩⟩
  ·have hk16:k=16:=AJ
   have HD:=CY <| Aj (HEQ.o.2 (λi hi=>HALL.o i AJ))
   have hlt':¬ (k:Int)<16:=AJ
   go_wp2
   go_ret
   exact⟨by rw[HD.o];rfl,⟨HB2.o.os,HB2.o.tape,HB2.o.output,HB2.o.size,HB2.o.block⟩⟩
structure SR (w wr:aV) (L:List (Option Addr×Int)):Prop where
 below:Below w.heap.size w wr
 fe:∀ e∈L,Cy wr e.1 e.2
theorem SR.start (w:aV) (L:List (Option Addr×Int)) (h:∀ e∈L,Cy w e.1 e.2):SR w w L:=⟨A8 _ _,h⟩
theorem SR.at {w wr:aV} {L:List (Option Addr×Int)} (h:SR w wr L) (i:Nat) (a:Option Addr) (x:Int) (hi:L[i]?=aR (a,x)):Cy wr a x:=h.fe _ (List.mem_of_getElem? hi)
theorem SR.low {w wr w':aV} {L:List (Option Addr×Int)} (h:SR w wr L) (b:Below wr.heap.size wr w'):SR w w' L:=⟨h.below.trans (b.mono h.below.size),λe he=>(h.fe e he).below b⟩
theorem SR.add {w wr w':aV} {L:List (Option Addr×Int)} {a:Option Addr} {x:Int} (h:SR w wr L) (hf:Cy w' a x) (b:Below wr.heap.size wr w'):SR w w' ((a,x)::L):=
 ⟨(h.low b).below,λe he=>by
  rcases Au.1 he with rfl|he
  ·exact hf
  ·exact(h.low b).fe e he⟩
def Ft (x:Int):Int:=F3 x 11 5 254 255
def UD (x:Int):Int:=F3 x 5 3 251 252
def Q3 (x:Int):Int:=F3 x 3 3 252 253
def Dl:Int:=(-121665)%fp*Ft (121666%fp)%fp
def SH (Y:Int):Int:=(Y*Y%fp-1%fp)%fp
def Q5 (Y D:Int):Int:=(D*(Y*Y%fp)%fp+1%fp)%fp
def Mc (Y D:Int):Int:=SH Y*Ft (Q5 Y D)%fp
def Lf (Y D:Int):Int:=Mc Y D*UD (Mc Y D)%fp
def N2 (Y D:Int):Int:=Lf Y D*Q3 (2%fp)%fp
def Lg (Y D:Int):Bool:=decide (Lf Y D*Lf Y D%fp=Mc Y D) || decide (N2 Y D*N2 Y D%fp=Mc Y D)
def GE (Y D:Int):Int:=if Lf Y D*Lf Y D%fp=Mc Y D then Lf Y D else N2 Y D
def Z5 (w:aV) (Y D:Int) (e:Ending) (w':aV):Prop:=
 ∃ g c,e=aQ (.tuple #[.bool (Lg Y D),aM (aR ⟨g,0,aS⟩) 16 c])/\w.heap.size<=g/\g<w'.heap.size/\Cy w' (aR ⟨g,0,aS⟩) (GE Y D)/\Below w.heap.size w w'
theorem SI (w:aV):Calls tP 39 #[] w (NT w Dl):=by
 have HS0:=CY <| SR.start w [] AL
 go_enter func39,ntmps39;go_wp2_with fail;refine(DA (-121665) _ AK AK).mono ?_;rintro e w1 ⟨g1,c1,rfl,k1,l1,hf,hb⟩;have HS1:=CY <| HS0.o.add hf hb
 have m1:=hb.size;go_wp2_with fail;refine(DA 121666 _ AK AK).mono ?_;rintro e w2 ⟨g2,c2,rfl,k2,l2,hf,hb⟩;have HS2:=CY <| HS1.o.add hf hb
 have m2:=hb.size;go_wp2_with fail;refine(If _ c2 (121666%fp) _ (HS2.o.at 0 _ _ rfl)).mono ?_;rintro e w3 ⟨g3,c3,rfl,k3,l3,hf,hb⟩;have HS3:=CY <| HS2.o.add hf hb
 have m3:=hb.size;go_wp2_with fail;refine(Cs _ _ c1 c3 ((-121665)%fp) (Ft (121666%fp)) _ (HS3.o.at 2 _ _ rfl) (HS3.o.at 0 _ _ rfl)).mono ?_;rintro e w4 ⟨g4,c4,rfl,k4,l4,hf,hb⟩;have HS4:=CY <| HS3.o.add hf hb
 have m4:=hb.size;have HP:AO (w.heap.size<=g4/\g4<w4.heap.size):=⟨AJ,AJ⟩
 go_wp2
 go_ret
 exact⟨g4,c4,rfl,HP.o.1,HP.o.2,HS4.o.at 0 _ _ rfl,HS4.o.below⟩
theorem SJ (a a':Option Addr) (cap cap':Nat) (Y D:Int) (w:aV) (ha:Cy w a Y) (ha':Cy w a' D) :
  Calls tP 85 #[aM a 16 cap,aM a' 16 cap'] w (Z5 w Y D):=by
 have HS0:AO (SR w w [(a,Y),(a',D)]):=SR.start w _ (λe he=>by
  simp only[List.mem_cons,List.not_mem_nil,or_false] at he;rcases he with rfl|rfl
  ·exact ha
  ·exact ha')
 go_enter func85,ntmps85;go_wp2_with fail;refine(Cs _ _ cap cap (Y) (Y) _ (HS0.o.at 0 _ _ rfl) (HS0.o.at 0 _ _ rfl)).mono ?_;rintro e w1 ⟨g1,c1,rfl,k1,l1,hf,hb⟩;have HS1:=CY <| HS0.o.add hf hb
 have m1:=hb.size;go_wp2_with fail;refine(DA 1 _ AK AK).mono ?_;rintro e w2 ⟨g2,c2,rfl,k2,l2,hf,hb⟩;have HS2:=CY <| HS1.o.add hf hb
 have m2:=hb.size;go_wp2_with fail;refine(Fs _ _ c1 c2 (Y*Y%fp) (1%fp) _ (HS2.o.at 1 _ _ rfl) (HS2.o.at 0 _ _ rfl)).mono ?_;rintro e w3 ⟨g3,c3,rfl,k3,l3,hf,hb⟩;have HS3:=CY <| HS2.o.add hf hb
 have m3:=hb.size;go_wp2_with fail;refine(Cs _ _ cap' c1 (D) (Y*Y%fp) _ (HS3.o.at 4 _ _ rfl) (HS3.o.at 2 _ _ rfl)).mono ?_;rintro e w4 ⟨g4,c4,rfl,k4,l4,hf,hb⟩;have HS4:=CY <| HS3.o.add hf hb
 have m4:=hb.size;go_wp2_with fail;refine(DA 1 _ AK AK).mono ?_;rintro e w5 ⟨g5,c5,rfl,k5,l5,hf,hb⟩;have HS5:=CY <| HS4.o.add hf hb
 have m5:=hb.size;go_wp2_with fail;refine(Fr _ _ c4 c5 (D*(Y*Y%fp)%fp) (1%fp) _ (HS5.o.at 1 _ _ rfl) (HS5.o.at 0 _ _ rfl)).mono ?_;rintro e w6 ⟨g6,c6,rfl,k6,l6,hf,hb⟩;have HS6:=CY <| HS5.o.add hf hb
 have m6:=hb.size;go_wp2_with fail;refine(If _ c6 (Q5 Y D) _ (HS6.o.at 0 _ _ rfl)).mono ?_;rintro e w7 ⟨g7,c7,rfl,k7,l7,hf,hb⟩;have HS7:=CY <| HS6.o.add hf hb
 have m7:=hb.size;go_wp2_with fail;refine(Cs _ _ c3 c7 (SH Y) (Ft (Q5 Y D)) _ (HS7.o.at 4 _ _ rfl) (HS7.o.at 0 _ _ rfl)).mono ?_;rintro e w8 ⟨g8,c8,rfl,k8,l8,hf,hb⟩;have HS8:=CY <| HS7.o.add hf hb
 have m8:=hb.size;go_wp2_with fail;refine(SE _ c8 (Mc Y D) _ (HS8.o.at 0 _ _ rfl)).mono ?_;rintro e w9 ⟨g9,c9,rfl,k9,l9,hf,hb⟩;have HS9:=CY <| HS8.o.add hf hb
 have m9:=hb.size;go_wp2_with fail;refine(Cs _ _ c8 c9 (Mc Y D) (UD (Mc Y D)) _ (HS9.o.at 1 _ _ rfl) (HS9.o.at 0 _ _ rfl)).mono ?_;rintro e w10 ⟨g10,c10,rfl,k10,l10,hf,hb⟩;have HS10:=CY <| HS9.o.add hf hb
 have m10:=hb.size;go_wp2_with fail;refine(Cs _ _ c10 c10 (Lf Y D) (Lf Y D) _ (HS10.o.at 0 _ _ rfl) (HS10.o.at 0 _ _ rfl)).mono ?_;rintro e w11 ⟨g11,c11,rfl,k11,l11,hf,hb⟩;have HS11:=CY <| HS10.o.add hf hb
 have m11:=hb.size;go_wp2_with fail;refine(I9 _ _ c11 c8 (Lf Y D*Lf Y D%fp) (Mc Y D) _ (HS11.o.at 0 _ _ rfl) (HS11.o.at 3 _ _ rfl)).mono ?_;rintro e wq ⟨rfl,hb⟩;have HSq:=CY <| HS11.o.low hb
 have mq:=hb.size;by_cases hq:Lf Y D*Lf Y D%fp=Mc Y D
 ·have HQ:AO (Lg Y D=true/\GE Y D=Lf Y D):=⟨by unfold Lg;rw[Aj hq];rfl,by unfold GE;rw[AP hq]⟩
  rw[Aj hq];have HP:AO (w.heap.size<=g10/\g10<wq.heap.size):=⟨AJ,AJ⟩
  go_wp2
  go_ret2
  exact⟨g10,c10,by rw[HQ.o.1];rfl,HP.o.1,HP.o.2,by rw[HQ.o.2];exact HSq.o.at 1 _ _ rfl,HSq.o.below⟩
 ·have HQ:=CY <| hq
  rw[Ac hq];go_wp2_with fail;refine(DA 2 _ AK AK).mono ?_;rintro e w12 ⟨g12,c12,rfl,k12,l12,hf,hb⟩;have HS12:=CY <| HSq.o.add hf hb
  have m12:=hb.size;go_wp2_with fail;refine(SG _ c12 (2%fp) _ (HS12.o.at 0 _ _ rfl)).mono ?_;rintro e w13 ⟨g13,c13,rfl,k13,l13,hf,hb⟩;have HS13:=CY <| HS12.o.add hf hb
  have m13:=hb.size;go_wp2_with fail;refine(Cs _ _ c10 c13 (Lf Y D) (Q3 (2%fp)) _ (HS13.o.at 3 _ _ rfl) (HS13.o.at 0 _ _ rfl)).mono ?_;rintro e w14 ⟨g14,c14,rfl,k14,l14,hf,hb⟩;have HS14:=CY <| HS13.o.add hf hb
  have m14:=hb.size;go_wp2_with fail;refine(Cs _ _ c14 c14 (N2 Y D) (N2 Y D) _ (HS14.o.at 0 _ _ rfl) (HS14.o.at 0 _ _ rfl)).mono ?_;rintro e w15 ⟨g15,c15,rfl,k15,l15,hf,hb⟩;have HS15:=CY <| HS14.o.add hf hb
  have m15:=hb.size;go_wp2_with fail;refine(I9 _ _ c15 c8 (N2 Y D*N2 Y D%fp) (Mc Y D) _ (HS15.o.at 0 _ _ rfl) (HS15.o.at 7 _ _ rfl)).mono ?_;rintro e wz ⟨rfl,hb⟩;have HSz:AO (SR w wz [(aR ⟨g15,0,aS⟩,N2 Y D*N2 Y D%fp),(aR ⟨g14,0,aS⟩,N2 Y D),(aR ⟨g13,0,aS⟩,Q3 (2%fp)),(aR ⟨g12,0,aS⟩,2%fp),(aR ⟨g11,0,aS⟩,Lf Y D*Lf Y D%fp),(aR ⟨g10,0,aS⟩,Lf Y D),(aR ⟨g9,0,aS⟩,UD (Mc Y D)),(aR ⟨g8,0,aS⟩,Mc Y D),(aR ⟨g7,0,aS⟩,Ft (Q5 Y D)),(aR ⟨g6,0,aS⟩,Q5 Y D),(aR ⟨g5,0,aS⟩,1%fp),(aR ⟨g4,0,aS⟩,D*(Y*Y%fp)%fp),(aR ⟨g3,0,aS⟩,SH Y),(aR ⟨g2,0,aS⟩,1%fp),(aR ⟨g1,0,aS⟩,Y*Y%fp),(a,Y),(a',D)]):=HS15.o.low hb;have mz:=hb.size;have HD:AO (decide (N2 Y D*N2 Y D%fp=Mc Y D)=Lg Y D/\GE Y D=N2 Y D):=⟨by unfold Lg;rw[Ac HQ.o];simp,by unfold GE;rw[AQ HQ.o]⟩
  rw[HD.o.1];have HP:AO (w.heap.size<=g14/\g14<wz.heap.size):=⟨AJ,AJ⟩
  go_wp2
  go_ret2
  exact⟨g14,c14,rfl,HP.o.1,HP.o.2,by rw[HD.o.2];exact HSz.o.at 1 _ _ rfl,HSz.o.below⟩
def IT (bs:List Int):List Int:=(List.range 16).map λi=>bs.getD (2*i) 0+256*bs.getD (2*i+1) 0
theorem EC (bs:List Int):(IT bs).length=16:=by simp[IT]
theorem Wd (bs:List Int) (n:Nat) (h:2*n<=bs.length):val 65536 ((List.range n).map λi=>bs.getD (2*i) 0+256*bs.getD (2*i+1) 0)=val 256 (bs.take (2*n)):=by
 induction n with
 |zero=>simp[val]
 |succ n ih=>
  rw[Dn,ih AJ,show 2*(n+1)=2*n+1+1 by omega,DN 256 bs (2*n+1) AJ,DN 256 bs (2*n) AJ];have e:(65536:Int)^n=256^(2*n):=by rw[Int.pow_mul];rfl
  rw[e,Int.pow_succ];generalize (256:Int)^(2*n)=P;generalize bs.getD (2*n) 0=x;generalize bs.getD (2*n+1) 0=y;generalize val 256 (bs.take (2*n))=v
  grind
theorem We (V r d:Int) (hV:V=r+d*1766847064778384329583297500742918515827483896875618958121606201292619776) (h0:0<=r) (h1:r<1766847064778384329583297500742918515827483896875618958121606201292619776) (hd0:0<=d) (hd1:d<65536) :
  V+(d%32768-d)*1766847064778384329583297500742918515827483896875618958121606201292619776=V%57896044618658097711785492504343953926634992332820282019728792003956564819968:=AJ
theorem Wf (bs:List Int) (hl:bs.length=32) (hb:Cb bs):((IT bs).set 15 ((IT bs).getD 15 0%32768)).length=16/\(∀ i,0<=((IT bs).set 15 ((IT bs).getD 15 0%32768)).getD i 0/\((IT bs).set 15 ((IT bs).getD 15 0%32768)).getD i 0<65536)/\val 65536 ((IT bs).set 15 ((IT bs).getD 15 0%32768))=val 256 bs%(fp+19):=by
 have hd:∀ i,0<=(IT bs).getD i 0/\(IT bs).getD i 0<65536:=λi=>by
  by_cases h:i<16
  {rw[show(IT bs).getD i 0=_ from I2 _ i h];have:=hb.get (2*i);have:=hb.get (2*i+1);omega};{rw[C9 (by rw[EC];omega)];omega}
 refine⟨by rw[List.length_set,EC],λi=>?_,?_⟩
 ·rw[Cx _ _ _ _ (by rw[EC];decide)];have:=hd i;have:=hd 15;split<;>omega
 ·have e1:val 65536 (IT bs)=val 256 bs:=by
   have:=Wd bs 16 AJ;rw[Ad AJ] at this;exact this
  have e2:=DN 65536 (IT bs) 15 (by rw[EC];decide);rw[Ad (by rw[EC];decide),e1] at e2;have dg:KW 65536 ((IT bs).take 15):=λz hz=>Dz hd z (Ax hz)
  have b0:=C0 (B:=65536) AK dg;have b1:=Eg (B:=65536) AK dg;rw[Aq,EC,show min 15 16=15 from rfl] at b1;have e3:(65536:Int)^15=1766847064778384329583297500742918515827483896875618958121606201292619776:=AK
  have e4:fp+19=57896044618658097711785492504343953926634992332820282019728792003956564819968:=AK
  rw[FV _ _ _ _ (by rw[EC];decide),e1,e3,e4];rw[e3] at e2 b1;exact We _ _ _ e2 b0 b1 (hd 15).1 (hd 15).2
def Yx (B:Nat) (u:aX) (b0 off n cap k:Nat) (x y:Int) (zs:List Int):Nat->(Nat->Bool)->aV->aX->Prop
 |0,_,_,v=>v=u
 |1,_,_,v=>v=(aM (aR ⟨b0,off,aS⟩) n cap)
 |2,_,_,v=>v=(aO aZ k)
 |3,_,_,v=>v=(aO aZ ((2*k:Nat):Int))
 |4,_,_,v=>v=(aY (aR ⟨b0,off+2*k,aS⟩))
 |5,_,_,v=>v=(aO aP x)
 |6,_,_,v=>v=(aO aZ x)
 |7,_,_,v=>v=(aM (aR ⟨b0,off,aS⟩) n cap)
 |8,_,_,v=>v=(aO aZ k)
 |9,_,_,v=>v=(aO aZ ((2*k:Nat):Int))
 |10,_,_,v=>v=(aO aZ ((2*k+1:Nat):Int))
 |11,_,_,v=>v=(aY (aR ⟨b0,off+(2*k+1),aS⟩))
 |12,_,_,v=>v=(aO aP y)
 |13,_,_,v=>v=(aO aZ y)
 |14,_,_,v=>v=(aO aZ (256*y))
 |15,_,_,v=>v=(aO aZ (x+256*y))
 |16,L,w,v=>L 17=false->∃ g',v=aM (aR ⟨g',0,aS⟩) 1 1/\g'<w.heap.size/\w.cell? ⟨g',0,aS⟩=aR (aO aZ (x+256*y))
 |17,_,w,v=>FF w B v (zs++[x+256*y])
 |_,_,_,_=>True
theorem SK (B:Nat) (u:aX) (b0 off n cap k:Nat) (x y:Int) (zs:List Int) (j:Nat) (L:Nat->Bool) (w w':aV) (i:Nat) (v:aX) (hm:i≠17->Below w.heap.size w w') (hij:i≠j) (hL:L i=false) (h:Yx B u b0 off n cap k x y zs j L w v) :
  Yx B u b0 off n cap k x y zs j (CZ L i) w' v:=by
 unfold Yx at *;split at h<;>try exact h
 ·intro h14;have hi:i≠17:=λe=>by subst e;simp[CZ] at h14
  have hL14:L 17=false:=by simpa[CZ,Ne.symm hi] using h14
  obtain⟨g',e,hg,c0⟩:=h hL14;have hb:=hm hi;exact⟨g',e,AG hb.size,by rw[hb.cell (p:=⟨g',0,aS⟩) hg];exact c0⟩
 ·exact h.grow (hm (λe=>hij e))
theorem Kd (a:Option Addr) (n cap:Nat) (bs:List Int) (w:aV) (hn:bs.length=n) (h32:32<=n) (hmx:n<=32) (ha:At aP w a bs) (hb:Cb bs) :
  Calls tP 84 #[aM a n cap] w (ZM w (val 256 bs%(fp+19))):=by
 obtain⟨b0,off,rfl,hb0,hc⟩:=ha.get AJ;have HC:AO (∀ i,i<32->w.cell? ⟨b0,off+i,aS⟩=aR (aO aP (bs.getD i 0))):=λi hi=>hc i AJ
 have HBY:=CY <| hb
 have HALL:=CY <| Wf bs AJ hb
 have H15:AO (0<=(IT bs).getD 15 0/\(IT bs).getD 15 0<65536):=by
  show _/\_
  rw[show(IT bs).getD 15 0=_ from I2 _ 15 AK];have:=hb.get (2*15);have:=hb.get (2*15+1);omega
 go_enter func84,ntmps84;go_wp2
 go_loopw [3,4] (λv i wr=>∃ k:Nat,k<=16/\i=aO aZ k/\FF wr w.heap.size v ((IT bs).take k)/\Below w.heap.size w wr) (λ_ i _=>16-(intOf i).toNat)
 case atStart=>exact⟨0,AK,rfl,DQ.empty _ _ Ch,Cf.alloc Ch _⟩
 case round=>
  obtain⟨k,hk,rfl,hown,hbel⟩:=hrel;by_cases hlt:k<16
  ·have hlt':(k:Int)<16:=AJ
   have HO:=CY <| hown
   have HBE:=CY <| hbel
   obtain⟨x0,x1⟩:=HBY.o.get (2*k);obtain⟨y0,y1⟩:=HBY.o.get (2*k+1);have HTK:AO ((IT bs).take (k+1)=(IT bs).take k++[bs.getD (2*k) 0+256*bs.getD (2*k+1) 0]):=by
    show _=_
    have e:(IT bs).getD k 0=bs.getD (2*k) 0+256*bs.getD (2*k+1) 0:=I2 _ k hlt;rw[<-e,A5 (by rw[EC];exact hlt),AX,As (by rw[EC];exact hlt)];rfl
   have HTL:AO (((IT bs).take k).length=k):=by show _=_;rw[Aq,EC];omega
   have HCX:AO (w.cell? ⟨b0,off+2*k,aS⟩=aR (aO aP (bs.getD (2*k) 0))):=HC.o _ AJ;have HCY:AO (w.cell? ⟨b0,off+(2*k+1),aS⟩=aR (aO aP (bs.getD (2*k+1) 0))):=HC.o _ AJ;have hsz:=hbel.size;generalize (IT bs).take k=zs at *;generalize bs.getD (2*k) 0=x at *;generalize bs.getD (2*k+1) 0=y at *;have hm1:IntKind.i64.wrap x=x:=by rw[Ak];omega
   have hm2:IntKind.i64.wrap y=y:=by rw[Ak];omega
   have hm3:IntKind.i64.wrap (256*y)=256*y:=by rw[Ak];omega
   have hm4:IntKind.i64.wrap (x+256*y)=x+256*y:=by rw[Ak];omega
   have hm5:IntKind.i64.wrap (2*(k:Int))=2*(k:Int):=by rw[Ak];omega
   have hm6:IntKind.i64.wrap (2*(k:Int)+1)=2*(k:Int)+1:=by rw[Ak];omega
   have hp1:0<=2*(k:Int):=AJ
   have hp2:0<=2*(k:Int)+1:=AJ
   have ht1:(2*(k:Int)).toNat=2*k:=AJ
   have ht2:(2*(k:Int)+1).toNat=2*k+1:=AJ
   have hi1:2*(k:Int)<(n:Int):=AJ
   have hi2:2*(k:Int)+1<(n:Int):=AJ
   have hi3:((2*k:Nat):Int)<(n:Int):=AJ
   have hi4:((2*k+1:Nat):Int)<(n:Int):=AJ
   go_wp2;refine Ag AM ?_;refine Ei 18 (λi w w'=>i≠17->Below w.heap.size w w') (frame:=(λ(a b c d e f g h i j k l m n o p q:aX)=>λ(t:Nat->aX)=>({ tmps:=List.toArray [a,b,c,d,e,f,g,h,i,j,t 0,t 1,t 2,t 3,t 4,t 5,t 6,t 7,t 8,t 9,t 10,t 11,t 12,t 13,t 14,t 15,t 16,t 17,k,l,m,n,o,p,q],defers:=[] }:Act)) _ _ _ _ _ _ _ _ _ _ _ _ _ _ _ _ _)
    (Ext:=λL w'=>(L 17=false->Below wr.heap.size wr w')/\Below w.heap.size w w'/\wr.heap.size<=w'.heap.size)
    (Good:=Yx w.heap.size u3 b0 off n cap k x y zs) AN AM (SK _ _ _ _ _ _ _ _ _ _) AM AM ?hop ?hend _ _ ((λ(x0 x1 x2 x3 x4 x5 x6 x7 x8 x9 x10 x11 x12 x13 x14 x15 x16 x17:aX)=>λ(i:Nat)=>if i=0 then x0 else if i=1 then x1 else if i=2 then x2 else if i=3 then x3 else if i=4 then x4 else if i=5 then x5 else if i=6 then x6 else if i=7 then x7 else if i=8 then x8 else if i=9 then x9 else if i=10 then x10 else if i=11 then x11 else if i=12 then x12 else if i=13 then x13 else if i=14 then x14 else if i=15 then x15 else if i=16 then x16 else if i=17 then x17 else undef) _ _ _ _ _ _ _ _ _ _ _ _ _ _ _ _ _ _) _ AL AL ?ext ?start AL
   case start=>intro i hi h;exact absurd h Ef
   case ext=>exact⟨λ_=>Cf.drew,⟨HBE.o.os,HBE.o.tape,HBE.o.output,HBE.o.size,HBE.o.block⟩,Aa _⟩
   case hop=>
    intro i o L t w' hil ho hLi hx hdep K hK;obtain⟨hx14,hxB,hxS⟩:=hx;have cX:w'.cell? ⟨b0,off+2*k,aS⟩=aR (aO aP x):=by rw[hxB.cell (p:=⟨b0,off+2*k,aS⟩) hb0];exact HCX.o
    have cY:w'.cell? ⟨b0,off+(2*k+1),aS⟩=aR (aO aP y):=by rw[hxB.cell (p:=⟨b0,off+(2*k+1),aS⟩) hb0];exact HCY.o
    have RX:AO (∀ j,j≠17->∀ ww,Below w'.heap.size w' ww->((CZ L j 17=false->Below wr.heap.size wr ww)/\Below w.heap.size w ww/\wr.heap.size<=ww.heap.size)):=λj hj ww hb=>
     ⟨λhL=>(hx14 (by simpa[CZ,Ne.symm hj] using hL)).trans (hb.mono hxS),hxB.trans (hb.mono hxB.size),AG hb.size⟩
    have RR:AO (∀ j,j≠17->((CZ L j 17=false->Below wr.heap.size wr w')/\Below w.heap.size w w'/\wr.heap.size<=w'.heap.size)):=λj hj=>RX.o j hj w' Cf
    have RM:AO (∀ j:Nat,j≠17->Below w'.heap.size w' w'):=λ_ _=>A8 _ _
    have H14:=CY <| hx14
    have HXB:=CY <| hxB
    obtain rfl|rfl|rfl|rfl|rfl|rfl|rfl|rfl|rfl|rfl|rfl|rfl|rfl|rfl|rfl|rfl|rfl|rfl:i=0\/i=1\/i=2\/i=3\/i=4\/i=5\/i=6\/i=7\/i=8\/i=9\/i=10\/i=11\/i=12\/i=13\/i=14\/i=15\/i=16\/i=17:=AJ
    all_goals(simp at ho;subst ho)
    {clear hdep;go_simp;exact hK w' u3 rfl (RR.o 0 AK) (RM.o 0)};{clear hdep;go_simp;exact hK w' (aM (aR ⟨b0,off,aS⟩) n cap) rfl (RR.o 1 AK) (RM.o 1)};{clear hdep;go_simp;exact hK w' (aO aZ k) rfl (RR.o 2 AK) (RM.o 2)};{have d2:t 2=(aO aZ k):=hdep ⟨2,ag⟩ AL rfl;have hK':=hK w' (aO aZ ((2*k:Nat):Int)) rfl (RR.o 3 AK) (RM.o 3);go_simp;simpa[Ca,d2,hm1,hm2,hm3,hm4,hm5,hm6,hp1,hp2,ht1,ht2] using hK'};{have d1:t 1=(aM (aR ⟨b0,off,aS⟩) n cap):=hdep ⟨1,ag⟩ AL rfl;have d3:t 3=(aO aZ ((2*k:Nat):Int)):=hdep ⟨3,ag⟩ AL rfl;have hK':=hK w' (aY (aR ⟨b0,off+2*k,aS⟩)) rfl (RR.o 4 AK) (RM.o 4);go_simp;simpa[Ca,d1,d3,hm1,hm2,hm3,hm4,hm5,hm6,hp1,hp2,ht1,ht2] using hK'};{have d4:t 4=(aY (aR ⟨b0,off+2*k,aS⟩)):=hdep ⟨4,ag⟩ AL rfl;have hK':=hK w' (aO aP x) rfl (RR.o 5 AK) (RM.o 5);go_simp;simpa[Ca,d4,hm1,hm2,hm3,hm4,hm5,hm6,hp1,hp2,ht1,ht2] using hK'};{have d5:t 5=(aO aP x):=hdep ⟨5,ag⟩ AL rfl;have hK':=hK w' (aO aZ x) rfl (RR.o 6 AK) (RM.o 6);go_simp;simpa[Ca,d5,hm1,hm2,hm3,hm4,hm5,hm6,hp1,hp2,ht1,ht2] using hK'};{clear hdep;go_simp;exact hK w' (aM (aR ⟨b0,off,aS⟩) n cap) rfl (RR.o 7 AK) (RM.o 7)};{clear hdep;go_simp;exact hK w' (aO aZ k) rfl (RR.o 8 AK) (RM.o 8)};{have d8:t 8=(aO aZ k):=hdep ⟨8,ag⟩ AL rfl;have hK':=hK w' (aO aZ ((2*k:Nat):Int)) rfl (RR.o 9 AK) (RM.o 9);go_simp;simpa[Ca,d8,hm1,hm2,hm3,hm4,hm5,hm6,hp1,hp2,ht1,ht2] using hK'};{have d9:t 9=(aO aZ ((2*k:Nat):Int)):=hdep ⟨9,ag⟩ AL rfl;have hK':=hK w' (aO aZ ((2*k+1:Nat):Int)) rfl (RR.o 10 AK) (RM.o 10);go_simp;simpa[Ca,d9,hm1,hm2,hm3,hm4,hm5,hm6,hp1,hp2,ht1,ht2] using hK'};{have d7:t 7=(aM (aR ⟨b0,off,aS⟩) n cap):=hdep ⟨7,ag⟩ AL rfl;have d10:t 10=(aO aZ ((2*k+1:Nat):Int)):=hdep ⟨10,ag⟩ AL rfl;have hK':=hK w' (aY (aR ⟨b0,off+(2*k+1),aS⟩)) rfl (RR.o 11 AK) (RM.o 11);go_simp;simpa[Ca,d7,d10,hm1,hm2,hm3,hm4,hm5,hm6,hp1,hp2,ht1,ht2] using hK'};{have d11:t 11=(aY (aR ⟨b0,off+(2*k+1),aS⟩)):=hdep ⟨11,ag⟩ AL rfl;have hK':=hK w' (aO aP y) rfl (RR.o 12 AK) (RM.o 12);go_simp;simpa[Ca,d11,hm1,hm2,hm3,hm4,hm5,hm6,hp1,hp2,ht1,ht2] using hK'};{have d12:t 12=(aO aP y):=hdep ⟨12,ag⟩ AL rfl;have hK':=hK w' (aO aZ y) rfl (RR.o 13 AK) (RM.o 13);go_simp;simpa[Ca,d12,hm1,hm2,hm3,hm4,hm5,hm6,hp1,hp2,ht1,ht2] using hK'};{have d13:t 13=(aO aZ y):=hdep ⟨13,ag⟩ AL rfl;have hK':=hK w' (aO aZ (256*y)) rfl (RR.o 14 AK) (RM.o 14);go_simp;simpa[Ca,d13,hm1,hm2,hm3,hm4,hm5,hm6,hp1,hp2,ht1,ht2] using hK'};{have d6:t 6=(aO aZ x):=hdep ⟨6,ag⟩ AL rfl;have d14:t 14=(aO aZ (256*y)):=hdep ⟨14,ag⟩ AL rfl;have hK':=hK w' (aO aZ (x+256*y)) rfl (RR.o 15 AK) (RM.o 15);go_simp;simpa[Ca,d6,d14,hm1,hm2,hm3,hm4,hm5,hm6,hp1,hp2,ht1,ht2] using hK'};{have d15:t 15=(aO aZ (x+256*y)):=hdep ⟨15,ag⟩ AL rfl;have hK':=hK (w'.alloc (.cells #[aO aZ (x+256*y)] 2)) (aM (aR ⟨w'.heap.size,0,aS⟩) 1 1) (λ_=>⟨w'.heap.size,rfl,AL,AA (AS _ _) _⟩) (RX.o 16 AK _ (Ce _ _)) (λ_=>Ce _ _);go_simp;simpa[Ca,d15] using hK'}
    ·have d0:=hdep ⟨0,ag⟩ AL rfl;have d10:=hdep ⟨16,ag⟩ AL rfl;obtain⟨g',e10,hg',cc0⟩:=d10 hLi;have hO:=HO.o.grow (H14.o hLi);refine Le (a:=_) _ Vm _ _ rfl w.heap.size _ zs (by first|exact d0|(simp[d0];done)) hO ⟨g',0,aS⟩ 1 1 [x+256*y] (by first|exact e10|(simp[e10];done)) rfl ?_ ?_ ?_ ?_
     ·intro j hj;obtain rfl:j=0:=AJ
      rw[A0];exact cc0
     {rw[HTL.o];omega};{exact HXB.o.size};{intro v' w9 hown' hbel';exact hK w9 v' hown' ⟨λh=>by simp[CZ] at h,HXB.o.trans hbel',AH hbel'.size HXB.o.size⟩ (λh=>absurd rfl h)}
   case hend=>
    intro o L t w' ho hx hg K hK;simp at ho;subst ho;obtain⟨hx14,hxB,hxS⟩:=hx;have O14:=hg 17 AK;have HXB:=CY <| hxB
    have HO14:AO (FF w' w.heap.size (t 17) ((IT bs).take (k+1))):=by rw[HTK.o];exact O14
    go_simp;refine hK _ _ ?_;go_wp2;go_roundw
    case rel=>exact⟨k+1,AJ,by go_num,HO14.o,HXB.o⟩
    case measure=>simp[intOf];omega
  ·have hk16:k=16:=AJ
   have ho:FF wr w.heap.size u3 (IT bs):=by rw[hk16,Ad (by rw[EC];decide)] at hown;exact hown
   obtain⟨g,c,rfl,hg,hg',hA⟩:=ho.at_;rw[EC] at ho |-;obtain⟨c15,f15,o15⟩:=ho.set (EC bs) 15 ((IT bs).getD 15 0%32768) AK;have HOW:=CY <| o15
   have HBE:AO (Below w.heap.size w (wr.setCell ⟨g,15,aS⟩ (aO aZ ((IT bs).getD 15 0%32768)))):=hbel.setCell (by simpa using hg) _;obtain⟨q0,q1⟩:=H15.o;have hlt':¬ (k:Int)<16:=AJ
   generalize hdd:(IT bs).getD 15 0=d at *;have htm:d.tmod 32768=d%32768:=Ah q0;go_wp2
   go_ret
   obtain⟨hA1,z1,z2⟩:=HOW.o.atS;exact⟨g,c,rfl,z1,z2,⟨_,hA1,HALL.o.1,HALL.o.2.1,HALL.o.2.2⟩,HBE.o⟩
def Lh (U T:List Int) (i:Nat):Prop:=T.getD (i*2) 0∈U/\(0<=T.getD (i*2+1) 0/\T.getD (i*2+1) 0<=4294967295)/\∀ j,j<i->T.getD (j*2) 0≠T.getD (i*2) 0
def Md (U T:List Int) (n:Nat):Prop:=∀ i,i<n->Lh U T i
open Classical in
noncomputable def Me (U T:List Int) (n:Nat):Bool:=decide (Md U T n)
theorem Li {U T:List Int} {n:Nat} (h:¬ Md U T n):Me U T n=false:=by unfold Me;simp[h]
theorem Mf {U T:List Int} {n:Nat} (h:Md U T n):Me U T n=true:=by unfold Me;simp[h]
theorem Er.low {w w':aV} {g:Nat} {t:TypeId} {bs:List Int} {B:Nat} (h:Er w g t bs) (b:Below B w w') (hg:g<B):Er w' g t bs:=by unfold Er;rw[b.block g hg];exact h
structure ZN (w:aV) (U T:List Int) (k:Nat) (wr:aV):Prop where
 below:Below w.heap.size w wr
 set:∃ bs,Er wr w.heap.size 59 bs/\DM bs (λv=>(v:Int)∈U/\∀ j,j<k->T.getD (j*2) 0≠(v:Int))
 ok:∀ i,i<k->Lh U T i
open Classical in
theorem Mg (a:Option Addr) (n cap:Nat) (U T us:List Int) (w:aV) (hn:T.length=n*2) (hm:n<=1048576) (ha:At aZ w a T) (hU:DO U) (hs:DM us (λv=>(v:Int)∈U)) :
  Calls tP 44 #[aM a n cap,.agg (us.map (Value.int aP)).toArray] w λe w'=>e=aQ (.bool (Me U T n))/\Below w.heap.size w w':=by
 have HS:AO (ZN w U T 0 (w.alloc (.cells (us.map (Value.int aP)).toArray 59))):=
  ⟨Cf.alloc Ch _,⟨us,AS w _,hs.congr (λv _=>⟨λh=>⟨h,λj hj=>AJ⟩,λh=>h.1⟩)⟩,λi hi=>AJ⟩
 have HA:=CY <| ha
 have HNX:=CY <| hn
 have HUR:AO (∀ z∈U,0<=z/\z<256):=λz hz=>by
  obtain⟨i,hi,rfl⟩:=Bn hz;have:=hU i hi;rw[show U[i]=U.getD i 0 by simp[List.getD,hi]];exact⟨this.1,this.2.1⟩
 clear ha hn hs hU;go_enter func44,ntmps44;go_wp2_with fail;generalize w.alloc (.cells (us.map (Value.int aP)).toArray 59)=w0 at *
 go_loopw [9] (λi wr=>∃ k:Nat,k<=n/\i=aO aZ k/\ZN w U T k wr) (λi _=>n-(intOf i).toNat)
 case atStart=>exact⟨0,Aw _,rfl,HS.o⟩
 case round=>
  clear HS;obtain⟨k,hk,rfl,hst⟩:=hrel;by_cases hlt:k<n
  ·have hlt':(k:Int)<n:=AJ
   obtain⟨b,off,ea,hb,hc⟩:=(HA.o.below hst.below).get (AG HNX.o);have c0:=hc (k*2) (AG HNX.o);have c1:=hc (k*2+1) (AG HNX.o);rw[<-A7] at c1;have HST:=CY <| hst
   subst ea;obtain⟨bs,hrow,hset⟩:=hst.set;have HTI:AO (Lh U T k↔(T.getD (k*2) 0∈U/\(0<=T.getD (k*2+1) 0/\T.getD (k*2+1) 0<=4294967295)/\∀ j,j<k->T.getD (j*2) 0≠T.getD (k*2) 0)):=Iff.rfl;generalize hs':T.getD (k*2) 0=s at *;generalize hn':T.getD (k*2+1) 0=nw at *;have b1:Below wr.heap.size wr (wr.alloc (.cells #[aO aZ s,aO aZ nw] 70)):=Cf.alloc Ch _;have hrow1:=hrow.low b1 hrow.lt;have HBT:=CY <| hrow1.bat hset.1 hset.2.1
   have HB1:=CY <| HST.o.below.trans (b1.mono HST.o.below.size)
   have HSB:=CY <| hset
   have HRW:=CY <| hrow1
   have HHQ:AO (decide (s∈U/\∀ j,j<k->T.getD (j*2) 0≠s)=true↔(0<=s/\s<256/\((s.toNat:Int)∈U/\∀ j,j<k->T.getD (j*2) 0≠(s.toNat:Int)))):=by
    show _↔_
    rw[decide_eq_true_eq];constructor
    ·rintro⟨h1,h2⟩;obtain⟨r0,r1⟩:=HUR.o s h1;have e:=Bo r0;rw[e];exact⟨r0,r1,h1,h2⟩
    ·rintro⟨r0,r1,h⟩;have e:=Bo r0
     rwa [e] at h
   clear hst hc hb hrow hset hrow1 b1;go_wp2_with fail;generalize hW:wr.alloc (.cells #[aO aZ s,aO aZ nw] 70)=w1 at *;have hc10:w1.cell? ⟨wr.heap.size,1,aS⟩=aR (aO aZ nw):=by rw[<-hW];exact AA (AS wr _) _
   have hc00:w1.cell? ⟨wr.heap.size,0,aS⟩=aR (aO aZ s):=by rw[<-hW];exact AA (AS wr _) _
   have hwl:w.heap.size<wr.heap.size:=by obtain⟨b',r',_⟩:=HST.o.set;exact r'.lt
   clear hW;refine(GK w.heap.size 0 s bs _ (decide (s∈U/\∀ j,j<k->T.getD (j*2) 0≠s)) _ HBT.o HSB.o HHQ.o).mono ?_;rintro e w2 ⟨rfl,rfl⟩;by_cases hin:s∈U/\∀ j,j<k->T.getD (j*2) 0≠s
   ·rw[Aj hin];have HIN:AO (s∈U/\∀ j,j<k->T.getD (j*2) 0≠s):=hin;clear hin HHQ;go_wp2_with fail;refine(Kw _ _).mono ?_;rintro e w3 ⟨rfl,rfl⟩;by_cases hno:0<=nw/\nw<=4294967295
    ·have HNO:AO (JI nw=true):=Aj hno;obtain⟨r0,r1⟩:=HUR.o s HIN.o.1;obtain⟨v,hv⟩:=Ab r0;have hv256:v<256:=AJ
     have HN:∀ q,AO (ZN w U T (k+1) ((w3.setCell ⟨w.heap.size,0+v/8,aS⟩ (aO aP ((Eq bs v).getD (v/8) 0))).drewN q)):=λq=>by
      have hr2:=HRW.o.set (v/8) ((Eq bs v).getD (v/8) 0);have e2:bs.set (v/8) ((Eq bs v).getD (v/8) 0)=Eq bs v:=by
       unfold Eq;rw[EZ _ _ _ _ (AG HSB.o.1),AP rfl]
      rw[e2] at hr2;have hw:Wr w.heap.size w3 (w3.setCell ⟨w.heap.size,v/8,aS⟩ (aO aP ((Eq bs v).getD (v/8) 0))):=(Wr.refl _ _).setCell _ _;rw[Ar];refine⟨?_,⟨Eq bs v,hr2,(HSB.o.rem v hv256).congr (λu hu=>?_)⟩,λi hi=>?_⟩
      ·have bq:=HB1.o.trans (hw.below Ch);exact⟨bq.os,bq.tape,bq.output,bq.size,bq.block⟩
      ·constructor
       ·rintro⟨⟨h1,h2⟩,h3⟩;refine⟨h1,λj hj=>?_⟩;by_cases hjk:j<k
        ·exact h2 j hjk
        ·have:j=k:=AJ
         subst this;rw[hs',hv];intro e;exact h3 AJ
       ·rintro⟨h1,h2⟩;refine⟨⟨h1,λj hj=>h2 j AJ⟩,λe=>?_⟩;have:=h2 k AJ;rw[hs',hv,e] at this;exact this rfl
      ·by_cases hik:i<k
       ·exact HST.o.ok i hik
       ·have:i=k:=AJ
        subst this;exact HTI.o.2 ⟨HIN.o.1,hno,HIN.o.2⟩
     rw[HNO.o];clear hno r0 r1 HIN;subst hv;go_wp2_with fail;refine(Jz w.heap.size 0 v bs _ hv256 HBT.o).mono ?_;rintro e w4 ⟨rfl,q,rfl⟩;have H2:=HN q;clear HN HBT HST HRW HSB HB1;generalize (w3.setCell ⟨w.heap.size,0+v/8,aS⟩ (aO aP ((Eq bs v).getD (v/8) 0))).drewN q=w4 at *;go_wp2;go_roundw
     case rel=>exact⟨k+1,AJ,by go_num,H2.o⟩
     case measure=>simp[intOf];omega
    ·have HNO:AO (JI nw=false):=Ac hno;have HNT:AO (Me U T n=false):=Li (λh=>hno (HTI.o.1 (h k hlt)).2.1);rw[HNO.o];clear hno;go_wp2
     go_ret
     exact⟨by rw[HNT.o];rfl,HB1.o⟩
   ·rw[Ac hin];have HNT:=CY <| Li (λh=>hin ⟨(HTI.o.1 (h k hlt)).1,(HTI.o.1 (h k hlt)).2.2⟩)
    clear hin HHQ;go_wp2
    go_ret
    exact⟨by rw[HNT.o];rfl,HB1.o⟩
  ·have hkn:k=n:=AJ
   have hlt':¬ ((k:Int)<n):=AJ
   have HNT:AO (Me U T n=true):=Mf (λi hi=>hst.ok i AJ);have HBW:AO (Below w.heap.size w wr):=hst.below;clear hst;go_wp2
   go_ret
   exact⟨by rw[HNT.o];rfl,HBW.o⟩
end Go.Proofs.YtncomnkdlpoelaaGreatDoor
