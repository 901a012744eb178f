import Derived.Test.YtjdhhgaelgemcaaGreatDoorMApx
import Derived.Test.YtjdhhgaelgemcaaGreatDoorMLe
open Go.Proofs.Tryz renaming prog->tP
open Go.Proofs.Tryz
open Go.Value renaming slice->Z7,int->Z8,pointer->aF,agg->aH
open Go.IntKind renaming i64->aI,u8->Z9
open Go.Obj renaming cells->aJ
open Go.Ground renaming data->aL
open Go.Operand renaming tmp->aM
open Option renaming some->aE,none->aA
open Go renaming World->aC,Value->aB
set_option maxHeartbeats 16000000
set_option maxRecDepth 100000
namespace Go.Proofs.YtjdhhgaelgemcaaGreatDoor
open Go.ChangeShapes Go.WideShapes Go.ChangeAt Go.RowKit
set_option linter.unusedVariables false
variable {w w':aC} {g:Nat} {d u:List Int} {k:Int} {v:aB} {D U:Nat->Prop} {T:List Int} {n H B:Nat}
theorem C7.ownBlock (h:C7 B w v T n):∀ k,v.ownBlock=aE k->B<=k:=λk hk=>by
 rcases h.2 with⟨h',_⟩|⟨g,c,cur,h',hb,_⟩
 ·rw[h'] at hk;simp[Value.ownBlock] at hk
 ·rw[h'] at hk;simp[Value.ownBlock] at hk;omega
theorem C7.wrg (h:C7 B w v T n) (hne:NF g v) (hw:Wr g w w'):C7 B w' v T n:=by
 refine⟨h.1,?_⟩;rcases h.2 with h'|⟨t,c,cur,h1,h2,h3,h4⟩
 ·exact .inl h'
 ·exact .inr ⟨t,c,cur,h1,h2,by rw[hw.block t (hne t (by rw[h1];rfl))];exact h3,h4⟩
theorem LX (w:aC) {ops:Array Oper} {rest:List Oper} {o:Oper} {a:Act} {Q:Exit->Act->aC->Prop} (hg:o.guard=aA) (sx x:Operand)
  (hop:o.op=Op.call { callee:=Callee.builtin Builtin.append,args:=#[sx,x],argTypes:=#[31,31] }) (B:Nat) (v:aB) (T:List Int) (n:Nat) (hs:a.eval sx=v) (hown:C7 B w v T n)
  (wb:aC) (s nw:Int) (hw:w=wb.alloc (aJ #[Z8 aI s,Z8 aI nw] 77)) (hx:a.eval x=Z7 (aE ⟨wb.heap.size,0,aA⟩) 1 1) (hm:n<=1048576) (hB:B<=w.heap.size)
  (hK:∀ v' w',C7 B w' v' (T++[s,nw]) (n+1)->v'.oneCell'=true->Below B w w'->w.grownBy w' v.ownBlock->(v'.ownBlock=v.ownBlock\/v'.ownBlock=aE w.heap.size)->wpList tP ops Q rest (a.put o.dst v') w') :
  wpList tP ops Q (o::rest) a w:=by
 obtain⟨i0,hi,hz0,hz1,hz2⟩:=Bh Tryz.infoTap;refine wpList_append_own_at w hg sx x 31 hop B 77 i0 (aH #[Z8 aI 0,Z8 aI 0]) 2 16 underlying31 hi hz0 hz1 hz2 rfl AK v n _ hs hown ⟨wb.heap.size,0,aA⟩ 1 1 [Z8 aI s,Z8 aI nw] hx rfl ?_ (by simp[Value.oneCell']) (by unfold maxLen;omega) AJ hB ?_
 ·intro j z hz;have hj:j<2:=by have:=(Ao.1 hz).1;simpa using this
  rw[Az,hw,AA (AX wb _) _,Aq];have:j=0\/j=1:=AJ
  rcases this with rfl|rfl<;>simpa using hz
 intro v' w' h1 h2 _ h5;refine hK v' w' ?_ ?_ (Cg.grown h2 hB hown.ownBlock) h2 h5
 ·unfold C7;rw[BS];exact h1
 ·rcases h1.2 with⟨h,_⟩|⟨g,c,cur,h,_⟩
  ·rw[h];rfl
  ·rw[h];rfl
theorem Du.alloc (h:Du B w v T n) (o:Obj):Du B (w.alloc o) v T n:=h.block AL (λt _ ht=>heap_alloc_old w o ht)
theorem Du.ownBlock (h:Du B w v T n):∀ k,v.ownBlock=aE k->B<=k:=λk hk=>by
 obtain⟨_,⟨h',_⟩|⟨t,o,c,h',hb,_⟩⟩:=h
 ·rw[h'] at hk;simp[Value.ownBlock] at hk
 ·rw[h'] at hk;simp[Value.ownBlock] at hk;omega
theorem Kj {w:aC} {t o:Nat} {cs:Array aB} {T:TypeId} {fr:Nat×Nat} (h:w.heap[t]?=aE (aJ cs T fr)) (v:aB):(w.setCell ⟨t,o,aA⟩ v).heap[t]?=aE (aJ (cs.setIfInBounds o v) T fr):=by
 simp[World.setCell,Array.getElem?_modify,h]
theorem Se (w:aC) (ty:TypeId) (B:Nat) (v:aB) (T:List Int) (n:Nat) (hown:Du B w v T n) (wb:aC) (s nw:Int) (hw:w=wb.alloc (aJ #[Z8 aI s,Z8 aI nw] 77)) (hm:n<=1048576) (hB:B<=w.heap.size) :
  ∃ v' w',(Builtin.append_ #[31,31] ty #[v,Z7 (aE ⟨wb.heap.size,0,aA⟩) 1 1]).run tP w=.ok v' w'/\Du B w' v' (T++[s,nw]) (n+1)/\w.grownBy w' v.ownBlock/\(v'.ownBlock=v.ownBlock\/v'.ownBlock=aE w.heap.size):=by
 obtain⟨i0,hi,hz0,hz1,hz2⟩:=Bh Tryz.infoTap;have hnews:∀ j u,[Z8 aI s,Z8 aI nw][j]?=aE u->w.cell? ((⟨wb.heap.size,0,aA⟩:Addr).add j)=aE u:=by
  intro j z hz;have hj:j<2:=by have:=(Ao.1 hz).1;simpa using this
  rw[Az,hw,AA (AX wb _) _,Aq];have:j=0\/j=1:=AJ
  rcases this with rfl|rfl<;>simpa using hz
 obtain⟨hl,⟨rfl,rfl⟩|⟨t,o,c,rfl,hB0,ht,hc,hmx,hx,cs,hcs,hsz⟩⟩:=hown
 ·have hT:T=[]:=BP AJ;subst hT;obtain⟨v',w',h1,h2,h3,_,h5⟩:=run_append_own_at (P:=tP) w B 31 ty 77 i0 (aH #[Z8 aI 0,Z8 aI 0]) 2 16 underlying31 hi hz0 hz1 hz2 rfl AK (Z7 aA 0 0) 0 [] ⟨rfl,.inl ⟨rfl,rfl⟩⟩ ⟨wb.heap.size,0,aA⟩ 1 1 [Z8 aI s,Z8 aI nw] rfl hnews (by simp[Value.oneCell']) AK AK hB;exact⟨v',w',h1,C7.tapV (T:=[]++[s,nw]) h2,h3,h5⟩
 ·have hsrc:Src tP i0.size 31 (Z7 (aE ⟨wb.heap.size,0,aA⟩) 1 1) 1 [Z8 aI s,Z8 aI nw] w:=
   Src.ofSlice w underlying31 ⟨wb.heap.size,0,aA⟩ 1 1 _ (by rw[hz1];rfl) hnews (by simp[Value.oneCell'])
  have hTl:T.length=n*2:=hl;by_cases hr:n+1<=c
  ·have hcell:∀ j,w.cell? ⟨t,j,aA⟩=cs[j]?:=λj=>cell_of_row w t j cs _ _ hcs
   have h1:=run_append_room_src (P:=tP) w 31 31 ty 77 i0 underlying31 hi t o n c _ 1 [Z8 aI s,Z8 aI nw] hsrc hr
    (λj hj=>by have hj':j<2:=hj;rw[hcell,hz1,Array.getElem?_eq_getElem AJ];rfl) (λj _=>Ar w t _ cs _ hcs)
   have e1:w.setCells t (o+n*i0.size) [Z8 aI s,Z8 aI nw]=(w.setCell ⟨t,o+n*2,aA⟩ (Z8 aI s)).setCell ⟨t,o+n*2+1,aA⟩ (Z8 aI nw):=by rw[hz1];rfl
   rw[e1] at h1;have hc2:((w.setCell ⟨t,o+n*2,aA⟩ (Z8 aI s)).setCell ⟨t,o+n*2+1,aA⟩ (Z8 aI nw)).heap[t]?=aE (aJ ((cs.setIfInBounds (o+n*2) (Z8 aI s)).setIfInBounds (o+n*2+1) (Z8 aI nw)) 77 (0,0)):=Kj (Kj hcs _) _;have hsz2:((w.setCell ⟨t,o+n*2,aA⟩ (Z8 aI s)).setCell ⟨t,o+n*2+1,aA⟩ (Z8 aI nw)).heap.size=w.heap.size:=by simp[World.setCell]
   refine⟨_,_,h1,⟨by rw[Ak,hTl];simp;omega,.inr ⟨t,o,c,rfl,hB0,by rw[hsz2];exact ht,hr,hmx,λi hi'=>⟨?_,Ar _ t _ _ _ hc2⟩,_,hc2,by simpa using hsz⟩⟩,⟨rfl,rfl,rfl,by rw[hsz2];exact Ac _,λk hk hne=>?_⟩,.inl rfl⟩
   ·rw[AA hc2 _];have hb:o+n*2+1<cs.size:=AJ
    by_cases h1:i<n*2
    ·have hq:=(hx i h1).1;rw[hcell] at hq;rw[BM AJ,BM AJ,hq];simp[List.getD,List.getElem?_append_left (show i<T.length by omega)]
    ·by_cases h2:i=n*2
     ·subst h2;rw[BM AJ,BW AJ];simp[List.getD,hTl]
     ·obtain rfl:i=n*2+1:=AJ
      rw[<-Ax,BW (by simp;omega)];simp[List.getD,hTl]
   ·have hkt:k≠t:=λe=>hne (by simp[Value.ownBlock,e])
    rw[heap_setCell_other _ _ _ _ (by show k≠t;exact hkt),heap_setCell_other _ _ _ _ (by show k≠t;exact hkt)]
  ·obtain rfl:c=n:=AJ
   have hcell:∀ j,w.cell? ⟨t,j,aA⟩=cs[j]?:=λj=>cell_of_row w t j cs _ _ hcs
   have hold:=run_firstCells_some (P:=tP) w.drew i0.size c ⟨t,o,aA⟩ c c (T.map (Value.int aI)) (by rw[hz1];simpa using hTl) (λj u hu=>by
    have hj:j<T.length:=by have:=(Ao.1 hu).1;simpa using this
    rw[Az];have:=(hx j AJ).1;rw[show w.drew.cell? ⟨t,o+j,aA⟩=w.cell? ⟨t,o+j,aA⟩ from rfl,this];simp[hj] at hu |-;exact hu)
   have hcap:=nextslicecap_le (need:=c+1) (old:=c) AJ;have h1:=run_append_grow_src (P:=tP) w 31 31 ty 77 i0 (aH #[Z8 aI 0,Z8 aI 0]) underlying31 hi hz0 (aE ⟨t,o,aA⟩) c c (T.map (Value.int aI)) hold _ 1 [Z8 aI s,Z8 aI nw] hsrc AJ AJ (by rw[hz2];omega);have hlen:(T.map (Value.int aI)++[Z8 aI s,Z8 aI nw]).length=(c+1)*2:=by rw[Ak,Bn,hTl];simp;omega
   have hge:=grownCap_ge w (c+1) c 77;have hle:=grownCap_le_maxLen w (c+1) c 77 (by unfold maxLen;omega);refine⟨_,_,h1,C7.tapV (T:=T++[s,nw]) ⟨by simp[hTl];omega,.inr ⟨_,_,_,rfl,hB,AX w.drew _,hge,hle,?_,?_⟩⟩,⟨rfl,rfl,rfl,AL,λk hk _=>heap_alloc_old w.drew _ hk⟩,.inr rfl⟩
   ·rw[Array.size_append,size_zeroCells,List.size_toArray,hlen,show(aH #[Z8 aI 0,Z8 aI 0]).cells.size=2 from rfl];omega
   ·rw[Array.toList_append,BS,List.take_append_of_le_length (by rw[hlen];exact Ac _),Ad (by rw[hlen];exact Ac _)];rfl
theorem LY (w:aC) {ops:Array Oper} {rest:List Oper} {o:Oper} {a:Act} {Q:Exit->Act->aC->Prop} (hg:o.guard=aA) (sx x:Operand)
  (hop:o.op=Op.call { callee:=Callee.builtin Builtin.append,args:=#[sx,x],argTypes:=#[31,31] }) (B:Nat) (v:aB) (T:List Int) (n:Nat) (hs:a.eval sx=v) (hown:Du B w v T n)
  (wb:aC) (s nw:Int) (hw:w=wb.alloc (aJ #[Z8 aI s,Z8 aI nw] 77)) (hx:a.eval x=Z7 (aE ⟨wb.heap.size,0,aA⟩) 1 1) (hm:n<=1048576) (hB:B<=w.heap.size)
  (hK:∀ v' w',Du B w' v' (T++[s,nw]) (n+1)->v'.oneCell'=true->Below B w w'->w.grownBy w' v.ownBlock->(v'.ownBlock=v.ownBlock\/v'.ownBlock=aE w.heap.size)->wpList tP ops Q rest (a.put o.dst v') w') :
  wpList tP ops Q (o::rest) a w:=by
 obtain⟨v',w',hr,h1,h2,h5⟩:=Se w o.type B v T n hown wb s nw hw hm hB;obtain⟨a',c',e'⟩:=h1.slice;have hk:=hK v' w' h1 (by rw[e'];rfl) (Cg.grown h2 hB hown.ownBlock) h2 h5;refine wpList_plain hg λK hK'=>?_
 unfold Oper.wp execOp;simp only[hop,resolve,invoke,builtin,Sem.run_bind,Sem.run_pure,Result.andThen_ok,List.map_toArray,List.map_cons,List.map_nil,hs,hx,hr];exact hK' _ _ hk
theorem QS (s:Nat) (nw:Int) (hs:s<256) (hb:Bk w g d u k v) (hd:Dg d D) (hu:Dg u U) (hv:Du B w v T n) (hn:n<=1048576) (hH:H<=g) (hHB:H<=B) (hgB:NF g v) (hBw:B<=w.heap.size) :
  Calls tP 66 #[aF (aE ⟨g,0,aA⟩),Z8 aI s,Z8 aI nw] w λe w'=>e=.returned (.tuple #[])/\Below H w w'/\∃ u' v',Bk w' g d u' k v'/\Dg u' (λx=>U x\/x=s)/\Du B w' v' (T++[(s:Int),nw]) (n+1)/\NF g v':=by
 have HB:AO (Bk w g d u k v):=hb;have HN:∀ q,AO (Bk ((w.setCell ⟨g,32+s/8,aA⟩ (Z8 Z9 ((Ds u s).getD (s/8) 0))).drewN q) g d (Ds u s) k v/\Du B ((w.setCell ⟨g,32+s/8,aA⟩ (Z8 Z9 ((Ds u s).getD (s/8) 0))).drewN q) v T n/\Below H w ((w.setCell ⟨g,32+s/8,aA⟩ (Z8 Z9 ((Ds u s).getD (s/8) 0))).drewN q)/\B<=((w.setCell ⟨g,32+s/8,aA⟩ (Z8 Z9 ((Ds u s).getD (s/8) 0))).drewN q).heap.size):=λq=>by
  have hw:Wr g w ((w.setCell ⟨g,32+s/8,aA⟩ (Z8 Z9 ((Ds u s).getD (s/8) 0))).drewN q):=((Wr.refl _ _).setCell _ _).drewN _;exact⟨(hb.addU s hs).drew q,hv.wr hw hgB,hw.below hH,by rw[hw.size];exact hBw⟩
 have HU:AO (Dg (Ds u s) (λx=>U x\/x=s)):=hu.add s hs;clear hb hd hu hv hBw;go_enter func66,ntmps66;go_wp2_with fail;refine(JU g 32 s u _ hs HB.o.batu).mono ?_;rintro e w4 ⟨rfl,q,rfl⟩;have H2:=HN q;clear HN HB;generalize (w.setCell ⟨g,32+s/8,aA⟩ (Z8 Z9 ((Ds u s).getD (s/8) 0))).drewN q=w4 at *;have c1:=H2.o.1.cv;have HA:AO (Du B (w4.alloc (aJ #[Z8 aI (s:Int),Z8 aI nw] 77)) v T n):=H2.o.2.1.alloc _;have HBW:AO (B<=(w4.alloc (aJ #[Z8 aI (s:Int),Z8 aI nw] 77)).heap.size):=by
  show _<=_
  have:=H2.o.2.2.2;simp;omega
 go_wp2_with (first
  |(refine LY _ rfl (aM 15) (aM 19) rfl B v T n rfl HA.o w4 s nw rfl rfl hn HBW.o ?_)
  |fail)
 intro v' w5 h1 ho h2 hgr how;obtain⟨a',c',rfl⟩:=h1.slice;have hg4:=H2.o.1.lt;have hb4:Bk (w4.alloc (aJ #[Z8 aI (s:Int),Z8 aI nw] 77)) g d (Ds u s) k v:=H2.o.1.below (Cg.alloc Cl _) hg4;have hb5:Bk w5 g d (Ds u s) k v:=⟨by rw[hgr.block g hb4.lt (λe=>hgB g e.symm rfl)];exact hb4.row,hb4.ld,hb4.lu,hb4.bd,hb4.bu⟩
 have hne5:NF g (Z7 a' (n+1:Nat) c'):=λx hx=>by
  rcases how with e|e
  ·exact hgB x (e ▸ hx)
  ·rw[e] at hx;have hx':=Bv hx;have:=A7 w4 (aJ #[Z8 aI (s:Int),Z8 aI nw] 77);omega
 have f1:=hb5.fz 65;have c5:=hb5.cv;have HF:AO (Below H w (w5.setCell ⟨g,65,aA⟩ (Z7 a' (n+1:Nat) c'))/\∃ u' v'',Bk (w5.setCell ⟨g,65,aA⟩ (Z7 a' (n+1:Nat) c')) g d u' k v''/\Dg u' (λx=>U x\/x=s)/\Du B (w5.setCell ⟨g,65,aA⟩ (Z7 a' (n+1:Nat) c')) v'' (T++[(s:Int),nw]) (n+1)/\NF g v''):=by
  have hw:Wr g w5 (w5.setCell ⟨g,65,aA⟩ (Z7 a' (n+1:Nat) c')):=(Wr.refl _ _).setCell _ _;refine⟨?_,Ds u s,_,hb5.setV _,HU.o,h1.wr hw hne5,hne5⟩;have b1:Below H w4 (w4.alloc (aJ #[Z8 aI (s:Int),Z8 aI nw] 77)):=Cg.alloc (AG H2.o.1.lt) _;exact((H2.o.2.2.1.trans b1).trans (h2.mono AJ)).trans (hw.below hH)
 clear h1 h2 hb4 hb5 hne5 hgr how HA HBW H2 HU c1;go_wp2
 go_end0
 exact⟨rfl,HF.o⟩
end Go.Proofs.YtjdhhgaelgemcaaGreatDoor
namespace Go.Proofs.YtjdhhgaelgemcaaGreatDoor
open Go.ChangeShapes Go.WideShapes Go.ChangeAt Go.RowKit
set_option linter.unusedVariables false
structure C5 (w wr:aC) (R:List (Nat×List Int)) (E:List (Nat×Nat×List Int)):Prop where
 below:Below w.heap.size w wr
 rows:∀ r∈R,w.heap.size<=r.1/\Ch wr r.1 138 r.2/\Cs r.2
 order:R.Pairwise λa b=>a.1≠b.1
 els:∀ e∈E,e.1<w.heap.size/\Dj wr e.1 e.2.1 e.2.2
section
variable {w wr w':aC} {R:List (Nat×List Int)} {E:List (Nat×Nat×List Int)}
theorem C5.start (w:aC) (E:List (Nat×Nat×List Int)) (h:∀ e∈E,Dj w e.1 e.2.1 e.2.2):C5 w w [] E:=
 ⟨A9 _ _,AL,List.Pairwise.nil,λe he=>⟨(h e he).1,h e he⟩⟩
theorem C5.call (h:C5 w wr R E) (b:Below wr.heap.size wr w'):C5 w w' R E:=
 ⟨h.below.trans (b.mono h.below.size),λr hr=>⟨(h.rows r hr).1,(h.rows r hr).2.1.below b (h.rows r hr).2.1.lt,(h.rows r hr).2.2⟩,h.order,λe he=>⟨(h.els e he).1,(h.els e he).2.below b⟩⟩
theorem C5.one (h:C5 w wr R E) (b:Below wr.heap.size wr w') {g:Nat} {es:List Int} (hg:wr.heap.size<=g) (hr:Ch w' g 138 es) (hk:Cs es) :
  C5 w w' ((g,es)::R) E:=by
 have c:=h.call b;refine⟨c.below,?_,?_,c.els⟩
 ·intro r hm;rcases Aa.1 hm with rfl|hm
  ·exact⟨BG h.below.size hg,hr,hk⟩
  ·exact c.rows r hm
 ·exact List.Pairwise.cons (λr hm e=>by have:=(h.rows r hm).2.1.lt;simp only at e;omega) h.order
theorem C5.two (h:C5 w wr R E) (b:Below wr.heap.size wr w') {g g':Nat} {es es':List Int} (hg:wr.heap.size<=g) (hr:Ch w' g 138 es) (hk:Cs es)
  (hg':wr.heap.size<=g') (hr':Ch w' g' 138 es') (hk':Cs es') (hne:g≠g'):C5 w w' ((g',es')::(g,es)::R) E:=by
 have c:=h.one b hg hr hk;refine⟨c.below,?_,?_,c.els⟩
 ·intro r hm;rcases Aa.1 hm with rfl|hm
  ·exact⟨BG h.below.size hg',hr',hk'⟩
  ·exact c.rows r hm
 ·refine List.Pairwise.cons (λr hm e=>?_) c.order;rcases Aa.1 hm with rfl|hm
  ·exact hne e.symm
  ·have:=(h.rows r hm).2.1.lt;simp only at e;omega
theorem C5.room (h:C5 w wr R E) :
  C5 w (wr.alloc (aJ CQ 138)) ((wr.heap.size,[0,0,0,0,0])::R) E:=
 h.one (Cx _ _) Cl (Jo wr) FN
theorem C5.room2 (h:C5 w wr R E) :
  C5 w ((wr.alloc (aJ CQ 138)).alloc (aJ CQ 138)) ((wr.heap.size+1,[0,0,0,0,0])::(wr.heap.size,[0,0,0,0,0])::R) E:=by
 have:=h.room.room
 rwa [show(wr.alloc (aJ CQ 138)).heap.size=wr.heap.size+1 by simp] at this
theorem C5.el (h:C5 w wr R E) (i:Nat) (g o:Nat) (es:List Int) (hi:E[i]?=aE (g,o,es)):Dj wr g o es:=
 (h.els _ (List.mem_of_getElem? hi)).2
theorem C5.row (h:C5 w wr R E) (i:Nat) (g:Nat) (es:List Int) (hi:R[i]?=aE (g,es)):Ch wr g 138 es:=
 (h.rows _ (List.mem_of_getElem? hi)).2.1
theorem C5.ok (h:C5 w wr R E) (i:Nat) (g:Nat) (es:List Int) (hi:R[i]?=aE (g,es)):Cs es:=
 (h.rows _ (List.mem_of_getElem? hi)).2.2
theorem C5.re (h:C5 w wr R E) (i:Nat) (g:Nat) (es:List Int) (hi:R[i]?=aE (g,es)):Dj wr g 0 es:=
 Dj.of_row (h.row i g es hi) (h.ok i g es hi)
theorem C5.put (h:C5 w wr R E) (i:Nat) (g:Nat) (zs es:List Int) (hi:R[i]?=aE (g,zs)) (hw:Wr g wr w') (hr:Ch w' g 138 es) (hk:Cs es) :
  C5 w w' (R.set i (g,es)) E:=by
 have hg:w.heap.size<=g:=(h.rows _ (List.mem_of_getElem? hi)).1;have hil:i<R.length:=(Ao.1 hi).1;have hie:R[i]=(g,zs):=(Ao.1 hi).2;have ho:=List.pairwise_iff_getElem.1 h.order;refine⟨h.below.trans (hw.below hg),?_,?_,λe he=>⟨(h.els e he).1,(h.els e he).2.wr hw (AG (h.els e he).1)⟩⟩
 ·intro r hm;obtain⟨j,hj,rfl⟩:=Br hm;rw[List.length_set] at hj;rw[List.getElem_set];split
  ·exact⟨hg,hr,hk⟩
  ·rename_i hne
   have q:=h.rows _ (Bl hj);refine⟨q.1,hw.rowW q.2.1 ?_,q.2.2⟩;rcases Nat.lt_or_gt_of_ne hne with hlt|hgt
   ·have:=ho i j hil hj hlt;rw[hie] at this;exact λe=>this e.symm
   ·have:=ho j i hj hil hgt;rw[hie] at this;exact this
 ·rw[List.pairwise_iff_getElem];intro a b ha hb hab;rw[List.length_set] at ha hb;have:=ho a b ha hb hab;rw[List.getElem_set,List.getElem_set];split<;>split<;>simp_all
end
theorem DG {w wr:aC} {R:List (Nat×List Int)} {E:List (Nat×Nat×List Int)} (S:C5 w wr R E)
  {ops:Array Oper} {rest:List Oper} {o:Oper} {a:Act} {Q:Exit->Act->aC->Prop} (hgd:o.guard=aA) (x y:Operand) (ho:o.op=.store 138 x y)
  (i g:Nat) (zs es:List Int) (hi:R[i]?=aE (g,zs)) (hx:a.eval x=aF (aE ⟨g,0,aA⟩)) (hy:a.eval y=aH (es.map (Value.int .u64)).toArray) (hk:Cs es)
  {wa:aC} (hwa:wa=wr)
  (hK:∀ w',C5 w w' (R.set i (g,es)) E->wpList tP ops Q rest (a.put o.dst undef) w') :
  wpList tP ops Q (o::rest) a wa:=by
 subst hwa;exact Co hgd x y ho g es zs hx hy hk.1 (S.ok i g zs hi).1 (S.row i g zs hi) λw' hr hw=>hK w' (S.put i g zs es hi hw hr hk)
def EV (x:Int) (v:aB):Prop:=∃ es,Cs es/\ev es=x/\v=aH (es.map (Value.int .u64)).toArray
theorem EV.elim_ {x:Int} {v:aB} {C:Prop} (h:EV x v) (k:∀ es,Cs es->ev es=x->v=aH (es.map (Value.int .u64)).toArray->C):C:=by
 obtain⟨es,a,b,c⟩:=h;exact k es a b c
theorem GK {u:Nat->aB} {i j:Nat} {v:aB} (h:i≠j):Ce u i v j=u j:=by unfold Ce;rw[AQ (BA h)]
theorem D9 {L:Nat->Bool} {i j:Nat} (h:j≠i):Cf L i j=L j:=by unfold Cf;simp[h]
theorem N8 {L:Nat->Bool} {i:Nat}:Cf L i i=true:=by unfold Cf;simp
def YO (W:aC) (A S:Nat) (X:Int) (L:Nat->Bool) (u:Nat->aB) (w':aC):Prop:=
 (L S=true->L A=true)/\(L A=true->∃ g es,u A=aF (aE ⟨g,0,aA⟩)/\W.heap.size<=g/\Ch w' g 138 es/\Cs es/\(L S=true->ev es=X))
structure Hh (W:aC) (A1 A2 S1 S2:Nat) (X1 X2:Int) (L:Nat->Bool) (u:Nat->aB) (w':aC):Prop where
 below:Below W.heap.size W w'
 v1:YO W A1 S1 X1 L u w'
 v2:YO W A2 S2 X2 L u w'
 ne:L A1=true->L A2=true->∀ g g',u A1=aF (aE ⟨g,0,aA⟩)->u A2=aF (aE ⟨g',0,aA⟩)->g≠g'
section
variable {W w' ww:aC} {A1 A2 S1 S2 A S:Nat} {X1 X2 X:Int} {L:Nat->Bool} {u:Nat->aB}
theorem YO.low (h:YO W A S X L u w') (i:Nat) (hA:A≠i) (hS:S≠i) (v:aB) (hb:∀ g,(aJ #[] 0=aJ #[] 0)->L A=true->∀ es,u A=aF (aE ⟨g,0,aA⟩)->Ch w' g 138 es->Ch ww g 138 es):YO W A S X (Cf L i) (Ce u i v) ww:=by
 refine⟨by rw[D9 hA,D9 hS];exact h.1,?_⟩;rw[D9 hA,D9 hS];intro hL;obtain⟨g,es,h1,h2,h3,h4,h5⟩:=h.2 hL;exact⟨g,es,by rw[GK (BA hA)];exact h1,h2,hb g rfl hL es h1 h3,h4,h5⟩
theorem Hh.low (h:Hh W A1 A2 S1 S2 X1 X2 L u w') (i:Nat) (h1:A1≠i) (h2:A2≠i) (h3:S1≠i) (h4:S2≠i) (v:aB) (b:Below w'.heap.size w' ww):Hh W A1 A2 S1 S2 X1 X2 (Cf L i) (Ce u i v) ww:=
 ⟨h.below.trans (b.mono h.below.size),h.v1.low i h1 h3 v (λg _ _ es _ r=>r.below b r.lt),h.v2.low i h2 h4 v (λg _ _ es _ r=>r.below b r.lt),by
  rw[D9 h1,D9 h2,GK (BA h1),GK (BA h2)];exact h.ne⟩
theorem Hh.start (W:aC) (L:Nat->Bool) (u:Nat->aB) (h1:L A1=false) (h2:L A2=false) (h3:L S1=false) (h4:L S2=false) (b:Below W.heap.size W w'):Hh W A1 A2 S1 S2 X1 X2 L u w':=
 ⟨b,⟨λh=>(by rw[h3] at h;cases h),λh=>(by rw[h1] at h;cases h)⟩,⟨λh=>(by rw[h4] at h;cases h),λh=>(by rw[h2] at h;cases h)⟩,λh=>(by rw[h1] at h;cases h)⟩
theorem Hh.swap (h:Hh W A1 A2 S1 S2 X1 X2 L u w'):Hh W A2 A1 S2 S1 X2 X1 L u w':=⟨h.below,h.v2,h.v1,λa b g g' e e' q=>h.ne b a g' g e' e q.symm⟩
theorem Hh.alloc1 (h:Hh W A1 A2 S1 S2 X1 X2 L u w') (hL:L A1=false) (h2:A2≠A1) (h3:S1≠A1) (h4:S2≠A1) :
  Hh W A1 A2 S1 S2 X1 X2 (Cf L A1) (Ce u A1 (aF (aE ⟨w'.heap.size,0,aA⟩))) (w'.alloc (aJ CQ 138)):=by
 have b:=Cx w' (aJ CQ 138);have hS:L S1=false:=by
  cases q:L S1 with
  |false=>rfl
  |true=>have:=h.v1.1 q;rw[hL] at this;cases this
 refine⟨h.below.trans (b.mono h.below.size),⟨λ_=>N8,λ_=>⟨w'.heap.size,[0,0,0,0,0],by unfold Ce;simp,h.below.size,Jo w',FN,by rw[D9 h3,hS];intro q;cases q⟩⟩,h.v2.low A1 h2 h4 _ (λg _ _ es _ r=>r.below b r.lt),?_⟩;rw[D9 h2,GK (BA h2)];intro _ q g g' e e' hg;obtain⟨g2,es,k1,k2,k3,_⟩:=h.v2.2 q;have e1:g=w'.heap.size:=by unfold Ce at e;simp at e;exact e.symm
 rw[k1] at e';have e2:g2=g':=by simpa using e'
 have:=k3.lt;omega
theorem Hh.alloc2 (h:Hh W A1 A2 S1 S2 X1 X2 L u w') (hL:L A2=false) (h2:A1≠A2) (h3:S2≠A2) (h4:S1≠A2) :
  Hh W A1 A2 S1 S2 X1 X2 (Cf L A2) (Ce u A2 (aF (aE ⟨w'.heap.size,0,aA⟩))) (w'.alloc (aJ CQ 138)):=
 (h.swap.alloc1 hL h2 h3 h4).swap
theorem Hh.store1 (h:Hh W A1 A2 S1 S2 X1 X2 L u w') {g:Nat} {es:List Int} (hL:L A1=true) (hg:u A1=aF (aE ⟨g,0,aA⟩)) (h1:A1≠S1) (h2:A2≠S1) (h4:S2≠S1) (hk:Cs es) (hv:ev es=X1) (hw:Wr g w' ww) (hr:Ch ww g 138 es) (v:aB) :
  Hh W A1 A2 S1 S2 X1 X2 (Cf L S1) (Ce u S1 v) ww:=by
 obtain⟨g0,es0,k1,k2,k3,k4,k5⟩:=h.v1.2 hL;have e0:g0=g:=by rw[k1] at hg;simpa using hg
 subst e0;refine⟨h.below.trans (hw.below k2),⟨λ_=>by rw[D9 h1];exact hL,λ_=>⟨g0,es,by rw[GK (BA h1)];exact hg,k2,hr,hk,λ_=>hv⟩⟩,h.v2.low S1 h2 h4 v (λg' _ q es' e' r=>hw.rowW r (λe=>h.ne hL q g0 g' k1 e' e.symm)),?_⟩;rw[D9 h1,D9 h2,GK (BA h1),GK (BA h2)];exact h.ne
theorem Hh.store2 (h:Hh W A1 A2 S1 S2 X1 X2 L u w') {g:Nat} {es:List Int} (hL:L A2=true) (hg:u A2=aF (aE ⟨g,0,aA⟩)) (h1:A2≠S2) (h2:A1≠S2) (h4:S1≠S2) (hk:Cs es) (hv:ev es=X2) (hw:Wr g w' ww) (hr:Ch ww g 138 es) (v:aB) :
  Hh W A1 A2 S1 S2 X1 X2 (Cf L S2) (Ce u S2 v) ww:=(h.swap.store1 hL hg h1 h2 h4 hk hv hw hr v).swap
theorem Hh.fin1 (h:Hh W A1 A2 S1 S2 X1 X2 L u w') (hS:L S1=true):∃ g es,u A1=aF (aE ⟨g,0,aA⟩)/\W.heap.size<=g/\Ch w' g 138 es/\Cs es/\ev es=X1:=by
 obtain⟨g,es,k1,k2,k3,k4,k5⟩:=h.v1.2 (h.v1.1 hS);exact⟨g,es,k1,k2,k3,k4,k5 hS⟩
theorem Hh.get1 (h:Hh W A1 A2 S1 S2 X1 X2 L u w') (hA:L A1=true):∃ g es,u A1=aF (aE ⟨g,0,aA⟩)/\Ch w' g 138 es/\Cs es:=by
 obtain⟨g,es,k1,k2,k3,k4,k5⟩:=h.v1.2 hA;exact⟨g,es,k1,k3,k4⟩
end
theorem EW {w:aC} {o:Oper} {a:Act} {K:Act->aC->Prop} {Q:Exit->Act->aC->Prop} (x y:Operand) (ho:o.op=.store 138 x y)
  (g:Nat) (zs es:List Int) (hx:a.eval x=aF (aE ⟨g,0,aA⟩)) (hy:a.eval y=aH (es.map (Value.int .u64)).toArray) (hk:Cs es) (hz:Cs zs) (hr:Ch w g 138 zs)
  (hK:∀ w',Ch w' g 138 es->Wr g w w'->K (a.put o.dst undef) w'):o.wp tP a w K Q:=
 Bt 138 x y ho g ((es.map (Value.int .u64)).toArray) hx hy 138 _ hr (sizeEl hk.1) (by simp[hk.1,hz.1]) (all_oneCell_toArray (Aw _ _)) (hK _ (AB hr) (Wr.setRow _ _ _))
end Go.Proofs.YtjdhhgaelgemcaaGreatDoor
namespace Go.Proofs.YtjdhhgaelgemcaaGreatDoor
set_option linter.unusedVariables false
theorem QT (zs:List Int) (hl:zs.length=32) (hz:Ci zs) (hy:mY zs<fp):I7 zs=mX zs Dy:=by
 have h0:0<=mY zs:=by unfold mY;rw[Er];omega
 obtain⟨r1,r2⟩:=Jt (mY zs) h0 hy;have ho:=Mr zs hl hz;have hb:=hz.get 31;have hm:mO zs=0\/mO zs=1:=by unfold mO;omega
 have hx:I7 zs=if((Ef (mY zs) Dy%2 == 1) != SZ zs)=true then(0-Ef (mY zs) Dy)%fp else Ef (mY zs) Dy:=by
  unfold I7 Ki;rw[show Fh zs=mY zs from rfl,r2]
 rw[hx,ho];unfold mX;rw[show(0:Int)%fp=0 from by decide];generalize Ef (mY zs) Dy=x;have hp:x%2=0\/x%2=1:=AJ
 rcases hm with hm|hm<;>rcases hp with hp|hp<;>rw[hm,hp]<;>simp
theorem ZL:ev Eh=(Dy+Dy)%fp:=by decide +kernel
end Go.Proofs.YtjdhhgaelgemcaaGreatDoor
namespace Go.Proofs.YtjdhhgaelgemcaaGreatDoor
open Go.ChangeShapes Go.WideShapes Go.ChangeAt Go.RowKit
set_option linter.unusedVariables false
def Uo (w:aC) (g:Nat) (X1 Y1 Z1 T1 X2 Y2 Z2 T2:Int) (e:Ending) (w':aC):Prop:=
 ∃ x y z t,Pt w' g x y z t/\EN g w w'/\e=.returned (.tuple #[])/\
  ev x=(E9 X1 Y1 X2 Y2-E7 X1 Y1 X2 Y2)%fp*((Ey Z1 Z2-Ek Dy T1 T2)%fp)%fp/\
  ev y=(Ey Z1 Z2+Ek Dy T1 T2)%fp*((E9 X1 Y1 X2 Y2+E7 X1 Y1 X2 Y2)%fp)%fp/\
  ev z=(Ey Z1 Z2-Ek Dy T1 T2)%fp*((Ey Z1 Z2+Ek Dy T1 T2)%fp)%fp/\
  ev t=(E9 X1 Y1 X2 Y2-E7 X1 Y1 X2 Y2)%fp*((E9 X1 Y1 X2 Y2+E7 X1 Y1 X2 Y2)%fp)%fp
theorem ZM (a b:Int):a%fp*b%fp=a*b%fp:=by rw[Int.mul_emod,Int.emod_emod,<-Int.mul_emod]
theorem ZN (D T1 T2:Int):T1*T2%fp*((D+D)%fp)%fp=Ek D T1 T2:=by
 unfold Ek;rw[ZM,ZM]
 congr 1;grind
theorem ZO (Z1 Z2:Int):(Z1*Z2%fp+Z1*Z2%fp)%fp=Ey Z1 Z2:=by
 unfold Ey;rw[ZM,<-Int.add_emod]
 congr 1;grind
theorem Sf {xs:List Int} (h:xs.length=5):∃ a b c d e,xs=[a,b,c,d,e]:=by
 match xs,h with
 |[a,b,c,d,e],_=>exact⟨a,b,c,d,e,rfl⟩
theorem Tryz.sizePoint:(tP.info? 140).map (·.size)=aE 20:=AM
theorem Fp {w:aC} {ops:Array Oper} {rest:List Oper} {o:Oper} {a:Act} {Q:Exit->Act->aC->Prop} (hgd:o.guard=aA) (px py:Operand) (ho:o.op=.store 140 px py)
  (g:Nat) (x y z t old:List Int) (hx:a.eval px=aF (aE ⟨g,0,aA⟩)) (hy:a.eval py=aH ((pl x y z t).map (Value.int .u64)).toArray) (kx:Cs x) (ky:Cs y) (kz:Cs z) (kt:Cs t) (hl:old.length=20) (hr:Ch w g 140 old)
  (hK:∀ w',Pt w' g x y z t->Wr g w w'->wpList tP ops Q rest (a.put o.dst undef) w') :
  wpList tP ops Q (o::rest) a w:=by
 have hn:(pl x y z t).length=20:=by unfold pl;simp[kx.1,ky.1,kz.1,kt.1]
 exact CB hgd 140 px py ho g ((pl x y z t).map (Value.int .u64)).toArray hx hy 140 _ hr (by rw[Tryz.sizePoint];simp[hn]) (by simp[hn,hl]) (all_oneCell_toArray (Aw _ _)) (hK _ ⟨AB hr,kx,ky,kz,kt⟩ (Wr.setRow _ _ _))
theorem LZ (g h:Nat) (x1 y1 z1 t1 x2 y2 z2 t2:List Int) (w:aC) (hp:Pt w g x1 y1 z1 t1) (hq:Pt w h x2 y2 z2 t2) :
  Calls tP 109 #[aF (aE ⟨g,0,aA⟩),aF (aE ⟨h,0,aA⟩)] w (Uo w g (ev x1) (ev y1) (ev z1) (ev t1) (ev x2) (ev y2) (ev z2) (ev t2)):=by
 have HS0:AO (C5 w w [] [(g,0,x1),(g,5,y1),(g,10,z1),(g,15,t1),(h,0,x2),(h,5,y2),(h,10,z2),(h,15,t2)]):=C5.start w _ (λe he=>by
  simp only[List.mem_cons,List.not_mem_nil,or_false] at he;rcases he with rfl|rfl|rfl|rfl|rfl|rfl|rfl|rfl
  ·exact hp.ex
  ·exact hp.ey
  ·exact hp.ez
  ·exact hp.et
  ·exact hq.ex
  ·exact hq.ey
  ·exact hq.ez
  ·exact hq.et)
 have HPT:AO (Pt w g x1 y1 z1 t1):=hp;clear hp hq;go_enter func109,ntmps109;go_wp2_with fail;refine(Mm _).mono ?_;rintro e w1 ⟨dd,hk,hv,rfl,b⟩;have HKdd:AO (Cs dd/\ev dd=ev Eh):=⟨hk,hv⟩
 have HS1:AO (C5 w w1 [] [(g,0,x1),(g,5,y1),(g,10,z1),(g,15,t1),(h,0,x2),(h,5,y2),(h,10,z2),(h,15,t2)]):=HS0.o.call b;clear hk hv b HS0;have HA2:AO (C5 w (w1.alloc (aJ CQ 138)) [(w1.heap.size,[0,0,0,0,0])] [(g,0,x1),(g,5,y1),(g,10,z1),(g,15,t1),(h,0,x2),(h,5,y2),(h,10,z2),(h,15,t2)]):=HS1.o.room;clear HS1;go_wp2_with (first
  |(refine DG HA2.o rfl (aM 4) (aM 17) rfl 0 (w1.heap.size) [0,0,0,0,0] dd rfl rfl rfl HKdd.o.1 rfl ?_)
  |fail)
 intro w3 S;have HS3:AO (C5 w w3 [(w1.heap.size,dd)] [(g,0,x1),(g,5,y1),(g,10,z1),(g,15,t1),(h,0,x2),(h,5,y2),(h,10,z2),(h,15,t2)]):=S;clear S HA2;generalize w1.heap.size=G3a at *;go_wp2_with fail;refine Ag AM ?_;refine Ec (λ_ _ _=>True) (frame:=(λ(a b c d e f g h i j k l m n o p q r s u v w x y z A B C D E F G H I J K L M N O P Q R S T U V W X Y Z a0 a1 a2 a3 a4 a5 a6 a7:aB)=>λ(t:Nat->aB)=>({ tmps:=List.toArray [a,b,c,d,e,t 14,t 15,f,g,h,i,j,k,l,m,n,o,p,t 0,t 1,t 2,t 3,t 4,t 5,t 6,t 7,t 8,t 9,t 10,t 11,t 12,t 13,q,r,s,u,v,w,x,y,z,A,B,C,D,E,F,G,H,I,J,K,L,M,N,O,P,Q,R,S,T,U,V,W,X,Y,Z,a0,a1,a2,a3,a4,a5,a6,a7],defers:=[] }:Act)) _ _ _ _ _ _ _ _ _ _ _ _ _ _ _ _ _ _ _ _ _ _ _ _ _ _ _ _ _ _ _ _ _ _ _ _ _ _ _ _ _ _ _ _ _ _ _ _ _ _ _ _ _ _ _ _ _ _ _)
  (Ext:=Hh w3 14 15 16 17 ((ev y1-ev x1)%fp) ((ev y2-ev x2)%fp)) (Good:=λi L _ v=>if i=0 then v=aF (aE ⟨g,0,aA⟩) else if i=1 then v=aF (aE ⟨g,0,aA⟩) else if i=2 then v=aF (aE ⟨g,5,aA⟩) else if i=3 then v=aF (aE ⟨g,0,aA⟩) else if i=4 then v=aF (aE ⟨g,0,aA⟩) else if i=5 then v=aF (aE ⟨g,0,aA⟩) else if i=6 then EV ((ev y1-ev x1)%fp) v else if i=7 then v=aF (aE ⟨h,0,aA⟩) else if i=8 then v=aF (aE ⟨h,0,aA⟩) else if i=9 then v=aF (aE ⟨h,5,aA⟩) else if i=10 then v=aF (aE ⟨h,0,aA⟩) else if i=11 then v=aF (aE ⟨h,0,aA⟩) else if i=12 then v=aF (aE ⟨h,0,aA⟩) else if i=13 then EV ((ev y2-ev x2)%fp) v else if i=14 then L 14=true else if i=15 then L 15=true else if i=16 then L 16=true else if i=17 then L 17=true else True) ?hstab AM ?hop ?hdone _ _ ((λ(x0 x1 x2 x3 x4 x5 x6 x7 x8 x9 x10 x11 x12 x13 x14 x15:aB)=>λ(i:Nat)=>if i=0 then x0 else if i=1 then x1 else if i=2 then x2 else if i=3 then x3 else if i=4 then x4 else if i=5 then x5 else if i=6 then x6 else if i=7 then x7 else if i=8 then x8 else if i=9 then x9 else if i=10 then x10 else if i=11 then x11 else if i=12 then x12 else if i=13 then x13 else if i=14 then x14 else if i=15 then x15 else undef) _ _ _ _ _ _ _ _ _ _ _ _ _ _ _ _) _ AL ?ext ?start AL
 case start=>intro i hi h;exact absurd h Et
 case ext=>exact Hh.start _ _ _ AL AL AL AL ⟨rfl,rfl,rfl,Ac _,λ_ _=>rfl⟩
 case hstab=>
  intro j L w9 w' i v _ _ _ h;by_cases h14:j=14
  ·subst h14;simp at h |-;unfold Cf;simp[h]
  by_cases h15:j=15
  ·subst h15;simp at h |-;unfold Cf;simp[h]
  by_cases h16:j=16
  ·subst h16;simp at h |-;unfold Cf;simp[h]
  by_cases h17:j=17
  ·subst h17;simp at h |-;unfold Cf;simp[h]
  simp only[if_neg h14,if_neg h15,if_neg h16,if_neg h17] at h |-;exact h
 case hop=>
  intro i o L t w' ho hLi hx hdep K hK;have hi:i<18:=(AR.1 ho).1;obtain rfl|rfl|rfl|rfl|rfl|rfl|rfl|rfl|rfl|rfl|rfl|rfl|rfl|rfl|rfl|rfl|rfl|rfl:i=0\/i=1\/i=2\/i=3\/i=4\/i=5\/i=6\/i=7\/i=8\/i=9\/i=10\/i=11\/i=12\/i=13\/i=14\/i=15\/i=16\/i=17:=AJ
  all_goals(simp at ho;subst ho)
  ·clear hdep;have hK':=hK w' (aF (aE ⟨g,0,aA⟩)) AL (hx.low 0 AK AK AK AK _ Cg) trivial;clear hK;rw[AP AN];go_simp;simpa[Ce] using hK'
  ·have d0:t 0=aF (aE ⟨g,0,aA⟩):=by simpa using hdep ⟨0,aL⟩ AL rfl
   clear hdep;have hK':=hK w' (aF (aE ⟨g,0,aA⟩)) AL (hx.low 1 AK AK AK AK _ Cg) trivial;clear hK;rw[AP AN];go_simp;simpa[Ce,d0] using hK'
  ·have d1:t 1=aF (aE ⟨g,0,aA⟩):=by simpa using hdep ⟨1,aL⟩ AL rfl
   clear hdep;have hK':=hK w' (aF (aE ⟨g,5,aA⟩)) AL (hx.low 2 AK AK AK AK _ Cg) trivial;clear hK;rw[AP AN];go_simp;simpa[Ce,d1] using hK'
  ·clear hdep;have hK':=hK w' (aF (aE ⟨g,0,aA⟩)) AL (hx.low 3 AK AK AK AK _ Cg) trivial;clear hK;rw[AP AN];go_simp;simpa[Ce] using hK'
  ·have d3:t 3=aF (aE ⟨g,0,aA⟩):=by simpa using hdep ⟨3,aL⟩ AL rfl
   clear hdep;have hK':=hK w' (aF (aE ⟨g,0,aA⟩)) AL (hx.low 4 AK AK AK AK _ Cg) trivial;clear hK;rw[AP AN];go_simp;simpa[Ce,d3] using hK'
  ·have d4:t 4=aF (aE ⟨g,0,aA⟩):=by simpa using hdep ⟨4,aL⟩ AL rfl
   clear hdep;have hK':=hK w' (aF (aE ⟨g,0,aA⟩)) AL (hx.low 5 AK AK AK AK _ Cg) trivial;clear hK;rw[AP AN];go_simp;simpa[Ce,d4] using hK'
  ·have d2:t 2=aF (aE ⟨g,5,aA⟩):=by simpa using hdep ⟨2,aL⟩ AL rfl
   have d5:t 5=aF (aE ⟨g,0,aA⟩):=by simpa using hdep ⟨5,aL⟩ AL rfl
   clear hdep;have A:=FR g 5 g 0 y1 x1 w' ((HS3.o.el 1 _ _ _ rfl).below hx.below) ((HS3.o.el 0 _ _ _ rfl).below hx.below);have hK':∀ ww v,EV ((ev y1-ev x1)%fp) v->Below w'.heap.size w' ww->K _ ww:=λww v hv hb=>hK ww v (by simpa using hv) (hx.low 6 AK AK AK AK _ hb) trivial
   clear hK;rw[AP AN];go_simp;try simp only[d2,d5]
   refine A.mono ?_;rintro e w9 ⟨es,hk,hv,rfl,hb⟩;have hK2:=hK' w9 _ ⟨es,hk,hv,rfl⟩ hb;clear hK' A hk hv hb;go_simp;simpa[Ce,d2,d5] using hK2
  ·clear hdep;have hK':=hK w' (aF (aE ⟨h,0,aA⟩)) AL (hx.low 7 AK AK AK AK _ Cg) trivial;clear hK;rw[AP AN];go_simp;simpa[Ce] using hK'
  ·have d7:t 7=aF (aE ⟨h,0,aA⟩):=by simpa using hdep ⟨7,aL⟩ AL rfl
   clear hdep;have hK':=hK w' (aF (aE ⟨h,0,aA⟩)) AL (hx.low 8 AK AK AK AK _ Cg) trivial;clear hK;rw[AP AN];go_simp;simpa[Ce,d7] using hK'
  ·have d8:t 8=aF (aE ⟨h,0,aA⟩):=by simpa using hdep ⟨8,aL⟩ AL rfl
   clear hdep;have hK':=hK w' (aF (aE ⟨h,5,aA⟩)) AL (hx.low 9 AK AK AK AK _ Cg) trivial;clear hK;rw[AP AN];go_simp;simpa[Ce,d8] using hK'
  ·clear hdep;have hK':=hK w' (aF (aE ⟨h,0,aA⟩)) AL (hx.low 10 AK AK AK AK _ Cg) trivial;clear hK;rw[AP AN];go_simp;simpa[Ce] using hK'
  ·have d10:t 10=aF (aE ⟨h,0,aA⟩):=by simpa using hdep ⟨10,aL⟩ AL rfl
   clear hdep;have hK':=hK w' (aF (aE ⟨h,0,aA⟩)) AL (hx.low 11 AK AK AK AK _ Cg) trivial;clear hK;rw[AP AN];go_simp;simpa[Ce,d10] using hK'
  ·have d11:t 11=aF (aE ⟨h,0,aA⟩):=by simpa using hdep ⟨11,aL⟩ AL rfl
   clear hdep;have hK':=hK w' (aF (aE ⟨h,0,aA⟩)) AL (hx.low 12 AK AK AK AK _ Cg) trivial;clear hK;rw[AP AN];go_simp;simpa[Ce,d11] using hK'
  ·have d9:t 9=aF (aE ⟨h,5,aA⟩):=by simpa using hdep ⟨9,aL⟩ AL rfl
   have d12:t 12=aF (aE ⟨h,0,aA⟩):=by simpa using hdep ⟨12,aL⟩ AL rfl
   clear hdep;have A:=FR h 5 h 0 y2 x2 w' ((HS3.o.el 5 _ _ _ rfl).below hx.below) ((HS3.o.el 4 _ _ _ rfl).below hx.below);have hK':∀ ww v,EV ((ev y2-ev x2)%fp) v->Below w'.heap.size w' ww->K _ ww:=λww v hv hb=>hK ww v (by simpa using hv) (hx.low 13 AK AK AK AK _ hb) trivial
   clear hK;rw[AP AN];go_simp;try simp only[d9,d12]
   refine A.mono ?_;rintro e w9 ⟨es,hk,hv,rfl,hb⟩;have hK2:=hK' w9 _ ⟨es,hk,hv,rfl⟩ hb;clear hK' A hk hv hb;go_simp;simpa[Ce,d9,d12] using hK2
  ·clear hdep;have hK':=hK _ (aF (aE ⟨w'.heap.size,0,aA⟩)) (by simp[Cf]) (hx.alloc1 hLi AK AK AK) trivial;clear hK;rw[AP AN];go_simp;simpa[Ce] using hK'
  ·clear hdep;have hK':=hK _ (aF (aE ⟨w'.heap.size,0,aA⟩)) (by simp[Cf]) (hx.alloc2 hLi AK AK AK) trivial;clear hK;rw[AP AN];go_simp;simpa[Ce] using hK'
  ·have l14:L 14=true:=by simpa using hdep ⟨14,aL⟩ AL rfl
   have f6:EV ((ev y1-ev x1)%fp) (t 6):=by simpa using hdep ⟨6,aL⟩ AL rfl
   clear hdep;obtain⟨g9,zs9,e9,r9,k9⟩:=hx.get1 l14;refine f6.elim_ λes9 ke ve ee=>?_
   have hK':∀ ww,Ch ww g9 138 es9->Wr g9 w' ww->K _ ww:=λww rr hw=>hK ww undef (by simp[Cf]) (hx.store1 l14 e9 AK AK AK ke ve hw rr _) trivial
   clear hK;rw[AP AN];refine EW (aM 5) (aM 24) rfl g9 zs9 es9 e9 ee ke k9 r9 λww rr hw=>?_
   have hK2:=hK' ww rr hw;clear hK';simpa[Ce,Act.put] using hK2
  ·have l15:L 15=true:=by simpa using hdep ⟨15,aL⟩ AL rfl
   have f13:EV ((ev y2-ev x2)%fp) (t 13):=by simpa using hdep ⟨13,aL⟩ AL rfl
   clear hdep;obtain⟨g9,zs9,e9,r9,k9⟩:=hx.swap.get1 l15;refine f13.elim_ λes9 ke ve ee=>?_
   have hK':∀ ww,Ch ww g9 138 es9->Wr g9 w' ww->K _ ww:=λww rr hw=>hK ww undef (by simp[Cf]) (hx.store2 l15 e9 AK AK AK ke ve hw rr _) trivial
   clear hK;rw[AP AN];refine EW (aM 6) (aM 31) rfl g9 zs9 es9 e9 ee ke k9 r9 λww rr hw=>?_
   have hK2:=hK' ww rr hw;clear hK';simpa[Ce,Act.put] using hK2
 case hdone=>
  intro L t4 w4 hx hg;have l16:L 16=true:=by simpa using hg 16 AK
  have l17:L 17=true:=by simpa using hg 17 AK
  clear hg;obtain⟨G4a,pd,q1,qg1,qr1,qk1,qv1⟩:=hx.fin1 l16;obtain⟨G4b,qd,q2,qg2,qr2,qk2,qv2⟩:=hx.swap.fin1 l17;have qne:=hx.ne (hx.v1.1 l16) (hx.v2.1 l17) _ _ q1 q2;have HS4:AO (C5 w w4 [(G4b,qd),(G4a,pd),(G3a,dd)] [(g,0,x1),(g,5,y1),(g,10,z1),(g,15,t1),(h,0,x2),(h,5,y2),(h,10,z2),(h,15,t2)]):=HS3.o.two hx.below qg1 qr1 qk1 qg2 qr2 qk2 qne;have HKpd:AO (Cs pd/\ev pd=(ev y1-ev x1)%fp):=⟨qk1,qv1⟩
  have HKqd:AO (Cs qd/\ev qd=(ev y2-ev x2)%fp):=⟨qk2,qv2⟩
  simp only[q1,q2];clear hx q1 q2 qg1 qg2 qr1 qr2 qk1 qk2 qv1 qv2 qne HS3;go_wp2_with fail;refine Ag AM ?_;refine Ec (λ_ _ _=>True) (frame:=(λ(a b c d e f g h i j k l m n o p q r s u v w x y z A B C D E F G H I J K L M N O P Q R S T U V W X Y Z a0 a1 a2 a3 a4 a5 a6 a7:aB)=>λ(t:Nat->aB)=>({ tmps:=List.toArray [a,b,c,d,e,f,g,t 14,t 15,h,i,j,k,l,m,n,o,p,q,r,s,u,v,w,x,y,z,A,B,C,D,E,t 0,t 1,t 2,t 3,t 4,t 5,t 6,t 7,t 8,t 9,t 10,t 11,t 12,t 13,F,G,H,I,J,K,L,M,N,O,P,Q,R,S,T,U,V,W,X,Y,Z,a0,a1,a2,a3,a4,a5,a6,a7],defers:=[] }:Act)) _ _ _ _ _ _ _ _ _ _ _ _ _ _ _ _ _ _ _ _ _ _ _ _ _ _ _ _ _ _ _ _ _ _ _ _ _ _ _ _ _ _ _ _ _ _ _ _ _ _ _ _ _ _ _ _ _ _ _)
   (Ext:=Hh w4 14 15 16 17 ((ev y1+ev x1)%fp) ((ev y2+ev x2)%fp)) (Good:=λi L _ v=>if i=0 then v=aF (aE ⟨g,0,aA⟩) else if i=1 then v=aF (aE ⟨g,0,aA⟩) else if i=2 then v=aF (aE ⟨g,5,aA⟩) else if i=3 then v=aF (aE ⟨g,0,aA⟩) else if i=4 then v=aF (aE ⟨g,0,aA⟩) else if i=5 then v=aF (aE ⟨g,0,aA⟩) else if i=6 then EV ((ev y1+ev x1)%fp) v else if i=7 then v=aF (aE ⟨h,0,aA⟩) else if i=8 then v=aF (aE ⟨h,0,aA⟩) else if i=9 then v=aF (aE ⟨h,5,aA⟩) else if i=10 then v=aF (aE ⟨h,0,aA⟩) else if i=11 then v=aF (aE ⟨h,0,aA⟩) else if i=12 then v=aF (aE ⟨h,0,aA⟩) else if i=13 then EV ((ev y2+ev x2)%fp) v else if i=14 then L 14=true else if i=15 then L 15=true else if i=16 then L 16=true else if i=17 then L 17=true else True) ?hstab AM ?hop ?hdone _ _ ((λ(x0 x1 x2 x3 x4 x5 x6 x7 x8 x9 x10 x11 x12 x13 x14 x15:aB)=>λ(i:Nat)=>if i=0 then x0 else if i=1 then x1 else if i=2 then x2 else if i=3 then x3 else if i=4 then x4 else if i=5 then x5 else if i=6 then x6 else if i=7 then x7 else if i=8 then x8 else if i=9 then x9 else if i=10 then x10 else if i=11 then x11 else if i=12 then x12 else if i=13 then x13 else if i=14 then x14 else if i=15 then x15 else undef) _ _ _ _ _ _ _ _ _ _ _ _ _ _ _ _) _ AL ?ext ?start AL
  case start=>intro i hi h;exact absurd h Et
  case ext=>exact Hh.start _ _ _ AL AL AL AL ⟨rfl,rfl,rfl,Ac _,λ_ _=>rfl⟩
  case hstab=>
   intro j L w9 w' i v _ _ _ h;by_cases h14:j=14
   ·subst h14;simp at h |-;unfold Cf;simp[h]
   by_cases h15:j=15
   ·subst h15;simp at h |-;unfold Cf;simp[h]
   by_cases h16:j=16
   ·subst h16;simp at h |-;unfold Cf;simp[h]
   by_cases h17:j=17
   ·subst h17;simp at h |-;unfold Cf;simp[h]
   simp only[if_neg h14,if_neg h15,if_neg h16,if_neg h17] at h |-;exact h
  case hop=>
   intro i o L t w' ho hLi hx hdep K hK;have hi:i<18:=(AR.1 ho).1;obtain rfl|rfl|rfl|rfl|rfl|rfl|rfl|rfl|rfl|rfl|rfl|rfl|rfl|rfl|rfl|rfl|rfl|rfl:i=0\/i=1\/i=2\/i=3\/i=4\/i=5\/i=6\/i=7\/i=8\/i=9\/i=10\/i=11\/i=12\/i=13\/i=14\/i=15\/i=16\/i=17:=AJ
   all_goals(simp at ho;subst ho)
   ·clear hdep;have hK':=hK w' (aF (aE ⟨g,0,aA⟩)) AL (hx.low 0 AK AK AK AK _ Cg) trivial;clear hK;rw[AP AN];go_simp;simpa[Ce] using hK'
   ·have d0:t 0=aF (aE ⟨g,0,aA⟩):=by simpa using hdep ⟨0,aL⟩ AL rfl
    clear hdep;have hK':=hK w' (aF (aE ⟨g,0,aA⟩)) AL (hx.low 1 AK AK AK AK _ Cg) trivial;clear hK;rw[AP AN];go_simp;simpa[Ce,d0] using hK'
   ·have d1:t 1=aF (aE ⟨g,0,aA⟩):=by simpa using hdep ⟨1,aL⟩ AL rfl
    clear hdep;have hK':=hK w' (aF (aE ⟨g,5,aA⟩)) AL (hx.low 2 AK AK AK AK _ Cg) trivial;clear hK;rw[AP AN];go_simp;simpa[Ce,d1] using hK'
   ·clear hdep;have hK':=hK w' (aF (aE ⟨g,0,aA⟩)) AL (hx.low 3 AK AK AK AK _ Cg) trivial;clear hK;rw[AP AN];go_simp;simpa[Ce] using hK'
   ·have d3:t 3=aF (aE ⟨g,0,aA⟩):=by simpa using hdep ⟨3,aL⟩ AL rfl
    clear hdep;have hK':=hK w' (aF (aE ⟨g,0,aA⟩)) AL (hx.low 4 AK AK AK AK _ Cg) trivial;clear hK;rw[AP AN];go_simp;simpa[Ce,d3] using hK'
   ·have d4:t 4=aF (aE ⟨g,0,aA⟩):=by simpa using hdep ⟨4,aL⟩ AL rfl
    clear hdep;have hK':=hK w' (aF (aE ⟨g,0,aA⟩)) AL (hx.low 5 AK AK AK AK _ Cg) trivial;clear hK;rw[AP AN];go_simp;simpa[Ce,d4] using hK'
   ·have d2:t 2=aF (aE ⟨g,5,aA⟩):=by simpa using hdep ⟨2,aL⟩ AL rfl
    have d5:t 5=aF (aE ⟨g,0,aA⟩):=by simpa using hdep ⟨5,aL⟩ AL rfl
    clear hdep;have A:=F0 g 5 g 0 y1 x1 w' ((HS4.o.el 1 _ _ _ rfl).below hx.below) ((HS4.o.el 0 _ _ _ rfl).below hx.below);have hK':∀ ww v,EV ((ev y1+ev x1)%fp) v->Below w'.heap.size w' ww->K _ ww:=λww v hv hb=>hK ww v (by simpa using hv) (hx.low 6 AK AK AK AK _ hb) trivial
    clear hK;rw[AP AN];go_simp;try simp only[d2,d5]
    refine A.mono ?_;rintro e w9 ⟨es,hk,hv,rfl,hb⟩;have hK2:=hK' w9 _ ⟨es,hk,hv,rfl⟩ hb;clear hK' A hk hv hb;go_simp;simpa[Ce,d2,d5] using hK2
   ·clear hdep;have hK':=hK w' (aF (aE ⟨h,0,aA⟩)) AL (hx.low 7 AK AK AK AK _ Cg) trivial;clear hK;rw[AP AN];go_simp;simpa[Ce] using hK'
   ·have d7:t 7=aF (aE ⟨h,0,aA⟩):=by simpa using hdep ⟨7,aL⟩ AL rfl
    clear hdep;have hK':=hK w' (aF (aE ⟨h,0,aA⟩)) AL (hx.low 8 AK AK AK AK _ Cg) trivial;clear hK;rw[AP AN];go_simp;simpa[Ce,d7] using hK'
   ·have d8:t 8=aF (aE ⟨h,0,aA⟩):=by simpa using hdep ⟨8,aL⟩ AL rfl
    clear hdep;have hK':=hK w' (aF (aE ⟨h,5,aA⟩)) AL (hx.low 9 AK AK AK AK _ Cg) trivial;clear hK;rw[AP AN];go_simp;simpa[Ce,d8] using hK'
   ·clear hdep;have hK':=hK w' (aF (aE ⟨h,0,aA⟩)) AL (hx.low 10 AK AK AK AK _ Cg) trivial;clear hK;rw[AP AN];go_simp;simpa[Ce] using hK'
   ·have d10:t 10=aF (aE ⟨h,0,aA⟩):=by simpa using hdep ⟨10,aL⟩ AL rfl
    clear hdep;have hK':=hK w' (aF (aE ⟨h,0,aA⟩)) AL (hx.low 11 AK AK AK AK _ Cg) trivial;clear hK;rw[AP AN];go_simp;simpa[Ce,d10] using hK'
   ·have d11:t 11=aF (aE ⟨h,0,aA⟩):=by simpa using hdep ⟨11,aL⟩ AL rfl
    clear hdep;have hK':=hK w' (aF (aE ⟨h,0,aA⟩)) AL (hx.low 12 AK AK AK AK _ Cg) trivial;clear hK;rw[AP AN];go_simp;simpa[Ce,d11] using hK'
   ·have d9:t 9=aF (aE ⟨h,5,aA⟩):=by simpa using hdep ⟨9,aL⟩ AL rfl
    have d12:t 12=aF (aE ⟨h,0,aA⟩):=by simpa using hdep ⟨12,aL⟩ AL rfl
    clear hdep;have A:=F0 h 5 h 0 y2 x2 w' ((HS4.o.el 5 _ _ _ rfl).below hx.below) ((HS4.o.el 4 _ _ _ rfl).below hx.below);have hK':∀ ww v,EV ((ev y2+ev x2)%fp) v->Below w'.heap.size w' ww->K _ ww:=λww v hv hb=>hK ww v (by simpa using hv) (hx.low 13 AK AK AK AK _ hb) trivial
    clear hK;rw[AP AN];go_simp;try simp only[d9,d12]
    refine A.mono ?_;rintro e w9 ⟨es,hk,hv,rfl,hb⟩;have hK2:=hK' w9 _ ⟨es,hk,hv,rfl⟩ hb;clear hK' A hk hv hb;go_simp;simpa[Ce,d9,d12] using hK2
   ·clear hdep;have hK':=hK _ (aF (aE ⟨w'.heap.size,0,aA⟩)) (by simp[Cf]) (hx.alloc1 hLi AK AK AK) trivial;clear hK;rw[AP AN];go_simp;simpa[Ce] using hK'
   ·clear hdep;have hK':=hK _ (aF (aE ⟨w'.heap.size,0,aA⟩)) (by simp[Cf]) (hx.alloc2 hLi AK AK AK) trivial;clear hK;rw[AP AN];go_simp;simpa[Ce] using hK'
   ·have l14:L 14=true:=by simpa using hdep ⟨14,aL⟩ AL rfl
    have f6:EV ((ev y1+ev x1)%fp) (t 6):=by simpa using hdep ⟨6,aL⟩ AL rfl
    clear hdep;obtain⟨g9,zs9,e9,r9,k9⟩:=hx.get1 l14;refine f6.elim_ λes9 ke ve ee=>?_
    have hK':∀ ww,Ch ww g9 138 es9->Wr g9 w' ww->K _ ww:=λww rr hw=>hK ww undef (by simp[Cf]) (hx.store1 l14 e9 AK AK AK ke ve hw rr _) trivial
    clear hK;rw[AP AN];refine EW (aM 7) (aM 38) rfl g9 zs9 es9 e9 ee ke k9 r9 λww rr hw=>?_
    have hK2:=hK' ww rr hw;clear hK';simpa[Ce,Act.put] using hK2
   ·have l15:L 15=true:=by simpa using hdep ⟨15,aL⟩ AL rfl
    have f13:EV ((ev y2+ev x2)%fp) (t 13):=by simpa using hdep ⟨13,aL⟩ AL rfl
    clear hdep;obtain⟨g9,zs9,e9,r9,k9⟩:=hx.swap.get1 l15;refine f13.elim_ λes9 ke ve ee=>?_
    have hK':∀ ww,Ch ww g9 138 es9->Wr g9 w' ww->K _ ww:=λww rr hw=>hK ww undef (by simp[Cf]) (hx.store2 l15 e9 AK AK AK ke ve hw rr _) trivial
    clear hK;rw[AP AN];refine EW (aM 8) (aM 45) rfl g9 zs9 es9 e9 ee ke k9 r9 λww rr hw=>?_
    have hK2:=hK' ww rr hw;clear hK';simpa[Ce,Act.put] using hK2
  case hdone=>
   intro L t5 w5 hx hg;have l16:L 16=true:=by simpa using hg 16 AK
   have l17:L 17=true:=by simpa using hg 17 AK
   clear hg;obtain⟨G5a,pu,q1,qg1,qr1,qk1,qv1⟩:=hx.fin1 l16;obtain⟨G5b,qu,q2,qg2,qr2,qk2,qv2⟩:=hx.swap.fin1 l17;have qne:=hx.ne (hx.v1.1 l16) (hx.v2.1 l17) _ _ q1 q2;have HS5:AO (C5 w w5 [(G5b,qu),(G5a,pu),(G4b,qd),(G4a,pd),(G3a,dd)] [(g,0,x1),(g,5,y1),(g,10,z1),(g,15,t1),(h,0,x2),(h,5,y2),(h,10,z2),(h,15,t2)]):=HS4.o.two hx.below qg1 qr1 qk1 qg2 qr2 qk2 qne;have HKpu:AO (Cs pu/\ev pu=(ev y1+ev x1)%fp):=⟨qk1,qv1⟩
   have HKqu:AO (Cs qu/\ev qu=(ev y2+ev x2)%fp):=⟨qk2,qv2⟩
   simp only[q1,q2];clear hx q1 q2 qg1 qg2 qr1 qr2 qk1 qk2 qv1 qv2 qne HS4;go_wp2_with fail;refine(Ct G4a 0 G4b 0 pd qd _ (HS5.o.re 3 _ _ rfl) (HS5.o.re 2 _ _ rfl)).mono ?_;rintro e w6 ⟨dn,hk,hv,rfl,b⟩;have HKdn:AO (Cs dn/\ev dn=ev pd*ev qd%fp):=⟨hk,hv⟩
   have HS6:AO (C5 w w6 [(G5b,qu),(G5a,pu),(G4b,qd),(G4a,pd),(G3a,dd)] [(g,0,x1),(g,5,y1),(g,10,z1),(g,15,t1),(h,0,x2),(h,5,y2),(h,10,z2),(h,15,t2)]):=HS5.o.call b;clear hk hv b HS5;go_wp2_with fail;refine(Ct G5a 0 G5b 0 pu qu _ (HS6.o.re 1 _ _ rfl) (HS6.o.re 0 _ _ rfl)).mono ?_;rintro e w7 ⟨up,hk,hv,rfl,b⟩;have HKup:AO (Cs up/\ev up=ev pu*ev qu%fp):=⟨hk,hv⟩
   have HS7:AO (C5 w w7 [(G5b,qu),(G5a,pu),(G4b,qd),(G4a,pd),(G3a,dd)] [(g,0,x1),(g,5,y1),(g,10,z1),(g,15,t1),(h,0,x2),(h,5,y2),(h,10,z2),(h,15,t2)]):=HS6.o.call b;clear hk hv b HS6;have HA8:AO (C5 w ((w7.alloc (aJ CQ 138)).alloc (aJ CQ 138)) [(w7.heap.size+1,[0,0,0,0,0]),(w7.heap.size,[0,0,0,0,0]),(G5b,qu),(G5a,pu),(G4b,qd),(G4a,pd),(G3a,dd)] [(g,0,x1),(g,5,y1),(g,10,z1),(g,15,t1),(h,0,x2),(h,5,y2),(h,10,z2),(h,15,t2)]):=HS7.o.room2;clear HS7;go_wp2_with (first
    |(refine DG HA8.o rfl (aM 9) (aM 46) rfl 1 (w7.heap.size) [0,0,0,0,0] dn rfl rfl rfl HKdn.o.1 rfl ?_)
    |fail)
   intro w9 S;have HS9:AO (C5 w w9 [(w7.heap.size+1,[0,0,0,0,0]),(w7.heap.size,dn),(G5b,qu),(G5a,pu),(G4b,qd),(G4a,pd),(G3a,dd)] [(g,0,x1),(g,5,y1),(g,10,z1),(g,15,t1),(h,0,x2),(h,5,y2),(h,10,z2),(h,15,t2)]):=S;clear S HA8;go_wp2_with (first
    |(refine DG HS9.o rfl (aM 10) (aM 47) rfl 0 (w7.heap.size+1) [0,0,0,0,0] up rfl rfl rfl HKup.o.1 rfl ?_)
    |fail)
   intro w10 S;have HS10:AO (C5 w w10 [(w7.heap.size+1,up),(w7.heap.size,dn),(G5b,qu),(G5a,pu),(G4b,qd),(G4a,pd),(G3a,dd)] [(g,0,x1),(g,5,y1),(g,10,z1),(g,15,t1),(h,0,x2),(h,5,y2),(h,10,z2),(h,15,t2)]):=S;clear S HS9;generalize w7.heap.size+1=G10b at *;generalize w7.heap.size=G10a at *;go_wp2_with fail;refine Ag AM ?_;refine Ec (λ_ _ _=>True) (frame:=(λ(a b c d e f g h i j k l m n o p q r s u v w x y z A B C D E F G H I J K L M N O P Q R S T U V W X Y Z a0 a1 a2 a3 a4 a5 a6 a7 a8 a9 b0 b1 b2 b3 b4 b5:aB)=>λ(t:Nat->aB)=>({ tmps:=List.toArray [a,b,c,d,e,f,g,h,i,j,k,t 7,l,m,n,o,p,q,r,s,u,v,w,x,y,z,A,B,C,D,E,F,G,H,I,J,K,L,M,N,O,P,Q,R,S,T,U,V,t 0,t 1,t 2,t 3,t 4,t 5,t 6,W,X,Y,Z,a0,a1,a2,a3,a4,a5,a6,a7,a8,a9,b0,b1,b2,b3,b4,b5],defers:=[] }:Act)) _ _ _ _ _ _ _ _ _ _ _ _ _ _ _ _ _ _ _ _ _ _ _ _ _ _ _ _ _ _ _ _ _ _ _ _ _ _ _ _ _ _ _ _ _ _ _ _ _ _ _ _ _ _ _ _ _ _ _ _ _ _ _ _ _ _ _)
    (Ext:=Hh w10 7 98 8 99 (ev t1*ev t2%fp) (0)) (Good:=λi L _ v=>if i=0 then v=aF (aE ⟨g,0,aA⟩) else if i=1 then v=aF (aE ⟨g,0,aA⟩) else if i=2 then v=aF (aE ⟨g,15,aA⟩) else if i=3 then v=aF (aE ⟨h,0,aA⟩) else if i=4 then v=aF (aE ⟨h,0,aA⟩) else if i=5 then v=aF (aE ⟨h,15,aA⟩) else if i=6 then EV (ev t1*ev t2%fp) v else if i=7 then L 7=true else if i=8 then L 8=true else True) ?hstab AM ?hop ?hdone _ _ ((λ(x0 x1 x2 x3 x4 x5 x6 x7:aB)=>λ(i:Nat)=>if i=0 then x0 else if i=1 then x1 else if i=2 then x2 else if i=3 then x3 else if i=4 then x4 else if i=5 then x5 else if i=6 then x6 else if i=7 then x7 else undef) _ _ _ _ _ _ _ _) _ AL ?ext ?start AL
   case start=>intro i hi h;exact absurd h Et
   case ext=>exact Hh.start _ _ _ AL AL AL AL ⟨rfl,rfl,rfl,Ac _,λ_ _=>rfl⟩
   case hstab=>
    intro j L w9 w' i v _ _ _ h;by_cases h7:j=7
    ·subst h7;simp at h |-;unfold Cf;simp[h]
    by_cases h8:j=8
    ·subst h8;simp at h |-;unfold Cf;simp[h]
    simp only[if_neg h7,if_neg h8] at h |-;exact h
   case hop=>
    intro i o L t w' ho hLi hx hdep K hK;have hi:i<9:=(AR.1 ho).1;obtain rfl|rfl|rfl|rfl|rfl|rfl|rfl|rfl|rfl:i=0\/i=1\/i=2\/i=3\/i=4\/i=5\/i=6\/i=7\/i=8:=AJ
    all_goals(simp at ho;subst ho)
    ·clear hdep;have hK':=hK w' (aF (aE ⟨g,0,aA⟩)) AL (hx.low 0 AK AK AK AK _ Cg) trivial;clear hK;rw[AP AN];go_simp;simpa[Ce] using hK'
    ·have d0:t 0=aF (aE ⟨g,0,aA⟩):=by simpa using hdep ⟨0,aL⟩ AL rfl
     clear hdep;have hK':=hK w' (aF (aE ⟨g,0,aA⟩)) AL (hx.low 1 AK AK AK AK _ Cg) trivial;clear hK;rw[AP AN];go_simp;simpa[Ce,d0] using hK'
    ·have d1:t 1=aF (aE ⟨g,0,aA⟩):=by simpa using hdep ⟨1,aL⟩ AL rfl
     clear hdep;have hK':=hK w' (aF (aE ⟨g,15,aA⟩)) AL (hx.low 2 AK AK AK AK _ Cg) trivial;clear hK;rw[AP AN];go_simp;simpa[Ce,d1] using hK'
    ·clear hdep;have hK':=hK w' (aF (aE ⟨h,0,aA⟩)) AL (hx.low 3 AK AK AK AK _ Cg) trivial;clear hK;rw[AP AN];go_simp;simpa[Ce] using hK'
    ·have d3:t 3=aF (aE ⟨h,0,aA⟩):=by simpa using hdep ⟨3,aL⟩ AL rfl
     clear hdep;have hK':=hK w' (aF (aE ⟨h,0,aA⟩)) AL (hx.low 4 AK AK AK AK _ Cg) trivial;clear hK;rw[AP AN];go_simp;simpa[Ce,d3] using hK'
    ·have d4:t 4=aF (aE ⟨h,0,aA⟩):=by simpa using hdep ⟨4,aL⟩ AL rfl
     clear hdep;have hK':=hK w' (aF (aE ⟨h,15,aA⟩)) AL (hx.low 5 AK AK AK AK _ Cg) trivial;clear hK;rw[AP AN];go_simp;simpa[Ce,d4] using hK'
    ·have d2:t 2=aF (aE ⟨g,15,aA⟩):=by simpa using hdep ⟨2,aL⟩ AL rfl
     have d5:t 5=aF (aE ⟨h,15,aA⟩):=by simpa using hdep ⟨5,aL⟩ AL rfl
     clear hdep;have A:=Ct g 15 h 15 t1 t2 w' ((HS10.o.el 3 _ _ _ rfl).below hx.below) ((HS10.o.el 7 _ _ _ rfl).below hx.below);have hK':∀ ww v,EV (ev t1*ev t2%fp) v->Below w'.heap.size w' ww->K _ ww:=λww v hv hb=>hK ww v (by simpa using hv) (hx.low 6 AK AK AK AK _ hb) trivial
     clear hK;rw[AP AN];go_simp;try simp only[d2,d5]
     refine A.mono ?_;rintro e w9 ⟨es,hk,hv,rfl,hb⟩;have hK2:=hK' w9 _ ⟨es,hk,hv,rfl⟩ hb;clear hK' A hk hv hb;go_simp;simpa[Ce,d2,d5] using hK2
    ·clear hdep;have hK':=hK _ (aF (aE ⟨w'.heap.size,0,aA⟩)) (by simp[Cf]) (hx.alloc1 hLi AK AK AK) trivial;clear hK;rw[AP AN];go_simp;simpa[Ce] using hK'
    ·have l7:L 7=true:=by simpa using hdep ⟨7,aL⟩ AL rfl
     have f6:EV (ev t1*ev t2%fp) (t 6):=by simpa using hdep ⟨6,aL⟩ AL rfl
     clear hdep;obtain⟨g9,zs9,e9,r9,k9⟩:=hx.get1 l7;refine f6.elim_ λes9 ke ve ee=>?_
     have hK':∀ ww,Ch ww g9 138 es9->Wr g9 w' ww->K _ ww:=λww rr hw=>hK ww undef (by simp[Cf]) (hx.store1 l7 e9 AK AK AK ke ve hw rr _) trivial
     clear hK;rw[AP AN];refine EW (aM 11) (aM 54) rfl g9 zs9 es9 e9 ee ke k9 r9 λww rr hw=>?_
     have hK2:=hK' ww rr hw;clear hK';simpa[Ce,Act.put] using hK2
   case hdone=>
    intro L t11 w11 hx hg;have l8:L 8=true:=by simpa using hg 8 AK
    clear hg;obtain⟨G11a,cc,q1,qg1,qr1,qk1,qv1⟩:=hx.fin1 l8;have HS11:AO (C5 w w11 [(G11a,cc),(G10b,up),(G10a,dn),(G5b,qu),(G5a,pu),(G4b,qd),(G4a,pd),(G3a,dd)] [(g,0,x1),(g,5,y1),(g,10,z1),(g,15,t1),(h,0,x2),(h,5,y2),(h,10,z2),(h,15,t2)]):=HS10.o.one hx.below qg1 qr1 qk1;have HKcc:AO (Cs cc/\ev cc=ev t1*ev t2%fp):=⟨qk1,qv1⟩
    simp only[q1];clear hx q1 qg1 qr1 qk1 qv1 HS10;go_wp2_with fail;refine(Ct G11a 0 G3a 0 cc dd _ (HS11.o.re 0 _ _ rfl) (HS11.o.re 7 _ _ rfl)).mono ?_;rintro e w12 ⟨cd,hk,hv,rfl,b⟩;have HKcd:AO (Cs cd/\ev cd=ev cc*ev dd%fp):=⟨hk,hv⟩
    have HS12:AO (C5 w w12 [(G11a,cc),(G10b,up),(G10a,dn),(G5b,qu),(G5a,pu),(G4b,qd),(G4a,pd),(G3a,dd)] [(g,0,x1),(g,5,y1),(g,10,z1),(g,15,t1),(h,0,x2),(h,5,y2),(h,10,z2),(h,15,t2)]):=HS11.o.call b;clear hk hv b HS11;go_wp2_with (first
     |(refine DG HS12.o rfl (aM 11) (aM 55) rfl 0 G11a cc cd rfl rfl rfl HKcd.o.1 rfl ?_)
     |fail)
    intro w13 S;have HS13:AO (C5 w w13 [(G11a,cd),(G10b,up),(G10a,dn),(G5b,qu),(G5a,pu),(G4b,qd),(G4a,pd),(G3a,dd)] [(g,0,x1),(g,5,y1),(g,10,z1),(g,15,t1),(h,0,x2),(h,5,y2),(h,10,z2),(h,15,t2)]):=S;clear S HS12;go_wp2_with fail;refine Ag AM ?_;refine Ec (λ_ _ _=>True) (frame:=(λ(a b c d e f g h i j k l m n o p q r s u v w x y z A B C D E F G H I J K L M N O P Q R S T U V W X Y Z a0 a1 a2 a3 a4 a5 a6 a7 a8 a9 b0 b1 b2 b3 b4 b5:aB)=>λ(t:Nat->aB)=>({ tmps:=List.toArray [a,b,c,d,e,f,g,h,i,j,k,l,t 7,m,n,o,p,q,r,s,u,v,w,x,y,z,A,B,C,D,E,F,G,H,I,J,K,L,M,N,O,P,Q,R,S,T,U,V,W,X,Y,Z,a0,a1,a2,a3,t 0,t 1,t 2,t 3,t 4,t 5,t 6,a4,a5,a6,a7,a8,a9,b0,b1,b2,b3,b4,b5],defers:=[] }:Act)) _ _ _ _ _ _ _ _ _ _ _ _ _ _ _ _ _ _ _ _ _ _ _ _ _ _ _ _ _ _ _ _ _ _ _ _ _ _ _ _ _ _ _ _ _ _ _ _ _ _ _ _ _ _ _ _ _ _ _ _ _ _ _ _ _ _ _)
     (Ext:=Hh w13 7 98 8 99 (ev z1*ev z2%fp) (0)) (Good:=λi L _ v=>if i=0 then v=aF (aE ⟨g,0,aA⟩) else if i=1 then v=aF (aE ⟨g,0,aA⟩) else if i=2 then v=aF (aE ⟨g,10,aA⟩) else if i=3 then v=aF (aE ⟨h,0,aA⟩) else if i=4 then v=aF (aE ⟨h,0,aA⟩) else if i=5 then v=aF (aE ⟨h,10,aA⟩) else if i=6 then EV (ev z1*ev z2%fp) v else if i=7 then L 7=true else if i=8 then L 8=true else True) ?hstab AM ?hop ?hdone _ _ ((λ(x0 x1 x2 x3 x4 x5 x6 x7:aB)=>λ(i:Nat)=>if i=0 then x0 else if i=1 then x1 else if i=2 then x2 else if i=3 then x3 else if i=4 then x4 else if i=5 then x5 else if i=6 then x6 else if i=7 then x7 else undef) _ _ _ _ _ _ _ _) _ AL ?ext ?start AL
    case start=>intro i hi h;exact absurd h Et
    case ext=>exact Hh.start _ _ _ AL AL AL AL ⟨rfl,rfl,rfl,Ac _,λ_ _=>rfl⟩
    case hstab=>
     intro j L w9 w' i v _ _ _ h;by_cases h7:j=7
     ·subst h7;simp at h |-;unfold Cf;simp[h]
     by_cases h8:j=8
     ·subst h8;simp at h |-;unfold Cf;simp[h]
     simp only[if_neg h7,if_neg h8] at h |-;exact h
    case hop=>
     intro i o L t w' ho hLi hx hdep K hK;have hi:i<9:=(AR.1 ho).1;obtain rfl|rfl|rfl|rfl|rfl|rfl|rfl|rfl|rfl:i=0\/i=1\/i=2\/i=3\/i=4\/i=5\/i=6\/i=7\/i=8:=AJ
     all_goals(simp at ho;subst ho)
     ·clear hdep;have hK':=hK w' (aF (aE ⟨g,0,aA⟩)) AL (hx.low 0 AK AK AK AK _ Cg) trivial;clear hK;rw[AP AN];go_simp;simpa[Ce] using hK'
     ·have d0:t 0=aF (aE ⟨g,0,aA⟩):=by simpa using hdep ⟨0,aL⟩ AL rfl
      clear hdep;have hK':=hK w' (aF (aE ⟨g,0,aA⟩)) AL (hx.low 1 AK AK AK AK _ Cg) trivial;clear hK;rw[AP AN];go_simp;simpa[Ce,d0] using hK'
     ·have d1:t 1=aF (aE ⟨g,0,aA⟩):=by simpa using hdep ⟨1,aL⟩ AL rfl
      clear hdep;have hK':=hK w' (aF (aE ⟨g,10,aA⟩)) AL (hx.low 2 AK AK AK AK _ Cg) trivial;clear hK;rw[AP AN];go_simp;simpa[Ce,d1] using hK'
     ·clear hdep;have hK':=hK w' (aF (aE ⟨h,0,aA⟩)) AL (hx.low 3 AK AK AK AK _ Cg) trivial;clear hK;rw[AP AN];go_simp;simpa[Ce] using hK'
     ·have d3:t 3=aF (aE ⟨h,0,aA⟩):=by simpa using hdep ⟨3,aL⟩ AL rfl
      clear hdep;have hK':=hK w' (aF (aE ⟨h,0,aA⟩)) AL (hx.low 4 AK AK AK AK _ Cg) trivial;clear hK;rw[AP AN];go_simp;simpa[Ce,d3] using hK'
     ·have d4:t 4=aF (aE ⟨h,0,aA⟩):=by simpa using hdep ⟨4,aL⟩ AL rfl
      clear hdep;have hK':=hK w' (aF (aE ⟨h,10,aA⟩)) AL (hx.low 5 AK AK AK AK _ Cg) trivial;clear hK;rw[AP AN];go_simp;simpa[Ce,d4] using hK'
     ·have d2:t 2=aF (aE ⟨g,10,aA⟩):=by simpa using hdep ⟨2,aL⟩ AL rfl
      have d5:t 5=aF (aE ⟨h,10,aA⟩):=by simpa using hdep ⟨5,aL⟩ AL rfl
      clear hdep;have A:=Ct g 10 h 10 z1 z2 w' ((HS13.o.el 2 _ _ _ rfl).below hx.below) ((HS13.o.el 6 _ _ _ rfl).below hx.below);have hK':∀ ww v,EV (ev z1*ev z2%fp) v->Below w'.heap.size w' ww->K _ ww:=λww v hv hb=>hK ww v (by simpa using hv) (hx.low 6 AK AK AK AK _ hb) trivial
      clear hK;rw[AP AN];go_simp;try simp only[d2,d5]
      refine A.mono ?_;rintro e w9 ⟨es,hk,hv,rfl,hb⟩;have hK2:=hK' w9 _ ⟨es,hk,hv,rfl⟩ hb;clear hK' A hk hv hb;go_simp;simpa[Ce,d2,d5] using hK2
     ·clear hdep;have hK':=hK _ (aF (aE ⟨w'.heap.size,0,aA⟩)) (by simp[Cf]) (hx.alloc1 hLi AK AK AK) trivial;clear hK;rw[AP AN];go_simp;simpa[Ce] using hK'
     ·have l7:L 7=true:=by simpa using hdep ⟨7,aL⟩ AL rfl
      have f6:EV (ev z1*ev z2%fp) (t 6):=by simpa using hdep ⟨6,aL⟩ AL rfl
      clear hdep;obtain⟨g9,zs9,e9,r9,k9⟩:=hx.get1 l7;refine f6.elim_ λes9 ke ve ee=>?_
      have hK':∀ ww,Ch ww g9 138 es9->Wr g9 w' ww->K _ ww:=λww rr hw=>hK ww undef (by simp[Cf]) (hx.store1 l7 e9 AK AK AK ke ve hw rr _) trivial
      clear hK;rw[AP AN];refine EW (aM 12) (aM 62) rfl g9 zs9 es9 e9 ee ke k9 r9 λww rr hw=>?_
      have hK2:=hK' ww rr hw;clear hK';simpa[Ce,Act.put] using hK2
    case hdone=>
     intro L t14 w14 hx hg;have l8:L 8=true:=by simpa using hg 8 AK
     clear hg;obtain⟨G14a,zz,q1,qg1,qr1,qk1,qv1⟩:=hx.fin1 l8;have HS14:AO (C5 w w14 [(G14a,zz),(G11a,cd),(G10b,up),(G10a,dn),(G5b,qu),(G5a,pu),(G4b,qd),(G4a,pd),(G3a,dd)] [(g,0,x1),(g,5,y1),(g,10,z1),(g,15,t1),(h,0,x2),(h,5,y2),(h,10,z2),(h,15,t2)]):=HS13.o.one hx.below qg1 qr1 qk1;have HKzz:AO (Cs zz/\ev zz=ev z1*ev z2%fp):=⟨qk1,qv1⟩
     simp only[q1];clear hx q1 qg1 qr1 qk1 qv1 HS13;go_wp2_with fail;refine(F0 G14a 0 G14a 0 zz zz _ (HS14.o.re 0 _ _ rfl) (HS14.o.re 0 _ _ rfl)).mono ?_;rintro e w15 ⟨gg,hk,hv,rfl,b⟩;have HKgg:AO (Cs gg/\ev gg=(ev zz+ev zz)%fp):=⟨hk,hv⟩
     have HS15:AO (C5 w w15 [(G14a,zz),(G11a,cd),(G10b,up),(G10a,dn),(G5b,qu),(G5a,pu),(G4b,qd),(G4a,pd),(G3a,dd)] [(g,0,x1),(g,5,y1),(g,10,z1),(g,15,t1),(h,0,x2),(h,5,y2),(h,10,z2),(h,15,t2)]):=HS14.o.call b;clear hk hv b HS14;go_wp2_with (first
      |(refine DG HS15.o rfl (aM 12) (aM 63) rfl 0 G14a zz gg rfl rfl rfl HKgg.o.1 rfl ?_)
      |fail)
     intro w16 S;have HS16:AO (C5 w w16 [(G14a,gg),(G11a,cd),(G10b,up),(G10a,dn),(G5b,qu),(G5a,pu),(G4b,qd),(G4a,pd),(G3a,dd)] [(g,0,x1),(g,5,y1),(g,10,z1),(g,15,t1),(h,0,x2),(h,5,y2),(h,10,z2),(h,15,t2)]):=S;clear S HS15;go_wp2_with fail;refine(FR G10b 0 G10a 0 up dn _ (HS16.o.re 2 _ _ rfl) (HS16.o.re 3 _ _ rfl)).mono ?_;rintro e w17 ⟨ee,hk,hv,rfl,b⟩;have HKee:AO (Cs ee/\ev ee=(ev up-ev dn)%fp):=⟨hk,hv⟩
     have HS17:AO (C5 w w17 [(G14a,gg),(G11a,cd),(G10b,up),(G10a,dn),(G5b,qu),(G5a,pu),(G4b,qd),(G4a,pd),(G3a,dd)] [(g,0,x1),(g,5,y1),(g,10,z1),(g,15,t1),(h,0,x2),(h,5,y2),(h,10,z2),(h,15,t2)]):=HS16.o.call b;clear hk hv b HS16;go_wp2_with fail;refine(FR G14a 0 G11a 0 gg cd _ (HS17.o.re 0 _ _ rfl) (HS17.o.re 1 _ _ rfl)).mono ?_;rintro e w18 ⟨ff,hk,hv,rfl,b⟩;have HKff:AO (Cs ff/\ev ff=(ev gg-ev cd)%fp):=⟨hk,hv⟩
     have HS18:AO (C5 w w18 [(G14a,gg),(G11a,cd),(G10b,up),(G10a,dn),(G5b,qu),(G5a,pu),(G4b,qd),(G4a,pd),(G3a,dd)] [(g,0,x1),(g,5,y1),(g,10,z1),(g,15,t1),(h,0,x2),(h,5,y2),(h,10,z2),(h,15,t2)]):=HS17.o.call b;clear hk hv b HS17;have HA19:AO (C5 w ((w18.alloc (aJ CQ 138)).alloc (aJ CQ 138)) [(w18.heap.size+1,[0,0,0,0,0]),(w18.heap.size,[0,0,0,0,0]),(G14a,gg),(G11a,cd),(G10b,up),(G10a,dn),(G5b,qu),(G5a,pu),(G4b,qd),(G4a,pd),(G3a,dd)] [(g,0,x1),(g,5,y1),(g,10,z1),(g,15,t1),(h,0,x2),(h,5,y2),(h,10,z2),(h,15,t2)]):=HS18.o.room2;clear HS18;go_wp2_with (first
      |(refine DG HA19.o rfl (aM 13) (aM 64) rfl 1 (w18.heap.size) [0,0,0,0,0] ee rfl rfl rfl HKee.o.1 rfl ?_)
      |fail)
     intro w20 S;have HS20:AO (C5 w w20 [(w18.heap.size+1,[0,0,0,0,0]),(w18.heap.size,ee),(G14a,gg),(G11a,cd),(G10b,up),(G10a,dn),(G5b,qu),(G5a,pu),(G4b,qd),(G4a,pd),(G3a,dd)] [(g,0,x1),(g,5,y1),(g,10,z1),(g,15,t1),(h,0,x2),(h,5,y2),(h,10,z2),(h,15,t2)]):=S;clear S HA19;go_wp2_with (first
      |(refine DG HS20.o rfl (aM 14) (aM 65) rfl 0 (w18.heap.size+1) [0,0,0,0,0] ff rfl rfl rfl HKff.o.1 rfl ?_)
      |fail)
     intro w21 S;have HS21:AO (C5 w w21 [(w18.heap.size+1,ff),(w18.heap.size,ee),(G14a,gg),(G11a,cd),(G10b,up),(G10a,dn),(G5b,qu),(G5a,pu),(G4b,qd),(G4a,pd),(G3a,dd)] [(g,0,x1),(g,5,y1),(g,10,z1),(g,15,t1),(h,0,x2),(h,5,y2),(h,10,z2),(h,15,t2)]):=S;clear S HS20;generalize w18.heap.size+1=G21b at *;generalize w18.heap.size=G21a at *;go_wp2_with fail;refine(F0 G14a 0 G11a 0 gg cd _ (HS21.o.re 2 _ _ rfl) (HS21.o.re 3 _ _ rfl)).mono ?_;rintro e w22 ⟨hh,hk,hv,rfl,b⟩;have HKhh:AO (Cs hh/\ev hh=(ev gg+ev cd)%fp):=⟨hk,hv⟩
     have HS22:AO (C5 w w22 [(G21b,ff),(G21a,ee),(G14a,gg),(G11a,cd),(G10b,up),(G10a,dn),(G5b,qu),(G5a,pu),(G4b,qd),(G4a,pd),(G3a,dd)] [(g,0,x1),(g,5,y1),(g,10,z1),(g,15,t1),(h,0,x2),(h,5,y2),(h,10,z2),(h,15,t2)]):=HS21.o.call b;clear hk hv b HS21;go_wp2_with fail;refine(F0 G10b 0 G10a 0 up dn _ (HS22.o.re 4 _ _ rfl) (HS22.o.re 5 _ _ rfl)).mono ?_;rintro e w23 ⟨kk,hk,hv,rfl,b⟩;have HKkk:AO (Cs kk/\ev kk=(ev up+ev dn)%fp):=⟨hk,hv⟩
     have HS23:AO (C5 w w23 [(G21b,ff),(G21a,ee),(G14a,gg),(G11a,cd),(G10b,up),(G10a,dn),(G5b,qu),(G5a,pu),(G4b,qd),(G4a,pd),(G3a,dd)] [(g,0,x1),(g,5,y1),(g,10,z1),(g,15,t1),(h,0,x2),(h,5,y2),(h,10,z2),(h,15,t2)]):=HS22.o.call b;clear hk hv b HS22;have HA24:AO (C5 w ((w23.alloc (aJ CQ 138)).alloc (aJ CQ 138)) [(w23.heap.size+1,[0,0,0,0,0]),(w23.heap.size,[0,0,0,0,0]),(G21b,ff),(G21a,ee),(G14a,gg),(G11a,cd),(G10b,up),(G10a,dn),(G5b,qu),(G5a,pu),(G4b,qd),(G4a,pd),(G3a,dd)] [(g,0,x1),(g,5,y1),(g,10,z1),(g,15,t1),(h,0,x2),(h,5,y2),(h,10,z2),(h,15,t2)]):=HS23.o.room2;clear HS23;go_wp2_with (first
      |(refine DG HA24.o rfl (aM 15) (aM 66) rfl 1 (w23.heap.size) [0,0,0,0,0] hh rfl rfl rfl HKhh.o.1 rfl ?_)
      |fail)
     intro w25 S;have HS25:AO (C5 w w25 [(w23.heap.size+1,[0,0,0,0,0]),(w23.heap.size,hh),(G21b,ff),(G21a,ee),(G14a,gg),(G11a,cd),(G10b,up),(G10a,dn),(G5b,qu),(G5a,pu),(G4b,qd),(G4a,pd),(G3a,dd)] [(g,0,x1),(g,5,y1),(g,10,z1),(g,15,t1),(h,0,x2),(h,5,y2),(h,10,z2),(h,15,t2)]):=S;clear S HA24;go_wp2_with (first
      |(refine DG HS25.o rfl (aM 16) (aM 67) rfl 0 (w23.heap.size+1) [0,0,0,0,0] kk rfl rfl rfl HKkk.o.1 rfl ?_)
      |fail)
     intro w26 S;have HS26:AO (C5 w w26 [(w23.heap.size+1,kk),(w23.heap.size,hh),(G21b,ff),(G21a,ee),(G14a,gg),(G11a,cd),(G10b,up),(G10a,dn),(G5b,qu),(G5a,pu),(G4b,qd),(G4a,pd),(G3a,dd)] [(g,0,x1),(g,5,y1),(g,10,z1),(g,15,t1),(h,0,x2),(h,5,y2),(h,10,z2),(h,15,t2)]):=S;clear S HS25;generalize w23.heap.size+1=G26b at *;generalize w23.heap.size=G26a at *;go_wp2_with fail;refine(Ct G21a 0 G21b 0 ee ff _ (HS26.o.re 3 _ _ rfl) (HS26.o.re 2 _ _ rfl)).mono ?_;rintro e w27 ⟨X,hk,hv,rfl,b⟩;have HKX:AO (Cs X/\ev X=ev ee*ev ff%fp):=⟨hk,hv⟩
     have HS27:AO (C5 w w27 [(G26b,kk),(G26a,hh),(G21b,ff),(G21a,ee),(G14a,gg),(G11a,cd),(G10b,up),(G10a,dn),(G5b,qu),(G5a,pu),(G4b,qd),(G4a,pd),(G3a,dd)] [(g,0,x1),(g,5,y1),(g,10,z1),(g,15,t1),(h,0,x2),(h,5,y2),(h,10,z2),(h,15,t2)]):=HS26.o.call b;clear hk hv b HS26;go_wp2_with fail;refine(Ct G26a 0 G26b 0 hh kk _ (HS27.o.re 1 _ _ rfl) (HS27.o.re 0 _ _ rfl)).mono ?_;rintro e w28 ⟨Y,hk,hv,rfl,b⟩;have HKY:AO (Cs Y/\ev Y=ev hh*ev kk%fp):=⟨hk,hv⟩
     have HS28:AO (C5 w w28 [(G26b,kk),(G26a,hh),(G21b,ff),(G21a,ee),(G14a,gg),(G11a,cd),(G10b,up),(G10a,dn),(G5b,qu),(G5a,pu),(G4b,qd),(G4a,pd),(G3a,dd)] [(g,0,x1),(g,5,y1),(g,10,z1),(g,15,t1),(h,0,x2),(h,5,y2),(h,10,z2),(h,15,t2)]):=HS27.o.call b;clear hk hv b HS27;go_wp2_with fail;refine(Ct G21b 0 G26a 0 ff hh _ (HS28.o.re 2 _ _ rfl) (HS28.o.re 1 _ _ rfl)).mono ?_;rintro e w29 ⟨Z,hk,hv,rfl,b⟩;have HKZ:AO (Cs Z/\ev Z=ev ff*ev hh%fp):=⟨hk,hv⟩
     have HS29:AO (C5 w w29 [(G26b,kk),(G26a,hh),(G21b,ff),(G21a,ee),(G14a,gg),(G11a,cd),(G10b,up),(G10a,dn),(G5b,qu),(G5a,pu),(G4b,qd),(G4a,pd),(G3a,dd)] [(g,0,x1),(g,5,y1),(g,10,z1),(g,15,t1),(h,0,x2),(h,5,y2),(h,10,z2),(h,15,t2)]):=HS28.o.call b;clear hk hv b HS28;go_wp2_with fail;refine(Ct G21a 0 G26b 0 ee kk _ (HS29.o.re 3 _ _ rfl) (HS29.o.re 0 _ _ rfl)).mono ?_;rintro e w30 ⟨T,hk,hv,rfl,b⟩;have HKT:AO (Cs T/\ev T=ev ee*ev kk%fp):=⟨hk,hv⟩
     have HS30:AO (C5 w w30 [(G26b,kk),(G26a,hh),(G21b,ff),(G21a,ee),(G14a,gg),(G11a,cd),(G10b,up),(G10a,dn),(G5b,qu),(G5a,pu),(G4b,qd),(G4a,pd),(G3a,dd)] [(g,0,x1),(g,5,y1),(g,10,z1),(g,15,t1),(h,0,x2),(h,5,y2),(h,10,z2),(h,15,t2)]):=HS29.o.call b;clear hk hv b HS29;obtain⟨X0,X1,X2,X3,X4,rfl⟩:=Sf HKX.o.1.1;obtain⟨Y0,Y1,Y2,Y3,Y4,rfl⟩:=Sf HKY.o.1.1;obtain⟨Z0,Z1,Z2,Z3,Z4,rfl⟩:=Sf HKZ.o.1.1;obtain⟨T0,T1,T2,T3,T4,rfl⟩:=Sf HKT.o.1.1;have HPL:AO (Ch w30 g 140 (pl x1 y1 z1 t1)):=HPT.o.row.below HS30.o.below HPT.o.row.lt;have HPX:AO ((pl x1 y1 z1 t1).length=20):=by show _=_;unfold pl;simp[HPT.o.x.1,HPT.o.y.1,HPT.o.z.1,HPT.o.t.1]
     go_wp2_with (first
      |(refine Fp rfl (aM 74) (aM 73) rfl g [X0,X1,X2,X3,X4] [Y0,Y1,Y2,Y3,Y4] [Z0,Z1,Z2,Z3,Z4] [T0,T1,T2,T3,T4] _ rfl rfl HKX.o.1 HKY.o.1 HKZ.o.1 HKT.o.1 HPX.o HPL.o ?_)
      |fail)
     intro wz hpt hwz;have HF:AO (Uo w g (ev x1) (ev y1) (ev z1) (ev t1) (ev x2) (ev y2) (ev z2) (ev t2) (.returned (.tuple #[])) wz):=by
      refine⟨[X0,X1,X2,X3,X4],[Y0,Y1,Y2,Y3,Y4],[Z0,Z1,Z2,Z3,Z4],[T0,T1,T2,T3,T4],hpt,(EN.of_below HS30.o.below).trans ⟨hwz.os,hwz.tape,hwz.output,by rw[hwz.size];exact Ac _,λk _ hk=>hwz.block k hk⟩,rfl,?_⟩;have eA:ev dn=E7 (ev x1) (ev y1) (ev x2) (ev y2):=by rw[HKdn.o.2,HKpd.o.2,HKqd.o.2];rfl
      have eB:ev up=E9 (ev x1) (ev y1) (ev x2) (ev y2):=by rw[HKup.o.2,HKpu.o.2,HKqu.o.2];rfl
      have eC:ev cd=Ek Dy (ev t1) (ev t2):=by rw[HKcd.o.2,HKcc.o.2,HKdd.o.2,ZL,ZN]
      have eG:ev gg=Ey (ev z1) (ev z2):=by rw[HKgg.o.2,HKzz.o.2,ZO]
      refine⟨?_,?_,?_,?_⟩
      ·rw[HKX.o.2,HKee.o.2,HKff.o.2,eA,eB,eC,eG]
      ·rw[HKY.o.2,HKhh.o.2,HKkk.o.2,eA,eB,eC,eG]
      ·rw[HKZ.o.2,HKff.o.2,HKhh.o.2,eC,eG]
      ·rw[HKT.o.2,HKee.o.2,HKkk.o.2,eA,eB]
     clear hpt hwz HPL HPX HPT HS30;go_wp2
     go_end0
     exact HF.o
theorem PE (x y s q:Int) (k:Nat) (hx:0<=x) (hk:x<2^k) (hx':x<18446744073709551616) (hq:0<=q) (hq':q*2^k<18446744073709551616) (hs:IntKind.u64.wrap (y*s)=q*2^k) :
  bits .or .u64 x (IntKind.u64.wrap (y*s))=x+q*2^k:=by
 rw[hs];have hp:(0:Int)<2^k:=Int.pow_pos AK;exact EU (q*2^k) x k (Int.mul_nonneg hq AJ) hq' hx hk hx' q rfl
theorem ZP (a b:Int) (ha:0<=a) (ha':a<2251799813685248) (hb:0<=b) (hb':b<2251799813685248):bits .or .u64 a (IntKind.u64.wrap (b*2251799813685248))=a+b%8192*2251799813685248:=
 PE a b 2251799813685248 (b%8192) 51 ha (by show a<2251799813685248;omega) AJ AJ (by show b%8192*2251799813685248<_;omega) (by rw[IntKind.wrap_u64];show _=b%8192*2251799813685248;omega)
theorem ZQ (b c:Int) (ha:0<=b) (ha':b<2251799813685248) (hb:0<=c) (hb':c<2251799813685248):bits .or .u64 (b/8192) (IntKind.u64.wrap (c*274877906944))=b/8192+c%67108864*274877906944:=
 PE (b/8192) c 274877906944 (c%67108864) 38 AJ (by show b/8192<274877906944;omega) AJ AJ (by show c%67108864*274877906944<_;omega) (by rw[IntKind.wrap_u64];show _=c%67108864*274877906944;omega)
theorem ZR (c d:Int) (ha:0<=c) (ha':c<2251799813685248) (hb:0<=d) (hb':d<2251799813685248):bits .or .u64 (c/67108864) (IntKind.u64.wrap (d*33554432))=c/67108864+d%549755813888*33554432:=
 PE (c/67108864) d 33554432 (d%549755813888) 25 AJ (by show c/67108864<33554432;omega) AJ AJ (by show d%549755813888*33554432<_;omega) (by rw[IntKind.wrap_u64];show _=d%549755813888*33554432;omega)
theorem ZT (d e:Int) (ha:0<=d) (ha':d<2251799813685248) (hb:0<=e) (hb':e<2251799813685248):bits .or .u64 (d/549755813888) (IntKind.u64.wrap (e*4096))=d/549755813888+e*4096:=
 PE (d/549755813888) e 4096 e 12 AJ (by show d/549755813888<4096;omega) AJ AJ (by show e*4096<_;omega) (by rw[IntKind.wrap_u64];show _=e*4096;omega)
theorem Ww (a b c d e:Int) (a0:0<=a) (a1:a<2251799813685248) (b0:0<=b) (b1:b<2251799813685248) (c0:0<=c) (c1:c<2251799813685248) (d0:0<=d) (d1:d<2251799813685248) (e0:0<=e) (e1:e<2251799813685248) :
  G4 [a+b%8192*2251799813685248,b/8192+c%67108864*274877906944,c/67108864+d%549755813888*33554432,d/549755813888+e*4096]/\
  val 18446744073709551616 [a+b%8192*2251799813685248,b/8192+c%67108864*274877906944,c/67108864+d%549755813888*33554432,d/549755813888+e*4096]=val C3 [a,b,c,d,e]:=by
 constructor
 ·intro z hz;simp only[List.mem_cons,List.not_mem_nil,or_false] at hz;rcases hz with rfl|rfl|rfl|rfl<;>omega
 ·simp only[val];unfold C3;omega
theorem N9 (g o:Nat) (xs:List Int) (w:aC) (h:Dj w g o xs) :
  Calls tP 142 #[aF (aE ⟨g,o,aA⟩)] w (K9 w (ev xs)):=by
 have hk:=h.2.1;have hv:=(FO hk).2.2;have hbd:=FF (xs.set 0 (xs.getD 0 0+19*LS xs));obtain⟨a,b,c,d,e,hl⟩:=Sf (Eg xs);have q0:=hbd 0;have q1:=hbd 1;have q2:=hbd 2;have q3:=hbd 3;have q4:=hbd 4;rw[show GS (xs.set 0 (xs.getD 0 0+19*LS xs)) 5=[a,b,c,d,e] from hl] at q0 q1 q2 q3 q4;simp only[List.getD_cons_zero,List.getD_cons_succ] at q0 q1 q2 q3 q4;obtain⟨a0,a1⟩:=q0;obtain⟨b0,b1⟩:=q1;obtain⟨c0,c1⟩:=q2;obtain⟨d0,d1⟩:=q3;obtain⟨e0,e1⟩:=q4;rw[hl] at hv;have HV:=Ww a b c d e a0 a1 b0 b1 c0 c1 d0 d1 e0 e1;rw[hv] at HV;have H0:AO (bits .or .u64 a (IntKind.u64.wrap (b*2251799813685248))=a+b%8192*2251799813685248):=ZP a b a0 a1 b0 b1;have H1:AO (bits .or .u64 (b/8192) (IntKind.u64.wrap (c*274877906944))=b/8192+c%67108864*274877906944):=ZQ b c b0 b1 c0 c1;have H2:AO (bits .or .u64 (c/67108864) (IntKind.u64.wrap (d*33554432))=c/67108864+d%549755813888*33554432):=ZR c d c0 c1 d0 d1;have H3:AO (bits .or .u64 (d/549755813888) (e*4096)=d/549755813888+e*4096):=by
  have h3:=ZT d e d0 d1 e0 e1;rw[show IntKind.u64.wrap (e*4096)=e*4096 by rw[IntKind.wrap_u64];omega] at h3;exact h3
 have bw:Below w.heap.size w (w.alloc (aJ CV 143)):=Cx _ _;have h0:=h.below bw;have HR0:(w.alloc (aJ CV 143)).heap[w.heap.size]?=aE (aJ CV 143 (0,0)):=AX w _;have hs0:w.heap.size<(w.alloc (aJ CV 143)).heap.size:=AL
 have HVV:AO (G4 [a+b%8192*2251799813685248,b/8192+c%67108864*274877906944,c/67108864+d%549755813888*33554432,d/549755813888+e*4096]/\val 18446744073709551616 [a+b%8192*2251799813685248,b/8192+c%67108864*274877906944,c/67108864+d%549755813888*33554432,d/549755813888+e*4096]=ev xs):=HV;clear HV hv hbd hk h;go_enter func142,ntmps142;go_wp2_with fail;generalize w.alloc (aJ CV 143)=w0 at *;refine(Es g o xs _ h0).mono ?_;rintro e' w1 ⟨rfl,hb⟩;rw[hl];have HR1:AO (w1.heap[w.heap.size]?=aE (aJ CV 143 (0,0))):=by show _=_;rw[hb.block _ hs0];exact HR0
 have HB1:AO (Below w.heap.size w w1):=bw.trans (hb.mono bw.size);have hs1:w.heap.size<w1.heap.size:=AG hb.size
 clear hb h0 HR0 hs0 bw hl;have HR2:AO ((w1.alloc (aJ #[Z8 .u64 a,Z8 .u64 b,Z8 .u64 c,Z8 .u64 d,Z8 .u64 e] 138)).heap[w.heap.size]?=aE (aJ CV 143 (0,0))):=by show _=_;rw[A5 _ _ w.heap.size hs1];exact HR1.o
 have HB2:AO (Below w.heap.size w (w1.alloc (aJ #[Z8 .u64 a,Z8 .u64 b,Z8 .u64 c,Z8 .u64 d,Z8 .u64 e] 138))):=HB1.o.trans ((Cx _ _).mono HB1.o.size);have HSZ:AO ((tP.info? 143).map (·.size)=aE 4):=by show _=_;kernel_rfl
 simp only[List.map_cons,List.map_nil];go_wp2_with (first
  |(refine AE 143 (aM 2) (aM 33) w.heap.size #[Z8 .u64 (bits .or .u64 a (IntKind.u64.wrap (b*2251799813685248))),Z8 .u64 (bits .or .u64 (b/8192) (IntKind.u64.wrap (c*274877906944))),Z8 .u64 (bits .or .u64 (c/67108864) (IntKind.u64.wrap (d*33554432))),Z8 .u64 (bits .or .u64 (d/549755813888) (e*4096))] 143 HR2.o HSZ.o rfl (by simp[Value.oneCell']) ?_)
  |fail)
 refine Ab (v:=aH #[Z8 .u64 (bits .or .u64 a (IntKind.u64.wrap (b*2251799813685248))),Z8 .u64 (bits .or .u64 (b/8192) (IntKind.u64.wrap (c*274877906944))),Z8 .u64 (bits .or .u64 (c/67108864) (IntKind.u64.wrap (d*33554432))),Z8 .u64 (bits .or .u64 (d/549755813888) (e*4096))]) (Ah rfl _ _ w.heap.size 143 _ (0,0) _ rfl (AB HR2.o) underlying143 rfl HSZ.o) rfl ?_;refine⟨[a+b%8192*2251799813685248,b/8192+c%67108864*274877906944,c/67108864+d%549755813888*33554432,d/549755813888+e*4096],rfl,HVV.o.1,HVV.o.2,?_,HB2.o.trans ((Wr.setRow _ _ _).below Cl)⟩;rw[H0.o,H1.o,H2.o,H3.o];rfl
def Gp:Int:=57896044618658097711785492504343953926634992332820282019728792003956564819968
def OA (X Y Z:Int):Int:=Y*Dm Z%fp+Gp*(X*Dm Z%fp%2)
theorem Sg (bs:List Int) (d:Int) (k:Nat) (h:bs.length=2*k):val 256 (bs++[d%256,d/256])=val 256 bs+d*65536^k:=by
 rw[Hs,h];have e:(256:Int)^(2*k)=65536^k:=by rw[Int.pow_mul,show(256:Int)^2=65536 from by decide]
 rw[e];simp only[val];have:d%256+256*(d/256)=d:=Int.emod_add_mul_ediv _ _;have e2:d%256+256*(d/256+256*0)=d:=AJ
 rw[e2,Int.mul_comm]
structure ZU (w w5:aC) (zs:List Int) (k:Nat) (v:aB) (wr:aC):Prop where
 st:∃ bs:List Int,DM wr w5.heap.size v bs/\bs.length=2*k/\Ci bs/\val 256 bs=val 65536 (zs.take k)
 below:Below w5.heap.size w5 wr
def Vz (w:aC) (x:Int) (e:Ending) (w':aC):Prop:=
 ∃ v bs,e=.returned v/\DM w' w.heap.size v bs/\Ci bs/\bs.length=32/\val 256 bs=x/\Below w.heap.size w w'
theorem DM.lower3 {w:aC} {B B':Nat} {v:aB} {zs:List Int} (h:DM w B' v zs) (hB:B<=B'):DM w B v zs:=by
 obtain⟨⟨h1,h2⟩,h3⟩:=h;refine⟨⟨h1,?_⟩,h3⟩;rcases h2 with h|⟨g,c,cur,h4,h5,h6⟩
 ·exact .inl h
 ·exact .inr ⟨g,c,cur,h4,AJ,h6⟩
theorem Sh (bs:List Int) (hl:bs.length=32) (hb:Ci bs) (V p:Int) (hv:val 256 bs=V) (hV:V<Gp) (hp:p=0\/p=1) :
  0<=bs.getD 31 0/\bs.getD 31 0<128/\val 256 (bs.set 31 (bs.getD 31 0+128*p))=V+Gp*p/\Ci (bs.set 31 (bs.getD 31 0+128*p)):=by
 have h31:=hb.get 31;have hd:=Em (B:=256) AK (λz hz=>hb z hz) 31;rw[hv] at hd;have hV0:0<=V:=by rw[<-hv];exact C0 AK (λz hz=>hb z hz)
 have e31:(256:Int)^31=452312848583266388373324160190187140051835877600158453279131187530910662656:=AK
 have hlt:bs.getD 31 0<128:=by
  rw[<-hd,e31];unfold Gp at hV;omega
 refine⟨h31.1,hlt,?_,?_⟩
 ·rw[FJ 256 bs 31 _ AJ,hv,e31];unfold Gp;rcases hp with rfl|rfl<;>omega
 ·intro z hz;rcases List.mem_or_eq_of_mem_set hz with h|h
  ·exact hb z h
  ·omega
theorem Mt (a0 a1 a2 a3:Option Addr) (c0 c1 c2 c3:Nat) (X Y Z:Int) (w:aC) (hx:Cu w a0 X) (hy:Cu w a1 Y) (hz:Cu w a2 Z) :
  Calls tP 79 #[aH #[Z7 a0 16 c0,Z7 a1 16 c1,Z7 a2 16 c2,Z7 a3 16 c3]] w (Vz w (OA X Y Z)):=by
 have bb:Below w.heap.size w (w.alloc (aJ #[Z7 a0 16 c0,Z7 a1 16 c1,Z7 a2 16 c2,Z7 a3 16 c3] 109)):=Ck _ _;have HP:AO (DF (w.alloc (aJ #[Z7 a0 16 c0,Z7 a1 16 c1,Z7 a2 16 c2,Z7 a3 16 c3] 109)) w.heap.size #[Z7 a0 16 c0,Z7 a1 16 c1,Z7 a2 16 c2,Z7 a3 16 c3]):=AX w _;have SRK:AO (SR w (w.alloc (aJ #[Z7 a0 16 c0,Z7 a1 16 c1,Z7 a2 16 c2,Z7 a3 16 c3] 109)) [(a0,X),(a1,Y),(a2,Z)]):=⟨bb,λe he=>by
  simp only[List.mem_cons,List.not_mem_nil,or_false] at he;rcases he with rfl|rfl|rfl
  ·exact hx.below bb
  ·exact hy.below bb
  ·exact hz.below bb⟩
 clear bb hx hy hz;have k2:=HP.o.c2;go_enter func79,ntmps79;go_wp2_with fail;generalize (w.alloc (aJ #[Z7 a0 16 c0,Z7 a1 16 c1,Z7 a2 16 c2,Z7 a3 16 c3] 109))=w0 at *;refine(IQ _ c2 Z _ (SRK.o.at 2 _ _ rfl)).mono ?_;rintro e w1 ⟨g1,k1,rfl,hk1,hl1,hf,hb⟩;have HP1:AO (DF w1 w.heap.size #[Z7 a0 16 c0,Z7 a1 16 c1,Z7 a2 16 c2,Z7 a3 16 c3]):=HP.o.below hb HP.o.lt;have SRK1:AO (SR w w1 [(a0,X),(a1,Y),(a2,Z),(aE ⟨g1,0,aA⟩,Dm Z)]):=SRK.o.more hb hf;clear hf hb HP SRK hk1 hl1 k2;have k0:=HP1.o.c0;go_wp2_with fail;refine(Cw _ _ c0 k1 _ _ _ (SRK1.o.at 0 _ _ rfl) (SRK1.o.at 3 _ _ rfl)).mono ?_;rintro e w2 ⟨g2,kk2,rfl,hk1,hl1,hf,hb⟩;have HP2:AO (DF w2 w.heap.size #[Z7 a0 16 c0,Z7 a1 16 c1,Z7 a2 16 c2,Z7 a3 16 c3]):=HP1.o.below hb HP1.o.lt;have SRK2:AO (SR w w2 [(a0,X),(a1,Y),(a2,Z),(aE ⟨g1,0,aA⟩,Dm Z),(aE ⟨g2,0,aA⟩,X*Dm Z%fp)]):=SRK1.o.more hb hf;clear hf hb HP1 SRK1 hk1 hl1 k0;go_wp2_with fail;refine(ET _ kk2 _ _ (SRK2.o.at 4 _ _ rfl)).mono ?_;rintro e w3 ⟨gx,cx,rfl,hgx,hgx',hlx,hb⟩;have HP3:AO (DF w3 w.heap.size #[Z7 a0 16 c0,Z7 a1 16 c1,Z7 a2 16 c2,Z7 a3 16 c3]):=HP2.o.below hb HP2.o.lt;have SRK3:AO (SR w w3 [(a0,X),(a1,Y),(a2,Z),(aE ⟨g1,0,aA⟩,Dm Z),(aE ⟨g2,0,aA⟩,X*Dm Z%fp)]):=SRK2.o.low hb;have HLX:AO (Tf w3 (aE ⟨gx,0,aA⟩) (X*Dm Z%fp)):=hlx;clear hb HP2 SRK2 hgx hlx;have k1':=HP3.o.c1;go_wp2_with fail;refine(Cw _ _ c1 k1 _ _ _ (SRK3.o.at 1 _ _ rfl) (SRK3.o.at 3 _ _ rfl)).mono ?_;rintro e w4 ⟨g4,k4,rfl,hk1,hl1,hf,hb⟩;have HLX4:AO (Tf w4 (aE ⟨gx,0,aA⟩) (X*Dm Z%fp)):=HLX.o.below hb;have HS4:AO (Below w.heap.size w w4):=SRK3.o.below.trans (hb.mono SRK3.o.below.size);have HF4:AO (Cu w4 (aE ⟨g4,0,aA⟩) (Y*Dm Z%fp)):=hf;have hgx4:gx<w4.heap.size:=AG hb.size
 clear hf hb HP3 SRK3 HLX hk1 hl1 k1' hgx';go_wp2_with fail;refine(ET _ k4 _ _ HF4.o).mono ?_;rintro e w5 ⟨gy,cyy,rfl,hgy,hgy',⟨zs,hzA,hzl,hzd,hzv⟩,hb5⟩;have HB5:AO (Below w.heap.size w w5):=HS4.o.trans (hb5.mono HS4.o.size);obtain⟨xs,hxA,hxl,hxd,hxv⟩:=HLX4.o.below hb5;have hgx5:gx<w5.heap.size:=AG hb5.size
 have HYC:AO (∀ i,i<16->w5.cell? ⟨gy,i,aA⟩=aE (Z8 aI (zs.getD i 0))):=λi hi=>by
  obtain⟨_,_,e,_,hc⟩:=hzA.get AJ;cases e;have:=hc i AJ
  rwa [Aq] at this
 have HXC:AO (w5.cell? ⟨gx,0,aA⟩=aE (Z8 aI (xs.getD 0 0))):=by
  obtain⟨_,_,e,_,hc⟩:=hxA.get AJ;cases e;exact hc 0 AJ
 have HXP:AO (xs.getD 0 0%2=X*Dm Z%fp%2/\0<=xs.getD 0 0/\xs.getD 0 0<65536):=⟨by rw[<-LJ xs hxl,hxv],hxd 0⟩
 have HZL:AO (zs.length=16):=hzl;have HZD:AO (∀ i,0<=zs.getD i 0/\zs.getD i 0<65536):=hzd;have HZV:AO (val 65536 zs=Y*Dm Z%fp):=hzv;have HS:AO (ZU w w5 zs 0 (Z7 (aE ⟨w5.heap.size,0,aA⟩) 0 0) (w5.alloc (aJ #[] 5))):=⟨⟨[],DM.empty _ _ Cl,rfl,by simp[Ci],by simp[val]⟩,Ck _ _⟩
 clear HF4 HLX4 HS4 hgx4 hb5 hzA hzl hzd hzv hxA hxl hxd hxv;generalize xs.getD 0 0=x at *;go_wp2
 go_loopw [6,7] (λv i wr=>∃ k:Nat,k<=16/\i=Z8 aI k/\ZU w w5 zs k v wr) (λ_ i _=>16-(intOf i).toNat)
 case atStart=>exact⟨0,AK,rfl,HS.o⟩
 case round=>
  clear HS;obtain⟨k,hk,rfl,⟨bs,hO,hbl,hbb,hbv⟩,hbel⟩:=hrel;by_cases hlt:k<16
  ·have hlt':(k:Int)<16:=AJ
   have hd:=HZD.o k;have vt:=DN 65536 zs k (AG HZL.o);have c0:wr.cell? ⟨gy,k,aA⟩=aE (Z8 aI (zs.getD k 0)):=by
    rw[hbel.cell (p:=⟨gy,k,aA⟩) hgy'];exact HYC.o k hlt
   generalize hdd:zs.getD k 0=d at *;clear hdd;have HGN:AO (¬ aE gy=u6.ownBlock):=by
    obtain⟨g,c,rfl,hg,_,_⟩:=hO.base;intro h;simp[Value.ownBlock] at h;omega
   have HBL:AO (bs.length<=32):=by show _<=_;omega
   have HN:AO (val 256 (bs++[d%256,d/256])=val 65536 (zs.take (k+1))/\(bs++[d%256,d/256]).length=2*(k+1)/\Ci (bs++[d%256,d/256])):=by
    refine⟨by rw[Sg bs d k hbl,hbv,vt],by simp[hbl];omega,?_⟩;intro z hz;simp at hz;rcases hz with h|h|h
    ·exact hbb z h
    ·omega
    ·omega
   have HO:AO (DM wr w5.heap.size u6 bs):=hO;have HBE:AO (Below w5.heap.size w5 wr):=hbel;have hwr:=hbel.size;obtain⟨hd0,hd1⟩:=hd;clear hO hbel vt hbv hbb hbl HYC HZV HZD HXC;go_wp2_with fail;have hm1:d.tmod 256=d%256:=Am hd0;have hm2:d.tdiv 256=d/256:=Int.tdiv_eq_ediv_of_nonneg hd0;have hm3:IntKind.u8.wrap (d/256)=d/256:=by rw[IntKind.wrap_u8];omega
   have hm4:IntKind.u8.wrap (d%256)=d%256:=by rw[IntKind.wrap_u8];omega
   have hm5:IntKind.i64.wrap (d/256)=d/256:=by rw[An];omega
   refine Ag AM ?_;refine Eb 15 (λi w w'=>i≠14->Below w.heap.size w w') (frame:=(λ(a b c d e f g h i j k l m n o p q r s u v w x y z A B C D E F G H I J K L M N:aB)=>λ(t:Nat->aB)=>({ tmps:=List.toArray [a,b,c,d,e,f,g,h,i,j,k,l,m,n,o,p,q,r,s,u,v,w,x,y,z,A,t 0,t 1,t 2,t 3,t 4,t 5,t 6,t 7,t 8,t 9,t 10,t 11,t 12,t 13,t 14,B,C,D,E,F,G,H,I,J,K,L,M,N],defers:=[] }:Act)) _ _ _ _ _ _ _ _ _ _ _ _ _ _ _ _ _ _ _ _ _ _ _ _ _ _ _ _ _ _ _ _ _ _ _ _ _ _ _)
    (Ext:=λL w'=>(L 14=false->Below wr.heap.size wr w')/\Below w5.heap.size w5 w'/\(∀ i,i<16->w'.cell? ⟨gy,i,aA⟩=wr.cell? ⟨gy,i,aA⟩)/\wr.heap.size<=w'.heap.size)
    (Good:=Xb w5.heap.size u6 gy cyy k d bs) AN AM (Lq _ _ _ _ _ _ _) AM AM ?hop ?hend _ _ ((λ(x0 x1 x2 x3 x4 x5 x6 x7 x8 x9 x10 x11 x12 x13 x14:aB)=>λ(i:Nat)=>if i=0 then x0 else if i=1 then x1 else if i=2 then x2 else if i=3 then x3 else if i=4 then x4 else if i=5 then x5 else if i=6 then x6 else if i=7 then x7 else if i=8 then x8 else if i=9 then x9 else if i=10 then x10 else if i=11 then x11 else if i=12 then x12 else if i=13 then x13 else if i=14 then x14 else undef) _ _ _ _ _ _ _ _ _ _ _ _ _ _ _) _ AL AL ?ext ?start AL
   case start=>intro i hi h;exact absurd h Et
   case ext=>exact⟨λ_=>Cg.drew,⟨HBE.o.os,HBE.o.tape,HBE.o.output,HBE.o.size,HBE.o.block⟩,λ_ _=>rfl,Ac _⟩
   case hop=>
    intro i o L t w' hil ho hLi hx hdep K hK;obtain⟨hx14,hxB,hxY,hxS⟩:=hx;have cY:w'.cell? ⟨gy,k,aA⟩=aE (Z8 aI d):=by rw[hxY k AJ];exact c0
    have RX:AO (∀ j,j≠14->∀ ww,Below w'.heap.size w' ww->((Cf L j 14=false->Below wr.heap.size wr ww)/\Below w5.heap.size w5 ww/\(∀ i,i<16->ww.cell? ⟨gy,i,aA⟩=wr.cell? ⟨gy,i,aA⟩)/\wr.heap.size<=ww.heap.size)):=λj hj ww hb=>
     ⟨λhL=>(hx14 (by simpa[Cf,Ne.symm hj] using hL)).trans (hb.mono hxS),hxB.trans (hb.mono hxB.size),λi hi=>by rw[hb.cell (p:=⟨gy,i,aA⟩) (by show gy<w'.heap.size;omega)];exact hxY i hi,AG hb.size⟩
    have RR:AO (∀ j,j≠14->((Cf L j 14=false->Below wr.heap.size wr w')/\Below w5.heap.size w5 w'/\(∀ i,i<16->w'.cell? ⟨gy,i,aA⟩=wr.cell? ⟨gy,i,aA⟩)/\wr.heap.size<=w'.heap.size)):=λj hj=>RX.o j hj w' Cg
    have RM:AO (∀ j:Nat,j≠14->Below w'.heap.size w' w'):=λ_ _=>A9 _ _
    have H14:AO (L 14=false->Below wr.heap.size wr w'):=hx14;have HXB:AO (Below w5.heap.size w5 w'):=hxB;have HXY:AO (∀ i,i<16->w'.cell? ⟨gy,i,aA⟩=wr.cell? ⟨gy,i,aA⟩):=hxY;clear hx14 hxB hxY;obtain rfl|rfl|rfl|rfl|rfl|rfl|rfl|rfl|rfl|rfl|rfl|rfl|rfl|rfl|rfl:i=0\/i=1\/i=2\/i=3\/i=4\/i=5\/i=6\/i=7\/i=8\/i=9\/i=10\/i=11\/i=12\/i=13\/i=14:=AJ
    all_goals(simp at ho;subst ho)
    ·clear hdep;go_simp;exact hK w' u6 rfl (RR.o 0 AK) (RM.o 0)
    ·clear hdep;go_simp;exact hK w' (Z7 (aE ⟨gy,0,aA⟩) 16 cyy) rfl (RR.o 1 AK) (RM.o 1)
    ·clear hdep;go_simp;exact hK w' (Z8 aI k) rfl (RR.o 2 AK) (RM.o 2)
    ·have d1:t 1=_:=hdep ⟨1,aL⟩ AL rfl;have d2:t 2=_:=hdep ⟨2,aL⟩ AL rfl;clear hdep;go_simp;simpa[Ce,d1,d2] using hK w' (aF (aE ⟨gy,k,aA⟩)) rfl (RR.o 3 AK) (RM.o 3)
    ·have d3:t 3=_:=hdep ⟨3,aL⟩ AL rfl;clear hdep;go_simp;simpa[Ce,d3] using hK w' (Z8 aI d) rfl (RR.o 4 AK) (RM.o 4)
    ·have d4:t 4=_:=hdep ⟨4,aL⟩ AL rfl;clear hdep;go_simp;simpa[Ce,d4,hm1,hm2,hm3,hm4,hm5] using hK w' (Z8 aI (d%256)) rfl (RR.o 5 AK) (RM.o 5)
    ·have d5:t 5=_:=hdep ⟨5,aL⟩ AL rfl;clear hdep;go_simp;simpa[Ce,d5,hm1,hm2,hm3,hm4,hm5] using hK w' (Z8 Z9 (d%256)) rfl (RR.o 6 AK) (RM.o 6)
    ·clear hdep;go_simp;exact hK w' (Z7 (aE ⟨gy,0,aA⟩) 16 cyy) rfl (RR.o 7 AK) (RM.o 7)
    ·clear hdep;go_simp;exact hK w' (Z8 aI k) rfl (RR.o 8 AK) (RM.o 8)
    ·have d7:t 7=_:=hdep ⟨7,aL⟩ AL rfl;have d8:t 8=_:=hdep ⟨8,aL⟩ AL rfl;clear hdep;go_simp;simpa[Ce,d7,d8] using hK w' (aF (aE ⟨gy,k,aA⟩)) rfl (RR.o 9 AK) (RM.o 9)
    ·have d9:t 9=_:=hdep ⟨9,aL⟩ AL rfl;clear hdep;go_simp;simpa[Ce,d9] using hK w' (Z8 aI d) rfl (RR.o 10 AK) (RM.o 10)
    ·have d10:t 10=_:=hdep ⟨10,aL⟩ AL rfl;clear hdep;go_simp;simpa[Ce,d10,hm1,hm2,hm3,hm4,hm5] using hK w' (Z8 aI (d/256)) rfl (RR.o 11 AK) (RM.o 11)
    ·have d11:t 11=_:=hdep ⟨11,aL⟩ AL rfl;clear hdep;go_simp;simpa[Ce,d11,hm1,hm2,hm3,hm4,hm5] using hK w' (Z8 Z9 (d/256)) rfl (RR.o 12 AK) (RM.o 12)
    ·have d6:t 6=_:=hdep ⟨6,aL⟩ AL rfl;have d12:t 12=_:=hdep ⟨12,aL⟩ AL rfl;clear hdep;have hK':=hK (w'.alloc (aJ #[Z8 Z9 (d%256),Z8 Z9 (d/256)] 5)) (Z7 (aE ⟨w'.heap.size,0,aA⟩) 2 2) (λ_=>⟨w'.heap.size,rfl,AL,AA (AX _ _) _,AA (AX _ _) _⟩) (RX.o 13 AK _ (Ck _ _)) (λ_=>Ck _ _);clear hK;go_simp;simpa[Ce,d6,d12] using hK'
    ·have d0:t 0=_:=hdep ⟨0,aL⟩ AL rfl;have d13:=hdep ⟨13,aL⟩ AL rfl;obtain⟨g',e13,hg',cc0,cc1⟩:=d13 hLi;clear hdep d13;have hO:=HO.o.grow2 (H14.o hLi);refine Q1 (a:=_) _ _ _ rfl w5.heap.size _ bs (by first|exact d0|(simp[d0];done)) hO ⟨g',0,aA⟩ 2 2 [d%256,d/256] (by first|exact e13|(simp[e13];done)) rfl ?_ ?_ ?_ ?_
     ·intro j hj;rcases (show j=0\/j=1 by omega) with rfl|rfl
      ·rw[Az];exact cc0
      ·rw[Az];exact cc1
     ·have:=HBL.o;omega
     ·exact HXB.o.size
     ·intro v' w9 hown' hbel' hgr;have hs9:=hgr.size;have hyY:∀ i,i<16->w9.cell? ⟨gy,i,aA⟩=wr.cell? ⟨gy,i,aA⟩:=λi hi=>by
       rw[Ai (a:=⟨gy,i,aA⟩) (w:=w') (hgr.block gy AJ HGN.o)];exact HXY.o i hi
      exact hK w9 v' hown' ⟨λh=>by simp[Cf] at h,HXB.o.trans hbel',hyY,AJ⟩ (λh=>absurd rfl h)
   case hend=>
    intro o L t w' ho hx hg K hK;simp at ho;subst ho;obtain⟨hx14,hxB,hxY,hxS⟩:=hx;have O14:DM w' w5.heap.size (t 14) (bs++[d%256,d/256]):=hg 14 AK;have HXB:AO (Below w5.heap.size w5 w'):=hxB;have HXY:AO (∀ i,i<16->w'.cell? ⟨gy,i,aA⟩=wr.cell? ⟨gy,i,aA⟩):=hxY;have HSZ:AO (wr.heap.size<=w'.heap.size):=hxS;have HO14:AO (DM w' w5.heap.size (t 14) (bs++[d%256,d/256])):=O14;clear hg O14 hx14 hxB hxY hxS;go_simp;refine hK _ _ ?_;have hHB:Below w5.heap.size w5 w':=HXB.o;have HP:AO (ZU w w5 zs (k+1) (t 14) w'):=⟨⟨_,HO14.o,HN.o.2.1,HN.o.2.2,HN.o.1⟩,hHB⟩
    clear hHB HXB HXY HO14 HSZ HN HO HBE HGN hK c0;generalize t 14=v14 at *;go_wp2;go_roundw
    case rel=>exact⟨k+1,AJ,by go_num,HP.o⟩
    case measure=>simp[intOf];omega
  ·have hk16:k=16:=AJ
   rw[hk16,Ad (AG HZL.o),HZV.o] at hbv;obtain⟨g,c,hu,hg0,hg1,hc0⟩:=hO.base;have hl32:bs.length=32:=AJ
   rw[hl32] at hu hc0;subst hu;have hlt:¬ ((k:Int)<16):=AJ
   have hV:Y*Dm Z%fp<Gp:=by
    have:=Int.emod_lt_of_pos (Y*Dm Z) (show(0:Int)<fp by decide);have e:fp<Gp:=AK
    omega
   obtain⟨hp,hx0,hx1⟩:=HXP.o;obtain⟨s1,s2,s3,s4⟩:=Sh bs hl32 hbb _ (x%2) hbv hV AJ;have hset:=DR.set (k:=Z9) (t:=5) hl32 hO 31 (bs.getD 31 0+128*(x%2)) AJ;obtain⟨cB,fB,hO'⟩:=hset;have cX:wr.cell? ⟨gx,0,aA⟩=aE (Z8 aI x):=by rw[hbel.cell (p:=⟨gx,0,aA⟩) hgx5];exact HXC.o
   have BB:Below w.heap.size w (wr.setCell ⟨g,31,aA⟩ (Z8 Z9 (bs.getD 31 0+128*(x%2)))):=HB5.o.trans ((hbel.trans (Cg.setCell (by show w5.heap.size<=g;omega) _)).mono HB5.o.size);have HP9:∀ q,AO (Vz w (OA X Y Z) (.returned (Z7 (aE ⟨g,0,aA⟩) 32 c)) ((wr.drewN q).setCell ⟨g,31,aA⟩ (Z8 Z9 (bs.getD 31 0+128*(x%2))))):=λq=>
    ⟨_,bs.set 31 (bs.getD 31 0+128*(x%2)),rfl,(show DM _ w5.heap.size _ _ from(show DM (wr.setCell ⟨g,31,aA⟩ (Z8 Z9 (bs.getD 31 0+128*(x%2)))) w5.heap.size (Z7 (aE ⟨g,0,aA⟩) 32 c) _ from hO')).lower3 HB5.o.size,s4,by rw[List.length_set];exact hl32,by rw[s3,hp];rfl,
     ⟨BB.os,BB.tape,BB.output,BB.size,BB.block⟩⟩
   have hm1:x.tmod 2=x%2:=Am hx0;have hm2:IntKind.i64.wrap (128*(x%2))=128*(x%2):=by rw[An];omega
   have hm3:IntKind.u8.wrap (128*(x%2))=128*(x%2):=by rw[IntKind.wrap_u8];omega
   have hm4:IntKind.u8.wrap (bs.getD 31 0+128*(x%2))=bs.getD 31 0+128*(x%2):=by rw[IntKind.wrap_u8];omega
   clear BB hbv hO hbb hbl hbel hk16 HZV HZD HYC HXC HXP hO' s3 s4 hV hp hl32;generalize bs.getD 31 0=b at *;go_wp2_with fail;refine Ag AM ?_;refine F9 12 (λw w'=>True) (frame:=(λ(a b c d e f g h i j k l m n o p q r s u v w x y z A B C D E F G H I J K L M N O P Q:aB)=>λ(t:Nat->aB)=>({ tmps:=List.toArray [a,b,c,d,e,f,g,h,i,j,k,l,m,n,o,p,q,r,s,u,v,w,x,y,z,A,B,C,D,E,F,G,H,I,J,K,L,M,N,O,P,t 0,t 1,t 2,t 3,t 4,t 5,t 6,t 7,t 8,t 9,t 10,t 11,Q],defers:=[] }:Act)) _ _ _ _ _ _ _ _ _ _ _ _ _ _ _ _ _ _ _ _ _ _ _ _ _ _ _ _ _ _ _ _ _ _ _ _ _ _ _ _ _ _)
    (Ext:=λw'=>∃ q,w'=wr.drewN q) (Good:=λi _ v=>if i=0 then v=Z7 (aE ⟨g,0,aA⟩) 32 c else if i=1 then v=Z7 (aE ⟨g,0,aA⟩) 32 c else if i=2 then v=aF (aE ⟨g,31,aA⟩) else if i=3 then v=Z8 Z9 b else if i=4 then v=Z7 (aE ⟨gx,0,aA⟩) 16 cx else if i=5 then v=aF (aE ⟨gx,0,aA⟩) else if i=6 then v=Z8 aI x else if i=7 then v=Z8 aI (x%2) else if i=8 then v=Z8 aI (128*(x%2)) else if i=9 then v=Z8 Z9 (128*(x%2)) else if i=10 then v=Z8 Z9 (b+128*(x%2)) else if i=11 then v=aF (aE ⟨g,31,aA⟩) else True) AN AM (λi w w' v _ h=>h) AM AM ?hop ?hend _ _ ((λ(x0 x1 x2 x3 x4 x5 x6 x7 x8 x9 x10 x11:aB)=>λ(i:Nat)=>if i=0 then x0 else if i=1 then x1 else if i=2 then x2 else if i=3 then x3 else if i=4 then x4 else if i=5 then x5 else if i=6 then x6 else if i=7 then x7 else if i=8 then x8 else if i=9 then x9 else if i=10 then x10 else if i=11 then x11 else undef) _ _ _ _ _ _ _ _ _ _ _ _) _ AL AL ?ext ?start AL
   case start=>intro i hi h;exact absurd h Et
   case ext=>exact⟨1,rfl⟩
   case hop=>
    intro i o t w' hil ho hx hdep K hK;obtain⟨q,rfl⟩:=hx;obtain rfl|rfl|rfl|rfl|rfl|rfl|rfl|rfl|rfl|rfl|rfl|rfl:i=0\/i=1\/i=2\/i=3\/i=4\/i=5\/i=6\/i=7\/i=8\/i=9\/i=10\/i=11:=AJ
    all_goals(simp at ho;subst ho)
    ·clear hdep;have hK':=hK (wr.drewN q) (Z7 (aE ⟨g,0,aA⟩) 32 c) AL ⟨q,rfl⟩ trivial;clear hK;go_simp;simpa[Ce,hm1,hm2,hm3,hm4] using hK'
    ·clear hdep;have hK':=hK (wr.drewN q) (Z7 (aE ⟨g,0,aA⟩) 32 c) AL ⟨q,rfl⟩ trivial;clear hK;go_simp;simpa[Ce,hm1,hm2,hm3,hm4] using hK'
    ·have d1:t 1=Z7 (aE ⟨g,0,aA⟩) 32 c:=by simpa using hdep ⟨1,aL⟩ AL rfl
     clear hdep;have hK':=hK (wr.drewN q) (aF (aE ⟨g,31,aA⟩)) AL ⟨q,rfl⟩ trivial;clear hK;go_simp;simpa[Ce,d1,hm1,hm2,hm3,hm4] using hK'
    ·have d2:t 2=aF (aE ⟨g,31,aA⟩):=by simpa using hdep ⟨2,aL⟩ AL rfl
     clear hdep;have hK':=hK (wr.drewN q) (Z8 Z9 b) AL ⟨q,rfl⟩ trivial;clear hK;go_simp;simpa[Ce,d2,hm1,hm2,hm3,hm4] using hK'
    ·clear hdep;have hK':=hK (wr.drewN q) (Z7 (aE ⟨gx,0,aA⟩) 16 cx) AL ⟨q,rfl⟩ trivial;clear hK;go_simp;simpa[Ce,hm1,hm2,hm3,hm4] using hK'
    ·have d4:t 4=Z7 (aE ⟨gx,0,aA⟩) 16 cx:=by simpa using hdep ⟨4,aL⟩ AL rfl
     clear hdep;have hK':=hK (wr.drewN q) (aF (aE ⟨gx,0,aA⟩)) AL ⟨q,rfl⟩ trivial;clear hK;go_simp;simpa[Ce,d4,hm1,hm2,hm3,hm4] using hK'
    ·have d5:t 5=aF (aE ⟨gx,0,aA⟩):=by simpa using hdep ⟨5,aL⟩ AL rfl
     clear hdep;have hK':=hK (wr.drewN q) (Z8 aI x) AL ⟨q,rfl⟩ trivial;clear hK;go_simp;simpa[Ce,d5,hm1,hm2,hm3,hm4] using hK'
    ·have d6:t 6=Z8 aI x:=by simpa using hdep ⟨6,aL⟩ AL rfl
     clear hdep;have hK':=hK (wr.drewN q) (Z8 aI (x%2)) AL ⟨q,rfl⟩ trivial;clear hK;go_simp;simpa[Ce,d6,hm1,hm2,hm3,hm4] using hK'
    ·have d7:t 7=Z8 aI (x%2):=by simpa using hdep ⟨7,aL⟩ AL rfl
     clear hdep;have hK':=hK (wr.drewN q) (Z8 aI (128*(x%2))) AL ⟨q,rfl⟩ trivial;clear hK;go_simp;simpa[Ce,d7,hm1,hm2,hm3,hm4] using hK'
    ·have d8:t 8=Z8 aI (128*(x%2)):=by simpa using hdep ⟨8,aL⟩ AL rfl
     clear hdep;have hK':=hK (wr.drewN q) (Z8 Z9 (128*(x%2))) AL ⟨q,rfl⟩ trivial;clear hK;go_simp;simpa[Ce,d8,hm1,hm2,hm3,hm4] using hK'
    ·have d3:t 3=Z8 Z9 b:=by simpa using hdep ⟨3,aL⟩ AL rfl
     have d9:t 9=Z8 Z9 (128*(x%2)):=by simpa using hdep ⟨9,aL⟩ AL rfl
     clear hdep;have hK':=hK (wr.drewN q) (Z8 Z9 (b+128*(x%2))) AL ⟨q,rfl⟩ trivial;clear hK;go_simp;simpa[Ce,d3,d9,hm1,hm2,hm3,hm4] using hK'
    ·have d0:t 0=Z7 (aE ⟨g,0,aA⟩) 32 c:=by simpa using hdep ⟨0,aL⟩ AL rfl
     clear hdep;have hK':=hK (wr.drewN q) (aF (aE ⟨g,31,aA⟩)) AL ⟨q,rfl⟩ trivial;clear hK;go_simp;simpa[Ce,d0,hm1,hm2,hm3,hm4] using hK'
   case hend=>
    intro o t w' ho hx hg K hK;obtain⟨q,rfl⟩:=hx;simp at ho;subst ho;have d0:t 0=Z7 (aE ⟨g,0,aA⟩) 32 c:=by simpa using hg 0 AK
    have d1:t 1=Z7 (aE ⟨g,0,aA⟩) 32 c:=by simpa using hg 1 AK
    have d2:t 2=aF (aE ⟨g,31,aA⟩):=by simpa using hg 2 AK
    have d3:t 3=Z8 Z9 b:=by simpa using hg 3 AK
    have d4:t 4=Z7 (aE ⟨gx,0,aA⟩) 16 cx:=by simpa using hg 4 AK
    have d5:t 5=aF (aE ⟨gx,0,aA⟩):=by simpa using hg 5 AK
    have d6:t 6=Z8 aI x:=by simpa using hg 6 AK
    have d7:t 7=Z8 aI (x%2):=by simpa using hg 7 AK
    have d8:t 8=Z8 aI (128*(x%2)):=by simpa using hg 8 AK
    have d9:t 9=Z8 Z9 (128*(x%2)):=by simpa using hg 9 AK
    have d10:t 10=Z8 Z9 (b+128*(x%2)):=by simpa using hg 10 AK
    have d11:t 11=aF (aE ⟨g,31,aA⟩):=by simpa using hg 11 AK
    clear hg;have h9:=HP9 q;clear HP9;go_simp;refine hK _ _ ?_;clear hK;generalize (wr.drewN q).setCell ⟨g,31,aA⟩ (Z8 Z9 (b+128*(x%2)))=w9 at *;go_wp2
    go_ret
    exact h9.o
end Go.Proofs.YtjdhhgaelgemcaaGreatDoor
