import Derived.Test.YtncomnkdlpoelaaGreatDoorMPMi
open Go.Proofs.Tryz renaming prog->tP
open Go.Proofs.Tryz
open Go.Value renaming slice->aM,int->aO,pointer->aY,agg->af
open Go.IntKind renaming i64->aZ,u8->aP
open Go.Obj renaming cells->aa
open Go.Ending renaming returned->aQ
open Go.Operand renaming tmp->ah
open Option renaming some->aR,none->aS
open Go renaming World->aV,Value->aX
set_option maxHeartbeats 8000000
set_option maxRecDepth 100000
namespace Go.Proofs.YtncomnkdlpoelaaGreatDoor
open Go.ChangeShapes Go.WideShapes Go.ChangeAt Go.RowKit
set_option linter.unusedVariables false
def NG (g:Nat) (w:aV) (v:aX) (m:Nat):Prop:=
 ∃ q c,v=aM (aR ⟨q,0,aS⟩) m c/\m<=c/\g<q/\q<w.heap.size/\∀ i,i<m->∃ u k,w.cell? ⟨q,i,aS⟩=aR u/\k<=72/\Gj (g+1) w u k
theorem NG.wrG {g:Nat} {w w':aV} {v:aX} {m:Nat} (h:NG g w v m) (b:Eo g w w'):NG g w' v m:=by
 obtain⟨q,c,h1,h2,h3,h4,h5⟩:=h;refine⟨q,c,h1,h2,h3,Ap h4 b.size,λi hi=>?_⟩;obtain⟨u,k,p1,p2,p3⟩:=h5 i hi;exact⟨u,k,by rw[Af (a:=⟨q,i,aS⟩) (b.block q h4 AJ)];exact p1,p2,p3.wrG b (Nat.lt_succ_self _)⟩
theorem PS.pool {lo:Nat} {w:aV} {g:Nat} {x:Option Addr} {n cap:Nat} {v:aX} {m:Nat} {vs:List aX} {wr:aV} (h:PS lo w g x n cap v m vs wr) (hm:0<m):NG g wr v m:=by
 obtain⟨q,c,h1,h2,h3,h4⟩:=h.form1 hm;have hg:=h.hg;rcases h.row.2 with⟨_,h0⟩|⟨q',c',cur,h1',_,hh,_⟩
 ·omega
 ·rw[h1] at h1';cases h1';refine⟨q,c,h1,h2,AJ,Cm hh,λi hi=>?_⟩;have hl:i<vs.length:=by rw[h.row.1];omega
  obtain⟨k,_,k1,k2⟩:=h.tx vs[i] (BL hl);exact⟨vs[i],k,by rw[h4 i hi];simp[hl],k1,k2.mono AJ⟩
def NH (B:Nat) (w:aV) (v:aX):Prop:=v=aM aS 0 0\/∃ k,k<=72/\Gj B w v k
theorem NH.keep {B:Nat} {w w':aV} {v:aX} (h:NH B w v) (hk:∀ b cs fr,B<=b->w.heap[b]?=aR (aa cs 5 fr)->w'.heap[b]?=w.heap[b]?):NH B w' v:=by
 rcases h with h|⟨k,h1,h2⟩
 ·exact .inl h
 ·exact .inr ⟨k,h1,h2.keep hk⟩
theorem NH.frm {B:Nat} {w:aV} {v:aX} (h:NH B w v):∃ a n c,v=aM a n c:=by
 rcases h with h|⟨k,h1,h2⟩
 ·exact⟨_,_,_,h⟩
 ·obtain⟨a,c,zs,e,_⟩:=h2.at_;exact⟨_,_,_,e⟩
theorem NH.rd {B:Nat} {w:aV} {a:Option Addr} {n c:Nat} (h:NH B w (aM a n c)):n<=72/\n<=c/\∃ zs:List Int,zs.length=n/\Cb zs/\At aP w a zs:=by
 rcases h with h|⟨k,h1,h2⟩
 ·cases h;exact⟨AK,Aa _,[],rfl,λ_ h=>(by cases h),.inl rfl⟩
 ·obtain⟨a',c',zs,e,h2,h3,h4,h5⟩:=h2.at_;cases e;exact⟨h1,h2,zs,h3,h4,h5⟩
structure Ja (w:aV) (g:Nat) (x:Option Addr) (n cap S:Nat) (kd:Int) (tv:aX) (nw nn:Int) (wr:aV):Prop where
 wg:Eo g w wr
 cb:Dc wr g x n cap
 hg:g<w.heap.size
 hS:w.heap.size<S
 bx:wr.heap[w.heap.size]?=aR (aa CQ 28 (0,0))
 s:wr.heap[S]?=aR (aa #[aO aZ kd,tv,aO aZ nw,aO aZ nn] 28 (0,0))
 tx:NH w.heap.size wr tv
 nb:(-9223372036854775808<=nw/\nw<=9223372036854775807)/\-9223372036854775808<=nn/\nn<=9223372036854775807
section
variable {w:aV} {g:Nat} {x:Option Addr} {n cap S:Nat} {kd:Int} {tv:aX} {nw nn:Int} {wr w':aV}
theorem Ja.ct (h:Ja w g x n cap S kd tv nw nn wr) (ht:Fb w g x n):Fb wr g x n:=ht.wr (λq hq=>h.wg.block q (Nat.lt_trans hq h.hg) (Nat.ne_of_lt hq))
theorem Ja.wrg (h:Ja w g x n cap S kd tv nw nn wr) (hc:Dc w' g x n cap) (hw:Eo g wr w'):Ja w g x n cap S kd tv nw nn w':=by
 have hg:=h.hg;have hS:=h.hS;exact⟨h.wg.trans hw,hc,h.hg,hS,by rw[hw.block _ (Cm h.bx) AJ];exact h.bx,by rw[hw.block S (Cm h.s) AJ];exact h.s,h.tx.keep (λb _ _ hb hk=>hw.block b (Cm hk) AJ),h.nb⟩
theorem Ja.cur (h:Ja w g x n cap S kd tv nw nn wr) (hc:Dc w' g x n cap) (hw:Wr g wr w'):Ja w g x n cap S kd tv nw nn w':=h.wrg hc hw.wrG
theorem Ja.call (h:Ja w g x n cap S kd tv nw nn wr) (b:Below wr.heap.size wr w'):Ja w g x n cap S kd tv nw nn w':=h.wrg (h.cb.bel b).1 (Eo.of_below b)
theorem Ja.cells (h:Ja w g x n cap S kd tv nw nn wr):wr.cell? ⟨S,0,aS⟩=aR (aO aZ kd)/\wr.cell? ⟨S,1,aS⟩=aR tv/\wr.cell? ⟨S,2,aS⟩=aR (aO aZ nw)/\wr.cell? ⟨S,3,aS⟩=aR (aO aZ nn)/\∀ i,wr.frozen? ⟨S,i,aS⟩=false:=
 ⟨AA h.s _,AA h.s _,AA h.s _,AA h.s _,λi=>An _ _ _ _ _ h.s⟩
theorem Ja.put (h:Ja w g x n cap S kd tv nw nn wr) (i:Nat) (v:aX) {kd':Int} {tv':aX} {nw' nn':Int} (e:(#[aO aZ kd,tv,aO aZ nw,aO aZ nn]:Array aX).setIfInBounds i v=#[aO aZ kd',tv',aO aZ nw',aO aZ nn']) (ht:NH w.heap.size wr tv')
  (hb:(-9223372036854775808<=nw'/\nw'<=9223372036854775807)/\-9223372036854775808<=nn'/\nn'<=9223372036854775807):Ja w g x n cap S kd' tv' nw' nn' (wr.setCell ⟨S,i,aS⟩ v):=by
 have hw:Wr S wr (wr.setCell ⟨S,i,aS⟩ v):=(Wr.refl _ _).setCell _ _;have hg:=h.hg;have hS:=h.hS;refine⟨⟨hw.os.trans h.wg.os,hw.tape.trans h.wg.tape,hw.output.trans h.wg.output,by rw[hw.size];exact h.wg.size,λk hk hne=>(hw.block k AJ).trans (h.wg.block k hk hne)⟩,?_,hg,hS,by rw[hw.block _ AJ];exact h.bx,by rw[<-e];exact Ao _ _ _ _ _ _ h.s,ht.keep (λb cs fr _ hb=>hw.block b (λe'=>?_)),hb⟩
 ·obtain⟨i',hh,p1,p2,p3,p4,p5⟩:=h.cb;exact⟨i',hh,p1,p2,p3,p4,by rw[hw.block g AJ];exact p5⟩
 ·subst e';rw[h.s] at hb;injection hb with hb;injection hb with _ hb _;exact absurd hb AK
theorem Ja.start {w1:aV} (hw:Wr g (w.alloc (aa CQ 28)) w1) (hc:Dc w1 g x n cap) (hg:g<w.heap.size) :
  Ja w g x n cap w1.heap.size 0 (aM aS 0 0) 0 0 ((w1.alloc (aa CQ 28)).setRow w1.heap.size CQ):=by
 have hs:=hw.size;simp at hs;have bx:w1.heap[w.heap.size]?=aR (aa CQ 28 (0,0)):=by rw[hw.block _ AJ];exact AS w _
 have b1:=Co w1 (aa CQ 28);have b2:=Wr.setRow w1.heap.size (w1.alloc (aa CQ 28)) CQ;have b:Below w1.heap.size w1 ((w1.alloc (aa CQ 28)).setRow w1.heap.size CQ):=b1.trans (b2.below Ch);exact⟨((Eo.of_below (Co w _)).trans hw.wrG).trans (Eo.of_below b),(hc.bel b).1,hg,AJ,by rw[b.block _ AJ];exact bx,AB (AS w1 _),.inl rfl,AK⟩
def Yf (w:aV) (g:Nat) (x:Option Addr) (n cap:Nat) (e:Ending) (w':aV):Prop:=
 ∃ kd ta tn tc nw nn,e=aQ (af #[aO aZ kd,aM ta tn tc,aO aZ nw,aO aZ nn])/\NH w.heap.size w' (aM ta tn tc)/\((-9223372036854775808<=nw/\nw<=9223372036854775807)/\-9223372036854775808<=nn/\nn<=9223372036854775807)/\Dc w' g x n cap/\Eo g w w'
theorem Ja.fin {ta:Option Addr} {tn tc:Nat} (h:Ja w g x n cap S kd (aM ta tn tc) nw nn wr) (cs:Array aX):Yf w g x n cap (aQ (af #[aO aZ kd,aM ta tn tc,aO aZ nw,aO aZ nn])) (wr.setRow w.heap.size cs):=by
 have hw:=Wr.setRow w.heap.size wr cs;have hg:=h.hg;refine⟨_,_,_,_,_,_,rfl,h.tx.keep (λb cs fr _ hb=>hw.block b (λe=>?_)),h.nb,?_,⟨hw.os.trans h.wg.os,hw.tape.trans h.wg.tape,hw.output.trans h.wg.output,by rw[hw.size];exact h.wg.size,λk hk hne=>(hw.block k AJ).trans (h.wg.block k hk hne)⟩⟩
 ·subst e;rw[h.bx] at hb;injection hb with hb;injection hb with _ hb _;exact absurd hb AK
 ·obtain⟨i',hh,p1,p2,p3,p4,p5⟩:=h.cb;exact⟨i',hh,p1,p2,p3,p4,by rw[hw.block g AJ];exact p5⟩
end
structure NY (g:Nat) (w w':aV):Prop where
 os:w'.os=w.os
 tape:w'.tape=w.tape
 output:w'.output=w.output
 size:w.heap.size<=w'.heap.size
 block:∀ k,k<w.heap.size->k≠g->(k<g\/∀ cs fr,w.heap[k]?≠aR (aa cs 2 fr)/\w.heap[k]?≠aR (aa cs 70 fr))->w'.heap[k]?=w.heap[k]?
theorem Eo.wrT {g:Nat} {w w':aV} (h:Eo g w w'):NY g w w':=⟨h.os,h.tape,h.output,h.size,λk h1 h2 _=>h.block k h1 h2⟩
theorem NY.trans {g:Nat} {a b c:aV} (h:NY g a b) (k:NY g b c):NY g a c:=
 ⟨k.os.trans h.os,k.tape.trans h.tape,k.output.trans h.output,Ai h.size k.size,λi h1 h2 h3=>by
  have e:=h.block i h1 h2 h3;rw[k.block i (Ap h1 h.size) h2 (by rw[e];exact h3),e]⟩
theorem NY.typed {g k:Nat} {w w':aV} (h:NY g w w') {cs:Array aX} {t:TypeId} {fr:Nat×Nat} (hk:w.heap[k]?=aR (aa cs t fr)) (h1:t≠2) (h2:t≠70) (hg:k≠g):w'.heap[k]?=aR (aa cs t fr):=by
 rw[h.block k (Cm hk) hg (.inr λcs' fr'=>?_)]
 ·exact hk
 ·rw[hk];exact⟨λe=>(by injection e with e;injection e with _ e _;exact h1 e),λe=>(by injection e with e;injection e with _ e _;exact h2 e)⟩
structure SS (w:aV) (g:Nat) (x:Option Addr) (n cap:Nat) (cs:Array aX) (wr:aV):Prop where
 wt:NY g w wr
 cb:Dc wr g x n cap
 hg:g<w.heap.size
 p:wr.heap[w.heap.size]?=aR (aa cs 26 (0,0))
 r:wr.heap[w.heap.size+1]?=aR (aa CJ 26 (0,0))
structure Ls (g:Nat) (w:aV) (vD vU vT:aX) (D U T:List Int) (nT:Nat):Prop where
 d:Iow (g+1) w vD D
 u:Iow (g+1) w vU U
 t:Cj (g+1) w vT T nT
 l:D.length<=300/\U.length<=300/\nT<=300
section
variable {w:aV} {g:Nat} {x:Option Addr} {n cap:Nat} {cs cs':Array aX} {wr w':aV} {vD vU vT:aX} {D U T:List Int} {nT:Nat} {v:aX}
theorem JU {B m:Nat} {e:TypeId} {s:Nat} {vs:List aX} (h:wr.ownsRow B e s v m vs) (hk:∀ q,v.ownBlock=aR q->w'.heap[q]?=wr.heap[q]?):w'.ownsRow B e s v m vs:=by
 refine⟨h.1,?_⟩;rcases h.2 with h'|⟨q,c,cur,h1,h2,h3,h4⟩
 ·exact .inl h'
 ·exact .inr ⟨q,c,cur,h1,h2,by rw[hk q (by rw[h1];rfl)];exact h3,h4⟩
theorem SS.to (h:SS w g x n cap cs wr) (hw:NY g wr w') (hc:Dc w' g x n cap):SS w g x n cap cs w':=by
 have hg:=h.hg;exact⟨h.wt.trans hw,hc,h.hg,hw.typed h.p AK AK AJ,hw.typed h.r AK AK AJ⟩
theorem SS.set (h:SS w g x n cap cs wr) (i:Nat) (v:aX) (e:cs.setIfInBounds i v=cs'):SS w g x n cap cs' (wr.setCell ⟨w.heap.size,i,aS⟩ v):=by
 have hw:Wr w.heap.size wr (wr.setCell ⟨w.heap.size,i,aS⟩ v):=(Wr.refl _ _).setCell _ _;have hg:=h.hg;refine⟨⟨hw.os.trans h.wt.os,hw.tape.trans h.wt.tape,hw.output.trans h.wt.output,by rw[hw.size];exact h.wt.size,λk h1 h2 h3=>(hw.block k AJ).trans (h.wt.block k h1 h2 h3)⟩,?_,hg,by rw[<-e];exact Ao _ _ _ _ _ _ h.p,by rw[hw.block _ AJ];exact h.r⟩;obtain⟨i',hh,p1,p2,p3,p4,p5⟩:=h.cb;exact⟨i',hh,p1,p2,p3,p4,by rw[hw.block g AJ];exact p5⟩
theorem SS.cell (h:SS w g x n cap cs wr) (i:Nat):wr.cell? ⟨w.heap.size,i,aS⟩=cs[i]?/\wr.frozen? ⟨w.heap.size,i,aS⟩=false:=⟨AA h.p _,An _ _ _ _ _ h.p⟩
theorem SS.ct (h:SS w g x n cap cs wr) (ht:Fb w g x n):Fb wr g x n:=ht.wr (λq hq=>h.wt.block q (Nat.lt_trans hq h.hg) (Nat.ne_of_lt hq) (.inl hq))
theorem SS.lt (h:SS w g x n cap cs wr):w.heap.size+1<wr.heap.size:=Cm h.r
theorem Ls.kp (h:Ls g wr vD vU vT D U T nT) (hk:∀ q o,g+1<=q->wr.heap[q]?=aR o->(∃ cs,o=aa cs 2 (0,0)\/o=aa cs 70 (0,0))->w'.heap[q]?=wr.heap[q]?):Ls g w' vD vU vT D U T nT:=
 ⟨Ds h.d λq cs hq hc=>hk q _ hq hc ⟨cs,.inl rfl⟩,Ds h.u λq cs hq hc=>hk q _ hq hc ⟨cs,.inl rfl⟩,Ds h.t λq cs hq hc=>hk q _ hq hc ⟨cs,.inr rfl⟩,h.l⟩
theorem Ls.wrG (h:Ls g wr vD vU vT D U T nT) (hw:Eo g wr w'):Ls g w' vD vU vT D U T nT:=h.kp λq _ hq ho _=>hw.block q (Cm ho) AJ
theorem Ls.set (h:Ls g wr vD vU vT D U T nT) {P:Nat} {t:TypeId} {cs:Array aX} {fr:Nat×Nat} (hp:wr.heap[P]?=aR (aa cs t fr)) (h1:t≠2) (h2:t≠70) (hw:Wr P wr w'):Ls g w' vD vU vT D U T nT:=h.kp λq o hq ho ht=>hw.block q λe=>by
 subst e;rw[hp] at ho;injection ho with ho;subst ho
 obtain⟨_,e|e⟩:=ht<;>injection e with _ e _
 ·exact h1 e
 ·exact h2 e
def Zv (g:Nat) (w:aV) (v:aX):Prop:=
 ∃ aD nD cD aU nU cU k aT nT cT D U T,v=af #[aM aD nD cD,aM aU nU cU,aO aZ k,aM aT nT cT]/\Ls g w (aM aD nD cD) (aM aU nU cU) (aM aT nT cT) D U T nT/\-9223372036854775808<=k/\k<=9223372036854775807
theorem SS.fin {aD aU aT:Option Addr} {nD cD nU cU cT:Nat} {k:Int} (h:SS w g x n cap #[aM aD nD cD,aM aU nU cU,aO aZ k,aM aT nT cT] wr) (hl:Ls g wr (aM aD nD cD) (aM aU nU cU) (aM aT nT cT) D U T nT) (hk:-9223372036854775808<=k/\k<=9223372036854775807) (cs:Array aX) :
  Zv g (wr.setRow (w.heap.size+1) cs) (af #[aM aD nD cD,aM aU nU cU,aO aZ k,aM aT nT cT])/\Dc (wr.setRow (w.heap.size+1) cs) g x n cap/\NY g w (wr.setRow (w.heap.size+1) cs):=by
 have hw:=Wr.setRow (w.heap.size+1) wr cs;have hg:=h.hg;refine⟨⟨_,_,_,_,_,_,_,_,_,_,_,_,_,rfl,hl.set h.r AK AK hw,hk⟩,?_,⟨hw.os.trans h.wt.os,hw.tape.trans h.wt.tape,hw.output.trans h.wt.output,by rw[hw.size];exact h.wt.size,λk h1 h2 h3=>(hw.block k AJ).trans (h.wt.block k h1 h2 h3)⟩⟩;obtain⟨i',hh,p1,p2,p3,p4,p5⟩:=h.cb;exact⟨i',hh,p1,p2,p3,p4,by rw[hw.block g AJ];exact p5⟩
theorem Iow.ty {B:Nat} {xs:List Int} (h:Iow B wr v xs):∀ q,v.ownBlock=aR q->B<=q/\∃ cs fr,wr.heap[q]?=aR (aa cs 2 fr):=λq hq=>by
 rcases h.2 with⟨h',_⟩|⟨b,c,cur,h',hb,hh,_⟩
 ·rw[h'] at hq;simp[Value.ownBlock] at hq
 ·rw[h'] at hq;simp[Value.ownBlock] at hq;subst hq;exact⟨hb,cur,_,hh⟩
theorem LL {xs:List Int} (h:Iow (g+1) wr v xs) (hg:wr.grownBy w' v.ownBlock):NY g wr w':=
 ⟨hg.os,hg.tape,hg.output,hg.size,λk h1 h2 h3=>hg.block k h1 λe=>by
  obtain⟨hB,cs,fr,hk⟩:=h.ty k e.symm;rcases h3 with h3|h3
  ·omega
  ·exact(h3 cs fr).1 hk⟩
theorem NI {xs:List Int} (h:Iow (g+1) wr v xs) (hg:wr.grownBy w' v.ownBlock) (hc:Dc wr g x n cap):Dc w' g x n cap:=by
 obtain⟨i',hh,p1,p2,p3,p4,p5⟩:=hc;exact⟨i',hh,p1,p2,p3,p4,by rw[hg.block g (Cm p5) (λe=>AG (h.ty g e.symm).1)];exact p5⟩
theorem JV (wb:aV) {ops:Array Oper} {rest:List Oper} {o:Oper} {a:Act} {Q:Exit->Act->aV->Prop} (hgd:o.guard=aS) (sx y:Operand)
  (hop:o.op=Op.call { callee:=Callee.builtin Builtin.append,args:=#[sx,y],argTypes:=#[23,23] }) (B:Nat) (v:aX) (xs:List Int) (z:Int) (hs:a.eval sx=v) (hown:Iow B (wb.alloc (aa #[aO aZ z] 2)) v xs)
  (hx:a.eval y=aM (aR ⟨wb.heap.size,0,aS⟩) 1 1) (hm:xs.length<=1000) (hB:B<=wb.heap.size)
  (hK:∀ v' w',Iow B w' v' (xs++[z])->(wb.alloc (aa #[aO aZ z] 2)).grownBy w' v.ownBlock->wpList tP ops Q rest (a.put o.dst v') w') :
  wpList tP ops Q (o::rest) a (wb.alloc (aa #[aO aZ z] 2)):=by
 obtain⟨i0,hi,hz0,hz1,hz2⟩:=BZ Tryz.infoI64q;refine wpList_append_own_at _ hgd sx y 23 hop B 2 i0 (aO aZ 0) 1 8 underlying23 hi hz0 hz1 hz2 rfl AK v xs.length _ hs hown ⟨wb.heap.size,0,aS⟩ 1 1 [aO aZ z] hx rfl (cell_one_new wb _ _) (by simp[Value.oneCell']) (by unfold maxLen;omega) AJ (by simp;omega) ?_;intro v' w' h1 h2 _ _;refine hK v' w' ?_ h2;unfold Iow;rw[BI,Ae];exact h1
end
section
variable {g:Nat} {wr w':aV} {vD vU vT v':aX} {D U T D':List Int} {nT:Nat}
theorem Ls.growD (h:Ls g wr vD vU vT D U T nT) (hg:wr.grownBy w' vD.ownBlock) (ap:Ko vD vU) (hd:Iow (g+1) w' v' D') (hl:D'.length<=300):Ls g w' v' vU vT D' U T nT:=by
 refine⟨hd,JU h.u (λq hq=>hg.block q ?_ (λe=>ap q e.symm hq)),Ds h.t (λq cs _ hc=>hg.block q (Cm hc) (λe=>?_)),hl,h.l.2⟩
 ·obtain⟨_,cs,fr,hk⟩:=h.u.ty q hq;exact Cm hk
 ·obtain⟨_,cs',fr,hk⟩:=h.d.ty q e.symm;rw[hc] at hk;injection hk with hk;injection hk with _ hk _;exact absurd hk AK
theorem Ls.growU (h:Ls g wr vD vU vT D U T nT) (hg:wr.grownBy w' vU.ownBlock) (ap:Ko vD vU) (hd:Iow (g+1) w' v' D') (hl:D'.length<=300):Ls g w' vD v' vT D D' T nT:=by
 refine⟨JU h.d (λq hq=>hg.block q ?_ (λe=>ap q hq e.symm)),hd,Ds h.t (λq cs _ hc=>hg.block q (Cm hc) (λe=>?_)),h.l.1,hl,h.l.2.2⟩
 ·obtain⟨_,cs,fr,hk⟩:=h.d.ty q hq;exact Cm hk
 ·obtain⟨_,cs',fr,hk⟩:=h.u.ty q e.symm;rw[hc] at hk;injection hk with hk;injection hk with _ hk _;exact absurd hk AK
theorem Ls.tap {q c:Nat} (h:Ls g wr vD vU (aM (aR ⟨q,0,aS⟩) nT c) D U T nT) (j:Nat) (z:Int):Ls g (wr.setCell ⟨q,j,aS⟩ (aO aZ z)) vD vU (aM (aR ⟨q,0,aS⟩) nT c) D U (T.set j z) nT:=by
 have hw:Wr q wr (wr.setCell ⟨q,j,aS⟩ (aO aZ z)):=(Wr.refl _ _).setCell _ _;have hq:∃ cs,wr.heap[q]?=aR (aa cs 70 (0,0)):=by
  rcases h.t.2 with⟨h',_⟩|⟨b,c',cur,h',hb,hh,_⟩
  {cases h'};{cases h';exact⟨_,hh⟩}
 obtain⟨cs,hq⟩:=hq;have kp:∀(b:Nat) (cs':Array aX),wr.heap[b]?=aR (aa cs' 2 (0,0))->(wr.setCell ⟨q,j,aS⟩ (aO aZ z)).heap[b]?=wr.heap[b]?:=λb cs' hb=>hw.block b λe=>by
  subst e;rw[hq] at hb;injection hb with hb;injection hb with _ hb _;exact absurd hb AK
 refine⟨Ds h.d λb cs' _ hb=>kp b cs' hb,Ds h.u λb cs' _ hb=>kp b cs' hb,?_,h.l⟩;have:=(h.t.stored j (aO aZ z)).1;unfold Cj;rw[List.map_set];exact this
theorem Ls.tapsome {a:Option Addr} {c:Nat} (h:Ls g wr vD vU (aM a nT c) D U T nT) (hn:0<nT):∃ q,a=aR ⟨q,0,aS⟩:=by
 rcases h.t.2 with⟨_,h'⟩|⟨b,c',cur,h',_⟩
 ·omega
 ·cases h';exact⟨_,rfl⟩
theorem Ls.tapw {q c:Nat} (h:Ls g wr vD vU (aM (aR ⟨q,0,aS⟩) nT c) D U T nT):(∀ j,j<nT*2->wr.cell? ⟨q,j,aS⟩=aR (aO aZ (T.getD j 0)))/\(∀ j,wr.frozen? ⟨q,j,aS⟩=false)/\(∀ j z,NY g wr (wr.setCell ⟨q,j,aS⟩ z))/\g<q/\nT<=c:=by
 rcases h.t.2 with⟨h',_⟩|⟨b,c',cur,h',hb,hh,hc,_⟩
 ·cases h'
 ·cases h';refine⟨λj hj=>?_,λj=>h.t.frozenAt j,λj z=>?_,hb,hc⟩
  ·have hl:j<T.length:=by have:=h.t.1;simp at this;omega
   rw[h.t.cellAt j hj];simp[hl]
  ·have hw:Wr q wr (wr.setCell ⟨q,j,aS⟩ z):=(Wr.refl _ _).setCell _ _;exact⟨hw.os,hw.tape,hw.output,by rw[hw.size];exact Aa _,λk h1 h2 h3=>hw.block k λe=>by
    subst e;rcases h3 with h3|h3
    ·omega
    ·exact(h3 _ _).2 hh⟩
end
theorem JW (g:Nat) (x:Option Addr) (n cap:Nat) (aD aU aT:Option Addr) (nD cD nU cU nT cT:Nat) (D U T:List Int) (k:Int) (w:aV) (hc:Dc w g x n cap) (ht:Fb w g x n) (hl:Ls g w (aM aD nD cD) (aM aU nU cU) (aM aT nT cT) D U T nT) (hd:D.length<=280/\U.length<=280) (ap:Ko (aM aD nD cD) (aM aU nU cU)) (hk:-9223372036854775808<=k/\k<=9223372036854775807) :
  Calls tP 20 #[aY (aR ⟨g,0,aS⟩),af #[aM aD nD cD,aM aU nU cU,aO aZ k,aM aT nT cT]] w λe w'=>∃ v,e=aQ v/\Zv g w' v/\Dc w' g x n cap/\NY g w w':=by
 have HSZ:AO ((tP.info? 26).map (·.size)=aR 4):=by show _=_;kernel_rfl
 have HAP:=CY ap;have HLD:=CY hd;have HK:=CY hk;have b2:Below w.heap.size w ((w.alloc (aa #[aM aD nD cD,aM aU nU cU,aO aZ k,aM aT nT cT] 26)).alloc (aa CJ 26)):=(Cf.alloc Ch _).alloc AL _;have HS2:=CY (show SS w g x n cap #[aM aD nD cD,aM aU nU cU,aO aZ k,aM aT nT cT] _ from⟨(Eo.of_below b2).wrT,(hc.bel b2).1,(hc.bel b2).2,heap_alloc2_old _ _ _,heap_alloc2_new _ _ _⟩);have HL2:=CY (hl.wrG (Eo.of_below b2));have HB:=CY (Cl g x n cap 7 _ HS2.o.cb (HS2.o.ct ht) AK AK);go_enter func20,ntmps20;go_wp2_with fail;generalize ((w.alloc (aa #[aM aD nD cD,aM aU nU cU,aO aZ k,aM aT nT cT] 26)).alloc (aa CJ 26))=w2 at *;refine HB.o.mono ?_;rintro e w3 ⟨q,rfl,q0,q1,hc3,hw3⟩;have HS3:=CY (HS2.o.to hw3.wrG.wrT hc3);have HL3:=CY (HL2.o.wrG hw3.wrG);have s0:=(HS3.o.cell 0).1;have s1:=(HS3.o.cell 1).1;have s2:=(HS3.o.cell 2).1;have s3:=(HS3.o.cell 3).1;have f0:=(HS3.o.cell 0).2;have f1:=(HS3.o.cell 1).2;have f2:=(HS3.o.cell 2).2;simp at s0 s1 s2 s3;obtain rfl|rfl|rfl|rfl|rfl|rfl|rfl:q=0\/q=1\/q=2\/q=3\/q=4\/q=5\/q=6:=AJ
 ·have HF:=CY (HS3.o.set 2 (aO aZ (wrap64 (k+1))) (cs':=#[aM aD nD cD,aM aU nU cU,aO aZ (wrap64 (k+1)),aM aT nT cT]) rfl);have HLF:=CY (HL3.o.set HS3.o.p AK AK ((Wr.refl _ _).setCell 2 (aO aZ (wrap64 (k+1)))))
  go_upto_region 20 with fail
  generalize w3.setCell ⟨w.heap.size,2,aS⟩ (aO aZ (wrap64 (k+1)))=w9 at *;go_wp2_with (first
   |(refine AZ rfl 26 (ah 3) rfl w.heap.size rfl 26 _ (0,0) _ HF.o.p underlying26 rfl HSZ.o ?_)
   |(refine AE 26 (ah 4) (ah 84) (w.heap.size+1) #[aM aD nD cD,aM aU nU cU,aO aZ (wrap64 (k+1)),aM aT nT cT] 26 HF.o.r HSZ.o rfl (by simp[Value.oneCell']) ?_)
   |fail)
  (try simp only[Exit.inBlock,Exit.then])
  exact AU (AY rfl _ _ (w.heap.size+1) 26 _ (0,0) _ rfl (AB HF.o.r) underlying26 rfl HSZ.o) rfl ⟨_,rfl,HF.o.fin HLF.o (JD _) _⟩
 ·have b4:=Co w3 (aa #[aO aZ 3] 2);have HS4:=CY (HS3.o.to (Eo.of_below b4).wrT (HS3.o.cb.bel b4).1);have HL4:=CY (HL3.o.wrG (Eo.of_below b4));have HZ4:=CY (show g+1<=w3.heap.size by have:=HS3.o.lt;have:=HS3.o.hg;omega);go_wp2_with (first
   |(at_builtin;refine JV w3 rfl _ _ rfl (g+1) (aM aD nD cD) D 3 rfl HL4.o.d rfl ?c1 HZ4.o ?_)
   |fail)
  case c1=>have:=HLD.o;omega
  intro v5 w5 h5 hg5;have HS5:=CY (HS4.o.to (LL HL4.o.d hg5) (NI HL4.o.d hg5 HS4.o.cb));have HL5:=CY (HL4.o.growD hg5 HAP.o h5 (by have:=HLD.o;simp;omega));obtain⟨a5,n5,c5,rfl⟩:=h5.form;have t0:=(HS5.o.cell 0).1;have g0:=(HS5.o.cell 0).2;simp at t0;have HF:=CY (HS5.o.set 0 (aM a5 n5 c5) (cs':=#[aM a5 n5 c5,aM aU nU cU,aO aZ k,aM aT nT cT]) rfl);have HLF:=CY (HL5.o.set HS5.o.p AK AK ((Wr.refl _ _).setCell 0 (aM a5 n5 c5)))
  go_upto_region 20 with fail
  generalize w5.setCell ⟨w.heap.size,0,aS⟩ (aM a5 n5 c5)=w9 at *;go_wp2_with (first
   |(refine AZ rfl 26 (ah 3) rfl w.heap.size rfl 26 _ (0,0) _ HF.o.p underlying26 rfl HSZ.o ?_)
   |(refine AE 26 (ah 4) (ah 84) (w.heap.size+1) #[aM a5 n5 c5,aM aU nU cU,aO aZ k,aM aT nT cT] 26 HF.o.r HSZ.o rfl (by simp[Value.oneCell']) ?_)
   |fail)
  (try simp only[Exit.inBlock,Exit.then])
  exact AU (AY rfl _ _ (w.heap.size+1) 26 _ (0,0) _ rfl (AB HF.o.r) underlying26 rfl HSZ.o) rfl ⟨_,rfl,HF.o.fin HLF.o HK.o _⟩
 ·have b4:=Co w3 (aa #[aO aZ 256] 2);have HS4:=CY (HS3.o.to (Eo.of_below b4).wrT (HS3.o.cb.bel b4).1);have HL4:=CY (HL3.o.wrG (Eo.of_below b4));have HZ4:=CY (show g+1<=w3.heap.size by have:=HS3.o.lt;have:=HS3.o.hg;omega);go_wp2_with (first
   |(at_builtin;refine JV w3 rfl _ _ rfl (g+1) (aM aU nU cU) U 256 rfl HL4.o.u rfl ?c2 HZ4.o ?_)
   |fail)
  case c2=>have:=HLD.o;omega
  intro v5 w5 h5 hg5;have HS5:=CY (HS4.o.to (LL HL4.o.u hg5) (NI HL4.o.u hg5 HS4.o.cb));have HL5:=CY (HL4.o.growU hg5 HAP.o h5 (by have:=HLD.o;simp;omega));obtain⟨a5,n5,c5,rfl⟩:=h5.form;have t0:=(HS5.o.cell 1).1;have g0:=(HS5.o.cell 1).2;simp at t0;have HS6:=CY (HS5.o.set 1 (aM a5 n5 c5) (cs':=#[aM aD nD cD,aM a5 n5 c5,aO aZ k,aM aT nT cT]) rfl);have HL6:=CY (HL5.o.set HS5.o.p AK AK ((Wr.refl _ _).setCell 1 (aM a5 n5 c5)))
  go_upto_region 8 with fail
  generalize w5.setCell ⟨w.heap.size,1,aS⟩ (aM a5 n5 c5)=w6 at *;have t0:=(HS6.o.cell 2).1;have g0:=(HS6.o.cell 2).2;simp at t0;have HF:=CY (HS6.o.set 2 (aO aZ (wrap64 (k+1))) (cs':=#[aM aD nD cD,aM a5 n5 c5,aO aZ (wrap64 (k+1)),aM aT nT cT]) rfl);have HLF:=CY (HL6.o.set HS6.o.p AK AK ((Wr.refl _ _).setCell 2 (aO aZ (wrap64 (k+1)))))
  go_upto_region 20 with fail
  generalize w6.setCell ⟨w.heap.size,2,aS⟩ (aO aZ (wrap64 (k+1)))=w9 at *;go_wp2_with (first
   |(refine AZ rfl 26 (ah 3) rfl w.heap.size rfl 26 _ (0,0) _ HF.o.p underlying26 rfl HSZ.o ?_)
   |(refine AE 26 (ah 4) (ah 84) (w.heap.size+1) #[aM aD nD cD,aM a5 n5 c5,aO aZ (wrap64 (k+1)),aM aT nT cT] 26 HF.o.r HSZ.o rfl (by simp[Value.oneCell']) ?_)
   |fail)
  (try simp only[Exit.inBlock,Exit.then])
  exact AU (AY rfl _ _ (w.heap.size+1) 26 _ (0,0) _ rfl (AB HF.o.r) underlying26 rfl HSZ.o) rfl ⟨_,rfl,HF.o.fin HLF.o (JD _) _⟩
 ·by_cases hT:0<nT
  ·have hT':0<(nT:Int):=AJ
   obtain⟨qt,rfl⟩:=HL3.o.tapsome hT;obtain⟨tc,tf,tw,tg,tn⟩:=HL3.o.tapw;have t0:=tc 1 AJ;have g0:=tf 1;have HF:=CY (HS3.o.to (tw 1 (aO aZ 4294967296)) (HS3.o.cb.keepE (Bj _ _ _ _ (by show g≠qt;omega))));have HLF:=CY (HL3.o.tap 1 4294967296);generalize T.getD 1 0=z0 at *
   go_upto_region 20 with fail
   generalize w3.setCell ⟨qt,1,aS⟩ (aO aZ 4294967296)=w9 at *;go_wp2_with (first
    |(refine AZ rfl 26 (ah 3) rfl w.heap.size rfl 26 _ (0,0) _ HF.o.p underlying26 rfl HSZ.o ?_)
    |(refine AE 26 (ah 4) (ah 84) (w.heap.size+1) #[aM aD nD cD,aM aU nU cU,aO aZ k,aM (aR ⟨qt,0,aS⟩) nT cT] 26 HF.o.r HSZ.o rfl (by simp[Value.oneCell']) ?_)
    |fail)
   (try simp only[Exit.inBlock,Exit.then])
   exact AU (AY rfl _ _ (w.heap.size+1) 26 _ (0,0) _ rfl (AB HF.o.r) underlying26 rfl HSZ.o) rfl ⟨_,rfl,HF.o.fin HLF.o HK.o _⟩
  ·have hT':¬ (0<(nT:Int)):=AJ
   go_upto_region 20 with fail
   go_wp2_with (first
    |(refine AZ rfl 26 (ah 3) rfl w.heap.size rfl 26 _ (0,0) _ HS3.o.p underlying26 rfl HSZ.o ?_)
    |(refine AE 26 (ah 4) (ah 84) (w.heap.size+1) #[aM aD nD cD,aM aU nU cU,aO aZ k,aM aT nT cT] 26 HS3.o.r HSZ.o rfl (by simp[Value.oneCell']) ?_)
    |fail)
   (try simp only[Exit.inBlock,Exit.then])
   exact AU (AY rfl _ _ (w.heap.size+1) 26 _ (0,0) _ rfl (AB HS3.o.r) underlying26 rfl HSZ.o) rfl ⟨_,rfl,HS3.o.fin HL3.o HK.o _⟩
 ·by_cases hT:1<nT
  ·have hT':1<(nT:Int):=AJ
   obtain⟨qt,rfl⟩:=HL3.o.tapsome AJ;obtain⟨tc,tf,tw,tg,tn⟩:=HL3.o.tapw;have t0:=tc 0 AJ;have t1:=tc 1 AJ;have t2:=tc 2 AJ;have t3:=tc 3 AJ;have g0:=tf 0;have g1:=tf 1;generalize T.getD 2 0=z2 at *;generalize T.getD 3 0=z3 at *;generalize T.getD 0 0=z0 at *;generalize T.getD 1 0=z1 at *;have HLA:=CY (HL3.o.tap 0 z2);have HFA:=CY (HS3.o.to (tw 0 (aO aZ z2)) (HS3.o.cb.keepE (Bj _ _ _ _ (by show g≠qt;omega))));have HLB:=CY (HLA.o.tap 1 z3);have HFB:=CY (HFA.o.to (HLA.o.tapw.2.2.1 1 (aO aZ z3)) (HFA.o.cb.keepE (Bj _ _ _ _ (by show g≠qt;omega))));clear tc tf tw HLA HFA HS3 HL3
   go_upto_region 12 with fail
   go_region
   clear t0 t1 t2 t3 g0 g1 s0 s1 s2 s3 f0 f1 f2;have HF:=CY (HFB.o.to (Eo.of_below (Cf.drew)).wrT (HFB.o.cb.bel (Cf.drew)).1);have HLF:=CY (HLB.o.wrG (Eo.of_below (Cf.drew)));clear HFB HLB;generalize ((w3.setCell ⟨qt,0,aS⟩ (aO aZ z2)).setCell ⟨qt,1,aS⟩ (aO aZ z3)).drew=w9 at *
   go_upto_region 20 with fail
   go_wp2_with (first
    |(refine AZ rfl 26 (ah 3) rfl w.heap.size rfl 26 _ (0,0) _ HF.o.p underlying26 rfl HSZ.o ?_)
    |(refine AE 26 (ah 4) (ah 84) (w.heap.size+1) #[aM aD nD cD,aM aU nU cU,aO aZ k,aM (aR ⟨qt,0,aS⟩) nT cT] 26 HF.o.r HSZ.o rfl (by simp[Value.oneCell']) ?_)
    |fail)
   (try simp only[Exit.inBlock,Exit.then])
   exact AU (AY rfl _ _ (w.heap.size+1) 26 _ (0,0) _ rfl (AB HF.o.r) underlying26 rfl HSZ.o) rfl ⟨_,rfl,HF.o.fin HLF.o HK.o _⟩
  ·have hT':¬ (1<(nT:Int)):=AJ
   go_upto_region 20 with fail
   go_wp2_with (first
    |(refine AZ rfl 26 (ah 3) rfl w.heap.size rfl 26 _ (0,0) _ HS3.o.p underlying26 rfl HSZ.o ?_)
    |(refine AE 26 (ah 4) (ah 84) (w.heap.size+1) #[aM aD nD cD,aM aU nU cU,aO aZ k,aM aT nT cT] 26 HS3.o.r HSZ.o rfl (by simp[Value.oneCell']) ?_)
    |fail)
   (try simp only[Exit.inBlock,Exit.then])
   exact AU (AY rfl _ _ (w.heap.size+1) 26 _ (0,0) _ rfl (AB HS3.o.r) underlying26 rfl HSZ.o) rfl ⟨_,rfl,HS3.o.fin HL3.o HK.o _⟩
 ·go_wp2_with fail
  go_loopw [6] (λi wz=>∃(j:Nat) (vd:aX) (D':List Int),j<=17/\i=aO aZ j/\SS w g x n cap #[vd,aM aU nU cU,aO aZ k,aM aT nT cT] wz/\Ls g wz vd (aM aU nU cU) (aM aT nT cT) D' U T nT) (λi _=>17-(intOf i).toNat)
  case atStart=>exact⟨0,_,D,AJ,rfl,HS3.o,HL3.o⟩
  case round=>
   obtain⟨j,vd,D',hj,rfl,hs,hl⟩:=hrel;obtain⟨ad,nd,cd,rfl⟩:=hl.d.form;obtain⟨sd,ed,_⟩:=hl.d.sat;have HS:=CY hs;have HL:=CY hl;have t0:=(hs.cell 0).1;simp at t0;have C:=Hc ad nd cd D' (2*j) wr ed (AG hl.l.1) sd.at_;rw[show((2*j:Nat):Int)=2*(j:Int) by omega] at C;have HC:=CY C;have hZ:=CY (show g+1<=wr.heap.size by have:=hs.lt;have:=hs.hg;omega);by_cases hlt:j<17
   ·have hlt':(j:Int)<17:=AJ
    go_wp2_with fail;refine HC.o.mono ?_;rintro e w5 ⟨v5,rfl,h5,b5⟩;have HS5:=CY (HS.o.to (Eo.of_below b5).wrT (HS.o.cb.bel b5).1);have HL5:=CY (show Ls g w5 v5 _ _ _ U T nT from⟨Iow.mono h5 hZ.o,(HL.o.wrG (Eo.of_below b5)).u,(HL.o.wrG (Eo.of_below b5)).t,Ai (Io _ _) AK,HL.o.l.2⟩);obtain⟨a5,n5,c5,rfl⟩:=h5.form;have t0:=(HS5.o.cell 0).1;have g0:=(HS5.o.cell 0).2;simp at t0;have HF:=CY (HS5.o.set 0 (aM a5 n5 c5) (cs':=#[aM a5 n5 c5,aM aU nU cU,aO aZ k,aM aT nT cT]) rfl);have HLF:=CY (HL5.o.set HS5.o.p AK AK ((Wr.refl _ _).setCell 0 (aM a5 n5 c5)));go_wp2;go_roundw
    case rel=>exact⟨j+1,_,_,AJ,by go_num,HF.o,HLF.o⟩
    case measure=>simp[intOf];omega
   ·have hlt':¬ ((j:Int)<17):=AJ
    go_upto_region 20 with fail
    go_wp2_with (first
     |(refine AZ rfl 26 (ah 3) rfl w.heap.size rfl 26 _ (0,0) _ HS.o.p underlying26 rfl HSZ.o ?_)
     |(refine AE 26 (ah 4) (ah 84) (w.heap.size+1) #[aM ad nd cd,aM aU nU cU,aO aZ k,aM aT nT cT] 26 HS.o.r HSZ.o rfl (by simp[Value.oneCell']) ?_)
     |fail)
    (try simp only[Exit.inBlock,Exit.then])
    exact AU (AY rfl _ _ (w.heap.size+1) 26 _ (0,0) _ rfl (AB HS.o.r) underlying26 rfl HSZ.o) rfl ⟨_,rfl,HS.o.fin HL.o HK.o _⟩
 ·by_cases hT:0<nT
  ·have hT':0<(nT:Int):=AJ
   obtain⟨qt,rfl⟩:=HL3.o.tapsome hT;obtain⟨tc,tf,tw,tg,tn⟩:=HL3.o.tapw;have t0:=tc 0 AJ;have g0:=tf 0;have HF:=CY (HS3.o.to (tw 0 (aO aZ 99)) (HS3.o.cb.keepE (Bj _ _ _ _ (by show g≠qt;omega))));have HLF:=CY (HL3.o.tap 0 99);generalize T.getD 0 0=z0 at *
   go_upto_region 20 with fail
   generalize w3.setCell ⟨qt,0,aS⟩ (aO aZ 99)=w9 at *;go_wp2_with (first
    |(refine AZ rfl 26 (ah 3) rfl w.heap.size rfl 26 _ (0,0) _ HF.o.p underlying26 rfl HSZ.o ?_)
    |(refine AE 26 (ah 4) (ah 84) (w.heap.size+1) #[aM aD nD cD,aM aU nU cU,aO aZ k,aM (aR ⟨qt,0,aS⟩) nT cT] 26 HF.o.r HSZ.o rfl (by simp[Value.oneCell']) ?_)
    |fail)
   (try simp only[Exit.inBlock,Exit.then])
   exact AU (AY rfl _ _ (w.heap.size+1) 26 _ (0,0) _ rfl (AB HF.o.r) underlying26 rfl HSZ.o) rfl ⟨_,rfl,HF.o.fin HLF.o HK.o _⟩
  ·have hT':¬ (0<(nT:Int)):=AJ
   go_upto_region 20 with fail
   go_wp2_with (first
    |(refine AZ rfl 26 (ah 3) rfl w.heap.size rfl 26 _ (0,0) _ HS3.o.p underlying26 rfl HSZ.o ?_)
    |(refine AE 26 (ah 4) (ah 84) (w.heap.size+1) #[aM aD nD cD,aM aU nU cU,aO aZ k,aM aT nT cT] 26 HS3.o.r HSZ.o rfl (by simp[Value.oneCell']) ?_)
    |fail)
   (try simp only[Exit.inBlock,Exit.then])
   exact AU (AY rfl _ _ (w.heap.size+1) 26 _ (0,0) _ rfl (AB HS3.o.r) underlying26 rfl HSZ.o) rfl ⟨_,rfl,HS3.o.fin HL3.o HK.o _⟩
theorem Gj.wrT {g:Nat} {w w':aV} {u:aX} {n:Nat} (h:Gj (g+1) w u n) (b:NY g w w'):Gj (g+1) w' u n:=h.keep λk _ _ hB hk=>by
 rw[b.typed hk AK AK AJ,hk]
theorem NH.wrT {g:Nat} {w w':aV} {u:aX} (h:NH (g+1) w u) (b:NY g w w'):NH (g+1) w' u:=h.keep λk _ _ hB hk=>by
 rw[b.typed hk AK AK AJ,hk]
theorem NH.mono {B B':Nat} {w:aV} {u:aX} (h:NH B w u) (hB:B'<=B):NH B' w u:=by
 rcases h with h|⟨k,h1,h2⟩
 ·exact .inl h
 ·exact .inr ⟨k,h1,h2.mono hB⟩
def TZ:Array aX:=CQ
structure DR (tO:TypeId) (zO:Array aX) (w:aV) (x:Option Addr) (n cap S O:Nat) (cs co:Array aX) (wr:aV):Prop where
 bel:Below w.heap.size w wr
 cb:Dc wr (w.heap.size+2) x n cap
 ct:Fb wr (w.heap.size+2) x n
 r1:wr.heap[w.heap.size]?=aR (aa CJ 26 (0,0))
 r3:wr.heap[w.heap.size+1]?=aR (aa zO tO (0,0))
 s:wr.heap[S]?=aR (aa cs 26 (0,0))
 o:wr.heap[O]?=aR (aa co tO (0,0))
 hS:S≠w.heap.size+2/\w.heap.size<=S
 hO:O≠w.heap.size+2/\w.heap.size<=O
 ht:tO≠2/\tO≠70
structure DX (g:Nat) (aD:Option Addr) (nD cD:Nat) (aU:Option Addr) (nU cU:Nat) (k:Int) (aT:Option Addr) (nT cT:Nat) (ak:Option Addr) (nk ck:Nat) (ta:Option Addr) (tn tc:Nat) (wr:aV):Prop where
 ls:∃ D U T,Ls g wr (aM aD nD cD) (aM aU nU cU) (aM aT nT cT) D U T nT
 ke:Gj (g+1) wr (aM ak nk ck) nk
 tk:NH (g+1) wr (aM ta tn tc)
 nb:-9223372036854775808<=k/\k<=9223372036854775807
section
variable {tO:TypeId} {zO:Array aX} {w:aV} {x:Option Addr} {n cap S O:Nat} {cs co cs' co':Array aX} {wr w':aV} {g:Nat} {aD:Option Addr} {nD cD:Nat} {aU:Option Addr} {nU cU:Nat} {k:Int} {aT:Option Addr} {nT cT:Nat} {ak:Option Addr} {nk ck:Nat} {ta:Option Addr} {tn tc:Nat}
theorem DR.to (h:DR tO zO w x n cap S O cs co wr) (hw:NY (w.heap.size+2) wr w') (hc:Dc w' (w.heap.size+2) x n cap):DR tO zO w x n cap S O cs co w':=by
 have hS:=h.hS;have hO:=h.hO;have hl:=Cm h.r3;have hc':=(h.cb.bel Cf).2;exact⟨⟨hw.os.trans h.bel.os,hw.tape.trans h.bel.tape,hw.output.trans h.bel.output,Ai h.bel.size hw.size,λk hk=>(hw.block k AJ AJ (.inl AJ)).trans (h.bel.block k hk)⟩,hc,h.ct.wr (λq hq=>hw.block q AJ AJ (.inl hq)),hw.typed h.r1 AK AK AJ,hw.typed h.r3 h.ht.1 h.ht.2 AJ,hw.typed h.s AK AK AJ,hw.typed h.o h.ht.1 h.ht.2 AJ,hS,hO,h.ht⟩
theorem DR.cur (h:DR tO zO w x n cap S O cs co wr) (hc:Dc w' (w.heap.size+2) x n cap) (hw:Wr (w.heap.size+2) wr w'):DR tO zO w x n cap S O cs co w':=h.to hw.wrG.wrT hc
theorem Dc.wr_ {q:Nat} (h:Dc wr g x n cap) (hw:Wr q wr w') (hq:g≠q):Dc w' g x n cap:=by
 obtain⟨i',hh,p1,p2,p3,p4,p5⟩:=h;exact⟨i',hh,p1,p2,p3,p4,by rw[hw.block g hq];exact p5⟩
theorem DR.putO (h:DR tO zO w x n cap S O cs co wr) (hne:w.heap.size+1<O/\O≠S) (hw:Wr O wr w') (e:w'.heap[O]?=aR (aa co' tO (0,0))):DR tO zO w x n cap S O cs co' w':=by
 have hS:=h.hS;have hO:=h.hO;exact⟨h.bel.trans (hw.below AJ),h.cb.wr_ hw AJ,h.ct.wr (λq hq=>hw.block q AJ),by rw[hw.block _ AJ];exact h.r1,by rw[hw.block _ AJ];exact h.r3,by rw[hw.block _ AJ];exact h.s,e,hS,hO,h.ht⟩
theorem DR.putS (h:DR tO zO w x n cap S O cs co wr) (hne:w.heap.size+1<S/\O≠S) (hw:Wr S wr w') (e:w'.heap[S]?=aR (aa cs' 26 (0,0))):DR tO zO w x n cap S O cs' co w':=by
 have hS:=h.hS;have hO:=h.hO;exact⟨h.bel.trans (hw.below AJ),h.cb.wr_ hw AJ,h.ct.wr (λq hq=>hw.block q AJ),by rw[hw.block _ AJ];exact h.r1,by rw[hw.block _ AJ];exact h.r3,e,by rw[hw.block _ AJ];exact h.o,hS,hO,h.ht⟩
theorem DR.swS {S':Nat} (h:DR tO zO w x n cap S O cs co wr) (hs:wr.heap[S']?=aR (aa cs' 26 (0,0))) (h':S'≠w.heap.size+2/\w.heap.size<=S'):DR tO zO w x n cap S' O cs' co wr:=⟨h.bel,h.cb,h.ct,h.r1,h.r3,hs,h.o,h',h.hO,h.ht⟩
theorem DR.swO {O':Nat} (h:DR tO zO w x n cap S O cs co wr) (ho:wr.heap[O']?=aR (aa co' tO (0,0))) (h':O'≠w.heap.size+2/\w.heap.size<=O'):DR tO zO w x n cap S O' cs co' wr:=⟨h.bel,h.cb,h.ct,h.r1,h.r3,h.s,ho,h.hS,h',h.ht⟩
theorem DR.lt (h:DR tO zO w x n cap S O cs co wr):w.heap.size+2<wr.heap.size:=(h.cb.bel Cf).2
theorem Fb.of_at {w w1:aV} {g:Nat} {x:Option Addr} {n:Nat} {zs:List Int} (hl:zs.length=n) (hn:n<=1048576) (hz:Cb zs) (ha:At aP w x zs) (B:Below w.heap.size w w1) (hg:w.heap.size<=g):Fb w1 g x n:=⟨hn,zs,hl,hz,by
 rcases ha with h|⟨b,off,e,hb,hc⟩
 ·exact .inl h
 ·exact .inr ⟨b,off,e,AJ,λi hi=>by rw[B.cell (p:=⟨b,off+i,aS⟩) hb];exact hc i hi⟩⟩
theorem DX.wrG (h:DX g aD nD cD aU nU cU k aT nT cT ak nk ck ta tn tc wr) (hw:Eo g wr w'):DX g aD nD cD aU nU cU k aT nT cT ak nk ck ta tn tc w':=by
 obtain⟨D,U,T,hl⟩:=h.ls;exact⟨⟨D,U,T,hl.wrG hw⟩,h.ke.wrT hw.wrT,h.tk.wrT hw.wrT,h.nb⟩
theorem DX.typ (h:DX g aD nD cD aU nU cU k aT nT cT ak nk ck ta tn tc wr) {P:Nat} {t:TypeId} {cs:Array aX} {fr:Nat×Nat} (hp:wr.heap[P]?=aR (aa cs t fr)) (h1:t≠2) (h2:t≠70) (h3:t≠5) (hw:Wr P wr w'):DX g aD nD cD aU nU cU k aT nT cT ak nk ck ta tn tc w':=by
 obtain⟨D,U,T,hl⟩:=h.ls;have kp:∀(b:Nat) (cs':Array aX) (fr':Nat×Nat),g+1<=b->wr.heap[b]?=aR (aa cs' 5 fr')->w'.heap[b]?=wr.heap[b]?:=λb cs' fr' _ hb=>hw.block b λe=>by
  subst e;rw[hp] at hb;injection hb with hb;injection hb with _ hb _;exact h3 hb
 exact⟨⟨D,U,T,hl.set hp h1 h2 hw⟩,h.ke.keep kp,h.tk.keep kp,h.nb⟩
def DY (g:Nat) (aD:Option Addr) (nD cD:Nat) (aU:Option Addr) (nU cU:Nat) (k:Int) (aT:Option Addr) (nT cT:Nat) (wr:aV):Prop:=
 (∃ D U T,Ls g wr (aM aD nD cD) (aM aU nU cU) (aM aT nT cT) D U T nT)/\-9223372036854775808<=k/\k<=9223372036854775807
theorem DY.wrG (h:DY g aD nD cD aU nU cU k aT nT cT wr) (hw:Eo g wr w'):DY g aD nD cD aU nU cU k aT nT cT w':=by
 obtain⟨⟨D,U,T,hl⟩,hk⟩:=h;exact⟨⟨D,U,T,hl.wrG hw⟩,hk⟩
theorem DY.typ (h:DY g aD nD cD aU nU cU k aT nT cT wr) {P:Nat} {t:TypeId} {cs:Array aX} {fr:Nat×Nat} (hp:wr.heap[P]?=aR (aa cs t fr)) (h1:t≠2) (h2:t≠70) (hw:Wr P wr w'):DY g aD nD cD aU nU cU k aT nT cT w':=by
 obtain⟨⟨D,U,T,hl⟩,hk⟩:=h;exact⟨⟨D,U,T,hl.set hp h1 h2 hw⟩,hk⟩
theorem DX.bnd (h:DX g aD nD cD aU nU cU k aT nT cT ak nk ck ta tn tc wr):nD<=300/\nU<=300/\nT<=300:=by
 obtain⟨D,U,T,hl⟩:=h.ls;obtain⟨_,e1,_⟩:=hl.d.sat;obtain⟨_,e2,_⟩:=hl.u.sat;have:=hl.l;omega
theorem Iow.hd {B:Nat} {a:Option Addr} {m c:Nat} {xs:List Int} (h:Iow B wr (aM a m c) xs) (hm:0<m):∃ q z,a=aR ⟨q,0,aS⟩/\wr.cell? ⟨q,0,aS⟩=aR (aO aZ z):=by
 have hl:=h.sat.2.1;rcases h.2 with⟨h',_⟩|⟨q,c',cur,h',_⟩
 ·cases h';omega
 ·cases h';refine⟨q,xs.getD 0 0,rfl,?_⟩;have hx:0<xs.length:=AJ
  rw[World.ownsRow.cellAt h 0 AJ];simp[hx]
structure ZR (tO:TypeId) (zO:Array aX) (w:aV) (S O:Nat) (cs co:Array aX) (f1 f3:Bool) (wr:aV):Prop where
 bel:Below w.heap.size w wr
 s:wr.heap[S]?=aR (aa cs 26 (0,0))
 o:wr.heap[O]?=aR (aa co tO (0,0))
 r1:wr.heap[w.heap.size]?=aR (aa (if f1=true then cs else CJ) 26 (0,0))
 r3:wr.heap[w.heap.size+1]?=aR (aa (if f3=true then co else zO) tO (0,0))
theorem ZR.one {f3:Bool} (h:ZR tO zO w S O cs co false f3 wr) (hS:w.heap.size+1<S/\w.heap.size+1<O):ZR tO zO w S O cs co true f3 (wr.setRow w.heap.size cs):=by
 have hw:=Wr.setRow w.heap.size wr cs;exact⟨h.bel.trans (hw.below Ch),by rw[hw.block _ AJ];exact h.s,by rw[hw.block _ AJ];exact h.o,AB h.r1,by rw[hw.block _ AJ];exact h.r3⟩
theorem ZR.two {f1:Bool} (h:ZR tO zO w S O cs co f1 false wr) (hS:w.heap.size+1<S/\w.heap.size+1<O):ZR tO zO w S O cs co f1 true (wr.setRow (w.heap.size+1) co):=by
 have hw:=Wr.setRow (w.heap.size+1) wr co;exact⟨h.bel.trans (hw.below AJ),by rw[hw.block _ AJ];exact h.s,by rw[hw.block _ AJ];exact h.o,by rw[hw.block _ AJ];exact h.r1,AB h.r3⟩
theorem Tryz.sizeSt:(tP.info? 26).map (·.size)=aR 4:=AM
theorem Tryz.sizeOp:(tP.info? 28).map (·.size)=aR 4:=AM
theorem Od {fn:Func} {p u q:Tmp} (h:fn.results=#[.cell p 26,.tmp u,.cell q 28]) (tmps:Array aX) (w:aV) (g g':Nat) (c0 c1 c2 c3 b0 b1 b2 b3:aX)
  (hp:tmps.getD p undef=aY (aR ⟨g,0,aS⟩)) (hq:tmps.getD q undef=aY (aR ⟨g',0,aS⟩)) (hg:w.heap[g]?=aR (aa #[c0,c1,c2,c3] 26 (0,0))) (hg':w.heap[g']?=aR (aa #[b0,b1,b2,b3] 28 (0,0))) :
  (results fn tmps).run tP w=.ok (.tuple #[af #[c0,c1,c2,c3],tmps.getD u undef,af #[b0,b1,b2,b3]]) w:=by
 have hp':tmps[p]?.getD undef=aY (aR ⟨g,0,aS⟩):=by simpa using hp
 have hq':tmps[q]?.getD undef=aY (aR ⟨g',0,aS⟩):=by simpa using hq
 have h1:=run_loadVar_row (P:=tP) w g 26 26 #[c0,c1,c2,c3] (0,0) _ hg underlying26 rfl Tryz.sizeSt;have h2:=run_loadVar_row (P:=tP) w g' 28 28 #[b0,b1,b2,b3] (0,0) _ hg' underlying28 rfl Tryz.sizeOp;simp[results,h,hp',hq',asAddr,h1,h2]
end
theorem JT.frm {w:aV} {B:Nat} {v:aX} {m:Nat} (h:JT w B v m):∃ q c,v=aM (aR ⟨q,0,aS⟩) m c:=by
 obtain⟨zs,h1,h2,h3⟩:=h;obtain⟨q,c,e⟩:=h1.2;exact⟨q,c,by rw[e,h2]⟩
theorem Ta (g:Nat) (x:Option Addr) (n cap:Nat) (a:Int) (sg:Nat) (w:aV) (hc:Dc w g x n cap) (ht:Fb w g x n) (ha0:1<=a) (ha1:a<=1000) (hs0:1<=sg) (hs1:sg<=8) :
  Calls tP 17 #[aY (aR ⟨g,0,aS⟩),aO aZ a,aO aZ sg] w λe w'=>∃ v m vs,e=aQ v/\sg+3<=m/\m<=16/\PS 0 w g x n cap v m vs w':=by
 have HCT:=CY ht;have HS0:=CY (PS.start 72 hc);go_enter func17,ntmps17;go_wp2_with fail
 go_loopw [7,8] (λv i wr=>∃(k:Nat) (vs:List aX),k<=sg/\i=aO aZ k/\PS 72 w g x n cap v k vs wr) (λ_ i _=>sg-(intOf i).toNat)
 case atStart=>exact⟨0,[],Aw _,rfl,HS0.o⟩
 case round=>
  obtain⟨k,vs,hk,rfl,hp⟩:=hrel;obtain⟨av,cv,rfl⟩:=hp.form;have HP:=CY hp;by_cases hlt:k<sg
  ·have hlt':(k:Int)<sg:=AJ
   go_wp2_with fail;refine(Cl g x n cap 3 _ HP.o.cb (HP.o.ct HCT.o) AK AK).mono ?_;rintro e w1 ⟨y1,rfl,h10,h11,hc1,hw1⟩;have HP1:=CY (HP.o.cur hc1 hw1);go_wp2_with fail;refine(Cl g x n cap 100 _ HP1.o.cb (HP1.o.ct HCT.o) AK AK).mono ?_;rintro e w2 ⟨y2,rfl,h20,h21,hc2,hw2⟩;have HP2:=CY (HP1.o.cur hc2 hw2);go_wp2_with fail;refine(Cl g x n cap 200 _ HP2.o.cb (HP2.o.ct HCT.o) AK AK).mono ?_;rintro e w3 ⟨y3,rfl,h30,h31,hc3,hw3⟩;have HP3:=CY (HP2.o.cur hc3 hw3);go_wp2_with fail;refine(IR a (1+y3) (3*k+y1) (40+y2) w3 AJ ha1 AJ AJ AJ AJ AJ AJ).mono ?_;rintro e w4 ⟨u,rfl,hu,hb4⟩;obtain⟨q4,c4,rfl⟩:=hu.frm;have bA:=Co w4 (aa #[aM (aR ⟨q4,0,aS⟩) 72 c4] 22);have HU:=CY ((Gj.of_txO (hu.lower HP3.o.wg.size)).below bA);have HP4:=CY ((HP3.o.call hb4).call bA);have hz4:=CY (Ai HP3.o.wg.size hb4.size);go_wp2_with (at_builtin;refine En w4 rfl _ _ rfl w.heap.size (aM av k cv) k vs (aM (aR ⟨q4,0,aS⟩) 72 c4) rfl HP4.o.row rfl rfl ?c1 hz4.o ?_)
   case c1=>omega
   intro v5 w5 hr5 hg5;have HP5:=CY (HP4.o.app HU.o AK AK hg5 hr5);go_wp2;go_roundw
   case rel=>exact⟨k+1,_,AJ,by go_num,HP5.o⟩
   case measure=>simp[intOf];omega
  ·have hkn:k=sg:=AJ
   subst hkn;go_wp2_with fail;refine(Cl g x n cap 12 _ HP.o.cb (HP.o.ct HCT.o) AK AK).mono ?_;rintro e w1 ⟨y1,rfl,h10,h11,hc1,hw1⟩;have HP1:=CY (HP.o.cur hc1 hw1);go_wp2_with fail;refine(Cl g x n cap 60 _ HP1.o.cb (HP1.o.ct HCT.o) AK AK).mono ?_;rintro e w2 ⟨y2,rfl,h20,h21,hc2,hw2⟩;have HP2:=CY (HP1.o.cur hc2 hw2);go_wp2_with fail;refine(IR 0 0 y1 90 w2 AJ AJ AJ AJ AJ AJ AJ AJ).mono ?_;rintro e w4 ⟨u,rfl,hu,hb4⟩;obtain⟨q4,c4,rfl⟩:=hu.frm;have bA:=Co w4 (aa #[aM (aR ⟨q4,0,aS⟩) 72 c4] 22);have HU:=CY ((Gj.of_txO (hu.lower HP2.o.wg.size)).below bA);have HP4:=CY ((HP2.o.call hb4).call bA);have hz4:=CY (Ai HP2.o.wg.size hb4.size);go_wp2_with (at_builtin;refine En w4 rfl _ _ rfl w.heap.size (aM av k cv) k vs (aM (aR ⟨q4,0,aS⟩) 72 c4) rfl HP4.o.row rfl rfl ?c2 hz4.o ?_)
   case c2=>omega
   intro v5 w5 hr5 hg5;have HP5:=CY (HP4.o.app HU.o AK AK hg5 hr5);obtain⟨a5,c5,rfl⟩:=HP5.o.form;go_wp2_with fail;refine(IR 0 0 (250+y2) 90 w5 AJ AJ AJ AJ AJ AJ AJ AJ).mono ?_;rintro e w6 ⟨u2,rfl,hu2,hb6⟩;obtain⟨q6,c6,rfl⟩:=hu2.frm;have bA:=Co w6 (aa #[aM (aR ⟨q6,0,aS⟩) 72 c6] 22);have HU:=CY ((Gj.of_txO (hu2.lower HP5.o.wg.size)).below bA);have HP6:=CY ((HP5.o.call hb6).call bA);have hz6:=CY (Ai HP5.o.wg.size hb6.size);generalize vs++[aM (aR ⟨q4,0,aS⟩) 72 c4]=vs at *;go_wp2_with (at_builtin;refine En w6 rfl _ _ rfl w.heap.size (aM a5 (k+1) c5) (k+1) vs (aM (aR ⟨q6,0,aS⟩) 72 c6) rfl HP6.o.row rfl rfl ?c3 hz6.o ?_)
   case c3=>omega
   intro v7 w7 hr7 hg7;have hp7:=HP6.o.app HU.o AK AK hg7 hr7;generalize vs++[aM (aR ⟨q6,0,aS⟩) 72 c6]=vs at *;obtain⟨q7,c7,rfl,hc7,hq7,hce⟩:=hp7.form1 AJ;have hl7:0<vs.length:=by rw[hp7.row.1];omega
   obtain⟨k0,l0,l1,T0⟩:=hp7.tx vs[0] (BL hl7);obtain rfl:k0=72:=AJ
   have hc0:=hce 0 AJ;rw[As hl7] at hc0;generalize vs[0]=u0 at *;obtain⟨b0,o0,c0,rfl⟩:∃ b o c,u0=aM (aR ⟨b,o,aS⟩) 72 c:=by obtain⟨b,o,c,zs,cs,fr,h1,_⟩:=T0;exact⟨b,o,c,h1⟩
   have HP7:=CY hp7;have HT0:=CY T0;have bE:=Co w7 (aa #[] 5);have HOE:=CY (DB.empty w7 w7.heap.size Ch);have HP8:=CY (hp7.call bE);have HT8:=CY (T0.below bE);have hc8:(w7.alloc (aa #[] 5)).cell? ⟨q7,0,aS⟩=aR (aM (aR ⟨b0,o0,aS⟩) 72 c0):=by
    rw[Af (a:=⟨q7,0,aS⟩) (bE.block q7 hp7.lt)];exact hc0
   obtain⟨y,rfl⟩:=Ab h20;clear hp7 T0 hce l0 l1 bE;go_wp2_with (at_builtin;refine IS rfl _ _ rfl w7.heap.size w7.heap.size w.heap.size (aM (aR ⟨b0,o0,aS⟩) 72 c0) 72 rfl HOE.o rfl HT8.o AK ?c4 ?_)
   case c4=>simp
   intro v9 w9 zs O9 l9 y9 b9;obtain⟨q9,c9,e9⟩:=O9.2;rw[l9] at e9;subst e9;have hq9:w7.heap.size<=q9:=by obtain⟨_,_,e,h,_⟩:=O9.base;rw[l9] at e;cases e;exact h
   have hj:2+y<72:=AJ
   obtain⟨cj,fj,Oj⟩:=O9.setE l9 (2+y) (bits .xor aP (zs.getD (2+y) 0) (1+y1)) hj;have hsz:=HP7.o.wg.size;have HTB:=CY ((Gj.of_own Oj (by simpa using l9) (Qq y9 _ (VO _ _))).mono hsz);have HPA:=CY (HP7.o.call (((Co w7 (aa #[] 5)).trans b9).trans (OO (i:=2+y) (v:=aO aP (bits .xor aP (zs.getD (2+y) 0) (1+y1))) hq9)));have hj':(2:Int)+y<72:=AJ
   have ej:((2:Int)+y).toNat=2+y:=AJ
   have ex:(1+y1)%256=1+y1:=AJ
   generalize zs.getD (2+y) 0=zj at *
   go_upto_region 15 with fail
   generalize w9.setCell ⟨q9,2+y,aS⟩ (aO aP (bits .xor aP zj (1+y1)))=wA at *;have bA:=Co wA (aa #[aM (aR ⟨q9,0,aS⟩) 72 c9] 22);have HU:=CY (HTB.o.below bA);have HPB:=CY (HPA.o.call bA);have hzA:=CY HPA.o.wg.size;go_wp2_with (at_builtin;refine En wA rfl _ _ rfl w.heap.size (aM (aR ⟨q7,0,aS⟩) (k+1+1) c7) (k+1+1) vs (aM (aR ⟨q9,0,aS⟩) 72 c9) rfl HPB.o.row rfl rfl ?c5 hzA.o ?_)
   case c5=>omega
   intro vB wB hrB hgB;have hp:=HPB.o.app HU.o AK AK hgB hrB;generalize vs++[aM (aR ⟨q9,0,aS⟩) 72 c9]=vs at *;obtain⟨qB,cB,rfl,hcB,hqB,hce⟩:=hp.form1 AJ;have hl:0<vs.length:=by rw[hp.row.1];omega
   obtain⟨k0,l0,l1,T0⟩:=hp.tx vs[0] (BL hl);obtain rfl:k0=72:=AJ
   have hc0:=hce 0 AJ;rw[As hl] at hc0;generalize vs[0]=u0 at *;obtain⟨b1,o1,c1,rfl,hc1⟩:∃ b o c,u0=aM (aR ⟨b,o,aS⟩) 72 c/\72<=c:=by obtain⟨b,o,c,zs,cs,fr,h1,h2,_⟩:=T0;exact⟨b,o,c,h1,h2⟩
   have bC:=Co wB (aa #[aM (aR ⟨b1,o1,aS⟩) y c1] 22);have HU:=CY ((T0.cut y AJ).below bC);have HPC:=CY (hp.weak.call bC);have hzC:=CY hp.wg.size;have hyc:(y:Int)<=c1:=AJ
   clear hp T0 bC hce l0 l1 hcB hl;go_wp2_with (at_builtin;refine En wB rfl _ _ rfl w.heap.size (aM (aR ⟨qB,0,aS⟩) (k+1+1+1) cB) (k+1+1+1) vs (aM (aR ⟨b1,o1,aS⟩) y c1) rfl HPC.o.row rfl rfl ?c6 hzC.o ?_)
   case c6=>omega
   intro vD wD hrD hgD;have HF:=CY (HPC.o.app HU.o (Aw _) AJ hgD hrD);go_wp2
   go_ret
   exact⟨_,_,_,rfl,AJ,AJ,HF.o⟩
theorem VR (P Q:Nat->Bool) (a:Nat) (ha:P a=false) (hQ:∀ v,Q v=(P v || decide (v=a))) (k:Nat):(DT Q k).length=(DT P k).length+(if a<k then 1 else 0):=by
 induction k with
 |zero=>rfl
 |succ k ih=>
  rw[Du,Du];by_cases hk:a=k
  ·subst hk;rw[hQ,ha,AP AL,AQ AL,Ae,ih,AQ (Nat.lt_irrefl _),AP (Nat.lt_succ_self _)];simp
  ·have e:Q k=P k:=by rw[hQ,Ac (λh=>hk h.symm)];simp
   rw[e];have e2:(if a<k+1 then 1 else 0)=(if a<k then 1 else 0):=by
    by_cases h:a<k
    {rw[AP h,AP AJ]};{rw[AQ h,AQ AJ]}
   rw[e2];split
   {rw[Ae,Ae,ih];simp;omega};{exact ih}
open Classical in
theorem LM {U:List Int} {a:Nat} (hU:DO U) (ha:a<256) (hn:¬ (a:Int)∈U):(DF U a).length=U.length+1:=by
 have e:=DO.eq_upTo hU (λv=>decide ((v:Int)∈U)) (λv _=>AL);have:=VR (λv=>decide ((v:Int)∈U)) (λv=>decide ((v:Int)∈U\/v=a)) a (Ac hn) (λv=>by by_cases h1:(v:Int)∈U<;>by_cases h2:v=a<;>simp[h1,h2]) 256;rw[AP ha] at this;unfold DF;rw[this]
 conv=>rhs;rw[<-e]
theorem Qw {U:List Int} {a:Nat} (hU:DO U) {z:Int} (h:z∈U):z∈DF U a:=by
 obtain⟨h0,h1⟩:=hU.range h;obtain⟨v,rfl⟩:=Ab h0;exact(Fh AJ).1 (.inl h)
theorem XO {D U:List Int} {k:Int} {T:List Int} {n:Nat} {kind:Int} {a b:Nat} (h:Tt D U k T n) (hT:T.length=n*2) (hb:b<4294967296) (ho:(Dy D U k T n kind a b).ok=true) :
  Tt (Dy D U k T n kind a b).D (Dy D U k T n kind a b).U (Dy D U k T n kind a b).k (Dy D U k T n kind a b).T (Dy D U k T n kind a b).n/\(Dy D U k T n kind a b).T.length=(Dy D U k T n kind a b).n*2:=by
 obtain⟨sD,sU⟩:=L3 (k:=k) (T:=T) (n:=n) (kind:=kind) (a:=a) (b:=b) h.1 h.2.2.1;obtain⟨h1,h2,h3,h4,h5,h6⟩:=h;unfold Dy at ho sD sU |-;by_cases k1:kind=1
 ·rw[AP k1] at ho sD sU |-;by_cases hc:a<256/\¬ (a:Int)∈U/\¬ (a:Int)∈D
  ·rw[AP hc] at sD sU |-;have hl:=LM h3 hc.1 hc.2.1;refine⟨⟨sD,h2,sU,h4,by show k+((n+1:Nat):Int)=((DF U a).length:Int);rw[hl];omega,λi hi=>?_⟩,by show(T++_).length=(n+1)*2;rw[Ae,hT];simp;omega⟩;show Lh (DF U a) (T++[(a:Int),(b:Int)]) i
   have hgl:∀ j,j<n*2->(T++[(a:Int),(b:Int)]).getD j 0=T.getD j 0:=λj hj=>by
    rw[List.getD,List.getD,BJ AJ]
   by_cases hin:i<n
   ·obtain⟨t1,t2,t3⟩:=h6 i hin;refine⟨by rw[hgl _ AJ];exact Qw h3 t1,by rw[hgl _ AJ];exact t2,λj hj=>?_⟩;rw[hgl _ AJ,hgl _ AJ];exact t3 j hj
   ·obtain rfl:i=n:=by have:i<n+1:=hi;omega
    have e0:(T++[(a:Int),(b:Int)]).getD (i*2) 0=(a:Int):=by rw[List.getD,BA AJ,hT,Nat.sub_self];rfl
    have e1:(T++[(a:Int),(b:Int)]).getD (i*2+1) 0=(b:Int):=by rw[List.getD,BA AJ,hT,Nat.add_sub_cancel_left];rfl
    refine⟨by rw[e0];exact(Fh hc.1).1 (.inr rfl),by rw[e1];omega,λj hj=>?_⟩;rw[hgl _ AJ,e0];intro e;exact hc.2.1 (e ▸ (h6 j hj).1)
  ·rw[AQ hc] at ho;cases ho
 ·rw[AQ k1] at ho sD sU |-;by_cases k2:kind=2
  ·rw[AP k2] at ho sD sU |-;by_cases hc:b=1/\a<256/\¬ (a:Int)∈D/\¬ D.length=16
   ·rw[AP hc] at sD sU |-;have hl:=LM h1 hc.2.1 hc.2.2.1;exact⟨⟨sD,by show(DF D a).length<=16;rw[hl];omega,sU,h4,h5,h6⟩,hT⟩
   ·rw[AQ hc] at ho sD sU |-;by_cases hc2:b=0/\a<256/\(a:Int)∈D
    {rw[AP hc2] at sD sU |-;exact⟨⟨sD,Ai (List.length_filter_le _ _) h2,sU,h4,h5,h6⟩,hT⟩};{rw[AQ hc2] at ho;cases ho}
  ·rw[AQ k2] at ho sD sU |-;by_cases k3:kind=3
   ·rw[AP k3] at ho sD sU |-;by_cases hc:b=0/\(a:Int)<=k+n
    ·rw[AP hc] at sD sU |-;have hm:DW k a<=n:=by unfold DW;omega
     have hmk:(DW k a:Int)=max (a:Int) k-k:=by unfold DW;omega
     refine⟨⟨sD,h2,sU,by show 0<=max (a:Int) k;omega,by show max (a:Int) k+((n-DW k a:Nat):Int)=(U.length:Int);rw[<-h5,Int.ofNat_sub hm,hmk];generalize max (a:Int) k=mx;omega,λi hi=>?_⟩,by show(T.drop _).length=(n-DW k a)*2;rw[BF,hT];omega⟩;have hi':i<n-DW k a:=hi;have e:∀ j,(T.drop (DW k a*2)).getD j 0=T.getD (DW k a*2+j) 0:=λj=>by simp[List.getD]
     obtain⟨t1,t2,t3⟩:=h6 (DW k a+i) AJ;show Lh U (T.drop (DW k a*2)) i
     unfold Lh;rw[e,e,show DW k a*2+i*2=(DW k a+i)*2 by omega,show DW k a*2+(i*2+1)=(DW k a+i)*2+1 by omega];refine⟨t1,t2,λj hj=>?_⟩;rw[e,show DW k a*2+j*2=(DW k a+j)*2 by omega];exact t3 _ AJ
    ·rw[AQ hc] at ho;cases ho
   ·rw[AQ k3] at ho;cases ho
structure WA where
 c:Int
 D:List Int
 U:List Int
 k:Int
 T:List Int
 n:Nat
noncomputable def FB (D U:List Int) (k:Int) (T:List Int) (n:Nat) (ks:List Int) (kind:Int) (tk:List Int) (now N:Int):WA:=
 if kind=1 then(if Db D U ks tk now=1 then ⟨1,D,DF U (E6 tk).toNat,k,T++[E6 tk,now],n+1⟩ else ⟨Db D U ks tk now,D,U,k,T,n⟩)
 else if kind=2 then(if 0<=N/\N<256 then(if Df N D=true then ⟨9,D,U,k,T,n⟩ else if D.length=16 then ⟨10,D,U,k,T,n⟩ else ⟨9,DF D N.toNat,U,k,T,n⟩) else ⟨10,D,U,k,T,n⟩)
 else if kind=3 then(if 0<=N/\N<256 then(if Df N D=true then ⟨9,Dq D N.toNat,U,k,T,n⟩ else ⟨9,D,U,k,T,n⟩) else ⟨10,D,U,k,T,n⟩)
 else if kind=4 then(if N<k then ⟨10,D,U,k,T,n⟩ else if k+(n:Int)<N then ⟨10,D,U,k,T,n⟩ else if N=k then ⟨9,D,U,k,T,n⟩ else ⟨9,D,U,N,T.drop ((N-k).toNat*2),n-(N-k).toNat⟩)
 else if kind=5 then ⟨9,D,U,k,T,n⟩ else ⟨10,D,U,k,T,n⟩
open Classical in
noncomputable def IA (D U:List Int) (k:Int) (T:List Int) (n:Nat) (ks:List Int) (kind:Int) (tk:List Int) (now N:Int):WA:=
 if Ep D U k T n=true/\ks.length=32 then FB D U k T n ks kind tk now N else ⟨10,D,U,k,T,n⟩
section
variable {D U:List Int} {k:Int} {T:List Int} {n:Nat} {ks:List Int} {kind:Int} {tk:List Int} {now N:Int}
theorem Jq (h:Df N D=true):N∈D:=by unfold Df at h;simpa using h
theorem Hk (h:¬ Df N D=true):¬ N∈D:=λhm=>h (EO hm)
theorem Tb (h:Db D U ks tk now=1):¬ E6 tk∈D/\¬ E6 tk∈U:=by
 unfold Db at h;by_cases h0:now<0
 ·rw[AP h0] at h;omega
 rw[AQ h0] at h;by_cases h1:4294967295<now
 ·rw[AP h1] at h;omega
 rw[AQ h1] at h;by_cases h2:Jp tk=false
 ·rw[AP h2] at h;omega
 rw[AQ h2] at h;by_cases h3:256<=E6 tk
 ·rw[AP h3] at h;omega
 rw[AQ h3] at h;by_cases h4:FN tk<now
 ·rw[AP h4] at h;omega
 rw[AQ h4] at h;by_cases h5:Df (E6 tk) D=true
 ·rw[AP h5] at h;omega
 rw[AQ h5] at h;by_cases h6:Df (E6 tk) U=true
 ·rw[AP h6] at h;omega
 exact⟨Hk h5,Hk h6⟩
theorem VS (h:k<=N):DW k N=(N-k).toNat:=by unfold DW;rw[Int.max_eq_left h]
theorem WB (hst:Ep D U k T n=true) (hz:Cb tk) (h0:0<=k) (h1:k<=1048576) (hn:n<=1048576) (hD:D.length<=16) (hk1:1<=kind) (hk5:kind<=5) :
  ((FL D U k n ks kind tk now N).fk=0->FB D U k T n ks kind tk now N=⟨(FL D U k n ks kind tk now N).c,D,U,k,T,n⟩)/\
  (¬ (FL D U k n ks kind tk now N).fk=0->∃ o:WA,FB D U k T n ks kind tk now N=o/\o.c=(FL D U k n ks kind tk now N).c/\EY D U k T n (FL D U k n ks kind tk now N).fk (FL D U k n ks kind tk now N).a (FL D U k n ks kind tk now N).b=⟨true,o.D,o.U,o.k,o.T,o.n⟩/\(FL D U k n ks kind tk now N).a<4294967296/\(FL D U k n ks kind tk now N).b<4294967296):=by
 have hap:∀ kd a b,EY D U k T n kd a b=Dy D U k T n kd a b:=λkd a b=>by unfold EY;rw[AP hst]
 obtain rfl|rfl|rfl|rfl|rfl:kind=1\/kind=2\/kind=3\/kind=4\/kind=5:=AJ
 ·have e1:FL D U k n ks 1 tk now N=if Db D U ks tk now=1 then ⟨1,1,(E6 tk).toNat,now.toNat⟩ else ⟨Db D U ks tk now,0,0,0⟩:=by unfold FL;rw[AP rfl]
  have e2:FB D U k T n ks 1 tk now N=if Db D U ks tk now=1 then ⟨1,D,DF U (E6 tk).toNat,k,T++[E6 tk,now],n+1⟩ else ⟨Db D U ks tk now,D,U,k,T,n⟩:=by unfold FB;rw[AP rfl]
  rw[e1,e2];by_cases hc:Db D U ks tk now=1
  {rw[AP hc,AP hc];obtain⟨s,m,hs,rfl,hs2,hm2,htb⟩:=KO hz hc;obtain⟨hd,hu⟩:=Tb hc;rw[hs] at hd hu |-;refine⟨λh=>absurd h AL,λ_=>⟨_,rfl,rfl,?_,by simp;omega,by simp;omega⟩⟩;dsimp only;rw[hap];exact Pb ⟨by simpa using hs2,by simpa using hu,by simpa using hd⟩};{rw[AQ hc,AQ hc];exact⟨λ_=>rfl,λh=>absurd rfl h⟩}
 ·have e1:FL D U k n ks 2 tk now N=if 0<=N/\N<256 then(if Df N D=true then ⟨9,0,0,0⟩ else if D.length=16 then ⟨10,0,0,0⟩ else ⟨9,2,N.toNat,1⟩) else ⟨10,0,0,0⟩:=by unfold FL;rw[AQ AK,AP rfl]
  have e2:FB D U k T n ks 2 tk now N=if 0<=N/\N<256 then(if Df N D=true then ⟨9,D,U,k,T,n⟩ else if D.length=16 then ⟨10,D,U,k,T,n⟩ else ⟨9,DF D N.toNat,U,k,T,n⟩) else ⟨10,D,U,k,T,n⟩:=by unfold FB;rw[AQ AK,AP rfl]
  rw[e1,e2];by_cases hs:0<=N/\N<256
  ·rw[AP hs,AP hs];by_cases hm:Df N D=true
   ·rw[AP hm,AP hm];exact⟨λ_=>rfl,λh=>absurd rfl h⟩
   ·rw[AQ hm,AQ hm];by_cases h16:D.length=16
    {rw[AP h16,AP h16];exact⟨λ_=>rfl,λh=>absurd rfl h⟩};{rw[AQ h16,AQ h16];refine⟨λh=>absurd h AL,λ_=>⟨_,rfl,rfl,?_,by simp;omega,AL⟩⟩;dsimp only;rw[hap];exact Pc ⟨AJ,by rw[Bo hs.1];exact Hk hm,h16⟩}
  ·rw[AQ hs,AQ hs];exact⟨λ_=>rfl,λh=>absurd rfl h⟩
 ·have e1:FL D U k n ks 3 tk now N=if 0<=N/\N<256 then(if Df N D=true then ⟨9,2,N.toNat,0⟩ else ⟨9,0,0,0⟩) else ⟨10,0,0,0⟩:=by unfold FL;rw[AQ AK,AQ AK,AP rfl]
  have e2:FB D U k T n ks 3 tk now N=if 0<=N/\N<256 then(if Df N D=true then ⟨9,Dq D N.toNat,U,k,T,n⟩ else ⟨9,D,U,k,T,n⟩) else ⟨10,D,U,k,T,n⟩:=by unfold FB;rw[AQ AK,AQ AK,AP rfl]
  rw[e1,e2];by_cases hs:0<=N/\N<256
  ·rw[AP hs,AP hs];by_cases hm:Df N D=true
   {rw[AP hm,AP hm];refine⟨λh=>absurd h AL,λ_=>⟨_,rfl,rfl,?_,by simp;omega,AL⟩⟩;dsimp only;rw[hap];exact Pd ⟨AJ,by rw[Bo hs.1];exact Jq hm⟩};{rw[AQ hm,AQ hm];exact⟨λ_=>rfl,λh=>absurd rfl h⟩}
  ·rw[AQ hs,AQ hs];exact⟨λ_=>rfl,λh=>absurd rfl h⟩
 ·have e2:FB D U k T n ks 4 tk now N=if N<k then ⟨10,D,U,k,T,n⟩ else if k+(n:Int)<N then ⟨10,D,U,k,T,n⟩ else if N=k then ⟨9,D,U,k,T,n⟩ else ⟨9,D,U,N,T.drop ((N-k).toNat*2),n-(N-k).toNat⟩:=by unfold FB;rw[AQ AK,AQ AK,AQ AK,AP rfl]
  rw[NC,e2];by_cases hlo:N<k
  ·rw[AP hlo,AP hlo];exact⟨λ_=>rfl,λh=>absurd rfl h⟩
  rw[AQ hlo,AQ hlo];by_cases hhi:k+(n:Int)<N
  ·rw[AP hhi,AP hhi];exact⟨λ_=>rfl,λh=>absurd rfl h⟩
  rw[AQ hhi,AQ hhi];by_cases hne:N=k
  ·rw[AP hne,AP hne];exact⟨λ_=>rfl,λh=>absurd rfl h⟩
  rw[AQ hne,AQ hne];obtain⟨m,rfl⟩:∃ m:Nat,N=m:=⟨N.toNat,AJ⟩
  refine⟨λh=>absurd h AL,λ_=>⟨_,rfl,rfl,?_,by simp;omega,AL⟩⟩;dsimp only;rw[hap,Bm,Pe AJ,VS AJ,Int.max_eq_left AJ]
 ·have e1:FL D U k n ks 5 tk now N=⟨9,0,0,0⟩:=by unfold FL;rw[AQ AK,AQ AK,AQ AK,AQ AK]
  have e2:FB D U k T n ks 5 tk now N=⟨9,D,U,k,T,n⟩:=by unfold FB;rw[AQ AK,AQ AK,AQ AK,AQ AK,AP rfl]
  rw[e1,e2];exact⟨λ_=>rfl,λh=>absurd rfl h⟩
end
def WC (lo:Nat) (w:aV) (v:aX) (r:WA):Prop:=
 ∃ aD nD cD aU nU cU aT nT cT,v=af #[aO aZ r.c,aM aD nD cD,aM aU nU cU,aO aZ r.k,aM aT nT cT]/\At aZ w aD r.D/\At aZ w aU r.U/\At aZ w aT r.T/\r.D.length=nD/\r.U.length=nU/\r.T.length=nT*2/\GC lo w aD/\GC lo w aU/\GC lo w aT/\nT<=cT/\cT<=9223372036854775807
def Oe (H B g:Nat) (w:aV) (r:WA) (e:Ending) (w':aV):Prop:=
 e=aQ (aO aZ r.c)/\Below H w w'/\∃ d u v,Bk w' g d u r.k v/\DM d (λx=>(x:Int)∈r.D)/\DM u (λx=>(x:Int)∈r.U)/\Dg B w' v r.T r.n/\Jn g v
structure NJ (H B g:Nat) (w:aV) (d u:List Int) (v:aX) (D U:List Int) (k:Int) (T:List Int) (n:Nat):Prop where
 bk:Bk w g d u k v
 sd:DM d (λx=>(x:Int)∈D)
 su:DM u (λx=>(x:Int)∈U)
 tv:Dg B w v T n
 ser:DO D
 h0:0<=k
 h1:k<=1048576
 hn:n<=1048576
 hH:H<=g
 hHB:H<=B
 ne:Jn g v
 hBw:B<=w.heap.size
section
variable {H B g:Nat} {w w':aV} {d u:List Int} {v:aX} {D U:List Int} {k:Int} {T:List Int} {n:Nat} {ks tk:List Int} {now N:Int}
theorem NJ.same (h:NJ H B g w d u v D U k T n) (c:Int):Oe H B g w ⟨c,D,U,k,T,n⟩ (aQ (aO aZ c)) w:=⟨rfl,A8 _ _,d,u,v,h.bk,h.sd,h.su,h.tv,h.ne⟩
theorem NJ.drew (h:NJ H B g w d u v D U k T n) (q:Nat):NJ H B g (w.drewN q) d u v D U k T n:=⟨h.bk.drew q,h.sd,h.su,h.tv.drew q,h.ser,h.h0,h.h1,h.hn,h.hH,h.hHB,h.ne,h.hBw⟩
theorem NJ.below (h:NJ H B g w d u v D U k T n) (b:Below w.heap.size w w'):NJ H B g w' d u v D U k T n:=
 ⟨h.bk.below b h.bk.lt,h.sd,h.su,h.tv.block b.size (λt _ ht=>b.block t ht),h.ser,h.h0,h.h1,h.hn,h.hH,h.hHB,h.ne,Ai h.hBw b.size⟩
theorem Oe.from {r:WA} {e:Ending} {w1:aV} (h:Oe H B g w1 r e w') (b:Below H w w1):Oe H B g w r e w':=⟨h.1,b.trans h.2.1,h.2.2⟩
theorem Pn:FB D U k T n ks 2 tk now N=if 0<=N/\N<256 then(if Df N D=true then ⟨9,D,U,k,T,n⟩ else if D.length=16 then ⟨10,D,U,k,T,n⟩ else ⟨9,DF D N.toNat,U,k,T,n⟩) else ⟨10,D,U,k,T,n⟩:=by unfold FB;rw[AQ AK,AP rfl]
theorem Tc:FB D U k T n ks 3 tk now N=if 0<=N/\N<256 then(if Df N D=true then ⟨9,Dq D N.toNat,U,k,T,n⟩ else ⟨9,D,U,k,T,n⟩) else ⟨10,D,U,k,T,n⟩:=by unfold FB;rw[AQ AK,AQ AK,AP rfl]
theorem Td:FB D U k T n ks 4 tk now N=if N<k then ⟨10,D,U,k,T,n⟩ else if k+(n:Int)<N then ⟨10,D,U,k,T,n⟩ else if N=k then ⟨9,D,U,k,T,n⟩ else ⟨9,D,U,N,T.drop ((N-k).toNat*2),n-(N-k).toNat⟩:=by unfold FB;rw[AQ AK,AQ AK,AQ AK,AP rfl]
theorem VT (h:NJ H B g w d u v D U k T n) :
  Calls tP 48 #[aY (aR ⟨g,0,aS⟩),aO aZ N] w (Oe H B g w (FB D U k T n ks 2 tk now N)):=by
 have HB:=CX h;by_cases hs:0<=N/\N<256
 ·obtain⟨m,rfl⟩:∃ m:Nat,N=m:=⟨N.toNat,AJ⟩
  have hm:m<256:=AJ
  have HSO:=CY <| Ht hm
  by_cases hin:Df (m:Int) D=true
  ·have HR:AO (FB D U k T n ks 2 tk now (m:Int)=⟨9,D,U,k,T,n⟩):=by show _=_;rw[Pn,AP hs,AP hin]
   have HQ:AO (m<256/\(m:Int)∈D):=⟨hm,Jq hin⟩
   go_enter func48,ntmps48;go_wp2_with fail;refine(Cp _ _).mono ?_;rintro e w1 ⟨rfl,e1⟩;obtain rfl:w=w1:=e1.symm;rw[HSO.o];go_wp2_with fail;refine(Fv m HB.o.bk.batd HB.o.sd HQ.o).mono ?_;rintro e w1 ⟨rfl,e1⟩;obtain rfl:w=w1:=e1.symm;have HF:=CX (HB.o.same 9);go_wp2
   go_ret
   rw[HR.o];exact HF.o
  ·have HQ:AO (¬ (m<256/\(m:Int)∈D)):=λh=>Hk hin h.2
   by_cases h16:D.length=16
   ·have HR:AO (FB D U k T n ks 2 tk now (m:Int)=⟨10,D,U,k,T,n⟩):=by show _=_;rw[Pn,AP hs,AQ hin,AP h16]
    have HP:=CY <| Aj ((Lz HB.o.sd HB.o.ser).trans h16)
    go_enter func48,ntmps48;go_wp2_with fail;refine(Cp _ _).mono ?_;rintro e w1 ⟨rfl,e1⟩;obtain rfl:w=w1:=e1.symm;rw[HSO.o];go_wp2_with fail;refine(Ed m HB.o.bk.batd HB.o.sd HQ.o).mono ?_;rintro e w1 ⟨rfl,e1⟩;obtain rfl:w=w1:=e1.symm;go_wp2_with fail;refine(Iq HB.o.bk).mono ?_;rintro e w1 ⟨rfl,e1⟩;obtain rfl:w=w1:=e1.symm;rw[HP.o];have HF:=CX (HB.o.same 10);go_wp2
    go_ret
    rw[HR.o];exact HF.o
   ·have HR:AO (FB D U k T n ks 2 tk now (m:Int)=⟨9,DF D m,U,k,T,n⟩):=by show _=_;rw[Pn,AP hs,AQ hin,AQ h16];rfl
    have HP:AO (decide (GB d 32=16)=false):=Ac (λh=>h16 ((Lz HB.o.sd HB.o.ser).symm.trans h));have HF:∀ q,AO (Oe H B g w ⟨9,DF D m,U,k,T,n⟩ (aQ (aO aZ 9)) ((w.setCell ⟨g,0+m/8,aS⟩ (aO aP ((Do d m).getD (m/8) 0))).drewN q)):=λq=>by
     have hw:Wr g w ((w.setCell ⟨g,0+m/8,aS⟩ (aO aP ((Do d m).getD (m/8) 0))).drewN q):=((Wr.refl _ _).setCell _ _).drewN _;exact⟨rfl,hw.below HB.o.hH,_,_,_,(HB.o.bk.addD m hm).drew q,(HB.o.sd.add m hm).congr (λx hx=>Fh hx),HB.o.su,HB.o.tv.wr hw HB.o.ne,HB.o.ne⟩
    go_enter func48,ntmps48;go_wp2_with fail;refine(Cp _ _).mono ?_;rintro e w1 ⟨rfl,e1⟩;obtain rfl:w=w1:=e1.symm;rw[HSO.o];go_wp2_with fail;refine(Ed m HB.o.bk.batd HB.o.sd HQ.o).mono ?_;rintro e w1 ⟨rfl,e1⟩;obtain rfl:w=w1:=e1.symm;go_wp2_with fail;refine(Iq HB.o.bk).mono ?_;rintro e w1 ⟨rfl,e1⟩;obtain rfl:w=w1:=e1.symm;rw[HP.o];go_wp2_with fail;refine(Ia g 0 m d _ hm HB.o.bk.batd).mono ?_;rintro e w4 ⟨rfl,q,rfl⟩;have H2:=HF q;generalize (w.setCell ⟨g,0+m/8,aS⟩ (aO aP ((Do d m).getD (m/8) 0))).drewN q=w4 at *;go_wp2
    go_ret
    rw[HR.o];exact H2.o
 ·have HR:AO (FB D U k T n ks 2 tk now N=⟨10,D,U,k,T,n⟩):=by show _=_;rw[Pn,AQ hs]
  have HSO:AO (Fp N=false):=Ac hs;go_enter func48,ntmps48;go_wp2_with fail;refine(Cp _ _).mono ?_;rintro e w1 ⟨rfl,e1⟩;obtain rfl:w=w1:=e1.symm;rw[HSO.o];have HF:=CX (HB.o.same 10);go_wp2
  go_ret
  rw[HR.o];exact HF.o
theorem VU (h:NJ H B g w d u v D U k T n) :
  Calls tP 49 #[aY (aR ⟨g,0,aS⟩),aO aZ N] w (Oe H B g w (FB D U k T n ks 3 tk now N)):=by
 have HB:=CX h;by_cases hs:0<=N/\N<256
 ·obtain⟨m,rfl⟩:∃ m:Nat,N=m:=⟨N.toNat,AJ⟩
  have hm:m<256:=AJ
  have HSO:AO (Fp (m:Int)=true):=Ht hm;have HF:∀ q,AO (Oe H B g w (FB D U k T n ks 3 tk now (m:Int)) (aQ (aO aZ 9)) ((w.setCell ⟨g,0+m/8,aS⟩ (aO aP ((Eq d m).getD (m/8) 0))).drewN q)):=λq=>by
   have hw:Wr g w ((w.setCell ⟨g,0+m/8,aS⟩ (aO aP ((Eq d m).getD (m/8) 0))).drewN q):=((Wr.refl _ _).setCell _ _).drewN _;show Oe _ _ _ _ _ _ _
   by_cases hin:Df (m:Int) D=true
   {rw[Tc,AP hs,AP hin];exact⟨rfl,hw.below HB.o.hH,_,_,_,(HB.o.bk.remD m hm).drew q,(HB.o.sd.rem m hm).congr (λx hx=>LE),HB.o.su,HB.o.tv.wr hw HB.o.ne,HB.o.ne⟩};{rw[Tc,AP hs,AQ hin];refine⟨rfl,hw.below HB.o.hH,_,_,_,(HB.o.bk.remD m hm).drew q,(HB.o.sd.rem m hm).congr (λx hx=>⟨λh=>h.1,λh=>⟨h,λe=>?_⟩⟩),HB.o.su,HB.o.tv.wr hw HB.o.ne,HB.o.ne⟩;subst e;exact Hk hin h}
  go_enter func49,ntmps49;go_wp2_with fail;refine(Cp _ _).mono ?_;rintro e w1 ⟨rfl,e1⟩;obtain rfl:w=w1:=e1.symm;rw[HSO.o];go_wp2_with fail;refine(Jz g 0 m d _ hm HB.o.bk.batd).mono ?_;rintro e w4 ⟨rfl,q,rfl⟩;have H2:=HF q;generalize (w.setCell ⟨g,0+m/8,aS⟩ (aO aP ((Eq d m).getD (m/8) 0))).drewN q=w4 at *;go_wp2
  go_ret
  exact H2.o
 ·have HR:AO (FB D U k T n ks 3 tk now N=⟨10,D,U,k,T,n⟩):=by show _=_;rw[Tc,AQ hs]
  have HSO:AO (Fp N=false):=Ac hs;go_enter func49,ntmps49;go_wp2_with fail;refine(Cp _ _).mono ?_;rintro e w1 ⟨rfl,e1⟩;obtain rfl:w=w1:=e1.symm;rw[HSO.o];have HF:=CX (HB.o.same 10);go_wp2
  go_ret
  rw[HR.o];exact HF.o
theorem VV (h:NJ H B g w d u v D U k T n) :
  Calls tP 50 #[aY (aR ⟨g,0,aS⟩),aO aZ N] w (Oe H B g w (FB D U k T n ks 4 tk now N)):=by
 have HB:=CX h;obtain⟨ad,c,rfl⟩:=h.tv.slice;have c0:=h.bk.ck;have h0:=h.h0;have h1:=h.h1;have hn:=h.hn;by_cases hlo:N<k
 ·have HR:AO (FB D U k T n ks 4 tk now N=⟨10,D,U,k,T,n⟩):=by show _=_;rw[Td,AP hlo]
  have HF:=CX (HB.o.same 10);go_enter func50,ntmps50;go_wp2
  go_ret
  rw[HR.o];exact HF.o
 have HAD:=Ip ad n c HB.o.bk h0 h1 hn;by_cases hhi:k+(n:Int)<N
 ·have HR:AO (FB D U k T n ks 4 tk now N=⟨10,D,U,k,T,n⟩):=by show _=_;rw[Td,AQ hlo,AP hhi]
  go_enter func50,ntmps50;go_wp2_with fail;refine HAD.mono ?_;rintro e w1 ⟨rfl,q,rfl⟩;have HF:=CX (((HB.o.drew q).same 10).from (w:=w) (Fu Cf q));generalize w.drewN q=w1 at *;go_wp2
  go_ret
  rw[HR.o];exact HF.o
 ·obtain⟨m,rfl⟩:∃ m:Nat,N=k+m:=⟨(N-k).toNat,AJ⟩
  have HR:AO (FB D U k T n ks 4 tk now (k+(m:Int))=⟨9,D,U,k+(m:Int),T.drop (m*2),n-m⟩):=by
   show _=_
   rw[Td,AQ hlo,AQ hhi];by_cases hm:k+(m:Int)=k
   ·have:m=0:=AJ
    subst this;rw[AP hm];simp
   ·rw[AQ hm,show(k+(m:Int)-k).toNat=m by omega]
  go_enter func50,ntmps50;go_wp2_with fail;refine HAD.mono ?_;rintro e w1 ⟨rfl,q,rfl⟩;have HB1:=CX (HB.o.drew q);have HW1:AO (Below H w (w.drewN q)):=Fu Cf q;generalize w.drewN q=w1 at *;go_wp2_with fail;refine(PZ m HB1.o.bk HB1.o.tv h0 h1 AJ hn HB1.o.hH HB1.o.ne).mono ?_;rintro e w2 ⟨rfl,hb2,v',r1,r2,r3⟩;have HF:AO (Oe H B g w ⟨9,D,U,k+(m:Int),T.drop (m*2),n-m⟩ (aQ (aO aZ 9)) w2):=⟨rfl,HW1.o.trans hb2,_,_,_,r1,HB1.o.sd,HB1.o.su,r2,r3⟩
  go_wp2
  go_ret
  rw[HR.o];exact HF.o
end
open Go.Joins
def bW:List Int:=[7378697629483820632,7378697629483820646,7378697629483820646,7378697629483820646]
theorem XP:val 18446744073709551616 bW=Ij:=AK
theorem XQ:IE bW:=by unfold IE bW;decide
theorem Te (w:aV):Calls tP 104 #[] w (Lq w Ij):=by
 have HR:AO (Cd (w.alloc (aa CK 146)) w.heap.size 146 [0,0,0,0]):=AS w _;have HSZ:AO ((tP.info? 146).map (·.size)=aR ((bW.map (Value.int .u64)).toArray).size):=sizeNum rfl;go_enter func104,ntmps104;go_wp2_with (first
  |(refine AE 146 (ah 1) (ah 2) w.heap.size ((bW.map (Value.int .u64)).toArray) 146 HR.o HSZ.o rfl (all_oneCell_toArray (Az _ _)) ?_)
  |fail)
 have R1:Cd ((w.alloc (aa CK 146)).setRow w.heap.size (bW.map (Value.int .u64)).toArray) w.heap.size 146 bW:=HR.o.setRow bW;have B2:Below w.heap.size w ((w.alloc (aa CK 146)).setRow w.heap.size (bW.map (Value.int .u64)).toArray):=(Ct _ _).trans ((Wr.setRow _ _ _).below Ch);clear HR HSZ;generalize (w.alloc (aa CK 146)).setRow w.heap.size (bW.map (Value.int .u64)).toArray=w2 at *;refine(RK _ bW _ rfl R1 XQ).mono ?_;rintro e w3 ⟨bs,hbl,hbb,hbv,rfl,O3,B3⟩;rw[XP] at hbv;have HP:AO (Lq w Ij (aQ (aM (aR ⟨w2.heap.size,0,aS⟩) 32 32)) w3):=⟨_,bs,rfl,O3.lower3b B2.size,hbb,hbl,hbv,B2.trans (B3.mono B2.size)⟩
 clear hbv O3 B2 B3 R1;go_wp2
 go_ret
 exact HP.o
theorem Fk {w w':aV} (h:EF w) (hz:1<w.heap.size) (hb:Below w.heap.size w w'):EF w':=λi hi=>by rw[hb.cell (p:=⟨1,i,aS⟩) hz];exact h i hi
theorem L9 (w:aV):Pt (w.alloc (aa CP 143)) w.heap.size [0,0,0,0,0] [0,0,0,0,0] [0,0,0,0,0] [0,0,0,0,0]:=⟨AS w _,FY,FY,FY,FY⟩
theorem XR {pub msg sig:List Int} (h:¬ sig.length=64):Hu pub msg sig=false:=by unfold Hu;simp[h]
theorem Yg {pub msg sig:List Int} (h:decide (val 256 (sig.drop 32)<DZ)=false):Hu pub msg sig=false:=by unfold Hu;simp[h]
theorem Yh {pub msg sig:List Int} (h:mB pub Dl=false):Hu pub msg sig=false:=by unfold Hu;simp[h]
theorem Yi {pub msg sig:List Int} (h:mB (sig.take 32) Dl=false):Hu pub msg sig=false:=by unfold Hu;simp[h]
theorem Yj {pub msg sig:List Int} (h1:sig.length=64) (h2:decide (val 256 (sig.drop 32)<DZ)=true) (h3:mB pub Dl=true) (h4:mB (sig.take 32) Dl=true):Hu pub msg sig=JG pub msg sig:=by unfold Hu;rw[h2,h3,h4,Aj h1];simp
theorem Tf {zs x y z t:List Int} (hz:Cb zs) (hb:mB zs Dl=true) (hv:Lo zs=true->ev x=JY zs/\ev y=Fz zs/\ev z=1/\ev t=JY zs*Fz zs%fp):((ev x,ev y,ev z,ev t):Q4)=D7 zs:=by
 obtain⟨e1,e2,e3,e4⟩:=hv (by rw[KE zs hz];exact hb);have q1:=QX zs (Jm hb).1 hz (Jm hb).2;unfold D7;rw[e1,q1,e2,e3,e4,q1];rfl
theorem Tg (x y z t:List Int):Rd ((ev x,ev y,ev z,ev t):Q4):=⟨Gy _,Gy _,Gy _,Gy _⟩
theorem VW (bp op cp bm om cm bs os cs np nm ns:Nat) (pub msg sig:List Int) (w:aV) (hpl:pub.length=np) (hml:msg.length=nm) (hsl:sig.length=ns) (hp:FK w bp op pub) (hm:FK w bm om msg) (hs:FK w bs os sig)
  (zp:Cb pub) (zm:Cb msg) (zs:Cb sig) (hcs:ns<=cs) (bnp:np<=1048576) (bnm:nm<=1048576) (bns:ns<=1048576) (hT:EF w) (h0:1<w.heap.size) :
  Calls tP 92 #[aM (aR ⟨bp,op,aS⟩) np cp,aM (aR ⟨bm,om,aS⟩) nm cm,aM (aR ⟨bs,os,aS⟩) ns cs] w λe w'=>e=aQ (.bool (Hu pub msg sig))/\Below w.heap.size w w':=by
 have HB0:AO (Below w.heap.size w (((w.alloc (aa CP 143)).alloc (aa CP 143)).alloc (aa CP 143))):=((Ce _ _).trans ((Ce _ _).mono AL)).trans ((Ce _ _).mono (by simp;omega));have HK0:AO (Pt (((w.alloc (aa CP 143)).alloc (aa CP 143)).alloc (aa CP 143)) w.heap.size [0,0,0,0,0] [0,0,0,0,0] [0,0,0,0,0] [0,0,0,0,0]):=((L9 w).below (Ce _ _) AL).below (Ce _ _) (by simp;omega);have HN0:AO (Pt (((w.alloc (aa CP 143)).alloc (aa CP 143)).alloc (aa CP 143)) (w.heap.size+1) [0,0,0,0,0] [0,0,0,0,0] [0,0,0,0,0] [0,0,0,0,0]):=by
  have:=(L9 (w.alloc (aa CP 143))).below (Ce ((w.alloc (aa CP 143)).alloc (aa CP 143)) (aa CP 143)) AL;rw[show(w.alloc (aa CP 143)).heap.size=w.heap.size+1 by simp] at this;exact this
 have HL0:AO (Pt (((w.alloc (aa CP 143)).alloc (aa CP 143)).alloc (aa CP 143)) (w.heap.size+1+1) [0,0,0,0,0] [0,0,0,0,0] [0,0,0,0,0] [0,0,0,0,0]):=by
  have:=L9 ((w.alloc (aa CP 143)).alloc (aa CP 143));rw[show((w.alloc (aa CP 143)).alloc (aa CP 143)).heap.size=w.heap.size+1+1 by simp] at this;exact this
 have HP:=CX hp;have HM:=CX hm;have HS:=CX hs;have HZ:=CX (Al zp (Al zm zs));have HT:=CX (Al hT h0);by_cases h64:ns=64
 ·subst h64;have hslh:=λw=>JR w bs os cs hcs
  have hsll:=λw=>JS w bs os cs hcs
  have hdl:(sig.drop 32).length=32:=by rw[BF,hsl]
  have htl:(sig.take 32).length=32:=by rw[Aq,hsl];rfl
  go_enter func92,ntmps92;go_wp2_with fail;generalize (((w.alloc (aa CP 143)).alloc (aa CP 143)).alloc (aa CP 143))=w0 at *;refine(Sw (aR ⟨bs,os+32,aS⟩) 32 (cs-32) (sig.drop 32) _ hdl ((HS.o.below HB0.o).drop 32).at_ (Hv HZ.o.2.2 32)).mono ?_;rintro e w1 ⟨rfl,b1⟩;have HB1:=CY <| HB0.o.trans (b1.mono HB0.o.size)
  have HK1:=CY <| HK0.o.below b1 HK0.o.row.lt
  have HN1:=CY <| HN0.o.below b1 HN0.o.row.lt
  have HL1:=CY <| HL0.o.below b1 HL0.o.row.lt
  have hqq:decide (32=32/\val 256 (sig.drop 32)<DZ)=decide (val 256 (sig.drop 32)<DZ):=AL
  rw[hqq];cases hq:decide (val 256 (sig.drop 32)<DZ) with
  |false=>
   have HV:=CX (Yg (pub:=pub) (msg:=msg) hq);go_wp2
   go_ret
   exact⟨by rw[HV.o];rfl,HB1.o⟩
  |true=>
   have HQ:=CX hq;go_wp2_with fail;refine(IN w.heap.size _ _ _ _ (aR ⟨bp,op,aS⟩) np cp pub _ hpl bnp (HP.o.below HB1.o).at_ HZ.o.1 HK1.o).mono ?_;rintro e w2 ⟨x1,y1,z1,t1,P1,hw1,rfl,hv1⟩;have HB2:=CY <| HB1.o.trans (hw1.below w.heap.size Ch HB1.o.size)
   have HK2:=CY <| P1
   have HN2:=CY <| HN1.o.wrh2 hw1 AJ
   have HL2:=CY <| HL1.o.wrh2 hw1 AJ
   have HV1:=CX hv1;rw[KE pub HZ.o.1];cases hb:mB pub Dl with
   |false=>
    have HV:=CX (Yh (msg:=msg) (sig:=sig) hb);go_wp2
    go_ret
    exact⟨by rw[HV.o];rfl,HB2.o⟩
   |true=>
    have HE1:=CX (Tf HZ.o.1 hb HV1.o);have HBP:=CX hb;obtain rfl:np=32:=by rw[<-hpl];exact(Jm hb).1
    go_wp2_with fail;refine(IN (w.heap.size+1) _ _ _ _ (aR ⟨bs,os,aS⟩) 32 cs (sig.take 32) _ htl AK ((HS.o.below HB2.o).take 32).at_ (Fj HZ.o.2.2 32) HN2.o).mono ?_;rintro e w3 ⟨x2,y2,z2,t2,P2,hw2,rfl,hv2⟩;have HB3:=CY <| HB2.o.trans (hw2.below w.heap.size AJ HB2.o.size)
    have HK3:=CY <| HK2.o.wrh2 hw2 AJ
    have HN3:=CY <| P2
    have HL3:=CY <| HL2.o.wrh2 hw2 AJ
    have HV2:=CX hv2;rw[KE (sig.take 32) (Fj HZ.o.2.2 32)];cases hb2:mB (sig.take 32) Dl with
    |false=>
     have HV:=CX (Yi (msg:=msg) (pub:=pub) hb2);go_wp2
     go_ret
     exact⟨by rw[HV.o];rfl,HB3.o⟩
    |true=>
     have HE2:=CX (Tf (Fj HZ.o.2.2 32) hb2 HV2.o);have HVR:=CX (Yj (msg:=msg) hsl HQ.o HBP.o hb2);go_wp2_with fail;refine(Te _).mono ?_;rintro e w4 ⟨v4,b4s,rfl,o4,c1,c2,c3,b4⟩;obtain rfl:=Ss c1 c2 c3;obtain⟨g4,c4,rfl,hA4,hc4⟩:=FK.of_own o4;have HB4:=CY <| HB3.o.trans (b4.mono HB3.o.size)
     have HK4:=CY <| HK3.o.below b4 HK3.o.row.lt
     have HN4:=CY <| HN3.o.below b4 HN3.o.row.lt
     have HL4:=CY <| HL3.o.below b4 HL3.o.row.lt
     have HA4:=CX hA4;rw[IP];go_wp2_with fail;refine(IN (w.heap.size+1+1) _ _ _ _ (aR ⟨g4,0,aS⟩) 32 c4 bB _ IP AK HA4.o.at_ Ir HL4.o).mono ?_;rintro e w5 ⟨x3,y3,z3,t3,P3,hw3,rfl,hv3⟩;have HB5:=CY <| HB4.o.trans (hw3.below w.heap.size AJ HB4.o.size)
     have HK5:=CY <| HK4.o.wrh2 hw3 AJ
     have HN5:=CY <| HN4.o.wrh2 hw3 AJ
     have HL5:=CY <| P3
     have HE3:=CX (Tf Ir PY hv3);generalize Lo bB=rb at *;go_wp2_with fail;refine(LZ (aR ⟨bs,os+32,aS⟩) 32 (cs-32) (sig.drop 32) _ hdl AK AK ((HS.o.below HB5.o).drop 32).at_ (Hv HZ.o.2.2 32)).mono ?_;rintro e w6 ⟨ms,hl,hw,hv,rfl,b6⟩;rw[Ad AJ] at hv;have HB6:=CY <| HB5.o.trans (b6.mono HB5.o.size)
     have HK6:=CY <| HK5.o.below b6 HK5.o.row.lt
     have HN6:=CY <| HN5.o.below b6 HN5.o.row.lt
     have HL6:=CY <| HL5.o.below b6 HL5.o.row.lt
     have CM:=CX (Is (w.heap.size+1+1) x3 y3 z3 t3 ms w6 HL6.o hl hw);rw[HE3.o,hv] at CM;go_wp2_with fail;refine CM.o.mono ?_;rintro e w7 ⟨x4,y4,z4,t4,P4,hw4,rfl,hq4⟩;have HB7:=CY <| HB6.o.trans (hw4.below w.heap.size AJ HB6.o.size)
     have HK7:=CY <| HK6.o.wrh2 hw4 AJ
     have HN7:=CY <| HN6.o.wrh2 hw4 AJ
     have HL7:=CY <| P4
     have HQ4:=CX hq4;have hfl:[sig.take 32,pub,msg].flatten=sig.take 32++pub++msg:=AL
     have hfn:(sig.take 32++pub++msg).length=32+32+nm:=by rw[Ae,Ae,htl,hpl,hml]
     have HAL:AO (Below w7.heap.size w7 (w7.alloc (aa #[aM (aR ⟨bs,os,aS⟩) 32 cs,aM (aR ⟨bp,op,aS⟩) 32 cp,aM (aR ⟨bm,om,aS⟩) nm cm] 22))):=Ce _ _;have CC:AO (Calls tP 109 #[aM (aR ⟨w7.heap.size,0,aS⟩) 3 3] (w7.alloc (aa #[aM (aR ⟨bs,os,aS⟩) 32 cs,aM (aR ⟨bp,op,aS⟩) 32 cp,aM (aR ⟨bm,om,aS⟩) nm cm] 22)) _):=
      TY w7.heap.size 3 3 [aM (aR ⟨bs,os,aS⟩) 32 cs,aM (aR ⟨bp,op,aS⟩) 32 cp,aM (aR ⟨bm,om,aS⟩) nm cm] [sig.take 32,pub,msg] _ rfl AL
       (λi hi=>by
        rw[AA (AS w7 _) i]
        match i,hi with
        |0,_=>rfl
        |1,_=>rfl
        |2,_=>rfl)
       (λi hi=>by
        have bx:=HB7.o.trans (HAL.o.mono HB7.o.size)
        match i,hi with
        |0,_=>exact((HS.o.below bx).take 32).part 32 cs htl
        |1,_=>exact(HP.o.below bx).part 32 cp hpl
        |2,_=>exact(HM.o.below bx).part nm cm hml)
       (by rw[hfl,hfn];omega) (by rw[hfl,hfn];omega) AK
     rw[hfl] at CC;have HFN:=CX hfn;go_wp2_with fail;refine CC.o.mono ?_;rintro e w8 ⟨v8,rfl,o8,b8⟩;obtain⟨g8,c8,rfl,hA8,hc8⟩:=FK.of_own o8;have b78:=HAL.o.trans (b8.mono HAL.o.size);have HB8:=CY <| HB7.o.trans (b78.mono HB7.o.size)
     have HK8:=CY <| HK7.o.below b78 HK7.o.row.lt
     have HN8:=CY <| HN7.o.below b78 HN7.o.row.lt
     have HL8:=CY <| HL7.o.below b78 HL7.o.row.lt
     have HBY:AO (Cb (sig.take 32++pub++msg)):=λz hz=>by
      simp only[List.mem_append] at hz;rcases hz with (h|h)|h
      {exact Fj HZ.o.2.2 32 z h};{exact HZ.o.1 z h};{exact HZ.o.2.1 z h}
     have CH:=CX (Sx (aR ⟨g8,0,aS⟩) _ c8 (sig.take 32++pub++msg) w8 rfl hA8.at_ HBY.o (by rw[HFN.o];omega) hc8 (Fk HT.o.1 HT.o.2 HB8.o) (Ap HT.o.2 HB8.o.size));rw[HFN.o] at CH |-;go_wp2_with fail;refine CH.o.mono ?_;rintro e w9 ⟨v9,rfl,o9,b9⟩;obtain⟨g9,c9,rfl,hA9,hc9⟩:=FK.of_own o9;have HB9:=CY <| HB8.o.trans (b9.mono HB8.o.size)
     have HK9:=CY <| HK8.o.below b9 HK8.o.row.lt
     have HN9:=CY <| HN8.o.below b9 HN8.o.row.lt
     have HL9:=CY <| HL8.o.below b9 HL8.o.row.lt
     have hsl9:(F0 (sig.take 32++pub++msg)).length=64:=by unfold F0;rw[Gv,(Jo _ _ _).1]
     have CR:=CX (Mv (aR ⟨g9,0,aS⟩) 64 c9 (F0 (sig.take 32++pub++msg)) w9 hsl9 AK hA9.at_ (by unfold F0;exact I5 _));rw[hsl9];go_wp2_with fail;refine CR.o.mono ?_;rintro e w10 ⟨ks,hl,hw,hv,rfl,b10⟩;have HB10:=CY <| HB9.o.trans (b10.mono HB9.o.size)
     have HK10:=CY <| HK9.o.below b10 HK9.o.row.lt
     have HN10:=CY <| HN9.o.below b10 HN9.o.row.lt
     have HL10:=CY <| HL9.o.below b10 HL9.o.row.lt
     have CM:=CX (Is w.heap.size x1 y1 z1 t1 ks w10 HK10.o hl hw);rw[HE1.o,show val 18446744073709551616 ks=Kk pub msg sig from hv] at CM;go_wp2_with fail;refine CM.o.mono ?_;rintro e w11 ⟨x5,y5,z5,t5,P5,hw5,rfl,hq5⟩;have HB11:=CY <| HB10.o.trans (hw5.below w.heap.size Ch HB10.o.size)
     have HK11:=CY <| P5
     have HN11:=CY <| HN10.o.wrh2 hw5 AJ
     have HL11:=CY <| HL10.o.wrh2 hw5 AJ
     have HQ5:=CX hq5;have CA:=CX (Lw (w.heap.size+1) w.heap.size x2 y2 z2 t2 x5 y5 z5 t5 w11 HN11.o HK11.o);go_wp2_with fail;refine CA.o.mono ?_;intro e w12 h12;obtain⟨x6,y6,z6,t6,P6,hw6,rfl,hq6⟩:=h12.q4;have HB12:=CY <| HB11.o.trans (hw6.below w.heap.size AJ HB11.o.size)
     have HN12:=CY <| P6
     have HL12:=CY <| HL11.o.wrh2 hw6 AJ
     have HEQ:AO (decide (OB (ev x4) (ev y4) (ev z4)=OB (ev x6) (ev y6) (ev z6))=Hu pub msg sig):=by
      show _=_
      have hp1:Rd (D7 pub):=by rw[<-HE1.o];exact Tg _ _ _ _
      have hp2:Rd (D7 (sig.take 32)):=by rw[<-HE2.o];exact Tg _ _ _ _
      have hp3:Rd (D7 bB):=by rw[<-HE3.o];exact Tg _ _ _ _
      rw[HVR.o,<-TJ pub msg sig hp1 hp2 hp3];unfold XH;rw[<-HQ4.o,<-HQ5.o,<-HE2.o,<-hq6];rfl
     obtain⟨vr,hvr⟩:∃ v,v=Hu pub msg sig:=⟨_,rfl⟩
     rw[<-hvr] at HEQ;have HVV:=CX hvr;have CL:=CX (K7 (w.heap.size+1+1) x4 y4 z4 t4 w12 HL12.o);generalize OB (ev x4) (ev y4) (ev z4)=V1 at *;go_wp2_with fail;refine CL.o.mono ?_;rintro e w13 ⟨ls,hl1,hw1,hv1,rfl,b13⟩;have HB13:=CY <| HB12.o.trans (b13.mono HB12.o.size)
     have HN13:AO (Pt w13 (w.heap.size+1) x6 y6 z6 t6):=HN12.o.below b13 HN12.o.row.lt;have CR:=CX (K7 (w.heap.size+1) x6 y6 z6 t6 w13 HN13.o);generalize OB (ev x6) (ev y6) (ev z6)=V2 at *;have HW1:=CX (Al hw1 hv1);go_wp2_with fail;refine CR.o.mono ?_;rintro e w14 ⟨rs,hl2,hw2,hv2,rfl,b14⟩;have HB14:AO (Below w.heap.size w w14):=HB13.o.trans (b14.mono HB13.o.size);have HQ:AO (decide (ls=rs)=vr):=by
      show _=_
      rw[<-HEQ.o];obtain⟨hw1,hv1⟩:=HW1.o;by_cases h:ls=rs
      {rw[Aj h,Aj (by rw[<-hv1,<-hv2,h])]};{rw[Ac h,Ac (λe=>h (GQ (B:=18446744073709551616) AK hw1 hw2 AJ (by rw[hv1,hv2,e])))]}
     go_wp2_with (simp only[Id _ 9998 4 146 underlying146 ls rs hl1 hl2]);rw[HQ.o];simp only[Result.andThen_ok];go_simp;go_wp2
     go_ret
     exact⟨by rw[<-HVV.o];rfl,HB14.o⟩
 ·have HV:=CX (XR (pub:=pub) (msg:=msg) (sig:=sig) (by rw[hsl];exact h64));have h65:¬ ((ns:Int)=64):=AJ
  have h66:((ns:Int) != 64)=true:=by simpa using h65
  go_enter func92,ntmps92;go_wp2
  go_ret
  exact⟨by rw[HV.o];rfl,HB0.o⟩
variable {w w':aV} {g:Nat} {d u:List Int} {k:Int} {v:aX} {D U:Nat->Prop} {T:List Int} {n H B:Nat}
theorem I0 (a:Int) (a0:0<=a) (a1:a<=4294967295) (hb:Bk w g d u k v) (hd:DM d D) (hu:DM u U) (hv:Dg B w v T n) (h0:0<=k) (h1:k<=1048576) (hn:n<=1048576) (hH:H<=g) (hgB:Jn g v) :
  Calls tP 54 #[aY (aR ⟨g,0,aS⟩),aO aZ a] w (M0 H B g w (decide (a<=k+n)) D U (max a k) (T.drop (DW k a*2)) (n-DW k a)):=by
 obtain⟨ad,c,rfl⟩:=hv.slice;have HB:=CY <| hb
 have HV:=CY <| hv
 have HSD:=CY <| hd
 have HSU:=CY <| hu
 clear hb hv hd hu;go_enter func54,ntmps54;go_wp2_with fail;refine(Ip ad n c HB.o h0 h1 hn).mono ?_;rintro e w1 ⟨rfl,q,rfl⟩;have HB1:=CY <| HB.o.drew q
 have HV1:=CY <| HV.o.drew q
 have HW1:AO (Below H w (w.drewN q)):=Fu Cf q;clear HB HV;generalize w.drewN q=w1 at *;by_cases hle:a<=k+n
 ·have HD:=CY <| Aj hle
  have hle':¬ (a>k+n):=AJ
  have c0:=HB1.o.ck;have f0:=HB1.o.fz 64;have HC:AO (∀(e:Ending) (w2:aV),(e=aQ (.tuple #[])/\Below H w1 w2/\∃ v',Bk w2 g d u (k+DW k a) v'/\Dg B w2 v' (T.drop (DW k a*2)) (n-DW k a)/\Jn g v')->M0 H B g w (decide (a<=k+n)) D U (max a k) (T.drop (DW k a*2)) (n-DW k a) (aQ (.bool true)) w2):=by
   rintro e w2 ⟨rfl,r1,v',r2,r3,r4⟩;refine⟨by rw[HD.o],HW1.o.trans r1,λ_=>⟨d,u,v',?_,HSD.o,HSU.o,r3,r4⟩⟩;have e:k+(DW k a:Int)=max a k:=by unfold DW;omega
   rw[<-e];exact r2
  have CA:=PZ (DW k a) HB1.o HV1.o h0 h1 (by unfold DW;omega) hn hH hgB;by_cases hka:k<=a
  ·have e:k+(DW k a:Int)=a:=by unfold DW;omega
   rw[e] at CA;clear e;go_wp2_with fail;refine CA.mono ?_;intro e w2 h;have HF:=HC.o e w2 (by have e':k+(DW k a:Int)=a:=by unfold DW;omega
                                                                                              rw[e'];exact h)
   obtain⟨rfl,_⟩:=h;have HF':AO _:=HF;clear HF HC CA HB1 HV1 HW1 HSD HSU c0 f0;go_wp2
   go_ret
   exact HF'.o
  ·have e:k+(DW k a:Int)=k:=by unfold DW;omega
   rw[e] at CA;clear e;go_wp2_with fail;refine CA.mono ?_;intro e w2 h;have HF:=HC.o e w2 (by have e':k+(DW k a:Int)=k:=by unfold DW;omega
                                                                                              rw[e'];exact h)
   obtain⟨rfl,_⟩:=h;have HF':AO _:=HF;clear HF HC CA HB1 HV1 HW1 HSD HSU c0 f0;go_wp2
   go_ret
   exact HF'.o
 ·have HD:AO (decide (a<=k+n)=false):=Ac hle;have hle':a>k+n:=AJ
  have HF:AO (M0 H B g w (decide (a<=k+n)) D U (max a k) (T.drop (DW k a*2)) (n-DW k a) (aQ (.bool false)) w1):=⟨by rw[HD.o],HW1.o,λh=>by rw[HD.o] at h;cases h⟩
  clear HB1 HV1 HSD HSU;go_wp2
  go_ret
  exact HF.o
end Go.Proofs.YtncomnkdlpoelaaGreatDoor
