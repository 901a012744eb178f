import Derived.Test.YthmeoilbmfdhfaaGreatMSSy
import Derived.Test.YthmeoilbmfdhfaaGreatMLlA
open Go.Value renaming slice->UD,int->UE,pointer->UM,bool->UF,agg->UN
open Go.Obj renaming cells->UP
open Go.Ending renaming returned->UQ
open Option renaming some->UI,none->UJ
open Go renaming World->UK,Value->UL
namespace Go.Proofs.YthmeoilbmfdhfaaGreat
set_option maxHeartbeats 4000000
set_option maxRecDepth 100000
open Go.ChangeShapes Go.WideShapes Go.ChangeAt Go.RowKit
set_option linter.unusedVariables false
structure YR (D g:Nat) (w w':UK):Prop where
 os:w'.os=w.os
 tape:w'.tape=w.tape
 output:w'.output=w.output
 size:w.heap.size<=w'.heap.size
 block:∀ k,k<w.heap.size->k≠D->k≠g->w'.heap[k]?=w.heap[k]?
theorem YR.trans {D g:Nat} {a b c:UK} (h:YR D g a b) (k:YR D g b c):YR D g a c:=
 ⟨k.os.trans h.os,k.tape.trans h.tape,k.output.trans h.output,BC h.size k.size,λi hi h1 h2=>(k.block i (AG h.size) h1 h2).trans (h.block i hi h1 h2)⟩
theorem YR.of_wr {D g:Nat} {a b:UK} (h:Wr D a b):YR D g a b:=⟨h.os,h.tape,h.output,by rw[h.size];exact AY _,λk _ h1 _=>h.block k h1⟩
theorem YR.of_below {D g:Nat} {a b:UK} (h:Below a.heap.size a b):YR D g a b:=⟨h.os,h.tape,h.output,h.size,λk hk _ _=>h.block k hk⟩
theorem YR.of_ch {D g:Nat} {a b:UK} (h:Ch g (g+1) a b):YR D g a b:=⟨h.os,h.tape,h.output,h.size,λk hk _ h2=>h.block k hk AK⟩
structure YS (X:List UL) (T:TypeId) (w wr:UK) (D g L gc B:Nat) (cv:UL) (F:Int) (y:List Int):Prop where
 yr:YR D g w wr
 row:wr.heap[D]?=UI (UP (DC (UD (UI ⟨g,0,UJ⟩) L gc) cv F false X) T (0,0))
 own:DT wr B (UD (UI ⟨g,0,UJ⟩) L gc) y
theorem YS.grow {X:List UL} {T:TypeId} {w wr w':UK} {D g L gc B:Nat} {cv:UL} {F:Int} {y:List Int} (h:YS X T w wr D g L gc B cv F y) (hb:Below wr.heap.size wr w'):YS X T w w' D g L gc B cv F y:=
 ⟨h.yr.trans (YR.of_below hb),by rw[hb.block _ (AQ.1 h.row).1];exact h.row,h.own.grow hb⟩
theorem YS.turn {X:List UL} {T:TypeId} {w wr w':UK} {D g L gc B:Nat} {cv:UL} {F:Int} {y z:List Int} (h:YS X T w wr D g L gc B cv F y) (hc:Ch g (g+1) wr w') (hD:D≠g) (ho:DT w' B (UD (UI ⟨g,0,UJ⟩) L gc) z):YS X T w w' D g L gc B cv F z:=
 ⟨h.yr.trans (YR.of_ch hc),by rw[hc.block _ (AQ.1 h.row).1 AK];exact h.row,ho⟩
structure YX (X:List UL) (T:TypeId) (w w':UK) (D g L gc B:Nat) (cv:UL) (F:Int) (P s:Nat) (pc:Array UL) (y0:List Int):Prop where
 st:∃ y,YS X T w w' D g L gc B cv F y/\y.length=L/\y.take (s*64)=y0.take (s*64)/\y.drop (s*64+64)=y0.drop (s*64+64)
 pbx:w'.heap[P]?=UI (UP pc 106 (0,0))
 gp:g<P
theorem YX.grow {X:List UL} {T:TypeId} {w wr w':UK} {D g L gc B:Nat} {cv:UL} {F:Int} {P s:Nat} {pc:Array UL} {y0:List Int} (h:YX X T w wr D g L gc B cv F P s pc y0) (hb:Below wr.heap.size wr w'):YX X T w w' D g L gc B cv F P s pc y0:=by
 obtain⟨y,h1,h2⟩:=h.st;exact⟨⟨y,h1.grow hb,h2⟩,by rw[hb.block _ (AQ.1 h.pbx).1];exact h.pbx,h.gp⟩
def GZ (X:List UL) (T:TypeId) (w:UK) (D g L gc B:Nat) (cv:UL) (F:Int) (P s b6 o6 c6:Nat) (dz Y:List Int):Nat->UK->(Nat->UL)->Prop
 |0,_,u=>u 0=UM (UI ⟨D,0,UJ⟩)
 |1,_,u=>u 1=UM (UI ⟨P,0,UJ⟩)
 |2,_,u=>u 2=UE .i64 s
 |3,_,u=>u 3=UM (UI ⟨P,1,UJ⟩)
 |4,_,u=>u 4=UD (UI ⟨b6,o6,UJ⟩) 64 c6
 |5,_,u=>u 5=IZ dz
 |_,w',_=>YS X T w w' D g L gc B cv F Y
theorem RS (D:Nat) (a b:UL) (w:UK) {X:List UL} {T:TypeId} (h:w.heap[D]?=UI (UP (DC a b 0 false X) T (0,0))) :
  Calls Tryz.prog 108 #[UM (UI ⟨D,0,UJ⟩)] w λe w'=>e=.panicked [{ v:=Hy,recovered:=false }]/\w'.heap[D]?=UI (UP (DC a b 0 true X) T (0,0))/\Wr D w w':=by
 go_enter Tryz.func108,Tryz.ntmps108;go_wp2_with fail;refine(Mi D a b false w h).mono ?_;rintro e w1 ⟨rfl,h1,h2⟩;exact⟨rfl,rfl,h1,h2⟩
theorem Pm (D g L gc B:Nat) (ca:Option Addr) (m cc:Nat) (f:Int) (zs:List Int) (ps:List PD) (B1 U:Nat) (w:UK) {X:List UL} {T:TypeId} (h:w.heap[D]?=UI (UP (DC (UD (UI ⟨g,0,UJ⟩) L gc) (UD ca m cc) f false X) T (0,0)))
  (hO:DT w B (UD (UI ⟨g,0,UJ⟩) L gc) zs) (hP:Dq B1 U w ca ps) (hgB:g<B1) (hUD:U<=D\/(D<B1/\U<=w.heap.size)) (hL:zs.length=L) (hm:ps.length=m) (hz:L<=1048576) (hn:m<=1048576) (v1:L%64=0) (hok:Ia L ps) (hf:f=-1\/0<f) (hf2:f<=9223372036854775807) (hT:T≠5:=by decide) :
  Calls Tryz.prog 108 #[UM (UI ⟨D,0,UJ⟩)] w λe w'=>e=UQ (.tuple #[])/\w'.heap[D]?=UI (UP (DC (UD (UI ⟨g,0,UJ⟩) L gc) (UD UJ 0 0) (EG f) false X) T (0,0))/\DT w' B (UD (UI ⟨g,0,UJ⟩) L gc) (Fb zs ps m)/\YR D g w w':=by
 have HSP:AP _:=Tryz.sizePd;have hDg:D≠g:=by
  intro e;obtain⟨_,_,cur,h3⟩:=DI hO.1 g rfl;rw[<-e,h] at h3;simp at h3;exact hT h3.2
 have hgw:=(DI hO.1 g rfl).2.1;have hDw:=(AQ.1 h).1;have HP:AP (Dq B1 U w ca ps):=hP;have HOK:AP (Ia L ps):=hok;have HHL:AP (zs.length=L/\ps.length=m):=⟨hL,hm⟩
 have HLN:AP (∀ k,k<=m->(Fb zs ps k).length=L):=λk hk=>by rw[Ms (by rw[hL];exact hok) (by rw[hL];exact v1) k (by rw[hm];exact hk),hL]
 have HROW:AP _:=h;have HOWN:AP (DT w B (UD (UI ⟨g,0,UJ⟩) L gc) zs):=hO;have HBURN:=LJ D _ _ f false w h hf hf2;clear h hO hP hok hL hm;go_enter Tryz.func108,Tryz.ntmps108;go_wp2_with fail;refine HBURN.mono ?_;clear HBURN HROW;rintro e w1 ⟨rfl,hr1,hw1⟩;obtain⟨F,hF⟩:∃ F,EG f=F:=⟨_,rfl⟩
 rw[hF] at hr1;have HF:AP (EG f=F):=hF;clear hF;have st1:YS X T w w1 D g L gc B (UD ca m cc) F (Fb zs ps 0):=⟨YR.of_wr hw1,hr1,DT.keep HOWN.o (λk e=>hw1.block k (by simp[Value.ownBlock] at e;omega))⟩
 obtain⟨c0,c1,c2,c3⟩:=Ji st1.row;have HS1:AP (YS X T w w1 D g L gc B (UD ca m cc) F (Fb zs ps 0)):=st1;clear st1 hr1 hw1 HOWN;go_wp2;have st1:=HS1.o;clear HS1 c0 c1 c2 c3
 go_loopw [11] (λi wr=>∃ k:Nat,k<=m/\i=UE .i64 k/\YS X T w wr D g L gc B (UD ca m cc) F (Fb zs ps k)) (λi _=>m-(intOf i).toNat)
 case atStart=>exact⟨0,Aj _,rfl,st1⟩
 case round=>
  obtain⟨k,hk,rfl,st⟩:=hrel;clear st1;have hlen:=HLN.o k hk;by_cases hlt:k<m
  ·obtain⟨s,hs,hsl,hd⟩:=Ia.at_ HOK.o v1 (i:=k) (by rw[HHL.o.2];exact hlt);have hPr:Dq B1 U wr ca ps:=Dq.keep HP.o (λj hj hj'=>st.yr.block j AK AK AK) st.yr.size;obtain⟨b5,o5,b6,o6,c6,rfl,hb5,q1,q2,q3,q4⟩:=hPr.entry (i:=k) (by rw[HHL.o.2];exact hlt) (by rw[hd];decide);have hnew:=H6 (zs:=zs) (by rw[HHL.o.2];exact hlt) hs hd;rw[hs] at q1;rw[hd] at q2;have hb6:Dq B1 U wr (UI ⟨b5,o5,UJ⟩) ps:=hPr;have hlt':(k:Int)<m:=AK
   have HST:AP (YS X T w wr D g L gc B (UD (UI ⟨b5,o5,UJ⟩) m cc) F (Fb zs ps k)):=st;have HNEW:AP (Fb zs ps (k+1)=Dc (Fb zs ps k) s (ps.getD k (0,[])).2):=hnew;have HD:AP ((ps.getD k (0,[])).2.length=64):=hd;have HLK:AP ((Fb zs ps k).length=L):=hlen;have HPR:AP (Dq B1 U wr (UI ⟨b5,o5,UJ⟩) ps):=hPr;have HSEC:AP (∀ ww:UK,At .u8 ww (UI ⟨b6,o6,UJ⟩) (ps.getD k (0,[])).2->Calls Tryz.prog 131 #[UD (UI ⟨b6,o6,UJ⟩) 64 c6] ww λe w'=>e=UQ (IZ ((ps.getD k (0,[])).2.take 64))/\Below ww.heap.size ww w'):=λww h1=>FL (UI ⟨b6,o6,UJ⟩) 64 c6 (ps.getD k (0,[])).2 ww hd Cw h1
   have HQ4:AP (At .u8 wr (UI ⟨b6,o6,UJ⟩) (ps.getD k (0,[])).2):=q4;have hgw':g<wr.heap.size:=AG st.yr.size
   have hb6b:∃ j6,j6=b6/\b6≠g:=by
    refine⟨b6,rfl,?_⟩;rcases hPr with h|⟨gg,oo,X,C,e1,e2,e3,e4,e5,e6⟩
    ·have:=HHL.o.2;rw[h] at this;simp at this;omega
    ·obtain⟨p1,p2,p3,p4,p5,p6,p7⟩:=e5 k (by rw[HHL.o.2];exact hlt);cases e1;rw[p3,hd] at q2;simp at q2;have:=p6 ⟨b6,o6,UJ⟩ q2.1;have h1:B1<=b6:=this.1;omega
   obtain⟨_,_,hb6g⟩:=hb6b;clear st hnew hd hlen q4 hPr hb6 hs;go_wp2_with (refine EJ rfl 106 (.tmp 3) (.tmp 14) rfl wr.heap.size #[UE .i64 s,UD (UI ⟨b6,o6,UJ⟩) 64 c6] rfl rfl 106 _ (AV wr _) HSP.o rfl (Ru _ _ _ _) ?_);intro w3 hr3 hw3;have hb3:Below wr.heap.size wr w3:=(Cs.alloc Cw _).trans (hw3.below Cw);have hPl:wr.heap.size<w3.heap.size:=(AQ.1 hr3).1;have HX3:AP (YX X T w w3 D g L gc B (UD (UI ⟨b5,o5,UJ⟩) m cc) F wr.heap.size s #[UE .i64 s,UD (UI ⟨b6,o6,UJ⟩) 64 c6] (Fb zs ps k)):=
    ⟨⟨_,YS.grow HST.o hb3,HLK.o,rfl,rfl⟩,hr3,hgw'⟩
   have HA3:AP (At .u8 w3 (UI ⟨b6,o6,UJ⟩) (ps.getD k (0,[])).2):=At.below HQ4.o hb3;clear hr3 hw3 hb3 HST HQ4 q1 q2 hb5;generalize wr.heap.size=P at *;have hdl:((ps.getD k (0,[])).2.take 64).length=64:=by rw[Az,HD.o];rfl
   have HDL:AP (((ps.getD k (0,[])).2.take 64).length=64):=hdl;have HMIX:AP (∀ yy:List Int,yy.length=L->yy.take (s*64)=(Fb zs ps k).take (s*64)->yy.drop (s*64+64)=(Fb zs ps k).drop (s*64+64)->Dc yy s ((ps.getD k (0,[])).2.take 64)=Fb zs ps (k+1)):=by
    intro yy h1 h2 h3;have hdt:(ps.getD k (0,[])).2.take 64=(ps.getD k (0,[])).2:=An (by rw[HD.o];exact AY _);rw[HNEW.o,hdt];unfold Dc;rw[HD.o,h2,h3]
   obtain⟨Y,hY⟩:∃ Y,Fb zs ps (k+1)=Y:=⟨_,rfl⟩
   obtain⟨dz,hdz⟩:∃ dz,(ps.getD k (0,[])).2.take 64=dz:=⟨_,rfl⟩
   rw[hdz] at HDL HSEC;rw[hdz,hY] at HMIX;have HY:AP (Fb zs ps (k+1)=Y):=hY;clear hlt' HNEW hdl hY hdz HLK;go_wp2_with fail;refine Ae AN ?_;refine EO (frame:=(λ(a b c d e f g h i j k l m n o p q r s:UL)=>λ(t:Nat->UL)=>({ tmps:=List.toArray [a,b,c,d,e,f,g,h,i,j,k,l,m,n,o,t 0,t 1,t 2,t 3,t 4,t 5,t 6,p,q,r,s],defers:=[] }:Act)) _ _ _ _ _ _ _ _ _ _ _ _ _ _ _ _ _ _ _)
    (Ext:=λw'=>YX X T w w' D g L gc B (UD (UI ⟨b5,o5,UJ⟩) m cc) F P s #[UE .i64 s,UD (UI ⟨b6,o6,UJ⟩) 64 c6] (Fb zs ps k)/\At .u8 w' (UI ⟨b6,o6,UJ⟩) (ps.getD k (0,[])).2) (Good:=GZ X T w D g L gc B (UD (UI ⟨b5,o5,UJ⟩) m cc) F P s b6 o6 c6 dz Y) (M:=λi w w'=>i≠6->Below w.heap.size w w') ?hstab AN ?hop ?hdone _ _ ((λ(x0 x1 x2 x3 x4 x5 x6:UL)=>λ(i:Nat)=>if i=0 then x0 else if i=1 then x1 else if i=2 then x2 else if i=3 then x3 else if i=4 then x4 else if i=5 then x5 else if i=6 then x6 else undef) _ _ _ _ _ _ _) _ AM ?ext ?start ?clo AM
   case start=>intro i hi h;exact absurd h E0
   case clo=>intro i o ho h;exact absurd h E0
   case ext=>exact⟨YX.grow HX3.o Cs.drew,At.below HA3.o Cs.drew⟩
   case hstab=>
    intro j o w1 w2 u i v ho hM hij _ hg;have hj:j<7:=(AQ.1 ho).1;obtain rfl|rfl|rfl|rfl|rfl|rfl|rfl:j=0\/j=1\/j=2\/j=3\/j=4\/j=5\/j=6:=AK
    all_goals simp only[GZ] at hg |-
    all_goals first
     |(rw[MV hij];exact hg)
     |exact hg.grow (hM hij)
   case hdone=>
    intro t w2 hx hg;have h9:=hg 6 AL;have H9:AP _:=h9;clear hg hx h9;dsimp only;generalize t 0=t0;generalize t 1=t1;generalize t 2=t2;generalize t 3=t3;generalize t 4=t4;generalize t 5=t5;generalize t 6=t6;go_wp2;go_roundw
    case rel=>exact⟨k+1,AK,by go_num,by rw[HY.o];exact H9.o⟩
    case measure=>simp[intOf];omega
   case hop=>
    intro i o t w' ho hx hdep K hK;obtain⟨hx,hAx⟩:=hx;have hi:i<7:=(AQ.1 ho).1;obtain⟨p0,p1⟩:=TB hx.pbx;obtain⟨yy,hil,hyl,hy1,hy2⟩:=hx.st;have HIL:AP (YS X T w w' D g L gc B (UD (UI ⟨b5,o5,UJ⟩) m cc) F yy):=hil;clear hil;obtain rfl|rfl|rfl|rfl|rfl|rfl|rfl:i=0\/i=1\/i=2\/i=3\/i=4\/i=5\/i=6:=AK
    all_goals(simp at ho;subst ho)
    ·clear hdep;go_simp;exact hK w' (UM (UI ⟨D,0,UJ⟩)) rfl ⟨hx,hAx⟩ (λ_=>Ad _ _)
    ·clear hdep;go_simp;exact hK w' (UM (UI ⟨P,0,UJ⟩)) rfl ⟨hx,hAx⟩ (λ_=>Ad _ _)
    ·have d1:t 1=_:=hdep ⟨1,.data⟩ AM rfl;clear hdep;go_simp;simpa[Cr,d1] using hK w' (UE .i64 s) rfl ⟨hx,hAx⟩ (λ_=>Ad _ _)
    ·clear hdep;go_simp;exact hK w' (UM (UI ⟨P,1,UJ⟩)) rfl ⟨hx,hAx⟩ (λ_=>Ad _ _)
    ·have d3:t 3=_:=hdep ⟨3,.data⟩ AM rfl;clear hdep;go_simp;simpa[Cr,d3] using hK w' (UD (UI ⟨b6,o6,UJ⟩) 64 c6) rfl ⟨hx,hAx⟩ (λ_=>Ad _ _)
    ·have d4:t 4=_:=hdep ⟨4,.data⟩ AM rfl;clear hdep;have e:=HSEC.o w' hAx;go_simp;refine e.mono ?_;rintro e w9 ⟨rfl,hb9⟩;have hK':=hK w9 (IZ dz) rfl ⟨hx.grow hb9,hAx.below hb9⟩ (λ_=>hb9);clear hK;go_simp;simpa[Cr,d4] using hK'
    ·have d0:t 0=_:=hdep ⟨0,.data⟩ AM rfl;have d2:t 2=_:=hdep ⟨2,.data⟩ AM rfl;have d5:t 5=_:=hdep ⟨5,.data⟩ AM rfl;clear hdep;have hmix:=HMIX.o yy hyl hy1 hy2;have hdl:=HDL.o;have hst:=Nj D g L gc (UI ⟨b5,o5,UJ⟩) m cc F false s B yy dz w' HIL.o.row HIL.o.own hyl hz hdl hsl hT;have hov:(Dc yy s dz).length=L:=by rw[Eh _ _ _ AK];exact hyl
     have htk:(Dc yy s dz).take (s*64)=yy.take (s*64):=by
      unfold Dc;rw[List.take_append_of_le_length (by simp;omega),List.take_take,Nat.min_self]
     have hdr:(Dc yy s dz).drop (s*64+64)=yy.drop (s*64+64):=by
      unfold Dc;rw[hdl,<-By,List.drop_append_of_le_length (by rw[Al,hdl,Az];omega),Bz (by rw[Al,hdl,Az];omega)];simp
     rw[hmix] at hst hov htk hdr;rw[hy1] at htk;rw[hy2] at hdr;have HFIN:AP _:=Ac hov (Ac htk hdr);clear hov htk hdr hmix hdl hy1 hy2;go_simp;refine hst.mono ?_;rintro e w9 ⟨rfl,ho9,hc9⟩;have st9:=YS.turn HIL.o hc9 hDg ho9;have hPl':P<w'.heap.size:=(AQ.1 hx.pbx).1;have hgp:=hx.gp;have hX9:YX X T w w9 D g L gc B (UD (UI ⟨b5,o5,UJ⟩) m cc) F P s #[UE .i64 s,UD (UI ⟨b6,o6,UJ⟩) 64 c6] (Fb zs ps k):=
      ⟨⟨_,st9,HFIN.o.1,HFIN.o.2.1,HFIN.o.2.2⟩,by rw[hc9.block _ hPl' (.inr AK)];exact hx.pbx,hgp⟩
     have hA9:At .u8 w9 (UI ⟨b6,o6,UJ⟩) (ps.getD k (0,[])).2:=hAx.keep (λad e=>by
      cases e;rcases hAx with h|⟨bb,oo,e1,e2,_⟩
      ·have:=HD.o;rw[h] at this;simp at this
      ·cases e1;exact hc9.block b6 e2 AK) hc9.size
     have hK':=hK w9 (.tuple #[]) st9 ⟨hX9,hA9⟩ (λh=>absurd rfl h);clear hK;go_simp;simpa[Cr,d0,d2,d5] using hK'
  ·have hkm:k=m:=AK
   subst hkm;have hlt':¬ (k:Int)<k:=AK
   obtain⟨c0,c1,c2,c3⟩:=Ji st.row;have f1:=Ag wr D 1 _ _ st.row;have HR:AP ((wr.setCell ⟨D,1,UJ⟩ (UD UJ 0 0)).heap[D]?=UI (UP (DC (UD (UI ⟨g,0,UJ⟩) L gc) (UD UJ 0 0) F false X) T (0,0))):=Du (i:=1) _ st.row DC.s1;have hwr:Wr D wr (wr.setCell ⟨D,1,UJ⟩ (UD UJ 0 0)):=(Wr.refl D wr).setCell 1 _;have HO:AP (DT (wr.setCell ⟨D,1,UJ⟩ (UD UJ 0 0)) B (UD (UI ⟨g,0,UJ⟩) L gc) (Fb zs ps k)):=st.own.keep (λj e=>hwr.block j (by simp[Value.ownBlock] at e;omega));have HY:AP (YR D g w (wr.setCell ⟨D,1,UJ⟩ (UD UJ 0 0))):=st.yr.trans (YR.of_wr hwr);clear st hwr hlen;go_wp2
   first|go_end0|go_ret
   exact⟨rfl,by rw[HF.o];exact HR.o,HO.o,HY.o⟩
structure DB (D g L gc B:Nat) (zs:List Int) (w:UK):Prop where
 row:w.heap[D]?=UI (UP #[UD (UI ⟨g,0,UJ⟩) L gc,UD UJ 0 0,UE .i64 (-1),UF false] 40 (0,0))
 own:DT w B (UD (UI ⟨g,0,UJ⟩) L gc) zs
theorem Mu {w:UK} {q:Nat} {t:TypeId} {zz:List Int} (h:DP w q t zz) (o n:Nat) (hl:o+n<=zz.length):w.rangeAt q o (((zz.drop o).take n).map (Value.int .u8)):=by
 intro j v hv;have hj:j<n:=by have:=(Af.1 hv).1;simp at this;omega
 rw[h.cell (o+j) AK];rw[CM,BS hj,List.getElem?_drop] at hv;rw[Ao];cases hz:zz[o+j]? with
 |none=>rw[hz] at hv;simp at hv
 |some x=>rw[hz] at hv;simpa using hv
section
variable {zs:List Int} {m:Nat}
theorem Ha {x z:List Int} (s:Nat) (h:Cu x) (h':Cu z):Cu (Dc x s z):=λy hy=>by
 unfold Dc at hy;rcases CV.1 hy with h1|h1
 ·exact h _ (Bi h1)
 ·rcases CV.1 h1 with h1|h1
  ·exact h' _ h1
  ·exact h _ (List.mem_of_mem_drop h1)
end
theorem Fc {w:UK} {B g n c:Nat} {zs:List Int} (h:DT w B (UD (UI ⟨g,0,UJ⟩) n c) zs):B<=g/\g<w.heap.size/\zs.length<=c/\At .u8 w (UI ⟨g,0,UJ⟩) zs/\zs.length=n:=by
 obtain⟨g',c',e,q1,q2,q3,q4,q5⟩:=h.at_;simp only[Value.slice.injEq,Option.some.injEq,Addr.mk.injEq] at e;obtain⟨⟨rfl,_⟩,e2,rfl⟩:=e;exact⟨q1,q2,q3,q4,e2.symm⟩
theorem YR.below {B D g:Nat} {w w':UK} (h:YR D g w w') (h1:B<=D) (h2:B<=g) (hB:B<=w.heap.size):Below B w w':=⟨h.os,h.tape,h.output,h.size,λk hk=>h.block k AK AK AK⟩
section
variable {lo lo':Nat} {w w':UK} {X:Array UL} {c:Int} {zs ks:List Int} {f:Int} {d:Bool} {r:Dt}
theorem GP.no (lo:Nat) (w:UK):GP lo w Ci [] [] 0 false Et:=
 ⟨UJ,0,UJ,0,UJ,0,UJ,0,0,UJ,0,0,UJ,0,0,UJ,0,0,UJ,0,0,UJ,0,rfl,⟨AY _,AY _⟩,EF.nil _ _,EF.nil _ _,⟨.inl rfl,.inl rfl,.inl rfl,.inl rfl,.inl rfl,.inl rfl,rfl,rfl,rfl,rfl,rfl,rfl⟩,
  ⟨lo,lo,⟨.inl rfl,.inl rfl,.inl rfl,.inl rfl,.inl rfl,.inl rfl,λ_ e=>(by cases e),λ_ e=>(by cases e),λ_ e=>(by cases e),λ_ e=>(by cases e),λ_ e=>(by cases e),λ_ e=>(by cases e),λ_ _ e=>(by cases e),λ_ _ e=>(by cases e),λ_ _ e=>(by cases e),λ_ _ e=>(by cases e),λ_ e=>(by rcases e with e|e<;>cases e),λ_ e=>(by cases e)⟩⟩,λ_ e=>(by cases e),λ_ e=>(by cases e)⟩
end
def KE (D g L gc B H:Nat) (X:List UL) (T:TypeId) (zs:List Int) (ps:List PD) (f:Int) (d:Bool) (w:UK):Prop:=
 ∃ E cv qs,g<E/\D<E/\H<=E/\E<=w.heap.size/\w.heap[D]?=UI (UP (DC (UD (UI ⟨g,0,UJ⟩) L gc) cv f d X) T (0,0))/\DT w B (UD (UI ⟨g,0,UJ⟩) L gc) zs/\Dk w E cv qs/\Fr qs=ps/\(ps=[]->cv=UD UJ 0 0)
abbrev LT:Ending:=.panicked [{ v:=Hy,recovered:=false }]
section
variable {D g L gc B H s:Nat} {X:List UL} {T:TypeId} {zs z:List Int} {ps:List PD} {f:Int} {d:Bool} {w w':UK}
theorem KE.lt (h:KE D g L gc B H X T zs ps f d w):D<w.heap.size/\g<w.heap.size:=by obtain⟨E,cv,qs,h1,h2,h3,h4,_⟩:=h;omega
theorem KE.below (h:KE D g L gc B H X T zs ps f d w) (b:Below w.heap.size w w'):KE D g L gc B H X T zs ps f d w':=by
 have hl:=h.lt;obtain⟨E,cv,qs,h1,h2,h3,h4,hr,ho,hp,hq,hn⟩:=h;exact⟨E,cv,qs,h1,h2,h3,AG b.size,by rw[b.block D hl.1];exact hr,ho.grow b,hp.below b,hq,hn⟩
theorem YR.wr9 (h:WR D (UD UJ 0 0).ownBlock w w'):YR D g w w':=⟨h.os,h.tape,h.output,h.size,λk hk h1 _=>h.block k hk h1 (by simp[Value.ownBlock])⟩
theorem Tw (h:KE D g L gc B H X T zs [] f false w) (hDg:D≠g) (hz:z.length=64) (hf:f=-1\/0<f) (hf2:f<=9223372036854775807) (hT:T=40\/T=48) (si:Int) :
  Calls Tryz.prog 107 #[UM (UI ⟨D,0,UJ⟩),UE .i64 si,UN (z.map (Value.int .u8)).toArray] w λe w'=>e=UQ (.tuple #[])/\KE D g L gc B H X T zs [(si,z)] (EG f) false w'/\YR D g w w':=by
 have hl:=h.lt;obtain⟨E,cv,qs,h1,h2,h3,h4,hr,ho,hp,hq,hn⟩:=h;obtain rfl:=hn rfl;refine(Nq D w.heap.size (UD (UI ⟨g,0,UJ⟩) L gc) (UD UJ 0 0) [] f si z w hr (Dk.nil _ _) Cw hz hf hf2 AM hT).mono ?_;rintro e w' ⟨rfl,cv',q,e1,e2,hD,hP,hW⟩;refine⟨rfl,⟨w.heap.size,cv',_,hl.2,hl.1,AK,hW.size,hD,ho.keep (λk hk=>?_),hP,by simp[Fr,e1,e2],λh=>(by cases h)⟩,YR.wr9 hW⟩;simp[Value.ownBlock] at hk;subst hk;exact hW.block g hl.2 (λe=>hDg e.symm) (by simp[Value.ownBlock])
theorem Tx (h:KE D g L gc B H X T zs [] 0 false w) (hDg:D≠g) (si:Int) :
  Calls Tryz.prog 107 #[UM (UI ⟨D,0,UJ⟩),UE .i64 si,UN (z.map (Value.int .u8)).toArray] w λe w'=>e=LT/\KE D g L gc B H X T zs [] 0 true w'/\YR D g w w':=by
 have hl:=h.lt;obtain⟨E,cv,qs,h1,h2,h3,h4,hr,ho,hp,hq,hn⟩:=h;obtain rfl:=hn rfl;refine(PY D _ _ si z w hr).mono ?_;rintro e w' ⟨rfl,hD,hW⟩;refine⟨rfl,⟨w.heap.size,_,[],hl.2,hl.1,AK,hW.size,hD,ho.keep (λk hk=>?_),Dk.nil _ _,rfl,λ_=>rfl⟩,YR.wr9 hW⟩;simp[Value.ownBlock] at hk;subst hk;exact hW.block g hl.2 (λe=>hDg e.symm) AM
theorem Ty (h:KE D g L gc B H X T zs [((s:Int),z)] f false w) (hDg:D≠g) (hL:zs.length=L) (hz:L<=1048576) (v1:L%64=0) (hz64:z.length=64) (hs:s<L/64) (hf:f=-1\/0<f) (hf2:f<=9223372036854775807) (hT:T=40\/T=48) :
  Calls Tryz.prog 108 #[UM (UI ⟨D,0,UJ⟩)] w λe w'=>e=UQ (.tuple #[])/\KE D g L gc B H X T (Dc zs s z) [] (EG f) false w'/\YR D g w w':=by
 have hl:=h.lt;obtain⟨E,cv,qs,h1,h2,h3,h4,hr,ho,hp,hq,hn⟩:=h;obtain⟨ca,cc,rfl,hPM⟩:=hp.mine;have hql:qs.length=1:=by have:=congrArg List.length hq;simpa[Fr] using this
 rw[hq] at hPM;rw[hql] at hr;have hok:Ia L [((s:Int),z)]:=λi hi=>by
  obtain rfl:i=0:=by simpa using hi
  exact⟨AM,by show(s:Int)<((L/64:Nat):Int);omega,by simpa using hz64⟩
 refine(Pm D g L gc B ca 1 cc f zs [((s:Int),z)] E w.heap.size w hr ho hPM h1 (.inr ⟨h2,AY _⟩) hL rfl hz AL v1 hok hf hf2 (by rcases hT with rfl|rfl<;>decide)).mono ?_;rintro e w' ⟨rfl,hD2,hO2,hY⟩;have hsy:Fb zs [((s:Int),z)] 1=Dc zs s z:=H6 (zs:=zs) (ps:=[((s:Int),z)]) (k:=0) (s:=s) AM rfl hz64;rw[hsy] at hO2;exact⟨rfl,⟨w.heap.size,_,[],hl.2,hl.1,AK,hY.size,hD2,hO2,Dk.nil _ _,rfl,λ_=>rfl⟩,hY⟩
theorem Tz (h:KE D g L gc B H X T zs ps 0 false w) (hDg:D≠g) (hT:T=40\/T=48) :
  Calls Tryz.prog 108 #[UM (UI ⟨D,0,UJ⟩)] w λe w'=>e=LT/\KE D g L gc B H X T zs ps 0 true w'/\YR D g w w':=by
 obtain⟨E,cv,qs,h1,h2,h3,h4,hr,ho,hp,hq,hn⟩:=h;refine(RS D _ _ w hr).mono ?_;rintro e w' ⟨rfl,hD,hW⟩;refine⟨rfl,⟨E,cv,qs,h1,h2,h3,by rw[hW.size];exact h4,hD,ho.keep (λk hk=>?_),hp.keepD (λk cur t hh ht=>hW.block k (λe=>by rw[e,hr] at hh;simp at hh;exact ht hh.2.symm)) hT,hq,hn⟩,YR.of_wr hW⟩;simp[Value.ownBlock] at hk;subst hk;exact hW.block g (λe=>hDg e.symm)
end
def Jj (zs:List Int) (f:Int) (s:Nat) (z0 z1:List Int):List Int×List PD×Int×Bool:=
 if f=0 then(zs,[],0,true) else if f=1 then(zs,[((s:Int),z0)],0,true) else if f=2 then(Dc zs s z0,[],0,true) else if f=3 then(Dc zs s z0,[((s:Int)+1,z1)],0,true) else(Dc (Dc zs s z0) (s+1) z1,[],if f=-1 then -1 else f-4,false)
def T0 (d:Bool):Ending:=if d then LT else UQ (.tuple #[])
def TJ (D g L gc B H:Nat) (X:List UL) (T:TypeId) (o:List Int×List PD×Int×Bool) (w:UK) (e:Ending) (w':UK):Prop:=e=T0 o.2.2.2/\KE D g L gc B H X T o.1 o.2.1 o.2.2.1 o.2.2.2 w'/\YR D g w w'
theorem Im {f:Int} (h:0<f):EG f=f-1:=by unfold EG;rw[AR h]
theorem T9 (D g L gc B H s:Nat) (X:List UL) (T:TypeId) (gn tl:Int) (aD aU:Option Addr) (nD cD nU cU:Nat) (DS US zs:List Int) (f:Int) (w:UK) (h:KE D g L gc B H X T zs [] f false w) (hDg:D≠g) (hL:zs.length=L) (hz:L<=1048576) (v1:L%64=0) (v2:4<=L/64)
  (hT:T=40\/T=48) (hf:-1<=f) (hf2:f<=9223372036854775807) (hD:DS.length=nD) (hU:US.length=nU) (mD:nD<=1048576) (mU:nU<=1048576) (haD:At .i64 w aD DS) (haU:At .i64 w aU US) (ug:D8 gn) (ut:D8 tl) (hs:Jb gn tl DS US) (hsn:gn%2*2=(s:Int)) (z0 z1:List Int) (hz0:(Gz gn tl DS US).take 64=z0) (hz1:(Gz gn tl DS US).drop 64=z1) :
  Calls Tryz.prog 58 #[UM (UI ⟨D,0,UJ⟩),UN #[UE .u32 gn,UE .u32 tl,UD aD nD cD,UD aU nU cU]] w (TJ D g L gc B H X T (Jj zs f s z0 z1) w):=by
 have hs2:s<=2:=by have:=Int.emod_lt_of_pos gn (show(0:Int)<2 by decide);omega
 have HO0:AP (OE w 30 #[UE .u32 gn,UE .u32 tl,UD aD nD cD,UD aU nU cU] (w.alloc (UP #[UE .u32 gn,UE .u32 tl,UD aD nD cD,UD aU nU cU] 30))):=OE.start _ _ _;have HENC:=Cq (λww (b:Below w.heap.size w ww) hh c0 c1 c2 c3=>Kz w.heap.size gn tl aD aU nD cD nU cU DS US ww hh c0 c1 c2 c3 hD hU mD mU (haD.below b) (haU.below b) ug ut hs);have HB:=Cq h;have HT:=Cq hT;have HV:AP (D≠g/\zs.length=L/\L<=1048576/\L%64=0/\4<=L/64):=⟨hDg,hL,hz,v1,v2⟩
 have HF:AP (-1<=f/\f<=9223372036854775807):=⟨hf,hf2⟩
 have HQ2:AP (gn%2*2=(s:Int)/\s<=2):=⟨hsn,hs2⟩
 have HU:AP (0<=gn/\gn<4294967296):=ug;have HZL:AP ((Gz gn tl DS US).length=128):=Gr;have HZ:=Cq (Ac hz0 hz1);clear h hDg hL hz v1 v2 hT hD hU mD mU haD haU ug ut hs hsn hf hf2 hs2 hz0 hz1;go_enter Tryz.func58,Tryz.ntmps58;go_wp2_with fail;generalize (w.alloc (UP #[UE .u32 gn,UE .u32 tl,UD aD nD cD,UD aU nU cU] 30))=w1 at *;refine(HENC.o w1 HO0.o.below HO0.o.lt (by rw[AA HO0.o.b0 0];rfl) (by rw[AA HO0.o.b0 1];rfl) (by rw[AA HO0.o.b0 2];rfl) (by rw[AA HO0.o.b0 3];rfl)).mono ?_;rintro e w2 ⟨rfl,hb2⟩;have HO2:AP (OE w 30 #[UE .u32 gn,UE .u32 tl,UD aD nD cD,UD aU nU cU] w2):=HO0.o.call hb2;clear hb2 HO0 HENC;generalize Gz gn tl DS US=zz at *;have HN:AP ((w2.alloc (UP Tryz.zeroCells124 124)).heap[w2.heap.size]?=UI (UP Tryz.zeroCells124 124 (0,0))):=AV w2 _;have hsz:(zz.map (Value.int .u8)).toArray.size=128:=by rw[BX,BI];exact HZL.o
 have HSZ:AP ((Tryz.prog.info? 124).map (·.size)=UI (zz.map (Value.int .u8)).toArray.size):=by show _=_;rw[hsz];kernel_rfl
 have HEQ:AP ((Tryz.zeroCells124).size=(zz.map (Value.int .u8)).toArray.size):=by show _=_;rw[hsz];kernel_rfl
 have HOK:AP ((zz.map (Value.int .u8)).toArray.all (λx=>x.oneCell')=true):=by show _=_;simp[Value.oneCell']
 have HR:AP (DP ((w2.alloc (UP Tryz.zeroCells124 124)).setRow w2.heap.size (zz.map (Value.int .u8)).toArray) w2.heap.size 124 zz):=AB HN.o;have b3:Below w2.heap.size w2 ((w2.alloc (UP Tryz.zeroCells124 124)).setRow w2.heap.size (zz.map (Value.int .u8)).toArray):=(Cs.alloc Cw _).trans ((Wr.setRow _ _ _).below Cw);have HO3:AP (OE w 30 #[UE .u32 gn,UE .u32 tl,UD aD nD cD,UD aU nU cU] ((w2.alloc (UP Tryz.zeroCells124 124)).setRow w2.heap.size (zz.map (Value.int .u8)).toArray)):=HO2.o.call b3;have HQ:AP (D<w2.heap.size/\g<w2.heap.size):=⟨Ax HB.o.lt.1 HO2.o.below.size,Ax HB.o.lt.2 HO2.o.below.size⟩
 clear hsz HO2 b3
 go_upto_region 2 with (first
  |(refine AC 124 (.tmp 4) (.tmp 6) w2.heap.size (zz.map (Value.int .u8)).toArray 124 HN.o HSZ.o HEQ.o HOK.o ?_)
  |fail)
 clear HN HSZ HEQ HOK;generalize ((w2.alloc (UP Tryz.zeroCells124 124)).setRow w2.heap.size (zz.map (Value.int .u8)).toArray)=w3 at *;generalize w2.heap.size=q at *;have c0:=AA HO3.o.b0 0;simp at c0;go_wp2_with fail;refine(I2 gn HU.o.1 HU.o.2 w3).mono ?_;rintro e w9 ⟨rfl,h9⟩;subst h9;clear c0;obtain⟨gm,hgm⟩:∃ gm,gn%2=gm:=⟨_,rfl⟩
 rw[hgm] at HQ2 |-;have hw1:IntKind.i64.wrap (gm*2)=(s:Int):=by rw[As];have:=HQ2.o;omega
 have hw2:IntKind.i64.wrap ((s:Int)+1)=(s:Int)+1:=by rw[As];have:=HQ2.o;omega
 clear hgm;have HB3:AP (KE D g L gc B H X T zs [] f false w9):=HB.o.below (HO3.o.below);have HS64:AP (∀ cs:List UL,cs.length=64->(Tryz.prog.info? 122).map (·.size)=UI cs.length):=λcs h=>by rw[h];kernel_rfl
 have HT0:AP (w9.rangeAt q 0 (z0.map (Value.int .u8))/\z0.length=64):=⟨by rw[<-HZ.o.1];have:=Mu HR.o 0 64 (by rw[HZL.o];decide);simpa using this,by rw[<-HZ.o.1];simp[HZL.o]⟩
 have HL3:AP (q<w9.heap.size/\Below w.heap.size w w9):=⟨HR.o.lt,HO3.o.below⟩
 have HY3:AP (YR D g w w9):=YR.of_below HO3.o.below;clear HO3 HB
 go_upto_region 3 with fail
 go_wp2_with (first
  |(refine wpList_load_mid rfl 122 (.tmp 13) rfl q 0 rfl (z0.map (Value.int .u8)) _ HT0.o.1 Tryz.underlying122 rfl (HS64.o _ (by rw[BI];exact HT0.o.2)) ?_)
  |fail)
 by_cases hf0:f=0
 ·subst hf0;refine(Tx (z:=z0) HB3.o HV.o.1 (s:Int)).mono ?_;rintro e w4 ⟨rfl,d4,y4⟩;exact⟨rfl,rfl,d4,HY3.o.trans y4⟩
 have hfp:f=-1\/0<f:=AG HF.o
 refine(Tw (z:=z0) HB3.o HV.o.1 HT0.o.2 hfp HF.o.2 HT.o (s:Int)).mono ?_;rintro e w4 ⟨rfl,d4,y4⟩;have HB4:=Cq d4;have HY4:=Cq (HY3.o.trans y4);have HR4:AP (DP w4 q 124 zz):=by show _=_;rw[y4.block q HL3.o.1 (AG HQ.o) (AG HQ.o)];exact HR.o
 have HL4:AP (q<w4.heap.size):=Ax HL3.o.1 y4.size;have HF4:AP ((EG f=-1/\f=-1)\/(EG f=f-1/\0<f)):=by
  rcases hfp with rfl|h
  ·exact .inl ⟨rfl,rfl⟩
  ·exact .inr ⟨Im h,h⟩
 clear d4 y4 HB3 HY3 HR HL3 hfp;go_wp2_with fail;by_cases hf1:f=1
 ·subst hf1;refine(Tz HB4.o HV.o.1 HT.o).mono ?_;rintro e w5 ⟨rfl,d5,y5⟩;exact⟨rfl,rfl,d5,HY4.o.trans y5⟩
 refine(Ty HB4.o HV.o.1 HV.o.2.1 HV.o.2.2.1 HV.o.2.2.2.1 HT0.o.2 (AI HV.o HQ2.o) (AG HF4.o) (AI HF4.o HF.o) HT.o).mono ?_;rintro e w5 ⟨rfl,d5,y5⟩;have HB5:=Cq d5;have HY5:=Cq (HY4.o.trans y5);have HR5:AP (DP w5 q 124 zz):=by show _=_;rw[y5.block q HL4.o (AG HQ.o) (AG HQ.o)];exact HR4.o
 have HL5:AP ((Dc zs s z0).length=L):=by show _=_;rw[Eh _ _ _ (AJ HV.o HT0.o.2 HQ2.o)];exact HV.o.2.1
 have HT1:AP (w5.rangeAt q 64 (z1.map (Value.int .u8))/\z1.length=64):=⟨by
  rw[<-HZ.o.2];have:=Mu HR5.o 64 64 (by rw[HZL.o];decide)
  rwa [An (by simp[HZL.o])] at this,by rw[<-HZ.o.2];simp[HZL.o]⟩
 have HF5:AP ((EG (EG f)=-1/\f=-1)\/(EG (EG f)=f-2/\1<f)):=by
  rcases HF4.o with⟨h1,h2⟩|⟨h1,h2⟩
  ·exact .inl ⟨by rw[h1];rfl,h2⟩
  ·exact .inr ⟨by rw[h1,Im AK];omega,AK⟩
 clear d5 y5 HB4 HY4 HR4 HL4 HF4;go_wp2_with (first
  |(refine wpList_load_mid rfl 122 (.tmp 21) rfl q 64 rfl (z1.map (Value.int .u8)) _ HT1.o.1 Tryz.underlying122 rfl (HS64.o _ (by rw[BI];exact HT1.o.2)) ?_)
  |fail)
 by_cases hf2:f=2
 ·subst hf2;refine(Tx (z:=z1) HB5.o HV.o.1 _).mono ?_;rintro e w6 ⟨rfl,d6,y6⟩;exact⟨rfl,rfl,d6,HY5.o.trans y6⟩
 refine(Tw (z:=z1) HB5.o HV.o.1 HT1.o.2 (AG HF5.o) (AI HF5.o HF.o) HT.o _).mono ?_;rintro e w6 ⟨rfl,d6,y6⟩;have HB6:=Cq d6;have HY6:=Cq (HY5.o.trans y6);have HF6:AP ((EG (EG (EG f))=-1/\f=-1)\/(EG (EG (EG f))=f-3/\2<f)):=by
  rcases HF5.o with⟨h1,h2⟩|⟨h1,h2⟩
  ·exact .inl ⟨by rw[h1];rfl,h2⟩
  ·exact .inr ⟨by rw[h1,Im AK];omega,AK⟩
 clear d6 y6 HB5 HY5 HR5 HF5;go_wp2_with fail;by_cases hf3:f=3
 ·subst hf3;refine(Tz HB6.o HV.o.1 HT.o).mono ?_;rintro e w7 ⟨rfl,d7,y7⟩;exact⟨rfl,rfl,d7,HY6.o.trans y7⟩
 refine(Ty (s:=s+1) HB6.o HV.o.1 HL5.o HV.o.2.2.1 HV.o.2.2.2.1 HT1.o.2 (AI HV.o HQ2.o) (AG HF6.o) (AI HF6.o HF.o) HT.o).mono ?_;rintro e w7 ⟨rfl,d7,y7⟩;have HP:AP (TJ D g L gc B H X T (Jj zs f s z0 z1) w (UQ (.tuple #[])) w7):=by
  have hc:Jj zs f s z0 z1=(Dc (Dc zs s z0) (s+1) z1,[],EG (EG (EG (EG f))),false):=by
   unfold Jj;rw[AS hf0,AS hf1,AS hf2,AS hf3];rcases HF6.o with⟨h1,h2⟩|⟨h1,h2⟩
   ·rw[h1,AR h2];rfl
   ·rw[h1,AS AK,Im AK];congr 3;omega
  show TJ _ _ _ _ _ _ _ _ _ _ _ _
  rw[hc];exact⟨rfl,d7,HY6.o.trans y7⟩
 clear d7 y7 HB6 HY6;go_wp2_with fail
 first|go_end0|go_ret
 exact HP.o
theorem Tryz.infoPL:(Tryz.prog.info? 190).map (λi=>(i.zero,i.size,i.bytes))=UI (UI (UN #[]),0,0):=AN
theorem Nx (xT:TypeId) (w:UK):(Instr.typeAssert Value.nilIface xT 190 true).run Tryz.prog w=.ok (.tuple #[UN #[],UF false]) w:=by
 obtain⟨i0,hi,hz0,hz1,hz2⟩:=Be Tryz.infoPL;simp[Instr.typeAssert,run_underlying Tryz.underlying190,zeroValue,typeInfo,hi,hz0]
theorem Ny (xT:TypeId) (w:UK):(Instr.typeAssert (.iface 190 (UN #[])) xT 190 true).run Tryz.prog w=.ok (.tuple #[UN #[],UF true]) w:=by
 simp[Instr.typeAssert,run_underlying Tryz.underlying190]
theorem RT (w:UK):Calls Tryz.prog 154 #[.nilIface] w λe w'=>e=UQ (UF false)/\Below w.heap.size w w':=by
 have h1:=Nx;go_enter Tryz.func154,Tryz.ntmps154;go_wp2
 go_ret
 exact⟨rfl,Cs.alloc Cw _⟩
theorem Pn (w:UK):Calls Tryz.prog 154 #[Hy] w λe w'=>e=UQ (UF true)/\Below w.heap.size w w':=by
 unfold Hy;have h1:=Ny;go_enter Tryz.func154,Tryz.ntmps154;go_wp2
 go_ret
 exact⟨rfl,Cs.alloc Cw _⟩
theorem LU (g o:Nat) (a x:Option Addr) (n c m cx:Nat) (f:Int) (d:Bool) (zs:List Int) (ps:List PD) (w:UK) (hg:g<w.heap.size) (x0:w.cell? ⟨g,o,UJ⟩=UI (UD a n c)) (x1:w.cell? ⟨g,o+1,UJ⟩=UI (UD x m cx)) (x2:w.cell? ⟨g,o+2,UJ⟩=UI (UE .i64 f)) (x3:w.cell? ⟨g,o+3,UJ⟩=UI (UF d)) (hd:Ei w (UN #[UD a n c,UD x m cx,UE .i64 f,UF d]) zs ps f d) (hn:zs.length=n) (hm:ps.length=m) (hz:n<=1048576) (hM:m<=1048576) (hps:∀ i,(ps.getD i (0,[])).2.length<=1048576) :
  Calls Tryz.prog 64 #[UM (UI ⟨g,o,UJ⟩)] w λe w'=>e=UQ (UF (C5 n ps f && !d && decide (m=0)))/\Below w.heap.size w w':=by
 have HC:=Cq (Km _ zs ps f d w hd AK AK hps);rw[hn] at HC;obtain⟨V,hV⟩:∃ V,V=(C5 n ps f && !d && decide (m=0)):=⟨_,rfl⟩
 rw[<-hV];have HV:=Cq hV;clear hd hps hV;go_enter Tryz.func64,Tryz.ntmps64;go_wp2_with fail;refine HC.o.mono ?_;rintro e w1 ⟨rfl,b1⟩;have y1:w1.cell? ⟨g,o+1,UJ⟩=UI (UD x m cx):=(Aa (a:=⟨g,o+1,UJ⟩) (w:=w) (b1.block _ hg)).trans x1;have y3:w1.cell? ⟨g,o+3,UJ⟩=UI (UF d):=(Aa (a:=⟨g,o+3,UJ⟩) (w:=w) (b1.block _ hg)).trans x3;have HB:=Cq b1;clear HC b1 x0 x1 x2 x3 hn hm;cases hv:C5 n ps f with
 |false=>
  have HF:AP (V=false):=by show _=_;rw[HV.o,hv];rfl
  clear HV;go_wp2
  go_ret
  exact⟨by rw[HF.o];rfl,HB.o⟩
 |true=>
  cases d with
  |true=>
   have HF:AP (V=false):=by show _=_;rw[HV.o,hv];rfl
   clear HV;go_wp2
   go_ret
   exact⟨by rw[HF.o];rfl,HB.o⟩
  |false=>
   by_cases h0:m=0
   ·have HF:AP (V=true):=by show _=_;rw[HV.o,hv];simp[h0]
    clear HV;subst h0;go_wp2
    go_ret
    exact⟨by rw[HF.o];rfl,HB.o⟩
   ·have HF:AP (V=false):=by show _=_;rw[HV.o,hv];simp[h0]
    clear HV;have z0:((m:Int) == 0)=false:=by simp;omega
    have z1:¬ ((m:Int)=0):=AK
    have z2:decide ((m:Int)=0)=false:=by simp;omega
    go_wp2
    go_ret
    exact⟨by rw[HF.o];rfl,HB.o⟩
end Go.Proofs.YthmeoilbmfdhfaaGreat
