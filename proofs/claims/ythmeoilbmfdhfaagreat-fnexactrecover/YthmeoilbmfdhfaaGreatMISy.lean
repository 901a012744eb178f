import Derived.Test.YthmeoilbmfdhfaaGreatMCgB
import Derived.Test.YthmeoilbmfdhfaaGreatSSy
import Derived.Test.YthmeoilbmfdhfaaGreatMSvP
namespace Go.Proofs.YthmeoilbmfdhfaaGreat
open Go.ChangeShapes Go.WideShapes Go.ChangeAt Go.RowKit
set_option linter.unusedVariables false
structure YR (D g:Nat) (w w':World):Prop where
 os:w'.os=w.os
 tape:w'.tape=w.tape
 output:w'.output=w.output
 size:w.heap.size≤w'.heap.size
 block:∀ k,k<w.heap.size→k≠D→k≠g→w'.heap[k]?=w.heap[k]?
theorem YR.trans {D g:Nat} {a b c:World} (h:YR D g a b) (k:YR D g b c):YR D g a c:=
 ⟨k.os.trans h.os,k.tape.trans h.tape,k.output.trans h.output,Nat.le_trans h.size k.size,fun i hi h1 h2=>(k.block i (by have:=h.size;omega) h1 h2).trans (h.block i hi h1 h2)⟩
theorem YR.of_wr {D g:Nat} {a b:World} (h:Wr D a b):YR D g a b:=⟨h.os,h.tape,h.output,by rw[h.size];exact Nat.le_refl _,fun k _ h1 _=>h.block k h1⟩
theorem YR.of_below {D g:Nat} {a b:World} (h:Below a.heap.size a b):YR D g a b:=⟨h.os,h.tape,h.output,h.size,fun k hk _ _=>h.block k hk⟩
theorem YR.of_ch {D g:Nat} {a b:World} (h:Ch g (g+1) a b):YR D g a b:=⟨h.os,h.tape,h.output,h.size,fun k hk _ h2=>h.block k hk (by omega)⟩
structure YS (X:List Value) (T:TypeId) (w wr:World) (D g L gc B:Nat) (cv:Value) (F:Int) (y:List Int):Prop where
 yr:YR D g w wr
 row:wr.heap[D]?=some (.cells (DC (.slice (some ⟨g,0,none⟩) L gc) cv F false X) T (0,0))
 own:Own wr B (.slice (some ⟨g,0,none⟩) L gc) y
theorem YS.grow {X:List Value} {T:TypeId} {w wr w':World} {D g L gc B:Nat} {cv:Value} {F:Int} {y:List Int} (h:YS X T w wr D g L gc B cv F y) (hb:Below wr.heap.size wr w'):YS X T w w' D g L gc B cv F y:=
 ⟨h.yr.trans (YR.of_below hb),by rw[hb.block _ (Array.getElem?_eq_some_iff.1 h.row).1];exact h.row,h.own.grow hb⟩
theorem YS.turn {X:List Value} {T:TypeId} {w wr w':World} {D g L gc B:Nat} {cv:Value} {F:Int} {y z:List Int} (h:YS X T w wr D g L gc B cv F y) (hc:Ch g (g+1) wr w') (hD:D≠g) (ho:Own w' B (.slice (some ⟨g,0,none⟩) L gc) z):YS X T w w' D g L gc B cv F z:=
 ⟨h.yr.trans (YR.of_ch hc),by rw[hc.block _ (Array.getElem?_eq_some_iff.1 h.row).1 (by omega)];exact h.row,ho⟩
structure YX (X:List Value) (T:TypeId) (w w':World) (D g L gc B:Nat) (cv:Value) (F:Int) (P s:Nat) (pc:Array Value) (y0:List Int):Prop where
 st:∃ y,YS X T w w' D g L gc B cv F y∧y.length=L∧y.take (s*64)=y0.take (s*64)∧y.drop (s*64+64)=y0.drop (s*64+64)
 pbx:w'.heap[P]?=some (.cells pc 106 (0,0))
 gp:g<P
theorem YX.grow {X:List Value} {T:TypeId} {w wr w':World} {D g L gc B:Nat} {cv:Value} {F:Int} {P s:Nat} {pc:Array Value} {y0:List Int} (h:YX X T w wr D g L gc B cv F P s pc y0) (hb:Below wr.heap.size wr w'):YX X T w w' D g L gc B cv F P s pc y0:=by
 obtain⟨y,h1,h2⟩:=h.st;exact⟨⟨y,h1.grow hb,h2⟩,by rw[hb.block _ (Array.getElem?_eq_some_iff.1 h.pbx).1];exact h.pbx,h.gp⟩
def GZ (X:List Value) (T:TypeId) (w:World) (D g L gc B:Nat) (cv:Value) (F:Int) (P s b6 o6 c6:Nat) (dz Y:List Int):Nat→World→(Nat→Value)→Prop
 |0,_,u=>u 0=.pointer (some ⟨D,0,none⟩)
 |1,_,u=>u 1=.pointer (some ⟨P,0,none⟩)
 |2,_,u=>u 2=.int .i64 s
 |3,_,u=>u 3=.pointer (some ⟨P,1,none⟩)
 |4,_,u=>u 4=.slice (some ⟨b6,o6,none⟩) 64 c6
 |5,_,u=>u 5=secV dz
 |_,w',_=>YS X T w w' D g L gc B cv F Y
set_option maxHeartbeats 400000 in
set_option maxRecDepth 100000 in
theorem sync_no (D:Nat) (a b:Value) (w:World) {X:List Value} {T:TypeId} (h:w.heap[D]?=some (.cells (DC a b 0 false X) T (0,0))) :
  Calls Tryz.prog 108 #[.pointer (some ⟨D,0,none⟩)] w fun e w'=>e=.panicked [{ v:=lossV,recovered:=false }]∧w'.heap[D]?=some (.cells (DC a b 0 true X) T (0,0))∧Wr D w w':=by
 go_enter Tryz.func108,Tryz.ntmps108;go_wp2_with fail;refine(burn_no D a b false w h).mono ?_;rintro e w1 ⟨rfl,h1,h2⟩;exact⟨rfl,rfl,h1,h2⟩
set_option maxHeartbeats 2000000 in
set_option maxRecDepth 100000 in
theorem sync_yes (D g L gc B:Nat) (ca:Option Addr) (m cc:Nat) (f:Int) (zs:List Int) (ps:List PD) (B1 U:Nat) (w:World) {X:List Value} {T:TypeId} (h:w.heap[D]?=some (.cells (DC (.slice (some ⟨g,0,none⟩) L gc) (.slice ca m cc) f false X) T (0,0)))
  (hO:Own w B (.slice (some ⟨g,0,none⟩) L gc) zs) (hP:PMine B1 U w ca ps) (hgB:g<B1) (hUD:U≤D∨(D<B1∧U≤w.heap.size)) (hL:zs.length=L) (hm:ps.length=m) (hz:L≤1048576) (hn:m≤1048576) (v1:L%64=0) (hok:PsOk L ps) (hf:f=-1∨0<f) (hf2:f≤9223372036854775807) (hT:T≠5:=by decide) :
  Calls Tryz.prog 108 #[.pointer (some ⟨D,0,none⟩)] w fun e w'=>e=.returned (.tuple #[])∧w'.heap[D]?=some (.cells (DC (.slice (some ⟨g,0,none⟩) L gc) (.slice none 0 0) (stF f) false X) T (0,0))∧Own w' B (.slice (some ⟨g,0,none⟩) L gc) (syL zs ps m)∧YR D g w w':=by
 have HSP:Hid _:=Tryz.sizePd;have hDg:D≠g:=by
  intro e;obtain⟨_,_,cur,h3⟩:=ownsRow_lt hO.1 g rfl;rw[←e,h] at h3;simp at h3;exact hT h3.2
 have hgw:=(ownsRow_lt hO.1 g rfl).2.1;have hDw:=(Array.getElem?_eq_some_iff.1 h).1;have HP:Hid (PMine B1 U w ca ps):=hP;have HOK:Hid (PsOk L ps):=hok;have HHL:Hid (zs.length=L∧ps.length=m):=⟨hL,hm⟩
 have HLN:Hid (∀ k,k≤m→(syL zs ps k).length=L):=fun k hk=>by rw[syL_len (by rw[hL];exact hok) (by rw[hL];exact v1) k (by rw[hm];exact hk),hL]
 have HROW:Hid _:=h;have HOWN:Hid (Own w B (.slice (some ⟨g,0,none⟩) L gc) zs):=hO;have HBURN:=burn_yes D _ _ f false w h hf hf2;clear h hO hP hok hL hm;go_enter Tryz.func108,Tryz.ntmps108;go_wp2_with fail;refine HBURN.mono ?_;clear HBURN HROW;rintro e w1 ⟨rfl,hr1,hw1⟩;obtain⟨F,hF⟩:∃ F,stF f=F:=⟨_,rfl⟩
 rw[hF] at hr1;have HF:Hid (stF f=F):=hF;clear hF;have st1:YS X T w w1 D g L gc B (.slice ca m cc) F (syL zs ps 0):=⟨YR.of_wr hw1,hr1,Own.keep HOWN.out (fun k e=>hw1.block k (by simp[Value.ownBlock] at e;omega))⟩
 obtain⟨c0,c1,c2,c3⟩:=row4x st1.row;have HS1:Hid (YS X T w w1 D g L gc B (.slice ca m cc) F (syL zs ps 0)):=st1;clear st1 hr1 hw1 HOWN;go_wp2;have st1:=HS1.out;clear HS1 c0 c1 c2 c3
 go_loopw [11] (fun i wr=>∃ k:Nat,k≤m∧i=.int .i64 k∧YS X T w wr D g L gc B (.slice ca m cc) F (syL zs ps k)) (fun i _=>m-(intOf i).toNat)
 case atStart=>exact⟨0,Nat.zero_le _,rfl,st1⟩
 case round=>
  obtain⟨k,hk,rfl,st⟩:=hrel;clear st1;have hlen:=HLN.out k hk;by_cases hlt:k<m
  ·obtain⟨s,hs,hsl,hd⟩:=PsOk.at_ HOK.out v1 (i:=k) (by rw[HHL.out.2];exact hlt);have hPr:PMine B1 U wr ca ps:=PMine.keep HP.out (fun j hj hj'=>st.yr.block j (by omega) (by omega) (by omega)) st.yr.size;obtain⟨b5,o5,b6,o6,c6,rfl,hb5,q1,q2,q3,q4⟩:=hPr.entry (i:=k) (by rw[HHL.out.2];exact hlt) (by rw[hd];decide);have hnew:=syL_succ (zs:=zs) (by rw[HHL.out.2];exact hlt) hs hd;rw[hs] at q1;rw[hd] at q2;have hb6:PMine B1 U wr (some ⟨b5,o5,none⟩) ps:=hPr;have hlt':(k:Int)<m:=by omega
   have HST:Hid (YS X T w wr D g L gc B (.slice (some ⟨b5,o5,none⟩) m cc) F (syL zs ps k)):=st;have HNEW:Hid (syL zs ps (k+1)=overL (syL zs ps k) s (ps.getD k (0,[])).2):=hnew;have HD:Hid ((ps.getD k (0,[])).2.length=64):=hd;have HLK:Hid ((syL zs ps k).length=L):=hlen;have HPR:Hid (PMine B1 U wr (some ⟨b5,o5,none⟩) ps):=hPr;have HSEC:Hid (∀ ww:World,At .u8 ww (some ⟨b6,o6,none⟩) (ps.getD k (0,[])).2→Calls Tryz.prog 131 #[.slice (some ⟨b6,o6,none⟩) 64 c6] ww fun e w'=>e=.returned (secV ((ps.getD k (0,[])).2.take 64))∧Below ww.heap.size ww w'):=fun ww h1=>sectorOf_any (some ⟨b6,o6,none⟩) 64 c6 (ps.getD k (0,[])).2 ww hd (Nat.le_refl _) h1
   have HQ4:Hid (At .u8 wr (some ⟨b6,o6,none⟩) (ps.getD k (0,[])).2):=q4;have hgw':g<wr.heap.size:=by have:=st.yr.size;omega
   have hb6b:∃ j6,j6=b6∧b6≠g:=by
    refine⟨b6,rfl,?_⟩;rcases hPr with h|⟨gg,oo,X,C,e1,e2,e3,e4,e5,e6⟩
    ·have:=HHL.out.2;rw[h] at this;simp at this;omega
    ·obtain⟨p1,p2,p3,p4,p5,p6,p7⟩:=e5 k (by rw[HHL.out.2];exact hlt);cases e1;rw[p3,hd] at q2;simp at q2;have:=p6 ⟨b6,o6,none⟩ q2.1;have h1:B1≤b6:=this.1;omega
   obtain⟨_,_,hb6g⟩:=hb6b;clear st hnew hd hlen q4 hPr hb6 hs;go_wp2_with (refine wpList_storeW rfl 106 (.tmp 3) (.tmp 14) rfl wr.heap.size #[.int .i64 s,.slice (some ⟨b6,o6,none⟩) 64 c6] rfl rfl 106 _ (heap_alloc_new wr _) HSP.out rfl (all2p _ _ _ _) ?_);intro w3 hr3 hw3;have hb3:Below wr.heap.size wr w3:=((Below.refl _ _).alloc (Nat.le_refl _) _).trans (hw3.below (Nat.le_refl _));have hPl:wr.heap.size<w3.heap.size:=(Array.getElem?_eq_some_iff.1 hr3).1;have HX3:Hid (YX X T w w3 D g L gc B (.slice (some ⟨b5,o5,none⟩) m cc) F wr.heap.size s #[.int .i64 s,.slice (some ⟨b6,o6,none⟩) 64 c6] (syL zs ps k)):=
    ⟨⟨_,YS.grow HST.out hb3,HLK.out,rfl,rfl⟩,hr3,hgw'⟩
   have HA3:Hid (At .u8 w3 (some ⟨b6,o6,none⟩) (ps.getD k (0,[])).2):=At.below HQ4.out hb3;clear hr3 hw3 hb3 HST HQ4 q1 q2 hb5;generalize wr.heap.size=P at *;have hdl:((ps.getD k (0,[])).2.take 64).length=64:=by rw[List.length_take,HD.out];rfl
   have HDL:Hid (((ps.getD k (0,[])).2.take 64).length=64):=hdl;have HMIX:Hid (∀ yy:List Int,yy.length=L→yy.take (s*64)=(syL zs ps k).take (s*64)→yy.drop (s*64+64)=(syL zs ps k).drop (s*64+64)→overL yy s ((ps.getD k (0,[])).2.take 64)=syL zs ps (k+1)):=by
    intro yy h1 h2 h3;have hdt:(ps.getD k (0,[])).2.take 64=(ps.getD k (0,[])).2:=List.take_of_length_le (by rw[HD.out];exact Nat.le_refl _);rw[HNEW.out,hdt];unfold overL;rw[HD.out,h2,h3]
   obtain⟨Y,hY⟩:∃ Y,syL zs ps (k+1)=Y:=⟨_,rfl⟩
   obtain⟨dz,hdz⟩:∃ dz,(ps.getD k (0,[])).2.take 64=dz:=⟨_,rfl⟩
   rw[hdz] at HDL HSEC;rw[hdz,hY] at HMIX;have HY:Hid (syL zs ps (k+1)=Y):=hY;clear hlt' HNEW hdl hY hdz HLK;go_wp2_with fail;refine wp_region_any (by kernel_rfl) ?_;refine wpAny_slots2 (frame:=(fun (a b c d e f g h i j k l m n o p q r s:Value)=>fun (t:Nat→Value)=>({ tmps:=List.toArray [a,b,c,d,e,f,g,h,i,j,k,l,m,n,o,t 0,t 1,t 2,t 3,t 4,t 5,t 6,p,q,r,s],defers:=[] }:Act)) _ _ _ _ _ _ _ _ _ _ _ _ _ _ _ _ _ _ _)
    (Ext:=fun w'=>YX X T w w' D g L gc B (.slice (some ⟨b5,o5,none⟩) m cc) F P s #[.int .i64 s,.slice (some ⟨b6,o6,none⟩) 64 c6] (syL zs ps k)∧At .u8 w' (some ⟨b6,o6,none⟩) (ps.getD k (0,[])).2) (Good:=GZ X T w D g L gc B (.slice (some ⟨b5,o5,none⟩) m cc) F P s b6 o6 c6 dz Y) (M:=fun i w w'=>i≠6→Below w.heap.size w w') ?hstab (by kernel_rfl) ?hop ?hdone _ _ ((fun (x0 x1 x2 x3 x4 x5 x6:Value)=>fun (i:Nat)=>if i=0 then x0 else if i=1 then x1 else if i=2 then x2 else if i=3 then x3 else if i=4 then x4 else if i=5 then x5 else if i=6 then x6 else undef) _ _ _ _ _ _ _) _ (by simp) ?ext ?start ?clo (by simp)
   case start=>intro i hi h;exact absurd h (by rw[Array.getD_eq_getD_getElem?,Array.getElem?_replicate];split<;>simp)
   case clo=>intro i o ho h;exact absurd h (by rw[Array.getD_eq_getD_getElem?,Array.getElem?_replicate];split<;>simp)
   case ext=>exact⟨YX.grow HX3.out (Below.refl _ _).drew,At.below HA3.out (Below.refl _ _).drew⟩
   case hstab=>
    intro j o w1 w2 u i v ho hM hij _ hg;have hj:j<7:=(Array.getElem?_eq_some_iff.1 ho).1;obtain rfl|rfl|rfl|rfl|rfl|rfl|rfl:j=0∨j=1∨j=2∨j=3∨j=4∨j=5∨j=6:=by omega
    all_goals simp only[GZ] at hg ⊢
    all_goals first
     |(rw[upd_ne2 hij];exact hg)
     |exact hg.grow (hM hij)
   case hdone=>
    intro t w2 hx hg;have h9:=hg 6 (by decide);have H9:Hid _:=h9;clear hg hx h9;dsimp only;generalize t 0=t0;generalize t 1=t1;generalize t 2=t2;generalize t 3=t3;generalize t 4=t4;generalize t 5=t5;generalize t 6=t6;go_wp2;go_roundw
    case rel=>exact⟨k+1,by omega,by go_num,by rw[HY.out];exact H9.out⟩
    case measure=>simp[intOf];omega
   case hop=>
    intro i o t w' ho hx hdep K hK;obtain⟨hx,hAx⟩:=hx;have hi:i<7:=(Array.getElem?_eq_some_iff.1 ho).1;obtain⟨p0,p1⟩:=row2 hx.pbx;obtain⟨yy,hil,hyl,hy1,hy2⟩:=hx.st;have HIL:Hid (YS X T w w' D g L gc B (.slice (some ⟨b5,o5,none⟩) m cc) F yy):=hil;clear hil;obtain rfl|rfl|rfl|rfl|rfl|rfl|rfl:i=0∨i=1∨i=2∨i=3∨i=4∨i=5∨i=6:=by omega
    all_goals(simp at ho;subst ho)
    ·clear hdep;go_simp;exact hK w' (.pointer (some ⟨D,0,none⟩)) rfl ⟨hx,hAx⟩ (fun _=>Below.refl _ _)
    ·clear hdep;go_simp;exact hK w' (.pointer (some ⟨P,0,none⟩)) rfl ⟨hx,hAx⟩ (fun _=>Below.refl _ _)
    ·have d1:t 1=_:=hdep ⟨1,.data⟩ (by simp) rfl;clear hdep;go_simp;simpa[upd,d1] using hK w' (.int .i64 s) rfl ⟨hx,hAx⟩ (fun _=>Below.refl _ _)
    ·clear hdep;go_simp;exact hK w' (.pointer (some ⟨P,1,none⟩)) rfl ⟨hx,hAx⟩ (fun _=>Below.refl _ _)
    ·have d3:t 3=_:=hdep ⟨3,.data⟩ (by simp) rfl;clear hdep;go_simp;simpa[upd,d3] using hK w' (.slice (some ⟨b6,o6,none⟩) 64 c6) rfl ⟨hx,hAx⟩ (fun _=>Below.refl _ _)
    ·have d4:t 4=_:=hdep ⟨4,.data⟩ (by simp) rfl;clear hdep;have e:=HSEC.out w' hAx;go_simp;refine e.mono ?_;rintro e w9 ⟨rfl,hb9⟩;have hK':=hK w9 (secV dz) rfl ⟨hx.grow hb9,hAx.below hb9⟩ (fun _=>hb9);clear hK;go_simp;simpa[upd,d4] using hK'
    ·have d0:t 0=_:=hdep ⟨0,.data⟩ (by simp) rfl;have d2:t 2=_:=hdep ⟨2,.data⟩ (by simp) rfl;have d5:t 5=_:=hdep ⟨5,.data⟩ (by simp) rfl;clear hdep;have hmix:=HMIX.out yy hyl hy1 hy2;have hdl:=HDL.out;have hst:=store_any D g L gc (some ⟨b5,o5,none⟩) m cc F false s B yy dz w' HIL.out.row HIL.out.own hyl hz hdl hsl hT;have hov:(overL yy s dz).length=L:=by rw[overL_len _ _ _ (by omega)];exact hyl
     have htk:(overL yy s dz).take (s*64)=yy.take (s*64):=by
      unfold overL;rw[List.take_append_of_le_length (by simp;omega),List.take_take,Nat.min_self]
     have hdr:(overL yy s dz).drop (s*64+64)=yy.drop (s*64+64):=by
      unfold overL;rw[hdl,←List.append_assoc,List.drop_append_of_le_length (by rw[List.length_append,hdl,List.length_take];omega),List.drop_eq_nil_of_le (by rw[List.length_append,hdl,List.length_take];omega)];simp
     rw[hmix] at hst hov htk hdr;rw[hy1] at htk;rw[hy2] at hdr;have HFIN:Hid _:=And.intro hov (And.intro htk hdr);clear hov htk hdr hmix hdl hy1 hy2;go_simp;refine hst.mono ?_;rintro e w9 ⟨rfl,ho9,hc9⟩;have st9:=YS.turn HIL.out hc9 hDg ho9;have hPl':P<w'.heap.size:=(Array.getElem?_eq_some_iff.1 hx.pbx).1;have hgp:=hx.gp;have hX9:YX X T w w9 D g L gc B (.slice (some ⟨b5,o5,none⟩) m cc) F P s #[.int .i64 s,.slice (some ⟨b6,o6,none⟩) 64 c6] (syL zs ps k):=
      ⟨⟨_,st9,HFIN.out.1,HFIN.out.2.1,HFIN.out.2.2⟩,by rw[hc9.block _ hPl' (.inr (by omega))];exact hx.pbx,hgp⟩
     have hA9:At .u8 w9 (some ⟨b6,o6,none⟩) (ps.getD k (0,[])).2:=hAx.keep (fun ad e=>by
      cases e;rcases hAx with h|⟨bb,oo,e1,e2,_⟩
      ·have:=HD.out;rw[h] at this;simp at this
      ·cases e1;exact hc9.block b6 e2 (by omega)) hc9.size
     have hK':=hK w9 (.tuple #[]) st9 ⟨hX9,hA9⟩ (fun h=>absurd rfl h);clear hK;go_simp;simpa[upd,d0,d2,d5] using hK'
  ·have hkm:k=m:=by omega
   subst hkm;have hlt':¬ (k:Int)<k:=by omega
   obtain⟨c0,c1,c2,c3⟩:=row4x st.row;have f1:=frozen_of_row wr D 1 _ _ st.row;have HR:Hid ((wr.setCell ⟨D,1,none⟩ (.slice none 0 0)).heap[D]?=some (.cells (DC (.slice (some ⟨g,0,none⟩) L gc) (.slice none 0 0) F false X) T (0,0))):=row_setCell (i:=1) _ st.row DC.s1;have hwr:Wr D wr (wr.setCell ⟨D,1,none⟩ (.slice none 0 0)):=(Wr.refl D wr).setCell 1 _;have HO:Hid (Own (wr.setCell ⟨D,1,none⟩ (.slice none 0 0)) B (.slice (some ⟨g,0,none⟩) L gc) (syL zs ps k)):=st.own.keep (fun j e=>hwr.block j (by simp[Value.ownBlock] at e;omega));have HY:Hid (YR D g w (wr.setCell ⟨D,1,none⟩ (.slice none 0 0))):=st.yr.trans (YR.of_wr hwr);clear st hwr hlen;go_wp2
   first|go_end0|go_ret
   exact⟨rfl,by rw[HF.out];exact HR.out,HO.out,HY.out⟩
section
variable {P:Program} {ops:Array Oper} {Q:Exit→Act→World→Prop} {md:Region.Mode}
end
section
variable {P:Program} {ops:Array Oper} {Q:Exit→Act→World→Prop} {md:Region.Mode}
def waits (md:Region.Mode) (ops:Array Oper) (i j:Nat):Bool:=((ops[i]?).map (fun o=>o.after.any (fun e=>Region.binds md e && decide (e.on=j)))).getD false
theorem waits_ex {i j:Nat} (h:waits md ops i j=true):∃ o,ops[i]?=some o∧∃ e∈o.after,Region.binds md e=true∧e.on=j:=by
 unfold waits at h;cases ho:ops[i]? with
 |none=>rw[ho] at h;simp at h
 |some o=>
  rw[ho] at h;have h2:o.after.any (fun e=>Region.binds md e && decide (e.on=j))=true:=by simpa using h
  obtain⟨e,he,h3⟩:=Array.any_eq_true'.1 h2;simp at h3;exact⟨o,rfl,e,he,h3⟩
theorem wpAny_slotsJ (last:Nat) (M:Nat→World→World→Prop) (frame:(Nat→Value)→Act) (Ext:(Nat→Bool)→World→Prop) (Good:Nat→(Nat→Bool)→World→Value→Prop)
  (hlast:ops.size=last+1)
  (hwait:(List.range last).all (fun j=>waits md ops last j || (List.range last).any (fun k=>waits md ops last k && waits md ops k j))=true)
  (hstab:∀ j L w w' i v,M i w w'→i≠j→L i=false→Good j L w v→Good j (updK L i) w' v)
  (hguard:ops.all (fun o=>o.guard.isNone)=true)
  (hback:(List.range ops.size).all (fun i=>((ops[i]?).map (fun o=>o.after.all (fun e=>decide (e.on<i)))).getD false)=true)
  (hop:∀(i:Nat) (o:Oper) (L:Nat→Bool) (u:Nat→Value) (w:World),i<last→ops[i]?=some o→L i=false→Ext L w→(∀ e∈o.after,Region.binds md e=true→Good e.on L w (u e.on))→
   ∀ K:Act→World→Prop,(∀ w' v,Good i (updK L i) w' v→Ext (updK L i) w'→M i w w'→K (frame (upd u i v)) w')→Oper.wp P o (frame u) w K Q)
  (hend:∀(o:Oper) (L:Nat→Bool) (u:Nat→Value) (w:World),ops[last]?=some o→Ext L w→(∀ i,i<last→Good i L w (u i))→
   ∀ K:Act→World→Prop,(∀ a w',Q .normal a w'→K a w')→Oper.wp P o (frame u) w K Q) :
  ∀(fuel:Nat) (listed:Array Bool) (u:Nat→Value) (w:World),listed.size=ops.size→listed.getD last false=false→Ext (fun n=>listed.getD n false) w→(∀ i,i<last→listed.getD i false=true→Good i (fun n=>listed.getD n false) w (u i))→
   (∀(i:Nat) (o:Oper),ops[i]?=some o→listed.getD i false=true→∀ e∈o.after,Region.binds md e=true→listed.getD e.on false=true)→(listed.toList.filter (!·)).length≤fuel→wpAny P md ops Q fuel listed (frame u) w:=by
 have hb:∀(i:Nat) (o:Oper),ops[i]?=some o→∀ e∈o.after,e.on<i:=fun i o ho e he=>by
  have hi:i<ops.size:=(Array.getElem?_eq_some_iff.1 ho).1;have:=List.all_eq_true.1 hback i (List.mem_range.2 hi);rw[ho] at this;simp at this;obtain⟨k,hk,rfl⟩:=Array.mem_iff_getElem.1 he;exact this k hk
 have hg:∀(i:Nat) (o:Oper),ops[i]?=some o→o.guard=none:=fun i o ho=>by
  have:=Array.all_eq_true_iff_forall_mem.1 hguard o (Array.mem_of_getElem? ho);simpa using this
 have hno:∀(listed:Array Bool),listed.size=ops.size→listed.getD last false=false→Region.ready md ops listed≠[]:=by
  intro listed hs hl0 hr;have hall:∀ n i,i<n→i<ops.size→listed.getD i false=true:=by
   intro n
   induction n with
   |zero=>intro i h;omega
   |succ n ih=>
    intro i hin hi;by_cases hlt:i<n
    ·exact ih i hlt hi
    ·cases hl:listed.getD i false with
     |true=>rfl
     |false=>
      exfalso
      have hl':listed.getD i true=false:=by
       have hil:i<listed.size:=by omega
       simp[hil] at hl ⊢;exact hl
      have:i∈Region.ready md ops listed:=mem_ready.2 ⟨hi,hl',ops[i],by simp[hi],fun e hee _=>ih e.on (by have:=hb i ops[i] (by simp[hi]) e hee;omega) (by have:=hb i ops[i] (by simp[hi]) e hee;omega)⟩;rw[hr] at this;cases this
  have:=hall (last+1) last (by omega) (by omega);rw[hl0] at this;cases this
 intro fuel
 induction fuel with
 |zero=>
  intro listed u w hs hl0 he hgd hcl hc
  exfalso
  have hil:last<listed.size:=by omega
  have h3:listed[last]=false:=by simpa[hil] using hl0
  have:listed[last]∈listed.toList.filter (!·):=by
   rw[List.mem_filter];exact⟨by simp,by rw[h3];rfl⟩
  have:=List.length_pos_of_mem this;omega
 |succ fuel ih=>
  intro listed u w hs hl0 he hgd hcl hc;refine⟨fun hr=>absurd hr (hno listed hs hl0),fun i hi=>?_⟩;obtain⟨h1,h2,o,ho,h3⟩:=mem_ready.1 hi;refine wpOp_step ho fun K hK=>?_
  have hwn:Region.wanted o (yielded ops (frame u).tmps)=true:=by simp[Region.wanted,hg i o ho]
  rw[if_pos hwn];have hil:i<listed.size:=by omega
  by_cases hi':i<last
  ·have hnl:listed.getD i false=false:=by simp[hil] at h2 ⊢;exact h2
   have hupd:(fun n=>(listed.setIfInBounds i true).getD n false)=updK (fun n=>listed.getD n false) i:=by
    funext n;rw[getD_set listed i n hil];rfl
   refine hop i o (fun n=>listed.getD n false) u w hi' ho hnl he (fun e hee hbd=>hgd e.on (by have:=hb i o ho e hee;omega) (h3 e hee hbd)) K fun w' v hgv hext hm=>hK _ _ ?_
   refine ih _ _ w' (by simpa using hs) ?_ (by rw[hupd];exact hext) (fun j hj hlj=>?_) (fun j oj hoj hlj e hee hbd=>?_) ?_
   ·rw[getD_set listed i last hil,if_neg (by omega)];exact hl0
   ·rw[getD_set listed i j hil] at hlj;unfold upd;by_cases hji:j=i
    ·subst hji;rw[hupd];simpa using hgv
    ·rw[if_neg hji] at hlj;rw[if_neg hji,hupd];exact hstab j _ w w' i _ hm (Ne.symm hji) hnl (hgd j hj hlj)
   ·rw[getD_set listed i e.on hil];rw[getD_set listed i j hil] at hlj;split
    ·rfl
    ·by_cases hji:j=i
     ·subst hji;have:oj=o:=by rw[ho] at hoj;exact(Option.some.inj hoj).symm
      subst this;exact h3 e hee hbd
     ·rw[if_neg hji] at hlj;exact hcl j oj hoj hlj e hee hbd
   ·have:listed.toList[i]?=some false:=by simp[hil] at h2;simp[hil,h2]
    have:=count_set listed.toList i this;rw[Array.toList_setIfInBounds];omega
  ·have hie:i=last:=by omega
   subst hie;have hdir:∀ k,waits md ops i k=true→listed.getD k false=true:=fun k hk=>by
    obtain⟨o',ho',e,hee,hbd,rfl⟩:=waits_ex hk;have:o'=o:=by rw[ho] at ho';exact(Option.some.inj ho').symm
    subst this;exact h3 e hee hbd
   have hlst:∀ j,j<i→listed.getD j false=true:=fun j hj=>by
    have h5:=List.all_eq_true.1 hwait j (List.mem_range.2 hj);rw[Bool.or_eq_true] at h5;rcases h5 with h5|h5
    ·exact hdir j h5
    ·obtain⟨k,_,h6⟩:=List.any_eq_true.1 h5;rw[Bool.and_eq_true] at h6;obtain⟨ok,hok,e,hee,hbd,rfl⟩:=waits_ex h6.2;exact hcl k ok hok (hdir k h6.1) e hee hbd
   refine hend o (fun n=>listed.getD n false) u w ho he (fun j hj=>hgd j hj (hlst j hj)) K fun a w' hq=>hK _ _ (wpAny_end ?_ hq)
   apply List.eq_nil_iff_forall_not_mem.2;intro j hj;obtain⟨g1,g2,_⟩:=mem_ready.1 hj;have hjl:j<listed.size:=by omega
   have g3:(listed.setIfInBounds i true).getD j false=false:=by
    have:j<(listed.setIfInBounds i true).size:=by simpa using hjl
    rw[Array.getD_eq_getD_getElem?,Array.getElem?_eq_getElem this] at g2 ⊢;exact g2
   rw[getD_set listed i j hil] at g3;by_cases hji:j=i
   ·rw[if_pos hji] at g3;cases g3
   ·rw[if_neg hji,hlst j (by omega)] at g3;cases g3
end
end Go.Proofs.YthmeoilbmfdhfaaGreat
