import Derived.Test.YtncomnkdlpoelaaGreatDoorMShQ
import Derived.Test.YtncomnkdlpoelaaGreatDoorMCat
open Go.Proofs.Tryz renaming prog->tP
open Go.Proofs.Tryz
open Go.Value renaming slice->aM,int->aO,pointer->aY,agg->af
open Go.IntKind renaming i64->aZ,u8->aP
open Go.Obj renaming cells->aa
open Go.Ending renaming returned->aQ
open Go.Ground renaming data->ag
open Go.Operand renaming tmp->ah
open Option renaming some->aR,none->aS
open Go renaming World->aV,Value->aX
set_option maxHeartbeats 16000000
set_option maxRecDepth 100000
namespace Go.Proofs.YtncomnkdlpoelaaGreatDoor
open Go.ChangeShapes Go.WideShapes Go.ChangeAt Go.RowKit
set_option linter.unusedVariables false
def Q9 (w:aV) (v:aX) (Q:Q4):Prop:=∃ g1 c1 g2 c2 g3 c3 g4 c4,v=af #[aM (aR ⟨g1,0,aS⟩) 16 c1,aM (aR ⟨g2,0,aS⟩) 16 c2,aM (aR ⟨g3,0,aS⟩) 16 c3,aM (aR ⟨g4,0,aS⟩) 16 c4]/\
 Cy w (aR ⟨g1,0,aS⟩) Q.1/\Cy w (aR ⟨g2,0,aS⟩) Q.2.1/\Cy w (aR ⟨g3,0,aS⟩) Q.2.2.1/\Cy w (aR ⟨g4,0,aS⟩) Q.2.2.2
theorem Q9.below {w w':aV} {v:aX} {Q:Q4} (h:Q9 w v Q) (hb:Below w.heap.size w w'):Q9 w' v Q:=by
 obtain⟨g1,c1,g2,c2,g3,c3,g4,c4,e,f1,f2,f3,f4⟩:=h;exact⟨g1,c1,g2,c2,g3,c3,g4,c4,e,f1.below hb,f2.below hb,f3.below hb,f4.below hb⟩
theorem Q9.mk {w:aV} {zs:List Int} {g1 c1 g2 c2 g3 c3 g4 c4:Nat} (f1:Cy w (aR ⟨g1,0,aS⟩) (mX zs Dl)) (f2:Cy w (aR ⟨g2,0,aS⟩) (mY zs)) (f3:Cy w (aR ⟨g3,0,aS⟩) (1%fp)) (f4:Cy w (aR ⟨g4,0,aS⟩) (mX zs Dl*mY zs%fp)) :
  Q9 w (af #[aM (aR ⟨g1,0,aS⟩) 16 c1,aM (aR ⟨g2,0,aS⟩) 16 c2,aM (aR ⟨g3,0,aS⟩) 16 c3,aM (aR ⟨g4,0,aS⟩) 16 c4]) (D7 zs):=⟨g1,c1,g2,c2,g3,c3,g4,c4,rfl,f1,f2,f3,f4⟩
def Xj (w:aV) (v:aX):Prop:=∃ Q,Q9 w v Q
theorem Xj.below {w w':aV} {v:aX} (h:Xj w v) (hb:Below w.heap.size w w'):Xj w' v:=by obtain⟨Q,h⟩:=h;exact⟨Q,h.below hb⟩
def Xk (w:aV) (v:aX) (x:Int):Prop:=∃ g c,v=aM (aR ⟨g,0,aS⟩) 16 c/\Cy w (aR ⟨g,0,aS⟩) x
theorem Xk.below {w w':aV} {v:aX} {x:Int} (h:Xk w v x) (hb:Below w.heap.size w w'):Xk w' v x:=by obtain⟨g,c,e,f⟩:=h;exact⟨g,c,e,f.below hb⟩
def TN (w:aV) (v:aX) (m:Nat):Prop:=∃ g c zs,v=aM (aR ⟨g,0,aS⟩) m c/\m<=c/\zs.length=m/\Cb zs/\At aP w (aR ⟨g,0,aS⟩) zs
theorem TN.below {w w':aV} {v:aX} {m:Nat} (h:TN w v m) (hb:Below w.heap.size w w'):TN w' v m:=by obtain⟨g,c,zs,e,h1,h2,h3,h4⟩:=h;exact⟨g,c,zs,e,h1,h2,h3,h4.below hb⟩
theorem TN.of_own {w:aV} {B:Nat} {v:aX} {zs:List Int} {m:Nat} (h:DB w B v zs) (hl:zs.length=m) (hz:Cb zs):TN w v m:=by
 obtain⟨g,c,e,_,_,hc⟩:=h.base;obtain⟨g',c',e',_,_,hA⟩:=h.at2;rw[e] at e';cases e';rw[hl] at e hc;exact⟨g,c,zs,e,hc,hl,hz,hA⟩
def JT (w:aV) (B:Nat) (v:aX) (m:Nat):Prop:=∃ zs,DB w B v zs/\zs.length=m/\Cb zs
theorem JT.of_own {w:aV} {B:Nat} {v:aX} {zs:List Int} {m:Nat} (h:DB w B v zs) (hl:zs.length=m) (hz:Cb zs):JT w B v m:=⟨zs,h,hl,hz⟩
theorem JT.lower {w:aV} {B B':Nat} {v:aX} {m:Nat} (h:JT w B v m) (hB:B'<=B):JT w B' v m:=by obtain⟨zs,h1,h2,h3⟩:=h;exact⟨zs,h1.monoE hB,h2,h3⟩
theorem JT.below {w w':aV} {B:Nat} {v:aX} {m:Nat} (h:JT w B v m) (hb:Below w.heap.size w w'):JT w' B v m:=by obtain⟨zs,h1,h2,h3⟩:=h;exact⟨zs,h1.keepE (λk _ hk=>hb.block k hk),h2,h3⟩
theorem At.cutE {w:aV} {g n:Nat} {zs:List Int} (h:At aP w (aR ⟨g,0,aS⟩) zs) (m:Nat):At aP w (aR ⟨g,0,aS⟩) (zs.take m):=by
 rcases h with h|⟨b,off,e,hb,hc⟩
 ·left;rw[h];simp
 ·cases e;refine .inr ⟨g,0,rfl,hb,λi hi=>?_⟩;have hi':i<m/\i<zs.length:=by simp at hi;omega
  rw[hc i hi'.2];simp[hi'.1,hi'.2]
theorem EM.feE {w:aV} {G g:Nat} {a:Option Addr} {n c:Nat} {s1 s2 s3:aX} {x:Int} (h:EM w G #[aM a n c,s1,s2,s3]) (f:Cy w (aR ⟨g,0,aS⟩) x):g≠G:=by
 intro e;subst e;obtain⟨zs,h1,h2,_⟩:=f;obtain⟨b,o,e,_,hc⟩:=h1.get (AG h2.1);cases e;have c0:=hc 0 (AG h2.1);rw[Ar,h.c0] at c0;cases c0
theorem TO (w:aV):Calls tP 38 #[] w (λe w'=>∃ v,e=aQ v/\Q9 w' v (D7 bB)/\Below w.heap.size w w'):=by
 have HR0:=CY <| EM.new w
 have HB0:=Cn ((A8 w.heap.size w).alloc Ch (aa CO 79));have hs0:w.heap.size<(w.alloc (aa CO 79)).heap.size:=AL
 go_enter func38,ntmps38;go_wp2_with fail;generalize w.alloc (aa CO 79)=w0 at *;refine(Mq _).mono ?_;rintro e w1 ⟨v1,bs1,rfl,O1,b1,l1,x1,B1⟩;obtain rfl:bs1=bB:=Ss b1 l1 x1;obtain⟨g1,c1,rfl,hg1,hg1',A1⟩:=O1.at2;rw[IP];have HA1:=Cn A1;have HR1:=Cn (HR0.o.below B1 hs0);have HB1:=CY <| HB0.o.trans (B1.mono HB0.o.size)
 have hs1:=HR1.o.lt;go_wp2_with fail;refine(SI _).mono ?_;rintro e w2 ⟨g2,c2,rfl,k2,l2,hf,B2⟩;have HA2:=HA1.o.below B2;have HR2:=Cn (HR1.o.below B2 hs1);have HB2:=CY <| HB1.o.trans (B2.mono HB1.o.size)
 have hs2:=HR2.o.lt;go_wp2_with fail;refine(F6 _ _ 32 c1 c2 bB Dl _ IP AK HA2 Ir hf).mono ?_;rintro e w3 ⟨s1,s2,s3,s4,rfl,B3,hone,hok⟩;obtain⟨x1,i1,x2,i2,x3,i3,x4,i4,rfl,rfl,rfl,rfl,f1,f2,f3,f4⟩:=hok PY;have HR3:=Cn (HR2.o.below B3 hs2);have HB3:=CY <| HB2.o.trans (B3.mono HB2.o.size)
 have HF3:=Cn (Al f1 (Al f2 (Al f3 f4)));have hs3:=HR3.o.lt;have HPN:=CY <| EM.new w3
 go_wp2_with (first
  |(refine Cc rfl (ah 2) (ah 8) rfl w3.heap.size _ _ _ _ _ rfl rfl rfl rfl rfl rfl rfl HPN.o ?_)
  |fail)
 intro w4 hp4 hw4;have b34:=(Ce _ _).trans (hw4.below Ch);have HB4:=CY <| HB3.o.trans (b34.mono HB3.o.size)
 have HR4:=Cn (HR3.o.below b34 hs3);have HP4:=Cn hp4;have HF4:AO (Cy w4 (aR ⟨x1,0,aS⟩) (mX bB Dl)/\Cy w4 (aR ⟨x2,0,aS⟩) (mY bB)/\Cy w4 (aR ⟨x3,0,aS⟩) (1%fp)/\Cy w4 (aR ⟨x4,0,aS⟩) (mX bB Dl*mY bB%fp)):=by
  obtain⟨f1,f2,f3,f4⟩:=HF3.o;exact⟨f1.below b34,f2.below b34,f3.below b34,f4.below b34⟩
 generalize w3.heap.size=Ga at *;go_wp2_with (first
  |(refine AZ rfl 79 (ah 2) rfl Ga rfl 79 _ (0,0) _ HP4.o underlying79 rfl Tryz.sizePt ?_)
  |(refine Cc rfl (ah 0) (ah 9) rfl w.heap.size _ _ _ _ _ rfl rfl rfl rfl rfl rfl rfl HR4.o ?_)
  |fail)
 intro w5 hp5 hw5;have HF:AO (∃ v,aQ (af #[aM (aR ⟨x1,0,aS⟩) 16 i1,aM (aR ⟨x2,0,aS⟩) 16 i2,aM (aR ⟨x3,0,aS⟩) 16 i3,aM (aR ⟨x4,0,aS⟩) 16 i4])=aQ v/\Q9 w5 v (D7 bB)/\Below w.heap.size w w5):=by
  obtain⟨f1,f2,f3,f4⟩:=HF4.o;refine⟨_,rfl,Q9.mk (f1.wr hw5 (HR4.o.feE f1)) (f2.wr hw5 (HR4.o.feE f2)) (f3.wr hw5 (HR4.o.feE f3)) (f4.wr hw5 (HR4.o.feE f4)),HB4.o.trans (hw5.below Ch)⟩
 have HP5:=Cn hp5;go_wp2;exact AU (v:=af #[aM (aR ⟨x1,0,aS⟩) 16 i1,aM (aR ⟨x2,0,aS⟩) 16 i2,aM (aR ⟨x3,0,aS⟩) 16 i3,aM (aR ⟨x4,0,aS⟩) 16 i4]) (AY rfl _ _ w.heap.size 79 _ (0,0) _ rfl HP5.o underlying79 rfl Tryz.sizePt) rfl HF.o
theorem KP (x:Int) (w:aV) (hx0:0<=x) (hx1:x<=1000):Calls tP 16 #[aO aZ x] w (λe w'=>∃ v,e=aQ v/\JT w' w.heap.size v 32/\Below w.heap.size w w'):=by
 go_enter func16,ntmps16;go_wp2_with fail;refine Ag AM ?_;refine Cg (λ_ a b=>Below a.heap.size a b) (frame:=(λ(a b:aX)=>λ(t:Nat->aX)=>({ tmps:=List.toArray [a,b,t 7,t 0,t 1,t 2,t 3,t 4,t 5,t 6],defers:=[] }:Act)) _ _)
  (Ext:=λL u w'=>KX w [] L u w') (Good:=λi L w' v=>if i=0 then v=aO aZ x else if i=1 then TN w' v 32 else if i=2 then TN w' v 2 else if i=3 then Q9 w' v (D7 bB) else if i=4 then Xk w' v Dl else if i=5 then Xj w' v else if i=6 then JT w' w.heap.size v 32 else if i=7 then JT w' w.heap.size v 32 else True) ?hstab AM ?hop ?hdone _ _ ((λ(x0 x1 x2 x3 x4 x5 x6 x7:aX)=>λ(i:Nat)=>if i=0 then x0 else if i=1 then x1 else if i=2 then x2 else if i=3 then x3 else if i=4 then x4 else if i=5 then x5 else if i=6 then x6 else if i=7 then x7 else undef) _ _ _ _ _ _ _ _) _ AL ?ext ?start AL
 case start=>intro i hi h;exact absurd h Ef
 case ext=>exact(KX.start w [] _ _ (λ_=>NR)).drew
 case hstab=>
  intro j L w9 w' i v hM _ _ h;by_cases h1:j=1
  ·subst h1;simp at h |-;exact h.below hM
  by_cases h2:j=2
  ·subst h2;simp at h |-;exact h.below hM
  by_cases h3:j=3
  ·subst h3;simp at h |-;exact h.below hM
  by_cases h4:j=4
  ·subst h4;simp at h |-;exact h.below hM
  by_cases h5:j=5
  ·subst h5;simp at h |-;exact h.below hM
  by_cases h6:j=6
  ·subst h6;simp at h |-;exact h.below hM
  by_cases h7:j=7
  ·subst h7;simp at h |-;exact h.below hM
  simp only[if_neg h1,if_neg h2,if_neg h3,if_neg h4,if_neg h5,if_neg h6,if_neg h7] at h |-;exact h
 case hop=>
  intro i o L t w' ho hLi hx hdep K hK;have hi:i<8:=(AR.1 ho).1;obtain rfl|rfl|rfl|rfl|rfl|rfl|rfl|rfl:i=0\/i=1\/i=2\/i=3\/i=4\/i=5\/i=6\/i=7:=AJ
  all_goals(simp at ho;subst ho)
  ·clear hdep;have hK':=hK w' (aO aZ x) AL (hx.step 0 _ Cf ES) Cf;rw[AP AN];go_simp;simpa[Ca] using hK'
  ·have d0:t 0=aO aZ x:=by simpa using(hdep ⟨0,ag⟩ AL rfl).2
   have A:=TC x w' hx0 hx1;have hK':∀ ww v,TN ww v 32->Below w'.heap.size w' ww->K _ ww:=λww v hv hb=>hK ww v (by simpa using hv) (hx.step 1 v hb ES) hb
   rw[AP AN];go_simp;try simp only[d0]
   refine A.mono ?_;rintro e w9 ⟨v9,zs,rfl,o9,b9,l9,_,hb9⟩;have hK2:=hK' w9 v9 (TN.of_own o9 l9 b9) hb9;go_simp;simpa[Ca,d0] using hK2
  ·have f1:TN w' (t 1) 32:=by simpa using(hdep ⟨1,ag⟩ AL rfl).2
   refine Exists.elim f1 λgg hh=>?_
   obtain⟨cc,zs,d1,h1,h2,h3,h4⟩:=hh;have hcc:2<=cc:=AJ
   have hcc':(2:Int)<=(cc:Int):=AJ
   have hK':=hK w' (aM (aR ⟨gg,0,aS⟩) 2 cc) (by simpa using⟨gg,cc,zs.take 2,rfl,hcc,by simp;omega,λv hv=>h3 v (Ax hv),h4.cutE (n:=0) 2⟩) (hx.step 2 _ Cf ES) Cf;rw[AP AN];go_simp;simpa[Ca,d1,hcc'] using hK'
  ·clear hdep;have A:=TO w';have hK':∀ ww v,Q9 ww v (D7 bB)->Below w'.heap.size w' ww->K _ ww:=λww v hv hb=>hK ww v (by simpa using hv) (hx.step 3 v hb ES) hb
   rw[AP AN];go_simp;try simp only[]
   refine A.mono ?_;rintro e w9 ⟨v9,rfl,p9,hb9⟩;have hK2:=hK' w9 v9 p9 hb9;go_simp;simpa[Ca] using hK2
  ·clear hdep;have A:=SI w';have hK':∀ ww v,Xk ww v Dl->Below w'.heap.size w' ww->K _ ww:=λww v hv hb=>hK ww v (by simpa using hv) (hx.step 4 v hb ES) hb
   rw[AP AN];go_simp;try simp only[]
   refine A.mono ?_;rintro e w9 ⟨g9,c9,rfl,_,_,q9,hb9⟩;have hK2:=hK' w9 (aM (aR ⟨g9,0,aS⟩) 16 c9) ⟨g9,c9,rfl,q9⟩ hb9;go_simp;simpa[Ca] using hK2
  ·have f2:TN w' (t 2) 2:=by simpa using(hdep ⟨2,ag⟩ AL rfl).2
   have f3:Q9 w' (t 3) (D7 bB):=by simpa using(hdep ⟨3,ag⟩ AL rfl).2
   have f4:Xk w' (t 4) Dl:=by simpa using(hdep ⟨4,ag⟩ AL rfl).2
   refine Exists.elim f2 λgg hh=>?_
   obtain⟨cc,zs,d2,_,h2,h3,h4⟩:=hh;refine Exists.elim f3 λq1 hh'=>?_
   obtain⟨e1,q2,e2,q3,e3,q4,e4,d3,y1,y2,y3,y4⟩:=hh';refine Exists.elim f4 λgd hh''=>?_
   obtain⟨cd,d4,yd⟩:=hh'';have A:=M6 (aR ⟨gg,0,aS⟩) cc zs q1 q2 q3 q4 gd e1 e2 e3 e4 cd (D7 bB) w' h2 h3 h4 y1 y2 y3 y4 yd;have hK':∀ ww v,Xj ww v->Below w'.heap.size w' ww->K _ ww:=λww v hv hb=>hK ww v (by simpa using hv) (hx.step 5 v hb ES) hb
   rw[AP AN];go_simp;try simp only[d2,d3,d4]
   refine A.mono ?_;rintro e w9 ⟨a1,k1,a2,k2,a3,k3,a4,k4,rfl,z1,z2,z3,z4,hb9⟩;have hK2:=hK' w9 _ ⟨_,a1,k1,a2,k2,a3,k3,a4,k4,rfl,z1,z2,z3,z4⟩ hb9;go_simp;simpa[Ca,d2,d3,d4] using hK2
  ·have f5:Xj w' (t 5):=by simpa using(hdep ⟨5,ag⟩ AL rfl).2
   refine Exists.elim f5 λQQ hh=>?_
   obtain⟨q1,e1,q2,e2,q3,e3,q4,e4,d5,y1,y2,y3,y4⟩:=hh;have A:=KH (aR ⟨q1,0,aS⟩) (aR ⟨q2,0,aS⟩) (aR ⟨q3,0,aS⟩) (aR ⟨q4,0,aS⟩) e1 e2 e3 e4 _ _ _ w' y1 y2 y3;have hK':∀ ww v,JT ww w.heap.size v 32->Below w'.heap.size w' ww->K _ ww:=λww v hv hb=>hK ww v (by simpa using hv) (hx.step 6 v hb ES) hb
   rw[AP AN];go_simp;try simp only[d5]
   refine A.mono ?_;rintro e w9 ⟨v9,bx,rfl,o9,hy,hl,hv,hb9⟩;have hK2:=hK' w9 v9 (JT.of_own (o9.monoE hx.below.size) hl hy) hb9;go_simp;simpa[Ca,d5] using hK2
  ·have f6:JT w' w.heap.size (t 6) 32:=by simpa using(hdep ⟨6,ag⟩ AL rfl).2
   have hK':=hK w' (t 6) (by simpa using f6) (hx.step 7 _ Cf ES) Cf;rw[AP AN];go_simp;simpa[Ca] using hK'
 case hdone=>
  intro L t w9 hx hg;have h7:JT w9 w.heap.size (t 7) 32:=by simpa using hg 7 AK
  have HF:AO (JT w9 w.heap.size (t 7) 32/\Below w.heap.size w w9):=⟨h7,hx.below⟩
  go_wp2
  go_ret
  exact⟨_,rfl,HF.o.1,HF.o.2⟩
theorem TP (r a:Int) (kb ko kc:Nat) (ks:List Int) (w:aV) (hr0:0<=r) (hr1:r<=1000) (ha0:0<=a) (ha1:a<=1000) (hl:ks.length=32) (hz:Cb ks) (hb:kb<w.heap.size)
  (hc:∀ i,i<ks.length->w.cell? ⟨kb,ko+i,aS⟩=aR (aO aP (ks.getD i 0))) :
  Calls tP 89 #[aO aZ r,aM (aR ⟨kb,ko,aS⟩) 32 kc,aO aZ a] w (λe w'=>∃ v,e=aQ v/\JT w' w.heap.size v 32/\Below w.heap.size w w'):=by
 have HC:=Cn hc;have HZ:=Cn hz;clear hc hz;go_enter func89,ntmps89;go_wp2
 go_loopw [7,8,9] (λv c i wr=>∃(q:Nat) (zs:List Int) (cy:Int),q<=40/\i=aO aZ q/\c=aO aZ cy/\0<=cy/\cy<=1000000/\zs.length=q/\Cb zs/\DB wr w.heap.size v zs/\Below w.heap.size w wr) (λ_ _ i _=>40-(intOf i).toNat)
 case atStart=>exact⟨0,[],r,AJ,rfl,rfl,hr0,AJ,rfl,(λv hv=>by cases hv),DB.empty _ _ Ch,Cf.alloc Ch _⟩
 case round=>
  obtain⟨q,zs,cy,hq,rfl,rfl,c0,c1,zl,zb,hown,hbel⟩:=hrel;have hsz:=hbel.size;by_cases hlt:q<40
  ·have hlt':(q:Int)<40:=AJ
   have HO:=Cn hown;have HB:=Cn hbel;clear hown hbel;by_cases h32:q<32
   ·have h32':(q:Int)<32:=AJ
    have hce:wr.cell? ⟨kb,ko+q,aS⟩=aR (aO aP (ks.getD q 0)):=by rw[HB.o.cell (p:=⟨kb,ko+q,aS⟩) hb];exact HC.o q AJ
    obtain⟨z0,z1⟩:=OP HZ.o q;have hm0:0<=ks.getD q 0*a:=Int.mul_nonneg z0 ha0;have hm1:ks.getD q 0*a<=255*1000:=Int.mul_le_mul AJ ha1 ha0 AK;clear HC HZ;generalize ks.getD q 0=z at *;obtain⟨p,hp⟩:∃ p,z*a=p:=⟨_,rfl⟩
    rw[hp] at hm0 hm1;have e1:wrap64 (z*a)=p:=by rw[hp];unfold wrap64;omega
    clear hp;go_wp2_with (at_builtin;refine Cv _ rfl _ _ rfl w.heap.size _ _ rfl (HO.o.alloc _) ⟨wr.heap.size,0,aS⟩ 1 1 [(cy+p)%256] rfl rfl ?c1 ?c2 ?c3 ?_);all_goals first|(intro j hj;obtain rfl:j=0:=AJ
                                                                                                                                                                              simp[Addr.add];done)|skip
    case c2=>simp;omega
    case c3=>first|omega|(rw[Ay];omega)
    intro v' w2 hown2 hb2 _;have HO2:=Cn hown2;have HB2:AO (Below w.heap.size w w2):=(HB.o.alloc hsz _).trans hb2;clear hown2 hb2 HO HB;go_wp2;go_roundw
    case rel=>exact⟨q+1,zs++[(cy+p)%256],(cy+p)/256,AJ,by go_num,by go_num,AJ,AJ,by simp;omega,LH zb AJ,HO2.o,HB2.o⟩
    case measure=>simp[intOf];omega
   ·have h32':¬ (q:Int)<32:=AJ
    clear HC HZ;go_wp2_with (at_builtin;refine Cv _ rfl _ _ rfl w.heap.size _ _ rfl (HO.o.alloc _) ⟨wr.heap.size,0,aS⟩ 1 1 [cy%256] rfl rfl ?d1 ?d2 ?d3 ?_);all_goals first|(intro j hj;obtain rfl:j=0:=AJ
                                                                                                                                                                             simp[Addr.add];done)|skip
    case d2=>first|omega|(simp;omega)
    case d3=>first|omega|(rw[Ay];omega)
    intro v' w2 hown2 hb2 _;have HO2:=Cn hown2;have HB2:AO (Below w.heap.size w w2):=(HB.o.alloc hsz _).trans hb2;clear hown2 hb2 HO HB;go_wp2;go_roundw
    case rel=>exact⟨q+1,zs++[cy%256],cy/256,AJ,by go_num,by go_num,AJ,AJ,by simp;omega,LH zb AJ,HO2.o,HB2.o⟩
    case measure=>simp[intOf];omega
  ·have hq40:q=40:=AJ
   subst hq40;clear HC HZ;obtain⟨g,c,rfl,_,_,hA⟩:=hown.at2;rw[zl];have HR:=Cn (KK (aR ⟨g,0,aS⟩) 40 c zs wr zl AK hA zb);have HB:=Cn hbel;clear hA hown hbel;go_wp2_with fail;refine HR.o.mono ?_;rintro e w2 ⟨v2,rs,rfl,O2,b2,l2,_,B2⟩;have HF:=Cn (Al (JT.of_own (O2.monoE hsz) l2 b2) (HB.o.trans (B2.mono hsz)));clear HR HB O2 B2;go_wp2
   go_ret
   exact⟨_,rfl,HF.o.1,HF.o.2⟩
theorem Qu (zs:List Int):(F0 zs).length=64:=by
 unfold F0;rw[Gv,(Jo _ _ _).1]
theorem Fx {xs ys:List Int} (hx:Cb xs) (hy:Cb ys):Cb (xs++ys):=λz hz=>by
 rcases Bi.1 hz with h|h
 ·exact hx z h
 ·exact hy z h
theorem Fl.of_own {w:aV} {B:Nat} {v:aX} {zs:List Int} (h:DB w B v zs):Fl w v zs:=by
 obtain⟨g,c,rfl,hA,_⟩:=FK.of_own h;exact⟨g,0,c,rfl,hA.lt,hA.c⟩
theorem Yd (w:aV) (v1 v2 v3:aX) (z1 z2 z3:List Int) (h1:Fl w v1 z1) (h2:Fl w v2 z2) (h3:Fl w v3 z3) (hl:z1.length+z2.length+z3.length<=100000) :
  Calls tP 63 #[aM (aR ⟨w.heap.size,0,aS⟩) 3 3] (w.alloc (aa #[v1,v2,v3] 22)) λe w'=>∃ v,e=aQ v/\DB w' w.heap.size v (z1++z2++z3)/\Below w.heap.size w w':=by
 have hal:Below w.heap.size w (w.alloc (aa #[v1,v2,v3] 22)):=Ce _ _;have hfl:[z1,z2,z3].flatten=z1++z2++z3:=AL
 have C:=Lv w.heap.size 3 3 [v1,v2,v3] [z1,z2,z3] (w.alloc (aa #[v1,v2,v3] 22)) rfl AL
  (λi hi=>by
   rw[AA (AS w _) i]
   match i,hi with
   |0,_=>rfl
   |1,_=>rfl
   |2,_=>rfl)
  (λi hi=>by
   match i,hi with
   |0,_=>exact h1.below hal
   |1,_=>exact h2.below hal
   |2,_=>exact h3.below hal)
  (by rw[hfl,Ae,Ae];omega) AK
 rw[hfl] at C;refine C.mono ?_;rintro e w' ⟨v,rfl,O,B⟩;exact⟨v,rfl,O.monoE hal.size,hal.trans (B.mono hal.size)⟩
theorem TQ (a r:Int) (bm om nm cm:Nat) (ms:List Int) (w:aV) (ha0:0<=a) (ha1:a<=1000) (hr0:0<=r) (hr1:r<=1000) (hm:FK w bm om ms) (hz:Cb ms) (hml:ms.length=nm) (hl:nm<=1000) :
  Calls tP 66 #[aO aZ a,aO aZ r,aM (aR ⟨bm,om,aS⟩) nm cm] w (λe w'=>∃ v,e=aQ v/\JT w' w.heap.size v 64/\Below w.heap.size w w'):=by
 have HM:=Cn hm;have HZ:=Cn hz;go_enter func66,ntmps66;go_wp2_with fail;refine(KP r w hr0 hr1).mono ?_;rintro e w1 ⟨v1,rfl,⟨z1,O1,l1,b1⟩,B1⟩;obtain⟨g1,k1,rfl,_,_⟩:=FK.of_own O1;rw[l1] at O1 |-;have HO1:=Cn O1;have HB1:=Cn B1;go_wp2_with fail;refine(KP a w1 ha0 ha1).mono ?_;rintro e w2 ⟨v2,rfl,⟨z2,O2,l2,b2⟩,B2⟩;obtain⟨g2,k2,rfl,_,_⟩:=FK.of_own O2;rw[l2] at O2 |-;have HO2:=Cn (Al (HO1.o.keepE (λk _ hk=>B2.block k hk)) O2);have HB2:=Cn (HB1.o.trans (B2.mono HB1.o.size));have C:=Cn (Yd w2 _ _ _ z1 z2 ms (Fl.of_own HO2.o.1) (Fl.of_own HO2.o.2) ((HM.o.below HB2.o).part nm cm hml) AJ);go_wp2_with fail;refine C.o.mono ?_;rintro e w3 ⟨v3,rfl,O3,B3⟩;obtain⟨g3,c3,rfl,hA3,hc3⟩:=FK.of_own O3;have HBY:=Cn (Fx (Fx b1 b2) HZ.o);have hlen:(z1++z2++ms).length=64+nm:=by rw[Ae,Ae,l1,l2,hml]
 have HO3:=Cn (HO2.o.1.keepE (λk _ hk=>B3.block k hk));have HB3:=Cn (HB2.o.trans (B3.mono HB2.o.size));have H:=Cn (NA g3 0 c3 (64+nm) (z1++z2++ms) w3 hlen hA3.lt hA3.c HBY.o AJ);rw[hlen];have HSL:=Cn (Al (Qu (z1++z2++ms)) (show Cb (F0 (z1++z2++ms)) by unfold F0;exact I5 _));generalize F0 (z1++z2++ms)=hs at *;go_wp2_with fail;refine H.o.mono ?_;rintro e w4 ⟨v4,rfl,O4,B4⟩;obtain⟨g4,c4,rfl,hA4,hc4⟩:=FK.of_own O4;have HO4:=Cn (HO3.o.keepE (λk _ hk=>B4.block k hk));have HB4:=Cn (HB3.o.trans (B4.mono HB3.o.size));have R:=Cn (KK (aR ⟨g4,0,aS⟩) 64 c4 hs w4 HSL.o.1 AK hA4.at_ HSL.o.2);rw[HSL.o.1];go_wp2_with fail;refine R.o.mono ?_;rintro e w5 ⟨v5,rs,rfl,O5,b5,l5,_,B5⟩;obtain⟨g5,c5,rfl,hA5,hc5⟩:=FK.of_own O5;rw[l5];have HO5:=Cn (HO4.o.keepE (λk _ hk=>B5.block k hk));have HB5:=Cn (HB4.o.trans (B5.mono HB4.o.size));have P:=Cn (TP r a g5 0 c5 rs w5 hr0 hr1 ha0 ha1 l5 b5 hA5.lt hA5.c);go_wp2_with fail;refine P.o.mono ?_;rintro e w6 ⟨v6,rfl,⟨z6,O6,l6,b6⟩,B6⟩;obtain⟨g6,c6,rfl,hA6,hc6⟩:=FK.of_own O6;rw[l6];have HO6:=Cn (HO5.o.keepE (λk _ hk=>B6.block k hk));have HB6:=Cn (HB5.o.trans (B6.mono HB5.o.size));have HA6:=Cn hA6;go_wp2_with (at_builtin;refine Cv _ rfl _ _ rfl w.heap.size _ _ rfl HO6.o ⟨g6,0,aS⟩ 32 c6 z6 rfl l6 ?c1 ?c2 HB6.o.size ?_)
 case c1=>intro j hj;rw[A0];exact HA6.o.c j AJ
 case c2=>omega
 intro v7 w7 O7 B7 _;have HF:=Cn (Al (JT.of_own O7 (by rw[Ae,l1,l6]:(z1++z6).length=64) (Fx b1 b6)) (HB6.o.trans B7));go_wp2
 go_ret
 exact⟨_,rfl,HF.o.1,HF.o.2⟩
theorem Ee (w:aV) (g k j:Nat):(w.freeze ⟨g,k,aS⟩ 1).heap[j]?=if j=g then(w.heap[j]?).map (fun|aa c elem (lo,hi)=>aa c elem (if lo == hi then(k,k+1) else(min lo k,max hi (k+1)))|o=>o) else w.heap[j]?:=by
 unfold World.freeze;rw[AQ AK];simp only[Array.getElem?_modify];by_cases h:g=j
 ·subst h;simp;rfl
 ·rw[AQ h,AQ (A9 h)]
theorem Hj (w:aV) (a:Addr) (n:Nat):(w.freeze a n).heap.size=w.heap.size:=by
 unfold World.freeze;split<;>simp
theorem L8 (w:aV) (g k B:Nat) (hB:B<=g):Below B w (w.freeze ⟨g,k,aS⟩ 1):=
 ⟨rfl,rfl,rfl,by rw[Hj];exact Aa _,λj hj=>by rw[Ee,AQ AJ]⟩
theorem ND (w:aV) (g k:Nat):Xl w (w.freeze ⟨g,k,aS⟩ 1):=by
 refine⟨by rw[Hj];exact Aa _,λa ha=>?_,λb cs t fr hb=>?_⟩
 ·by_cases h:a.block=g
  ·subst h;cases hh:w.heap[a.block]? with
   |none=>simp[World.cell?,Ee,hh]
   |some o=>cases o<;>simp[World.cell?,Ee,hh]
  ·simp[World.cell?,Ee,h]
 ·by_cases h:b=g
  {subst h;rw[Ee,AP rfl,hb];exact⟨_,rfl⟩};{rw[Ee,AQ h];exact⟨fr,hb⟩}
theorem Iz (w:aV) (g:Nat) (C:Array aX) (n c:Nat) (fr:Nat×Nat) (hg:w.heap[g]?=aR (aa C 5 fr)) :
  (convert 22 22 (aM (aR ⟨g,0,aS⟩) n c)).run tP w=.ok (aM (aR ⟨g,0,aS⟩) n c) (w.freeze ⟨g,C.size,aS⟩ 1):=by
 have hsh:w.shape? g=aR (5,C.size):=by unfold World.shape?;rw[hg]
 simp[convert,run_underlying underlying22,run_underlying underlying5,markStringish,hsh]
theorem Fl.mono {w w':aV} {v:aX} {zs:List Int} (h:Fl w v zs) (hm:Xl w w'):Fl w' v zs:=by
 obtain⟨b,o,c,rfl,hl,hc⟩:=h;exact⟨b,o,c,rfl,AG hm.size,λi hi=>by rw[hm.cell ⟨b,o+i,aS⟩ hl];exact hc i hi⟩
theorem KQ (w:aV) (cs:Array aX) (zs:List Int) (t:TypeId) (h:cs=(zs.map (Value.int aP)).toArray) (n:Nat) (hn:n=zs.length) (c:Nat):Fl (w.alloc (aa cs t)) (aM (aR ⟨w.heap.size,0,aS⟩) n c) zs:=by
 subst h;subst hn;refine⟨w.heap.size,0,c,rfl,AL,λi hi=>?_⟩;rw[Bf _ _ (0+i) _ t (0,0) (AS w _)];simp[hi]
theorem Co (w:aV) (o:Obj):Below w.heap.size w (w.alloc o):=Cf.alloc Ch _
theorem Qv (x:Int) (h:Zs x):Cb (M4 x):=by
 obtain⟨h0,h1⟩:=h;intro z hz;simp[M4] at hz;rcases hz with rfl|rfl|rfl|rfl<;>omega
theorem Zi (w:aV) (v1 v2:aX) (z1 z2:List Int) (h1:Fl w v1 z1) (h2:Fl w v2 z2) (hl:z1.length+z2.length<=100000) :
  Calls tP 63 #[aM (aR ⟨w.heap.size,0,aS⟩) 2 2] (w.alloc (aa #[v1,v2] 22)) λe w'=>∃ v,e=aQ v/\DB w' w.heap.size v (z1++z2)/\Below w.heap.size w w':=by
 have hal:Below w.heap.size w (w.alloc (aa #[v1,v2] 22)):=Co _ _;have hfl:[z1,z2].flatten=z1++z2:=AL
 have C:=Lv w.heap.size 2 2 [v1,v2] [z1,z2] (w.alloc (aa #[v1,v2] 22)) rfl AL
  (λi hi=>by
   rw[AA (AS w _) i]
   match i,hi with
   |0,_=>rfl
   |1,_=>rfl)
  (λi hi=>by
   match i,hi with
   |0,_=>exact h1.below hal
   |1,_=>exact h2.below hal)
  (by rw[hfl,Ae];omega) AK
 rw[hfl] at C;refine C.mono ?_;rintro e w' ⟨v,rfl,O,B⟩;exact⟨v,rfl,O.monoE hal.size,hal.trans (B.mono hal.size)⟩
theorem IR (a r s x:Int) (w:aV) (ha0:0<=a) (ha1:a<=1000) (hr0:0<=r) (hr1:r<=1000) (hs0:0<=s) (hs1:s<65536) (hx0:0<=x) (hx1:x<4294967296) :
  Calls tP 40 #[aO aZ a,aO aZ r,aO aZ s,aO aZ x] w (λe w'=>∃ v,e=aQ v/\JT w' w.heap.size v 72/\Below w.heap.size w w'):=by
 obtain⟨wf,ewf⟩:∃ wf,wf=(w.alloc (aa #[aO aP 84,aO aP 49] 5)).freeze ⟨w.heap.size,2,aS⟩ 1:=⟨_,rfl⟩
 have hcv:(convert 22 22 (aM (aR ⟨w.heap.size,0,aS⟩) 2 2)).run tP (w.alloc (aa #[aO aP 84,aO aP 49] 5))=.ok (aM (aR ⟨w.heap.size,0,aS⟩) 2 2) wf:=by
  rw[ewf];exact Iz _ w.heap.size _ 2 2 (0,0) (AS w _)
 have hfs:wf.heap.size=w.heap.size+1:=by rw[ewf,Hj];simp
 have HF:=CY (show Below w.heap.size w wf/\Fl wf (aM (aR ⟨w.heap.size,0,aS⟩) 2 2) [84,49] from by
  rw[ewf];exact⟨(Co _ _).trans (L8 _ _ 2 _ Ch),(KQ w #[aO aP 84,aO aP 49] [84,49] _ rfl 2 rfl 2).mono (ND _ _ _)⟩)
 clear ewf;go_enter func40,ntmps40;go_wp2_with fail;refine(TA x _ ⟨hx0,hx1⟩).mono ?_;rintro e w2 ⟨rfl,h2⟩;have b1:=Co wf (aa #[aO aP (s%256),aO aP (s/256)] 5);have b2:=Co (wf.alloc (aa #[aO aP (s%256),aO aP (s/256)] 5)) (aa #[aO aP (x%256),aO aP (x/256%256),aO aP (x/65536%256),aO aP (x/16777216)] 5);rw[<-h2] at b2;have p2:=KQ wf #[aO aP (s%256),aO aP (s/256)] [s%256,s/256] 5 rfl 2 rfl 2;have p3:=KQ (wf.alloc (aa #[aO aP (s%256),aO aP (s/256)] 5)) #[aO aP (x%256),aO aP (x/256%256),aO aP (x/65536%256),aO aP (x/16777216)] (M4 x) 5 rfl 4 rfl 4;rw[<-h2] at p3;rw[hfs] at p2;rw[Ay,hfs] at p3 |-;have C:=CY (Yd w2 _ _ _ [84,49] [s%256,s/256] (M4 x) ((HF.o.2.below b1).below b2) (p2.below b2) p3 (by simp[M4]));have HB:=CY (HF.o.1.trans ((b1.mono (by rw[hfs];omega)).trans (b2.mono (by simp;omega))));have HY:=CY (show Cb ([84,49]++[s%256,s/256]++M4 x) from Fx (Fx (by intro z hz;simp at hz;omega) (by intro z hz;simp at hz;omega)) (Qv x ⟨hx0,hx1⟩));have HL:=CY (show([84,49]++[s%256,s/256]++M4 x).length=8 from rfl);clear HF b1 b2 p2 p3 h2 hcv hfs;generalize [84,49]++[s%256,s/256]++M4 x=hs at *;go_wp2_with fail;refine C.o.mono ?_;rintro e w3 ⟨v3,rfl,O3,B3⟩;obtain⟨g3,c3,rfl,hA3,hc3⟩:=FK.of_own O3;rw[HL.o] at O3 hc3 |-;have HO3:=CY (O3.monoE HB.o.size);have HB3:=CY (HB.o.trans (B3.mono HB.o.size));have HA3:=CY hA3;clear C O3 B3 HB hA3;by_cases h0:a=0
 ·subst h0;go_wp2_with fail;refine(QA 64 w3 AK AK).mono ?_;rintro e w4 ⟨v4,rfl,O4,B4⟩;obtain⟨g4,c4,rfl⟩:=O4.2;have hl4:(List.replicate (64:Int).toNat (0:Int)).length=64:=rfl;rw[hl4] at O4 |-;have C:=CY (Zi w4 _ _ hs _ (Fl.of_own (HO3.o.keepE (λk _ hk=>B4.block k hk))) (Fl.of_own O4) (by rw[HL.o,hl4];decide));have HB4:=CY (HB3.o.trans (B4.mono HB3.o.size));clear O4 B4 HO3 HB3 HA3;go_wp2_with fail;refine C.o.mono ?_;rintro e w5 ⟨v5,rfl,O5,B5⟩;have HF:=CY (Al (JT.of_own (O5.monoE HB4.o.size) (show _=72 by rw[Ae,HL.o,hl4]) (Fx HY.o (λz hz=>by rw[List.mem_replicate] at hz;omega))) (HB4.o.trans (B5.mono HB4.o.size)));clear O5 B5 C HB4;go_wp2
  go_ret
  exact⟨_,rfl,HF.o.1,HF.o.2⟩
 ·go_wp2_with fail;refine(TQ a r g3 0 8 c3 hs w3 ha0 ha1 hr0 hr1 HA3.o HY.o HL.o AK).mono ?_;rintro e w4 ⟨v4,rfl,⟨z4,O4,l4,y4⟩,B4⟩;obtain⟨g4,c4,rfl,hA4,hc4⟩:=FK.of_own O4;rw[l4];have HO4:=CY (HO3.o.keepE (λk _ hk=>B4.block k hk));have HB4:=CY (HB3.o.trans (B4.mono HB3.o.size));have HA4:=CY hA4;clear O4 B4 hA4 hc4 HO3 HB3 HA3;go_wp2_with (at_builtin;refine Cv _ rfl _ _ rfl w.heap.size _ _ rfl HO4.o ⟨g4,0,aS⟩ 64 c4 z4 rfl l4 ?c1 ?c2 HB4.o.size ?_)
  case c1=>intro j hj;rw[A0];exact HA4.o.c j AJ
  case c2=>rw[HL.o];decide
  intro v7 w7 O7 B7 _;have HF:=CY (Al (JT.of_own O7 (show _=72 by rw[Ae,HL.o,l4]) (Fx HY.o y4)) (HB4.o.trans B7));clear O7 B7 HO4 HB4 HA4;go_wp2
  go_ret
  exact⟨_,rfl,HF.o.1,HF.o.2⟩
theorem VO (u v:Int):0<=bits .xor aP u v/\bits .xor aP u v<256:=by
 have h:∀ n:Int,0<=IntKind.u8.wrap n/\IntKind.u8.wrap n<256:=λn=>by rw[IntKind.wrap_u8];omega
 unfold bits;exact h _
def Gj (B:Nat) (w:aV) (u:aX) (n:Nat):Prop:=
 ∃ b o c zs cs fr,u=aM (aR ⟨b,o,aS⟩) n c/\n<=c/\zs.length=n/\Cb zs/\B<=b/\w.heap[b]?=aR (aa cs 5 fr)/\∀ i,i<n->w.cell? ⟨b,o+i,aS⟩=aR (aO aP (zs.getD i 0))
theorem Gj.keep {B:Nat} {w w':aV} {u:aX} {n:Nat} (h:Gj B w u n) (hk:∀ b cs fr,B<=b->w.heap[b]?=aR (aa cs 5 fr)->w'.heap[b]?=w.heap[b]?):Gj B w' u n:=by
 obtain⟨b,o,c,zs,cs,fr,h1,h2,h3,h4,h5,h6,h7⟩:=h;have e:=hk b cs fr h5 h6;exact⟨b,o,c,zs,cs,fr,h1,h2,h3,h4,h5,by rw[e];exact h6,λi hi=>by rw[Af (a:=⟨b,o+i,aS⟩) e];exact h7 i hi⟩
theorem Cm {w:aV} {b:Nat} {o:Obj} (h:w.heap[b]?=aR o):b<w.heap.size:=(AR.1 h).1
theorem Gj.below {B:Nat} {w w':aV} {u:aX} {n:Nat} (h:Gj B w u n) (b:Below w.heap.size w w'):Gj B w' u n:=h.keep λk _ _ _ hk=>b.block k (Cm hk)
theorem Gj.wrG {B g:Nat} {w w':aV} {u:aX} {n:Nat} (h:Gj B w u n) (b:Eo g w w') (hg:g<B):Gj B w' u n:=h.keep λk _ _ hB hk=>b.block k (Cm hk) AJ
theorem Gj.mono {B B':Nat} {w:aV} {u:aX} {n:Nat} (h:Gj B w u n) (hB:B'<=B):Gj B' w u n:=by
 obtain⟨b,o,c,zs,cs,fr,h1,h2,h3,h4,h5,h6,h7⟩:=h;exact⟨b,o,c,zs,cs,fr,h1,h2,h3,h4,Ai hB h5,h6,h7⟩
theorem Gj.of_own {B:Nat} {w:aV} {v:aX} {zs:List Int} {n:Nat} (h:DB w B v zs) (hl:zs.length=n) (hz:Cb zs):Gj B w v n:=by
 subst hl;obtain⟨g,c,rfl⟩:=h.2;rcases h.1.2 with⟨h',_⟩|⟨g',c',cur,h',hb,hh,hc,_⟩
 ·cases h'
 ·cases h';refine⟨g,0,c,zs,cur,_,rfl,hc,rfl,hz,hb,hh,λi hi=>?_⟩;rw[Ar,h.1.cellAt i AJ];simp[hi]
theorem Gj.of_txO {B:Nat} {w:aV} {v:aX} {n:Nat} (h:JT w B v n):Gj B w v n:=by
 obtain⟨zs,h1,h2,h3⟩:=h;exact Gj.of_own h1 h2 h3
theorem Gj.cut {B:Nat} {w:aV} {b o c n:Nat} (h:Gj B w (aM (aR ⟨b,o,aS⟩) n c) n) (m:Nat) (hm:m<=n):Gj B w (aM (aR ⟨b,o,aS⟩) m c) m:=by
 obtain⟨b',o',c',zs,cs,fr,h1,h2,h3,h4,h5,h6,h7⟩:=h;cases h1;refine⟨b,o,c,zs.take m,cs,fr,rfl,AJ,by simp;omega,λz hz=>h4 z (Ax hz),h5,h6,λi hi=>?_⟩;rw[h7 i AJ]
 congr 2
 simp[List.getD_eq_getElem?_getD,hi]
theorem Gj.at_ {B:Nat} {w:aV} {u:aX} {n:Nat} (h:Gj B w u n):∃ a c zs,u=aM a n c/\n<=c/\zs.length=n/\Cb zs/\At aP w a zs:=by
 obtain⟨b,o,c,zs,cs,fr,h1,h2,h3,h4,h5,h6,h7⟩:=h;exact⟨_,c,zs,h1,h2,h3,h4,.inr ⟨b,o,rfl,Cm h6,λi hi=>h7 i AJ⟩⟩
structure PS (lo:Nat) (w:aV) (g:Nat) (x:Option Addr) (n cap:Nat) (v:aX) (m:Nat) (vs:List aX) (wr:aV):Prop where
 wg:Eo g w wr
 cb:Dc wr g x n cap
 hg:g<w.heap.size
 row:wr.ownsRow w.heap.size 22 1 v m vs
 tx:∀ u∈vs,∃ k,lo<=k/\k<=72/\Gj w.heap.size wr u k
section
variable {lo:Nat} {w:aV} {g:Nat} {x:Option Addr} {n cap:Nat} {v:aX} {m:Nat} {vs:List aX} {wr w':aV} {q c:Nat}
theorem PS.ct (h:PS lo w g x n cap v m vs wr) (ht:Fb w g x n):Fb wr g x n:=ht.wr (λq hq=>h.wg.block q (Nat.lt_trans hq h.hg) (Nat.ne_of_lt hq))
theorem Ds {B:Nat} {e:TypeId} {s:Nat} (h:wr.ownsRow B e s v m vs) (hk:∀ q cs,B<=q->wr.heap[q]?=aR (aa cs e (0,0))->w'.heap[q]?=wr.heap[q]?):w'.ownsRow B e s v m vs:=by
 refine⟨h.1,?_⟩;rcases h.2 with h'|⟨q,c,cur,h1,h2,h3,h4⟩
 ·exact .inl h'
 ·exact .inr ⟨q,c,cur,h1,h2,by rw[hk q cur h2 h3];exact h3,h4⟩
theorem PS.cur (h:PS lo w g x n cap v m vs wr) (hc:Dc w' g x n cap) (hw:Wr g wr w'):PS lo w g x n cap v m vs w':=
 ⟨h.wg.trans hw.wrG,hc,h.hg,Ds h.row (λq _ hq _=>hw.block q (AG h.hg)),λu hu=>by
  obtain⟨k,h0,h1,h2⟩:=h.tx u hu;exact⟨k,h0,h1,h2.wrG hw.wrG h.hg⟩⟩
theorem PS.call (h:PS lo w g x n cap v m vs wr) (b:Below wr.heap.size wr w'):PS lo w g x n cap v m vs w':=
 ⟨h.wg.trans (Eo.of_below b),by obtain⟨i,hh,p1,p2,p3,p4,p5⟩:=h.cb;exact⟨i,hh,p1,p2,p3,p4,by rw[b.block g (Cm p5)];exact p5⟩,h.hg,Ds h.row (λq _ _ hq=>b.block q (Cm hq)),λu hu=>by
  obtain⟨k,h0,h1,h2⟩:=h.tx u hu;exact⟨k,h0,h1,h2.below b⟩⟩
theorem PS.app {v' u:aX} {k:Nat} (h:PS lo w g x n cap v m vs wr) (hu:Gj w.heap.size wr u k) (hk0:lo<=k) (hk:k<=72) (hg:wr.grownBy w' v.ownBlock) (hr:w'.ownsRow w.heap.size 22 1 v' (m+1) (vs++[u])):PS lo w g x n cap v' (m+1) (vs++[u]) w':=by
 have hB:∀ q,v.ownBlock=aR q->w.heap.size<=q/\∃ cs fr,wr.heap[q]?=aR (aa cs 22 fr):=λq hq=>by
  rcases h.row.2 with⟨h',_⟩|⟨q',c,cur,h1,h2,h3,h4⟩
  {rw[h'] at hq;simp[Value.ownBlock] at hq};{rw[h1] at hq;simp[Value.ownBlock] at hq;subst hq;exact⟨h2,cur,_,h3⟩}
 have kp:∀ q,q<w.heap.size->w'.heap[q]?=wr.heap[q]?:=λq hq=>hg.block q (Ap hq h.wg.size) (λe=>AG (hB q e.symm).1)
 have kt:∀ b cs fr,w.heap.size<=b->wr.heap[b]?=aR (aa cs 5 fr)->w'.heap[b]?=wr.heap[b]?:=λb cs fr _ hb=>hg.block b (Cm hb) (λe=>by
  obtain⟨_,cs',fr',h'⟩:=hB b e.symm;rw[hb] at h';injection h' with h';injection h' with _ h' _;exact absurd h' AK)
 refine⟨⟨hg.os.trans h.wg.os,hg.tape.trans h.wg.tape,hg.output.trans h.wg.output,Ai h.wg.size hg.size,λq hq hne=>(kp q hq).trans (h.wg.block q hq hne)⟩,?_,h.hg,hr,λz hz=>?_⟩
 ·obtain⟨i,hh,p1,p2,p3,p4,p5⟩:=h.cb;exact⟨i,hh,p1,p2,p3,p4,by rw[kp g h.hg];exact p5⟩
 ·rcases Bi.1 hz with hz|hz
  {obtain⟨k',h0,h1,h2⟩:=h.tx z hz;exact⟨k',h0,h1,h2.keep kt⟩};{simp at hz;subst hz;exact⟨k,hk0,hk,hu.keep kt⟩}
theorem PS.weak (h:PS lo w g x n cap v m vs wr):PS 0 w g x n cap v m vs wr:=⟨h.wg,h.cb,h.hg,h.row,λu hu=>by
 obtain⟨k,h0,h1,h2⟩:=h.tx u hu;exact⟨k,Aw _,h1,h2⟩⟩
theorem PS.form (h:PS lo w g x n cap v m vs wr):∃ a c,v=aM a m c:=by
 rcases h.row.2 with⟨rfl,rfl⟩|⟨q,c,cur,h1,_⟩
 ·exact⟨_,_,rfl⟩
 ·exact⟨_,_,h1⟩
theorem PS.form1 (h:PS lo w g x n cap v m vs wr) (hm:0<m):∃ q c,v=aM (aR ⟨q,0,aS⟩) m c/\m<=c/\w.heap.size<=q/\∀ i,i<m->wr.cell? ⟨q,i,aS⟩=vs[i]?:=by
 rcases h.row.2 with⟨_,h0⟩|⟨q,c,cur,h1,h2,h3,h4,_⟩
 ·omega
 ·have hr:=h.row;rw[h1] at hr;exact⟨q,c,h1,h4,h2,λi hi=>hr.cellAt i AJ⟩
theorem PS.lt (h:PS lo w g x n cap (aM (aR ⟨q,0,aS⟩) m c) m vs wr):q<wr.heap.size:=by
 rcases h.row.2 with⟨h',_⟩|⟨q',c',cur,h1,h2,h3,_⟩
 ·cases h'
 ·cases h1;exact Cm h3
theorem Dc.bel {w w':aV} {g:Nat} {x:Option Addr} {n cap:Nat} (h:Dc w g x n cap) (b:Below w.heap.size w w'):Dc w' g x n cap/\g<w.heap.size:=by
 obtain⟨i,hh,p1,p2,p3,p4,p5⟩:=h;exact⟨⟨i,hh,p1,p2,p3,p4,by rw[b.block g (Cm p5)];exact p5⟩,Cm p5⟩
theorem PS.start (lo:Nat) (h:Dc w g x n cap):PS lo w g x n cap (aM (aR ⟨w.heap.size,0,aS⟩) 0 0) 0 [] (w.alloc (aa #[] 22)):=
 ⟨Eo.of_below (Co _ _),(h.bel (Co _ _)).1,(h.bel (Co w (aa #[] 22))).2,⟨AL,.inr ⟨w.heap.size,0,#[],rfl,Aa _,AS w _,Aa _,by simp[maxLen],AL,AL⟩⟩,AL⟩
theorem Tryz.infoTxt:(tP.info? 22).map (λi=>(i.zero,i.size,i.bytes))=aR (aR (aM aS 0 0),1,24):=AM
theorem En (wb:aV) {ops:Array Oper} {rest:List Oper} {o:Oper} {a:Act} {Q:Exit->Act->aV->Prop} (hgd:o.guard=aS) (s y:Operand)
  (hop:o.op=Op.call { callee:=Callee.builtin Builtin.append,args:=#[s,y],argTypes:=#[50,50] }) (B:Nat) (v:aX) (m:Nat) (vs:List aX) (u:aX) (hs:a.eval s=v)
  (hown:(wb.alloc (aa #[u] 22)).ownsRow B 22 1 v m vs) (hx:a.eval y=aM (aR ⟨wb.heap.size,0,aS⟩) 1 1) (hu:u.oneCell'=true) (hm:m<=1000) (hB:B<=wb.heap.size)
  (hK:∀ v' w',w'.ownsRow B 22 1 v' (m+1) (vs++[u])->(wb.alloc (aa #[u] 22)).grownBy w' v.ownBlock->wpList tP ops Q rest (a.put o.dst v') w'):wpList tP ops Q (o::rest) a (wb.alloc (aa #[u] 22)):=by
 obtain⟨i0,hi,hz0,hz1,hz2⟩:=BZ Tryz.infoTxt;obtain⟨v',w',hr,h2,h3,h4,h5⟩:=run_append_own_at (P:=tP) (wb.alloc (aa #[u] 22)) B 50 o.type 22 i0 (aM aS 0 0) 1 24 underlying50 hi hz0 hz1 hz2 rfl AK v m _ hown ⟨wb.heap.size,0,aS⟩ 1 1 [u] rfl (by
  intro j z hz;have hj:j=0:=by have:=(Am.1 hz).1;simp at this;omega
  subst hj;rw[A0,AA (AS wb _) _,Ar];simpa using hz) (by simpa using hu) (by unfold maxLen;omega) AJ (by simp;omega)
 have hk:=hK v' w' h2 h3;refine wpList_plain hgd λK hK'=>?_
 unfold Oper.wp execOp;simp only[hop,resolve,invoke,builtin,Sem.run_bind,Sem.run_pure,Result.andThen_ok,List.map_toArray,List.map_cons,List.map_nil,hs,hx,hr];exact hK' _ _ hk
theorem IS {w:aV} {ops:Array Oper} {rest:List Oper} {o:Oper} {a:Act} {Q:Exit->Act->aV->Prop} (hg:o.guard=aS) (s y:Operand)
  (hop:o.op=Op.call { callee:=Callee.builtin Builtin.append,args:=#[s,y],argTypes:=#[22,22] }) (B E B':Nat) (u:aX) (k:Nat) (hs:a.eval s=aM (aR ⟨E,0,aS⟩) 0 0)
  (hown:DB w B (aM (aR ⟨E,0,aS⟩) 0 0) []) (hx:a.eval y=u) (hu:Gj B' w u k) (hk:k<=72) (hB:B<=w.heap.size)
  (hK:∀ v' w' zs,DB w' B v' zs->zs.length=k->Cb zs->Below B w w'->wpList tP ops Q rest (a.put o.dst v') w'):wpList tP ops Q (o::rest) a w:=by
 obtain⟨b,p,c,zs,cs,fr,h1,h2,h3,h4,h5,h6,h7⟩:=hu;exact Cv w hg s y hop B _ [] hs hown ⟨b,p,aS⟩ k c zs (hx.trans h1) h3 (λj hj=>by rw[A0];exact h7 j hj) (by simp;omega) hB λv' w' O b' _=>hK v' w' zs (by simpa using O) h3 h4 b'
end
theorem DO.len {xs:List Int} (h:DO xs):xs.length<=256:=by
 have e:=h.eq_upTo (λv=>decide ((v:Int)∈xs)) (λv _=>AL);rw[<-e];exact Io _ _
theorem Ye {D U:List Int} {k:Int} {T:List Int} {n:Nat} {kind:Int} {a b:Nat}:(Dy D U k T n kind a b).T.length<=T.length+2:=by
 unfold Dy;split
 ·split
  {simp};{simp[EE]}
 ·split
  ·split
   ·simp
   ·split
    {simp};{simp[EE]}
  ·split
   ·split
    {simp;omega};{simp[EE]}
   ·simp[EE]
theorem VP {D U:List Int} {k:Int} {T:List Int} {n:Nat} {kind:Int} {a b:Nat} (hT:T.length=n*2):(EY D U k T n kind a b).D.length<=256/\(EY D U k T n kind a b).U.length<=256/\(EY D U k T n kind a b).T.length<=514:=by
 unfold EY;split
 ·rename_i h
  have hs:=GD h;have h1:=L3 (k:=k) (T:=T) (n:=n) (kind:=kind) (a:=a) (b:=b) hs.1 hs.2.2.1;have h2:=hs.2.2.1.len;have h3:=hs.2.2.2.2.1;have h4:=hs.2.2.2.1;refine⟨h1.1.len,h1.2.len,Ai Ye ?_⟩;omega
 ·simp[EE]
section
variable (ok:Bool) (aD aU aT:Option Addr) (nD cD nU cU nT cT:Nat) (k0 k:Int) (w:aV)
end
theorem NE (P:Nat->Bool) (a k:Nat):(DT (λv=>P v || decide (v=a)) k).length<=(DT P k).length+(if a<k then 1 else 0):=by
 induction k with
 |zero=>simp[DT]
 |succ k ih=>
  rw[Du,Du];by_cases hp:P k=true
  ·rw[AP (by simp[hp]),AP hp];simp only[List.length_append,List.length_cons,List.length_nil];split at ih<;>split<;>omega
  ·by_cases ha:k=a
   {rw[AP (by simp[ha]),AQ hp];simp only[List.length_append,List.length_cons,List.length_nil];rw[AQ AJ] at ih;rw[AP AJ];omega};{rw[AQ (by simp[hp,ha]),AQ hp];split at ih<;>split<;>omega}
theorem Oc {xs:List Int} (h:DO xs) (a:Nat):(DF xs a).length<=xs.length+1:=by
 classical
 have e:=h.eq_upTo (λv=>decide ((v:Int)∈xs)) (λv _=>AL);have e2:DF xs a=DT (λv=>(λv:Nat=>decide ((v:Int)∈xs)) v || decide (v=a)) 256:=by
  unfold DF
  congr 1
  funext v
  by_cases h1:(v:Int)∈xs<;>by_cases h2:v=a<;>simp[h1,h2]
 have h3:=NE (λv=>decide ((v:Int)∈xs)) a 256;rw[e] at h3;rw[e2];show(DT (λv=>decide ((v:Int)∈xs) || decide (v=a)) 256).length<=_
 split at h3<;>omega
theorem Dc.lt {w:aV} {g:Nat} {x:Option Addr} {n cap:Nat} (h:Dc w g x n cap):g<w.heap.size:=by
 obtain⟨i,q,_,_,_,_,h⟩:=h;exact(AR.1 h).1
theorem Dc.keep {w w':aV} {g:Nat} {x:Option Addr} {n cap:Nat} (h:Dc w g x n cap) (hk:w'.heap[g]?=w.heap[g]?):Dc w' g x n cap:=by
 obtain⟨i,q,h1,h2,h3,h4,h5⟩:=h;exact⟨i,q,h1,h2,h3,h4,hk.trans h5⟩
structure FR (w:aV) (g:Nat) (x:Option Addr) (n cap S:Nat) (vD vU vT:aX) (k:Int) (D U:List Int) (wr:aV):Prop where
 wg:Eo g w wr
 cb:Dc wr g x n cap
 bx:wr.heap[w.heap.size]?=aR (aa CJ 26 (0,0))
 s:wr.heap[S]?=aR (aa #[vD,vU,aO aZ k,vT] 26 (0,0))
 hg:g<w.heap.size
 hs:w.heap.size<S
 d:Iow (S+1) wr vD D
 u:Iow (S+1) wr vU U
 pd:DO D
 pu:DO U
 ap:Ko vD vU
section
variable {w wr w':aV} {g:Nat} {x:Option Addr} {n cap S:Nat} {vD vU vT v:aX} {k:Int} {D U:List Int} {T:List Int} {nT:Nat} {row:Option Nat}
theorem FR.lt (h:FR w g x n cap S vD vU vT k D U wr):S<wr.heap.size:=(AR.1 h.s).1
theorem FR.ct (h:FR w g x n cap S vD vU vT k D U wr) (ht:Fb w g x n):Fb wr g x n:=ht.wr (λq hq=>h.wg.block q (Nat.lt_trans hq h.hg) (Nat.ne_of_lt hq))
theorem FR.cur (h:FR w g x n cap S vD vU vT k D U wr) (hc:Dc w' g x n cap) (hw:Wr g wr w'):FR w g x n cap S vD vU vT k D U w':=
 ⟨h.wg.trans hw.wrG,hc,by rw[hw.block _ (Nat.ne_of_gt h.hg)];exact h.bx,by rw[hw.block _ (AH h.hg h.hs)];exact h.s,h.hg,h.hs,h.d.wr hw (AH h.hg h.hs),h.u.wr hw (AH h.hg h.hs),h.pd,h.pu,h.ap⟩
theorem FR.call (h:FR w g x n cap S vD vU vT k D U wr) (b:Below wr.heap.size wr w'):FR w g x n cap S vD vU vT k D U w':=
 ⟨h.wg.trans (Eo.of_below b),h.cb.keep (b.block g h.cb.lt),by rw[b.block _ (Nat.lt_trans h.hs h.lt)];exact h.bx,by rw[b.block _ h.lt];exact h.s,h.hg,h.hs,h.d.below b,h.u.below b,h.pd,h.pu,h.ap⟩
theorem FR.gen (h:FR w g x n cap S vD vU vT k D U wr) (e1:w'.os=wr.os) (e2:w'.tape=wr.tape) (e3:w'.output=wr.output) (hz:wr.heap.size<=w'.heap.size) (hlow:∀ q,q<=S->w'.heap[q]?=wr.heap[q]?) (hd:Iow (S+1) w' vD D) (hu:Iow (S+1) w' vU U):FR w g x n cap S vD vU vT k D U w':=by
 have h1:=h.hg;have h2:=h.hs;exact⟨⟨e1.trans h.wg.os,e2.trans h.wg.tape,e3.trans h.wg.output,Ai h.wg.size hz,λq hq hqg=>(hlow q AJ).trans (h.wg.block q hq hqg)⟩,h.cb.keep (hlow g AJ),by rw[hlow _ AJ];exact h.bx,by rw[hlow S Ch];exact h.s,h.hg,h.hs,hd,hu,h.pd,h.pu,h.ap⟩
theorem TR {B q:Nat} {xs:List Int} (hi:Iow B wr v xs) (hg:wr.grownBy w' row) (hq:∀ q,row=aR q->∃ cs fr,wr.heap[q]?=aR (aa cs 70 fr)):Iow B w' v xs:=by
 have hT:(70:TypeId)≠2:=AK
 obtain⟨a,m,c,rfl⟩:=hi.form;refine⟨hi.1,?_⟩;rcases hi.2 with h'|⟨b,cap,cur,h1,h2,h3,h4⟩
 ·exact .inl h'
 ·refine .inr ⟨b,cap,cur,h1,h2,?_,h4⟩;rw[hg.block b (AR.1 h3).1 (λe=>?_)]
  {exact h3};{obtain⟨cs,fr,hc⟩:=hq b e.symm;rw[hc] at h3;simp at h3}
theorem Cj.typed {B:Nat} (h:Cj B wr v T nT):∀ q,v.ownBlock=aR q->B<=q/\∃ cs fr,wr.heap[q]?=aR (aa cs 70 fr):=λq hq=>by
 rcases h.2 with⟨h',_⟩|⟨b,c,cur,h',hb,hh,_⟩
 ·rw[h'] at hq;simp[Value.ownBlock] at hq
 ·rw[h'] at hq;simp[Value.ownBlock] at hq;subst hq;exact⟨hb,_,_,hh⟩
theorem FR.app (h:FR w g x n cap S vD vU vT k D U wr) (ht:Cj (S+1) wr vT T nT) (hg:wr.grownBy w' vT.ownBlock):FR w g x n cap S vD vU vT k D U w':=by
 refine h.gen hg.os hg.tape hg.output hg.size (λq hq=>hg.block q (Nat.lt_of_le_of_lt hq h.lt) (λe=>?_)) (TR (q:=0) h.d hg (λq hq=>(ht.typed q hq).2)) (TR (q:=0) h.u hg (λq hq=>(ht.typed q hq).2));have:=(ht.typed q e.symm).1;omega
theorem FR.set (h:FR w g x n cap S vD vU vT k D U wr) {i:Nat} {cs:Array aX} (e:(#[vD,vU,aO aZ k,vT]:Array aX).setIfInBounds i v=cs):(wr.setCell ⟨S,i,aS⟩ v).heap[S]?=aR (aa cs 26 (0,0))/\Wr S wr (wr.setCell ⟨S,i,aS⟩ v):=
 ⟨by rw[Ao wr S i _ _ v h.s,e],(Wr.refl S wr).setCell i v⟩
theorem FR.put (h:FR w g x n cap S vD vU vT k D U wr) {i:Nat} {vD' vU' vT':aX} {k':Int} {D' U':List Int} (e:(#[vD,vU,aO aZ k,vT]:Array aX).setIfInBounds i v=#[vD',vU',aO aZ k',vT']) (hd:Iow (S+1) wr vD' D') (hu:Iow (S+1) wr vU' U') (pd:DO D') (pu:DO U') (ap:Ko vD' vU') :
  FR w g x n cap S vD' vU' vT' k' D' U' (wr.setCell ⟨S,i,aS⟩ v):=by
 obtain⟨hs,hw⟩:=h.set e;have h1:=h.hg;have h2:=h.hs;exact⟨⟨hw.os.trans h.wg.os,hw.tape.trans h.wg.tape,hw.output.trans h.wg.output,by rw[hw.size];exact h.wg.size,λq hq hqg=>(hw.block q AJ).trans (h.wg.block q hq hqg)⟩,h.cb.keep (hw.block g AJ),by rw[hw.block _ AJ];exact h.bx,hs,h.hg,h.hs,hd.wr hw AJ,hu.wr hw AJ,pd,pu,ap⟩
theorem FR.cells (h:FR w g x n cap S vD vU vT k D U wr):wr.cell? ⟨S,0,aS⟩=aR vD/\wr.cell? ⟨S,1,aS⟩=aR vU/\wr.cell? ⟨S,2,aS⟩=aR (aO aZ k)/\wr.cell? ⟨S,3,aS⟩=aR vT/\∀ i,wr.frozen? ⟨S,i,aS⟩=false:=
 ⟨AA h.s _,AA h.s _,AA h.s _,AA h.s _,λi=>An _ _ _ _ _ h.s⟩
theorem Ko.fresh_l {xs ys:List Int} {B:Nat} (hi:Iow wr.heap.size w' v xs) (hu:Iow B wr vU ys):Ko v vU/\Ko vU v:=by
 have h1:∀ q,vU.ownBlock=aR q->q<wr.heap.size:=λq hq=>by
  rcases hu.2 with⟨h',_⟩|⟨b,c,cur,h',hb,hh,_⟩
  {rw[h'] at hq;simp[Value.ownBlock] at hq};{rw[h'] at hq;simp[Value.ownBlock] at hq;subst hq;exact(AR.1 hh).1}
 exact⟨λq hq hq'=>AH (hi.ownBlock q hq) (h1 q hq'),λq hq hq'=>AH (hi.ownBlock q hq') (h1 q hq)⟩
end
theorem Ko.nil_l (v:aX):Ko (aM aS 0 0) v:=λk hk=>by simp[Value.ownBlock] at hk
def JH (w:aV) (g:Nat) (x:Option Addr) (n cap S:Nat) (vD vU vT:aX) (k:Int) (D U:List Int) (T:List Int) (nT:Nat) (f1 f4 f5 f6 f7 f9:Bool) (u6 u7:aX) (w':aV):Prop:=
 ((f6=true->f5=true)/\(f5=true->f4=true))/\(f7=true->f6=true/\f1=true)/\(f9=true->f7=true)/\
 (if f9=true then ∃ v' T',FR w g x n cap S vD vU v' k D U w'/\Cj (S+1) w' v' T' (nT+1)
  else if f7=true then FR w g x n cap S vD vU vT k D U w'/\∃ T',Cj (S+1) w' u7 T' (nT+1)
  else if f6=true then ∃(W:aV) (s y:Int),w'=W.alloc (aa #[aO aZ s,aO aZ y] 70)/\u6=aM (aR ⟨W.heap.size,0,aS⟩) 1 1/\FR w g x n cap S vD vU vT k D U W/\Cj (S+1) W vT T nT
  else FR w g x n cap S vD vU vT k D U w'/\Cj (S+1) w' vT T nT)
section
variable {w wr w':aV} {g:Nat} {x:Option Addr} {n cap S:Nat} {vD vU vT v:aX} {k:Int} {D U:List Int} {T:List Int} {nT:Nat} {f1 f4 f5 f6 f7 f9:Bool} {u6 u7:aX}
theorem JH.pre (h:JH w g x n cap S vD vU vT k D U T nT f1 f4 f5 false f7 f9 u6 u7 w'):FR w g x n cap S vD vU vT k D U w'/\Cj (S+1) w' vT T nT/\f7=false/\f9=false:=by
 obtain⟨h0,h1,h2,h3⟩:=h;have e7:f7=false:=by
  cases f7 with
  |false=>rfl
  |true=>exact absurd (h1 rfl).1 AK
 have e9:f9=false:=by
  cases f9 with
  |false=>rfl
  |true=>exact absurd (h2 rfl) (by rw[e7];decide)
 rw[e9,e7,AQ AK,AQ AK,AQ AK] at h3;exact⟨h3.1,h3.2,e7,e9⟩
theorem JH.no6 (h:JH w g x n cap S vD vU vT k D U T nT f1 false f5 f6 f7 f9 u6 u7 w'):f5=false/\f6=false:=by
 have e5:f5=false:=by
  cases f5 with
  |false=>rfl
  |true=>exact absurd (h.1.2 rfl) AK
 exact⟨e5,by
  cases f6 with
  |false=>rfl
  |true=>exact absurd (h.1.1 rfl) (by rw[e5];decide)⟩
theorem JH.set4 (h:JH w g x n cap S vD vU vT k D U T nT f1 f4 f5 f6 f7 f9 u6 u7 w'):JH w g x n cap S vD vU vT k D U T nT f1 true f5 f6 f7 f9 u6 u7 w':=⟨⟨h.1.1,λ_=>rfl⟩,h.2⟩
theorem JH.set5 (h:JH w g x n cap S vD vU vT k D U T nT f1 f4 f5 f6 f7 f9 u6 u7 w') (e4:f4=true):JH w g x n cap S vD vU vT k D U T nT f1 f4 true f6 f7 f9 u6 u7 w':=⟨⟨λ_=>rfl,λ_=>e4⟩,h.2⟩
theorem JH.load (h:JH w g x n cap S vD vU vT k D U T nT false f4 f5 f6 f7 f9 u6 u7 w'):w'.heap[S]?=aR (aa #[vD,vU,aO aZ k,vT] 26 (0,0))/\JH w g x n cap S vD vU vT k D U T nT true f4 f5 f6 f7 f9 u6 u7 w':=by
 obtain⟨h0,h1,h2,h3⟩:=h;have e7:f7=false:=by
  cases f7 with
  |false=>rfl
  |true=>exact absurd (h1 rfl).2 AK
 have e9:f9=false:=by
  cases f9 with
  |false=>rfl
  |true=>exact absurd (h2 rfl) (by rw[e7];decide)
 refine⟨?_,h0,λq=>⟨(h1 q).1,rfl⟩,h2,h3⟩;rw[e9,e7,AQ AK,AQ AK] at h3;split at h3
 ·obtain⟨W,s,y,rfl,_,hd,_⟩:=h3;rw[(Co W _).block S hd.lt];exact hd.s
 ·exact h3.1.s
theorem JH.curs (h:JH w g x n cap S vD vU vT k D U T nT f1 f4 f5 false f7 f9 u6 u7 wr) (hc:Dc w' g x n cap) (hw:Wr g wr w'):JH w g x n cap S vD vU vT k D U T nT f1 f4 f5 false f7 f9 u6 u7 w':=by
 have hp:=h.pre;obtain⟨h0,h1,h2,h3⟩:=h;refine⟨h0,h1,h2,?_⟩;rw[hp.2.2.2,hp.2.2.1,AQ AK,AQ AK,AQ AK];exact⟨hp.1.cur hc hw,hp.2.1.wrk hw (AH hp.1.hg hp.1.hs)⟩
theorem JH.mk6 (h:JH w g x n cap S vD vU vT k D U T nT f1 f4 f5 false f7 f9 u6 u7 w') (e5:f5=true) (s y:Int):JH w g x n cap S vD vU vT k D U T nT f1 f4 f5 true f7 f9 (aM (aR ⟨w'.heap.size,0,aS⟩) 1 1) u7 (w'.alloc (aa #[aO aZ s,aO aZ y] 70)):=by
 have hp:=h.pre;obtain⟨h0,h1,h2,h3⟩:=h;refine⟨⟨λ_=>e5,h0.2⟩,(λq=>by rw[hp.2.2.1] at q;cases q),h2,?_⟩;rw[hp.2.2.2,hp.2.2.1,AQ AK,AQ AK,AP rfl];exact⟨w',s,y,rfl,rfl,hp.1,hp.2.1⟩
theorem JH.app (h:JH w g x n cap S vD vU vT k D U T nT f1 f4 f5 true false f9 u6 u7 w') (e1:f1=true):∃(W:aV) (s y:Int),w'=W.alloc (aa #[aO aZ s,aO aZ y] 70)/\u6=aM (aR ⟨W.heap.size,0,aS⟩) 1 1/\Cj (S+1) w' vT T nT/\S+1<=w'.heap.size/\
  ∀ v9 w9 T',Cj (S+1) w9 v9 T' (nT+1)->w'.grownBy w9 vT.ownBlock->JH w g x n cap S vD vU vT k D U T nT f1 f4 f5 true true f9 u6 v9 w9:=by
 obtain⟨h0,h1,h2,h3⟩:=h;have e9:f9=false:=by
  cases f9 with
  |false=>rfl
  |true=>exact absurd (h2 rfl) AK
 rw[e9,AQ AK,AQ AK,AP rfl] at h3;obtain⟨W,s,y,hw,hu,hd,ht⟩:=h3;have ht':Cj (S+1) w' vT T nT:=by rw[hw];exact ht.alloc _
 have hd':FR w g x n cap S vD vU vT k D U w':=by rw[hw];exact hd.call (Co W _)
 refine⟨W,s,y,hw,hu,ht',hd'.lt,λv9 w9 T' h9 hg=>⟨h0,λ_=>⟨rfl,e1⟩,λ_=>rfl,?_⟩⟩;rw[e9,AQ AK,AP rfl];exact⟨hd'.app ht' hg,T',h9⟩
theorem JH.store (h:JH w g x n cap S vD vU vT k D U T nT f1 f4 f5 f6 true false u6 u7 w'):FR w g x n cap S vD vU vT k D U w'/\(∃ T',Cj (S+1) w' u7 T' (nT+1))/\JH w g x n cap S vD vU vT k D U T nT f1 f4 f5 f6 true true u6 u7 (w'.setCell ⟨S,3,aS⟩ u7):=by
 obtain⟨h0,h1,h2,h3⟩:=h;rw[AQ AK,AP rfl] at h3;obtain⟨hd,T',ht⟩:=h3;refine⟨hd,⟨T',ht⟩,h0,h1,λ_=>rfl,?_⟩;rw[AP rfl];exact⟨u7,T',hd.put (i:=3) rfl hd.d hd.u hd.pd hd.pu hd.ap,ht.wrk (hd.set (i:=3) rfl).2 AJ⟩
end
theorem Cj.form {B:Nat} {w:aV} {v:aX} {T:List Int} {m:Nat} (h:Cj B w v T m):∃ a c,v=aM a m c:=by
 rcases h.2 with⟨h',h0⟩|⟨g,c,cur,h',_⟩
 ·subst h0;exact⟨_,_,h'⟩
 ·exact⟨_,_,h'⟩
theorem TS (w:aV) {o:Oper} {a:Act} {K:Act->aV->Prop} {Q:Exit->Act->aV->Prop} (sx x:Operand)
  (hop:o.op=Op.call { callee:=Callee.builtin Builtin.append,args:=#[sx,x],argTypes:=#[24,24] }) (B:Nat) (v:aX) (T:List Int) (n:Nat) (hs:a.eval sx=v) (hown:Cj B w v T n)
  (wb:aV) (s nw:Int) (hw:w=wb.alloc (aa #[aO aZ s,aO aZ nw] 70)) (hx:a.eval x=aM (aR ⟨wb.heap.size,0,aS⟩) 1 1) (hm:n<=1048576) (hB:B<=w.heap.size)
  (hK:∀ v' w',Cj B w' v' (T++[s,nw]) (n+1)->w.grownBy w' v.ownBlock->K (a.put o.dst v') w'):o.wp tP a w K Q:=by
 obtain⟨i0,hi,hz0,hz1,hz2⟩:=BZ Tryz.infoTap;obtain⟨v',w',hr,h2,h3,h4,h5⟩:=run_append_own_at (P:=tP) w B 24 o.type 70 i0 (af #[aO aZ 0,aO aZ 0]) 2 16 underlying24 hi hz0 hz1 hz2 rfl AK v n _ hown ⟨wb.heap.size,0,aS⟩ 1 1 [aO aZ s,aO aZ nw] rfl (by
  intro j z hz;have hj:j<2:=by have:=(Am.1 hz).1;simpa using this
  rw[A0,hw,AA (AS wb _) _,Ar];have:j=0\/j=1:=AJ
  rcases this with rfl|rfl<;>simpa using hz) (by simp[Value.oneCell']) (by unfold maxLen;omega) AJ hB
 have hk:=hK v' w' (by unfold Cj;rw[BI];exact h2) h3;unfold Oper.wp execOp;simp only[hop,resolve,invoke,builtin,Sem.run_bind,Sem.run_pure,Result.andThen_ok,List.map_toArray,List.map_cons,List.map_nil,hs,hx,hr];exact hk
def NX (w:aV) (g:Nat) (x:Option Addr) (n cap S:Nat) (vD vU vT:aX) (k:Int) (D U:List Int) (T:List Int) (nT:Nat) (f1 f3 f4 f6:Bool) (u4:aX) (w':aV):Prop:=
 (f4=true->f3=true/\f1=true)/\(f6=true->f4=true)/\
 (if f6=true then ∃ v' D',FR w g x n cap S v' vU vT k D' U w'/\D'.length<=D.length+1/\Cj (S+1) w' vT T nT
  else FR w g x n cap S vD vU vT k D U w'/\Cj (S+1) w' vT T nT/\(f4=true->∃ D',Iow (S+1) w' u4 D'/\DO D'/\D'.length<=D.length+1/\Ko u4 vU))
section
variable {w wr w':aV} {g:Nat} {x:Option Addr} {n cap S:Nat} {vD vU vT v:aX} {k:Int} {D U:List Int} {T:List Int} {nT:Nat} {f1 f3 f4 f6:Bool} {u4:aX}
theorem NX.pre (h:NX w g x n cap S vD vU vT k D U T nT f1 f3 false f6 u4 w'):FR w g x n cap S vD vU vT k D U w'/\Cj (S+1) w' vT T nT/\f6=false:=by
 obtain⟨h1,h2,h3⟩:=h;have e6:f6=false:=by
  cases f6 with
  |false=>rfl
  |true=>exact absurd (h2 rfl) AK
 rw[e6,AQ AK] at h3;exact⟨h3.1,h3.2.1,e6⟩
theorem NX.no4 (h:NX w g x n cap S vD vU vT k D U T nT f1 f3 f4 f6 u4 w') (e:f1=false\/f3=false):f4=false:=by
 cases f4 with
 |false=>rfl
 |true=>
  have:=h.1 rfl;rcases e with e|e
  {rw[e] at this;exact absurd this.2 AK};{rw[e] at this;exact absurd this.1 AK}
theorem NX.mk (h1:f4=false) (h2:f6=false) (hd:FR w g x n cap S vD vU vT k D U w') (ht:Cj (S+1) w' vT T nT):NX w g x n cap S vD vU vT k D U T nT f1 f3 f4 f6 u4 w':=by
 subst h1;subst h2;refine⟨(λq=>by cases q),(λq=>by cases q),?_⟩;rw[AQ AK];exact⟨hd,ht,λq=>by cases q⟩
theorem NX.mk4 (e1:f1=true) (e3:f3=true) (h2:f6=false) (hd:FR w g x n cap S vD vU vT k D U w') (ht:Cj (S+1) w' vT T nT) (D':List Int) (hi:Iow (S+1) w' u4 D') (hs:DO D') (hl:D'.length<=D.length+1) (ha:Ko u4 vU):NX w g x n cap S vD vU vT k D U T nT f1 f3 true f6 u4 w':=by
 subst h2;refine⟨λ_=>⟨e3,e1⟩,(λq=>by cases q),?_⟩;rw[AQ AK];exact⟨hd,ht,λ_=>⟨D',hi,hs,hl,ha⟩⟩
theorem NX.store (h:NX w g x n cap S vD vU vT k D U T nT f1 f3 true false u4 w'):FR w g x n cap S vD vU vT k D U w'/\(∃ D',Iow (S+1) w' u4 D')/\NX w g x n cap S vD vU vT k D U T nT f1 f3 true true u4 (w'.setCell ⟨S,0,aS⟩ u4):=by
 obtain⟨h1,h2,h3⟩:=h;rw[AQ AK] at h3;obtain⟨hd,ht,h4⟩:=h3;obtain⟨D',hi,hs,hl,ha⟩:=h4 rfl;refine⟨hd,⟨D',hi⟩,h1,λ_=>rfl,?_⟩;rw[AP rfl];exact⟨u4,D',hd.put (i:=0) rfl hi hd.u hs hd.pu ha,hl,ht.wrk (hd.set (i:=0) rfl).2 AJ⟩
end
def Zj (w:aV) (g:Nat) (x:Option Addr) (n cap:Nat) (v:aX) (w':aV):Prop:=
 ∃ aD nD cD aU nU cU k aT nT cT D U T,v=af #[aM aD nD cD,aM aU nU cU,aO aZ k,aM aT nT cT]/\Iow w.heap.size w' (aM aD nD cD) D/\Iow w.heap.size w' (aM aU nU cU) U/\Cj w.heap.size w' (aM aT nT cT) T nT/\DO D/\D.length<=16/\DO U/\nT<=100/\(-9223372036854775808<=k/\k<=9223372036854775807)/\Ko (aM aD nD cD) (aM aU nU cU)/\Dc w' g x n cap/\Eo g w w'
theorem KR (g:Nat) (x:Option Addr) (n cap:Nat) (w:aV) (hc:Dc w g x n cap) (ht:Fb w g x n) :
  Calls tP 14 #[aY (aR ⟨g,0,aS⟩)] w λe w'=>∃ v,e=aQ v/\Zj w g x n cap v w':=by
 have HCT:AO (Fb w g x n):=ht;have hg:=hc.lt;have b2:Below w.heap.size w ((w.alloc (aa CJ 26)).alloc (aa CJ 26)):=(Cf.alloc Ch _).alloc AL _;have HN:AO (((w.alloc (aa CJ 26)).alloc (aa CJ 26)).heap[w.heap.size+1]?=aR (aa CJ 26 (0,0))):=heap_alloc2_new _ _ _;have HSZ:AO ((tP.info? 26).map (·.size)=aR 4):=by show _=_;kernel_rfl
 have hw:=Wr.setRow (w.heap.size+1) ((w.alloc (aa CJ 26)).alloc (aa CJ 26)) CJ;have HS0:AO (FR w g x n cap (w.heap.size+1) (aM aS 0 0) (aM aS 0 0) (aM aS 0 0) 0 [] [] (((w.alloc (aa CJ 26)).alloc (aa CJ 26)).setRow (w.heap.size+1) CJ)):=
  ⟨⟨hw.os.trans b2.os,hw.tape.trans b2.tape,hw.output.trans b2.output,by rw[hw.size];exact b2.size,λq hq _=>(hw.block q AJ).trans (b2.block q hq)⟩,hc.keep ((hw.block g AJ).trans (b2.block g hg)),(hw.block _ AJ).trans (heap_alloc2_old _ _ _),AB HN.o,hg,AJ,Iow.nil _ _,Iow.nil _ _,(λi hi=>by simp at hi),(λi hi=>by simp at hi),Ko.nil_l _⟩
 have HT0:AO (Cj (w.heap.size+1+1) (((w.alloc (aa CJ 26)).alloc (aa CJ 26)).setRow (w.heap.size+1) CJ) (aM aS 0 0) [] 0):=⟨AL,.inl ⟨rfl,rfl⟩⟩
 go_enter func14,ntmps14
 go_upto_region 2 with (first
  |(refine AE 26 (ah 3) (ah 9) (w.heap.size+1) CJ 26 HN.o HSZ.o rfl (by simp[Value.oneCell']) ?_)
  |fail)
 generalize ((w.alloc (aa CJ 26)).alloc (aa CJ 26)).setRow (w.heap.size+1) CJ=w0 at *;generalize w.heap.size+1=S at *;go_wp2_with fail;refine(Cl g x n cap 12 w0 HS0.o.cb (HS0.o.ct HCT.o) AK AK).mono ?_;rintro e w1 ⟨mm,rfl,hm0,hm1,hc1,hw1⟩;have HD1:AO (FR w g x n cap S (aM aS 0 0) (aM aS 0 0) (aM aS 0 0) 0 [] [] w1):=HS0.o.cur hc1 hw1;have HT1:AO (Cj (S+1) w1 (aM aS 0 0) [] 0):=⟨AL,.inl ⟨rfl,rfl⟩⟩
 obtain⟨m,rfl⟩:=Ab hm0;go_wp2_with fail
 go_loopw [5] (λi wz=>∃(j:Nat) (vu vt:aX) (U T:List Int) (nT:Nat),j<=m/\i=aO aZ j/\nT<=j/\FR w g x n cap S (aM aS 0 0) (vu) (vt) 0 [] U wz/\Cj (S+1) wz vt T nT) (λi _=>m-(intOf i).toNat)
 case atStart=>exact⟨0,_,_,[],[],0,Aw _,rfl,Aa _,HD1.o,HT1.o⟩
 case round=>
  obtain⟨j,vu,vt,U,T,nT,hj,rfl,hnT,hd,ht⟩:=hrel;obtain⟨aU,nU,cU,rfl⟩:=hd.u.form;obtain⟨aT,cT,rfl⟩:=ht.form;have HD:AO (FR w g x n cap S (aM aS 0 0) (aM aU nU cU) (aM aT nT cT) 0 [] U wr):=hd;have HT:AO (Cj (S+1) wr (aM aT nT cT) T nT):=ht;by_cases hlt:j<m
  ·have hlt':(j:Int)<m:=AJ
   go_wp2_with fail;refine(Cl g x n cap 40 wr HD.o.cb (HD.o.ct HCT.o) AK AK).mono ?_;rintro e w1 ⟨s1,rfl,hs0,hs1,hc1,hw1⟩;have HD1:AO (FR w g x n cap S (aM aS 0 0) (aM aU nU cU) (aM aT nT cT) 0 [] U w1):=HD.o.cur hc1 hw1;have HT1:AO (Cj (S+1) w1 (aM aT nT cT) T nT):=HT.o.wrk hw1 (AH HD.o.hg HD.o.hs);obtain⟨sn,rfl⟩:=Ab hs0;go_wp2_with fail;refine(EN g x n cap 6 w1 HD1.o.cb (HD1.o.ct HCT.o) AK AK).mono ?_;rintro e w2 ⟨b2,rfl,hc2,hw2⟩;have HD2:AO (FR w g x n cap S (aM aS 0 0) (aM aU nU cU) (aM aT nT cT) 0 [] U w2):=HD1.o.cur hc2 hw2;have HT2:AO (Cj (S+1) w2 (aM aT nT cT) T nT):=HT1.o.wrk hw2 (AH HD1.o.hg HD1.o.hs)
   go_upto_if 20 with fail
   try dsimp only[Act.put]
   go_cut [6] from 12 to 44 (λv ww=>∃ sn:Nat,v=aO aZ sn/\sn<256/\FR w g x n cap S (aM aS 0 0) (aM aU nU cU) (aM aT nT cT) 0 [] U ww/\Cj (S+1) ww (aM aT nT cT) T nT)
   case first=>
    cases b2
    ·go_wp2
     go_meet
     case rel=>exact⟨sn,rfl,AJ,HD2.o,HT2.o⟩
    ·go_wp2_with fail;refine(Cl g x n cap 3 w2 HD2.o.cb (HD2.o.ct HCT.o) AK AK).mono ?_;rintro e w3 ⟨s3,rfl,h30,h31,hc3,hw3⟩;have HD3:=CY (HD2.o.cur hc3 hw3);have HT3:=CY (HT2.o.wrk hw3 (AH HD2.o.hg HD2.o.hs));clear hc3 hw3 HD2 HT2;obtain⟨sq,hsn⟩:∃ sq:Nat,255-s3=sq:=⟨(255-s3).toNat,AJ⟩
     have HSQ:=CY hsn;clear hsn;go_wp2
     go_meet
     case rel=>exact⟨sq,by rw[HSQ.o],AG HSQ.o,HD3.o,HT3.o⟩
   case rest=>
    clear HD2 HT2 hs0 hs1;obtain⟨sn,rfl,hsn1,hd3,ht3⟩:=hcut;have HD3:=CY hd3;have HT3:=CY ht3;clear hd3 ht3;obtain⟨sU,hnU,lU⟩:=HD3.o.u.sat;have hmU:nU<=1048576:=AG HD3.o.pu.len
    have A:=CY (C3 aU nU cU U (sn:Int) wc hnU hmU sU.at_);have B:=CY (Hc aU nU cU U sn wc hnU hmU sU.at_);have c1:=HD3.o.cells.2.1;go_wp2_with fail;refine A.o.mono ?_;rintro e w4 ⟨rfl,hw4⟩;subst w4;by_cases hm:Df (sn:Int) U=true
    ·rw[hm];go_wp2;go_roundw
     case rel=>exact⟨j+1,_,_,_,T,nT,AJ,by go_num,AJ,HD3.o,HT3.o⟩
     case measure=>simp[intOf];omega
    ·rw[Bool.not_eq_true] at hm;rw[hm];go_wp2_with fail;refine B.o.mono ?_;rintro e w4 ⟨vn,rfl,hin,hb4⟩;obtain⟨aN,nN,cN,rfl⟩:=hin.form;have hd4:=HD3.o.call hb4;have HD5:AO (FR w g x n cap S (aM aS 0 0) (aM aN nN cN) (aM aT nT cT) 0 [] (DF U sn) (w4.setCell ⟨S,1,aS⟩ (aM aN nN cN))):=hd4.put (i:=1) rfl hd4.d (Iow.mono hin HD3.o.lt) hd4.pd (Fi _ _) (Ko.nil_l _);have HT5:AO (Cj (S+1) (w4.setCell ⟨S,1,aS⟩ (aM aN nN cN)) (aM aT nT cT) T nT):=(HT3.o.below hb4).wrk (hd4.set (i:=1) rfl).2 AJ;have c2:=hd4.cells.2.1;have f2:=hd4.cells.2.2.2.2 1;go_wp2_with fail;generalize w4.setCell ⟨S,1,aS⟩ (aM aN nN cN)=w5 at *;refine(EN g x n cap 2 w5 HD5.o.cb (HD5.o.ct HCT.o) AK AK).mono ?_;rintro e w6 ⟨b6,rfl,hc6,hw6⟩;have HD6:AO (FR w g x n cap S (aM aS 0 0) (aM aN nN cN) (aM aT nT cT) 0 [] (DF U sn) w6):=HD5.o.cur hc6 hw6;have HT6:AO (Cj (S+1) w6 (aM aT nT cT) T nT):=HT5.o.wrk hw6 (AH HD5.o.hg HD5.o.hs);cases b6
     ·go_wp2;go_roundw
      case rel=>exact⟨j+1,_,_,_,T,nT,AJ,by go_num,AJ,HD6.o,HT6.o⟩
      case measure=>simp[intOf];omega
     ·have HNT:AO (nT<=1048576):=by show _<=_;omega
      go_wp2_with fail;refine Ag AM ?_;refine Cg (λ_ _ _=>True) (frame:=(λ(a b c d e f g h i j k l m n o p q r s u v w x y z A B C D E F G H I J K L M N O P Q R S T U V W X Y Z a0 a1 a2 a3 a4 a5 a6 a7 a8 a9 b0 b1 b2 b3 b4:aX)=>λ(t:Nat->aX)=>({ tmps:=List.toArray [a,b,c,d,e,f,g,h,i,j,k,l,m,n,o,p,q,r,s,u,v,w,x,y,z,A,B,C,D,E,F,G,H,I,J,K,t 0,t 1,t 2,t 3,t 4,t 5,t 6,t 7,t 8,L,M,N,O,P,Q,R,S,T,U,V,W,X,Y,Z,a0,a1,a2,a3,a4,a5,a6,a7,a8,a9,b0,b1,b2,b3,b4],defers:=[] }:Act)) _ _ _ _ _ _ _ _ _ _ _ _ _ _ _ _ _ _ _ _ _ _ _ _ _ _ _ _ _ _ _ _ _ _ _ _ _ _ _ _ _ _ _ _ _ _ _ _ _ _ _ _ _ _ _ _ _ _ _ _ _ _ _ _ _ _)
       (Ext:=λL u w'=>JH w g x n cap S (aM aS 0 0) (aM aN nN cN) (aM aT nT cT) 0 [] (DF U sn) T nT (L 1) (L 4) (L 5) (L 6) (L 7) (L 9) (u 6) (u 7) w') (Good:=λi L w' v=>if i=0 then v=aY (aR ⟨S,3,aS⟩) else if i=1 then v=aM aT nT cT else if i=2 then v=aO aZ (sn:Int) else if i=3 then v=aY (aR ⟨g,0,aS⟩) else if i=4 then ∃ y:Int,v=aO aZ y else if i=5 then ∃ y:Int,v=af #[aO aZ (sn:Int),aO aZ y] else if i=6 then L 6=true else if i=7 then L 7=true else if i=8 then v=aY (aR ⟨S,3,aS⟩) else if i=9 then L 9=true else True) ?hstab AM ?hop ?hdone _ _ ((λ(x0 x1 x2 x3 x4 x5 x6 x7 x8:aX)=>λ(i:Nat)=>if i=0 then x0 else if i=1 then x1 else if i=2 then x2 else if i=3 then x3 else if i=4 then x4 else if i=5 then x5 else if i=6 then x6 else if i=7 then x7 else if i=8 then x8 else undef) _ _ _ _ _ _ _ _ _) _ AL ?ext ?start AL
      case start=>intro i hi h;exact absurd h Ef
      case ext=>
       have h0:∀ i,(Array.replicate 10 false).getD i false=false:=λi=>by rw[BX,Bw];split<;>rfl
       show JH _ _ _ _ _ _ _ _ _ _ _ _ _ _ ((Array.replicate 10 false).getD 1 false) ((Array.replicate 10 false).getD 4 false) ((Array.replicate 10 false).getD 5 false) ((Array.replicate 10 false).getD 6 false) ((Array.replicate 10 false).getD 7 false) ((Array.replicate 10 false).getD 9 false) _ _ _
       rw[h0,h0,h0,h0,h0,h0];refine⟨⟨(λq=>by cases q),(λq=>by cases q)⟩,(λq=>by cases q),(λq=>by cases q),?_⟩;rw[AQ AK,AQ AK,AQ AK];exact⟨HD6.o.call ⟨rfl,rfl,rfl,Aa _,λ_ _=>rfl⟩,HT6.o⟩
      case hstab=>
       intro j L w9 w' i v hM hij hLi h;by_cases h6:j=6
       ·subst h6;simp at h |-;unfold CZ;simp[h]
       by_cases h7:j=7
       ·subst h7;simp at h |-;unfold CZ;simp[h]
       by_cases h9:j=9
       ·subst h9;simp at h |-;unfold CZ;simp[h]
       simp only[if_neg h6,if_neg h7,if_neg h9] at h |-;exact h
      case hop=>
       intro i o L t w' ho hLi hx hdep K hK;have hi:i<10:=(AR.1 ho).1;obtain rfl|rfl|rfl|rfl|rfl|rfl|rfl|rfl|rfl|rfl:i=0\/i=1\/i=2\/i=3\/i=4\/i=5\/i=6\/i=7\/i=8\/i=9:=AJ
       all_goals(simp at ho;subst ho)
       all_goals try(have hK':=hK w' _ rfl (by simpa[CZ,Ca] using hx) trivial;clear hK;simp[Region.binds] at hdep;rw[AP AN];go_simp;simpa[Ca,hdep] using hK';done)
       ·have d0:t 0=aY (aR ⟨S,3,aS⟩):=by simpa using(hdep ⟨0,ag⟩ AL rfl).2
        rw[hLi] at hx;obtain⟨hrow,hx2⟩:=hx.load;have cl:w'.cell? ⟨S,3,aS⟩=aR (aM aT nT cT):=AA hrow _;have hK':=hK w' (aM aT nT cT) AL (by simpa[CZ,Ca] using hx2) trivial;rw[AP AN];go_simp;simpa[Ca,d0] using hK'
       ·have d3:t 3=aY (aR ⟨g,0,aS⟩):=by simpa using(hdep ⟨3,ag⟩ AL rfl).2
        rw[hLi] at hx;obtain⟨l5,l6⟩:=hx.no6;rw[l6] at hx;have hp:=hx.pre;have A:=Cl g x n cap 100 w' hp.1.cb (hp.1.ct HCT.o) AK AK;have hK':∀ w9 y,Dc w9 g x n cap->Wr g w' w9->K _ w9:=λw9 y h1 h2=>hK w9 (aO aZ y) AL (by simpa[CZ,Ca,l6] using(hx.curs h1 h2).set4) trivial
        rw[AP AN];go_simp;try simp only[d3]
        refine A.mono ?_;rintro e w9 ⟨y,rfl,_,_,h1,h2⟩;have hK2:=hK' w9 y h1 h2;go_simp;simpa[Ca,d3] using hK2
       ·have d2:t 2=aO aZ (sn:Int):=by simpa using(hdep ⟨2,ag⟩ AL rfl).2
        obtain⟨y4,d4⟩:∃ y:Int,t 4=aO aZ y:=by simpa using(hdep ⟨4,ag⟩ AL rfl).2
        have l4:L 4=true:=(hdep ⟨4,ag⟩ AL rfl).1;have hK':=hK w' (af #[aO aZ (sn:Int),aO aZ y4]) AL (by simpa[CZ,Ca,l4] using hx.set5 l4) trivial;rw[AP AN];go_simp;simpa[Ca,d2,d4] using hK'
       ·obtain⟨y5,d5⟩:∃ y:Int,t 5=af #[aO aZ (sn:Int),aO aZ y]:=by simpa using(hdep ⟨5,ag⟩ AL rfl).2
        have l5:L 5=true:=(hdep ⟨5,ag⟩ AL rfl).1;rw[hLi] at hx;have hx2:=hx.mk6 l5 (sn:Int) y5;have hK':=hK (w'.alloc (aa #[aO aZ (sn:Int),aO aZ y5] 70)) (aM (aR ⟨w'.heap.size,0,aS⟩) 1 1) (by simp[CZ]) (by simpa[CZ,Ca] using hx2) trivial;rw[AP AN];go_simp;simpa[Ca,d5] using hK'
       ·have d1:t 1=aM aT nT cT:=by simpa using(hdep ⟨1,ag⟩ AL rfl).2
        have l1:L 1=true:=(hdep ⟨1,ag⟩ AL rfl).1;have l6:L 6=true:=(hdep ⟨6,ag⟩ AL rfl).1;rw[hLi,l6] at hx;obtain⟨W,s9,y9,hwW,d6,ht6,hz6,hx2⟩:=hx.app l1;have hK':∀ v9 w9 T',Cj (S+1) w9 v9 T' (nT+1)->w'.grownBy w9 ((aM aT nT cT):aX).ownBlock->K _ w9:=λv9 w9 T' h1 h2=>hK w9 v9 (by simp[CZ]) (by simpa[CZ,Ca,l6] using hx2 v9 w9 T' h1 h2) trivial
        rw[AP AN];refine TS w' (ah 37) (ah 42) rfl (S+1) (aM aT nT cT) T nT d1 ht6 W s9 y9 hwW d6 HNT.o hz6 ?_;intro v9 w9 h1 h2;have hK2:=hK' v9 w9 _ h1 h2;simpa[Ca,Act.put] using hK2
       ·have d8:t 8=aY (aR ⟨S,3,aS⟩):=by simpa using(hdep ⟨8,ag⟩ AL rfl).2
        have l7:L 7=true:=(hdep ⟨7,ag⟩ AL rfl).1;rw[hLi,l7] at hx;obtain⟨hd9,⟨T',ht9⟩,hx2⟩:=hx.store;obtain⟨a7,c7,e7⟩:=ht9.form;have cl:w'.cell? ⟨S,3,aS⟩=aR (aM aT nT cT):=hd9.cells.2.2.2.1;have cf:w'.frozen? ⟨S,3,aS⟩=false:=hd9.cells.2.2.2.2 3;have hK':=hK (w'.setCell ⟨S,3,aS⟩ (t 7)) undef (by simp[CZ]) (by simpa[CZ,Ca,l7] using hx2) trivial;rw[e7] at hK';rw[AP AN];go_simp;simpa[Ca,d8,e7,Act.put] using hK'
      case hdone=>
       intro L t w9 hx hg;have l9:L 9=true:=by simpa using hg 9 AK
       rw[l9] at hx;obtain⟨_,_,_,h5⟩:=hx;rw[AP rfl] at h5;obtain⟨v5,T5,hs5,ht5⟩:=h5;have HD9:=CY hs5;have HT9:=CY ht5;go_wp2;go_roundw
       case rel=>exact⟨j+1,_,v5,_,T5,nT+1,AJ,by go_num,AJ,HD9.o,HT9.o⟩
       case measure=>simp[intOf];omega
  ·have hje:j=m:=AJ
   subst hje;obtain⟨sU,hnU,lU⟩:=HD.o.u.sat;have hmU:nU<=256:=AG HD.o.pu.len
   have c1:=HD.o.cells.2.1;have c3:=HD.o.cells.2.2.2.1;have c2:=HD.o.cells.2.2.1;have f2:=HD.o.cells.2.2.2.2 2;obtain⟨k,hk⟩:∃ k:Int,(nU:Int)-(nT:Int)=k:=⟨_,rfl⟩
   have HK:AO (-9223372036854775808<=k/\k<=9223372036854775807):=by unfold AO;omega
   have HD4:AO (FR w g x n cap S (aM aS 0 0) (aM aU nU cU) (aM aT nT cT) k [] U (wr.setCell ⟨S,2,aS⟩ (aO aZ k))):=HD.o.put (i:=2) rfl HD.o.d HD.o.u HD.o.pd HD.o.pu HD.o.ap;have HT4:AO (Cj (S+1) (wr.setCell ⟨S,2,aS⟩ (aO aZ k)) (aM aT nT cT) T nT):=HT.o.wrk (HD.o.set (i:=2) rfl).2 AJ
   go_upto_region 14 with fail
   try rw[hk]
   generalize wr.setCell ⟨S,2,aS⟩ (aO aZ k)=w4 at *;go_wp2_with fail;refine(Cl g x n cap 6 w4 HD4.o.cb (HD4.o.ct HCT.o) AK AK).mono ?_;rintro e w5 ⟨m2,rfl,hm0,hm1,hc5,hw5⟩;have HD5:AO (FR w g x n cap S (aM aS 0 0) (aM aU nU cU) (aM aT nT cT) k [] U w5):=HD4.o.cur hc5 hw5;have HT5:AO (Cj (S+1) w5 (aM aT nT cT) T nT):=HT4.o.wrk hw5 (AH HD4.o.hg HD4.o.hs);go_wp2_with fail;refine(EN g x n cap 5 w5 HD5.o.cb (HD5.o.ct HCT.o) AK AK).mono ?_;rintro e w6 ⟨b6,rfl,hc6,hw6⟩;have HD6:AO (FR w g x n cap S (aM aS 0 0) (aM aU nU cU) (aM aT nT cT) k [] U w6):=HD5.o.cur hc6 hw6;have HT6:AO (Cj (S+1) w6 (aM aT nT cT) T nT):=HT5.o.wrk hw6 (AH HD5.o.hg HD5.o.hs)
   go_upto_if 56 with fail
   try dsimp only[Act.put]
   go_cut [7] from 9 (λv ww=>∃ m2:Nat,v=aO aZ m2/\m2<=16/\FR w g x n cap S (aM aS 0 0) (aM aU nU cU) (aM aT nT cT) k [] U ww/\Cj (S+1) ww (aM aT nT cT) T nT)
   case first=>
    cases b6
    ·go_wp2
     go_meet
     case rel=>exact⟨m2.toNat,by rw[Bo hm0],AJ,HD6.o,HT6.o⟩
    ·go_wp2
     go_meet
     case rel=>exact⟨16,rfl,AJ,HD6.o,HT6.o⟩
   case rest=>
    clear HD6 HT6 hm1;obtain⟨m2,rfl,hm16,hd6,ht6⟩:=hcut;have HD6:=CY hd6;have HT6:=CY ht6;clear hd6 ht6;go_wp2_with fail
    go_loopw [8] (λi wz=>∃(j2:Nat) (vd:aX) (D:List Int),j2<=40/\i=aO aZ j2/\D.length<=16/\FR w g x n cap S (vd) (aM aU nU cU) (aM aT nT cT) k D U wz/\Cj (S+1) wz (aM aT nT cT) T nT) (λi _=>40-(intOf i).toNat)
    case atStart=>exact⟨0,_,[],AJ,rfl,AL,HD6.o,HT6.o⟩
    case round=>
     obtain⟨j2,vd,D,hj2,rfl,hD16,hd,ht⟩:=hrel;obtain⟨aD,nD,cD,rfl⟩:=hd.d.form;obtain⟨sD,hnD,lD⟩:=hd.d.sat;have HD:AO (FR w g x n cap S (aM aD nD cD) (aM aU nU cU) (aM aT nT cT) k D U wr):=hd;have HT:AO (Cj (S+1) wr (aM aT nT cT) T nT):=ht;have c0:=hd.cells.1;have c1:=hd.cells.2.1;have c2:=hd.cells.2.2.1;have c3:=hd.cells.2.2.2.1;by_cases hlt:j2<40
     ·have hlt':(j2:Int)<40:=AJ
      by_cases hdm:(nD:Int)<m2
      ·have hDl:D.length+1<=16:=AJ
       go_wp2_with fail;refine Ag AM ?_;refine Cg (λ_ _ _=>True) (frame:=(λ(a b c d e f g h i j k l m n o p q r s u v w x y z A B C D E F G H I J K L M N O P Q R S T U V W X Y Z a0 a1 a2 a3 a4 a5 a6 a7 a8 a9 b0 b1 b2 b3 b4 b5 b6 b7:aX)=>λ(t:Nat->aX)=>({ tmps:=List.toArray [a,b,c,d,e,f,g,h,i,j,k,l,m,n,o,p,q,r,s,u,v,w,x,y,z,A,B,C,D,E,F,G,H,I,J,K,L,M,N,O,P,Q,R,S,T,U,V,W,X,Y,Z,a0,a1,a2,a3,a4,a5,a6,a7,a8,a9,b0,b1,b2,b3,b4,b5,b6,t 0,t 1,t 2,t 3,t 4,t 5,b7],defers:=[] }:Act)) _ _ _ _ _ _ _ _ _ _ _ _ _ _ _ _ _ _ _ _ _ _ _ _ _ _ _ _ _ _ _ _ _ _ _ _ _ _ _ _ _ _ _ _ _ _ _ _ _ _ _ _ _ _ _ _ _ _ _ _ _ _ _ _ _ _ _ _ _)
        (Ext:=λL u w'=>NX w g x n cap S (aM aD nD cD) (aM aU nU cU) (aM aT nT cT) k D U T nT (L 1) (L 3) (L 4) (L 6) (u 4) w') (Good:=λi L w' v=>if i=0 then v=aY (aR ⟨S,0,aS⟩) else if i=1 then v=aM aD nD cD else if i=2 then v=aY (aR ⟨g,0,aS⟩) else if i=3 then ∃ y:Nat,v=aO aZ (y:Int) else if i=4 then L 4=true else if i=5 then v=aY (aR ⟨S,0,aS⟩) else if i=6 then L 6=true else True) ?hstab AM ?hop ?hdone _ _ ((λ(x0 x1 x2 x3 x4 x5:aX)=>λ(i:Nat)=>if i=0 then x0 else if i=1 then x1 else if i=2 then x2 else if i=3 then x3 else if i=4 then x4 else if i=5 then x5 else undef) _ _ _ _ _ _) _ AL ?ext ?start AL
       case start=>intro i hi h;exact absurd h Ef
       case ext=>
        have h0:∀ i,(Array.replicate 7 false).getD i false=false:=λi=>by rw[BX,Bw];split<;>rfl
        exact NX.mk (h0 4) (h0 6) (HD.o.call ⟨rfl,rfl,rfl,Aa _,λ_ _=>rfl⟩) HT.o
       case hstab=>
        intro j L w9 w' i v hM hij hLi h;by_cases h4:j=4
        ·subst h4;simp at h |-;unfold CZ;simp[h]
        by_cases h6:j=6
        ·subst h6;simp at h |-;unfold CZ;simp[h]
        simp only[if_neg h4,if_neg h6] at h |-;exact h
       case hop=>
        intro i o L t w' ho hLi hx hdep K hK;have hi:i<7:=(AR.1 ho).1;obtain rfl|rfl|rfl|rfl|rfl|rfl|rfl:i=0\/i=1\/i=2\/i=3\/i=4\/i=5\/i=6:=AJ
        all_goals(simp at ho;subst ho)
        all_goals try(have hK':=hK w' _ rfl (by simpa[CZ,Ca] using hx) trivial;clear hK;simp[Region.binds] at hdep;rw[AP AN];go_simp;simpa[Ca,hdep] using hK';done)
        ·have d0:t 0=aY (aR ⟨S,0,aS⟩):=by simpa using(hdep ⟨0,ag⟩ AL rfl).2
         have l4:=hx.no4 (.inl hLi);rw[l4] at hx;have hp:=hx.pre;have cl:w'.cell? ⟨S,0,aS⟩=aR (aM aD nD cD):=hp.1.cells.1;have hK':=hK w' (aM aD nD cD) AL (by simpa[CZ,Ca,l4,hp.2.2] using NX.mk (f1:=true) (f3:=L 3) (f4:=false) (f6:=false) (u4:=t 4) rfl rfl hp.1 hp.2.1) trivial;rw[AP AN];go_simp;simpa[Ca,d0] using hK'
        ·have d2:t 2=aY (aR ⟨g,0,aS⟩):=by simpa using(hdep ⟨2,ag⟩ AL rfl).2
         have l4:=hx.no4 (.inr hLi);rw[l4] at hx;have hp:=hx.pre;have A:=Cl g x n cap 60 w' hp.1.cb (hp.1.ct HCT.o) AK AK;have hK':∀ w9 (y:Nat),Dc w9 g x n cap->Wr g w' w9->K _ w9:=λw9 y h1 h2=>hK w9 (aO aZ (y:Int)) (by exact(⟨y,rfl⟩:∃ y':Nat,aO aZ (y:Int)=aO aZ (y':Int))) (by simpa[CZ,Ca,l4,hp.2.2] using NX.mk (f1:=L 1) (f3:=true) (f4:=false) (f6:=false) (u4:=t 4) rfl rfl (hp.1.cur h1 h2) (hp.2.1.wrk h2 (AH hp.1.hg hp.1.hs))) trivial
         rw[AP AN];go_simp;try simp only[d2]
         refine A.mono ?_;rintro e w9 ⟨y,rfl,hy0,_,h1,h2⟩;obtain⟨y,rfl⟩:=Ab hy0;have hK2:=hK' w9 y h1 h2;go_simp;simpa[Ca,d2] using hK2
        ·have d1:t 1=aM aD nD cD:=by simpa using(hdep ⟨1,ag⟩ AL rfl).2
         obtain⟨y3,d3⟩:∃ y:Nat,t 3=aO aZ (y:Int):=by simpa using(hdep ⟨3,ag⟩ AL rfl).2
         have l1:L 1=true:=(hdep ⟨1,ag⟩ AL rfl).1;have l3:L 3=true:=(hdep ⟨3,ag⟩ AL rfl).1;rw[hLi] at hx;have hp:=hx.pre;obtain⟨sD,hnD,lD⟩:=hp.1.d.sat;have A:=Hc aD nD cD D y3 w' hnD (AG hp.1.pd.len) sD.at_;have hK':∀ w9 v9,Iow w'.heap.size w9 v9 (DF D y3)->Below w'.heap.size w' w9->K _ w9:=λw9 v9 h1 h2=>hK w9 v9 (by simp[CZ]) (by
          have:=NX.mk4 (T:=T) (nT:=nT) (f1:=true) (f3:=true) (f6:=false) (u4:=v9) rfl rfl rfl (hp.1.call h2) (hp.2.1.below h2) (DF D y3) (Iow.mono h1 hp.1.lt) (Fi _ _) (Oc hp.1.pd _) (Ko.fresh_l h1 hp.1.u).1;simpa[CZ,Ca,l1,l3,hp.2.2] using this) trivial
         rw[AP AN];go_simp;try simp only[d1,d3]
         refine A.mono ?_;rintro e w9 ⟨v9,rfl,h1,h2⟩;have hK2:=hK' w9 v9 h1 h2;go_simp;simpa[Ca,d1,d3] using hK2
        ·have d5:t 5=aY (aR ⟨S,0,aS⟩):=by simpa using(hdep ⟨5,ag⟩ AL rfl).2
         have l4:L 4=true:=(hdep ⟨4,ag⟩ AL rfl).1;rw[hLi,l4] at hx;obtain⟨hd9,⟨D',hi9⟩,hx2⟩:=hx.store;obtain⟨a4,n4,c4,e4⟩:=hi9.form;have cl:w'.cell? ⟨S,0,aS⟩=aR (aM aD nD cD):=hd9.cells.1;have cf:w'.frozen? ⟨S,0,aS⟩=false:=hd9.cells.2.2.2.2 0;have hK':=hK (w'.setCell ⟨S,0,aS⟩ (t 4)) undef (by simp[CZ]) (by simpa[CZ,Ca,l4] using hx2) trivial;rw[e4] at hK';rw[AP AN];go_simp;simpa[Ca,d5,e4,Act.put] using hK'
       case hdone=>
        intro L t w9 hx hg;have l6:L 6=true:=by simpa using hg 6 AK
        rw[l6] at hx;obtain⟨_,_,h5⟩:=hx;rw[AP rfl] at h5;obtain⟨v5,D5,hs5,hl5,ht5⟩:=h5;have HD9:=CY hs5;have HT9:=CY ht5;have hl9:D5.length<=16:=AJ
        go_wp2;go_roundw
        case rel=>exact⟨j2+1,v5,D5,AJ,by go_num,hl9,HD9.o,HT9.o⟩
        case measure=>simp[intOf];omega
      ·have HBX:AO (wr.heap[w.heap.size]?=aR (aa CJ 26 (0,0))):=HD.o.bx;have HSB:AO (wr.heap[S]?=aR (aa #[aM aD nD cD,aM aU nU cU,aO aZ k,aM aT nT cT] 26 (0,0))):=HD.o.s;go_wp2_with (first
        |(refine AE 26 (ah 2) (ah 74) w.heap.size #[aM aD nD cD,aM aU nU cU,aO aZ k,aM aT nT cT] 26 HBX.o HSZ.o rfl (by simp[Value.oneCell']) ?_)
        |fail)
       (try simp only[Exit.inBlock,Exit.then])
       refine AU (v:=af #[aM aD nD cD,aM aU nU cU,aO aZ k,aM aT nT cT]) (AY rfl _ _ w.heap.size 26 _ (0,0) _ rfl (AB HBX.o) underlying26 rfl HSZ.o) rfl ⟨_,rfl,?_⟩;have hw:=Wr.setRow w.heap.size wr #[aM aD nD cD,aM aU nU cU,aO aZ k,aM aT nT cT];have h1:=HD.o.hg;have h2:=HD.o.hs;refine⟨aD,nD,cD,aU,nU,cU,k,aT,nT,cT,D,U,T,rfl,Iow.mono (HD.o.d.wr hw AJ) AJ,Iow.mono (HD.o.u.wr hw AJ) AJ,Cj.mono (HT.o.wrk hw AJ) AJ,HD.o.pd,hD16,HD.o.pu,AJ,HK.o,HD.o.ap,HD.o.cb.keep (hw.block g AJ),?_⟩;exact⟨hw.os.trans HD.o.wg.os,hw.tape.trans HD.o.wg.tape,hw.output.trans HD.o.wg.output,by rw[hw.size];exact HD.o.wg.size,λq hq hqg=>(hw.block q AJ).trans (HD.o.wg.block q hq hqg)⟩
     ·have hlt':¬ ((j2:Int)<40):=AJ
      have HBX:AO (wr.heap[w.heap.size]?=aR (aa CJ 26 (0,0))):=HD.o.bx;have HSB:AO (wr.heap[S]?=aR (aa #[aM aD nD cD,aM aU nU cU,aO aZ k,aM aT nT cT] 26 (0,0))):=HD.o.s;go_wp2_with (first
       |(refine AE 26 (ah 2) (ah 74) w.heap.size #[aM aD nD cD,aM aU nU cU,aO aZ k,aM aT nT cT] 26 HBX.o HSZ.o rfl (by simp[Value.oneCell']) ?_)
       |fail)
      (try simp only[Exit.inBlock,Exit.then])
      refine AU (v:=af #[aM aD nD cD,aM aU nU cU,aO aZ k,aM aT nT cT]) (AY rfl _ _ w.heap.size 26 _ (0,0) _ rfl (AB HBX.o) underlying26 rfl HSZ.o) rfl ⟨_,rfl,?_⟩;have hw:=Wr.setRow w.heap.size wr #[aM aD nD cD,aM aU nU cU,aO aZ k,aM aT nT cT];have h1:=HD.o.hg;have h2:=HD.o.hs;refine⟨aD,nD,cD,aU,nU,cU,k,aT,nT,cT,D,U,T,rfl,Iow.mono (HD.o.d.wr hw AJ) AJ,Iow.mono (HD.o.u.wr hw AJ) AJ,Cj.mono (HT.o.wrk hw AJ) AJ,HD.o.pd,hD16,HD.o.pu,AJ,HK.o,HD.o.ap,HD.o.cb.keep (hw.block g AJ),?_⟩;exact⟨hw.os.trans HD.o.wg.os,hw.tape.trans HD.o.wg.tape,hw.output.trans HD.o.wg.output,by rw[hw.size];exact HD.o.wg.size,λq hq hqg=>(hw.block q AJ).trans (HD.o.wg.block q hq hqg)⟩
theorem TT (a b:Option Addr) (n c c':Nat) (xs:List Int) (w:aV) (hn:xs.length=n) (hN:n<=1048576) (ha:At aZ w a xs) (hb:At aZ w b xs) :
  Calls tP 27 #[aM a n c,aM b n c'] w λe w'=>e=aQ (.bool true)/\∃ q,w'=w.drewN q:=by
 have h0:((n:Int) != (n:Int))=false:=AL
 have HL:=CY hn;clear hn;go_enter func27,ntmps27;go_wp2
 go_loopw [5] (λi wr=>∃ k q:Nat,k<=n/\i=aO aZ k/\wr=w.drewN q) (λi _=>n-(intOf i).toNat)
 case atStart=>exact⟨0,0,Aw _,rfl,rfl⟩
 case round=>
  obtain⟨k,q,hk,rfl,rfl⟩:=hrel;by_cases hlt:k<n
  ·obtain⟨b1,o1,rfl,hb1,hc⟩:=ha.get (AG HL.o);obtain⟨b2,o2,rfl,hb2,hc'⟩:=hb.get (AG HL.o);have g1:=hc k (AG HL.o);have g2:=hc' k (AG HL.o);generalize xs.getD k 0=x at *;have hlt':(k:Int)<(n:Int):=AJ
   clear hc hc' ha hb;have hx:(x != x)=false:=AL
   go_wp2
   go_quiet (fail)
   go_wp2;go_roundw
   case rel=>exact⟨k+1,_,AJ,by go_num,rfl⟩
   case measure=>simp[intOf];omega
  ·go_wp2
   go_ret
   exact⟨rfl,q,rfl⟩
theorem XN (a b:Option Addr) (n c c':Nat) (T:List Int) (w:aV) (hn:T.length=n*2) (hN:n<=1048576) (ha:At aZ w a T) (hb:At aZ w b T) :
  Calls tP 28 #[aM a n c,aM b n c'] w λe w'=>e=aQ (.bool true)/\∃ q,w'=w.drewN q:=by
 have h0:((n:Int) != (n:Int))=false:=AL
 have HL:=CY hn;clear hn;go_enter func28,ntmps28;go_wp2
 go_loopw [5] (λi wr=>∃ k q:Nat,k<=n/\i=aO aZ k/\wr=w.drewN q) (λi _=>n-(intOf i).toNat)
 case atStart=>exact⟨0,0,Aw _,rfl,rfl⟩
 case round=>
  obtain⟨k,q,hk,rfl,rfl⟩:=hrel;by_cases hlt:k<n
  ·obtain⟨b1,o1,rfl,hb1,hc⟩:=ha.get (AG HL.o);obtain⟨b2,o2,rfl,hb2,hc'⟩:=hb.get (AG HL.o);have e0:=hc (k*2) (AG HL.o);have e1:=hc (k*2+1) (AG HL.o);have f0:=hc' (k*2) (AG HL.o);have f1:=hc' (k*2+1) (AG HL.o);rw[<-A7] at e1 f1;generalize T.getD (k*2) 0=x0 at *;generalize T.getD (k*2+1) 0=x1 at *;have hlt':(k:Int)<(n:Int):=AJ
   clear hc hc' ha hb;go_wp2
   go_quiet (fail)
   go_wp2;go_roundw
   case rel=>exact⟨k+1,_,AJ,by go_num,rfl⟩
   case measure=>simp[intOf];omega
  ·go_wp2
   go_ret
   exact⟨rfl,q,rfl⟩
theorem TU (aD aU aT bD bU bT:Option Addr) (nD cD nU cU nT cT dD dU dT:Nat) (D U T:List Int) (k:Int) (w:aV) (hD:D.length=nD) (hU:U.length=nU) (hT:T.length=nT*2) (mD:nD<=1048576) (mU:nU<=1048576) (mT:nT<=1048576)
  (haD:At aZ w aD D) (haU:At aZ w aU U) (haT:At aZ w aT T) (hbD:At aZ w bD D) (hbU:At aZ w bU U) (hbT:At aZ w bT T) :
  Calls tP 7 #[af #[aM aD nD cD,aM aU nU cU,aO aZ k,aM aT nT cT],af #[aM bD nD dD,aM bU nU dU,aO aZ k,aM bT nT dT]] w λe w'=>e=aQ (.bool true)/\Below w.heap.size w w':=by
 have b0:Below w.heap.size w ((w.alloc (aa #[aM aD nD cD,aM aU nU cU,aO aZ k,aM aT nT cT] 26)).alloc (aa #[aM bD nD dD,aM bU nU dU,aO aZ k,aM bT nT dT] 26)):=(Cf.alloc Ch _).alloc AL _;have H1:=CY (λwz (h:Below w.heap.size w wz)=>TT aD bD nD cD dD D wz hD mD (haD.below h) (hbD.below h));have H2:=CY (λwz (h:Below w.heap.size w wz)=>TT aU bU nU cU dU U wz hU mU (haU.below h) (hbU.below h));have H3:=CY (λwz (h:Below w.heap.size w wz)=>XN aT bT nT cT dT T wz hT mT (haT.below h) (hbT.below h));have r1:=heap_alloc2_old w (aa #[aM aD nD cD,aM aU nU cU,aO aZ k,aM aT nT cT] 26) (aa #[aM bD nD dD,aM bU nU dU,aO aZ k,aM bT nT dT] 26);have r2:=heap_alloc2_new w (aa #[aM aD nD cD,aM aU nU cU,aO aZ k,aM aT nT cT] 26) (aa #[aM bD nD dD,aM bU nU dU,aO aZ k,aM bT nT dT] 26);have HB:=CY b0;clear hD hU hT mD mU mT haD haU haT hbD hbU hbT b0;go_enter func7,ntmps7
 go_upto_region 1 with fail
 generalize (w.alloc (aa #[aM aD nD cD,aM aU nU cU,aO aZ k,aM aT nT cT] 26)).alloc (aa #[aM bD nD dD,aM bU nU dU,aO aZ k,aM bT nT dT] 26)=w0 at *;have x0:w0.cell? ⟨w.heap.size,0,aS⟩=aR (aM aD nD cD):=AA r1 _;have x1:w0.cell? ⟨w.heap.size,1,aS⟩=aR (aM aU nU cU):=AA r1 _;have x2:w0.cell? ⟨w.heap.size,2,aS⟩=aR (aO aZ k):=AA r1 _;have x3:w0.cell? ⟨w.heap.size,3,aS⟩=aR (aM aT nT cT):=AA r1 _;have y0:w0.cell? ⟨w.heap.size+1,0,aS⟩=aR (aM bD nD dD):=AA r2 _;have y1:w0.cell? ⟨w.heap.size+1,1,aS⟩=aR (aM bU nU dU):=AA r2 _;have y2:w0.cell? ⟨w.heap.size+1,2,aS⟩=aR (aO aZ k):=AA r2 _;have y3:w0.cell? ⟨w.heap.size+1,3,aS⟩=aR (aM bT nT dT):=AA r2 _;clear r1 r2;have hkk:(k == k)=true:=AL
 go_wp2_with fail;refine(H1.o _ HB.o).mono ?_;rintro e w1 ⟨rfl,q1,rfl⟩;go_wp2_with fail;refine(H2.o _ (SU HB.o _)).mono ?_;rintro e w1 ⟨rfl,q2,rfl⟩;go_wp2_with fail;refine(H3.o _ (SU HB.o _)).mono ?_;rintro e w1 ⟨rfl,q3,rfl⟩;go_wp2
 go_ret
 exact⟨rfl,by first|exact SU HB.o _|exact SU (SU HB.o _) _⟩
def Zk (w:aV) (g C:Nat):Prop:=∃ cur:Array aX,w.heap[g]?=aR (aa cur 5 (0,0))/\cur.size=C
theorem NF (w:aV) {ops:Array Oper} {rest:List Oper} {o:Oper} {a:Act} {Q:Exit->Act->aV->Prop} (hg:o.guard=aS) (s x:Operand)
  (hop:o.op=Op.call { callee:=Callee.builtin Builtin.append,args:=#[s,x],argTypes:=#[22,3] }) (hs:a.eval s=aM aS 0 0) (n:Nat) (hx:a.eval x=aO aZ n) (hn:0<n) (hb:n<=2097152)
  (hK:∀ C w',n<=C->C<=maxLen->Zk w' w.heap.size C->Below w.heap.size w w'->wpList tP ops Q rest (a.put o.dst (aM (aR ⟨w.heap.size,0,aS⟩) n C)) w') :
  wpList tP ops Q (o::rest) a w:=by
 obtain⟨i0,hi,hz0,hz1,hz2⟩:=BZ Tryz.infoU8';have hfit:Builtin.nextslicecap (0+n) 0*i0.bytes<=281474976710656:=by rw[Ar,nextslicecap_zero AJ,hz2];omega
 have hr:=Go.Lib.run_append_grow_zeros (P:=tP) w 22 3 o.type 5 i0 (aO aP 0) aZ aZ underlying22 underlying3 hi hz0 aS 0 0 [] AN n hn AJ AJ AJ (by rw[hz2];omega) hfit;have hge:=grownCap_ge w (0+n) 0 5;have hle:=grownCap_le_maxLen w (0+n) 0 5 (by unfold maxLen;omega);rw[Ar] at hr hge hle;generalize grownCap w n 0 5=C at hr hge hle;refine wpList_plain hg λK hK'=>?_
 have hk:=hK' _ _ (hK C _ hge hle ⟨_,AS w.drew (aa ((([]:List aX).toArray++Builtin.zeroCells (aO aP 0).cells n)++Builtin.zeroCells (aO aP 0).cells (C-n)) 5),by simp[Builtin.zeroCells,Value.cells];omega⟩ (Cf.drew.alloc Ch _));unfold Oper.wp execOp;simp only[hop,resolve,invoke,builtin,Sem.run_bind,Sem.run_pure,Result.andThen_ok,List.map_toArray,List.map_cons,List.map_nil,hs,hx,hr];exact hk
theorem TV (n:Nat) (w:aV) (hn:0<n) (hb:n<=2097152) :
  Calls tP 136 #[aM aS 0 0,aO aZ n] w λe w'=>∃ v,e=aQ v/\DB w' w.heap.size v []/\Below w.heap.size w w':=by
 have h0:¬ ((n:Int)<0):=AJ
 have h1:(n:Int)>0:=AJ
 go_enter func136,ntmps136;go_wp2_with (first
  |(refine NF _ rfl (ah 20) (ah 21) rfl rfl n rfl hn hb ?_)
  |fail)
 intro C w1 hC hm hrow hb1;have HF:AO (DB w1 w.heap.size (aM (aR ⟨w.heap.size,0,aS⟩) 0 C) []):=by
  obtain⟨cur,h1,h2⟩:=hrow;exact⟨⟨AL,.inr ⟨w.heap.size,C,cur,rfl,Aa _,h1,AL,hm,by rw[h2,Bu],AL⟩⟩,_,_,rfl⟩
 have HB:=CY <| hb1
 have hC':(0:Int)<=C:=AJ
 have hm':C<=9223372036854775807:=by unfold maxLen at hm;omega
 clear hrow hb1 hm;go_wp2
 go_ret
 exact⟨_,rfl,HF.o,HB.o⟩
def VQ (zss:List (List Int)) (k:Nat):Nat:=(zss.take k).flatten.length
theorem TW (zss:List (List Int)) (k:Nat) (h:k<zss.length):VQ zss (k+1)=VQ zss k+(zss.getD k []).length:=by
 unfold VQ;rw[JB zss k h,Ae]
theorem TY (p m cap:Nat) (vs:List aX) (zss:List (List Int)) (w:aV) (hm:zss.length=m) (hp:p<w.heap.size) (hc:∀ i,i<m->w.cell? ⟨p,i,aS⟩=aR (vs.getD i undef))
  (hz:∀ i,i<m->Fl w (vs.getD i undef) (zss.getD i [])) (ht:zss.flatten.length<=2097152) (h0:0<zss.flatten.length) (hm':m<=2097152) :
  Calls tP 109 #[aM (aR ⟨p,0,aS⟩) m cap] w λe w'=>∃ v,e=aQ v/\DB w' w.heap.size v zss.flatten/\Below w.heap.size w w':=by
 have HM:=CY <| hm
 have HC:=CY <| hc
 have HZ:=CY <| hz
 have HT:AO (zss.flatten.length<=2097152/\0<zss.flatten.length):=⟨ht,h0⟩
 have HTA:AO (VQ zss m=zss.flatten.length):=by show _=_;unfold VQ;rw[Ad AJ]
 clear hc hz ht h0 hm;go_enter func109,ntmps109;go_wp2_with fail
 go_loop [3,11] (λq i=>∃ k:Nat,k<=m/\i=aO aZ k/\q=aO aZ (VQ zss k)) (λ_ i=>m-(intOf i).toNat)
 case atStart=>exact⟨0,Aw _,rfl,rfl⟩
 case round=>
  obtain⟨k,hk,rfl,rfl⟩:=hrel;by_cases hlt:k<m
  ·have hlt':(k:Int)<m:=AJ
   obtain⟨b,o,c,hv,hb,hcell⟩:=HZ.o k hlt;have hck:w.cell? ⟨p,k,aS⟩=aR (aM (aR ⟨b,o,aS⟩) (zss.getD k []).length c):=by rw[HC.o k hlt,hv]
   have HS:=CY <| TW zss k (AG HM.o)
   have hle:VQ zss (k+1)<=2097152:=Ai (Lp zss (k+1)) HT.o.1;rw[HS.o] at hle;clear hcell hv hb;generalize (zss.getD k []).length=z at *;generalize VQ zss k=y at *;have hn0:¬ ((y:Int)+z<0):=AJ
   go_wp2
   go_round
   case rel=>exact⟨k+1,AJ,by go_num,by rw[HS.o];go_num⟩
   case measure=>simp[intOf];omega
  ·have hke:k=m:=AJ
   subst hke;obtain⟨N,hN⟩:∃ N,VQ zss k=N:=⟨_,rfl⟩
   have CG:=TV N w (by rw[<-hN,HTA.o];exact HT.o.2) (by rw[<-hN,HTA.o];exact HT.o.1);have hNb:N<=2097152:=by rw[<-hN,HTA.o];exact HT.o.1
   rw[hN];clear hN HTA;have hlt':¬ ((k:Int)<k):=AJ
   go_wp2_with fail;refine CG.mono ?_;rintro e w1 ⟨v1,rfl,ho1,hb1⟩;have HO1:=CY <| ho1
   have HB1:=CY <| hb1
   clear ho1 hb1 hlt' CG;go_wp2_with fail
   go_loopw [6,27] (λv i wr=>∃(j:Nat) (l:aX),j<=k/\i=aO aZ j/\l=v/\DB wr w.heap.size l (zss.take j).flatten/\Below w.heap.size w wr) (λ_ i _=>k-(intOf i).toNat)
   case atStart=>exact⟨0,_,Aw _,rfl,rfl,HO1.o,HB1.o⟩
   case round=>
    clear HO1 HB1;obtain⟨j,l,hj,rfl,rfl,hown,hbel⟩:=hrel;by_cases hlt:j<k
    ·have hsz:=hbel.size;obtain⟨b,o,c,hv,hb,hcell⟩:=HZ.o j hlt;have hck:wr.cell? ⟨p,j,aS⟩=aR (aM (aR ⟨b,o,aS⟩) (zss.getD j []).length c):=by rw[hbel.cell (p:=⟨p,j,aS⟩) hp,HC.o j hlt,hv]
     have HNW:AO (∀ i,i<(zss.getD j []).length->wr.cell? ((⟨b,o,aS⟩:Addr).add i)=aR (aO aP ((zss.getD j []).getD i 0))):=by
      intro i hi;rw[A0,hbel.cell (p:=⟨b,o+i,aS⟩) hb];exact hcell i hi
     have hfl:=JB zss j (AG HM.o);have hle:=Lp zss (j+1);have HL:AO ((zss.take j).flatten.length+(zss.getD j []).length<=1099511627776):=by show _<=_;rw[hfl,Ae] at hle;have:=HT.o.1;omega
     have HFL:=CY <| hfl
     have HOW:=CY <| hown
     have HBE:=CY <| hbel
     clear hcell hv hb hfl hle hown hbel;go_wp2_with (first
      |(at_builtin;refine Cv _ rfl (ah 31) (ah 32) rfl w.heap.size _ _ rfl HOW.o ⟨b,o,aS⟩ _ c (zss.getD j []) rfl rfl HNW.o HL.o hsz ?_)
      |fail)
     intro v' w2 hown' hbel' _;have HO2:AO (DB w2 w.heap.size v' (zss.take (j+1)).flatten):=by show DB _ _ _ _;rw[HFL.o];exact hown'
     have HB2:=CY <| HBE.o.trans hbel'
     clear hown' hbel' HOW HBE HNW;go_wp2;go_roundw
     case rel=>exact⟨j+1,_,AJ,by go_num,rfl,HO2.o,HB2.o⟩
     case measure=>simp[intOf];omega
    ·have hje:j=k:=AJ
     have hlt':¬ ((j:Int)<k):=AJ
     have HO2:AO (DB wr w.heap.size l zss.flatten):=by
      have:zss.take j=zss:=Ad (AG HM.o);rw[this] at hown;exact hown
     clear hown;go_wp2
     go_ret
     exact⟨_,rfl,HO2.o,hbel⟩
end Go.Proofs.YtncomnkdlpoelaaGreatDoor
