import Derived.Test.YthmeoilbmfdhfaaGreatMArrEq
import Derived.Test.YthmeoilbmfdhfaaGreatMDevLaw
open Go.Value renaming slice->UD,int->UE,pointer->UM,bool->UF,agg->UN
open Go.IntKind renaming i64->UO,u32->UG
open Go.Obj renaming cells->UP
open Go.Ground renaming data->UR
open Option renaming some->UI,none->UJ
open Go renaming World->UK,Value->UL
namespace Go.Proofs.YthmeoilbmfdhfaaGreat
set_option maxHeartbeats 4000000
set_option maxRecDepth 100000
open Go.ChangeShapes Go.WideShapes Go.ChangeAt Go.RowKit
set_option linter.unusedVariables false
theorem KA (b off n cap:Nat) (p:Int) (zs:List Int) (w:UK) (hc:∀ i,i<zs.length->w.cell? ⟨b,off+i,UJ⟩=UI (UE .u8 (zs.getD i 0))) (hz:Cu zs) (hl:zs.length=n) (hn:n<=1048576) (hp:0<=p) (hp':p+4<=n) :
  Calls Tryz.prog 120 #[UD (UI ⟨b,off,UJ⟩) n cap,UE UO p] w λe w'=>e=.returned (UE UG (DD zs p.toNat))/\∃ q,w'=w.drewN q:=by
 obtain⟨p,rfl⟩:=Ai hp;have c0:=hc p AK;have c1:=hc (p+1) AK;have c2:=hc (p+2) AK;have c3:=hc (p+3) AK;have b0:=hz.get p;have b1:=hz.get (p+1);have b2:=hz.get (p+2);have b3:=hz.get (p+3);have HN:AP (DD zs p=zs.getD p 0+256*zs.getD (p+1) 0+65536*zs.getD (p+2) 0+16777216*zs.getD (p+3) 0):=rfl;generalize zs.getD p 0=x0 at *;generalize zs.getD (p+1) 0=x1 at *;generalize zs.getD (p+2) 0=x2 at *;generalize zs.getD (p+3) 0=x3 at *;clear hc;obtain⟨b01,b02⟩:=b0;obtain⟨b11,b12⟩:=b1;obtain⟨b21,b22⟩:=b2;obtain⟨b31,b32⟩:=b3;have g0:(p:Int)<(n:Int):=AK
 have g1:(p:Int)+1<(n:Int):=AK
 have g2:(p:Int)+2<(n:Int):=AK
 have g3:(p:Int)+3<(n:Int):=AK
 go_enter Tryz.func120,Tryz.ntmps120;go_wp2
 go_quiet (fail)
 go_wp2
 go_ret
 exact⟨DW (by rw[Bw,HN.o]),nq,rfl⟩
def KB (k i:Nat) (w w':UK):Prop:=
 (i≠k->Below w.heap.size w w')/\w.heap.size<=w'.heap.size/\∀(b:Nat) (cs:Array UL) (t:TypeId) (fr:Nat×Nat),w.heap[b]?=UI (UP cs t fr)->∃ cs':Array UL,w'.heap[b]?=UI (UP cs' t fr)/\cs'.size=cs.size
theorem KB.of_below {k i:Nat} {w w':UK} (h:Below w.heap.size w w'):KB k i w w':=
 ⟨λ_=>h,h.size,λb cs t fr hb=>⟨cs,by rw[h.block b (AQ.1 hb).1];exact hb,rfl⟩⟩
theorem KB.refl (k i:Nat) (w:UK):KB k i w w:=KB.of_below Cs
def TV (v:UL) (bs os:Nat) (s k a b:Int) (H:Nat):Nat->UK->(Nat->UL)->Prop
 |0,_,u=>u 0=v
 |1,_,u=>u 1=UE UG s
 |2,_,u=>u 2=v
 |3,_,u=>u 3=UM (UI ⟨bs,os+6,UJ⟩)
 |4,_,u=>u 4=UE .u8 k
 |5,_,u=>u 5=UE UO k
 |6,_,u=>u 6=v
 |7,_,u=>u 7=UE UG a
 |8,_,u=>u 8=v
 |9,_,u=>u 9=UE UG b
 |10,_,u=>u 10=UN #[UE UG s,UE UO k,UE UG a,UE UG b]
 |11,w,u=>∃ g cs,u 11=UM (UI ⟨g,0,UJ⟩)/\H<=g/\w.heap[g]?=UI (UP cs 112 (0,0))/\cs.size=4
 |_,w,u=>∃ g,u 11=UM (UI ⟨g,0,UJ⟩)/\H<=g/\w.heap[g]?=UI (UP #[UE UG s,UE UO k,UE UG a,UE UG b] 112 (0,0))
theorem PO (x:UL) (bs os:Nat) (s k a b:Int) (H j:Nat) (w w':UK) (u:Nat->UL) (i:Nat) (v:UL) (hM:KB 12 i w w') (hij:i≠j) (h7:j≥12->11≠i) (hj:j<=12) (h:TV x bs os s k a b H j w u):TV x bs os s k a b H j w' (Cr u i v):=by
 obtain rfl|rfl|rfl|rfl|rfl|rfl|rfl|rfl|rfl|rfl|rfl|rfl|rfl:j=0\/j=1\/j=2\/j=3\/j=4\/j=5\/j=6\/j=7\/j=8\/j=9\/j=10\/j=11\/j=12:=AK
 all_goals simp only[TV] at h |-
 iterate 11 (· rw[Fq hij];exact h)
 ·obtain⟨g,cs,h1,h2,h3,h4⟩:=h;obtain⟨cs',h5,h6⟩:=hM.2.2 g _ _ _ h3;exact⟨g,cs',by rw[Fq hij];exact h1,h2,h5,AK⟩
 ·obtain⟨g,h1,h2,h3⟩:=h;refine⟨g,by rw[Fq (Bs (h7 AK))];exact h1,h2,?_⟩;rw[(hM.1 hij).block g (AQ.1 h3).1];exact h3
def TC (x:UL) (s k a b:Int) (zs:List Int):Nat->UK->(Nat->UL)->Prop
 |0,_,u=>u 0=UN #[UE UG s,UE UO k,UE UG a,UE UG b]
 |1,w,u=>Cy w (u 1) (Fw s k a b)
 |2,_,u=>u 2=.string (strOfNums (Fw s k a b))
 |3,_,u=>u 3=x
 |4,_,u=>u 4=.string (strOfNums zs)
 |_,_,u=>u 5=UF (!decide (Fw s k a b=zs))
theorem PP (x:UL) (s k a b:Int) (zs:List Int) (j:Nat) (w w':UK) (u:Nat->UL) (i:Nat) (v:UL) (hM:Below w.heap.size w w') (hij:i≠j) (hj:j<=5) (h:TC x s k a b zs j w u):TC x s k a b zs j w' (Cr u i v):=by
 obtain rfl|rfl|rfl|rfl|rfl|rfl:j=0\/j=1\/j=2\/j=3\/j=4\/j=5:=AK
 all_goals simp only[TC] at h |-
 ·rw[Fq hij];exact h
 ·rw[Fq hij];exact h.below hM
 all_goals(rw[Fq hij];exact h)
theorem Q4 {xs ys:List Int} (hx:Cu xs) (hy:Cu ys):((strOfNums xs).toList == (strOfNums ys).toList)=decide (xs=ys):=by
 rw[Bool.eq_iff_iff,CB,beq_iff_eq,ByteArray.toList_eq,ByteArray.toList_eq,strOfNums_data,strOfNums_data];constructor
 ·intro h;have hl:xs.length=ys.length:=by simpa using congrArg List.length h
  apply List.ext_getElem hl;intro i h1 h2;have e:(xs.map λn=>UInt8.ofNat n.toNat)[i]?=(ys.map λn=>UInt8.ofNat n.toNat)[i]?:=by rw[h]
  simp[h1,h2] at e;have e':=congrArg UInt8.toNat e;have bx:=hx xs[i] (Ba h1);have by':=hy ys[i] (Ba h2);simp only[UInt8.toNat_ofNat'] at e';omega
 ·rintro rfl;rfl
theorem Nk (s k a b:Int) (us:D8 s) (ua:D8 a) (ub:D8 b):Cu (Fw s k a b):=by
 unfold Fw;split
 ·rw[<-Lo s k a b us ua ub];exact M7 _ _ _ _
 ·intro z hz;simp at hz
structure Xd (w w':UK):Prop where
 below:Below w.heap.size w w'
 lt:w.heap.size<w'.heap.size
 res:w'.heap[w.heap.size]?=UI (UP Cl 114 (0,0))
theorem Xd.drewN {w w':UK} (h:Xd w w') (n:Nat):Xd w (w'.drewN n):=⟨⟨h.below.os,h.below.tape,h.below.output,h.below.size,h.below.block⟩,h.lt,h.res⟩
theorem Xd.grow {w w' w'':UK} (h:Xd w w') (hb:Below w'.heap.size w' w''):Xd w w'':=
 ⟨h.below.trans (hb.mono (AG h.lt)),AI hb.size h.lt,by rw[hb.block _ h.lt];exact h.res⟩
theorem Xd.cells {w w':UK} (h:Xd w w') {bs os:Nat} {zs:List Int} (hc:∀ i,i<zs.length->w.cell? ⟨bs,os+i,UJ⟩=UI (UE .u8 (zs.getD i 0))) (hbs:bs<w.heap.size) :
  ∀ i,i<zs.length->w'.cell? ⟨bs,os+i,UJ⟩=UI (UE .u8 (zs.getD i 0)):=λi hi=>by rw[h.below.cell (p:=⟨bs,os+i,UJ⟩) hbs];exact hc i hi
theorem Q5 (bs os cap:Nat) (zs:List Int) (w:UK) (hn:zs.length=64) (hz:Cu zs) (hbs:bs<w.heap.size) (hc:∀ i,i<zs.length->w.cell? ⟨bs,os+i,UJ⟩=UI (UE .u8 (zs.getD i 0))) :
  Calls Tryz.prog 72 #[UD (UI ⟨bs,os,UJ⟩) 64 cap] w λe w'=>e=.returned (GO zs)/\Below w.heap.size w w':=by
 have HDY:AP ((!decide (Fw (DD zs 0) (zs.getD 6 0) (DD zs 8) (DD zs 12)=zs))=true->GO zs=Nb):=by
  intro h;refine Gv ?_;simp only[Bool.not_eq_true',decide_eq_false_iff_not] at h;unfold Gy;by_cases hk:1<=zs.getD 6 0/\zs.getD 6 0<=3
  ·unfold Fw at h;rw[AR hk] at h;have:decide (Hm (DD zs 0) (zs.getD 6 0) (DD zs 8) (DD zs 12)=zs)=false:=by simpa using h
   rw[this];simp
  ·have:decide (1<=zs.getD 6 0/\zs.getD 6 0<=3)=false:=by simpa using hk
   rw[this];simp
 have HDN:AP ((!decide (Fw (DD zs 0) (zs.getD 6 0) (DD zs 8) (DD zs 12)=zs))=false->GO zs=Qt (DD zs 0) (zs.getD 6 0) (DD zs 8) (DD zs 12)):=by
  intro h;refine Hv ?_;simp only[Bool.not_eq_false',decide_eq_true_eq] at h;unfold Gy;by_cases hk:1<=zs.getD 6 0/\zs.getD 6 0<=3
  ·unfold Fw at h;rw[AR hk] at h;have h1:decide (1<=zs.getD 6 0/\zs.getD 6 0<=3)=true:=by simpa using hk
   have h2:decide (Hm (DD zs 0) (zs.getD 6 0) (DD zs 8) (DD zs 12)=zs)=true:=by simpa using h
   rw[h1,h2];simp[hn]
  ·unfold Fw at h;rw[AS hk] at h;rw[<-h] at hn;simp at hn
 have us:=Dp zs hz 0;have ua:=Dp zs hz 8;have ub:=Dp zs hz 12;have hb6:=hz.get 6;have HC6:AP (w.cell? ⟨bs,os+6,UJ⟩=UI (UE .u8 (zs.getD 6 0))):=hc 6 AK;generalize hs0:DD zs 0=s0 at *;generalize ha0:DD zs 8=a0 at *;generalize hb0:DD zs 12=b0 at *;generalize zs.getD 6 0=k0 at *;have HS:AP (DD zs 0=s0):=hs0;have HA:AP (DD zs 8=a0):=ha0;have HBB:AP (DD zs 12=b0):=hb0;clear hs0 ha0 hb0;obtain⟨hb60,hb61⟩:=hb6;have hwr:IntKind.i64.wrap k0=k0:=by rw[As];omega
 have hs27:(Tryz.prog.info? 112).map (·.size)=UI 4:=AN
 have HS27:AP _:=hs27;have hsF:(Tryz.prog.info? 114).map (·.size)=UI 5:=AN
 have HSF:AP _:=hsF;have HWR:AP _:=hwr;clear hs27 hwr hsF;have hx0:Xd w (w.alloc (UP Cl 114)):=⟨Cv _ _,AM,AV w _⟩
 have HX0:AP _:=hx0;have HCC:AP _:=hc;clear hx0 hc;go_enter Tryz.func72,Tryz.ntmps72;go_wp2_with fail;have hc:=HCC.o;clear HCC;refine Ae AN ?_;refine EO (frame:=λu=>{ tmps:=#[UD (UI ⟨bs,os,UJ⟩) 64 cap,undef,UM (UI ⟨w.heap.size,0,UJ⟩),u 11,UD (UI ⟨bs,os,UJ⟩) 64 cap,UE UO 64,UF false,undef,u 0,u 1,u 2,u 3,u 4,u 5,u 6,u 7,u 8,u 9,u 10,undef,undef,undef,undef,undef,undef,undef,undef,undef],defers:=[] })
  (Ext:=λw'=>Xd w w') (Good:=TV (UD (UI ⟨bs,os,UJ⟩) 64 cap) bs os s0 k0 a0 b0 (w.heap.size+1)) (M:=KB 12) ?hstab AN ?hop ?hdone _ _ (λ_=>undef) _ AM ?ext ?start ?clo AM
 case start=>intro i hi h;exact absurd h E0
 case clo=>intro i o ho h;exact absurd h E0
 case ext=>exact HX0.o.drewN 1
 case hstab=>
  intro j o w1 w2 u i v ho hM hij hd hg;have hj:j<13:=(AQ.1 ho).1;refine PO _ _ _ _ _ _ _ _ j w1 w2 u i v hM hij (λh8=>?_) AK hg;obtain rfl:j=12:=AK
  simp at ho;subst ho;exact hd ⟨11,UR⟩ AM rfl
 case hop=>
   intro i o u w6 ho hx hdep K hK;have hi:i<13:=(AQ.1 ho).1;have hc6:w6.cell? ⟨bs,os+6,UJ⟩=UI (UE .u8 k0):=by rw[hx.below.cell (p:=⟨bs,os+6,UJ⟩) hbs];exact HC6.o
   have hlt:=hx.lt;obtain rfl|rfl|rfl|rfl|rfl|rfl|rfl|rfl|rfl|rfl|rfl|rfl|rfl:i=0\/i=1\/i=2\/i=3\/i=4\/i=5\/i=6\/i=7\/i=8\/i=9\/i=10\/i=11\/i=12:=AK
   all_goals(simp at ho;subst ho)
   ·clear hdep;go_simp;exact hK w6 _ rfl hx (KB.refl _ _ _)
   ·have d:u 0=_:=hdep ⟨0,UR⟩ AM rfl;clear hdep;go_simp;refine(KA bs os 64 cap 0 zs _ (hx.cells hc hbs) hz hn AL AL AL).mono ?_;rintro e w7 ⟨rfl,q,rfl⟩;have hv:DD zs (Int.toNat 0)=s0:=HS.o;rw[hv];go_simp;simpa[Cr,d] using hK _ (UE UG s0) rfl (hx.drewN q) (KB.of_below (EQ Cs q))
   ·clear hdep;go_simp;exact hK w6 _ rfl hx (KB.refl _ _ _)
   ·have d:u 2=_:=hdep ⟨2,UR⟩ AM rfl;clear hdep;go_simp;simpa[Cr,d] using hK w6 (UM (UI ⟨bs,os+6,UJ⟩)) rfl hx (KB.refl _ _ _)
   ·have d:u 3=_:=hdep ⟨3,UR⟩ AM rfl;clear hdep;go_simp;simpa[Cr,d] using hK w6 (UE .u8 k0) rfl hx (KB.refl _ _ _)
   ·have d:u 4=_:=hdep ⟨4,UR⟩ AM rfl;clear hdep;go_simp;simpa[Cr,d,HWR.o] using hK w6 (UE UO k0) rfl hx (KB.refl _ _ _)
   ·clear hdep;go_simp;exact hK w6 _ rfl hx (KB.refl _ _ _)
   ·have d:u 6=_:=hdep ⟨6,UR⟩ AM rfl;clear hdep;go_simp;refine(KA bs os 64 cap 8 zs _ (hx.cells hc hbs) hz hn AL AL AL).mono ?_;rintro e w7 ⟨rfl,q,rfl⟩;have hv:DD zs (Int.toNat 8)=a0:=HA.o;rw[hv];go_simp;simpa[Cr,d] using hK _ (UE UG a0) rfl (hx.drewN q) (KB.of_below (EQ Cs q))
   ·clear hdep;go_simp;exact hK w6 _ rfl hx (KB.refl _ _ _)
   ·have d:u 8=_:=hdep ⟨8,UR⟩ AM rfl;clear hdep;go_simp;refine(KA bs os 64 cap 12 zs _ (hx.cells hc hbs) hz hn AL AL AL).mono ?_;rintro e w7 ⟨rfl,q,rfl⟩;have hv:DD zs (Int.toNat 12)=b0:=HBB.o;rw[hv];go_simp;simpa[Cr,d] using hK _ (UE UG b0) rfl (hx.drewN q) (KB.of_below (EQ Cs q))
   ·have d0:u 1=_:=hdep ⟨1,UR⟩ AM rfl;have d3:u 5=_:=hdep ⟨5,UR⟩ AM rfl;have d4:u 7=_:=hdep ⟨7,UR⟩ AM rfl;have d5:u 9=_:=hdep ⟨9,UR⟩ AM rfl;clear hdep;go_simp;simpa[Cr,d0,d3,d4,d5] using hK w6 (UN #[UE UG s0,UE UO k0,UE UG a0,UE UG b0]) rfl hx (KB.refl _ _ _)
   ·clear hdep;have hb:=Cv w6 (UP Co 112);go_simp;exact hK _ _ ⟨w6.heap.size,_,rfl,AK,AV w6 _,rfl⟩ (hx.grow hb) (KB.of_below hb)
   ·have d6:u 10=_:=hdep ⟨10,UR⟩ AM rfl;obtain⟨g,cs,d7,hg,hh,hcs⟩:=hdep ⟨11,UR⟩ AM rfl;rw[AR AO];refine A8 112 (.tmp 3) (.tmp 18) rfl g _ d7 d6 112 cs hh HS27.o hcs (SH _ _ _ _) ?_;refine hK (w6.setRow g #[UE UG s0,UE UO k0,UE UG a0,UE UG b0]) undef ⟨g,?_,hg,AB hh⟩ ⟨?_,?_,?_⟩ ⟨?_,?_,?_⟩
    ·exact d7
    ·exact hx.below.trans ((Wr.setRow g w6 _).below AK)
    ·rw[BP];exact hlt
    ·rw[setRow_other w6 g _ _ AK];exact hx.res
    ·intro h;exact absurd rfl h
    ·rw[BP];exact AY _
    ·intro b2 cs2 t2 fr2 hb2;by_cases hbg:b2=g
     ·subst hbg;rw[hh] at hb2;obtain⟨rfl,rfl,rfl⟩:=(by simpa using hb2:cs=cs2/\_=t2/\_=fr2)
      exact⟨_,AB hh,by rw[hcs];rfl⟩
     ·exact⟨cs2,by rw[setRow_other w6 g b2 _ hbg];exact hb2,rfl⟩
 case hdone=>
   intro u w6 hx hg;obtain⟨g,h7,hgl,hblk⟩:=hg 12 AL;clear hg;have hst6:AP _:=hx;have hblk6:AP _:=hblk;have HC:AP _:=hc;clear hx hblk hc;go_wp2_with fail;have hc:=HC.o;rw[h7];clear h7 HC;refine Ae AN ?_;refine EO (frame:=λt=>{ tmps:=#[UD (UI ⟨bs,os,UJ⟩) 64 cap,undef,UM (UI ⟨w.heap.size,0,UJ⟩),UM (UI ⟨g,0,UJ⟩),UD (UI ⟨bs,os,UJ⟩) 64 cap,UE UO 64,UF false,undef,u 0,u 1,u 2,u 3,u 4,u 5,u 6,u 7,u 8,u 9,u 10,t 0,t 1,t 2,t 3,t 4,t 5,undef,undef,undef],defers:=[] })
    (Ext:=λw'=>Xd w w'/\w'.heap[g]?=UI (UP #[UE UG s0,UE UO k0,UE UG a0,UE UG b0] 112 (0,0))) (Good:=TC (UD (UI ⟨bs,os,UJ⟩) 64 cap) s0 k0 a0 b0 zs) (M:=λ_ w w'=>Below w.heap.size w w') ?hstab7 AN ?hop7 ?hdone7 _ _ (λ_=>undef) _ AM ?ext7 ?start7 ?clo7 AM
   case start7=>intro i hi h;exact absurd h E0
   case clo7=>intro i o ho h;exact absurd h E0
   case ext7=>exact⟨hst6.o.drewN 1,hblk6.o⟩
   case hstab7=>
    intro j o w1 w2 t i v ho hM hij hd hg;have hj:j<6:=(AQ.1 ho).1;exact PP _ _ _ _ _ _ j w1 w2 t i v hM hij AK hg
   case hdone7=>
    intro t w7 hx hg;obtain⟨hx,hblk⟩:=hx;have h6:t 5=_:=hg 5 AL;clear hg;have HN':=HDN.o;have HY':=HDY.o;clear HDN HDY;have f0:w7.cell? ⟨g,0,UJ⟩=UI (UE UG s0):=AA hblk _;have f1:w7.cell? ⟨g,1,UJ⟩=UI (UE UO k0):=AA hblk _;have f2:w7.cell? ⟨g,2,UJ⟩=UI (UE UG a0):=AA hblk _;have f3:w7.cell? ⟨g,3,UJ⟩=UI (UE UG b0):=AA hblk _;have HR7:AP _:=hx.res;have HB7:AP (Below w.heap.size w w7):=hx.below;clear hx hblk hc;generalize hfin:(!decide (Fw s0 k0 a0 b0=zs))=fin at *;rw[h6];clear h6;cases fin
    ·have HV:AP (GO zs=Qt s0 k0 a0 b0):=HN' rfl;clear HN' HY' hfin;go_wp2_with (refine AC 114 (.tmp 2) (.tmp 27) w.heap.size #[UF true,UE UG s0,UE UO k0,UE UG a0,UE UG b0] 114 HR7.o HSF.o rfl (J7 _ _ _ _ _) ?_)
     (try simp only[Exit.inBlock,Exit.then])
     refine AZ (v:=Qt s0 k0 a0 b0) (AW rfl _ _ w.heap.size 114 _ (0,0) _ rfl (AB HR7.o) Tryz.underlying114 rfl HSF.o) rfl ⟨by rw[HV.o],?_⟩;exact HB7.o.trans ((Wr.setRow _ _ _).below Cw)
    ·have HV:AP (GO zs=Nb):=HY' rfl;clear HN' HY' hfin;go_wp2_with (refine AC 114 (.tmp 2) (.tmp 25) w.heap.size Cl 114 HR7.o HSF.o rfl (J7 _ _ _ _ _) ?_)
     (try simp only[Exit.inBlock,Exit.then])
     refine AZ (v:=Nb) (AW rfl _ _ w.heap.size 114 _ (0,0) _ rfl (AB HR7.o) Tryz.underlying114 rfl HSF.o) rfl ⟨by rw[HV.o],?_⟩;exact HB7.o.trans ((Wr.setRow _ _ _).below Cw)
   case hop7=>
    intro i o t w7 ho hx hdep K hK;obtain⟨hx,hblk⟩:=hx;have hi:i<6:=(AQ.1 ho).1;have f0:w7.cell? ⟨g,0,UJ⟩=UI (UE UG s0):=AA hblk _;have f1:w7.cell? ⟨g,1,UJ⟩=UI (UE UO k0):=AA hblk _;have f2:w7.cell? ⟨g,2,UJ⟩=UI (UE UG a0):=AA hblk _;have f3:w7.cell? ⟨g,3,UJ⟩=UI (UE UG b0):=AA hblk _;have hgl7:g<w7.heap.size:=(AQ.1 hblk).1;obtain rfl|rfl|rfl|rfl|rfl|rfl:i=0\/i=1\/i=2\/i=3\/i=4\/i=5:=AK
    all_goals(simp at ho;subst ho)
    ·clear hdep hc;go_simp;exact hK w7 _ rfl ⟨hx,hblk⟩ Cs
    ·have d:t 0=_:=hdep ⟨0,UR⟩ AM rfl;clear hdep hc;go_simp;refine(OZ s0 k0 a0 b0 _ us ua ub).mono ?_;rintro e w8 ⟨v,rfl,hp,hb8⟩;have hx8:=hx.grow hb8;have hblk8:w8.heap[g]?=UI (UP #[UE UG s0,UE UO k0,UE UG a0,UE UG b0] 112 (0,0)):=by rw[hb8.block g hgl7];exact hblk
     go_simp;simpa[Cr,d] using hK w8 v hp ⟨hx8,hblk8⟩ hb8
    ·obtain⟨bp,op,cp,d,hl,hcp⟩:=hdep ⟨1,UR⟩ AM rfl;clear hdep hc;have hcv:=run_convert_bytes_arg w7 22 5 Tryz.underlying22 Tryz.underlying5 bp op _ cp (Fw s0 k0 a0 b0) rfl hcp 9 Tryz.underlying9;clear hcp;generalize (Fw s0 k0 a0 b0).length=el at *;go_simp;simpa[Cr,d] using hK w7 (.string (strOfNums (Fw s0 k0 a0 b0))) rfl ⟨hx,hblk⟩ Cs
    ·clear hdep hc;go_simp;exact hK w7 _ rfl ⟨hx,hblk⟩ Cs
    ·have d:t 3=_:=hdep ⟨3,UR⟩ AM rfl;have hcv:=run_convert_bytes_arg w7 22 5 Tryz.underlying22 Tryz.underlying5 bs os 64 cap zs hn (λi hi=>hx.cells hc hbs i AK) 9 Tryz.underlying9;clear hdep hc;go_simp;simpa[Cr,d] using hK w7 (.string (strOfNums zs)) rfl ⟨hx,hblk⟩ Cs
    ·have d2:t 2=_:=hdep ⟨2,UR⟩ AM rfl;have d4:t 4=_:=hdep ⟨4,UR⟩ AM rfl;have hinj:=Q4 (Nk s0 k0 a0 b0 us ua ub) hz;clear hdep hc;generalize hv:decide (Fw s0 k0 a0 b0=zs)=bv at *;go_simp;simpa[Cr,d2,d4,hinj] using hK w7 (UF !bv) (by simp[TC,Cr,hv]) ⟨hx,hblk⟩ Cs
theorem DN.keep {B:Nat} {w w':UK} {v:UL} {T:List Int} {n:Nat} (h:DN B w v T n) (hb:∀ k,B<=k->k<w.heap.size->w'.heap[k]?=w.heap[k]?):DN B w' v T n:=by
 refine⟨h.1,?_⟩;rcases h.2 with h'|⟨g,c,cur,h1,h2,h3,h4⟩
 ·exact .inl h'
 ·exact .inr ⟨g,c,cur,h1,h2,by rw[hb g h2 (AQ.1 h3).1];exact h3,h4⟩
theorem DN.below {B:Nat} {w w':UK} {v:UL} {T:List Int} {n:Nat} (h:DN B w v T n) (b:Below w.heap.size w w'):DN B w' v T n:=h.keep (λk _ hk=>b.block k hk)
theorem DN.wrk {B R:Nat} {w w':UK} {v:UL} {T:List Int} {n:Nat} (h:DN B w v T n) (hw:Wr R w w') (hR:R<B):DN B w' v T n:=h.keep (λk hk _=>hw.block k AK)
theorem DN.wr {B R:Nat} {w w':UK} {v:UL} {T:List Int} {n:Nat} (h:DN B w v T n) (hw:Wr R w w') (hR:R<B):DN B w' v T n:=h.wrk hw hR
def FB (lo:Nat) (k:Int) (D U T:List Int) (nT:Nat) (w:UK) (cs:Array UL):Prop:=
 ∃ aD nD cD aU nU cU aT cT,cs=#[UD aD nD cD,UD aU nU cU,UE UO k,UD aT nT cT]/\Iow lo w (UD aD nD cD) D/\Iow lo w (UD aU nU cU) U/\DN lo w (UD aT nT cT) T nT
section
variable {lo lo' R:Nat} {k:Int} {D U T:List Int} {nT:Nat} {w w':UK} {cs:Array UL} {v:UL}
theorem FB.below (h:FB lo k D U T nT w cs) (b:Below w.heap.size w w'):FB lo k D U T nT w' cs:=by
 obtain⟨aD,nD,cD,aU,nU,cU,aT,cT,e,h1,h2,h3⟩:=h;exact⟨aD,nD,cD,aU,nU,cU,aT,cT,e,h1.below b,h2.below b,h3.below b⟩
theorem FB.mono (h:FB lo k D U T nT w cs) (hl:lo'<=lo):FB lo' k D U T nT w cs:=by
 obtain⟨aD,nD,cD,aU,nU,cU,aT,cT,e,h1,h2,h3⟩:=h;exact⟨aD,nD,cD,aU,nU,cU,aT,cT,e,h1.mono hl,h2.mono hl,DN.mono h3 hl⟩
def IT (lo:Nat) (k:Int) (D U T:List Int) (nT:Nat) (w:UK) (v:UL):Prop:=∃ cs,v=UN cs/\FB lo k D U T nT w cs
theorem IT.below (h:IT lo k D U T nT w v) (b:Below w.heap.size w w'):IT lo k D U T nT w' v:=by obtain⟨cs,e,h⟩:=h;exact⟨cs,e,h.below b⟩
theorem IT.wr (h:IT lo k D U T nT w v) (hw:Wr R w w') (hR:R<lo):IT lo k D U T nT w' v:=by
 obtain⟨cs,e,aD,nD,cD,aU,nU,cU,aT,cT,e2,h1,h2,h3⟩:=h;exact⟨cs,e,aD,nD,cD,aU,nU,cU,aT,cT,e2,h1.wr hw hR,h2.wr hw hR,h3.wr hw hR⟩
end
structure T4 (w wb:UK) (sc:Array UL):Prop where
 p1:w.heap.size<wb.heap.size
 p2:wb.heap[w.heap.size]?=UI (UP sc 34 (0,0))
 p3:w.heap.size<=wb.heap.size
 p4:wb.heap.size<=w.heap.size+1
theorem Me (aD aU aT:Option Addr) (nD cD nU cU nT cT:Nat) (D U:List Int) (k:Int) (T:List Int) (w:UK) (hD:D.length=nD) (hU:U.length=nU) (hT:T.length=nT*2) (mD:nD<=1048576) (mU:nU<=1048576) (mT:nT<=1048576)
  (haD:At UO w aD D) (haU:At UO w aU U) (haT:At UO w aT T) :
  Calls Tryz.prog 123 #[UN #[UD aD nD cD,UD aU nU cU,UE UO k,UD aT nT cT]] w λe w'=>∃ cs,e=.returned (UN cs)/\FB w.heap.size k D U T nT w' cs/\Below w.heap.size w w':=by
 obtain⟨wb,hwb⟩:∃ wb,wb=w.alloc (UP #[UD aD nD cD,UD aU nU cU,UE UO k,UD aT nT cT] 34):=⟨_,rfl⟩
 have HWB:AP (T4 w wb #[UD aD nD cD,UD aU nU cU,UE UO k,UD aT nT cT]):=⟨by rw[hwb];simp,by rw[hwb];exact AV w _,by rw[hwb];simp,by rw[hwb];simp⟩
 have HBW:AP (Below w.heap.size w wb):=by show Below _ _ _;rw[hwb];exact Cs.alloc Cw _
 have HAD:AP (At UO w aD D):=haD;have HAU:AP (At UO w aU U):=haU;have HAT:AP (At UO w aT T):=haT;have HLN:AP (D.length=nD/\U.length=nU/\T.length=nT*2):=⟨hD,hU,hT⟩
 have HSZ:AP ((Tryz.prog.info? 34).map (·.size)=UI 4):=by show _=_;kernel_rfl
 have HW0:AP (Below wb.heap.size wb ((w.alloc (UP #[UD aD nD cD,UD aU nU cU,UE UO k,UD aT nT cT] 34)).alloc (UP Cf 34)).drew):=by
  have h1:Below wb.heap.size wb (wb.alloc (UP Cf 34)):=Cs.alloc Cw _;rw[hwb] at h1 |-;exact⟨h1.os,h1.tape,h1.output,h1.size,h1.block⟩
 have HR0:AP (((w.alloc (UP #[UD aD nD cD,UD aU nU cU,UE UO k,UD aT nT cT] 34)).alloc (UP Cf 34)).drew.heap[w.heap.size+1]?=UI (UP Cf 34 (0,0))):=by
  have:=AV (w.alloc (UP #[UD aD nD cD,UD aU nU cU,UE UO k,UD aT nT cT] 34)) (UP Cf 34)
  rwa [show(w.alloc (UP #[UD aD nD cD,UD aU nU cU,UE UO k,UD aT nT cT] 34)).heap.size=w.heap.size+1 by simp] at this
 clear haD haU haT hD hU hT hwb;go_enter Tryz.func123,Tryz.ntmps123;go_wp2_with fail;refine Ae AN ?_;refine C3 (λi a b=>if i=15 then Wr (w.heap.size+1) a b else Below a.heap.size a b) (frame:=(λ(a b c:UL)=>λ(t:Nat->UL)=>({ tmps:=List.toArray [a,b,c,t 0,t 1,t 2,t 3,t 4,t 5,t 6,t 7,t 8,t 9,t 10,t 11,t 12,t 13,t 14],defers:=[] }:Act)) _ _ _)
  (Ext:=λL u w'=>LZ wb (w.heap.size+1) 15 34 Cf (FB (w.heap.size+2) k D U T nT) [] L u w') (Good:=λi L w' v=>if i=0 then E3 (w.heap.size+2) 2 w' v else if i=1 then v=UM (UI ⟨w.heap.size,0,UJ⟩) else if i=2 then v=UD aD nD cD else if i=3 then Iow (w.heap.size+2) w' v D else if i=4 then E3 (w.heap.size+2) 2 w' v else if i=5 then v=UM (UI ⟨w.heap.size,1,UJ⟩) else if i=6 then v=UD aU nU cU else if i=7 then Iow (w.heap.size+2) w' v U else if i=8 then v=UM (UI ⟨w.heap.size,2,UJ⟩) else if i=9 then v=UE UO k else if i=10 then E3 (w.heap.size+2) 133 w' v else if i=11 then v=UM (UI ⟨w.heap.size,3,UJ⟩) else if i=12 then v=UD aT nT cT else if i=13 then DN (w.heap.size+2) w' v T nT else if i=14 then IT (w.heap.size+2) k D U T nT w' v else if i=15 then L 15=true else True) ?hstab AN ?hop ?hdone _ _ ((λ(x0 x1 x2 x3 x4 x5 x6 x7 x8 x9 x10 x11 x12 x13 x14:UL)=>λ(i:Nat)=>if i=0 then x0 else if i=1 then x1 else if i=2 then x2 else if i=3 then x3 else if i=4 then x4 else if i=5 then x5 else if i=6 then x6 else if i=7 then x7 else if i=8 then x8 else if i=9 then x9 else if i=10 then x10 else if i=11 then x11 else if i=12 then x12 else if i=13 then x13 else if i=14 then x14 else undef) _ _ _ _ _ _ _ _ _ _ _ _ _ _ _) _ AM ?ext ?start AM
 case start=>intro i hi h;exact absurd h E0
 case ext=>exact LZ.start ⟨HW0.o,λp _ hp=>absurd hp E0,λp _ q _ _ hp=>absurd hp E0⟩ (λ_=>FJ) HR0.o
 case hstab=>
  intro j L w9 w' i v hM hij hLi h;by_cases h0:j=0
  ·subst h0;by_cases hl:i=15
   ·subst hl;simp at h hM |-;exact h.wr hM AK
   ·rw[AS hl] at hM;simp at h |-;exact h.below hM
  by_cases h3:j=3
  ·subst h3;by_cases hl:i=15
   ·subst hl;simp at h hM |-;exact h.wr hM AK
   ·rw[AS hl] at hM;simp at h |-;exact h.below hM
  by_cases h4:j=4
  ·subst h4;by_cases hl:i=15
   ·subst hl;simp at h hM |-;exact h.wr hM AK
   ·rw[AS hl] at hM;simp at h |-;exact h.below hM
  by_cases h7:j=7
  ·subst h7;by_cases hl:i=15
   ·subst hl;simp at h hM |-;exact h.wr hM AK
   ·rw[AS hl] at hM;simp at h |-;exact h.below hM
  by_cases h10:j=10
  ·subst h10;by_cases hl:i=15
   ·subst hl;simp at h hM |-;exact h.wr hM AK
   ·rw[AS hl] at hM;simp at h |-;exact h.below hM
  by_cases h13:j=13
  ·subst h13;by_cases hl:i=15
   ·subst hl;simp at h hM |-;exact h.wr hM AK
   ·rw[AS hl] at hM;simp at h |-;exact h.below hM
  by_cases h14:j=14
  ·subst h14;by_cases hl:i=15
   ·subst hl;simp at h hM |-;exact h.wr hM AK
   ·rw[AS hl] at hM;simp at h |-;exact h.below hM
  by_cases hl:j=15
  ·subst hl;simp at h |-;unfold Ct;simp[h]
  simp only[if_neg h0,if_neg h3,if_neg h4,if_neg h7,if_neg h10,if_neg h13,if_neg h14,if_neg hl] at h |-;exact h
 case hop=>
  intro i o L t w' ho hLi hx hdep K hK;have hi:i<16:=(AQ.1 ho).1;obtain rfl|rfl|rfl|rfl|rfl|rfl|rfl|rfl|rfl|rfl|rfl|rfl|rfl|rfl|rfl|rfl:i=0\/i=1\/i=2\/i=3\/i=4\/i=5\/i=6\/i=7\/i=8\/i=9\/i=10\/i=11\/i=12\/i=13\/i=14\/i=15:=AK
  all_goals(simp at ho;subst ho)
  ·clear hdep;have hsz:w.heap.size+2<=w'.heap.size:=AG hx.lt
   have bb:Below w'.heap.size w' (w'.alloc (UP #[] 2)):=Cs.alloc Cw _;have hK':=hK (w'.alloc (UP #[] 2)) (UD (UI ⟨w'.heap.size,0,UJ⟩) 0 0) (by simpa using E3.new 2 w' hsz) (hx.step (λ_ _ _ b h=>h.below b) 0 AL _ bb C7) (by rw[AS AL];exact bb);clear hK bb;rw[AR AO];go_simp;simpa[Cr] using hK'
  ·clear hdep;have hK':=hK w' (UM (UI ⟨w.heap.size,0,UJ⟩)) AM (hx.step (λ_ _ _ b h=>h.below b) 1 AL _ Cs C7) (by rw[AS AL];exact Cs);clear hK;rw[AR AO];go_simp;simpa[Cr] using hK'
  ·have d1:t 1=UM (UI ⟨w.heap.size,0,UJ⟩):=by simpa using(hdep ⟨1,UR⟩ AM rfl).2
   clear hdep;have cc:w'.cell? ⟨w.heap.size,0,UJ⟩=UI (UD aD nD cD):=by rw[Aa (a:=⟨w.heap.size,0,UJ⟩) (w:=wb) (hx.ax.below.block _ HWB.o.p1),AA HWB.o.p2 0];rfl
   have hK':=hK w' (UD aD nD cD) AM (hx.step (λ_ _ _ b h=>h.below b) 2 AL _ Cs C7) (by rw[AS AL];exact Cs);clear hK;rw[AR AO];go_simp;simpa[Cr,d1] using hK'
  ·have f0:E3 (w.heap.size+2) 2 w' (t 0):=by simpa using(hdep ⟨0,UR⟩ AM rfl).2
   have d2:t 2=UD aD nD cD:=by simpa using(hdep ⟨2,UR⟩ AM rfl).2
   clear hdep;have hsz:w.heap.size+2<=w'.heap.size:=AG hx.lt
   have bw:Below w.heap.size w w':=HBW.o.trans (hx.ax.below.mono HWB.o.p3);have hK':∀ ww v,Iow (w.heap.size+2) ww v D->Below w'.heap.size w' ww->K _ ww:=λww v hv hb=>hK ww v (by simpa using hv) (hx.step (λ_ _ _ b h=>h.below b) 3 AL _ hb C7) (by rw[AS AL];exact hb)
   clear hK;rw[AR AO];refine E4 28 2 (UE UO 0) 1 8 Tryz.infoI64 Tryz.underlying28 rfl AL AL w' (.tmp 3) (.tmp 5) rfl (w.heap.size+2) (t 0) rfl f0 aD nD cD D d2 (by rw[HLN.o.1,B8]) (HAD.o.below bw) mD hsz ?_;intro v' ww h1 h2;have hK2:=hK' ww v' (by unfold Iow;rw[HLN.o.1];exact h1) h2;clear hK' h1 h2;simpa[Cr,Act.put] using hK2
  ·clear hdep;have hsz:w.heap.size+2<=w'.heap.size:=AG hx.lt
   have bb:Below w'.heap.size w' (w'.alloc (UP #[] 2)):=Cs.alloc Cw _;have hK':=hK (w'.alloc (UP #[] 2)) (UD (UI ⟨w'.heap.size,0,UJ⟩) 0 0) (by simpa using E3.new 2 w' hsz) (hx.step (λ_ _ _ b h=>h.below b) 4 AL _ bb C7) (by rw[AS AL];exact bb);clear hK bb;rw[AR AO];go_simp;simpa[Cr] using hK'
  ·clear hdep;have hK':=hK w' (UM (UI ⟨w.heap.size,1,UJ⟩)) AM (hx.step (λ_ _ _ b h=>h.below b) 5 AL _ Cs C7) (by rw[AS AL];exact Cs);clear hK;rw[AR AO];go_simp;simpa[Cr] using hK'
  ·have d5:t 5=UM (UI ⟨w.heap.size,1,UJ⟩):=by simpa using(hdep ⟨5,UR⟩ AM rfl).2
   clear hdep;have cc:w'.cell? ⟨w.heap.size,1,UJ⟩=UI (UD aU nU cU):=by rw[Aa (a:=⟨w.heap.size,1,UJ⟩) (w:=wb) (hx.ax.below.block _ HWB.o.p1),AA HWB.o.p2 1];rfl
   have hK':=hK w' (UD aU nU cU) AM (hx.step (λ_ _ _ b h=>h.below b) 6 AL _ Cs C7) (by rw[AS AL];exact Cs);clear hK;rw[AR AO];go_simp;simpa[Cr,d5] using hK'
  ·have f4:E3 (w.heap.size+2) 2 w' (t 4):=by simpa using(hdep ⟨4,UR⟩ AM rfl).2
   have d6:t 6=UD aU nU cU:=by simpa using(hdep ⟨6,UR⟩ AM rfl).2
   clear hdep;have hsz:w.heap.size+2<=w'.heap.size:=AG hx.lt
   have bw:Below w.heap.size w w':=HBW.o.trans (hx.ax.below.mono HWB.o.p3);have hK':∀ ww v,Iow (w.heap.size+2) ww v U->Below w'.heap.size w' ww->K _ ww:=λww v hv hb=>hK ww v (by simpa using hv) (hx.step (λ_ _ _ b h=>h.below b) 7 AL _ hb C7) (by rw[AS AL];exact hb)
   clear hK;rw[AR AO];refine E4 28 2 (UE UO 0) 1 8 Tryz.infoI64 Tryz.underlying28 rfl AL AL w' (.tmp 7) (.tmp 9) rfl (w.heap.size+2) (t 4) rfl f4 aU nU cU U d6 (by rw[HLN.o.2.1,B8]) (HAU.o.below bw) mU hsz ?_;intro v' ww h1 h2;have hK2:=hK' ww v' (by unfold Iow;rw[HLN.o.2.1];exact h1) h2;clear hK' h1 h2;simpa[Cr,Act.put] using hK2
  ·clear hdep;have hK':=hK w' (UM (UI ⟨w.heap.size,2,UJ⟩)) AM (hx.step (λ_ _ _ b h=>h.below b) 8 AL _ Cs C7) (by rw[AS AL];exact Cs);clear hK;rw[AR AO];go_simp;simpa[Cr] using hK'
  ·have d8:t 8=UM (UI ⟨w.heap.size,2,UJ⟩):=by simpa using(hdep ⟨8,UR⟩ AM rfl).2
   clear hdep;have cc:w'.cell? ⟨w.heap.size,2,UJ⟩=UI (UE UO k):=by rw[Aa (a:=⟨w.heap.size,2,UJ⟩) (w:=wb) (hx.ax.below.block _ HWB.o.p1),AA HWB.o.p2 2];rfl
   have hK':=hK w' (UE UO k) AM (hx.step (λ_ _ _ b h=>h.below b) 9 AL _ Cs C7) (by rw[AS AL];exact Cs);clear hK;rw[AR AO];go_simp;simpa[Cr,d8] using hK'
  ·clear hdep;have hsz:w.heap.size+2<=w'.heap.size:=AG hx.lt
   have bb:Below w'.heap.size w' (w'.alloc (UP #[] 133)):=Cs.alloc Cw _;have hK':=hK (w'.alloc (UP #[] 133)) (UD (UI ⟨w'.heap.size,0,UJ⟩) 0 0) (by simpa using E3.new 133 w' hsz) (hx.step (λ_ _ _ b h=>h.below b) 10 AL _ bb C7) (by rw[AS AL];exact bb);clear hK bb;rw[AR AO];go_simp;simpa[Cr] using hK'
  ·clear hdep;have hK':=hK w' (UM (UI ⟨w.heap.size,3,UJ⟩)) AM (hx.step (λ_ _ _ b h=>h.below b) 11 AL _ Cs C7) (by rw[AS AL];exact Cs);clear hK;rw[AR AO];go_simp;simpa[Cr] using hK'
  ·have d11:t 11=UM (UI ⟨w.heap.size,3,UJ⟩):=by simpa using(hdep ⟨11,UR⟩ AM rfl).2
   clear hdep;have cc:w'.cell? ⟨w.heap.size,3,UJ⟩=UI (UD aT nT cT):=by rw[Aa (a:=⟨w.heap.size,3,UJ⟩) (w:=wb) (hx.ax.below.block _ HWB.o.p1),AA HWB.o.p2 3];rfl
   have hK':=hK w' (UD aT nT cT) AM (hx.step (λ_ _ _ b h=>h.below b) 12 AL _ Cs C7) (by rw[AS AL];exact Cs);clear hK;rw[AR AO];go_simp;simpa[Cr,d11] using hK'
  ·have f10:E3 (w.heap.size+2) 133 w' (t 10):=by simpa using(hdep ⟨10,UR⟩ AM rfl).2
   have d12:t 12=UD aT nT cT:=by simpa using(hdep ⟨12,UR⟩ AM rfl).2
   clear hdep;have hsz:w.heap.size+2<=w'.heap.size:=AG hx.lt
   have bw:Below w.heap.size w w':=HBW.o.trans (hx.ax.below.mono HWB.o.p3);have hK':∀ ww v,DN (w.heap.size+2) ww v T nT->Below w'.heap.size w' ww->K _ ww:=λww v hv hb=>hK ww v (by simpa using hv) (hx.step (λ_ _ _ b h=>h.below b) 13 AL _ hb C7) (by rw[AS AL];exact hb)
   clear hK;rw[AR AO];refine E4 32 133 (UN #[UE UO 0,UE UO 0]) 2 16 Tryz.infoTap Tryz.underlying32 rfl AL AL w' (.tmp 13) (.tmp 15) rfl (w.heap.size+2) (t 10) rfl f10 aT nT cT T d12 HLN.o.2.2 (HAT.o.below bw) mT hsz ?_;intro v' ww h1 h2;have hK2:=hK' ww v' h1 h2;clear hK' h1 h2;simpa[Cr,Act.put] using hK2
  ·have f3:Iow (w.heap.size+2) w' (t 3) D:=by simpa using(hdep ⟨3,UR⟩ AM rfl).2
   have f7:Iow (w.heap.size+2) w' (t 7) U:=by simpa using(hdep ⟨7,UR⟩ AM rfl).2
   have d9:t 9=UE UO k:=by simpa using(hdep ⟨9,UR⟩ AM rfl).2
   have f13:DN (w.heap.size+2) w' (t 13) T nT:=by simpa using(hdep ⟨13,UR⟩ AM rfl).2
   clear hdep;obtain⟨aD',nD',cD',d3⟩:=f3.form;obtain⟨aU',nU',cU',d7⟩:=f7.form;obtain⟨aT',cT',d13⟩:=f13.tapV.slice;rw[d3] at f3;rw[d7] at f7;rw[d13] at f13;have hK':=hK w' (UN #[UD aD' nD' cD',UD aU' nU' cU',UE UO k,UD aT' nT cT']) (by simpa using⟨_,rfl,aD',nD',cD',aU',nU',cU',aT',cT',rfl,f3,f7,f13⟩) (hx.step (λ_ _ _ b h=>h.below b) 14 AL _ Cs C7) (by rw[AS AL];exact Cs);clear hK f3 f7 f13;rw[AR AO];go_simp;simpa[Cr,d3,d7,d9,d13] using hK'
  ·have f14:IT (w.heap.size+2) k D U T nT w' (t 14):=by simpa using(hdep ⟨14,UR⟩ AM rfl).2
   clear hdep;obtain⟨cs,e9,aD',nD',cD',aU',nU',cU',aT',cT',rfl,f3,f7,f13⟩:=f14;have hrs:=hx.pre hLi;have hK':∀ ww,Wr (w.heap.size+1) w' ww->ww.heap[w.heap.size+1]?=UI (UP #[UD aD' nD' cD',UD aU' nU' cU',UE UO k,UD aT' nT cT'] 34 (0,0))->K _ ww:=λww hw hr=>hK ww undef (by simp[Ct]) (hx.put HWB.o.p4 AL _ hw hr ⟨aD',nD',cD',aU',nU',cU',aT',cT',rfl,f3.wr hw AK,f7.wr hw AK,f13.wrk hw AK⟩) (by rw[AR rfl];exact hw)
   clear hK f3 f7 f13;rw[AR AO];refine A8 34 (.tmp 2) (.tmp 17) rfl (w.heap.size+1) _ rfl e9 34 _ hrs HSZ.o rfl (by simp[Value.oneCell']) ?_;have hK2:=hK' _ (Wr.setRow _ _ _) (AB hrs);clear hK';simpa[Cr,Act.put] using hK2
 case hdone=>
  intro L t w' hx hg;have l15:L 15=true:=by simpa using hg 15 AL
  clear hg;obtain⟨cs,hr,hfin⟩:=hx.fin l15;have HR9:AP (w'.heap[w.heap.size+1]?=UI (UP cs 34 (0,0))):=hr;have HF:AP (FB w.heap.size k D U T nT w' cs/\Below w.heap.size w w'):=⟨hfin.mono AK,HBW.o.trans (hx.ax.below.mono HWB.o.p3)⟩
  have HS4:AP ((Tryz.prog.info? 34).map (·.size)=UI cs.size):=by
   obtain⟨aD',nD',cD',aU',nU',cU',aT',cT',e,_⟩:=hfin;rw[e];exact HSZ.o
  clear hx hr hfin;go_wp2_with fail;exact AZ (v:=UN cs) (AW rfl _ _ (w.heap.size+1) 34 _ (0,0) _ rfl HR9.o Tryz.underlying34 rfl HS4.o) rfl ⟨cs,rfl,HF.o.1,HF.o.2⟩
end Go.Proofs.YthmeoilbmfdhfaaGreat
