import Derived.Test.YtjdhhgaelgemcaaGreatDoorMOwnB
open Go.Proofs.Tryz renaming prog->tP
open Go.Proofs.Tryz
open Go.Value renaming slice->Z7,int->Z8,pointer->aF,bool->aG,agg->aH
open Go.IntKind renaming i64->aI,u8->Z9
open Go.Obj renaming cells->aJ
open Go.Ending renaming returned->aK
open Option renaming some->aE,none->aA
open Go renaming World->aC
set_option maxHeartbeats 4000000
set_option maxRecDepth 100000
namespace Go.Proofs.YtjdhhgaelgemcaaGreatDoor
open Go.ChangeShapes Go.WideShapes Go.ChangeAt Go.RowKit
set_option linter.unusedVariables false
def NP (w:aC) (g o:Nat) (bs:List Int):Prop:=bs.length=32/\Ci bs/\∀ i,i<32->w.cell? ⟨g,o+i,aA⟩=aE (Z8 Z9 (bs.getD i 0))/\w.frozen? ⟨g,o+i,aA⟩=false
def Dg (bs:List Int) (P:Nat->Prop):Prop:=bs.length=32/\Ci bs/\∀ v,v<256->(bs.getD (v/8) 0/2^(v%8)%2=1↔P v)
theorem OV (x j:Nat):x/2^j%2=1↔x.testBit j=true:=by rw[Nat.testBit_eq_decide_div_mod_eq];simp
theorem KL (x:Int) (k:Nat) (hx:0<=x) (hx':x<256) (hk:k<8):0<=bits .or Z9 x (2^k)/\bits .or Z9 x (2^k)<256/\∀ j,j<8->(bits .or Z9 x (2^k)/2^j%2=1↔(x/2^j%2=1\/j=k)):=by
 obtain⟨x,rfl⟩:=Aj hx;have h2:(2:Nat)^k<256:=by
  have:2^k<=2^7:=Nat.pow_le_pow_right AK AJ;omega
 have e:bits .or Z9 (x:Int) (2^k)=((x ||| 2^k:Nat):Int):=by
  rw[show((2:Int)^k)=((2^k:Nat):Int) by simp];exact u8_or_nat x (2^k) AJ h2
 rw[e];have hlt:x ||| 2^k<2^8:=Nat.or_lt_two_pow AJ AJ;refine⟨AJ,AJ,λj hj=>?_⟩;have q:∀ y:Nat,((y:Int)/2^j%2=1↔y.testBit j=true):=λy=>by
  rw[<-OV];rw[show((2:Int)^j)=((2^j:Nat):Int) by simp,<-Int.natCast_ediv];omega
 rw[q,q,Nat.testBit_or,Nat.testBit_two_pow];simp only[Bool.or_eq_true,decide_eq_true_eq];constructor
 ·rintro (h|h)
  ·exact .inl h
  ·exact .inr h.symm
 ·rintro (h|h)
  ·exact .inl h
  ·exact .inr h.symm
theorem Tw:∀ k,k<8->∀ j,j<8->(255-2^k).testBit j=decide (j≠k):=AK
theorem JT (x:Int) (k:Nat) (hx:0<=x) (hx':x<256) (hk:k<8):0<=bits .andNot Z9 x (2^k)/\bits .andNot Z9 x (2^k)<256/\∀ j,j<8->(bits .andNot Z9 x (2^k)/2^j%2=1↔(x/2^j%2=1/\j≠k)):=by
 obtain⟨x,rfl⟩:=Aj hx;have h2:(2:Nat)^k<256:=by
  have:2^k<=2^7:=Nat.pow_le_pow_right AK AJ;omega
 have e:bits .andNot Z9 (x:Int) (2^k)=((x &&& (255-2^k):Nat):Int):=by
  rw[show((2:Int)^k)=((2^k:Nat):Int) by simp];exact u8_andNot_nat x (2^k) AJ h2
 rw[e];have hlt:x &&& (255-2^k)<2^8:=Nat.and_lt_two_pow _ (Nat.lt_of_le_of_lt (Nat.sub_le _ _) AK);refine⟨AJ,AJ,λj hj=>?_⟩;have q:∀ y:Nat,((y:Int)/2^j%2=1↔y.testBit j=true):=λy=>by
  rw[<-OV];rw[show((2:Int)^j)=((2^j:Nat):Int) by simp,<-Int.natCast_ediv];omega
 rw[q,q,Nat.testBit_and,Tw k hk j hj];simp
theorem ES (bs:List Int) (q i:Nat) (x:Int) (hq:q<bs.length):(bs.set q x).getD i 0=if i=q then x else bs.getD i 0:=by
 rw[AS,List.getElem?_set];by_cases h:q=i
 ·subst h;simp[hq]
 ·rw[AQ h,AQ (BA h),AS]
def Ds (bs:List Int) (v:Nat):List Int:=bs.set (v/8) (bits .or Z9 (bs.getD (v/8) 0) (2^(v%8)))
def FD (bs:List Int) (v:Nat):List Int:=bs.set (v/8) (bits .andNot Z9 (bs.getD (v/8) 0) (2^(v%8)))
theorem II {bs:List Int} (h:Ci bs) (q:Nat) (x:Int) (h0:0<=x) (h1:x<256):Ci (bs.set q x):=λz hz=>by
 rcases List.mem_or_eq_of_mem_set hz with h'|h'
 ·exact h z h'
 ·rw[h'];exact⟨h0,h1⟩
theorem Dg.add {bs:List Int} {P:Nat->Prop} (h:Dg bs P) (v:Nat) (hv:v<256):Dg (Ds bs v) (λu=>P u\/u=v):=by
 obtain⟨h1,h2,h3⟩:=h;have hx:=h2.get (v/8);obtain⟨a,b,c⟩:=KL _ (v%8) hx.1 hx.2 AJ;refine⟨by unfold Ds;rw[List.length_set];exact h1,II h2 _ _ a b,λu hu=>?_⟩;unfold Ds;rw[ES _ _ _ _ AJ];by_cases hq:u/8=v/8
 ·rw[AP hq,c (u%8) AJ,<-hq,h3 u hu];constructor
  ·rintro (h|h)
   ·exact .inl h
   ·exact .inr AJ
  ·rintro (h|h)
   ·exact .inl h
   ·exact .inr AJ
 ·rw[AQ hq,h3 u hu];constructor
  ·exact .inl
  ·rintro (h|h)
   ·exact h
   ·omega
theorem Dg.rem {bs:List Int} {P:Nat->Prop} (h:Dg bs P) (v:Nat) (hv:v<256):Dg (FD bs v) (λu=>P u/\u≠v):=by
 obtain⟨h1,h2,h3⟩:=h;have hx:=h2.get (v/8);obtain⟨a,b,c⟩:=JT _ (v%8) hx.1 hx.2 AJ;refine⟨by unfold FD;rw[List.length_set];exact h1,II h2 _ _ a b,λu hu=>?_⟩;unfold FD;rw[ES _ _ _ _ AJ];by_cases hq:u/8=v/8
 ·rw[AP hq,c (u%8) AJ,<-hq,h3 u hu];constructor
  ·rintro⟨h,h'⟩;exact⟨h,AJ⟩
  ·rintro⟨h,h'⟩;exact⟨h,AJ⟩
 ·rw[AQ hq,h3 u hu];constructor
  ·intro h;exact⟨h,AJ⟩
  ·exact λh=>h.1
def FY (v:Int):Bool:=decide (0<=v/\v<256)
def Is (v:Int):Bool:=decide (0<=v/\v<=4294967295)
theorem DJ (v:Int) (w:aC):Calls tP 59 #[Z8 aI v] w λe w'=>e=aK (aG (FY v))/\w'=w:=by
 by_cases h0:0<=v
 ·by_cases h1:v<256
  ·have HD:AO (FY v=true):=Al ⟨h0,h1⟩;go_enter func59,ntmps59;go_wp2
   go_ret
   exact⟨by rw[HD.o];rfl,rfl⟩
  ·have HD:AO (FY v=false):=Af (λh=>h1 h.2);go_enter func59,ntmps59;go_wp2
   go_ret
   exact⟨by rw[HD.o];rfl,rfl⟩
 ·have HD:AO (FY v=false):=Af (λh=>h0 h.1);go_enter func59,ntmps59;go_wp2
  go_ret
  exact⟨by rw[HD.o];rfl,rfl⟩
theorem KM (v:Int) (w:aC):Calls tP 62 #[Z8 aI v] w λe w'=>e=aK (aG (Is v))/\w'=w:=by
 by_cases h0:0<=v
 ·by_cases h1:v<=4294967295
  ·have HD:AO (Is v=true):=Al ⟨h0,h1⟩;go_enter func62,ntmps62;go_wp2
   go_ret
   exact⟨by rw[HD.o];rfl,rfl⟩
  ·have HD:AO (Is v=false):=Af (λh=>h1 h.2);go_enter func62,ntmps62;go_wp2
   go_ret
   exact⟨by rw[HD.o];rfl,rfl⟩
 ·have HD:AO (Is v=false):=Af (λh=>h0 h.1);go_enter func62,ntmps62;go_wp2
  go_ret
  exact⟨by rw[HD.o];rfl,rfl⟩
theorem OW (v:Nat):(2:Int)^(v%8)%256=2^(v%8):=by
 have:v%8=0\/v%8=1\/v%8=2\/v%8=3\/v%8=4\/v%8=5\/v%8=6\/v%8=7:=AJ
 rcases this with h|h|h|h|h|h|h|h<;>rw[h]<;>decide
theorem JU (g o v:Nat) (bs:List Int) (w:aC) (hv:v<256) (hb:NP w g o bs) :
  Calls tP 60 #[aF (aE ⟨g,o,aA⟩),Z8 aI v] w λe w'=>e=aK (.tuple #[])/\∃ q,w'=(w.setCell ⟨g,o+v/8,aA⟩ (Z8 Z9 ((Ds bs v).getD (v/8) 0))).drewN q:=by
 obtain⟨h1,h2,h3⟩:=hb;obtain⟨c0,f0⟩:=h3 (v/8) AJ;obtain⟨x0,x1⟩:=h2.get (v/8);have HX:AO ((Ds bs v).getD (v/8) 0=bits .or Z9 (bs.getD (v/8) 0) (2^(v%8))):=by
  show _=_
  unfold Ds;rw[ES _ _ _ _ AJ,AP rfl]
 have HM:AO ((2:Int)^(v%8)%256=2^(v%8)):=OW v;have hv':(v:Int)<256:=AJ
 have hv8:(v:Int)/8<32:=AJ
 clear h1 h2 h3;generalize bs.getD (v/8) 0=x at *;go_enter func60,ntmps60
 go_region
 rw[HM.o,<-HX.o]
 go_end0
 exact⟨rfl,1,rfl⟩
theorem Lr (g o v:Nat) (bs:List Int) (w:aC) (hv:v<256) (hb:NP w g o bs) :
  Calls tP 63 #[aF (aE ⟨g,o,aA⟩),Z8 aI v] w λe w'=>e=aK (.tuple #[])/\∃ q,w'=(w.setCell ⟨g,o+v/8,aA⟩ (Z8 Z9 ((FD bs v).getD (v/8) 0))).drewN q:=by
 obtain⟨h1,h2,h3⟩:=hb;obtain⟨c0,f0⟩:=h3 (v/8) AJ;obtain⟨x0,x1⟩:=h2.get (v/8);have HX:AO ((FD bs v).getD (v/8) 0=bits .andNot Z9 (bs.getD (v/8) 0) (2^(v%8))):=by
  show _=_
  unfold FD;rw[ES _ _ _ _ AJ,AP rfl]
 have HM:AO ((2:Int)^(v%8)%256=2^(v%8)):=OW v;have hv':(v:Int)<256:=AJ
 have hv8:(v:Int)/8<32:=AJ
 clear h1 h2 h3;generalize bs.getD (v/8) 0=x at *;go_enter func63,ntmps63
 go_region
 rw[HM.o,<-HX.o]
 go_end0
 exact⟨rfl,1,rfl⟩
theorem Fu (g o:Nat) (v:Int) (bs:List Int) (P:Nat->Prop) (q:Bool) (w:aC) (hb:NP w g o bs) (hs:Dg bs P) (hq:q=true↔(0<=v/\v<256/\P v.toNat)) :
  Calls tP 61 #[aF (aE ⟨g,o,aA⟩),Z8 aI v] w λe w'=>e=aK (aG q)/\w'=w:=by
 by_cases hv:0<=v/\v<256
 ·obtain⟨h0,h1⟩:=hv;obtain⟨v,rfl⟩:=Aj h0;obtain⟨l1,l2,l3⟩:=hb;obtain⟨c0,f0⟩:=l3 (v/8) AJ;obtain⟨x0,x1⟩:=l2.get (v/8);have hbit:=hs.2.2 v AJ;have HSO:AO (FY (v:Int)=true):=Al ⟨h0,h1⟩;have hpp:(0:Int)<2^(v%8):=Int.pow_pos AK;have y0:0<=bs.getD (v/8) 0/2^(v%8):=Int.ediv_nonneg x0 AJ;have y1:bs.getD (v/8) 0/2^(v%8)<=bs.getD (v/8) 0:=Int.ediv_le_self _ x0;have HA:AO (bits .and Z9 (bs.getD (v/8) 0/2^(v%8)) 1=bs.getD (v/8) 0/2^(v%8)%2):=by
   show _=_
   obtain⟨y,hy⟩:=Aj y0;rw[hy];have:=u8_and_nat y 1 AJ AK;rw[show((1:Int))=((1:Nat):Int) from rfl,this,Nat.and_one_is_mod];omega
  have HQ:AO ((bs.getD (v/8) 0/2^(v%8)%2 == 1)=q):=by
   show _=_
   have h2:bs.getD (v/8) 0/2^(v%8)%2=0\/bs.getD (v/8) 0/2^(v%8)%2=1:=AJ
   rcases h2 with h2|h2
   ·rw[h2];cases q with
    |false=>rfl
    |true=>
     have:=hq.1 rfl;have:=hbit.2 (by simpa using this.2.2);omega
   ·rw[h2];cases q with
    |true=>rfl
    |false=>
     have:=hq.2 ⟨h0,h1,by simpa using hbit.1 h2⟩;cases this
  have hv8:(v:Int)/8<32:=AJ
  clear l1 l2 l3 hbit hs hq hpp;generalize bs.getD (v/8) 0=x at *;go_enter func61,ntmps61;go_wp2_with fail;refine(DJ _ _).mono ?_;rintro e w1 ⟨rfl,rfl⟩;rw[HSO.o];go_wp2;rw[HA.o,HQ.o]
  go_ret
  exact⟨rfl,rfl⟩
 ·have HSO:AO (FY v=false):=Af hv;have HQ:AO (q=false):=by
   show _=_
   cases q with
   |false=>rfl
   |true=>exact absurd ⟨(hq.1 rfl).1,(hq.1 rfl).2.1⟩ hv
  clear hv hq hb hs;go_enter func61,ntmps61;go_wp2_with fail;refine(DJ _ _).mono ?_;rintro e w1 ⟨rfl,rfl⟩;rw[HSO.o];go_wp2
  go_ret
  exact⟨by rw[HQ.o];rfl,rfl⟩
def XW (xs:List Int) (i:Nat):Prop:=0<=xs.getD i 0/\xs.getD i 0<256/\(0<i->xs.getD (i-1) 0<xs.getD i 0)
def Dk (xs:List Int):Prop:=∀ i,i<xs.length->XW xs i
open Classical in
noncomputable def Hl (xs:List Int):Bool:=decide (Dk xs)
theorem IJ (xs:List Int):Hl xs=true↔Dk xs:=by unfold Hl;simp
theorem IK {xs:List Int} (h:¬ Dk xs):Hl xs=false:=by unfold Hl;simp[h]
theorem Fv {xs:List Int} (h:Dk xs):Hl xs=true:=by unfold Hl;simp[h]
theorem Hu {fn:Func} {p u:Tmp} (h:fn.results=#[.cell p 65,.tmp u]) (tmps:Array Value) (w:aC) (g:Nat) (cs:Array Value) (v:Value) (hv:tmps.getD u undef=v)
  (hp:tmps.getD p undef=aF (aE ⟨g,0,aA⟩)) (hr:w.heap[g]?=aE (aJ cs 65 (0,0))) (hs:(tP.info? 65).map (·.size)=aE cs.size) :
  (results fn tmps).run tP w=.ok (.tuple #[aH cs,v]) w:=by
 have hp':tmps[p]?.getD undef=aF (aE ⟨g,0,aA⟩):=by simpa using hp
 have hv':tmps[u]?.getD undef=v:=by simpa using hv
 have hl:=run_loadVar_row (P:=tP) w g 65 65 cs (0,0) _ hr underlying65 rfl hs;simp[results,h,hp',hv',asAddr,hl]
def Ls:List Int:=[0,0,0,0,0,0,0,0,0,0,0,0,0,0,0,0,0,0,0,0,0,0,0,0,0,0,0,0,0,0,0,0]
theorem K1:Dg Ls (λ_=>False):=by
 refine⟨rfl,by unfold Ci Ls;decide,λv hv=>⟨λh=>?_,λh=>h.elim⟩⟩;have e:Ls.getD (v/8) 0=0:=by
  have:v/8<32:=AJ
  generalize v/8=q at *;have hq:∀ q,q<32->Ls.getD q 0=0:=AK
  exact hq q this
 rw[e] at h;simp at h
theorem Dg.congr {bs:List Int} {P Q:Nat->Prop} (h:Dg bs P) (hq:∀ v,v<256->(P v↔Q v)):Dg bs Q:=⟨h.1,h.2.1,λv hv=>(h.2.2 v hv).trans (hq v hv)⟩
theorem EF.bat {w:aC} {g:Nat} {t:TypeId} {bs:List Int} (h:EF w g t bs) (hl:bs.length=32) (hb:Ci bs):NP w g 0 bs:=⟨hl,hb,λi hi=>by rw[Aq];exact⟨h.cell i AJ,h.frozen i⟩⟩
theorem Tryz.sizeSS:(tP.info? 65).map (·.size)=aE 32:=AM
structure Yk (w:aC) (xs:List Int) (k:Nat) (wr:aC):Prop where
 below:Below w.heap.size w wr
 res:EF wr w.heap.size 65 Ls
 set:∃ bs,EF wr (w.heap.size+1) 65 bs/\Dg bs (λv=>(v:Int)∈xs.take k)
 ok:∀ i,i<k->XW xs i
def Fm (xs:List Int) (k:Nat):Int:=if k=0 then -1 else xs.getD (k-1) 0
def Zj (w:aC) (xs:List Int) (e:Ending) (w':aC):Prop:=
 ∃ bs,e=aK (.tuple #[aH (bs.map (Value.int Z9)).toArray,aG (Hl xs)])/\bs.length=32/\Ci bs/\(Dk xs->Dg bs (λv=>(v:Int)∈xs))/\Below w.heap.size w w'
theorem KN (a:Option Addr) (n cap:Nat) (xs:List Int) (w:aC) (hn:xs.length=n) (hm:n<=1048576) (ha:At aI w a xs) :
  Calls tP 45 #[Z7 a n cap] w (Zj w xs):=by
 have HS:AO (Yk w xs 0 ((w.alloc (aJ Ca 65)).alloc (aJ Ca 65))):=by
  have bb:Below w.heap.size w ((w.alloc (aJ Ca 65)).alloc (aJ Ca 65)):=(Cg.alloc Cl _).alloc AL _;refine⟨bb,?_,⟨Ls,?_,K1.congr (λv _=>AL)⟩,λi hi=>AJ⟩
  ·show _=_
   rw[A5 _ _ w.heap.size AL];exact AX w _
  ·show _=_
   have:=AX (w.alloc (aJ Ca 65)) (aJ Ca 65)
   rwa [show(w.alloc (aJ Ca 65)).heap.size=w.heap.size+1 by simp] at this
 have HA:AO (At aI w a xs):=ha;have HNX:AO (xs.length=n):=hn;clear ha hn;go_enter func45,ntmps45;go_wp2_with fail;generalize ((w.alloc (aJ Ca 65)).alloc (aJ Ca 65))=w0 at *
 go_loopw [5,10] (λl i wr=>∃ k:Nat,k<=n/\i=Z8 aI k/\l=Z8 aI (Fm xs k)/\Yk w xs k wr) (λ_ i _=>n-(intOf i).toNat)
 case atStart=>exact⟨0,Au _,rfl,rfl,HS.o⟩
 case round=>
  clear HS;obtain⟨k,hk,rfl,rfl,hst⟩:=hrel;by_cases hlt:k<n
  ·have hlt':(k:Int)<n:=AJ
   obtain⟨b,off,ea,hb,hc⟩:=(HA.o.below hst.below).get (AG HNX.o);have hck:=hc k (AG HNX.o);have HST:AO (Yk w xs k wr):=hst;have HEA:AO (a=aE ⟨b,off,aA⟩):=ea;subst ea;clear hst hc hb;by_cases hle:xs.getD k 0<=Fm xs k
   ·have HNO:AO (¬ Dk xs):=λh=>by
     have q:=h k (AG HNX.o);unfold Fm at hle;by_cases h0:k=0
     ·rw[AP h0] at hle;have:=q.1;omega
     ·rw[AQ h0] at hle;have:=q.2.2 AJ;omega
    have HR:AO (wr.heap[w.heap.size]?=aE (aJ (Ls.map (Value.int Z9)).toArray 65 (0,0))):=HST.o.res;generalize xs.getD k 0=v at *;generalize Fm xs k=l at *;go_wp2_with (first
     |(refine AE 65 (.tmp 2) (.tmp 22) w.heap.size ((Ls.map (Value.int Z9)).toArray) 65 HR.o Tryz.sizeSS rfl (all_oneCell_toArray (Aw _ _)) ?_)
     |fail)
    refine Ab (v:=.tuple #[aH (Ls.map (Value.int Z9)).toArray,aG false]) (Hu rfl _ _ w.heap.size _ _ rfl rfl (AB HR.o) Tryz.sizeSS) rfl ?_;exact⟨Ls,by rw[IK HNO.o],rfl,K1.2.1,λh=>absurd h HNO.o,HST.o.below.trans ((Wr.setRow _ _ _).below Cl)⟩
   ·by_cases hso:0<=xs.getD k 0/\xs.getD k 0<256
    ·obtain⟨v,hv⟩:=Aj hso.1;have hv256:v<256:=AJ
     have HSO:AO (FY (v:Int)=true):=Al ⟨AJ,AJ⟩;obtain⟨bs,hrow,hset⟩:=HST.o.set;have HBT:AO (NP wr (w.heap.size+1) 0 bs):=hrow.bat hset.1 hset.2.1;have HN:∀ q,AO (Yk w xs (k+1) ((wr.setCell ⟨w.heap.size+1,0+v/8,aA⟩ (Z8 Z9 ((Ds bs v).getD (v/8) 0))).drewN q)):=λq=>by
      have hr2:=hrow.set (v/8) ((Ds bs v).getD (v/8) 0);have e2:bs.set (v/8) ((Ds bs v).getD (v/8) 0)=Ds bs v:=by
       unfold Ds;rw[ES _ _ _ _ (AG hset.1),AP rfl]
      rw[e2] at hr2;have hw:Wr (w.heap.size+1) wr (wr.setCell ⟨w.heap.size+1,v/8,aA⟩ (Z8 Z9 ((Ds bs v).getD (v/8) 0))):=(Wr.refl _ _).setCell _ _;rw[Aq];refine⟨?_,?_,⟨Ds bs v,hr2,(hset.add v hv256).congr (λu hu=>?_)⟩,λi hi=>?_⟩
      ·have bq:=HST.o.below.trans (hw.below AJ);exact⟨bq.os,bq.tape,bq.output,bq.size,bq.block⟩
      ·have:=HST.o.res;show _=_
       exact(hw.block _ AJ).trans this
      ·rw[Gz xs k (AG HNX.o),CI,hv];simp only[List.mem_cons,List.not_mem_nil,or_false];constructor
       ·rintro (h|h)
        ·exact .inl h
        ·exact .inr AJ
       ·rintro (h|h)
        ·exact .inl h
        ·exact .inr AJ
      ·by_cases hik:i<k
       ·exact HST.o.ok i hik
       ·have:i=k:=AJ
        subst this;refine⟨hso.1,hso.2,λh0=>?_⟩;unfold Fm at hle;rw[AQ AJ] at hle;omega
     have HL:AO (Fm xs (k+1)=(v:Int)):=by show _=_;unfold Fm;rw[AQ AJ,CF];exact hv
     rw[hv] at hck hle;clear hso hrow hset hv;generalize Fm xs k=l at *;go_wp2_with fail;refine(DJ _ _).mono ?_;rintro e w1 ⟨rfl,rfl⟩;rw[HSO.o];go_wp2_with fail;refine(JU (w.heap.size+1) 0 v bs _ hv256 HBT.o).mono ?_;rintro e w2 ⟨rfl,q,rfl⟩;have H2:=HN q;clear HN HBT HST;generalize (w1.setCell ⟨w.heap.size+1,0+v/8,aA⟩ (Z8 Z9 ((Ds bs v).getD (v/8) 0))).drewN q=w2 at *;go_wp2;go_roundw
     case rel=>exact⟨k+1,AJ,by go_num,by rw[HL.o],H2.o⟩
     case measure=>simp[intOf];omega
    ·have HSO:AO (FY (xs.getD k 0)=false):=Af hso;have HNO:AO (¬ Dk xs):=λh=>hso ⟨(h k (AG HNX.o)).1,(h k (AG HNX.o)).2.1⟩
     have HR:AO (wr.heap[w.heap.size]?=aE (aJ (Ls.map (Value.int Z9)).toArray 65 (0,0))):=HST.o.res;clear hso;generalize xs.getD k 0=v at *;generalize Fm xs k=l at *;go_wp2_with fail;refine(DJ _ _).mono ?_;rintro e w1 ⟨rfl,rfl⟩;rw[HSO.o];go_wp2_with (first
      |(refine AE 65 (.tmp 2) (.tmp 22) w.heap.size ((Ls.map (Value.int Z9)).toArray) 65 HR.o Tryz.sizeSS rfl (all_oneCell_toArray (Aw _ _)) ?_)
      |fail)
     refine Ab (v:=.tuple #[aH (Ls.map (Value.int Z9)).toArray,aG false]) (Hu rfl _ _ w.heap.size _ _ rfl rfl (AB HR.o) Tryz.sizeSS) rfl ?_;exact⟨Ls,by rw[IK HNO.o],rfl,K1.2.1,λh=>absurd h HNO.o,HST.o.below.trans ((Wr.setRow _ _ _).below Cl)⟩
  ·have hkn:k=n:=AJ
   have hlt':¬ ((k:Int)<n):=AJ
   obtain⟨bs,hrow,hset⟩:=hst.set;have HYE:AO (Dk xs):=λi hi=>hst.ok i (AG HNX.o)
   have HBS:AO (bs.length=32/\Ci bs/\Dg bs (λv=>(v:Int)∈xs)):=⟨hset.1,hset.2.1,hset.congr (λv _=>by rw[Ad (AG HNX.o)])⟩
   have HR:AO (wr.heap[w.heap.size]?=aE (aJ (Ls.map (Value.int Z9)).toArray 65 (0,0))):=hst.res;have HL:AO (wr.heap[w.heap.size+1]?=aE (aJ (bs.map (Value.int Z9)).toArray 65 (0,0))):=hrow;have HSZ:AO ((tP.info? 65).map (·.size)=aE ((bs.map (Value.int Z9)).toArray).size):=by show _=_;rw[Tryz.sizeSS];simp[hset.1]
   have HEQ:AO (((Ls.map (Value.int Z9)).toArray).size=((bs.map (Value.int Z9)).toArray).size):=by show _=_;simp[hset.1,Ls]
   have HBW:AO (Below w.heap.size w wr):=hst.below;clear hst hrow hset;generalize Fm xs k=l at *;go_wp2_with (first
    |(refine Ae rfl 65 (.tmp 4) rfl (w.heap.size+1) rfl 65 _ (0,0) _ HL.o underlying65 rfl HSZ.o ?_)
    |(refine AE 65 (.tmp 2) (.tmp 27) w.heap.size ((bs.map (Value.int Z9)).toArray) 65 HR.o HSZ.o HEQ.o (all_oneCell_toArray (Aw _ _)) ?_)
    |fail)
   refine Ab (v:=.tuple #[aH (bs.map (Value.int Z9)).toArray,aG true]) (Hu rfl _ _ w.heap.size _ _ rfl rfl (AB HR.o) HSZ.o) rfl ?_;exact⟨bs,by rw[Fv HYE.o],HBS.o.1,HBS.o.2.1,λ_=>HBS.o.2.2,HBW.o.trans ((Wr.setRow _ _ _).below Cl)⟩
def Pg (U T:List Int) (i:Nat):Prop:=T.getD (i*2) 0∈U/\(0<=T.getD (i*2+1) 0/\T.getD (i*2+1) 0<=4294967295)/\∀ j,j<i->T.getD (j*2) 0≠T.getD (i*2) 0
def Lt (U T:List Int) (n:Nat):Prop:=∀ i,i<n->Pg U T i
open Classical in
noncomputable def K2 (U T:List Int) (n:Nat):Bool:=decide (Lt U T n)
theorem K3 {U T:List Int} {n:Nat} (h:¬ Lt U T n):K2 U T n=false:=by unfold K2;simp[h]
theorem Lu {U T:List Int} {n:Nat} (h:Lt U T n):K2 U T n=true:=by unfold K2;simp[h]
theorem EF.low {w w':aC} {g:Nat} {t:TypeId} {bs:List Int} {B:Nat} (h:EF w g t bs) (b:Below B w w') (hg:g<B):EF w' g t bs:=by unfold EF;rw[b.block g hg];exact h
structure Yl (w:aC) (U T:List Int) (k:Nat) (wr:aC):Prop where
 below:Below w.heap.size w wr
 set:∃ bs,EF wr w.heap.size 65 bs/\Dg bs (λv=>(v:Int)∈U/\∀ j,j<k->T.getD (j*2) 0≠(v:Int))
 ok:∀ i,i<k->Pg U T i
open Classical in
theorem Lv (a:Option Addr) (n cap:Nat) (U T us:List Int) (w:aC) (hn:T.length=n*2) (hm:n<=1048576) (ha:At aI w a T) (hU:Dk U) (hs:Dg us (λv=>(v:Int)∈U)) :
  Calls tP 46 #[Z7 a n cap,aH (us.map (Value.int Z9)).toArray] w λe w'=>e=aK (aG (K2 U T n))/\Below w.heap.size w w':=by
 have HS:AO (Yl w U T 0 (w.alloc (aJ (us.map (Value.int Z9)).toArray 65))):=
  ⟨Cg.alloc Cl _,⟨us,AX w _,hs.congr (λv _=>⟨λh=>⟨h,λj hj=>AJ⟩,λh=>h.1⟩)⟩,λi hi=>AJ⟩
 have HA:AO (At aI w a T):=ha;have HNX:AO (T.length=n*2):=hn;have HUR:AO (∀ z∈U,0<=z/\z<256):=λz hz=>by
  obtain⟨i,hi,rfl⟩:=Br hz;have:=hU i hi;rw[show U[i]=U.getD i 0 by simp[List.getD,hi]];exact⟨this.1,this.2.1⟩
 clear ha hn hs hU;go_enter func46,ntmps46;go_wp2_with fail;generalize w.alloc (aJ (us.map (Value.int Z9)).toArray 65)=w0 at *
 go_loopw [9] (λi wr=>∃ k:Nat,k<=n/\i=Z8 aI k/\Yl w U T k wr) (λi _=>n-(intOf i).toNat)
 case atStart=>exact⟨0,Au _,rfl,HS.o⟩
 case round=>
  clear HS;obtain⟨k,hk,rfl,hst⟩:=hrel;by_cases hlt:k<n
  ·have hlt':(k:Int)<n:=AJ
   obtain⟨b,off,ea,hb,hc⟩:=(HA.o.below hst.below).get (AG HNX.o);have c0:=hc (k*2) (AG HNX.o);have c1:=hc (k*2+1) (AG HNX.o);rw[<-Ax] at c1;have HST:AO (Yl w U T k wr):=hst;subst ea;obtain⟨bs,hrow,hset⟩:=hst.set;have HTI:AO (Pg U T k↔(T.getD (k*2) 0∈U/\(0<=T.getD (k*2+1) 0/\T.getD (k*2+1) 0<=4294967295)/\∀ j,j<k->T.getD (j*2) 0≠T.getD (k*2) 0)):=Iff.rfl;generalize hs':T.getD (k*2) 0=s at *;generalize hn':T.getD (k*2+1) 0=nw at *;have b1:Below wr.heap.size wr (wr.alloc (aJ #[Z8 aI s,Z8 aI nw] 77)):=Cg.alloc Cl _;have hrow1:EF (wr.alloc (aJ #[Z8 aI s,Z8 aI nw] 77)) w.heap.size 65 bs:=hrow.low b1 hrow.lt;have HBT:AO (NP (wr.alloc (aJ #[Z8 aI s,Z8 aI nw] 77)) w.heap.size 0 bs):=hrow1.bat hset.1 hset.2.1;have HB1:AO (Below w.heap.size w (wr.alloc (aJ #[Z8 aI s,Z8 aI nw] 77))):=HST.o.below.trans (b1.mono HST.o.below.size);have HSB:AO (Dg bs (λv=>(v:Int)∈U/\∀ j,j<k->T.getD (j*2) 0≠(v:Int))):=hset;have HRW:AO (EF (wr.alloc (aJ #[Z8 aI s,Z8 aI nw] 77)) w.heap.size 65 bs):=hrow1;have HHQ:AO (decide (s∈U/\∀ j,j<k->T.getD (j*2) 0≠s)=true↔(0<=s/\s<256/\((s.toNat:Int)∈U/\∀ j,j<k->T.getD (j*2) 0≠(s.toNat:Int)))):=by
    show _↔_
    rw[decide_eq_true_eq];constructor
    ·rintro⟨h1,h2⟩;obtain⟨r0,r1⟩:=HUR.o s h1;have e:(s.toNat:Int)=s:=Bw r0;rw[e];exact⟨r0,r1,h1,h2⟩
    ·rintro⟨r0,r1,h⟩;have e:(s.toNat:Int)=s:=Bw r0
     rwa [e] at h
   clear hst hc hb hrow hset hrow1 b1;go_wp2_with fail;generalize hW:wr.alloc (aJ #[Z8 aI s,Z8 aI nw] 77)=w1 at *;have hc10:w1.cell? ⟨wr.heap.size,1,aA⟩=aE (Z8 aI nw):=by rw[<-hW];exact AA (AX wr _) _
   have hc00:w1.cell? ⟨wr.heap.size,0,aA⟩=aE (Z8 aI s):=by rw[<-hW];exact AA (AX wr _) _
   have hwl:w.heap.size<wr.heap.size:=by obtain⟨b',r',_⟩:=HST.o.set;exact r'.lt
   clear hW;refine(Fu w.heap.size 0 s bs _ (decide (s∈U/\∀ j,j<k->T.getD (j*2) 0≠s)) _ HBT.o HSB.o HHQ.o).mono ?_;rintro e w2 ⟨rfl,rfl⟩;by_cases hin:s∈U/\∀ j,j<k->T.getD (j*2) 0≠s
   ·rw[Al hin];have HIN:AO (s∈U/\∀ j,j<k->T.getD (j*2) 0≠s):=hin;clear hin HHQ;go_wp2_with fail;refine(KM _ _).mono ?_;rintro e w3 ⟨rfl,rfl⟩;by_cases hno:0<=nw/\nw<=4294967295
    ·have HNO:AO (Is nw=true):=Al hno;obtain⟨r0,r1⟩:=HUR.o s HIN.o.1;obtain⟨v,hv⟩:=Aj r0;have hv256:v<256:=AJ
     have HN:∀ q,AO (Yl w U T (k+1) ((w3.setCell ⟨w.heap.size,0+v/8,aA⟩ (Z8 Z9 ((FD bs v).getD (v/8) 0))).drewN q)):=λq=>by
      have hr2:=HRW.o.set (v/8) ((FD bs v).getD (v/8) 0);have e2:bs.set (v/8) ((FD bs v).getD (v/8) 0)=FD bs v:=by
       unfold FD;rw[ES _ _ _ _ (AG HSB.o.1),AP rfl]
      rw[e2] at hr2;have hw:Wr w.heap.size w3 (w3.setCell ⟨w.heap.size,v/8,aA⟩ (Z8 Z9 ((FD bs v).getD (v/8) 0))):=(Wr.refl _ _).setCell _ _;rw[Aq];refine⟨?_,⟨FD bs v,hr2,(HSB.o.rem v hv256).congr (λu hu=>?_)⟩,λi hi=>?_⟩
      ·have bq:=HB1.o.trans (hw.below Cl);exact⟨bq.os,bq.tape,bq.output,bq.size,bq.block⟩
      ·constructor
       ·rintro⟨⟨h1,h2⟩,h3⟩;refine⟨h1,λj hj=>?_⟩;by_cases hjk:j<k
        ·exact h2 j hjk
        ·have:j=k:=AJ
         subst this;rw[hs',hv];intro e;exact h3 AJ
       ·rintro⟨h1,h2⟩;refine⟨⟨h1,λj hj=>h2 j AJ⟩,λe=>?_⟩;have:=h2 k AJ;rw[hs',hv,e] at this;exact this rfl
      ·by_cases hik:i<k
       ·exact HST.o.ok i hik
       ·have:i=k:=AJ
        subst this;exact HTI.o.2 ⟨HIN.o.1,hno,HIN.o.2⟩
     rw[HNO.o];clear hno r0 r1 HIN;subst hv;go_wp2_with fail;refine(Lr w.heap.size 0 v bs _ hv256 HBT.o).mono ?_;rintro e w4 ⟨rfl,q,rfl⟩;have H2:=HN q;clear HN HBT HST HRW HSB HB1;generalize (w3.setCell ⟨w.heap.size,0+v/8,aA⟩ (Z8 Z9 ((FD bs v).getD (v/8) 0))).drewN q=w4 at *;go_wp2;go_roundw
     case rel=>exact⟨k+1,AJ,by go_num,H2.o⟩
     case measure=>simp[intOf];omega
    ·have HNO:AO (Is nw=false):=Af hno;have HNT:AO (K2 U T n=false):=K3 (λh=>hno (HTI.o.1 (h k hlt)).2.1);rw[HNO.o];clear hno;go_wp2
     go_ret
     exact⟨by rw[HNT.o];rfl,HB1.o⟩
   ·rw[Af hin];have HNT:AO (K2 U T n=false):=K3 (λh=>hin ⟨(HTI.o.1 (h k hlt)).1,(HTI.o.1 (h k hlt)).2.2⟩);clear hin HHQ;go_wp2
    go_ret
    exact⟨by rw[HNT.o];rfl,HB1.o⟩
  ·have hkn:k=n:=AJ
   have hlt':¬ ((k:Int)<n):=AJ
   have HNT:AO (K2 U T n=true):=Lu (λi hi=>hst.ok i AJ);have HBW:AO (Below w.heap.size w wr):=hst.below;clear hst;go_wp2
   go_ret
   exact⟨by rw[HNT.o];rfl,HBW.o⟩
theorem XX:KT .u64 132 131 8:=⟨AM,underlying131,AK,AK⟩
abbrev Dt:=DR .u64 132
def Lw (zs:List Int):Prop:=∀ z∈zs,0<=z/\z<4294967296
theorem Lw.get {zs:List Int} (h:Lw zs) (i:Nat):0<=zs.getD i 0/\zs.getD i 0<4294967296:=by
 by_cases hi:i<zs.length
 ·rw[AS,Av hi];exact h _ (Bl hi)
 ·rw[AS,BX AJ];exact⟨AK,AK⟩
theorem Lw.set {zs:List Int} (h:Lw zs) (i:Nat) (x:Int) (h0:0<=x) (h1:x<4294967296):Lw (zs.set i x):=by
 intro z hz;rcases List.mem_or_eq_of_mem_set hz with h'|rfl
 ·exact h z h'
 ·exact⟨h0,h1⟩
theorem Ed (zs:List Int) (i j:Nat) (x:Int) (h:j≠i):(zs.set i x).getD j 0=zs.getD j 0:=by
 rw[AS,List.getElem?_set_ne (BA h),AS]
theorem Hq (zs:List Int) (i:Nat) (x:Int) (h:i<zs.length):(zs.set i x).getD i 0=x:=by
 rw[AS,List.getElem?_set_self h];rfl
theorem Q2 (B V o a b c P S:Int) (x:Int) (hx:x=o+a*b+c) (h:V+c*P=S):(V+(x%B-o)*P)+x/B*(P*B)=S+a*(b*P):=by
 have e:x%B+B*(x/B)=x:=Int.emod_add_mul_ediv _ _;have e2:(x%B+B*(x/B))*P=x*P:=by rw[e]
 subst hx
 grind
theorem Tx (A x P Y:Int):A*Y+x*(P*Y)=(A+x*P)*Y:=by grind
structure MR (w:aC) (xs ys:List Int) (i:Nat) (zs:List Int):Prop where
 len:zs.length=xs.length+ys.length
 dig:Lw zs
 zero:∀ j,i+ys.length<=j->zs.getD j 0=0
def OY (w:aC) (xs ys:List Int) (e:Ending) (w':aC):Prop:=
 ∃ v zs,e=aK v/\Dt w' w.heap.size v zs/\zs.length=xs.length+ys.length/\Lw zs/\val 4294967296 zs=val 4294967296 xs*val 4294967296 ys/\Below w.heap.size w w'
theorem OZ (a a':Option Addr) (n m cap cap':Nat) (xs ys:List Int) (w:aC) (hn:xs.length=n) (hm:ys.length=m) (hn':n<=1024) (hm':m<=1024) (hm0:0<m) (hn0:0<n) (ha:At .u64 w a xs) (ha':At .u64 w a' ys) (hx:Lw xs) (hy:Lw ys) :
  Calls tP 146 #[Z7 a n cap,Z7 a' m cap'] w (OY w xs ys):=by
 obtain⟨b0,off,rfl,hb0,hc⟩:=ha.get AJ;obtain⟨b1,off',rfl,hb1,hc'⟩:=ha'.get AJ;have HC:AO (∀ i,i<xs.length->w.cell? ⟨b0,off+i,aA⟩=aE (Z8 .u64 (xs.getD i 0))):=hc;have HC':AO (∀ i,i<ys.length->w.cell? ⟨b1,off'+i,aA⟩=aE (Z8 .u64 (ys.getD i 0))):=hc';clear hc hc' ha ha';go_enter func146,ntmps146;go_wp2
 go_loopw [5,6] (λv i wr=>∃ k:Nat,k<=n+m/\i=Z8 aI k/\Dt wr w.heap.size v (List.replicate k 0)/\Below w.heap.size w wr) (λ_ i _=>n+m-(intOf i).toNat)
 case atStart=>exact⟨0,Au _,rfl,DR.empty _ _ Cl,Cg.alloc Cl _⟩
 case round=>
  obtain⟨k,hk,rfl,hown,hbel⟩:=hrel;by_cases hlt:k<n+m
  ·have hsz:=hbel.size;have hlt':(k:Int)<(n:Int)+(m:Int):=AJ
   go_wp2_with (at_builtin;refine Db _ XX rfl _ _ rfl w.heap.size _ _ rfl (hown.alloc _) ⟨wr.heap.size,0,aA⟩ 1 1 [0] rfl rfl ?c1 ?c2 ?c3 ?_);all_goals first|(intro j hj;obtain rfl:j=0:=AJ
                                                                                                                                                              simp[Addr.add];done)|skip
   case c2=>simp;omega
   case c3=>first|omega|(rw[A7];omega)
   intro v' w1 hown' hbel' _;have HO:AO (Dt w1 w.heap.size v' (List.replicate (k+1) 0)):=by rw[List.replicate_succ'];exact hown'
   have HB:AO (Below w.heap.size w w1):=(hbel.alloc AJ _).trans hbel';clear hown hown' hbel hbel';go_wp2;go_roundw
   case rel=>exact⟨k+1,AJ,by go_num,HO.o,HB.o⟩
   case measure=>simp[intOf];omega
  ·obtain rfl:k=n+m:=AJ
   obtain⟨g,c,rfl,hg,hg',_⟩:=hown.at_;rw[List.length_replicate] at hown |-;have HO:AO (Dt wr w.heap.size (Z7 (aE ⟨g,0,aA⟩) (n+m) c) (List.replicate (n+m) 0)):=hown;have HB:AO (Below w.heap.size w wr):=hbel;have ecast:((n+m:Nat):Int)=(n:Int)+(m:Int):=AJ
   clear hown hbel;go_wp2
   go_loopw [7] (λi wq=>∃(k:Nat) (zs:List Int),k<=n/\i=Z8 aI k/\MR w xs ys k zs/\val 4294967296 zs=val 4294967296 (xs.take k)*val 4294967296 ys/\Dt wq w.heap.size (Z7 (aE ⟨g,0,aA⟩) (n+m) c) zs/\Below w.heap.size w wq) (λi _=>n-(intOf i).toNat)
   case atStart=>
    refine⟨0,List.replicate (n+m) 0,Au _,rfl,⟨by simp[hn,hm],?_,?_⟩,?_,HO.o,HB.o⟩
    ·intro z hz;rw[List.mem_replicate] at hz;omega
    ·intro j hj;simp[List.getD_eq_getElem?_getD,List.getElem?_replicate];split<;>rfl
    ·simp only[List.take_zero,val,Int.zero_mul];generalize n+m=q
     induction q with
     |zero=>rfl
     |succ q ih=>rw[List.replicate_succ];simp[val,ih]
   case round=>
    clear HO HB;obtain⟨k,zs,hk,rfl,⟨hzl,hzd,hzz⟩,hv,hown,hbel⟩:=hrel;by_cases hkn:k<n
    ·have hkn':(k:Int)<(n:Int):=AJ
     have HX:=hx.get k;have HV:AO (val 4294967296 zs=val 4294967296 (xs.take k)*val 4294967296 ys):=hv;have HVT:AO (val 4294967296 (xs.take (k+1))=val 4294967296 (xs.take k)+xs.getD k 0*4294967296^k):=DN _ xs k AJ;have HO:AO (Dt wr w.heap.size (Z7 (aE ⟨g,0,aA⟩) (n+m) c) zs):=hown;have HZ:AO (zs.length=xs.length+ys.length/\Lw zs/\∀ j,k+ys.length<=j->zs.getD j 0=0):=⟨hzl,hzd,hzz⟩
     have HBE:AO (Below w.heap.size w wr):=hbel;have HCX:AO (∀ w',Below w.heap.size w w'->w'.cell? ⟨b0,off+k,aA⟩=aE (Z8 .u64 (xs.getD k 0))):=λw' hb=>by rw[hb.cell (p:=⟨b0,off+k,aA⟩) hb0];exact HC.o k AJ
     clear hv hown hzl hzd hzz hbel;obtain⟨hX0,hX1⟩:=HX;generalize xs.getD k 0=x at *;go_wp2
     go_loopw [8,9] (λcc i wq=>∃(j:Nat) (zs:List Int) (b:Int),j<=m/\i=Z8 aI j/\cc=Z8 .u64 b/\(0<=b/\b<4294967296)/\(zs.length=xs.length+ys.length/\Lw zs/\∀ j,k+ys.length<=j->zs.getD j 0=0)/\val 4294967296 zs+b*4294967296^(k+j)=val 4294967296 (xs.take k)*val 4294967296 ys+x*(4294967296^k*val 4294967296 (ys.take j))/\Dt wq w.heap.size (Z7 (aE ⟨g,0,aA⟩) (n+m) c) zs/\Below w.heap.size w wq) (λ_ i _=>m-(intOf i).toNat)
     case atStart=>exact⟨0,zs,0,Au _,rfl,rfl,⟨AK,AK⟩,HZ.o,by rw[HV.o,List.take_zero];simp[val],HO.o,HBE.o⟩
     case round=>
      clear HV HO HZ HBE;obtain⟨j,zs,b,hj,rfl,rfl,⟨hb0',hb1'⟩,⟨hzl,hzd,hzz⟩,hv,hown,hbel⟩:=hrel;by_cases hjm:j<m
      ·have hjm':(j:Int)<(m:Int):=AJ
       have cx:=HCX.o _ hbel;have cy:wr.cell? ⟨b1,off'+j,aA⟩=aE (Z8 .u64 (ys.getD j 0)):=by rw[hbel.cell (p:=⟨b1,off'+j,aA⟩) hb1];exact HC'.o j AJ
       have HY:=hy.get j;have hzb:=hzd.get (k+j);have vt:=DN 4294967296 ys j AJ;obtain⟨pr,hpr⟩:∃ pr,pr=x*ys.getD j 0:=⟨_,rfl⟩
       have hp0:0<=pr:=by rw[hpr];exact Int.mul_nonneg hX0 HY.1
       have hp1:pr<=18446744065119617025:=by
        rw[hpr];exact Int.le_trans (Int.mul_le_mul (show x<=4294967295 by omega) (show ys.getD j 0<=4294967295 by omega) HY.1 AK) AK
       obtain⟨y,hyy⟩:∃ y,y=zs.getD (k+j) 0+pr+b:=⟨_,rfl⟩
       have hy0:0<=y:=AJ
       have hy1:y<18446744073709551616:=AJ
       have st:=Q2 4294967296 _ (zs.getD (k+j) 0) x (ys.getD j 0) b _ _ y (by rw[hyy,hpr]) hv;have e1:val 4294967296 (xs.take k)*val 4294967296 ys+x*(4294967296^k*val 4294967296 (ys.take j))+x*(ys.getD j 0*4294967296^(k+j))=val 4294967296 (xs.take k)*val 4294967296 ys+x*(4294967296^k*val 4294967296 (ys.take (j+1))):=by
        rw[vt,Int.pow_add];grind
       obtain⟨cz,fz,oz⟩:=DR.set (by omega:zs.length=n+m) hown (k+j) (y%4294967296) AJ;have hle:k+j<zs.length:=AJ
       have HS:AO (val 4294967296 (zs.set (k+j) (y%4294967296))+y/4294967296*4294967296^(k+(j+1))=val 4294967296 (xs.take k)*val 4294967296 ys+x*(4294967296^k*val 4294967296 (ys.take (j+1)))):=by
        show _=_
        rw[FJ _ _ _ _ hle,<-e1,<-st,<-Ax,Int.pow_succ]
       have HZ:AO ((zs.set (k+j) (y%4294967296)).length=xs.length+ys.length/\Lw (zs.set (k+j) (y%4294967296))/\∀ i,k+ys.length<=i->(zs.set (k+j) (y%4294967296)).getD i 0=0):=
        ⟨by rw[List.length_set];exact hzl,hzd.set _ _ AJ AJ,λi hi=>by rw[Ed _ _ _ _ AJ];exact hzz i hi⟩
       have HO:AO (Dt (wr.setCell ⟨g,k+j,aA⟩ (Z8 .u64 (y%4294967296))) w.heap.size (Z7 (aE ⟨g,0,aA⟩) (n+m) c) (zs.set (k+j) (y%4294967296))):=oz;have HBE:AO (Below w.heap.size w (wr.setCell ⟨g,k+j,aA⟩ (Z8 .u64 (y%4294967296)))):=hbel.setCell hg _;have HQ:AO (x*ys.getD j 0=pr):=hpr.symm;have HQ2:AO (zs.getD (k+j) 0+pr+b=y):=hyy.symm;have hw1:IntKind.u64.wrap (x*ys.getD j 0)=pr:=by rw[<-hpr,IntKind.wrap_u64];exact Int.emod_eq_of_lt hp0 AJ
       clear e1 st vt oz hv hzd hzz hown hbel hle hpr hzl HVT;obtain⟨hY0,hY1⟩:=HY;obtain⟨hz0,hz1⟩:=hzb;generalize ys.getD j 0=yy at *;generalize zs.getD (k+j) 0=zz at *;have hkj:(k:Int)+(j:Int)<(n:Int)+(m:Int):=AJ
       go_wp2
       go_quiet (fail)
       rw[HQ2.o];have cz2:(wr.drewN nq).cell? ⟨g,k+j,aA⟩=aE (Z8 .u64 zz):=cz;have fz2:(wr.drewN nq).frozen? ⟨g,k+j,aA⟩=false:=fz;have HO2:AO (Dt ((wr.drewN nq).setCell ⟨g,k+j,aA⟩ (Z8 .u64 (y%4294967296))) w.heap.size (Z7 (aE ⟨g,0,aA⟩) (n+m) c) (zs.set (k+j) (y%4294967296))):=HO.o;have HBE2:AO (Below w.heap.size w ((wr.drewN nq).setCell ⟨g,k+j,aA⟩ (Z8 .u64 (y%4294967296)))):=⟨HBE.o.os,HBE.o.tape,HBE.o.output,HBE.o.size,HBE.o.block⟩
       have hyq0:0<=y/4294967296:=AJ
       have hyq1:y/4294967296<4294967296:=AJ
       clear cz fz HO HBE cx cy HQ hw1 hyy HQ2 hp0 hp1 hz0 hz1;generalize wr.drewN nq=w2 at *;go_wp2;go_roundw
       case rel=>exact⟨j+1,zs.set (k+j) (y%4294967296),y/4294967296,AJ,by go_num,rfl,⟨hyq0,hyq1⟩,HZ.o,HS.o,HO2.o,HBE2.o⟩
       case measure=>simp[intOf];omega
      ·obtain rfl:j=m:=AJ
       rw[Ad (l:=ys) (i:=j) AJ] at hv;have hzk:=hzz (k+j) AJ;obtain⟨cz,fz,oz⟩:=DR.set (by omega:zs.length=n+j) hown (k+j) b AJ;rw[hzk] at cz;have hle:k+j<zs.length:=AJ
       have vs:=FJ 4294967296 zs (k+j) b hle;rw[hzk,Int.sub_zero,hv] at vs;have HS:AO (val 4294967296 (zs.set (k+j) b)=val 4294967296 (xs.take (k+1))*val 4294967296 ys):=by
        show _=_
        rw[vs,HVT.o,Tx]
       have HZ:AO (MR w xs ys (k+1) (zs.set (k+j) b)):=⟨by rw[List.length_set];exact hzl,hzd.set _ _ AJ AJ,λi hi=>by rw[Ed _ _ _ _ AJ];exact hzz i AJ⟩
       have HO:AO (Dt (wr.setCell ⟨g,k+j,aA⟩ (Z8 .u64 b)) w.heap.size (Z7 (aE ⟨g,0,aA⟩) (n+j) c) (zs.set (k+j) b)):=oz;have HBE:AO (Below w.heap.size w (wr.setCell ⟨g,k+j,aA⟩ (Z8 .u64 b))):=hbel.setCell hg _;have hkj:(k:Int)+(j:Int)<(n:Int)+(j:Int):=AJ
       clear hv hzk oz hle vs hzz hzd hown hbel HVT HCX hzl;go_wp2;go_roundw
       case rel=>exact⟨k+1,zs.set (k+j) b,AJ,by go_num,HZ.o,HS.o,HO.o,HBE.o⟩
       case measure=>simp[intOf];omega
    ·obtain rfl:k=n:=AJ
     rw[Ad AJ] at hv;have hke:zs.length=k+m:=AJ
     have HP:AO (OY w xs ys (aK (Z7 (aE ⟨g,0,aA⟩) (k+m) c)) wr):=⟨_,zs,rfl,hown,hzl,hzd,hv,hbel⟩
     clear hzl hzd hzz hv hown hbel hke;go_wp2
     go_ret
     exact HP.o
theorem Ha (a:Option Addr) (n cap i:Nat) (zs:List Int) (w:aC) (hn:zs.length=n) (hm:n<=4096) (hi:i<=8192) (ha:At .u64 w a zs) :
  Calls tP 161 #[Z7 a n cap,Z8 aI i] w λe w'=>e=aK (Z8 .u64 (zs.getD i 0))/\w'=w:=by
 by_cases h:i<n
 ·obtain⟨b,off,rfl,hb,hc⟩:=ha.get AJ;have c0:=hc i AJ;have h':(i:Int)<(n:Int):=AJ
  generalize zs.getD i 0=x at *;clear hc;go_enter func161,ntmps161;go_wp2
  go_ret
  exact⟨rfl,rfl⟩
 ·have e:zs.getD i 0=0:=by rw[AS,BX AJ];rfl
  rw[e];have h':¬ (i:Int)<(n:Int):=AJ
  go_enter func161,ntmps161;go_wp2
  go_ret
  exact⟨rfl,rfl⟩
theorem NQ (B p:Int) (k i:Nat) (hB:1<B) (h0:0<=p) (h1:p<B):p*B^k/B^i%B=if i=k then p else 0:=by
 have hp:∀ j:Nat,(0:Int)<B^j:=λj=>Int.pow_pos AJ
 by_cases h:i=k
 ·subst h;rw[AP rfl,Int.mul_ediv_cancel _ (Int.ne_of_gt (hp i))];exact Int.emod_eq_of_lt h0 h1
 ·rw[AQ h];rcases Nat.lt_or_gt_of_ne h with hl|hg
  ·obtain⟨d,rfl⟩:∃ d,k=i+1+d:=⟨k-i-1,AJ⟩
   have e:p*B^(i+1+d)=(p*B^d*B)*B^i:=by rw[Int.pow_add,Int.pow_succ];grind
   rw[e,Int.mul_ediv_cancel _ (Int.ne_of_gt (hp i)),Int.mul_emod_left]
  ·have hlt:p*B^k<B^i:=by
    obtain⟨d,rfl⟩:∃ d,i=k+1+d:=⟨i-k-1,AJ⟩
    have a1:p*B^k<B*B^k:=Int.mul_lt_mul_of_pos_right h1 (hp k);have a2:B*B^k<=B^(k+1+d):=by
     have:B^(k+1+d)=B*B^k*B^d:=by rw[Int.pow_add,Int.pow_succ];grind
     rw[this];have h3:B*B^k*1<=B*B^k*B^d:=Int.mul_le_mul_of_nonneg_left (AG (hp d)) (Int.mul_nonneg AJ (Int.le_of_lt (hp k)));omega
    omega
   rw[Int.ediv_eq_zero_of_lt (Int.mul_nonneg h0 (Int.le_of_lt (hp k))) hlt];rfl
theorem Ph {A T P B:Int} (hB:0<B) (hP:0<P) (h:A/(P*B)=T/(P*B)):(A/P%B=T/P%B->A/P=T/P)/\(A/P%B<T/P%B->A<T)/\(T/P%B<A/P%B->T<A):=by
 have e1:=Int.emod_add_mul_ediv (A/P) B;have e2:=Int.emod_add_mul_ediv (T/P) B;rw[Bj (Int.le_of_lt hP)] at e1 e2;rw[h] at e1;have lt:∀ X Y:Int,X/P<Y/P->X<Y:=λX Y hh=>by
  rcases Int.lt_or_le X Y with h'|h'
  ·exact h'
  ·have:=Int.ediv_le_ediv hP h';omega
 refine⟨λhh=>?_,λhh=>lt _ _ ?_,λhh=>lt _ _ ?_⟩
 ·rw[<-e1,<-e2,hh]
 ·generalize B*(T/(P*B))=z at *;omega
 ·generalize B*(T/(P*B))=z at *;omega
theorem JA (a:Option Addr) (n cap k:Nat) (p:Int) (zs:List Int) (w:aC) (hn:zs.length=n) (hm:n<=4096) (hk:k<=1024) (ha:At .u64 w a zs) (hz:Lw zs) (hp0:0<=p) (hp1:p<4294967296) :
  Calls tP 147 #[Z7 a n cap,Z8 .u64 p,Z8 aI k] w λe w'=>e=aK (aG (decide (val 4294967296 zs<=p*4294967296^k)))/\w'=w:=by
 have hA0:0<=val 4294967296 zs:=C0 AK hz;have hA1:val 4294967296 zs<4294967296^n:=by rw[<-hn];exact EZ AK hz
 have hpw:∀ j:Nat,(0:Int)<4294967296^j:=λj=>Int.pow_pos AK
 have HW:AO (∀ j:Nat,(0:Int)<4294967296^j):=hpw;have HT:AO (val 4294967296 zs/4294967296^(n+k+1)=p*4294967296^k/4294967296^(n+k+1)):=by
  show _=_
  rw[Int.ediv_eq_zero_of_lt hA0,Int.ediv_eq_zero_of_lt (Int.mul_nonneg hp0 (Int.le_of_lt (hpw k)))]
  ·have e:(4294967296:Int)^(n+k+1)=4294967296*4294967296^k*4294967296^n:=by rw[show n+k+1=n+(k+1) by omega,Int.pow_add,Int.pow_succ];grind
   have a1:p*4294967296^k<4294967296*4294967296^k:=Int.mul_lt_mul_of_pos_right hp1 (hpw k);have a2:4294967296*4294967296^k*1<=4294967296*4294967296^k*(4294967296:Int)^n:=Int.mul_le_mul_of_nonneg_left (AG (hpw n)) (Int.mul_nonneg AK (Int.le_of_lt (hpw k)));rw[e];omega
  ·have e:(4294967296:Int)^(n+k+1)=4294967296^n*4294967296^(k+1):=by rw[show n+k+1=n+(k+1) by omega,Int.pow_add]
   have a2:4294967296^n*1<=4294967296^n*(4294967296:Int)^(k+1):=Int.mul_le_mul_of_nonneg_left (AG (hpw (k+1))) (Int.le_of_lt (hpw n));rw[e];omega
 clear hA0 hA1 hpw;go_enter func147,ntmps147;go_wp2
 go_loop [7] (λi=>∃ j:Nat,j<=n+k+1/\i=Z8 aI ((j:Int)-1)/\val 4294967296 zs/4294967296^j=p*4294967296^k/4294967296^j) (λi=>(intOf i+1).toNat)
 case atStart=>exact⟨n+k+1,Ac _,by go_num,HT.o⟩
 case round=>
  clear HT;obtain⟨j,hj,rfl,hv⟩:=hrel;by_cases hj0:0<j
  ·obtain⟨j,rfl⟩:∃ i,j=i+1:=⟨j-1,AJ⟩
   have ei:((j+1:Nat):Int)-1=(j:Int):=AJ
   rw[ei];clear ei;rw[Int.pow_succ] at hv;obtain⟨g1,g2,g3⟩:=Ph AK (HW.o j) hv;rw[Em AK hz,NQ _ _ _ _ AK hp0 hp1] at g1 g2 g3;have HD:=hz.get j;have H1:AO (zs.getD j 0=(if j=k then p else 0)->val 4294967296 zs/4294967296^j=p*4294967296^k/4294967296^j):=g1;have H2:AO (zs.getD j 0<(if j=k then p else 0)->val 4294967296 zs<p*4294967296^k):=g2;have H3:AO ((if j=k then p else 0)<zs.getD j 0->p*4294967296^k<val 4294967296 zs):=g3;have HA:AO (At .u64 w a zs):=ha;clear hv g1 g2 g3;generalize hd:zs.getD j 0=d at *;have HG:AO (zs.getD j 0=d):=hd;obtain⟨hd0,hd1⟩:=HD;clear hd ha;by_cases hjk:j=k
   ·subst hjk;rw[AP rfl] at H1 H2 H3;have hjk':((j:Int) == (j:Int))=true:=AL
    have hfin:∀ q:Bool,(q=decide (d<p))->d≠p->q=decide (val 4294967296 zs<=p*4294967296^j):=λq hq hne=>by
     rw[hq];by_cases hlt:d<p
     ·have:=H2.o hlt;have h':val 4294967296 zs<=p*4294967296^j:=AJ
      simp[hlt,h']
     ·have:=H3.o AJ;have h':¬ val 4294967296 zs<=p*4294967296^j:=AJ
      simp[hlt,h']
    have HF:AO (∀ q:Bool,(q=decide (d<p))->d≠p->q=decide (val 4294967296 zs<=p*4294967296^j)):=hfin;clear hfin H2 H3;go_wp2_with fail;refine(Ha a n cap j zs _ hn hm AJ HA.o).mono ?_;rintro e w1 ⟨rfl,rfl⟩;rw[HG.o];by_cases hdw:d=p
    ·have HE:=H1.o hdw;have HV:AO (val 4294967296 zs/4294967296^j=p*4294967296^j/4294967296^j):=HE;have hdw':(d != p)=false:=by simpa using hdw
     have hdw2:(d == p)=true:=by simpa using hdw
     clear HE HF H1 hdw;go_wp2
     go_round
     case rel=>exact⟨j,AJ,rfl,HV.o⟩
     case measure=>first|(simp[intOf];done)|(simp[intOf];omega)
    ·have hdw':(d != p)=true:=by simpa using hdw
     have HN:AO (d≠p):=hdw;clear hdw H1;go_wp2_with fail;refine(Ha a n cap j zs _ hn hm AJ HA.o).mono ?_;rintro e w2 ⟨rfl,rfl⟩;rw[HG.o];obtain⟨q,hq⟩:∃ q,q=decide (d<p):=⟨_,rfl⟩
     have HQ:AO (q=decide (val 4294967296 zs<=p*4294967296^j)):=HF.o q hq HN.o;have hq':decide (d<p)=q:=hq.symm;clear hq HF;by_cases hlt:d<p
     ·obtain rfl:q=true:=by rw[<-hq'];simpa using hlt
      clear hq';go_wp2
      go_ret
      exact⟨by rw[<-HQ.o];rfl,rfl⟩
     ·obtain rfl:q=false:=by rw[<-hq'];simpa using hlt
      have HD:AO (decide (d<p)=false):=hq';clear hq';go_wp2
      go_ret
      refine⟨?_,rfl⟩;show aK (aG (decide (d<p)))=_
      rw[HD.o,<-HQ.o]
   ·rw[AQ hjk] at H1 H2 H3;have hjk':((j:Int) == (k:Int))=false:=by simp;omega
    have hfin:∀ q:Bool,(q=decide (d<0))->d≠0->q=decide (val 4294967296 zs<=p*4294967296^k):=λq hq hne=>by
     rw[hq];by_cases hlt:d<0
     ·have:=H2.o hlt;have h':val 4294967296 zs<=p*4294967296^k:=AJ
      simp[hlt,h']
     ·have:=H3.o AJ;have h':¬ val 4294967296 zs<=p*4294967296^k:=AJ
      simp[hlt,h']
    have HF:AO (∀ q:Bool,(q=decide (d<0))->d≠0->q=decide (val 4294967296 zs<=p*4294967296^k)):=hfin;clear hfin H2 H3;go_wp2_with fail;refine(Ha a n cap j zs _ hn hm AJ HA.o).mono ?_;rintro e w1 ⟨rfl,rfl⟩;rw[HG.o];by_cases hdw:d=0
    ·have HE:=H1.o hdw;have HV:AO (val 4294967296 zs/4294967296^j=p*4294967296^k/4294967296^j):=HE;have hdw':(d != 0)=false:=by simpa using hdw
     have hdw2:(d == 0)=true:=by simpa using hdw
     clear HE HF H1 hdw;go_wp2
     go_round
     case rel=>exact⟨j,AJ,rfl,HV.o⟩
     case measure=>first|(simp[intOf];done)|(simp[intOf];omega)
    ·have hdw':(d != 0)=true:=by simpa using hdw
     have HN:AO (d≠0):=hdw;clear hdw H1;go_wp2_with fail;refine(Ha a n cap j zs _ hn hm AJ HA.o).mono ?_;rintro e w2 ⟨rfl,rfl⟩;rw[HG.o];obtain⟨q,hq⟩:∃ q,q=decide (d<0):=⟨_,rfl⟩
     have HQ:AO (q=decide (val 4294967296 zs<=p*4294967296^k)):=HF.o q hq HN.o;have hq':decide (d<0)=q:=hq.symm;clear hq HF;by_cases hlt:d<0
     ·obtain rfl:q=true:=by rw[<-hq'];simpa using hlt
      clear hq';go_wp2
      go_ret
      exact⟨by rw[<-HQ.o];rfl,rfl⟩
     ·obtain rfl:q=false:=by rw[<-hq'];simpa using hlt
      have HD:AO (decide (d<0)=false):=hq';clear hq';go_wp2
      go_ret
      refine⟨?_,rfl⟩;show aK (aG (decide (d<0)))=_
      rw[HD.o,<-HQ.o]
  ·obtain rfl:j=0:=AJ
   rw[Int.pow_zero,Int.ediv_one,Int.ediv_one] at hv;have HE:AO (decide (val 4294967296 zs<=p*4294967296^k)=true):=by show _=_;rw[hv];simp
   clear hv;go_wp2
   go_ret
   exact⟨by rw[HE.o];rfl,rfl⟩
structure RI (p e j X:Nat):Prop where
 lo:X^e<=p*2^(64*e)
 hi:p*2^(64*e)<(X+2^j)^e
 dvd:2^j∣X
 le:X+2^j<=2^67
theorem RI.yes {p e j X:Nat} (h:RI p e (j+1) X) (hy:(X+2^j)^e<=p*2^(64*e)):RI p e j (X+2^j):=by
 have e2:2^(j+1)=2^j+2^j:=by rw[Nat.pow_succ];omega
 refine⟨hy,?_,?_,?_⟩
 ·have:=h.hi;rw[e2,<-Ax] at this;exact this
 ·exact Nat.dvd_add (Nat.dvd_trans ⟨2,by rw[Nat.pow_succ]⟩ h.dvd) (Nat.dvd_refl _)
 ·have:=h.le;omega
theorem RI.no {p e j X:Nat} (h:RI p e (j+1) X) (hy:¬ (X+2^j)^e<=p*2^(64*e)):RI p e j X:=by
 have e2:2^(j+1)=2^j+2^j:=by rw[Nat.pow_succ];omega
 refine⟨h.lo,AJ,Nat.dvd_trans ⟨2,by rw[Nat.pow_succ]⟩ h.dvd,by have:=h.le;have:0<2^j:=Nat.pow_pos AK;omega⟩
theorem NR (X d:Nat) (j:Nat) (hd:X/4294967296^(j/32)%4294967296=d) (hX:2^(j+1)∣X):d+2^(j%32)<4294967296:=by
 obtain⟨t,rfl⟩:=hX;have e1:2^(j+1)*t=4294967296^(j/32)*(2^(j%32+1)*t):=by
  rw[show(4294967296:Nat)=2^32 from rfl,<-Nat.pow_mul,<-Nat.mul_assoc,<-Nat.pow_add]
  congr 2;omega
 rw[e1,Nat.mul_div_cancel_left _ (Nat.pow_pos AK)] at hd;have hr:j%32<32:=Nat.mod_lt _ AK;obtain⟨q,hq⟩:∃ q,j%32+1+q=32:=⟨31-j%32,AJ⟩
 have e3:(4294967296:Nat)=2^(j%32+1)*2^q:=by rw[<-Nat.pow_add,hq]
 rw[e3,Nat.mul_mod_mul_left] at hd;have hlt:t%2^q<2^q:=Nat.mod_lt _ (Nat.pow_pos AK);have h4:2^(j%32+1)*(t%2^q+1)<=2^(j%32+1)*2^q:=Nat.mul_le_mul_left _ hlt;rw[<-e3,Nat.mul_add,Bx,hd,Nat.pow_succ] at h4;have:0<2^(j%32):=Nat.pow_pos AK;omega
def Q3 (p e:Nat) (w:aC) (en:Ending) (w':aC):Prop:=
 ∃ X:Nat,en=aK (Z8 .u64 ((X:Int)%18446744073709551616))/\X^e<=p*2^(64*e)/\p*2^(64*e)<(X+1)^e/\Below w.heap.size w w'
structure RS (w:aC) (p e j:Nat) (v:Value) (wr:aC):Prop where
 st:∃(xs:List Int) (X:Nat),Dt wr w.heap.size v xs/\xs.length=3/\Lw xs/\val 4294967296 xs=X/\RI p e j X
 below:Below w.heap.size w wr
theorem Xc (k:Nat):(4294967296:Int)^k=2^(32*k):=by rw[show(4294967296:Int)=2^32 from by decide,<-Int.pow_mul]
theorem KO (p e:Nat) (w:aC) (hp:p<=409) (he:(e=2/\p<64)\/e=3) :
  Calls tP 118 #[Z8 .u64 p,Z8 aI e] w (Q3 p e w):=by
 have H0:RI p e 67 0:=by
  refine⟨?_,?_,⟨0,rfl⟩,AK⟩
  ·rcases he with⟨rfl,_⟩|rfl<;>simp
  ·rcases he with⟨rfl,h⟩|rfl
   ·rw[show(0+2^67)^2=64*2^(64*2) from by decide];exact Nat.mul_lt_mul_of_pos_right h AK
   ·rw[show(0+2^67)^3=512*2^(64*3) from by decide];exact Nat.mul_lt_mul_of_pos_right AJ AK
 have HS:AO (RS w p e 67 (Z7 (aE ⟨w.heap.size,0,aA⟩) 3 3) (w.alloc (aJ #[Z8 .u64 0,Z8 .u64 0,Z8 .u64 0] 132))):=
  ⟨⟨[0,0,0],0,DR.lit w _ [0,0,0] Cl AK,rfl,by unfold Lw;decide,AK,H0⟩,Cg.alloc Cl _⟩
 have he3:e<=3:=AJ
 have he0:2<=e:=AJ
 clear H0;go_enter func118,ntmps118;go_wp2
 go_loopw [5,6] (λv i wr=>∃ j:Nat,j<=67/\i=Z8 aI ((j:Int)-1)/\RS w p e j v wr) (λ_ i _=>(intOf i+1).toNat)
 case atStart=>exact⟨67,Ac _,by go_num,HS.o⟩
 case round=>
  clear HS;obtain⟨j,hj,rfl,⟨xs,X,hown,hxl,hxd,hxv,hri⟩,hbel⟩:=hrel;by_cases hj0:0<j
  ·obtain⟨j,rfl⟩:∃ i,j=i+1:=⟨j-1,AJ⟩
   have ei:((j+1:Nat):Int)-1=(j:Int):=AJ
   rw[ei];clear ei;obtain⟨g,c,rfl,hg,hg',hA⟩:=hown.at_;rw[hxl] at hown |-;obtain⟨_,_,hE,_,hcl⟩:=hA.get AJ;cases hE;have hsz:=hbel.size;have hdg:=Em (B:=4294967296) AK hxd (j/32);have hdr:=hxd.get (j/32);rw[hxv] at hdg;have hdn:X/4294967296^(j/32)%4294967296=(xs.getD (j/32) 0).toNat:=by
    have:((X/4294967296^(j/32)%4294967296:Nat):Int)=xs.getD (j/32) 0:=by rw[<-hdg];simp
    omega
   have hroom:=NR X _ j hdn hri.dvd;have hrm:xs.getD (j/32) 0+2^(j%32)<4294967296:=by
    have:((2^(j%32):Nat):Int)=(2:Int)^(j%32):=AL
    omega
   have h2p:(0:Int)<2^(j%32):=Int.pow_pos AK;have hys:val 4294967296 (xs.set (j/32) (xs.getD (j/32) 0+2^(j%32)))=((X+2^j:Nat):Int):=by
    rw[FJ _ _ _ _ AJ,hxv];have:xs.getD (j/32) 0+2^(j%32)-xs.getD (j/32) 0=(2:Int)^(j%32):=AJ
    rw[this,Xc,<-Int.pow_add];have:j%32+32*(j/32)=j:=AJ
    rw[this];simp
   have HYD:AO (Lw (xs.set (j/32) (xs.getD (j/32) 0+2^(j%32)))):=hxd.set _ _ AJ hrm;have HYL:AO ((xs.set (j/32) (xs.getD (j/32) 0+2^(j%32))).length=3):=by rw[List.length_set];exact hxl
   have HYV:AO (val 4294967296 (xs.set (j/32) (xs.getD (j/32) 0+2^(j%32)))=((X+2^j:Nat):Int)):=hys;have HRI:AO (RI p e (j+1) X):=hri;have HX:AO (xs.length=3/\Lw xs/\val 4294967296 xs=X):=⟨hxl,hxd,hxv⟩
   have HO:AO (Dt wr w.heap.size (Z7 (aE ⟨g,0,aA⟩) 3 c) xs):=hown;have HB:AO (Below w.heap.size w wr):=hbel;have HN:AO (∀ i,i<3->(wr.alloc (aJ #[] 132)).cell? ((⟨g,0,aA⟩:Addr).add i)=aE (Z8 .u64 (xs.getD i 0))):=λi hi=>by
    rw[Az];rw[((A9 wr.heap.size wr).alloc Cl (aJ #[] 132)).cell (p:=⟨g,0+i,aA⟩) hg'];exact hcl i AJ
   have HXL:AO (xs.length=3):=hxl;clear hdg hdn hroom hys hri hown hbel hxd hxv hcl hA hxl;go_wp2_with (at_builtin;refine Db _ XX rfl _ _ rfl wr.heap.size _ [] rfl (DR.empty _ _ Cl) ⟨g,0,aA⟩ 3 _ xs rfl HXL.o HN.o ?c2 ?c3 ?_)
   case c2=>decide
   case c3=>simp
   intro v' w1 hown' hbel' _;obtain⟨g1,c1,rfl,hg1,hg1',_⟩:=hown'.at_;rw[HXL.o] at hown' |-;have hB1:Below wr.heap.size wr w1:=(Cg.alloc Cl _).trans hbel';obtain⟨cz,fz,oz⟩:=DR.set HXL.o hown' (j/32) (xs.getD (j/32) 0+2^(j%32)) AJ;have HO2:AO (Dt (w1.setCell ⟨g1,j/32,aA⟩ (Z8 .u64 (xs.getD (j/32) 0+2^(j%32)))) wr.heap.size (Z7 (aE ⟨g1,0,aA⟩) 3 c1) (xs.set (j/32) (xs.getD (j/32) 0+2^(j%32)))):=oz;have HB2:AO (Below wr.heap.size wr (w1.setCell ⟨g1,j/32,aA⟩ (Z8 .u64 (xs.getD (j/32) 0+2^(j%32))))):=hB1.setCell hg1 _;clear oz hown' hB1 hbel' HN;obtain⟨hd0,hd1⟩:=hdr;generalize hdd:xs.getD (j/32) 0=d at *;have hsh:IntKind.u64.wrap (1*2^(j%32))=2^(j%32):=by rw[Int.one_mul,IntKind.wrap_u64];exact Int.emod_eq_of_lt AJ AJ
   have hsh':IntKind.u64.wrap (2^(j%32))=2^(j%32):=by rw[IntKind.wrap_u64];exact Int.emod_eq_of_lt AJ AJ
   have hj3:(j:Int)/32<3:=AJ
   clear hdd;go_wp2_with fail;have o2:=HO2.o;have b2:=HB2.o;have HDL:=HX.o;clear HO2 HB2 cz fz;generalize hyy:xs.set (j/32) (d+2^(j%32))=ys at *;clear hyy;generalize w1.setCell ⟨g1,j/32,aA⟩ (Z8 .u64 (d+2^(j%32)))=w2 at *;obtain⟨hYA,_,_⟩:=o2.atS;have HO9:AO (Dt w2 wr.heap.size (Z7 (aE ⟨g1,0,aA⟩) 3 c1) ys):=o2;have HO0:AO (Dt w2 w.heap.size (Z7 (aE ⟨g,0,aA⟩) 3 c) xs):=HO.o.grow b2;have HB9:AO (Below w.heap.size w w2):=HB.o.trans (b2.mono hsz);clear o2 b2 HO HB;refine(OZ _ _ 3 3 _ _ ys ys _ HYL.o HYL.o AK AK AK AK hYA hYA HYD.o HYD.o).mono ?_;rintro en w3 ⟨v3,zs,rfl,O3,hzl,hzd,hzv,B3⟩;obtain⟨g3,c3,rfl,hg3,hg3',hZA⟩:=O3.at_;rw[HYV.o] at hzv;have hzl':zs.length=6:=by rw[hzl,HYL.o]
   have hYA3:=hYA.below B3;have HO9':AO (Dt w3 wr.heap.size (Z7 (aE ⟨g1,0,aA⟩) 3 c1) ys):=HO9.o.grow B3;have HO0':AO (Dt w3 w.heap.size (Z7 (aE ⟨g,0,aA⟩) 3 c) xs):=HO0.o.grow B3;have HB9':AO (Below w.heap.size w w3):=HB9.o.trans (B3.mono HB9.o.size);have hsz9:=B3.size;rw[hzl'] at O3 |-;clear HO9 HO0 HB9 hYA O3 B3 hzl;have HTT:AO ((p:Int)*4294967296^(2*e)=((p*2^(64*e):Nat):Int)):=by
    show _=_
    rw[Xc,Int.natCast_mul,show 32*(2*e)=64*e by omega];simp
   have h2e:((2*e:Nat):Int)=2*(e:Int):=AJ
   rcases he with⟨he2,hp2⟩|he2
   ·have hne:((e:Int) == 3)=false:=by rw[he2];decide
    have HZV:AO (val 4294967296 zs=(((X+2^j)^e:Nat):Int)):=by
     show _=_
     rw[he2,hzv,Nat.pow_succ,Nat.pow_succ,Nat.pow_zero,Nat.one_mul,Int.natCast_mul]
    clear hzv he2;have hzl:=hzl';clear hzl';go_wp2_with fail;generalize hW:w3=W9 at *;clear hW;generalize hc9:c3=c9 at *;clear hc9;have HO9:=HO9';have HO0:=HO0';have HB9:=HB9';clear HO9' HO0' HB9';by_cases hle:(X+2^j)^e<=p*2^(64*e)
    ·have HQ:AO (decide (val 4294967296 zs<=(p:Int)*4294967296^(2*e))=true):=by
      show _=_
      rw[HZV.o,HTT.o];have:(((X+2^j)^e:Nat):Int)<=((p*2^(64*e):Nat):Int):=by exact Int.ofNat_le.2 hle
      simpa using this
     have HP:AO (RS w p e j (Z7 (aE ⟨g1,0,aA⟩) 3 c1) W9):=
      ⟨⟨_,_,(HO9.o.lower hsz),HYL.o,HYD.o,HYV.o,HRI.o.yes hle⟩,HB9.o⟩
     clear hle;have A:=JA _ _ c9 (2*e) (p:Int) zs W9 hzl AJ AJ hZA hzd AJ AJ;rw[h2e] at A;refine A.mono ?_;rintro en w5 ⟨rfl,rfl⟩;rw[HQ.o];clear HQ A;go_wp2;go_roundw
     case rel=>exact⟨j,AJ,rfl,HP.o⟩
     case measure=>first|(simp[intOf];done)|(simp[intOf];omega)
    ·have HQ:AO (decide (val 4294967296 zs<=(p:Int)*4294967296^(2*e))=false):=by
      show _=_
      rw[HZV.o,HTT.o];have:¬ (((X+2^j)^e:Nat):Int)<=((p*2^(64*e):Nat):Int):=λh=>hle (Int.ofNat_le.1 h)
      simpa using this
     have HP:AO (RS w p e j (Z7 (aE ⟨g,0,aA⟩) 3 c) W9):=
      ⟨⟨xs,X,HO0.o,HX.o.1,HX.o.2.1,HX.o.2.2,HRI.o.no hle⟩,HB9.o⟩
     clear hle;have A:=JA _ _ c9 (2*e) (p:Int) zs W9 hzl AJ AJ hZA hzd AJ AJ;rw[h2e] at A;refine A.mono ?_;rintro en w5 ⟨rfl,rfl⟩;rw[HQ.o];clear HQ A;go_wp2;go_roundw
     case rel=>exact⟨j,AJ,rfl,HP.o⟩
     case measure=>first|(simp[intOf];done)|(simp[intOf];omega)
   ·have hne:((e:Int) == 3)=true:=by rw[he2];decide
    have HE:AO (e=3):=he2;clear he2;have hzl:=hzl';clear hzl';go_wp2_with fail;refine(OZ _ _ 6 3 _ _ zs ys _ hzl HYL.o AK AK AK AK hZA hYA3 hzd HYD.o).mono ?_;rintro en w4 ⟨v4,us,rfl,O4,hul,hud,huv,B4⟩;obtain⟨g4,c4,rfl,hg4,hg4',hUA⟩:=O4.at_;rw[HYV.o,hzv] at huv;have hul':us.length=9:=by rw[hul,hzl,HYL.o]
    have HO9:AO (Dt w4 wr.heap.size (Z7 (aE ⟨g1,0,aA⟩) 3 c1) ys):=HO9'.o.grow B4;have HO0:AO (Dt w4 w.heap.size (Z7 (aE ⟨g,0,aA⟩) 3 c) xs):=HO0'.o.grow B4;have HB9:AO (Below w.heap.size w w4):=HB9'.o.trans (B4.mono HB9'.o.size);rw[hul'] at O4 |-;clear HO9' HO0' HB9' O4 B4 hul hzl hzd hzv hZA;have hzl:=hul';have hzd:=hud;have hZA:=hUA;clear hul' hud hUA;have HZV:AO (val 4294967296 us=(((X+2^j)^e:Nat):Int)):=by
     show _=_
     rw[HE.o,huv,Nat.pow_succ,Nat.pow_succ,Nat.pow_succ,Nat.pow_zero,Nat.one_mul,Int.natCast_mul,Int.natCast_mul]
    clear huv;go_wp2_with fail;generalize hW:w4=W9 at *;clear hW;generalize hc9:c4=c9 at *;clear hc9;by_cases hle:(X+2^j)^e<=p*2^(64*e)
    ·have HQ:AO (decide (val 4294967296 us<=(p:Int)*4294967296^(2*e))=true):=by
      show _=_
      rw[HZV.o,HTT.o];have:(((X+2^j)^e:Nat):Int)<=((p*2^(64*e):Nat):Int):=by exact Int.ofNat_le.2 hle
      simpa using this
     have HP:AO (RS w p e j (Z7 (aE ⟨g1,0,aA⟩) 3 c1) W9):=
      ⟨⟨_,_,(HO9.o.lower hsz),HYL.o,HYD.o,HYV.o,HRI.o.yes hle⟩,HB9.o⟩
     clear hle;have A:=JA _ _ c9 (2*e) (p:Int) us W9 hzl AJ AJ hZA hzd AJ AJ;rw[h2e] at A;refine A.mono ?_;rintro en w5 ⟨rfl,rfl⟩;rw[HQ.o];clear HQ A;go_wp2;go_roundw
     case rel=>exact⟨j,AJ,rfl,HP.o⟩
     case measure=>first|(simp[intOf];done)|(simp[intOf];omega)
    ·have HQ:AO (decide (val 4294967296 us<=(p:Int)*4294967296^(2*e))=false):=by
      show _=_
      rw[HZV.o,HTT.o];have:¬ (((X+2^j)^e:Nat):Int)<=((p*2^(64*e):Nat):Int):=λh=>hle (Int.ofNat_le.1 h)
      simpa using this
     have HP:AO (RS w p e j (Z7 (aE ⟨g,0,aA⟩) 3 c) W9):=
      ⟨⟨xs,X,HO0.o,HX.o.1,HX.o.2.1,HX.o.2.2,HRI.o.no hle⟩,HB9.o⟩
     clear hle;have A:=JA _ _ c9 (2*e) (p:Int) us W9 hzl AJ AJ hZA hzd AJ AJ;rw[h2e] at A;refine A.mono ?_;rintro en w5 ⟨rfl,rfl⟩;rw[HQ.o];clear HQ A;go_wp2;go_roundw
     case rel=>exact⟨j,AJ,rfl,HP.o⟩
     case measure=>first|(simp[intOf];done)|(simp[intOf];omega)
  ·obtain rfl:j=0:=AJ
   obtain⟨g,c,rfl,hg,hg',_⟩:=hown.at_;rw[hxl] at hown |-;have c0:=DR.cellAt hxl hown 0 AK;have c1:=DR.cellAt hxl hown 1 AK;have d0:=hxd.get 0;have d1:=hxd.get 1;have d2:=hxd.get 2;have HX:AO ((X:Int)%18446744073709551616=xs.getD 0 0+xs.getD 1 0*4294967296):=by
    show _=_
    rw[<-hxv]
    match xs,hxl with
    |[a,b,d],_=>
     simp only[List.getD_cons_zero,List.getD_cons_succ,val] at d0 d1 d2 |-;omega
   have HP:AO (X^e<=p*2^(64*e)/\p*2^(64*e)<(X+1)^e):=⟨hri.lo,by simpa using hri.hi⟩
   clear hri hxv hown hxd;generalize xs.getD 0 0=x0 at *;generalize xs.getD 1 0=x1 at *;obtain⟨d00,d01⟩:=d0;obtain⟨d10,d11⟩:=d1;go_wp2
   go_quiet (fail)
   go_wp2
   go_ret
   refine⟨X,?_,HP.o.1,HP.o.2,⟨hbel.os,hbel.tape,hbel.output,hbel.size,hbel.block⟩⟩;rw[HX.o];rfl
end Go.Proofs.YtjdhhgaelgemcaaGreatDoor
