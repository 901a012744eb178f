import Derived.Test.YthmeoilbmfdhfaaGreatMBase
open Go.Value renaming int->UE,pointer->UM,bool->UF,agg->UN
open Go.IntKind renaming i64->UO,u8->UH
open Go.Obj renaming cells->UP
open Go.Ending renaming returned->UQ
open Option renaming some->UI,none->UJ
open Go renaming World->UK
namespace Go.Proofs.YthmeoilbmfdhfaaGreat
set_option maxHeartbeats 4000000
set_option maxRecDepth 100000
set_option linter.unusedVariables false
def val (B:Int):List Int->Int
 |[]=>0
 |z::zs=>z+B*val B zs
def R2 (B:Int) (zs:List Int):Prop:=∀ z∈zs,0<=z/\z<B
theorem Lg (B:Int) (xs ys:List Int):val B (xs++ys)=val B xs+B^xs.length*val B ys:=by
 induction xs with
 |nil=>simp[val]
 |cons x xs ih=>simp only[List.cons_append,val,List.length_cons,ih,Int.pow_succ];grind
theorem OD (B:Int) (xs:List Int) (x:Int):val B (xs++[x])=val B xs+x*B^xs.length:=by
 rw[Lg];simp only[val];grind
theorem R2.tail {B:Int} {x:Int} {xs:List Int} (h:R2 B (x::xs)):R2 B xs:=λz hz=>h z (by simp[hz])
theorem R2.head {B:Int} {x:Int} {xs:List Int} (h:R2 B (x::xs)):0<=x/\x<B:=h x AM
theorem Lh {B:Int} (hB:0<B) {xs:List Int} (h:R2 B xs):0<=val B xs:=by
 induction xs with
 |nil=>simp[val]
 |cons x xs ih=>
  have:=h.head;have i:=ih h.tail;have:=Int.mul_nonneg (Int.le_of_lt hB) i;simp only[val];omega
theorem R3 {B:Int} (hB:0<B) {xs:List Int} (h:R2 B xs):val B xs<B^xs.length:=by
 induction xs with
 |nil=>simp[val]
 |cons x xs ih=>
  obtain⟨h0,h1⟩:=h.head;have i:=ih h.tail;have h2:B*(val B xs+1)<=B*B^xs.length:=Int.mul_le_mul_of_nonneg_left AK AK;simp only[val,List.length_cons,Int.pow_succ]
  grind
theorem OF (B:Int) (xs:List Int) (k:Nat) (h:k<xs.length):val B (xs.take (k+1))=val B (xs.take k)+xs.getD k 0*B^k:=by
 have:xs.take (k+1)=xs.take k++[xs.getD k 0]:=by
  rw[BO h,Ao,BK h];rfl
 rw[this,OD,Az,Nat.min_eq_left AK]
end Go.Proofs.YthmeoilbmfdhfaaGreat
namespace Go.Proofs.YthmeoilbmfdhfaaGreat
open Go.ChangeShapes Go.WideShapes Go.ChangeAt Go.RowKit
set_option linter.unusedVariables false
theorem Li (a b:Int) (k:Nat) (ha:0<=a) (ha':a<18446744073709551616) (hb:0<=b) (hb':b<2^k) (hb'':b<18446744073709551616) (q:Int) (hd:a=q*2^k):bits .or .u64 a b=a+b:=by
 obtain⟨a,rfl⟩:=Ai ha;obtain⟨b,rfl⟩:=Ai hb;rw[u64_or_nat a b AK AK];have hq:0<=q:=by
  have hp:(0:Int)<2^k:=Int.pow_pos AL;rcases Int.lt_or_le q 0 with h|h
  ·have:=Int.mul_neg_of_neg_of_pos h hp;omega
  ·exact h
 obtain⟨q,rfl⟩:=Ai hq;have hd':a=q*2^k:=by exact_mod_cast hd
 have hb3:b<2^k:=by exact_mod_cast hb'
 have:=Nat.shiftLeft_add_eq_or_of_lt hb3 q;rw[Nat.shiftLeft_eq,<-hd'] at this;rw[<-this];simp
structure Hc (g:Nat) (w w':UK):Prop where
 os:w'.os=w.os
 tape:w'.tape=w.tape
 output:w'.output=w.output
 size:w.heap.size<=w'.heap.size
 block:∀ k,k<w.heap.size->k≠g->w'.heap[k]?=w.heap[k]?
theorem Hc.refl (g:Nat) (w:UK):Hc g w w:=⟨rfl,rfl,rfl,AY _,λ_ _ _=>rfl⟩
theorem Hc.trans {g:Nat} {a b c:UK} (h:Hc g a b) (k:Hc g b c):Hc g a c:=
 ⟨k.os.trans h.os,k.tape.trans h.tape,k.output.trans h.output,BC h.size k.size,λi hi hg=>(k.block i (Ax hi h.size) hg).trans (h.block i hi hg)⟩
theorem Wr.wrH {g:Nat} {w w':UK} (h:Wr g w w'):Hc g w w':=⟨h.os,h.tape,h.output,by rw[h.size];exact AY _,λk _ hg=>h.block k hg⟩
theorem Hc.of_below {g:Nat} {w w':UK} (h:Below w.heap.size w w'):Hc g w w':=⟨h.os,h.tape,h.output,h.size,λk hk _=>h.block k hk⟩
theorem Hc.below {g:Nat} {w w':UK} (h:Hc g w w') (B:Nat) (hB:B<=g) (hB':B<=w.heap.size):Below B w w':=⟨h.os,h.tape,h.output,h.size,λk hk=>h.block k AK AK⟩
def LY (w:UK) (g o:Nat) (bs:List Int):Prop:=bs.length=32/\Cu bs/\∀ i,i<32->w.cell? ⟨g,o+i,UJ⟩=UI (UE UH (bs.getD i 0))/\w.frozen? ⟨g,o+i,UJ⟩=false
def DV (bs:List Int) (P:Nat->Prop):Prop:=bs.length=32/\Cu bs/\∀ v,v<256->(bs.getD (v/8) 0/2^(v%8)%2=1↔P v)
theorem MM (x j:Nat):x/2^j%2=1↔x.testBit j=true:=by rw[Nat.testBit_eq_decide_div_mod_eq];simp
theorem JQ (x:Int) (k:Nat) (hx:0<=x) (hx':x<256) (hk:k<8):0<=bits .or UH x (2^k)/\bits .or UH x (2^k)<256/\∀ j,j<8->(bits .or UH x (2^k)/2^j%2=1↔(x/2^j%2=1\/j=k)):=by
 obtain⟨x,rfl⟩:=Ai hx;have h2:(2:Nat)^k<256:=by
  have:2^k<=2^7:=Nat.pow_le_pow_right AL AK;omega
 have e:bits .or UH (x:Int) (2^k)=((x ||| 2^k:Nat):Int):=by
  rw[show((2:Int)^k)=((2^k:Nat):Int) by simp];exact u8_or_nat x (2^k) AK h2
 rw[e];have hlt:x ||| 2^k<2^8:=Nat.or_lt_two_pow AK AK;refine⟨AK,AK,λj hj=>?_⟩;have q:∀ y:Nat,((y:Int)/2^j%2=1↔y.testBit j=true):=λy=>by
  rw[<-MM];rw[show((2:Int)^j)=((2^j:Nat):Int) by simp,<-Int.natCast_ediv];omega
 rw[q,q,Nat.testBit_or,Nat.testBit_two_pow];simp only[Bool.or_eq_true,decide_eq_true_eq];constructor
 ·rintro (h|h)
  ·exact .inl h
  ·exact .inr h.symm
 ·rintro (h|h)
  ·exact .inl h
  ·exact .inr h.symm
theorem QK:∀ k,k<8->∀ j,j<8->(255-2^k).testBit j=decide (j≠k):=AL
theorem Ip (x:Int) (k:Nat) (hx:0<=x) (hx':x<256) (hk:k<8):0<=bits .andNot UH x (2^k)/\bits .andNot UH x (2^k)<256/\∀ j,j<8->(bits .andNot UH x (2^k)/2^j%2=1↔(x/2^j%2=1/\j≠k)):=by
 obtain⟨x,rfl⟩:=Ai hx;have h2:(2:Nat)^k<256:=by
  have:2^k<=2^7:=Nat.pow_le_pow_right AL AK;omega
 have e:bits .andNot UH (x:Int) (2^k)=((x &&& (255-2^k):Nat):Int):=by
  rw[show((2:Int)^k)=((2^k:Nat):Int) by simp];exact u8_andNot_nat x (2^k) AK h2
 rw[e];have hlt:x &&& (255-2^k)<2^8:=Nat.and_lt_two_pow _ (Nat.lt_of_le_of_lt (Nat.sub_le _ _) AL);refine⟨AK,AK,λj hj=>?_⟩;have q:∀ y:Nat,((y:Int)/2^j%2=1↔y.testBit j=true):=λy=>by
  rw[<-MM];rw[show((2:Int)^j)=((2^j:Nat):Int) by simp,<-Int.natCast_ediv];omega
 rw[q,q,Nat.testBit_and,QK k hk j hj];simp
theorem Ed (bs:List Int) (q i:Nat) (x:Int) (hq:q<bs.length):(bs.set q x).getD i 0=if i=q then x else bs.getD i 0:=by
 rw[Ao,List.getElem?_set];by_cases h:q=i
 ·subst h;simp[hq]
 ·rw[AS h,AS (Bs h),Ao]
def EC (bs:List Int) (v:Nat):List Int:=bs.set (v/8) (bits .or UH (bs.getD (v/8) 0) (2^(v%8)))
def FD (bs:List Int) (v:Nat):List Int:=bs.set (v/8) (bits .andNot UH (bs.getD (v/8) 0) (2^(v%8)))
theorem Hg {bs:List Int} (h:Cu bs) (q:Nat) (x:Int) (h0:0<=x) (h1:x<256):Cu (bs.set q x):=λz hz=>by
 rcases List.mem_or_eq_of_mem_set hz with h'|h'
 ·exact h z h'
 ·rw[h'];exact⟨h0,h1⟩
theorem DV.add {bs:List Int} {P:Nat->Prop} (h:DV bs P) (v:Nat) (hv:v<256):DV (EC bs v) (λu=>P u\/u=v):=by
 obtain⟨h1,h2,h3⟩:=h;have hx:=h2.get (v/8);obtain⟨a,b,c⟩:=JQ _ (v%8) hx.1 hx.2 AK;refine⟨by unfold EC;rw[List.length_set];exact h1,Hg h2 _ _ a b,λu hu=>?_⟩;unfold EC;rw[Ed _ _ _ _ AK];by_cases hq:u/8=v/8
 ·rw[AR hq,c (u%8) AK,<-hq,h3 u hu];constructor
  ·rintro (h|h)
   ·exact .inl h
   ·exact .inr AK
  ·rintro (h|h)
   ·exact .inl h
   ·exact .inr AK
 ·rw[AS hq,h3 u hu];constructor
  ·exact .inl
  ·rintro (h|h)
   ·exact h
   ·omega
theorem DV.rem {bs:List Int} {P:Nat->Prop} (h:DV bs P) (v:Nat) (hv:v<256):DV (FD bs v) (λu=>P u/\u≠v):=by
 obtain⟨h1,h2,h3⟩:=h;have hx:=h2.get (v/8);obtain⟨a,b,c⟩:=Ip _ (v%8) hx.1 hx.2 AK;refine⟨by unfold FD;rw[List.length_set];exact h1,Hg h2 _ _ a b,λu hu=>?_⟩;unfold FD;rw[Ed _ _ _ _ AK];by_cases hq:u/8=v/8
 ·rw[AR hq,c (u%8) AK,<-hq,h3 u hu];constructor
  ·rintro⟨h,h'⟩;exact⟨h,AK⟩
  ·rintro⟨h,h'⟩;exact⟨h,AK⟩
 ·rw[AS hq,h3 u hu];constructor
  ·intro h;exact⟨h,AK⟩
  ·exact λh=>h.1
def FG (v:Int):Bool:=decide (0<=v/\v<256)
def JR (v:Int):Bool:=decide (0<=v/\v<=4294967295)
theorem Da (v:Int) (w:UK):Calls Tryz.prog 135 #[UE UO v] w λe w'=>e=UQ (UF (FG v))/\w'=w:=by
 by_cases h0:0<=v
 ·by_cases h1:v<256
  ·have HD:AP (FG v=true):=BJ ⟨h0,h1⟩;go_enter Tryz.func135,Tryz.ntmps135;go_wp2
   go_ret
   exact⟨by rw[HD.o];rfl,rfl⟩
  ·have HD:AP (FG v=false):=Ar (λh=>h1 h.2);go_enter Tryz.func135,Tryz.ntmps135;go_wp2
   go_ret
   exact⟨by rw[HD.o];rfl,rfl⟩
 ·have HD:AP (FG v=false):=Ar (λh=>h0 h.1);go_enter Tryz.func135,Tryz.ntmps135;go_wp2
  go_ret
  exact⟨by rw[HD.o];rfl,rfl⟩
theorem M5 (v:Int) (w:UK):Calls Tryz.prog 138 #[UE UO v] w λe w'=>e=UQ (UF (JR v))/\w'=w:=by
 by_cases h0:0<=v
 ·by_cases h1:v<=4294967295
  ·have HD:AP (JR v=true):=BJ ⟨h0,h1⟩;go_enter Tryz.func138,Tryz.ntmps138;go_wp2
   go_ret
   exact⟨by rw[HD.o];rfl,rfl⟩
  ·have HD:AP (JR v=false):=Ar (λh=>h1 h.2);go_enter Tryz.func138,Tryz.ntmps138;go_wp2
   go_ret
   exact⟨by rw[HD.o];rfl,rfl⟩
 ·have HD:AP (JR v=false):=Ar (λh=>h0 h.1);go_enter Tryz.func138,Tryz.ntmps138;go_wp2
  go_ret
  exact⟨by rw[HD.o];rfl,rfl⟩
theorem MN (v:Nat):(2:Int)^(v%8)%256=2^(v%8):=by
 have:v%8=0\/v%8=1\/v%8=2\/v%8=3\/v%8=4\/v%8=5\/v%8=6\/v%8=7:=AK
 rcases this with h|h|h|h|h|h|h|h<;>rw[h]<;>decide
theorem Iq (g o v:Nat) (bs:List Int) (w:UK) (hv:v<256) (hb:LY w g o bs) :
  Calls Tryz.prog 136 #[UM (UI ⟨g,o,UJ⟩),UE UO v] w λe w'=>e=UQ (.tuple #[])/\∃ q,w'=(w.setCell ⟨g,o+v/8,UJ⟩ (UE UH ((EC bs v).getD (v/8) 0))).drewN q:=by
 obtain⟨h1,h2,h3⟩:=hb;obtain⟨c0,f0⟩:=h3 (v/8) AK;obtain⟨x0,x1⟩:=h2.get (v/8);have HX:AP ((EC bs v).getD (v/8) 0=bits .or UH (bs.getD (v/8) 0) (2^(v%8))):=by
  show _=_
  unfold EC;rw[Ed _ _ _ _ AK,AR rfl]
 have HM:AP ((2:Int)^(v%8)%256=2^(v%8)):=MN v;have hv':(v:Int)<256:=AK
 have hv8:(v:Int)/8<32:=AK
 clear h1 h2 h3;generalize bs.getD (v/8) 0=x at *;go_enter Tryz.func136,Tryz.ntmps136
 go_region
 rw[HM.o,<-HX.o]
 go_end0
 exact⟨rfl,1,rfl⟩
theorem KU (g o v:Nat) (bs:List Int) (w:UK) (hv:v<256) (hb:LY w g o bs) :
  Calls Tryz.prog 139 #[UM (UI ⟨g,o,UJ⟩),UE UO v] w λe w'=>e=UQ (.tuple #[])/\∃ q,w'=(w.setCell ⟨g,o+v/8,UJ⟩ (UE UH ((FD bs v).getD (v/8) 0))).drewN q:=by
 obtain⟨h1,h2,h3⟩:=hb;obtain⟨c0,f0⟩:=h3 (v/8) AK;obtain⟨x0,x1⟩:=h2.get (v/8);have HX:AP ((FD bs v).getD (v/8) 0=bits .andNot UH (bs.getD (v/8) 0) (2^(v%8))):=by
  show _=_
  unfold FD;rw[Ed _ _ _ _ AK,AR rfl]
 have HM:AP ((2:Int)^(v%8)%256=2^(v%8)):=MN v;have hv':(v:Int)<256:=AK
 have hv8:(v:Int)/8<32:=AK
 clear h1 h2 h3;generalize bs.getD (v/8) 0=x at *;go_enter Tryz.func139,Tryz.ntmps139
 go_region
 rw[HM.o,<-HX.o]
 go_end0
 exact⟨rfl,1,rfl⟩
theorem Hh (g o:Nat) (v:Int) (bs:List Int) (P:Nat->Prop) (q:Bool) (w:UK) (hb:LY w g o bs) (hs:DV bs P) (hq:q=true↔(0<=v/\v<256/\P v.toNat)) :
  Calls Tryz.prog 137 #[UM (UI ⟨g,o,UJ⟩),UE UO v] w λe w'=>e=UQ (UF q)/\w'=w:=by
 by_cases hv:0<=v/\v<256
 ·obtain⟨h0,h1⟩:=hv;obtain⟨v,rfl⟩:=Ai h0;obtain⟨l1,l2,l3⟩:=hb;obtain⟨c0,f0⟩:=l3 (v/8) AK;obtain⟨x0,x1⟩:=l2.get (v/8);have hbit:=hs.2.2 v AK;have HSO:AP (FG (v:Int)=true):=BJ ⟨h0,h1⟩;have hpp:(0:Int)<2^(v%8):=Int.pow_pos AL;have y0:0<=bs.getD (v/8) 0/2^(v%8):=Int.ediv_nonneg x0 AK;have y1:bs.getD (v/8) 0/2^(v%8)<=bs.getD (v/8) 0:=Int.ediv_le_self _ x0;have HA:AP (bits .and UH (bs.getD (v/8) 0/2^(v%8)) 1=bs.getD (v/8) 0/2^(v%8)%2):=by
   show _=_
   obtain⟨y,hy⟩:=Ai y0;rw[hy];have:=u8_and_nat y 1 AK AL;rw[show((1:Int))=((1:Nat):Int) from rfl,this,Nat.and_one_is_mod];omega
  have HQ:AP ((bs.getD (v/8) 0/2^(v%8)%2 == 1)=q):=by
   show _=_
   have h2:bs.getD (v/8) 0/2^(v%8)%2=0\/bs.getD (v/8) 0/2^(v%8)%2=1:=AK
   rcases h2 with h2|h2
   ·rw[h2];cases q with
    |false=>rfl
    |true=>
     have:=hq.1 rfl;have:=hbit.2 (by simpa using this.2.2);omega
   ·rw[h2];cases q with
    |true=>rfl
    |false=>
     have:=hq.2 ⟨h0,h1,by simpa using hbit.1 h2⟩;cases this
  have hv8:(v:Int)/8<32:=AK
  clear l1 l2 l3 hbit hs hq hpp;generalize bs.getD (v/8) 0=x at *;go_enter Tryz.func137,Tryz.ntmps137;go_wp2_with fail;refine(Da _ _).mono ?_;rintro e w1 ⟨rfl,rfl⟩;rw[HSO.o];go_wp2;rw[HA.o,HQ.o]
  go_ret
  exact⟨rfl,rfl⟩
 ·have HSO:AP (FG v=false):=Ar hv;have HQ:AP (q=false):=by
   show _=_
   cases q with
   |false=>rfl
   |true=>exact absurd ⟨(hq.1 rfl).1,(hq.1 rfl).2.1⟩ hv
  clear hv hq hb hs;go_enter Tryz.func137,Tryz.ntmps137;go_wp2_with fail;refine(Da _ _).mono ?_;rintro e w1 ⟨rfl,rfl⟩;rw[HSO.o];go_wp2
  go_ret
  exact⟨by rw[HQ.o];rfl,rfl⟩
def QL (xs:List Int) (i:Nat):Prop:=0<=xs.getD i 0/\xs.getD i 0<256/\(0<i->xs.getD (i-1) 0<xs.getD i 0)
def Dj (xs:List Int):Prop:=∀ i,i<xs.length->QL xs i
open Classical in
noncomputable def Fl (xs:List Int):Bool:=decide (Dj xs)
theorem Hi (xs:List Int):Fl xs=true↔Dj xs:=by unfold Fl;simp
theorem F5 {xs:List Int} (h:¬ Dj xs):Fl xs=false:=by unfold Fl;simp[h]
theorem E6 {xs:List Int} (h:Dj xs):Fl xs=true:=by unfold Fl;simp[h]
theorem G8 {fn:Func} {p u:Tmp} (h:fn.results=#[.cell p 75,.tmp u]) (tmps:Array Value) (w:UK) (g:Nat) (cs:Array Value) (v:Value) (hv:tmps.getD u undef=v)
  (hp:tmps.getD p undef=UM (UI ⟨g,0,UJ⟩)) (hr:w.heap[g]?=UI (UP cs 75 (0,0))) (hs:(Tryz.prog.info? 75).map (·.size)=UI cs.size) :
  (results fn tmps).run Tryz.prog w=.ok (.tuple #[UN cs,v]) w:=by
 have hp':tmps[p]?.getD undef=UM (UI ⟨g,0,UJ⟩):=by simpa using hp
 have hv':tmps[u]?.getD undef=v:=by simpa using hv
 have hl:=run_loadVar_row (P:=Tryz.prog) w g 75 75 cs (0,0) _ hr Tryz.underlying75 rfl hs;simp[results,h,hp',hv',asAddr,hl]
def KV:List Int:=[0,0,0,0,0,0,0,0,0,0,0,0,0,0,0,0,0,0,0,0,0,0,0,0,0,0,0,0,0,0,0,0]
theorem Jp:DV KV (λ_=>False):=by
 refine⟨rfl,by unfold Cu KV;decide,λv hv=>⟨λh=>?_,λh=>h.elim⟩⟩;have e:KV.getD (v/8) 0=0:=by
  have:v/8<32:=AK
  generalize v/8=q at *;have hq:∀ q,q<32->KV.getD q 0=0:=AL
  exact hq q this
 rw[e] at h;simp at h
theorem DV.congr {bs:List Int} {P Q:Nat->Prop} (h:DV bs P) (hq:∀ v,v<256->(P v↔Q v)):DV bs Q:=⟨h.1,h.2.1,λv hv=>(h.2.2 v hv).trans (hq v hv)⟩
theorem DP.bat {w:UK} {g:Nat} {t:TypeId} {bs:List Int} (h:DP w g t bs) (hl:bs.length=32) (hb:Cu bs):LY w g 0 bs:=⟨hl,hb,λi hi=>by rw[Ak];exact⟨h.cell i AK,h.frozen i⟩⟩
theorem Tryz.sizeSS:(Tryz.prog.info? 75).map (·.size)=UI 32:=AN
structure TQ (w:UK) (xs:List Int) (k:Nat) (wr:UK):Prop where
 below:Below w.heap.size w wr
 res:DP wr w.heap.size 75 KV
 set:∃ bs,DP wr (w.heap.size+1) 75 bs/\DV bs (λv=>(v:Int)∈xs.take k)
 ok:∀ i,i<k->QL xs i
def Fm (xs:List Int) (k:Nat):Int:=if k=0 then -1 else xs.getD (k-1) 0
def T3 (w:UK) (xs:List Int) (e:Ending) (w':UK):Prop:=
 ∃ bs,e=UQ (.tuple #[UN (bs.map (Value.int UH)).toArray,UF (Fl xs)])/\bs.length=32/\Cu bs/\(Dj xs->DV bs (λv=>(v:Int)∈xs))/\Below w.heap.size w w'
theorem II (a:Option Addr) (n cap:Nat) (xs:List Int) (w:UK) (hn:xs.length=n) (hm:n<=1048576) (ha:At UO w a xs) :
  Calls Tryz.prog 83 #[.slice a n cap] w (T3 w xs):=by
 have HS:AP (TQ w xs 0 ((w.alloc (UP Ck 75)).alloc (UP Ck 75))):=by
  have bb:Below w.heap.size w ((w.alloc (UP Ck 75)).alloc (UP Ck 75)):=(Cs.alloc Cw _).alloc AM _;refine⟨bb,?_,⟨KV,?_,Jp.congr (λv _=>AM)⟩,λi hi=>AK⟩
  ·show _=_
   rw[BH _ _ w.heap.size AM];exact AV w _
  ·show _=_
   have:=AV (w.alloc (UP Ck 75)) (UP Ck 75)
   rwa [show(w.alloc (UP Ck 75)).heap.size=w.heap.size+1 by simp] at this
 have HA:AP (At UO w a xs):=ha;have HNX:AP (xs.length=n):=hn;clear ha hn;go_enter Tryz.func83,Tryz.ntmps83;go_wp2_with fail;generalize ((w.alloc (UP Ck 75)).alloc (UP Ck 75))=w0 at *
 go_loopw [5,10] (λl i wr=>∃ k:Nat,k<=n/\i=UE UO k/\l=UE UO (Fm xs k)/\TQ w xs k wr) (λ_ i _=>n-(intOf i).toNat)
 case atStart=>exact⟨0,Aj _,rfl,rfl,HS.o⟩
 case round=>
  clear HS;obtain⟨k,hk,rfl,rfl,hst⟩:=hrel;by_cases hlt:k<n
  ·have hlt':(k:Int)<n:=AK
   obtain⟨b,off,ea,hb,hc⟩:=(HA.o.below hst.below).get (AG HNX.o);have hck:=hc k (AG HNX.o);have HST:AP (TQ w xs k wr):=hst;have HEA:AP (a=UI ⟨b,off,UJ⟩):=ea;subst ea;clear hst hc hb;by_cases hle:xs.getD k 0<=Fm xs k
   ·have HNO:AP (¬ Dj xs):=λh=>by
     have q:=h k (AG HNX.o);unfold Fm at hle;by_cases h0:k=0
     ·rw[AR h0] at hle;have:=q.1;omega
     ·rw[AS h0] at hle;have:=q.2.2 AK;omega
    have HR:AP (wr.heap[w.heap.size]?=UI (UP (KV.map (Value.int UH)).toArray 75 (0,0))):=HST.o.res;generalize xs.getD k 0=v at *;generalize Fm xs k=l at *;go_wp2_with (first
     |(refine AC 75 (.tmp 2) (.tmp 22) w.heap.size ((KV.map (Value.int UH)).toArray) 75 HR.o Tryz.sizeSS rfl (all_oneCell_toArray (Bb _ _)) ?_)
     |fail)
    refine AZ (v:=.tuple #[UN (KV.map (Value.int UH)).toArray,UF false]) (G8 rfl _ _ w.heap.size _ _ rfl rfl (AB HR.o) Tryz.sizeSS) rfl ?_;exact⟨KV,by rw[F5 HNO.o],rfl,Jp.2.1,λh=>absurd h HNO.o,HST.o.below.trans ((Wr.setRow _ _ _).below Cw)⟩
   ·by_cases hso:0<=xs.getD k 0/\xs.getD k 0<256
    ·obtain⟨v,hv⟩:=Ai hso.1;have hv256:v<256:=AK
     have HSO:AP (FG (v:Int)=true):=BJ ⟨AK,AK⟩;obtain⟨bs,hrow,hset⟩:=HST.o.set;have HBT:AP (LY wr (w.heap.size+1) 0 bs):=hrow.bat hset.1 hset.2.1;have HN:∀ q,AP (TQ w xs (k+1) ((wr.setCell ⟨w.heap.size+1,0+v/8,UJ⟩ (UE UH ((EC bs v).getD (v/8) 0))).drewN q)):=λq=>by
      have hr2:=hrow.set (v/8) ((EC bs v).getD (v/8) 0);have e2:bs.set (v/8) ((EC bs v).getD (v/8) 0)=EC bs v:=by
       unfold EC;rw[Ed _ _ _ _ (AG hset.1),AR rfl]
      rw[e2] at hr2;have hw:Wr (w.heap.size+1) wr (wr.setCell ⟨w.heap.size+1,v/8,UJ⟩ (UE UH ((EC bs v).getD (v/8) 0))):=(Wr.refl _ _).setCell _ _;rw[Ak];refine⟨?_,?_,⟨EC bs v,hr2,(hset.add v hv256).congr (λu hu=>?_)⟩,λi hi=>?_⟩
      ·have bq:=HST.o.below.trans (hw.below AK);exact⟨bq.os,bq.tape,bq.output,bq.size,bq.block⟩
      ·have:=HST.o.res;show _=_
       exact(hw.block _ AK).trans this
      ·rw[FQ xs k (AG HNX.o),CV,hv];simp only[List.mem_cons,List.not_mem_nil,or_false];constructor
       ·rintro (h|h)
        ·exact .inl h
        ·exact .inr AK
       ·rintro (h|h)
        ·exact .inl h
        ·exact .inr AK
      ·by_cases hik:i<k
       ·exact HST.o.ok i hik
       ·have:i=k:=AK
        subst this;refine⟨hso.1,hso.2,λh0=>?_⟩;unfold Fm at hle;rw[AS AK] at hle;omega
     have HL:AP (Fm xs (k+1)=(v:Int)):=by show _=_;unfold Fm;rw[AS AK,B7];exact hv
     rw[hv] at hck hle;clear hso hrow hset hv;generalize Fm xs k=l at *;go_wp2_with fail;refine(Da _ _).mono ?_;rintro e w1 ⟨rfl,rfl⟩;rw[HSO.o];go_wp2_with fail;refine(Iq (w.heap.size+1) 0 v bs _ hv256 HBT.o).mono ?_;rintro e w2 ⟨rfl,q,rfl⟩;have H2:=HN q;clear HN HBT HST;generalize (w1.setCell ⟨w.heap.size+1,0+v/8,UJ⟩ (UE UH ((EC bs v).getD (v/8) 0))).drewN q=w2 at *;go_wp2;go_roundw
     case rel=>exact⟨k+1,AK,by go_num,by rw[HL.o],H2.o⟩
     case measure=>simp[intOf];omega
    ·have HSO:AP (FG (xs.getD k 0)=false):=Ar hso;have HNO:AP (¬ Dj xs):=λh=>hso ⟨(h k (AG HNX.o)).1,(h k (AG HNX.o)).2.1⟩
     have HR:AP (wr.heap[w.heap.size]?=UI (UP (KV.map (Value.int UH)).toArray 75 (0,0))):=HST.o.res;clear hso;generalize xs.getD k 0=v at *;generalize Fm xs k=l at *;go_wp2_with fail;refine(Da _ _).mono ?_;rintro e w1 ⟨rfl,rfl⟩;rw[HSO.o];go_wp2_with (first
      |(refine AC 75 (.tmp 2) (.tmp 22) w.heap.size ((KV.map (Value.int UH)).toArray) 75 HR.o Tryz.sizeSS rfl (all_oneCell_toArray (Bb _ _)) ?_)
      |fail)
     refine AZ (v:=.tuple #[UN (KV.map (Value.int UH)).toArray,UF false]) (G8 rfl _ _ w.heap.size _ _ rfl rfl (AB HR.o) Tryz.sizeSS) rfl ?_;exact⟨KV,by rw[F5 HNO.o],rfl,Jp.2.1,λh=>absurd h HNO.o,HST.o.below.trans ((Wr.setRow _ _ _).below Cw)⟩
  ·have hkn:k=n:=AK
   have hlt':¬ ((k:Int)<n):=AK
   obtain⟨bs,hrow,hset⟩:=hst.set;have HYE:AP (Dj xs):=λi hi=>hst.ok i (AG HNX.o)
   have HBS:AP (bs.length=32/\Cu bs/\DV bs (λv=>(v:Int)∈xs)):=⟨hset.1,hset.2.1,hset.congr (λv _=>by rw[An (AG HNX.o)])⟩
   have HR:AP (wr.heap[w.heap.size]?=UI (UP (KV.map (Value.int UH)).toArray 75 (0,0))):=hst.res;have HL:AP (wr.heap[w.heap.size+1]?=UI (UP (bs.map (Value.int UH)).toArray 75 (0,0))):=hrow;have HSZ:AP ((Tryz.prog.info? 75).map (·.size)=UI ((bs.map (Value.int UH)).toArray).size):=by show _=_;rw[Tryz.sizeSS];simp[hset.1]
   have HEQ:AP (((KV.map (Value.int UH)).toArray).size=((bs.map (Value.int UH)).toArray).size):=by show _=_;simp[hset.1,KV]
   have HBW:AP (Below w.heap.size w wr):=hst.below;clear hst hrow hset;generalize Fm xs k=l at *;go_wp2_with (first
    |(refine Ab rfl 75 (.tmp 4) rfl (w.heap.size+1) rfl 75 _ (0,0) _ HL.o Tryz.underlying75 rfl HSZ.o ?_)
    |(refine AC 75 (.tmp 2) (.tmp 27) w.heap.size ((bs.map (Value.int UH)).toArray) 75 HR.o HSZ.o HEQ.o (all_oneCell_toArray (Bb _ _)) ?_)
    |fail)
   refine AZ (v:=.tuple #[UN (bs.map (Value.int UH)).toArray,UF true]) (G8 rfl _ _ w.heap.size _ _ rfl rfl (AB HR.o) HSZ.o) rfl ?_;exact⟨bs,by rw[E6 HYE.o],HBS.o.1,HBS.o.2.1,λ_=>HBS.o.2.2,HBW.o.trans ((Wr.setRow _ _ _).below Cw)⟩
def Jq (U T:List Int) (i:Nat):Prop:=T.getD (i*2) 0∈U/\(0<=T.getD (i*2+1) 0/\T.getD (i*2+1) 0<=4294967295)/\∀ j,j<i->T.getD (j*2) 0≠T.getD (i*2) 0
def KW (U T:List Int) (n:Nat):Prop:=∀ i,i<n->Jq U T i
open Classical in
noncomputable def Jr (U T:List Int) (n:Nat):Bool:=decide (KW U T n)
theorem Js {U T:List Int} {n:Nat} (h:¬ KW U T n):Jr U T n=false:=by unfold Jr;simp[h]
theorem KX {U T:List Int} {n:Nat} (h:KW U T n):Jr U T n=true:=by unfold Jr;simp[h]
theorem DP.low {w w':UK} {g:Nat} {t:TypeId} {bs:List Int} {B:Nat} (h:DP w g t bs) (b:Below B w w') (hg:g<B):DP w' g t bs:=by unfold DP;rw[b.block g hg];exact h
structure TR (w:UK) (U T:List Int) (k:Nat) (wr:UK):Prop where
 below:Below w.heap.size w wr
 set:∃ bs,DP wr w.heap.size 75 bs/\DV bs (λv=>(v:Int)∈U/\∀ j,j<k->T.getD (j*2) 0≠(v:Int))
 ok:∀ i,i<k->Jq U T i
open Classical in
theorem KY (a:Option Addr) (n cap:Nat) (U T us:List Int) (w:UK) (hn:T.length=n*2) (hm:n<=1048576) (ha:At UO w a T) (hU:Dj U) (hs:DV us (λv=>(v:Int)∈U)) :
  Calls Tryz.prog 84 #[.slice a n cap,UN (us.map (Value.int UH)).toArray] w λe w'=>e=UQ (UF (Jr U T n))/\Below w.heap.size w w':=by
 have HS:AP (TR w U T 0 (w.alloc (UP (us.map (Value.int UH)).toArray 75))):=
  ⟨Cs.alloc Cw _,⟨us,AV w _,hs.congr (λv _=>⟨λh=>⟨h,λj hj=>AK⟩,λh=>h.1⟩)⟩,λi hi=>AK⟩
 have HA:AP (At UO w a T):=ha;have HNX:AP (T.length=n*2):=hn;have HUR:AP (∀ z∈U,0<=z/\z<256):=λz hz=>by
  obtain⟨i,hi,rfl⟩:=CP hz;have:=hU i hi;rw[show U[i]=U.getD i 0 by simp[List.getD,hi]];exact⟨this.1,this.2.1⟩
 clear ha hn hs hU;go_enter Tryz.func84,Tryz.ntmps84;go_wp2_with fail;generalize w.alloc (UP (us.map (Value.int UH)).toArray 75)=w0 at *
 go_loopw [9] (λi wr=>∃ k:Nat,k<=n/\i=UE UO k/\TR w U T k wr) (λi _=>n-(intOf i).toNat)
 case atStart=>exact⟨0,Aj _,rfl,HS.o⟩
 case round=>
  clear HS;obtain⟨k,hk,rfl,hst⟩:=hrel;by_cases hlt:k<n
  ·have hlt':(k:Int)<n:=AK
   obtain⟨b,off,ea,hb,hc⟩:=(HA.o.below hst.below).get (AG HNX.o);have c0:=hc (k*2) (AG HNX.o);have c1:=hc (k*2+1) (AG HNX.o);rw[<-Ap] at c1;have HST:AP (TR w U T k wr):=hst;subst ea;obtain⟨bs,hrow,hset⟩:=hst.set;have HTI:AP (Jq U T k↔(T.getD (k*2) 0∈U/\(0<=T.getD (k*2+1) 0/\T.getD (k*2+1) 0<=4294967295)/\∀ j,j<k->T.getD (j*2) 0≠T.getD (k*2) 0)):=Iff.rfl;generalize hs':T.getD (k*2) 0=s at *;generalize hn':T.getD (k*2+1) 0=nw at *;have b1:Below wr.heap.size wr (wr.alloc (UP #[UE UO s,UE UO nw] 133)):=Cs.alloc Cw _;have hrow1:DP (wr.alloc (UP #[UE UO s,UE UO nw] 133)) w.heap.size 75 bs:=hrow.low b1 hrow.lt;have HBT:AP (LY (wr.alloc (UP #[UE UO s,UE UO nw] 133)) w.heap.size 0 bs):=hrow1.bat hset.1 hset.2.1;have HB1:AP (Below w.heap.size w (wr.alloc (UP #[UE UO s,UE UO nw] 133))):=HST.o.below.trans (b1.mono HST.o.below.size);have HSB:AP (DV bs (λv=>(v:Int)∈U/\∀ j,j<k->T.getD (j*2) 0≠(v:Int))):=hset;have HRW:AP (DP (wr.alloc (UP #[UE UO s,UE UO nw] 133)) w.heap.size 75 bs):=hrow1;have HHQ:AP (decide (s∈U/\∀ j,j<k->T.getD (j*2) 0≠s)=true↔(0<=s/\s<256/\((s.toNat:Int)∈U/\∀ j,j<k->T.getD (j*2) 0≠(s.toNat:Int)))):=by
    show _↔_
    rw[CB];constructor
    ·rintro⟨h1,h2⟩;obtain⟨r0,r1⟩:=HUR.o s h1;have e:(s.toNat:Int)=s:=Bm r0;rw[e];exact⟨r0,r1,h1,h2⟩
    ·rintro⟨r0,r1,h⟩;have e:(s.toNat:Int)=s:=Bm r0
     rwa [e] at h
   clear hst hc hb hrow hset hrow1 b1;go_wp2_with fail;generalize hW:wr.alloc (UP #[UE UO s,UE UO nw] 133)=w1 at *;have hc10:w1.cell? ⟨wr.heap.size,1,UJ⟩=UI (UE UO nw):=by rw[<-hW];exact AA (AV wr _) _
   have hc00:w1.cell? ⟨wr.heap.size,0,UJ⟩=UI (UE UO s):=by rw[<-hW];exact AA (AV wr _) _
   have hwl:w.heap.size<wr.heap.size:=by obtain⟨b',r',_⟩:=HST.o.set;exact r'.lt
   clear hW;refine(Hh w.heap.size 0 s bs _ (decide (s∈U/\∀ j,j<k->T.getD (j*2) 0≠s)) _ HBT.o HSB.o HHQ.o).mono ?_;rintro e w2 ⟨rfl,rfl⟩;by_cases hin:s∈U/\∀ j,j<k->T.getD (j*2) 0≠s
   ·rw[BJ hin];have HIN:AP (s∈U/\∀ j,j<k->T.getD (j*2) 0≠s):=hin;clear hin HHQ;go_wp2_with fail;refine(M5 _ _).mono ?_;rintro e w3 ⟨rfl,rfl⟩;by_cases hno:0<=nw/\nw<=4294967295
    ·have HNO:AP (JR nw=true):=BJ hno;obtain⟨r0,r1⟩:=HUR.o s HIN.o.1;obtain⟨v,hv⟩:=Ai r0;have hv256:v<256:=AK
     have HN:∀ q,AP (TR w U T (k+1) ((w3.setCell ⟨w.heap.size,0+v/8,UJ⟩ (UE UH ((FD bs v).getD (v/8) 0))).drewN q)):=λq=>by
      have hr2:=HRW.o.set (v/8) ((FD bs v).getD (v/8) 0);have e2:bs.set (v/8) ((FD bs v).getD (v/8) 0)=FD bs v:=by
       unfold FD;rw[Ed _ _ _ _ (AG HSB.o.1),AR rfl]
      rw[e2] at hr2;have hw:Wr w.heap.size w3 (w3.setCell ⟨w.heap.size,v/8,UJ⟩ (UE UH ((FD bs v).getD (v/8) 0))):=(Wr.refl _ _).setCell _ _;rw[Ak];refine⟨?_,⟨FD bs v,hr2,(HSB.o.rem v hv256).congr (λu hu=>?_)⟩,λi hi=>?_⟩
      ·have bq:=HB1.o.trans (hw.below Cw);exact⟨bq.os,bq.tape,bq.output,bq.size,bq.block⟩
      ·constructor
       ·rintro⟨⟨h1,h2⟩,h3⟩;refine⟨h1,λj hj=>?_⟩;by_cases hjk:j<k
        ·exact h2 j hjk
        ·have:j=k:=AK
         subst this;rw[hs',hv];intro e;exact h3 AK
       ·rintro⟨h1,h2⟩;refine⟨⟨h1,λj hj=>h2 j AK⟩,λe=>?_⟩;have:=h2 k AK;rw[hs',hv,e] at this;exact this rfl
      ·by_cases hik:i<k
       ·exact HST.o.ok i hik
       ·have:i=k:=AK
        subst this;exact HTI.o.2 ⟨HIN.o.1,hno,HIN.o.2⟩
     rw[HNO.o];clear hno r0 r1 HIN;subst hv;go_wp2_with fail;refine(KU w.heap.size 0 v bs _ hv256 HBT.o).mono ?_;rintro e w4 ⟨rfl,q,rfl⟩;have H2:=HN q;clear HN HBT HST HRW HSB HB1;generalize (w3.setCell ⟨w.heap.size,0+v/8,UJ⟩ (UE UH ((FD bs v).getD (v/8) 0))).drewN q=w4 at *;go_wp2;go_roundw
     case rel=>exact⟨k+1,AK,by go_num,H2.o⟩
     case measure=>simp[intOf];omega
    ·have HNO:AP (JR nw=false):=Ar hno;have HNT:AP (Jr U T n=false):=Js (λh=>hno (HTI.o.1 (h k hlt)).2.1);rw[HNO.o];clear hno;go_wp2
     go_ret
     exact⟨by rw[HNT.o];rfl,HB1.o⟩
   ·rw[Ar hin];have HNT:AP (Jr U T n=false):=Js (λh=>hin ⟨(HTI.o.1 (h k hlt)).1,(HTI.o.1 (h k hlt)).2.2⟩);clear hin HHQ;go_wp2
    go_ret
    exact⟨by rw[HNT.o];rfl,HB1.o⟩
  ·have hkn:k=n:=AK
   have hlt':¬ ((k:Int)<n):=AK
   have HNT:AP (Jr U T n=true):=KX (λi hi=>hst.ok i AK);have HBW:AP (Below w.heap.size w wr):=hst.below;clear hst;go_wp2
   go_ret
   exact⟨by rw[HNT.o];rfl,HBW.o⟩
end Go.Proofs.YthmeoilbmfdhfaaGreat
