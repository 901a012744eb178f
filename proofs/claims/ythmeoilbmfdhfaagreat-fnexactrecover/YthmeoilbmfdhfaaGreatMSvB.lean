import Derived.Test.YthmeoilbmfdhfaaGreatMDevRd
import Derived.Test.YthmeoilbmfdhfaaGreatMReg
import Derived.BigRegion
namespace Go.Proofs.YthmeoilbmfdhfaaGreat
open Go.ChangeShapes Go.WideShapes Go.ChangeAt Go.RowKit
set_option linter.unusedVariables false
def BAt (w:World) (g o:Nat) (bs:List Int):Prop:=bs.length=32∧Byte bs∧∀ i,i<32→w.cell? ⟨g,o+i,none⟩=some (.int .u8 (bs.getD i 0))∧w.frozen? ⟨g,o+i,none⟩=false
def SetB (bs:List Int) (P:Nat→Prop):Prop:=bs.length=32∧Byte bs∧∀ v,v<256→(bs.getD (v/8) 0/2^(v%8)%2=1↔P v)
theorem bit_nat (x j:Nat):x/2^j%2=1↔x.testBit j=true:=by rw[Nat.testBit_eq_decide_div_mod_eq];simp
theorem u8_or_bit (x:Int) (k:Nat) (hx:0≤x) (hx':x<256) (hk:k<8):0≤bits .or .u8 x (2^k)∧bits .or .u8 x (2^k)<256∧∀ j,j<8→(bits .or .u8 x (2^k)/2^j%2=1↔(x/2^j%2=1∨j=k)):=by
 obtain⟨x,rfl⟩:=Int.eq_ofNat_of_zero_le hx;have h2:(2:Nat)^k<256:=by
  have:2^k≤2^7:=Nat.pow_le_pow_right (by decide) (by omega);omega
 have e:bits .or .u8 (x:Int) (2^k)=((x ||| 2^k:Nat):Int):=by
  rw[show((2:Int)^k)=((2^k:Nat):Int) by simp];exact u8_or_nat x (2^k) (by omega) h2
 rw[e];have hlt:x ||| 2^k<2^8:=Nat.or_lt_two_pow (by omega) (by omega);refine⟨by omega,by omega,fun j hj=>?_⟩;have q:∀ y:Nat,((y:Int)/2^j%2=1↔y.testBit j=true):=fun y=>by
  rw[←bit_nat];rw[show((2:Int)^j)=((2^j:Nat):Int) by simp,←Int.natCast_ediv];omega
 rw[q,q,Nat.testBit_or,Nat.testBit_two_pow];simp only[Bool.or_eq_true,decide_eq_true_eq];constructor
 ·rintro (h|h)
  ·exact .inl h
  ·exact .inr h.symm
 ·rintro (h|h)
  ·exact .inl h
  ·exact .inr h.symm
theorem not_bit:∀ k,k<8→∀ j,j<8→(255-2^k).testBit j=decide (j≠k):=by decide
theorem u8_not_bit (x:Int) (k:Nat) (hx:0≤x) (hx':x<256) (hk:k<8):0≤bits .andNot .u8 x (2^k)∧bits .andNot .u8 x (2^k)<256∧∀ j,j<8→(bits .andNot .u8 x (2^k)/2^j%2=1↔(x/2^j%2=1∧j≠k)):=by
 obtain⟨x,rfl⟩:=Int.eq_ofNat_of_zero_le hx;have h2:(2:Nat)^k<256:=by
  have:2^k≤2^7:=Nat.pow_le_pow_right (by decide) (by omega);omega
 have e:bits .andNot .u8 (x:Int) (2^k)=((x &&& (255-2^k):Nat):Int):=by
  rw[show((2:Int)^k)=((2^k:Nat):Int) by simp];exact u8_andNot_nat x (2^k) (by omega) h2
 rw[e];have hlt:x &&& (255-2^k)<2^8:=Nat.and_lt_two_pow _ (Nat.lt_of_le_of_lt (Nat.sub_le _ _) (by decide));refine⟨by omega,by omega,fun j hj=>?_⟩;have q:∀ y:Nat,((y:Int)/2^j%2=1↔y.testBit j=true):=fun y=>by
  rw[←bit_nat];rw[show((2:Int)^j)=((2^j:Nat):Int) by simp,←Int.natCast_ediv];omega
 rw[q,q,Nat.testBit_and,not_bit k hk j hj];simp
theorem getD_set8 (bs:List Int) (q i:Nat) (x:Int) (hq:q<bs.length):(bs.set q x).getD i 0=if i=q then x else bs.getD i 0:=by
 rw[List.getD_eq_getElem?_getD,List.getElem?_set];by_cases h:q=i
 ·subst h;simp[hq]
 ·rw[if_neg h,if_neg (Ne.symm h),List.getD_eq_getElem?_getD]
def addB (bs:List Int) (v:Nat):List Int:=bs.set (v/8) (bits .or .u8 (bs.getD (v/8) 0) (2^(v%8)))
def remB (bs:List Int) (v:Nat):List Int:=bs.set (v/8) (bits .andNot .u8 (bs.getD (v/8) 0) (2^(v%8)))
theorem byte_set {bs:List Int} (h:Byte bs) (q:Nat) (x:Int) (h0:0≤x) (h1:x<256):Byte (bs.set q x):=fun z hz=>by
 rcases List.mem_or_eq_of_mem_set hz with h'|h'
 ·exact h z h'
 ·rw[h'];exact⟨h0,h1⟩
theorem SetB.add {bs:List Int} {P:Nat→Prop} (h:SetB bs P) (v:Nat) (hv:v<256):SetB (addB bs v) (fun u=>P u∨u=v):=by
 obtain⟨h1,h2,h3⟩:=h;have hx:=h2.get (v/8);obtain⟨a,b,c⟩:=u8_or_bit _ (v%8) hx.1 hx.2 (by omega);refine⟨by unfold addB;rw[List.length_set];exact h1,byte_set h2 _ _ a b,fun u hu=>?_⟩;unfold addB;rw[getD_set8 _ _ _ _ (by omega)];by_cases hq:u/8=v/8
 ·rw[if_pos hq,c (u%8) (by omega),←hq,h3 u hu];constructor
  ·rintro (h|h)
   ·exact .inl h
   ·exact .inr (by omega)
  ·rintro (h|h)
   ·exact .inl h
   ·exact .inr (by omega)
 ·rw[if_neg hq,h3 u hu];constructor
  ·exact .inl
  ·rintro (h|h)
   ·exact h
   ·omega
theorem SetB.rem {bs:List Int} {P:Nat→Prop} (h:SetB bs P) (v:Nat) (hv:v<256):SetB (remB bs v) (fun u=>P u∧u≠v):=by
 obtain⟨h1,h2,h3⟩:=h;have hx:=h2.get (v/8);obtain⟨a,b,c⟩:=u8_not_bit _ (v%8) hx.1 hx.2 (by omega);refine⟨by unfold remB;rw[List.length_set];exact h1,byte_set h2 _ _ a b,fun u hu=>?_⟩;unfold remB;rw[getD_set8 _ _ _ _ (by omega)];by_cases hq:u/8=v/8
 ·rw[if_pos hq,c (u%8) (by omega),←hq,h3 u hu];constructor
  ·rintro⟨h,h'⟩;exact⟨h,by omega⟩
  ·rintro⟨h,h'⟩;exact⟨h,by omega⟩
 ·rw[if_neg hq,h3 u hu];constructor
  ·intro h;exact⟨h,by omega⟩
  ·exact fun h=>h.1
def serOk (v:Int):Bool:=decide (0≤v∧v<256)
def nowOk (v:Int):Bool:=decide (0≤v∧v≤4294967295)
theorem isSerial_any (v:Int) (w:World):Calls Tryz.prog 135 #[.int .i64 v] w fun e w'=>e=.returned (.bool (serOk v))∧w'=w:=by
 by_cases h0:0≤v
 ·by_cases h1:v<256
  ·have HD:Hid (serOk v=true):=decide_eq_true ⟨h0,h1⟩;go_enter Tryz.func135,Tryz.ntmps135;go_wp2
   go_ret
   exact⟨by rw[HD.out];rfl,rfl⟩
  ·have HD:Hid (serOk v=false):=decide_eq_false (fun h=>h1 h.2);go_enter Tryz.func135,Tryz.ntmps135;go_wp2
   go_ret
   exact⟨by rw[HD.out];rfl,rfl⟩
 ·have HD:Hid (serOk v=false):=decide_eq_false (fun h=>h0 h.1);go_enter Tryz.func135,Tryz.ntmps135;go_wp2
  go_ret
  exact⟨by rw[HD.out];rfl,rfl⟩
theorem isNow_any (v:Int) (w:World):Calls Tryz.prog 138 #[.int .i64 v] w fun e w'=>e=.returned (.bool (nowOk v))∧w'=w:=by
 by_cases h0:0≤v
 ·by_cases h1:v≤4294967295
  ·have HD:Hid (nowOk v=true):=decide_eq_true ⟨h0,h1⟩;go_enter Tryz.func138,Tryz.ntmps138;go_wp2
   go_ret
   exact⟨by rw[HD.out];rfl,rfl⟩
  ·have HD:Hid (nowOk v=false):=decide_eq_false (fun h=>h1 h.2);go_enter Tryz.func138,Tryz.ntmps138;go_wp2
   go_ret
   exact⟨by rw[HD.out];rfl,rfl⟩
 ·have HD:Hid (nowOk v=false):=decide_eq_false (fun h=>h0 h.1);go_enter Tryz.func138,Tryz.ntmps138;go_wp2
  go_ret
  exact⟨by rw[HD.out];rfl,rfl⟩
theorem two_mod (v:Nat):(2:Int)^(v%8)%256=2^(v%8):=by
 have:v%8=0∨v%8=1∨v%8=2∨v%8=3∨v%8=4∨v%8=5∨v%8=6∨v%8=7:=by omega
 rcases this with h|h|h|h|h|h|h|h<;>rw[h]<;>decide
set_option maxHeartbeats 1000000 in
theorem addS_any (g o v:Nat) (bs:List Int) (w:World) (hv:v<256) (hb:BAt w g o bs) :
  Calls Tryz.prog 136 #[.pointer (some ⟨g,o,none⟩),.int .i64 v] w fun e w'=>e=.returned (.tuple #[])∧∃ q,w'=(w.setCell ⟨g,o+v/8,none⟩ (.int .u8 ((addB bs v).getD (v/8) 0))).drewN q:=by
 obtain⟨h1,h2,h3⟩:=hb;obtain⟨c0,f0⟩:=h3 (v/8) (by omega);obtain⟨x0,x1⟩:=h2.get (v/8);have HX:Hid ((addB bs v).getD (v/8) 0=bits .or .u8 (bs.getD (v/8) 0) (2^(v%8))):=by
  show _=_
  unfold addB;rw[getD_set8 _ _ _ _ (by omega),if_pos rfl]
 have HM:Hid ((2:Int)^(v%8)%256=2^(v%8)):=two_mod v;have hv':(v:Int)<256:=by omega
 have hv8:(v:Int)/8<32:=by omega
 clear h1 h2 h3;generalize bs.getD (v/8) 0=x at *;go_enter Tryz.func136,Tryz.ntmps136
 go_region
 rw[HM.out,←HX.out]
 go_end0
 exact⟨rfl,1,rfl⟩
set_option maxHeartbeats 1000000 in
theorem remS_any (g o v:Nat) (bs:List Int) (w:World) (hv:v<256) (hb:BAt w g o bs) :
  Calls Tryz.prog 139 #[.pointer (some ⟨g,o,none⟩),.int .i64 v] w fun e w'=>e=.returned (.tuple #[])∧∃ q,w'=(w.setCell ⟨g,o+v/8,none⟩ (.int .u8 ((remB bs v).getD (v/8) 0))).drewN q:=by
 obtain⟨h1,h2,h3⟩:=hb;obtain⟨c0,f0⟩:=h3 (v/8) (by omega);obtain⟨x0,x1⟩:=h2.get (v/8);have HX:Hid ((remB bs v).getD (v/8) 0=bits .andNot .u8 (bs.getD (v/8) 0) (2^(v%8))):=by
  show _=_
  unfold remB;rw[getD_set8 _ _ _ _ (by omega),if_pos rfl]
 have HM:Hid ((2:Int)^(v%8)%256=2^(v%8)):=two_mod v;have hv':(v:Int)<256:=by omega
 have hv8:(v:Int)/8<32:=by omega
 clear h1 h2 h3;generalize bs.getD (v/8) 0=x at *;go_enter Tryz.func139,Tryz.ntmps139
 go_region
 rw[HM.out,←HX.out]
 go_end0
 exact⟨rfl,1,rfl⟩
set_option maxHeartbeats 1000000 in
theorem hasS_any (g o:Nat) (v:Int) (bs:List Int) (P:Nat→Prop) (q:Bool) (w:World) (hb:BAt w g o bs) (hs:SetB bs P) (hq:q=true↔(0≤v∧v<256∧P v.toNat)) :
  Calls Tryz.prog 137 #[.pointer (some ⟨g,o,none⟩),.int .i64 v] w fun e w'=>e=.returned (.bool q)∧w'=w:=by
 by_cases hv:0≤v∧v<256
 ·obtain⟨h0,h1⟩:=hv;obtain⟨v,rfl⟩:=Int.eq_ofNat_of_zero_le h0;obtain⟨l1,l2,l3⟩:=hb;obtain⟨c0,f0⟩:=l3 (v/8) (by omega);obtain⟨x0,x1⟩:=l2.get (v/8);have hbit:=hs.2.2 v (by omega);have HSO:Hid (serOk (v:Int)=true):=decide_eq_true ⟨h0,h1⟩;have hpp:(0:Int)<2^(v%8):=Int.pow_pos (by decide);have y0:0≤bs.getD (v/8) 0/2^(v%8):=Int.ediv_nonneg x0 (by omega);have y1:bs.getD (v/8) 0/2^(v%8)≤bs.getD (v/8) 0:=Int.ediv_le_self _ x0;have HA:Hid (bits .and .u8 (bs.getD (v/8) 0/2^(v%8)) 1=bs.getD (v/8) 0/2^(v%8)%2):=by
   show _=_
   obtain⟨y,hy⟩:=Int.eq_ofNat_of_zero_le y0;rw[hy];have:=u8_and_nat y 1 (by omega) (by decide);rw[show((1:Int))=((1:Nat):Int) from rfl,this,Nat.and_one_is_mod];omega
  have HQ:Hid ((bs.getD (v/8) 0/2^(v%8)%2 == 1)=q):=by
   show _=_
   have h2:bs.getD (v/8) 0/2^(v%8)%2=0∨bs.getD (v/8) 0/2^(v%8)%2=1:=by omega
   rcases h2 with h2|h2
   ·rw[h2];cases q with
    |false=>rfl
    |true=>
     have:=hq.1 rfl;have:=hbit.2 (by simpa using this.2.2);omega
   ·rw[h2];cases q with
    |true=>rfl
    |false=>
     have:=hq.2 ⟨h0,h1,by simpa using hbit.1 h2⟩;cases this
  have hv8:(v:Int)/8<32:=by omega
  clear l1 l2 l3 hbit hs hq hpp;generalize bs.getD (v/8) 0=x at *;go_enter Tryz.func137,Tryz.ntmps137;go_wp2_with fail;refine(isSerial_any _ _).mono ?_;rintro e w1 ⟨rfl,rfl⟩;rw[HSO.out];go_wp2;rw[HA.out,HQ.out]
  go_ret
  exact⟨rfl,rfl⟩
 ·have HSO:Hid (serOk v=false):=decide_eq_false hv;have HQ:Hid (q=false):=by
   show _=_
   cases q with
   |false=>rfl
   |true=>exact absurd ⟨(hq.1 rfl).1,(hq.1 rfl).2.1⟩ hv
  clear hv hq hb hs;go_enter Tryz.func137,Tryz.ntmps137;go_wp2_with fail;refine(isSerial_any _ _).mono ?_;rintro e w1 ⟨rfl,rfl⟩;rw[HSO.out];go_wp2
  go_ret
  exact⟨by rw[HQ.out];rfl,rfl⟩
def okI (xs:List Int) (i:Nat):Prop:=0≤xs.getD i 0∧xs.getD i 0<256∧(0<i→xs.getD (i-1) 0<xs.getD i 0)
def SerP (xs:List Int):Prop:=∀ i,i<xs.length→okI xs i
open Classical in
noncomputable def serB (xs:List Int):Bool:=decide (SerP xs)
theorem serB_iff (xs:List Int):serB xs=true↔SerP xs:=by unfold serB;simp
theorem serB_no {xs:List Int} (h:¬ SerP xs):serB xs=false:=by unfold serB;simp[h]
theorem serB_yes {xs:List Int} (h:SerP xs):serB xs=true:=by unfold serB;simp[h]
theorem results_ct {fn:Func} {p u:Tmp} (h:fn.results=#[.cell p 75,.tmp u]) (tmps:Array Value) (w:World) (g:Nat) (cs:Array Value) (v:Value) (hv:tmps.getD u undef=v)
  (hp:tmps.getD p undef=.pointer (some ⟨g,0,none⟩)) (hr:w.heap[g]?=some (.cells cs 75 (0,0))) (hs:(Tryz.prog.info? 75).map (·.size)=some cs.size) :
  (results fn tmps).run Tryz.prog w=.ok (.tuple #[.agg cs,v]) w:=by
 have hp':tmps[p]?.getD undef=.pointer (some ⟨g,0,none⟩):=by simpa using hp
 have hv':tmps[u]?.getD undef=v:=by simpa using hv
 have hl:=run_loadVar_row (P:=Tryz.prog) w g 75 75 cs (0,0) _ hr Tryz.underlying75 rfl hs;simp[results,h,hp',hv',asAddr,hl]
def z32:List Int:=[0,0,0,0,0,0,0,0,0,0,0,0,0,0,0,0,0,0,0,0,0,0,0,0,0,0,0,0,0,0,0,0]
theorem z32_set:SetB z32 (fun _=>False):=by
 refine⟨rfl,by unfold Byte z32;decide,fun v hv=>⟨fun h=>?_,fun h=>h.elim⟩⟩;have e:z32.getD (v/8) 0=0:=by
  have:v/8<32:=by omega
  generalize v/8=q at *;have hq:∀ q,q<32→z32.getD q 0=0:=by decide
  exact hq q this
 rw[e] at h;simp at h
theorem SetB.congr {bs:List Int} {P Q:Nat→Prop} (h:SetB bs P) (hq:∀ v,v<256→(P v↔Q v)):SetB bs Q:=⟨h.1,h.2.1,fun v hv=>(h.2.2 v hv).trans (hq v hv)⟩
theorem Row.bat {w:World} {g:Nat} {t:TypeId} {bs:List Int} (h:Row w g t bs) (hl:bs.length=32) (hb:Byte bs):BAt w g 0 bs:=⟨hl,hb,fun i hi=>by rw[Nat.zero_add];exact⟨h.cell i (by omega),h.frozen i⟩⟩
theorem Tryz.sizeSS:(Tryz.prog.info? 75).map (·.size)=some 32:=by kernel_rfl
structure SOS (w:World) (xs:List Int) (k:Nat) (wr:World):Prop where
 below:Below w.heap.size w wr
 res:Row wr w.heap.size 75 z32
 set:∃ bs,Row wr (w.heap.size+1) 75 bs∧SetB bs (fun v=>(v:Int)∈xs.take k)
 ok:∀ i,i<k→okI xs i
def lastOf (xs:List Int) (k:Nat):Int:=if k=0 then -1 else xs.getD (k-1) 0
def SoP (w:World) (xs:List Int) (e:Ending) (w':World):Prop:=
 ∃ bs,e=.returned (.tuple #[.agg (bs.map (Value.int .u8)).toArray,.bool (serB xs)])∧bs.length=32∧Byte bs∧(SerP xs→SetB bs (fun v=>(v:Int)∈xs))∧Below w.heap.size w w'
set_option maxRecDepth 100000 in
set_option maxHeartbeats 4000000 in
theorem setOf_any (a:Option Addr) (n cap:Nat) (xs:List Int) (w:World) (hn:xs.length=n) (hm:n≤1048576) (ha:At .i64 w a xs) :
  Calls Tryz.prog 83 #[.slice a n cap] w (SoP w xs):=by
 have HS:Hid (SOS w xs 0 ((w.alloc (.cells #[.int .u8 0,.int .u8 0,.int .u8 0,.int .u8 0,.int .u8 0,.int .u8 0,.int .u8 0,.int .u8 0,.int .u8 0,.int .u8 0,.int .u8 0,.int .u8 0,.int .u8 0,.int .u8 0,.int .u8 0,.int .u8 0,.int .u8 0,.int .u8 0,.int .u8 0,.int .u8 0,.int .u8 0,.int .u8 0,.int .u8 0,.int .u8 0,.int .u8 0,.int .u8 0,.int .u8 0,.int .u8 0,.int .u8 0,.int .u8 0,.int .u8 0,.int .u8 0] 75)).alloc (.cells #[.int .u8 0,.int .u8 0,.int .u8 0,.int .u8 0,.int .u8 0,.int .u8 0,.int .u8 0,.int .u8 0,.int .u8 0,.int .u8 0,.int .u8 0,.int .u8 0,.int .u8 0,.int .u8 0,.int .u8 0,.int .u8 0,.int .u8 0,.int .u8 0,.int .u8 0,.int .u8 0,.int .u8 0,.int .u8 0,.int .u8 0,.int .u8 0,.int .u8 0,.int .u8 0,.int .u8 0,.int .u8 0,.int .u8 0,.int .u8 0,.int .u8 0,.int .u8 0] 75))):=by
  have bb:Below w.heap.size w ((w.alloc (.cells #[.int .u8 0,.int .u8 0,.int .u8 0,.int .u8 0,.int .u8 0,.int .u8 0,.int .u8 0,.int .u8 0,.int .u8 0,.int .u8 0,.int .u8 0,.int .u8 0,.int .u8 0,.int .u8 0,.int .u8 0,.int .u8 0,.int .u8 0,.int .u8 0,.int .u8 0,.int .u8 0,.int .u8 0,.int .u8 0,.int .u8 0,.int .u8 0,.int .u8 0,.int .u8 0,.int .u8 0,.int .u8 0,.int .u8 0,.int .u8 0,.int .u8 0,.int .u8 0] 75)).alloc (.cells #[.int .u8 0,.int .u8 0,.int .u8 0,.int .u8 0,.int .u8 0,.int .u8 0,.int .u8 0,.int .u8 0,.int .u8 0,.int .u8 0,.int .u8 0,.int .u8 0,.int .u8 0,.int .u8 0,.int .u8 0,.int .u8 0,.int .u8 0,.int .u8 0,.int .u8 0,.int .u8 0,.int .u8 0,.int .u8 0,.int .u8 0,.int .u8 0,.int .u8 0,.int .u8 0,.int .u8 0,.int .u8 0,.int .u8 0,.int .u8 0,.int .u8 0,.int .u8 0] 75)):=((Below.refl _ _).alloc (Nat.le_refl _) _).alloc (by simp) _;refine⟨bb,?_,⟨z32,?_,z32_set.congr (fun v _=>by simp)⟩,fun i hi=>by omega⟩
  ·show _=_
   rw[Below.heap_alloc _ _ w.heap.size (by simp)];exact heap_alloc_new w _
  ·show _=_
   have:=heap_alloc_new (w.alloc (.cells #[.int .u8 0,.int .u8 0,.int .u8 0,.int .u8 0,.int .u8 0,.int .u8 0,.int .u8 0,.int .u8 0,.int .u8 0,.int .u8 0,.int .u8 0,.int .u8 0,.int .u8 0,.int .u8 0,.int .u8 0,.int .u8 0,.int .u8 0,.int .u8 0,.int .u8 0,.int .u8 0,.int .u8 0,.int .u8 0,.int .u8 0,.int .u8 0,.int .u8 0,.int .u8 0,.int .u8 0,.int .u8 0,.int .u8 0,.int .u8 0,.int .u8 0,.int .u8 0] 75)) (.cells #[.int .u8 0,.int .u8 0,.int .u8 0,.int .u8 0,.int .u8 0,.int .u8 0,.int .u8 0,.int .u8 0,.int .u8 0,.int .u8 0,.int .u8 0,.int .u8 0,.int .u8 0,.int .u8 0,.int .u8 0,.int .u8 0,.int .u8 0,.int .u8 0,.int .u8 0,.int .u8 0,.int .u8 0,.int .u8 0,.int .u8 0,.int .u8 0,.int .u8 0,.int .u8 0,.int .u8 0,.int .u8 0,.int .u8 0,.int .u8 0,.int .u8 0,.int .u8 0] 75)
   rwa [show(w.alloc (.cells #[.int .u8 0,.int .u8 0,.int .u8 0,.int .u8 0,.int .u8 0,.int .u8 0,.int .u8 0,.int .u8 0,.int .u8 0,.int .u8 0,.int .u8 0,.int .u8 0,.int .u8 0,.int .u8 0,.int .u8 0,.int .u8 0,.int .u8 0,.int .u8 0,.int .u8 0,.int .u8 0,.int .u8 0,.int .u8 0,.int .u8 0,.int .u8 0,.int .u8 0,.int .u8 0,.int .u8 0,.int .u8 0,.int .u8 0,.int .u8 0,.int .u8 0,.int .u8 0] 75)).heap.size=w.heap.size+1 by simp] at this
 have HA:Hid (At .i64 w a xs):=ha;have HNX:Hid (xs.length=n):=hn;clear ha hn;go_enter Tryz.func83,Tryz.ntmps83;go_wp2_with fail;generalize ((w.alloc (.cells #[.int .u8 0,.int .u8 0,.int .u8 0,.int .u8 0,.int .u8 0,.int .u8 0,.int .u8 0,.int .u8 0,.int .u8 0,.int .u8 0,.int .u8 0,.int .u8 0,.int .u8 0,.int .u8 0,.int .u8 0,.int .u8 0,.int .u8 0,.int .u8 0,.int .u8 0,.int .u8 0,.int .u8 0,.int .u8 0,.int .u8 0,.int .u8 0,.int .u8 0,.int .u8 0,.int .u8 0,.int .u8 0,.int .u8 0,.int .u8 0,.int .u8 0,.int .u8 0] 75)).alloc (.cells #[.int .u8 0,.int .u8 0,.int .u8 0,.int .u8 0,.int .u8 0,.int .u8 0,.int .u8 0,.int .u8 0,.int .u8 0,.int .u8 0,.int .u8 0,.int .u8 0,.int .u8 0,.int .u8 0,.int .u8 0,.int .u8 0,.int .u8 0,.int .u8 0,.int .u8 0,.int .u8 0,.int .u8 0,.int .u8 0,.int .u8 0,.int .u8 0,.int .u8 0,.int .u8 0,.int .u8 0,.int .u8 0,.int .u8 0,.int .u8 0,.int .u8 0,.int .u8 0] 75))=w0 at *
 go_loopw [5,10] (fun l i wr=>∃ k:Nat,k≤n∧i=.int .i64 k∧l=.int .i64 (lastOf xs k)∧SOS w xs k wr) (fun _ i _=>n-(intOf i).toNat)
 case atStart=>exact⟨0,Nat.zero_le _,rfl,rfl,HS.out⟩
 case round=>
  clear HS;obtain⟨k,hk,rfl,rfl,hst⟩:=hrel;by_cases hlt:k<n
  ·have hlt':(k:Int)<n:=by omega
   obtain⟨b,off,ea,hb,hc⟩:=(HA.out.below hst.below).get (by have:=HNX.out;omega);have hck:=hc k (by have:=HNX.out;omega);have HST:Hid (SOS w xs k wr):=hst;have HEA:Hid (a=some ⟨b,off,none⟩):=ea;subst ea;clear hst hc hb;by_cases hle:xs.getD k 0≤lastOf xs k
   ·have HNO:Hid (¬ SerP xs):=fun h=>by
     have q:=h k (by have:=HNX.out;omega);unfold lastOf at hle;by_cases h0:k=0
     ·rw[if_pos h0] at hle;have:=q.1;omega
     ·rw[if_neg h0] at hle;have:=q.2.2 (by omega);omega
    have HR:Hid (wr.heap[w.heap.size]?=some (.cells (z32.map (Value.int .u8)).toArray 75 (0,0))):=HST.out.res;generalize xs.getD k 0=v at *;generalize lastOf xs k=l at *;go_wp2_with (first
     |(refine wpList_store_row rfl 75 (.tmp 2) (.tmp 22) rfl w.heap.size ((z32.map (Value.int .u8)).toArray) rfl rfl 75 _ HR.out Tryz.sizeSS rfl (all_oneCell_toArray (ints_oneCell _ _)) ?_)
     |fail)
    refine bodyPost_ret (v:=.tuple #[.agg (z32.map (Value.int .u8)).toArray,.bool false]) (results_ct rfl _ _ w.heap.size _ _ rfl rfl (setRow_heap _ _ _ _ _ _ HR.out) Tryz.sizeSS) rfl ?_;exact⟨z32,by rw[serB_no HNO.out],rfl,z32_set.2.1,fun h=>absurd h HNO.out,HST.out.below.trans ((Wr.setRow _ _ _).below (Nat.le_refl _))⟩
   ·by_cases hso:0≤xs.getD k 0∧xs.getD k 0<256
    ·obtain⟨v,hv⟩:=Int.eq_ofNat_of_zero_le hso.1;have hv256:v<256:=by omega
     have HSO:Hid (serOk (v:Int)=true):=decide_eq_true ⟨by omega,by omega⟩;obtain⟨bs,hrow,hset⟩:=HST.out.set;have HBT:Hid (BAt wr (w.heap.size+1) 0 bs):=hrow.bat hset.1 hset.2.1;have HN:∀ q,Hid (SOS w xs (k+1) ((wr.setCell ⟨w.heap.size+1,0+v/8,none⟩ (.int .u8 ((addB bs v).getD (v/8) 0))).drewN q)):=fun q=>by
      have hr2:=hrow.set (v/8) ((addB bs v).getD (v/8) 0);have e2:bs.set (v/8) ((addB bs v).getD (v/8) 0)=addB bs v:=by
       unfold addB;rw[getD_set8 _ _ _ _ (by have:=hset.1;omega),if_pos rfl]
      rw[e2] at hr2;have hw:Wr (w.heap.size+1) wr (wr.setCell ⟨w.heap.size+1,v/8,none⟩ (.int .u8 ((addB bs v).getD (v/8) 0))):=(Wr.refl _ _).setCell _ _;rw[Nat.zero_add];refine⟨?_,?_,⟨addB bs v,hr2,(hset.add v hv256).congr (fun u hu=>?_)⟩,fun i hi=>?_⟩
      ·have bq:=HST.out.below.trans (hw.below (by omega));exact⟨bq.os,bq.tape,bq.output,bq.size,bq.block⟩
      ·have:=HST.out.res;show _=_
       exact(hw.block _ (by omega)).trans this
      ·rw[take_snoc xs k (by have:=HNX.out;omega),List.mem_append,hv];simp only[List.mem_cons,List.not_mem_nil,or_false];constructor
       ·rintro (h|h)
        ·exact .inl h
        ·exact .inr (by omega)
       ·rintro (h|h)
        ·exact .inl h
        ·exact .inr (by omega)
      ·by_cases hik:i<k
       ·exact HST.out.ok i hik
       ·have:i=k:=by omega
        subst this;refine⟨hso.1,hso.2,fun h0=>?_⟩;unfold lastOf at hle;rw[if_neg (by omega)] at hle;omega
     have HL:Hid (lastOf xs (k+1)=(v:Int)):=by show _=_;unfold lastOf;rw[if_neg (by omega),Nat.add_sub_cancel];exact hv
     rw[hv] at hck hle;clear hso hrow hset hv;generalize lastOf xs k=l at *;go_wp2_with fail;refine(isSerial_any _ _).mono ?_;rintro e w1 ⟨rfl,rfl⟩;rw[HSO.out];go_wp2_with fail;refine(addS_any (w.heap.size+1) 0 v bs _ hv256 HBT.out).mono ?_;rintro e w2 ⟨rfl,q,rfl⟩;have H2:=HN q;clear HN HBT HST;generalize (w1.setCell ⟨w.heap.size+1,0+v/8,none⟩ (.int .u8 ((addB bs v).getD (v/8) 0))).drewN q=w2 at *;go_wp2;go_roundw
     case rel=>exact⟨k+1,by omega,by go_num,by rw[HL.out],H2.out⟩
     case measure=>simp[intOf];omega
    ·have HSO:Hid (serOk (xs.getD k 0)=false):=decide_eq_false hso;have HNO:Hid (¬ SerP xs):=fun h=>hso ⟨(h k (by have:=HNX.out;omega)).1,(h k (by have:=HNX.out;omega)).2.1⟩
     have HR:Hid (wr.heap[w.heap.size]?=some (.cells (z32.map (Value.int .u8)).toArray 75 (0,0))):=HST.out.res;clear hso;generalize xs.getD k 0=v at *;generalize lastOf xs k=l at *;go_wp2_with fail;refine(isSerial_any _ _).mono ?_;rintro e w1 ⟨rfl,rfl⟩;rw[HSO.out];go_wp2_with (first
      |(refine wpList_store_row rfl 75 (.tmp 2) (.tmp 22) rfl w.heap.size ((z32.map (Value.int .u8)).toArray) rfl rfl 75 _ HR.out Tryz.sizeSS rfl (all_oneCell_toArray (ints_oneCell _ _)) ?_)
      |fail)
     refine bodyPost_ret (v:=.tuple #[.agg (z32.map (Value.int .u8)).toArray,.bool false]) (results_ct rfl _ _ w.heap.size _ _ rfl rfl (setRow_heap _ _ _ _ _ _ HR.out) Tryz.sizeSS) rfl ?_;exact⟨z32,by rw[serB_no HNO.out],rfl,z32_set.2.1,fun h=>absurd h HNO.out,HST.out.below.trans ((Wr.setRow _ _ _).below (Nat.le_refl _))⟩
  ·have hkn:k=n:=by omega
   have hlt':¬ ((k:Int)<n):=by omega
   obtain⟨bs,hrow,hset⟩:=hst.set;have HYE:Hid (SerP xs):=fun i hi=>hst.ok i (by have:=HNX.out;omega)
   have HBS:Hid (bs.length=32∧Byte bs∧SetB bs (fun v=>(v:Int)∈xs)):=⟨hset.1,hset.2.1,hset.congr (fun v _=>by rw[List.take_of_length_le (by have:=HNX.out;omega)])⟩
   have HR:Hid (wr.heap[w.heap.size]?=some (.cells (z32.map (Value.int .u8)).toArray 75 (0,0))):=hst.res;have HL:Hid (wr.heap[w.heap.size+1]?=some (.cells (bs.map (Value.int .u8)).toArray 75 (0,0))):=hrow;have HSZ:Hid ((Tryz.prog.info? 75).map (·.size)=some ((bs.map (Value.int .u8)).toArray).size):=by show _=_;rw[Tryz.sizeSS];simp[hset.1]
   have HEQ:Hid (((z32.map (Value.int .u8)).toArray).size=((bs.map (Value.int .u8)).toArray).size):=by show _=_;simp[hset.1,z32]
   have HBW:Hid (Below w.heap.size w wr):=hst.below;clear hst hrow hset;generalize lastOf xs k=l at *;go_wp2_with (first
    |(refine wpList_load_row rfl 75 (.tmp 4) rfl (w.heap.size+1) rfl 75 _ (0,0) _ HL.out Tryz.underlying75 rfl HSZ.out ?_)
    |(refine wpList_store_row rfl 75 (.tmp 2) (.tmp 27) rfl w.heap.size ((bs.map (Value.int .u8)).toArray) rfl rfl 75 _ HR.out HSZ.out HEQ.out (all_oneCell_toArray (ints_oneCell _ _)) ?_)
    |fail)
   refine bodyPost_ret (v:=.tuple #[.agg (bs.map (Value.int .u8)).toArray,.bool true]) (results_ct rfl _ _ w.heap.size _ _ rfl rfl (setRow_heap _ _ _ _ _ _ HR.out) HSZ.out) rfl ?_;exact⟨bs,by rw[serB_yes HYE.out],HBS.out.1,HBS.out.2.1,fun _=>HBS.out.2.2,HBW.out.trans ((Wr.setRow _ _ _).below (Nat.le_refl _))⟩
end Go.Proofs.YthmeoilbmfdhfaaGreat
