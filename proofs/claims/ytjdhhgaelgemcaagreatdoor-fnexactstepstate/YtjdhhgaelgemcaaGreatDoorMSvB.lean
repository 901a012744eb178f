import Derived.Test.YtjdhhgaelgemcaaGreatDoorMRowB
import Derived.Test.YtjdhhgaelgemcaaGreatDoorMOwnB
import Derived.BigRegion
import Derived.Test.YtjdhhgaelgemcaaGreatDoorMBase
namespace Go.Proofs.YtjdhhgaelgemcaaGreatDoor
open Go.ChangeShapes Go.WideShapes Go.ChangeAt Go.RowKit
set_option linter.unusedVariables false
def BAt (w:World) (g o:Nat) (bs:List Int):Prop:=bs.length=32∧Byte bs∧∀ i,i<32→w.cell? ⟨g,o+i,none⟩=some (.int .u8 (bs.getD i 0))∧w.frozen? ⟨g,o+i,none⟩=false
def SetB (bs:List Int) (P:Nat→Prop):Prop:=bs.length=32∧Byte bs∧∀ v,v<256→(bs.getD (v/8) 0/2^(v%8)%2=1↔P v)
theorem bit_nat (x j:Nat):x/2^j%2=1↔x.testBit j=true:=by rw[Nat.testBit_eq_decide_div_mod_eq];simp
theorem u8_or_bit (x:Int) (k:Nat) (hx:0≤x) (hx':x<256) (hk:k<8):0≤bits .or .u8 x (2^k)∧bits .or .u8 x (2^k)<256∧∀ j,j<8→(bits .or .u8 x (2^k)/2^j%2=1↔(x/2^j%2=1∨j=k)):=by
 obtain⟨x,rfl⟩:=Int.eq_ofNat_of_zero_le hx;have h2:(2:Nat)^k<256:=by
  have:2^k≤2^7:=Nat.pow_le_pow_right (by decide) (by omega);omega
 have e:bits .or .u8 (x:Int) (2^k)=((x ||| 2^k:Nat):Int):=by
  rw[show((2:Int)^k)=((2^k:Nat):Int) by simp];exact u8_or_nat x (2^k) (by omega) h2
 rw[e];have hlt:x ||| 2^k<2^8:=Nat.or_lt_two_pow (by omega) (by omega);refine⟨by omega,by omega,fun j hj=>?_⟩;have q:∀ y:Nat,((y:Int)/2^j%2=1↔y.testBit j=true):=fun y=>by
  rw[←bit_nat];rw[show((2:Int)^j)=((2^j:Nat):Int) by simp,←Int.natCast_ediv];omega
 rw[q,q,Nat.testBit_or,Nat.testBit_two_pow];simp only[Bool.or_eq_true,decide_eq_true_eq];constructor
 ·rintro (h|h)
  ·exact .inl h
  ·exact .inr h.symm
 ·rintro (h|h)
  ·exact .inl h
  ·exact .inr h.symm
theorem not_bit:∀ k,k<8→∀ j,j<8→(255-2^k).testBit j=decide (j≠k):=by decide
theorem u8_not_bit (x:Int) (k:Nat) (hx:0≤x) (hx':x<256) (hk:k<8):0≤bits .andNot .u8 x (2^k)∧bits .andNot .u8 x (2^k)<256∧∀ j,j<8→(bits .andNot .u8 x (2^k)/2^j%2=1↔(x/2^j%2=1∧j≠k)):=by
 obtain⟨x,rfl⟩:=Int.eq_ofNat_of_zero_le hx;have h2:(2:Nat)^k<256:=by
  have:2^k≤2^7:=Nat.pow_le_pow_right (by decide) (by omega);omega
 have e:bits .andNot .u8 (x:Int) (2^k)=((x &&& (255-2^k):Nat):Int):=by
  rw[show((2:Int)^k)=((2^k:Nat):Int) by simp];exact u8_andNot_nat x (2^k) (by omega) h2
 rw[e];have hlt:x &&& (255-2^k)<2^8:=Nat.and_lt_two_pow _ (Nat.lt_of_le_of_lt (Nat.sub_le _ _) (by decide));refine⟨by omega,by omega,fun j hj=>?_⟩;have q:∀ y:Nat,((y:Int)/2^j%2=1↔y.testBit j=true):=fun y=>by
  rw[←bit_nat];rw[show((2:Int)^j)=((2^j:Nat):Int) by simp,←Int.natCast_ediv];omega
 rw[q,q,Nat.testBit_and,not_bit k hk j hj];simp
theorem getD_set8 (bs:List Int) (q i:Nat) (x:Int) (hq:q<bs.length):(bs.set q x).getD i 0=if i=q then x else bs.getD i 0:=by
 rw[List.getD_eq_getElem?_getD,List.getElem?_set];by_cases h:q=i
 ·subst h;simp[hq]
 ·rw[if_neg h,if_neg (Ne.symm h),List.getD_eq_getElem?_getD]
def addB (bs:List Int) (v:Nat):List Int:=bs.set (v/8) (bits .or .u8 (bs.getD (v/8) 0) (2^(v%8)))
def remB (bs:List Int) (v:Nat):List Int:=bs.set (v/8) (bits .andNot .u8 (bs.getD (v/8) 0) (2^(v%8)))
theorem byte_set {bs:List Int} (h:Byte bs) (q:Nat) (x:Int) (h0:0≤x) (h1:x<256):Byte (bs.set q x):=fun z hz=>by
 rcases List.mem_or_eq_of_mem_set hz with h'|h'
 ·exact h z h'
 ·rw[h'];exact⟨h0,h1⟩
theorem SetB.add {bs:List Int} {P:Nat→Prop} (h:SetB bs P) (v:Nat) (hv:v<256):SetB (addB bs v) (fun u=>P u∨u=v):=by
 obtain⟨h1,h2,h3⟩:=h;have hx:=h2.get (v/8);obtain⟨a,b,c⟩:=u8_or_bit _ (v%8) hx.1 hx.2 (by omega);refine⟨by unfold addB;rw[List.length_set];exact h1,byte_set h2 _ _ a b,fun u hu=>?_⟩;unfold addB;rw[getD_set8 _ _ _ _ (by omega)];by_cases hq:u/8=v/8
 ·rw[if_pos hq,c (u%8) (by omega),←hq,h3 u hu];constructor
  ·rintro (h|h)
   ·exact .inl h
   ·exact .inr (by omega)
  ·rintro (h|h)
   ·exact .inl h
   ·exact .inr (by omega)
 ·rw[if_neg hq,h3 u hu];constructor
  ·exact .inl
  ·rintro (h|h)
   ·exact h
   ·omega
theorem SetB.rem {bs:List Int} {P:Nat→Prop} (h:SetB bs P) (v:Nat) (hv:v<256):SetB (remB bs v) (fun u=>P u∧u≠v):=by
 obtain⟨h1,h2,h3⟩:=h;have hx:=h2.get (v/8);obtain⟨a,b,c⟩:=u8_not_bit _ (v%8) hx.1 hx.2 (by omega);refine⟨by unfold remB;rw[List.length_set];exact h1,byte_set h2 _ _ a b,fun u hu=>?_⟩;unfold remB;rw[getD_set8 _ _ _ _ (by omega)];by_cases hq:u/8=v/8
 ·rw[if_pos hq,c (u%8) (by omega),←hq,h3 u hu];constructor
  ·rintro⟨h,h'⟩;exact⟨h,by omega⟩
  ·rintro⟨h,h'⟩;exact⟨h,by omega⟩
 ·rw[if_neg hq,h3 u hu];constructor
  ·intro h;exact⟨h,by omega⟩
  ·exact fun h=>h.1
def serOk (v:Int):Bool:=decide (0≤v∧v<256)
def nowOk (v:Int):Bool:=decide (0≤v∧v≤4294967295)
theorem isSerial_any (v:Int) (w:World):Calls Tryz.prog 59 #[.int .i64 v] w fun e w'=>e=.returned (.bool (serOk v))∧w'=w:=by
 by_cases h0:0≤v
 ·by_cases h1:v<256
  ·have HD:Hid (serOk v=true):=decide_eq_true ⟨h0,h1⟩;go_enter Tryz.func59,Tryz.ntmps59;go_wp2
   go_ret
   exact⟨by rw[HD.out];rfl,rfl⟩
  ·have HD:Hid (serOk v=false):=decide_eq_false (fun h=>h1 h.2);go_enter Tryz.func59,Tryz.ntmps59;go_wp2
   go_ret
   exact⟨by rw[HD.out];rfl,rfl⟩
 ·have HD:Hid (serOk v=false):=decide_eq_false (fun h=>h0 h.1);go_enter Tryz.func59,Tryz.ntmps59;go_wp2
  go_ret
  exact⟨by rw[HD.out];rfl,rfl⟩
theorem isNow_any (v:Int) (w:World):Calls Tryz.prog 62 #[.int .i64 v] w fun e w'=>e=.returned (.bool (nowOk v))∧w'=w:=by
 by_cases h0:0≤v
 ·by_cases h1:v≤4294967295
  ·have HD:Hid (nowOk v=true):=decide_eq_true ⟨h0,h1⟩;go_enter Tryz.func62,Tryz.ntmps62;go_wp2
   go_ret
   exact⟨by rw[HD.out];rfl,rfl⟩
  ·have HD:Hid (nowOk v=false):=decide_eq_false (fun h=>h1 h.2);go_enter Tryz.func62,Tryz.ntmps62;go_wp2
   go_ret
   exact⟨by rw[HD.out];rfl,rfl⟩
 ·have HD:Hid (nowOk v=false):=decide_eq_false (fun h=>h0 h.1);go_enter Tryz.func62,Tryz.ntmps62;go_wp2
  go_ret
  exact⟨by rw[HD.out];rfl,rfl⟩
theorem two_mod (v:Nat):(2:Int)^(v%8)%256=2^(v%8):=by
 have:v%8=0∨v%8=1∨v%8=2∨v%8=3∨v%8=4∨v%8=5∨v%8=6∨v%8=7:=by omega
 rcases this with h|h|h|h|h|h|h|h<;>rw[h]<;>decide
set_option maxHeartbeats 1000000 in
theorem addS_any (g o v:Nat) (bs:List Int) (w:World) (hv:v<256) (hb:BAt w g o bs) :
  Calls Tryz.prog 60 #[.pointer (some ⟨g,o,none⟩),.int .i64 v] w fun e w'=>e=.returned (.tuple #[])∧∃ q,w'=(w.setCell ⟨g,o+v/8,none⟩ (.int .u8 ((addB bs v).getD (v/8) 0))).drewN q:=by
 obtain⟨h1,h2,h3⟩:=hb;obtain⟨c0,f0⟩:=h3 (v/8) (by omega);obtain⟨x0,x1⟩:=h2.get (v/8);have HX:Hid ((addB bs v).getD (v/8) 0=bits .or .u8 (bs.getD (v/8) 0) (2^(v%8))):=by
  show _=_
  unfold addB;rw[getD_set8 _ _ _ _ (by omega),if_pos rfl]
 have HM:Hid ((2:Int)^(v%8)%256=2^(v%8)):=two_mod v;have hv':(v:Int)<256:=by omega
 have hv8:(v:Int)/8<32:=by omega
 clear h1 h2 h3;generalize bs.getD (v/8) 0=x at *;go_enter Tryz.func60,Tryz.ntmps60
 go_region
 rw[HM.out,←HX.out]
 go_end0
 exact⟨rfl,1,rfl⟩
set_option maxHeartbeats 1000000 in
theorem remS_any (g o v:Nat) (bs:List Int) (w:World) (hv:v<256) (hb:BAt w g o bs) :
  Calls Tryz.prog 63 #[.pointer (some ⟨g,o,none⟩),.int .i64 v] w fun e w'=>e=.returned (.tuple #[])∧∃ q,w'=(w.setCell ⟨g,o+v/8,none⟩ (.int .u8 ((remB bs v).getD (v/8) 0))).drewN q:=by
 obtain⟨h1,h2,h3⟩:=hb;obtain⟨c0,f0⟩:=h3 (v/8) (by omega);obtain⟨x0,x1⟩:=h2.get (v/8);have HX:Hid ((remB bs v).getD (v/8) 0=bits .andNot .u8 (bs.getD (v/8) 0) (2^(v%8))):=by
  show _=_
  unfold remB;rw[getD_set8 _ _ _ _ (by omega),if_pos rfl]
 have HM:Hid ((2:Int)^(v%8)%256=2^(v%8)):=two_mod v;have hv':(v:Int)<256:=by omega
 have hv8:(v:Int)/8<32:=by omega
 clear h1 h2 h3;generalize bs.getD (v/8) 0=x at *;go_enter Tryz.func63,Tryz.ntmps63
 go_region
 rw[HM.out,←HX.out]
 go_end0
 exact⟨rfl,1,rfl⟩
set_option maxHeartbeats 1000000 in
theorem hasS_any (g o:Nat) (v:Int) (bs:List Int) (P:Nat→Prop) (q:Bool) (w:World) (hb:BAt w g o bs) (hs:SetB bs P) (hq:q=true↔(0≤v∧v<256∧P v.toNat)) :
  Calls Tryz.prog 61 #[.pointer (some ⟨g,o,none⟩),.int .i64 v] w fun e w'=>e=.returned (.bool q)∧w'=w:=by
 by_cases hv:0≤v∧v<256
 ·obtain⟨h0,h1⟩:=hv;obtain⟨v,rfl⟩:=Int.eq_ofNat_of_zero_le h0;obtain⟨l1,l2,l3⟩:=hb;obtain⟨c0,f0⟩:=l3 (v/8) (by omega);obtain⟨x0,x1⟩:=l2.get (v/8);have hbit:=hs.2.2 v (by omega);have HSO:Hid (serOk (v:Int)=true):=decide_eq_true ⟨h0,h1⟩;have hpp:(0:Int)<2^(v%8):=Int.pow_pos (by decide);have y0:0≤bs.getD (v/8) 0/2^(v%8):=Int.ediv_nonneg x0 (by omega);have y1:bs.getD (v/8) 0/2^(v%8)≤bs.getD (v/8) 0:=Int.ediv_le_self _ x0;have HA:Hid (bits .and .u8 (bs.getD (v/8) 0/2^(v%8)) 1=bs.getD (v/8) 0/2^(v%8)%2):=by
   show _=_
   obtain⟨y,hy⟩:=Int.eq_ofNat_of_zero_le y0;rw[hy];have:=u8_and_nat y 1 (by omega) (by decide);rw[show((1:Int))=((1:Nat):Int) from rfl,this,Nat.and_one_is_mod];omega
  have HQ:Hid ((bs.getD (v/8) 0/2^(v%8)%2 == 1)=q):=by
   show _=_
   have h2:bs.getD (v/8) 0/2^(v%8)%2=0∨bs.getD (v/8) 0/2^(v%8)%2=1:=by omega
   rcases h2 with h2|h2
   ·rw[h2];cases q with
    |false=>rfl
    |true=>
     have:=hq.1 rfl;have:=hbit.2 (by simpa using this.2.2);omega
   ·rw[h2];cases q with
    |true=>rfl
    |false=>
     have:=hq.2 ⟨h0,h1,by simpa using hbit.1 h2⟩;cases this
  have hv8:(v:Int)/8<32:=by omega
  clear l1 l2 l3 hbit hs hq hpp;generalize bs.getD (v/8) 0=x at *;go_enter Tryz.func61,Tryz.ntmps61;go_wp2_with fail;refine(isSerial_any _ _).mono ?_;rintro e w1 ⟨rfl,rfl⟩;rw[HSO.out];go_wp2;rw[HA.out,HQ.out]
  go_ret
  exact⟨rfl,rfl⟩
 ·have HSO:Hid (serOk v=false):=decide_eq_false hv;have HQ:Hid (q=false):=by
   show _=_
   cases q with
   |false=>rfl
   |true=>exact absurd ⟨(hq.1 rfl).1,(hq.1 rfl).2.1⟩ hv
  clear hv hq hb hs;go_enter Tryz.func61,Tryz.ntmps61;go_wp2_with fail;refine(isSerial_any _ _).mono ?_;rintro e w1 ⟨rfl,rfl⟩;rw[HSO.out];go_wp2
  go_ret
  exact⟨by rw[HQ.out];rfl,rfl⟩
def okI (xs:List Int) (i:Nat):Prop:=0≤xs.getD i 0∧xs.getD i 0<256∧(0<i→xs.getD (i-1) 0<xs.getD i 0)
def SerP (xs:List Int):Prop:=∀ i,i<xs.length→okI xs i
open Classical in
noncomputable def serB (xs:List Int):Bool:=decide (SerP xs)
theorem serB_iff (xs:List Int):serB xs=true↔SerP xs:=by unfold serB;simp
theorem serB_no {xs:List Int} (h:¬ SerP xs):serB xs=false:=by unfold serB;simp[h]
theorem serB_yes {xs:List Int} (h:SerP xs):serB xs=true:=by unfold serB;simp[h]
theorem results_ct {fn:Func} {p u:Tmp} (h:fn.results=#[.cell p 65,.tmp u]) (tmps:Array Value) (w:World) (g:Nat) (cs:Array Value) (v:Value) (hv:tmps.getD u undef=v)
  (hp:tmps.getD p undef=.pointer (some ⟨g,0,none⟩)) (hr:w.heap[g]?=some (.cells cs 65 (0,0))) (hs:(Tryz.prog.info? 65).map (·.size)=some cs.size) :
  (results fn tmps).run Tryz.prog w=.ok (.tuple #[.agg cs,v]) w:=by
 have hp':tmps[p]?.getD undef=.pointer (some ⟨g,0,none⟩):=by simpa using hp
 have hv':tmps[u]?.getD undef=v:=by simpa using hv
 have hl:=run_loadVar_row (P:=Tryz.prog) w g 65 65 cs (0,0) _ hr Tryz.underlying65 rfl hs;simp[results,h,hp',hv',asAddr,hl]
def z32:List Int:=[0,0,0,0,0,0,0,0,0,0,0,0,0,0,0,0,0,0,0,0,0,0,0,0,0,0,0,0,0,0,0,0]
theorem z32_set:SetB z32 (fun _=>False):=by
 refine⟨rfl,by unfold Byte z32;decide,fun v hv=>⟨fun h=>?_,fun h=>h.elim⟩⟩;have e:z32.getD (v/8) 0=0:=by
  have:v/8<32:=by omega
  generalize v/8=q at *;have hq:∀ q,q<32→z32.getD q 0=0:=by decide
  exact hq q this
 rw[e] at h;simp at h
theorem SetB.congr {bs:List Int} {P Q:Nat→Prop} (h:SetB bs P) (hq:∀ v,v<256→(P v↔Q v)):SetB bs Q:=⟨h.1,h.2.1,fun v hv=>(h.2.2 v hv).trans (hq v hv)⟩
theorem Row.bat {w:World} {g:Nat} {t:TypeId} {bs:List Int} (h:Row w g t bs) (hl:bs.length=32) (hb:Byte bs):BAt w g 0 bs:=⟨hl,hb,fun i hi=>by rw[Nat.zero_add];exact⟨h.cell i (by omega),h.frozen i⟩⟩
theorem Tryz.sizeSS:(Tryz.prog.info? 65).map (·.size)=some 32:=by kernel_rfl
structure SOS (w:World) (xs:List Int) (k:Nat) (wr:World):Prop where
 below:Below w.heap.size w wr
 res:Row wr w.heap.size 65 z32
 set:∃ bs,Row wr (w.heap.size+1) 65 bs∧SetB bs (fun v=>(v:Int)∈xs.take k)
 ok:∀ i,i<k→okI xs i
def lastOf (xs:List Int) (k:Nat):Int:=if k=0 then -1 else xs.getD (k-1) 0
def SoP (w:World) (xs:List Int) (e:Ending) (w':World):Prop:=
 ∃ bs,e=.returned (.tuple #[.agg (bs.map (Value.int .u8)).toArray,.bool (serB xs)])∧bs.length=32∧Byte bs∧(SerP xs→SetB bs (fun v=>(v:Int)∈xs))∧Below w.heap.size w w'
set_option maxRecDepth 100000 in
set_option maxHeartbeats 4000000 in
theorem setOf_any (a:Option Addr) (n cap:Nat) (xs:List Int) (w:World) (hn:xs.length=n) (hm:n≤1048576) (ha:At .i64 w a xs) :
  Calls Tryz.prog 45 #[.slice a n cap] w (SoP w xs):=by
 have HS:Hid (SOS w xs 0 ((w.alloc (.cells #[.int .u8 0,.int .u8 0,.int .u8 0,.int .u8 0,.int .u8 0,.int .u8 0,.int .u8 0,.int .u8 0,.int .u8 0,.int .u8 0,.int .u8 0,.int .u8 0,.int .u8 0,.int .u8 0,.int .u8 0,.int .u8 0,.int .u8 0,.int .u8 0,.int .u8 0,.int .u8 0,.int .u8 0,.int .u8 0,.int .u8 0,.int .u8 0,.int .u8 0,.int .u8 0,.int .u8 0,.int .u8 0,.int .u8 0,.int .u8 0,.int .u8 0,.int .u8 0] 65)).alloc (.cells #[.int .u8 0,.int .u8 0,.int .u8 0,.int .u8 0,.int .u8 0,.int .u8 0,.int .u8 0,.int .u8 0,.int .u8 0,.int .u8 0,.int .u8 0,.int .u8 0,.int .u8 0,.int .u8 0,.int .u8 0,.int .u8 0,.int .u8 0,.int .u8 0,.int .u8 0,.int .u8 0,.int .u8 0,.int .u8 0,.int .u8 0,.int .u8 0,.int .u8 0,.int .u8 0,.int .u8 0,.int .u8 0,.int .u8 0,.int .u8 0,.int .u8 0,.int .u8 0] 65))):=by
  have bb:Below w.heap.size w ((w.alloc (.cells #[.int .u8 0,.int .u8 0,.int .u8 0,.int .u8 0,.int .u8 0,.int .u8 0,.int .u8 0,.int .u8 0,.int .u8 0,.int .u8 0,.int .u8 0,.int .u8 0,.int .u8 0,.int .u8 0,.int .u8 0,.int .u8 0,.int .u8 0,.int .u8 0,.int .u8 0,.int .u8 0,.int .u8 0,.int .u8 0,.int .u8 0,.int .u8 0,.int .u8 0,.int .u8 0,.int .u8 0,.int .u8 0,.int .u8 0,.int .u8 0,.int .u8 0,.int .u8 0] 65)).alloc (.cells #[.int .u8 0,.int .u8 0,.int .u8 0,.int .u8 0,.int .u8 0,.int .u8 0,.int .u8 0,.int .u8 0,.int .u8 0,.int .u8 0,.int .u8 0,.int .u8 0,.int .u8 0,.int .u8 0,.int .u8 0,.int .u8 0,.int .u8 0,.int .u8 0,.int .u8 0,.int .u8 0,.int .u8 0,.int .u8 0,.int .u8 0,.int .u8 0,.int .u8 0,.int .u8 0,.int .u8 0,.int .u8 0,.int .u8 0,.int .u8 0,.int .u8 0,.int .u8 0] 65)):=((Below.refl _ _).alloc (Nat.le_refl _) _).alloc (by simp) _;refine⟨bb,?_,⟨z32,?_,z32_set.congr (fun v _=>by simp)⟩,fun i hi=>by omega⟩
  ·show _=_
   rw[Below.heap_alloc _ _ w.heap.size (by simp)];exact heap_alloc_new w _
  ·show _=_
   have:=heap_alloc_new (w.alloc (.cells #[.int .u8 0,.int .u8 0,.int .u8 0,.int .u8 0,.int .u8 0,.int .u8 0,.int .u8 0,.int .u8 0,.int .u8 0,.int .u8 0,.int .u8 0,.int .u8 0,.int .u8 0,.int .u8 0,.int .u8 0,.int .u8 0,.int .u8 0,.int .u8 0,.int .u8 0,.int .u8 0,.int .u8 0,.int .u8 0,.int .u8 0,.int .u8 0,.int .u8 0,.int .u8 0,.int .u8 0,.int .u8 0,.int .u8 0,.int .u8 0,.int .u8 0,.int .u8 0] 65)) (.cells #[.int .u8 0,.int .u8 0,.int .u8 0,.int .u8 0,.int .u8 0,.int .u8 0,.int .u8 0,.int .u8 0,.int .u8 0,.int .u8 0,.int .u8 0,.int .u8 0,.int .u8 0,.int .u8 0,.int .u8 0,.int .u8 0,.int .u8 0,.int .u8 0,.int .u8 0,.int .u8 0,.int .u8 0,.int .u8 0,.int .u8 0,.int .u8 0,.int .u8 0,.int .u8 0,.int .u8 0,.int .u8 0,.int .u8 0,.int .u8 0,.int .u8 0,.int .u8 0] 65)
   rwa [show(w.alloc (.cells #[.int .u8 0,.int .u8 0,.int .u8 0,.int .u8 0,.int .u8 0,.int .u8 0,.int .u8 0,.int .u8 0,.int .u8 0,.int .u8 0,.int .u8 0,.int .u8 0,.int .u8 0,.int .u8 0,.int .u8 0,.int .u8 0,.int .u8 0,.int .u8 0,.int .u8 0,.int .u8 0,.int .u8 0,.int .u8 0,.int .u8 0,.int .u8 0,.int .u8 0,.int .u8 0,.int .u8 0,.int .u8 0,.int .u8 0,.int .u8 0,.int .u8 0,.int .u8 0] 65)).heap.size=w.heap.size+1 by simp] at this
 have HA:Hid (At .i64 w a xs):=ha;have HNX:Hid (xs.length=n):=hn;clear ha hn;go_enter Tryz.func45,Tryz.ntmps45;go_wp2_with fail;generalize ((w.alloc (.cells #[.int .u8 0,.int .u8 0,.int .u8 0,.int .u8 0,.int .u8 0,.int .u8 0,.int .u8 0,.int .u8 0,.int .u8 0,.int .u8 0,.int .u8 0,.int .u8 0,.int .u8 0,.int .u8 0,.int .u8 0,.int .u8 0,.int .u8 0,.int .u8 0,.int .u8 0,.int .u8 0,.int .u8 0,.int .u8 0,.int .u8 0,.int .u8 0,.int .u8 0,.int .u8 0,.int .u8 0,.int .u8 0,.int .u8 0,.int .u8 0,.int .u8 0,.int .u8 0] 65)).alloc (.cells #[.int .u8 0,.int .u8 0,.int .u8 0,.int .u8 0,.int .u8 0,.int .u8 0,.int .u8 0,.int .u8 0,.int .u8 0,.int .u8 0,.int .u8 0,.int .u8 0,.int .u8 0,.int .u8 0,.int .u8 0,.int .u8 0,.int .u8 0,.int .u8 0,.int .u8 0,.int .u8 0,.int .u8 0,.int .u8 0,.int .u8 0,.int .u8 0,.int .u8 0,.int .u8 0,.int .u8 0,.int .u8 0,.int .u8 0,.int .u8 0,.int .u8 0,.int .u8 0] 65))=w0 at *
 go_loopw [5,10] (fun l i wr=>∃ k:Nat,k≤n∧i=.int .i64 k∧l=.int .i64 (lastOf xs k)∧SOS w xs k wr) (fun _ i _=>n-(intOf i).toNat)
 case atStart=>exact⟨0,Nat.zero_le _,rfl,rfl,HS.out⟩
 case round=>
  clear HS;obtain⟨k,hk,rfl,rfl,hst⟩:=hrel;by_cases hlt:k<n
  ·have hlt':(k:Int)<n:=by omega
   obtain⟨b,off,ea,hb,hc⟩:=(HA.out.below hst.below).get (by have:=HNX.out;omega);have hck:=hc k (by have:=HNX.out;omega);have HST:Hid (SOS w xs k wr):=hst;have HEA:Hid (a=some ⟨b,off,none⟩):=ea;subst ea;clear hst hc hb;by_cases hle:xs.getD k 0≤lastOf xs k
   ·have HNO:Hid (¬ SerP xs):=fun h=>by
     have q:=h k (by have:=HNX.out;omega);unfold lastOf at hle;by_cases h0:k=0
     ·rw[if_pos h0] at hle;have:=q.1;omega
     ·rw[if_neg h0] at hle;have:=q.2.2 (by omega);omega
    have HR:Hid (wr.heap[w.heap.size]?=some (.cells (z32.map (Value.int .u8)).toArray 65 (0,0))):=HST.out.res;generalize xs.getD k 0=v at *;generalize lastOf xs k=l at *;go_wp2_with (first
     |(refine wpList_store_row rfl 65 (.tmp 2) (.tmp 22) rfl w.heap.size ((z32.map (Value.int .u8)).toArray) rfl rfl 65 _ HR.out Tryz.sizeSS rfl (all_oneCell_toArray (ints_oneCell _ _)) ?_)
     |fail)
    refine bodyPost_ret (v:=.tuple #[.agg (z32.map (Value.int .u8)).toArray,.bool false]) (results_ct rfl _ _ w.heap.size _ _ rfl rfl (setRow_heap _ _ _ _ _ _ HR.out) Tryz.sizeSS) rfl ?_;exact⟨z32,by rw[serB_no HNO.out],rfl,z32_set.2.1,fun h=>absurd h HNO.out,HST.out.below.trans ((Wr.setRow _ _ _).below (Nat.le_refl _))⟩
   ·by_cases hso:0≤xs.getD k 0∧xs.getD k 0<256
    ·obtain⟨v,hv⟩:=Int.eq_ofNat_of_zero_le hso.1;have hv256:v<256:=by omega
     have HSO:Hid (serOk (v:Int)=true):=decide_eq_true ⟨by omega,by omega⟩;obtain⟨bs,hrow,hset⟩:=HST.out.set;have HBT:Hid (BAt wr (w.heap.size+1) 0 bs):=hrow.bat hset.1 hset.2.1;have HN:∀ q,Hid (SOS w xs (k+1) ((wr.setCell ⟨w.heap.size+1,0+v/8,none⟩ (.int .u8 ((addB bs v).getD (v/8) 0))).drewN q)):=fun q=>by
      have hr2:=hrow.set (v/8) ((addB bs v).getD (v/8) 0);have e2:bs.set (v/8) ((addB bs v).getD (v/8) 0)=addB bs v:=by
       unfold addB;rw[getD_set8 _ _ _ _ (by have:=hset.1;omega),if_pos rfl]
      rw[e2] at hr2;have hw:Wr (w.heap.size+1) wr (wr.setCell ⟨w.heap.size+1,v/8,none⟩ (.int .u8 ((addB bs v).getD (v/8) 0))):=(Wr.refl _ _).setCell _ _;rw[Nat.zero_add];refine⟨?_,?_,⟨addB bs v,hr2,(hset.add v hv256).congr (fun u hu=>?_)⟩,fun i hi=>?_⟩
      ·have bq:=HST.out.below.trans (hw.below (by omega));exact⟨bq.os,bq.tape,bq.output,bq.size,bq.block⟩
      ·have:=HST.out.res;show _=_
       exact(hw.block _ (by omega)).trans this
      ·rw[take_snoc xs k (by have:=HNX.out;omega),List.mem_append,hv];simp only[List.mem_cons,List.not_mem_nil,or_false];constructor
       ·rintro (h|h)
        ·exact .inl h
        ·exact .inr (by omega)
       ·rintro (h|h)
        ·exact .inl h
        ·exact .inr (by omega)
      ·by_cases hik:i<k
       ·exact HST.out.ok i hik
       ·have:i=k:=by omega
        subst this;refine⟨hso.1,hso.2,fun h0=>?_⟩;unfold lastOf at hle;rw[if_neg (by omega)] at hle;omega
     have HL:Hid (lastOf xs (k+1)=(v:Int)):=by show _=_;unfold lastOf;rw[if_neg (by omega),Nat.add_sub_cancel];exact hv
     rw[hv] at hck hle;clear hso hrow hset hv;generalize lastOf xs k=l at *;go_wp2_with fail;refine(isSerial_any _ _).mono ?_;rintro e w1 ⟨rfl,rfl⟩;rw[HSO.out];go_wp2_with fail;refine(addS_any (w.heap.size+1) 0 v bs _ hv256 HBT.out).mono ?_;rintro e w2 ⟨rfl,q,rfl⟩;have H2:=HN q;clear HN HBT HST;generalize (w1.setCell ⟨w.heap.size+1,0+v/8,none⟩ (.int .u8 ((addB bs v).getD (v/8) 0))).drewN q=w2 at *;go_wp2;go_roundw
     case rel=>exact⟨k+1,by omega,by go_num,by rw[HL.out],H2.out⟩
     case measure=>simp[intOf];omega
    ·have HSO:Hid (serOk (xs.getD k 0)=false):=decide_eq_false hso;have HNO:Hid (¬ SerP xs):=fun h=>hso ⟨(h k (by have:=HNX.out;omega)).1,(h k (by have:=HNX.out;omega)).2.1⟩
     have HR:Hid (wr.heap[w.heap.size]?=some (.cells (z32.map (Value.int .u8)).toArray 65 (0,0))):=HST.out.res;clear hso;generalize xs.getD k 0=v at *;generalize lastOf xs k=l at *;go_wp2_with fail;refine(isSerial_any _ _).mono ?_;rintro e w1 ⟨rfl,rfl⟩;rw[HSO.out];go_wp2_with (first
      |(refine wpList_store_row rfl 65 (.tmp 2) (.tmp 22) rfl w.heap.size ((z32.map (Value.int .u8)).toArray) rfl rfl 65 _ HR.out Tryz.sizeSS rfl (all_oneCell_toArray (ints_oneCell _ _)) ?_)
      |fail)
     refine bodyPost_ret (v:=.tuple #[.agg (z32.map (Value.int .u8)).toArray,.bool false]) (results_ct rfl _ _ w.heap.size _ _ rfl rfl (setRow_heap _ _ _ _ _ _ HR.out) Tryz.sizeSS) rfl ?_;exact⟨z32,by rw[serB_no HNO.out],rfl,z32_set.2.1,fun h=>absurd h HNO.out,HST.out.below.trans ((Wr.setRow _ _ _).below (Nat.le_refl _))⟩
  ·have hkn:k=n:=by omega
   have hlt':¬ ((k:Int)<n):=by omega
   obtain⟨bs,hrow,hset⟩:=hst.set;have HYE:Hid (SerP xs):=fun i hi=>hst.ok i (by have:=HNX.out;omega)
   have HBS:Hid (bs.length=32∧Byte bs∧SetB bs (fun v=>(v:Int)∈xs)):=⟨hset.1,hset.2.1,hset.congr (fun v _=>by rw[List.take_of_length_le (by have:=HNX.out;omega)])⟩
   have HR:Hid (wr.heap[w.heap.size]?=some (.cells (z32.map (Value.int .u8)).toArray 65 (0,0))):=hst.res;have HL:Hid (wr.heap[w.heap.size+1]?=some (.cells (bs.map (Value.int .u8)).toArray 65 (0,0))):=hrow;have HSZ:Hid ((Tryz.prog.info? 65).map (·.size)=some ((bs.map (Value.int .u8)).toArray).size):=by show _=_;rw[Tryz.sizeSS];simp[hset.1]
   have HEQ:Hid (((z32.map (Value.int .u8)).toArray).size=((bs.map (Value.int .u8)).toArray).size):=by show _=_;simp[hset.1,z32]
   have HBW:Hid (Below w.heap.size w wr):=hst.below;clear hst hrow hset;generalize lastOf xs k=l at *;go_wp2_with (first
    |(refine wpList_load_row rfl 65 (.tmp 4) rfl (w.heap.size+1) rfl 65 _ (0,0) _ HL.out Tryz.underlying65 rfl HSZ.out ?_)
    |(refine wpList_store_row rfl 65 (.tmp 2) (.tmp 27) rfl w.heap.size ((bs.map (Value.int .u8)).toArray) rfl rfl 65 _ HR.out HSZ.out HEQ.out (all_oneCell_toArray (ints_oneCell _ _)) ?_)
    |fail)
   refine bodyPost_ret (v:=.tuple #[.agg (bs.map (Value.int .u8)).toArray,.bool true]) (results_ct rfl _ _ w.heap.size _ _ rfl rfl (setRow_heap _ _ _ _ _ _ HR.out) HSZ.out) rfl ?_;exact⟨bs,by rw[serB_yes HYE.out],HBS.out.1,HBS.out.2.1,fun _=>HBS.out.2.2,HBW.out.trans ((Wr.setRow _ _ _).below (Nat.le_refl _))⟩
def tapI (U T:List Int) (i:Nat):Prop:=T.getD (i*2) 0∈U∧(0≤T.getD (i*2+1) 0∧T.getD (i*2+1) 0≤4294967295)∧∀ j,j<i→T.getD (j*2) 0≠T.getD (i*2) 0
def TapP (U T:List Int) (n:Nat):Prop:=∀ i,i<n→tapI U T i
open Classical in
noncomputable def tapB (U T:List Int) (n:Nat):Bool:=decide (TapP U T n)
theorem tapB_no {U T:List Int} {n:Nat} (h:¬ TapP U T n):tapB U T n=false:=by unfold tapB;simp[h]
theorem tapB_yes {U T:List Int} {n:Nat} (h:TapP U T n):tapB U T n=true:=by unfold tapB;simp[h]
theorem Row.low {w w':World} {g:Nat} {t:TypeId} {bs:List Int} {B:Nat} (h:Row w g t bs) (b:Below B w w') (hg:g<B):Row w' g t bs:=by unfold Row;rw[b.block g hg];exact h
structure TFS (w:World) (U T:List Int) (k:Nat) (wr:World):Prop where
 below:Below w.heap.size w wr
 set:∃ bs,Row wr w.heap.size 65 bs∧SetB bs (fun v=>(v:Int)∈U∧∀ j,j<k→T.getD (j*2) 0≠(v:Int))
 ok:∀ i,i<k→tapI U T i
open Classical in
set_option maxRecDepth 100000 in
set_option maxHeartbeats 4000000 in
theorem tapsFit_any (a:Option Addr) (n cap:Nat) (U T us:List Int) (w:World) (hn:T.length=n*2) (hm:n≤1048576) (ha:At .i64 w a T) (hU:SerP U) (hs:SetB us (fun v=>(v:Int)∈U)) :
  Calls Tryz.prog 46 #[.slice a n cap,.agg (us.map (Value.int .u8)).toArray] w fun e w'=>e=.returned (.bool (tapB U T n))∧Below w.heap.size w w':=by
 have HS:Hid (TFS w U T 0 (w.alloc (.cells (us.map (Value.int .u8)).toArray 65))):=
  ⟨(Below.refl _ _).alloc (Nat.le_refl _) _,⟨us,heap_alloc_new w _,hs.congr (fun v _=>⟨fun h=>⟨h,fun j hj=>by omega⟩,fun h=>h.1⟩)⟩,fun i hi=>by omega⟩
 have HA:Hid (At .i64 w a T):=ha;have HNX:Hid (T.length=n*2):=hn;have HUR:Hid (∀ z∈U,0≤z∧z<256):=fun z hz=>by
  obtain⟨i,hi,rfl⟩:=List.getElem_of_mem hz;have:=hU i hi;rw[show U[i]=U.getD i 0 by simp[List.getD,hi]];exact⟨this.1,this.2.1⟩
 clear ha hn hs hU;go_enter Tryz.func46,Tryz.ntmps46;go_wp2_with fail;generalize w.alloc (.cells (us.map (Value.int .u8)).toArray 65)=w0 at *
 go_loopw [9] (fun i wr=>∃ k:Nat,k≤n∧i=.int .i64 k∧TFS w U T k wr) (fun i _=>n-(intOf i).toNat)
 case atStart=>exact⟨0,Nat.zero_le _,rfl,HS.out⟩
 case round=>
  clear HS;obtain⟨k,hk,rfl,hst⟩:=hrel;by_cases hlt:k<n
  ·have hlt':(k:Int)<n:=by omega
   obtain⟨b,off,ea,hb,hc⟩:=(HA.out.below hst.below).get (by have:=HNX.out;omega);have c0:=hc (k*2) (by have:=HNX.out;omega);have c1:=hc (k*2+1) (by have:=HNX.out;omega);rw[←Nat.add_assoc] at c1;have HST:Hid (TFS w U T k wr):=hst;subst ea;obtain⟨bs,hrow,hset⟩:=hst.set;have HTI:Hid (tapI U T k↔(T.getD (k*2) 0∈U∧(0≤T.getD (k*2+1) 0∧T.getD (k*2+1) 0≤4294967295)∧∀ j,j<k→T.getD (j*2) 0≠T.getD (k*2) 0)):=Iff.rfl;generalize hs':T.getD (k*2) 0=s at *;generalize hn':T.getD (k*2+1) 0=nw at *;have b1:Below wr.heap.size wr (wr.alloc (.cells #[.int .i64 s,.int .i64 nw] 77)):=(Below.refl _ _).alloc (Nat.le_refl _) _;have hrow1:Row (wr.alloc (.cells #[.int .i64 s,.int .i64 nw] 77)) w.heap.size 65 bs:=hrow.low b1 hrow.lt;have HBT:Hid (BAt (wr.alloc (.cells #[.int .i64 s,.int .i64 nw] 77)) w.heap.size 0 bs):=hrow1.bat hset.1 hset.2.1;have HB1:Hid (Below w.heap.size w (wr.alloc (.cells #[.int .i64 s,.int .i64 nw] 77))):=HST.out.below.trans (b1.mono HST.out.below.size);have HSB:Hid (SetB bs (fun v=>(v:Int)∈U∧∀ j,j<k→T.getD (j*2) 0≠(v:Int))):=hset;have HRW:Hid (Row (wr.alloc (.cells #[.int .i64 s,.int .i64 nw] 77)) w.heap.size 65 bs):=hrow1;have HHQ:Hid (decide (s∈U∧∀ j,j<k→T.getD (j*2) 0≠s)=true↔(0≤s∧s<256∧((s.toNat:Int)∈U∧∀ j,j<k→T.getD (j*2) 0≠(s.toNat:Int)))):=by
    show _↔_
    rw[decide_eq_true_eq];constructor
    ·rintro⟨h1,h2⟩;obtain⟨r0,r1⟩:=HUR.out s h1;have e:(s.toNat:Int)=s:=Int.toNat_of_nonneg r0;rw[e];exact⟨r0,r1,h1,h2⟩
    ·rintro⟨r0,r1,h⟩;have e:(s.toNat:Int)=s:=Int.toNat_of_nonneg r0
     rwa [e] at h
   clear hst hc hb hrow hset hrow1 b1;go_wp2_with fail;generalize hW:wr.alloc (.cells #[.int .i64 s,.int .i64 nw] 77)=w1 at *;have hc10:w1.cell? ⟨wr.heap.size,1,none⟩=some (.int .i64 nw):=by rw[←hW];exact cell_of_row _ _ _ _ _ _ (heap_alloc_new wr _)
   have hc00:w1.cell? ⟨wr.heap.size,0,none⟩=some (.int .i64 s):=by rw[←hW];exact cell_of_row _ _ _ _ _ _ (heap_alloc_new wr _)
   have hwl:w.heap.size<wr.heap.size:=by obtain⟨b',r',_⟩:=HST.out.set;exact r'.lt
   clear hW;refine(hasS_any w.heap.size 0 s bs _ (decide (s∈U∧∀ j,j<k→T.getD (j*2) 0≠s)) _ HBT.out HSB.out HHQ.out).mono ?_;rintro e w2 ⟨rfl,rfl⟩;by_cases hin:s∈U∧∀ j,j<k→T.getD (j*2) 0≠s
   ·rw[decide_eq_true hin];have HIN:Hid (s∈U∧∀ j,j<k→T.getD (j*2) 0≠s):=hin;clear hin HHQ;go_wp2_with fail;refine(isNow_any _ _).mono ?_;rintro e w3 ⟨rfl,rfl⟩;by_cases hno:0≤nw∧nw≤4294967295
    ·have HNO:Hid (nowOk nw=true):=decide_eq_true hno;obtain⟨r0,r1⟩:=HUR.out s HIN.out.1;obtain⟨v,hv⟩:=Int.eq_ofNat_of_zero_le r0;have hv256:v<256:=by omega
     have HN:∀ q,Hid (TFS w U T (k+1) ((w3.setCell ⟨w.heap.size,0+v/8,none⟩ (.int .u8 ((remB bs v).getD (v/8) 0))).drewN q)):=fun q=>by
      have hr2:=HRW.out.set (v/8) ((remB bs v).getD (v/8) 0);have e2:bs.set (v/8) ((remB bs v).getD (v/8) 0)=remB bs v:=by
       unfold remB;rw[getD_set8 _ _ _ _ (by have:=HSB.out.1;omega),if_pos rfl]
      rw[e2] at hr2;have hw:Wr w.heap.size w3 (w3.setCell ⟨w.heap.size,v/8,none⟩ (.int .u8 ((remB bs v).getD (v/8) 0))):=(Wr.refl _ _).setCell _ _;rw[Nat.zero_add];refine⟨?_,⟨remB bs v,hr2,(HSB.out.rem v hv256).congr (fun u hu=>?_)⟩,fun i hi=>?_⟩
      ·have bq:=HB1.out.trans (hw.below (Nat.le_refl _));exact⟨bq.os,bq.tape,bq.output,bq.size,bq.block⟩
      ·constructor
       ·rintro⟨⟨h1,h2⟩,h3⟩;refine⟨h1,fun j hj=>?_⟩;by_cases hjk:j<k
        ·exact h2 j hjk
        ·have:j=k:=by omega
         subst this;rw[hs',hv];intro e;exact h3 (by omega)
       ·rintro⟨h1,h2⟩;refine⟨⟨h1,fun j hj=>h2 j (by omega)⟩,fun e=>?_⟩;have:=h2 k (by omega);rw[hs',hv,e] at this;exact this rfl
      ·by_cases hik:i<k
       ·exact HST.out.ok i hik
       ·have:i=k:=by omega
        subst this;exact HTI.out.2 ⟨HIN.out.1,hno,HIN.out.2⟩
     rw[HNO.out];clear hno r0 r1 HIN;subst hv;go_wp2_with fail;refine(remS_any w.heap.size 0 v bs _ hv256 HBT.out).mono ?_;rintro e w4 ⟨rfl,q,rfl⟩;have H2:=HN q;clear HN HBT HST HRW HSB HB1;generalize (w3.setCell ⟨w.heap.size,0+v/8,none⟩ (.int .u8 ((remB bs v).getD (v/8) 0))).drewN q=w4 at *;go_wp2;go_roundw
     case rel=>exact⟨k+1,by omega,by go_num,H2.out⟩
     case measure=>simp[intOf];omega
    ·have HNO:Hid (nowOk nw=false):=decide_eq_false hno;have HNT:Hid (tapB U T n=false):=tapB_no (fun h=>hno (HTI.out.1 (h k hlt)).2.1);rw[HNO.out];clear hno;go_wp2
     go_ret
     exact⟨by rw[HNT.out];rfl,HB1.out⟩
   ·rw[decide_eq_false hin];have HNT:Hid (tapB U T n=false):=tapB_no (fun h=>hin ⟨(HTI.out.1 (h k hlt)).1,(HTI.out.1 (h k hlt)).2.2⟩);clear hin HHQ;go_wp2
    go_ret
    exact⟨by rw[HNT.out];rfl,HB1.out⟩
  ·have hkn:k=n:=by omega
   have hlt':¬ ((k:Int)<n):=by omega
   have HNT:Hid (tapB U T n=true):=tapB_yes (fun i hi=>hst.ok i (by omega));have HBW:Hid (Below w.heap.size w wr):=hst.below;clear hst;go_wp2
   go_ret
   exact⟨by rw[HNT.out];rfl,HBW.out⟩
theorem ktU:KT .u64 132 131 8:=⟨by kernel_rfl,Tryz.underlying131,by decide,by decide⟩
abbrev OwnU:=OwnK .u64 132
def D32 (zs:List Int):Prop:=∀ z∈zs,0≤z∧z<4294967296
theorem D32.get {zs:List Int} (h:D32 zs) (i:Nat):0≤zs.getD i 0∧zs.getD i 0<4294967296:=by
 by_cases hi:i<zs.length
 ·rw[List.getD_eq_getElem?_getD,List.getElem?_eq_getElem hi];exact h _ (List.getElem_mem hi)
 ·rw[List.getD_eq_getElem?_getD,List.getElem?_eq_none (by omega)];exact⟨by decide,by decide⟩
theorem D32.set {zs:List Int} (h:D32 zs) (i:Nat) (x:Int) (h0:0≤x) (h1:x<4294967296):D32 (zs.set i x):=by
 intro z hz;rcases List.mem_or_eq_of_mem_set hz with h'|rfl
 ·exact h z h'
 ·exact⟨h0,h1⟩
theorem getD_set_other (zs:List Int) (i j:Nat) (x:Int) (h:j≠i):(zs.set i x).getD j 0=zs.getD j 0:=by
 rw[List.getD_eq_getElem?_getD,List.getElem?_set_ne (Ne.symm h),List.getD_eq_getElem?_getD]
theorem getD_set_same (zs:List Int) (i:Nat) (x:Int) (h:i<zs.length):(zs.set i x).getD i 0=x:=by
 rw[List.getD_eq_getElem?_getD,List.getElem?_set_self h];rfl
theorem mul_step (B V o a b c P S:Int) (x:Int) (hx:x=o+a*b+c) (h:V+c*P=S):(V+(x%B-o)*P)+x/B*(P*B)=S+a*(b*P):=by
 have e:x%B+B*(x/B)=x:=Int.emod_add_mul_ediv _ _;have e2:(x%B+B*(x/B))*P=x*P:=by rw[e]
 subst hx
 grind
theorem mul_row (A x P Y:Int):A*Y+x*(P*Y)=(A+x*P)*Y:=by grind
structure MR (w:World) (xs ys:List Int) (i:Nat) (zs:List Int):Prop where
 len:zs.length=xs.length+ys.length
 dig:D32 zs
 zero:∀ j,i+ys.length≤j→zs.getD j 0=0
def MulPost (w:World) (xs ys:List Int) (e:Ending) (w':World):Prop:=
 ∃ v zs,e=.returned v∧OwnU w' w.heap.size v zs∧zs.length=xs.length+ys.length∧D32 zs∧val 4294967296 zs=val 4294967296 xs*val 4294967296 ys∧Below w.heap.size w w'
set_option maxHeartbeats 1000000 in
theorem mul_any (a a':Option Addr) (n m cap cap':Nat) (xs ys:List Int) (w:World) (hn:xs.length=n) (hm:ys.length=m) (hn':n≤1024) (hm':m≤1024) (hm0:0<m) (hn0:0<n) (ha:At .u64 w a xs) (ha':At .u64 w a' ys) (hx:D32 xs) (hy:D32 ys) :
  Calls Tryz.prog 146 #[.slice a n cap,.slice a' m cap'] w (MulPost w xs ys):=by
 obtain⟨b0,off,rfl,hb0,hc⟩:=ha.get (by omega);obtain⟨b1,off',rfl,hb1,hc'⟩:=ha'.get (by omega);have HC:Hid (∀ i,i<xs.length→w.cell? ⟨b0,off+i,none⟩=some (.int .u64 (xs.getD i 0))):=hc;have HC':Hid (∀ i,i<ys.length→w.cell? ⟨b1,off'+i,none⟩=some (.int .u64 (ys.getD i 0))):=hc';clear hc hc' ha ha';go_enter Tryz.func146,Tryz.ntmps146;go_wp2
 go_loopw [5,6] (fun v i wr=>∃ k:Nat,k≤n+m∧i=.int .i64 k∧OwnU wr w.heap.size v (List.replicate k 0)∧Below w.heap.size w wr) (fun _ i _=>n+m-(intOf i).toNat)
 case atStart=>exact⟨0,Nat.zero_le _,rfl,OwnK.empty _ _ (Nat.le_refl _),(Below.refl _ _).alloc (Nat.le_refl _) _⟩
 case round=>
  obtain⟨k,hk,rfl,hown,hbel⟩:=hrel;by_cases hlt:k<n+m
  ·have hsz:=hbel.size;have hlt':(k:Int)<(n:Int)+(m:Int):=by omega
   go_wp2_with (at_builtin;refine wpList_appK _ ktU rfl _ _ rfl w.heap.size _ _ rfl (hown.alloc _) ⟨wr.heap.size,0,none⟩ 1 1 [0] rfl rfl ?c1 ?c2 ?c3 ?_);all_goals first|(intro j hj;obtain rfl:j=0:=by omega
                                                                                                                                                                          simp[Addr.add];done)|skip
   case c2=>simp;omega
   case c3=>first|omega|(rw[World.size_alloc];omega)
   intro v' w1 hown' hbel' _;have HO:Hid (OwnU w1 w.heap.size v' (List.replicate (k+1) 0)):=by rw[List.replicate_succ'];exact hown'
   have HB:Hid (Below w.heap.size w w1):=(hbel.alloc (by omega) _).trans hbel';clear hown hown' hbel hbel';go_wp2;go_roundw
   case rel=>exact⟨k+1,by omega,by go_num,HO.out,HB.out⟩
   case measure=>simp[intOf];omega
  ·obtain rfl:k=n+m:=by omega
   obtain⟨g,c,rfl,hg,hg',_⟩:=hown.at_;rw[List.length_replicate] at hown ⊢;have HO:Hid (OwnU wr w.heap.size (.slice (some ⟨g,0,none⟩) (n+m) c) (List.replicate (n+m) 0)):=hown;have HB:Hid (Below w.heap.size w wr):=hbel;have ecast:((n+m:Nat):Int)=(n:Int)+(m:Int):=by omega
   clear hown hbel;go_wp2
   go_loopw [7] (fun i wq=>∃(k:Nat) (zs:List Int),k≤n∧i=.int .i64 k∧MR w xs ys k zs∧val 4294967296 zs=val 4294967296 (xs.take k)*val 4294967296 ys∧OwnU wq w.heap.size (.slice (some ⟨g,0,none⟩) (n+m) c) zs∧Below w.heap.size w wq) (fun i _=>n-(intOf i).toNat)
   case atStart=>
    refine⟨0,List.replicate (n+m) 0,Nat.zero_le _,rfl,⟨by simp[hn,hm],?_,?_⟩,?_,HO.out,HB.out⟩
    ·intro z hz;rw[List.mem_replicate] at hz;omega
    ·intro j hj;simp[List.getD_eq_getElem?_getD,List.getElem?_replicate];split<;>rfl
    ·simp only[List.take_zero,val,Int.zero_mul];generalize n+m=q
     induction q with
     |zero=>rfl
     |succ q ih=>rw[List.replicate_succ];simp[val,ih]
   case round=>
    clear HO HB;obtain⟨k,zs,hk,rfl,⟨hzl,hzd,hzz⟩,hv,hown,hbel⟩:=hrel;by_cases hkn:k<n
    ·have hkn':(k:Int)<(n:Int):=by omega
     have HX:=hx.get k;have HV:Hid (val 4294967296 zs=val 4294967296 (xs.take k)*val 4294967296 ys):=hv;have HVT:Hid (val 4294967296 (xs.take (k+1))=val 4294967296 (xs.take k)+xs.getD k 0*4294967296^k):=val_take _ xs k (by omega);have HO:Hid (OwnU wr w.heap.size (.slice (some ⟨g,0,none⟩) (n+m) c) zs):=hown;have HZ:Hid (zs.length=xs.length+ys.length∧D32 zs∧∀ j,k+ys.length≤j→zs.getD j 0=0):=⟨hzl,hzd,hzz⟩
     have HBE:Hid (Below w.heap.size w wr):=hbel;have HCX:Hid (∀ w',Below w.heap.size w w'→w'.cell? ⟨b0,off+k,none⟩=some (.int .u64 (xs.getD k 0))):=fun w' hb=>by rw[hb.cell (p:=⟨b0,off+k,none⟩) hb0];exact HC.out k (by omega)
     clear hv hown hzl hzd hzz hbel;obtain⟨hX0,hX1⟩:=HX;generalize xs.getD k 0=x at *;go_wp2
     go_loopw [8,9] (fun cc i wq=>∃(j:Nat) (zs:List Int) (b:Int),j≤m∧i=.int .i64 j∧cc=.int .u64 b∧(0≤b∧b<4294967296)∧(zs.length=xs.length+ys.length∧D32 zs∧∀ j,k+ys.length≤j→zs.getD j 0=0)∧val 4294967296 zs+b*4294967296^(k+j)=val 4294967296 (xs.take k)*val 4294967296 ys+x*(4294967296^k*val 4294967296 (ys.take j))∧OwnU wq w.heap.size (.slice (some ⟨g,0,none⟩) (n+m) c) zs∧Below w.heap.size w wq) (fun _ i _=>m-(intOf i).toNat)
     case atStart=>exact⟨0,zs,0,Nat.zero_le _,rfl,rfl,⟨by decide,by decide⟩,HZ.out,by rw[HV.out,List.take_zero];simp[val],HO.out,HBE.out⟩
     case round=>
      clear HV HO HZ HBE;obtain⟨j,zs,b,hj,rfl,rfl,⟨hb0',hb1'⟩,⟨hzl,hzd,hzz⟩,hv,hown,hbel⟩:=hrel;by_cases hjm:j<m
      ·have hjm':(j:Int)<(m:Int):=by omega
       have cx:=HCX.out _ hbel;have cy:wr.cell? ⟨b1,off'+j,none⟩=some (.int .u64 (ys.getD j 0)):=by rw[hbel.cell (p:=⟨b1,off'+j,none⟩) hb1];exact HC'.out j (by omega)
       have HY:=hy.get j;have hzb:=hzd.get (k+j);have vt:=val_take 4294967296 ys j (by omega);obtain⟨pr,hpr⟩:∃ pr,pr=x*ys.getD j 0:=⟨_,rfl⟩
       have hp0:0≤pr:=by rw[hpr];exact Int.mul_nonneg hX0 HY.1
       have hp1:pr≤18446744065119617025:=by
        rw[hpr];exact Int.le_trans (Int.mul_le_mul (show x≤4294967295 by omega) (show ys.getD j 0≤4294967295 by omega) HY.1 (by decide)) (by decide)
       obtain⟨y,hyy⟩:∃ y,y=zs.getD (k+j) 0+pr+b:=⟨_,rfl⟩
       have hy0:0≤y:=by omega
       have hy1:y<18446744073709551616:=by omega
       have st:=mul_step 4294967296 _ (zs.getD (k+j) 0) x (ys.getD j 0) b _ _ y (by rw[hyy,hpr]) hv;have e1:val 4294967296 (xs.take k)*val 4294967296 ys+x*(4294967296^k*val 4294967296 (ys.take j))+x*(ys.getD j 0*4294967296^(k+j))=val 4294967296 (xs.take k)*val 4294967296 ys+x*(4294967296^k*val 4294967296 (ys.take (j+1))):=by
        rw[vt,Int.pow_add];grind
       obtain⟨cz,fz,oz⟩:=OwnK.set (by omega:zs.length=n+m) hown (k+j) (y%4294967296) (by omega);have hle:k+j<zs.length:=by omega
       have HS:Hid (val 4294967296 (zs.set (k+j) (y%4294967296))+y/4294967296*4294967296^(k+(j+1))=val 4294967296 (xs.take k)*val 4294967296 ys+x*(4294967296^k*val 4294967296 (ys.take (j+1)))):=by
        show _=_
        rw[val_set _ _ _ _ hle,←e1,←st,←Nat.add_assoc,Int.pow_succ]
       have HZ:Hid ((zs.set (k+j) (y%4294967296)).length=xs.length+ys.length∧D32 (zs.set (k+j) (y%4294967296))∧∀ i,k+ys.length≤i→(zs.set (k+j) (y%4294967296)).getD i 0=0):=
        ⟨by rw[List.length_set];exact hzl,hzd.set _ _ (by omega) (by omega),fun i hi=>by rw[getD_set_other _ _ _ _ (by omega)];exact hzz i hi⟩
       have HO:Hid (OwnU (wr.setCell ⟨g,k+j,none⟩ (.int .u64 (y%4294967296))) w.heap.size (.slice (some ⟨g,0,none⟩) (n+m) c) (zs.set (k+j) (y%4294967296))):=oz;have HBE:Hid (Below w.heap.size w (wr.setCell ⟨g,k+j,none⟩ (.int .u64 (y%4294967296)))):=hbel.setCell hg _;have HQ:Hid (x*ys.getD j 0=pr):=hpr.symm;have HQ2:Hid (zs.getD (k+j) 0+pr+b=y):=hyy.symm;have hw1:IntKind.u64.wrap (x*ys.getD j 0)=pr:=by rw[←hpr,IntKind.wrap_u64];exact Int.emod_eq_of_lt hp0 (by omega)
       clear e1 st vt oz hv hzd hzz hown hbel hle hpr hzl HVT;obtain⟨hY0,hY1⟩:=HY;obtain⟨hz0,hz1⟩:=hzb;generalize ys.getD j 0=yy at *;generalize zs.getD (k+j) 0=zz at *;have hkj:(k:Int)+(j:Int)<(n:Int)+(m:Int):=by omega
       go_wp2
       go_quiet (fail)
       rw[HQ2.out];have cz2:(wr.drewN nq).cell? ⟨g,k+j,none⟩=some (.int .u64 zz):=cz;have fz2:(wr.drewN nq).frozen? ⟨g,k+j,none⟩=false:=fz;have HO2:Hid (OwnU ((wr.drewN nq).setCell ⟨g,k+j,none⟩ (.int .u64 (y%4294967296))) w.heap.size (.slice (some ⟨g,0,none⟩) (n+m) c) (zs.set (k+j) (y%4294967296))):=HO.out;have HBE2:Hid (Below w.heap.size w ((wr.drewN nq).setCell ⟨g,k+j,none⟩ (.int .u64 (y%4294967296)))):=⟨HBE.out.os,HBE.out.tape,HBE.out.output,HBE.out.size,HBE.out.block⟩
       have hyq0:0≤y/4294967296:=by omega
       have hyq1:y/4294967296<4294967296:=by omega
       clear cz fz HO HBE cx cy HQ hw1 hyy HQ2 hp0 hp1 hz0 hz1;generalize wr.drewN nq=w2 at *;go_wp2;go_roundw
       case rel=>exact⟨j+1,zs.set (k+j) (y%4294967296),y/4294967296,by omega,by go_num,rfl,⟨hyq0,hyq1⟩,HZ.out,HS.out,HO2.out,HBE2.out⟩
       case measure=>simp[intOf];omega
      ·obtain rfl:j=m:=by omega
       rw[List.take_of_length_le (l:=ys) (i:=j) (by omega)] at hv;have hzk:=hzz (k+j) (by omega);obtain⟨cz,fz,oz⟩:=OwnK.set (by omega:zs.length=n+j) hown (k+j) b (by omega);rw[hzk] at cz;have hle:k+j<zs.length:=by omega
       have vs:=val_set 4294967296 zs (k+j) b hle;rw[hzk,Int.sub_zero,hv] at vs;have HS:Hid (val 4294967296 (zs.set (k+j) b)=val 4294967296 (xs.take (k+1))*val 4294967296 ys):=by
        show _=_
        rw[vs,HVT.out,mul_row]
       have HZ:Hid (MR w xs ys (k+1) (zs.set (k+j) b)):=⟨by rw[List.length_set];exact hzl,hzd.set _ _ (by omega) (by omega),fun i hi=>by rw[getD_set_other _ _ _ _ (by omega)];exact hzz i (by omega)⟩
       have HO:Hid (OwnU (wr.setCell ⟨g,k+j,none⟩ (.int .u64 b)) w.heap.size (.slice (some ⟨g,0,none⟩) (n+j) c) (zs.set (k+j) b)):=oz;have HBE:Hid (Below w.heap.size w (wr.setCell ⟨g,k+j,none⟩ (.int .u64 b))):=hbel.setCell hg _;have hkj:(k:Int)+(j:Int)<(n:Int)+(j:Int):=by omega
       clear hv hzk oz hle vs hzz hzd hown hbel HVT HCX hzl;go_wp2;go_roundw
       case rel=>exact⟨k+1,zs.set (k+j) b,by omega,by go_num,HZ.out,HS.out,HO.out,HBE.out⟩
       case measure=>simp[intOf];omega
    ·obtain rfl:k=n:=by omega
     rw[List.take_of_length_le (by omega)] at hv;have hke:zs.length=k+m:=by omega
     have HP:Hid (MulPost w xs ys (.returned (.slice (some ⟨g,0,none⟩) (k+m) c)) wr):=⟨_,zs,rfl,hown,hzl,hzd,hv,hbel⟩
     clear hzl hzd hzz hv hown hbel hke;go_wp2
     go_ret
     exact HP.out
set_option maxHeartbeats 400000 in
theorem digit_any (a:Option Addr) (n cap i:Nat) (zs:List Int) (w:World) (hn:zs.length=n) (hm:n≤4096) (hi:i≤8192) (ha:At .u64 w a zs) :
  Calls Tryz.prog 161 #[.slice a n cap,.int .i64 i] w fun e w'=>e=.returned (.int .u64 (zs.getD i 0))∧w'=w:=by
 by_cases h:i<n
 ·obtain⟨b,off,rfl,hb,hc⟩:=ha.get (by omega);have c0:=hc i (by omega);have h':(i:Int)<(n:Int):=by omega
  generalize zs.getD i 0=x at *;clear hc;go_enter Tryz.func161,Tryz.ntmps161;go_wp2
  go_ret
  exact⟨rfl,rfl⟩
 ·have e:zs.getD i 0=0:=by rw[List.getD_eq_getElem?_getD,List.getElem?_eq_none (by omega)];rfl
  rw[e];have h':¬ (i:Int)<(n:Int):=by omega
  go_enter Tryz.func161,Tryz.ntmps161;go_wp2
  go_ret
  exact⟨rfl,rfl⟩
theorem want_digit (B p:Int) (k i:Nat) (hB:1<B) (h0:0≤p) (h1:p<B):p*B^k/B^i%B=if i=k then p else 0:=by
 have hp:∀ j:Nat,(0:Int)<B^j:=fun j=>Int.pow_pos (by omega)
 by_cases h:i=k
 ·subst h;rw[if_pos rfl,Int.mul_ediv_cancel _ (Int.ne_of_gt (hp i))];exact Int.emod_eq_of_lt h0 h1
 ·rw[if_neg h];rcases Nat.lt_or_gt_of_ne h with hl|hg
  ·obtain⟨d,rfl⟩:∃ d,k=i+1+d:=⟨k-i-1,by omega⟩
   have e:p*B^(i+1+d)=(p*B^d*B)*B^i:=by rw[Int.pow_add,Int.pow_succ];grind
   rw[e,Int.mul_ediv_cancel _ (Int.ne_of_gt (hp i)),Int.mul_emod_left]
  ·have hlt:p*B^k<B^i:=by
    obtain⟨d,rfl⟩:∃ d,i=k+1+d:=⟨i-k-1,by omega⟩
    have a1:p*B^k<B*B^k:=Int.mul_lt_mul_of_pos_right h1 (hp k);have a2:B*B^k≤B^(k+1+d):=by
     have:B^(k+1+d)=B*B^k*B^d:=by rw[Int.pow_add,Int.pow_succ];grind
     rw[this];have h3:B*B^k*1≤B*B^k*B^d:=Int.mul_le_mul_of_nonneg_left (by have:=hp d;omega) (Int.mul_nonneg (by omega) (Int.le_of_lt (hp k)));omega
    omega
   rw[Int.ediv_eq_zero_of_lt (Int.mul_nonneg h0 (Int.le_of_lt (hp k))) hlt];rfl
theorem high_step {A T P B:Int} (hB:0<B) (hP:0<P) (h:A/(P*B)=T/(P*B)):(A/P%B=T/P%B→A/P=T/P)∧(A/P%B<T/P%B→A<T)∧(T/P%B<A/P%B→T<A):=by
 have e1:=Int.emod_add_mul_ediv (A/P) B;have e2:=Int.emod_add_mul_ediv (T/P) B;rw[Int.ediv_ediv_of_nonneg (Int.le_of_lt hP)] at e1 e2;rw[h] at e1;have lt:∀ X Y:Int,X/P<Y/P→X<Y:=fun X Y hh=>by
  rcases Int.lt_or_le X Y with h'|h'
  ·exact h'
  ·have:=Int.ediv_le_ediv hP h';omega
 refine⟨fun hh=>?_,fun hh=>lt _ _ ?_,fun hh=>lt _ _ ?_⟩
 ·rw[←e1,←e2,hh]
 ·generalize B*(T/(P*B))=z at *;omega
 ·generalize B*(T/(P*B))=z at *;omega
set_option maxHeartbeats 1000000 in
theorem atm_any (a:Option Addr) (n cap k:Nat) (p:Int) (zs:List Int) (w:World) (hn:zs.length=n) (hm:n≤4096) (hk:k≤1024) (ha:At .u64 w a zs) (hz:D32 zs) (hp0:0≤p) (hp1:p<4294967296) :
  Calls Tryz.prog 147 #[.slice a n cap,.int .u64 p,.int .i64 k] w fun e w'=>e=.returned (.bool (decide (val 4294967296 zs≤p*4294967296^k)))∧w'=w:=by
 have hA0:0≤val 4294967296 zs:=val_nonneg (by decide) hz;have hA1:val 4294967296 zs<4294967296^n:=by rw[←hn];exact val_lt (by decide) hz
 have hpw:∀ j:Nat,(0:Int)<4294967296^j:=fun j=>Int.pow_pos (by decide)
 have HW:Hid (∀ j:Nat,(0:Int)<4294967296^j):=hpw;have HT:Hid (val 4294967296 zs/4294967296^(n+k+1)=p*4294967296^k/4294967296^(n+k+1)):=by
  show _=_
  rw[Int.ediv_eq_zero_of_lt hA0,Int.ediv_eq_zero_of_lt (Int.mul_nonneg hp0 (Int.le_of_lt (hpw k)))]
  ·have e:(4294967296:Int)^(n+k+1)=4294967296*4294967296^k*4294967296^n:=by rw[show n+k+1=n+(k+1) by omega,Int.pow_add,Int.pow_succ];grind
   have a1:p*4294967296^k<4294967296*4294967296^k:=Int.mul_lt_mul_of_pos_right hp1 (hpw k);have a2:4294967296*4294967296^k*1≤4294967296*4294967296^k*(4294967296:Int)^n:=Int.mul_le_mul_of_nonneg_left (by have:=hpw n;omega) (Int.mul_nonneg (by decide) (Int.le_of_lt (hpw k)));rw[e];omega
  ·have e:(4294967296:Int)^(n+k+1)=4294967296^n*4294967296^(k+1):=by rw[show n+k+1=n+(k+1) by omega,Int.pow_add]
   have a2:4294967296^n*1≤4294967296^n*(4294967296:Int)^(k+1):=Int.mul_le_mul_of_nonneg_left (by have:=hpw (k+1);omega) (Int.le_of_lt (hpw n));rw[e];omega
 clear hA0 hA1 hpw;go_enter Tryz.func147,Tryz.ntmps147;go_wp2
 go_loop [7] (fun i=>∃ j:Nat,j≤n+k+1∧i=.int .i64 ((j:Int)-1)∧val 4294967296 zs/4294967296^j=p*4294967296^k/4294967296^j) (fun i=>(intOf i+1).toNat)
 case atStart=>exact⟨n+k+1,Nat.le_refl _,by go_num,HT.out⟩
 case round=>
  clear HT;obtain⟨j,hj,rfl,hv⟩:=hrel;by_cases hj0:0<j
  ·obtain⟨j,rfl⟩:∃ i,j=i+1:=⟨j-1,by omega⟩
   have ei:((j+1:Nat):Int)-1=(j:Int):=by omega
   rw[ei];clear ei;rw[Int.pow_succ] at hv;obtain⟨g1,g2,g3⟩:=high_step (by decide) (HW.out j) hv;rw[val_digit (by decide) hz,want_digit _ _ _ _ (by decide) hp0 hp1] at g1 g2 g3;have HD:=hz.get j;have H1:Hid (zs.getD j 0=(if j=k then p else 0)→val 4294967296 zs/4294967296^j=p*4294967296^k/4294967296^j):=g1;have H2:Hid (zs.getD j 0<(if j=k then p else 0)→val 4294967296 zs<p*4294967296^k):=g2;have H3:Hid ((if j=k then p else 0)<zs.getD j 0→p*4294967296^k<val 4294967296 zs):=g3;have HA:Hid (At .u64 w a zs):=ha;clear hv g1 g2 g3;generalize hd:zs.getD j 0=d at *;have HG:Hid (zs.getD j 0=d):=hd;obtain⟨hd0,hd1⟩:=HD;clear hd ha;by_cases hjk:j=k
   ·subst hjk;rw[if_pos rfl] at H1 H2 H3;have hjk':((j:Int) == (j:Int))=true:=by simp
    have hfin:∀ q:Bool,(q=decide (d<p))→d≠p→q=decide (val 4294967296 zs≤p*4294967296^j):=fun q hq hne=>by
     rw[hq];by_cases hlt:d<p
     ·have:=H2.out hlt;have h':val 4294967296 zs≤p*4294967296^j:=by omega
      simp[hlt,h']
     ·have:=H3.out (by omega);have h':¬ val 4294967296 zs≤p*4294967296^j:=by omega
      simp[hlt,h']
    have HF:Hid (∀ q:Bool,(q=decide (d<p))→d≠p→q=decide (val 4294967296 zs≤p*4294967296^j)):=hfin;clear hfin H2 H3;go_wp2_with fail;refine(digit_any a n cap j zs _ hn hm (by omega) HA.out).mono ?_;rintro e w1 ⟨rfl,rfl⟩;rw[HG.out];by_cases hdw:d=p
    ·have HE:=H1.out hdw;have HV:Hid (val 4294967296 zs/4294967296^j=p*4294967296^j/4294967296^j):=HE;have hdw':(d != p)=false:=by simpa using hdw
     have hdw2:(d == p)=true:=by simpa using hdw
     clear HE HF H1 hdw;go_wp2
     go_round
     case rel=>exact⟨j,by omega,rfl,HV.out⟩
     case measure=>first|(simp[intOf];done)|(simp[intOf];omega)
    ·have hdw':(d != p)=true:=by simpa using hdw
     have HN:Hid (d≠p):=hdw;clear hdw H1;go_wp2_with fail;refine(digit_any a n cap j zs _ hn hm (by omega) HA.out).mono ?_;rintro e w2 ⟨rfl,rfl⟩;rw[HG.out];obtain⟨q,hq⟩:∃ q,q=decide (d<p):=⟨_,rfl⟩
     have HQ:Hid (q=decide (val 4294967296 zs≤p*4294967296^j)):=HF.out q hq HN.out;have hq':decide (d<p)=q:=hq.symm;clear hq HF;by_cases hlt:d<p
     ·obtain rfl:q=true:=by rw[←hq'];simpa using hlt
      clear hq';go_wp2
      go_ret
      exact⟨by rw[←HQ.out];rfl,rfl⟩
     ·obtain rfl:q=false:=by rw[←hq'];simpa using hlt
      have HD:Hid (decide (d<p)=false):=hq';clear hq';go_wp2
      go_ret
      refine⟨?_,rfl⟩;show Ending.returned (.bool (decide (d<p)))=_
      rw[HD.out,←HQ.out]
   ·rw[if_neg hjk] at H1 H2 H3;have hjk':((j:Int) == (k:Int))=false:=by simp;omega
    have hfin:∀ q:Bool,(q=decide (d<0))→d≠0→q=decide (val 4294967296 zs≤p*4294967296^k):=fun q hq hne=>by
     rw[hq];by_cases hlt:d<0
     ·have:=H2.out hlt;have h':val 4294967296 zs≤p*4294967296^k:=by omega
      simp[hlt,h']
     ·have:=H3.out (by omega);have h':¬ val 4294967296 zs≤p*4294967296^k:=by omega
      simp[hlt,h']
    have HF:Hid (∀ q:Bool,(q=decide (d<0))→d≠0→q=decide (val 4294967296 zs≤p*4294967296^k)):=hfin;clear hfin H2 H3;go_wp2_with fail;refine(digit_any a n cap j zs _ hn hm (by omega) HA.out).mono ?_;rintro e w1 ⟨rfl,rfl⟩;rw[HG.out];by_cases hdw:d=0
    ·have HE:=H1.out hdw;have HV:Hid (val 4294967296 zs/4294967296^j=p*4294967296^k/4294967296^j):=HE;have hdw':(d != 0)=false:=by simpa using hdw
     have hdw2:(d == 0)=true:=by simpa using hdw
     clear HE HF H1 hdw;go_wp2
     go_round
     case rel=>exact⟨j,by omega,rfl,HV.out⟩
     case measure=>first|(simp[intOf];done)|(simp[intOf];omega)
    ·have hdw':(d != 0)=true:=by simpa using hdw
     have HN:Hid (d≠0):=hdw;clear hdw H1;go_wp2_with fail;refine(digit_any a n cap j zs _ hn hm (by omega) HA.out).mono ?_;rintro e w2 ⟨rfl,rfl⟩;rw[HG.out];obtain⟨q,hq⟩:∃ q,q=decide (d<0):=⟨_,rfl⟩
     have HQ:Hid (q=decide (val 4294967296 zs≤p*4294967296^k)):=HF.out q hq HN.out;have hq':decide (d<0)=q:=hq.symm;clear hq HF;by_cases hlt:d<0
     ·obtain rfl:q=true:=by rw[←hq'];simpa using hlt
      clear hq';go_wp2
      go_ret
      exact⟨by rw[←HQ.out];rfl,rfl⟩
     ·obtain rfl:q=false:=by rw[←hq'];simpa using hlt
      have HD:Hid (decide (d<0)=false):=hq';clear hq';go_wp2
      go_ret
      refine⟨?_,rfl⟩;show Ending.returned (.bool (decide (d<0)))=_
      rw[HD.out,←HQ.out]
  ·obtain rfl:j=0:=by omega
   rw[Int.pow_zero,Int.ediv_one,Int.ediv_one] at hv;have HE:Hid (decide (val 4294967296 zs≤p*4294967296^k)=true):=by show _=_;rw[hv];simp
   clear hv;go_wp2
   go_ret
   exact⟨by rw[HE.out];rfl,rfl⟩
structure RI (p e j X:Nat):Prop where
 lo:X^e≤p*2^(64*e)
 hi:p*2^(64*e)<(X+2^j)^e
 dvd:2^j∣X
 le:X+2^j≤2^67
theorem RI.yes {p e j X:Nat} (h:RI p e (j+1) X) (hy:(X+2^j)^e≤p*2^(64*e)):RI p e j (X+2^j):=by
 have e2:2^(j+1)=2^j+2^j:=by rw[Nat.pow_succ];omega
 refine⟨hy,?_,?_,?_⟩
 ·have:=h.hi;rw[e2,←Nat.add_assoc] at this;exact this
 ·exact Nat.dvd_add (Nat.dvd_trans ⟨2,by rw[Nat.pow_succ]⟩ h.dvd) (Nat.dvd_refl _)
 ·have:=h.le;omega
theorem RI.no {p e j X:Nat} (h:RI p e (j+1) X) (hy:¬ (X+2^j)^e≤p*2^(64*e)):RI p e j X:=by
 have e2:2^(j+1)=2^j+2^j:=by rw[Nat.pow_succ];omega
 refine⟨h.lo,by omega,Nat.dvd_trans ⟨2,by rw[Nat.pow_succ]⟩ h.dvd,by have:=h.le;have:0<2^j:=Nat.pow_pos (by decide);omega⟩
theorem digit_room (X d:Nat) (j:Nat) (hd:X/4294967296^(j/32)%4294967296=d) (hX:2^(j+1)∣X):d+2^(j%32)<4294967296:=by
 obtain⟨t,rfl⟩:=hX;have e1:2^(j+1)*t=4294967296^(j/32)*(2^(j%32+1)*t):=by
  rw[show(4294967296:Nat)=2^32 from rfl,←Nat.pow_mul,←Nat.mul_assoc,←Nat.pow_add]
  congr 2;omega
 rw[e1,Nat.mul_div_cancel_left _ (Nat.pow_pos (by decide))] at hd;have hr:j%32<32:=Nat.mod_lt _ (by decide);obtain⟨q,hq⟩:∃ q,j%32+1+q=32:=⟨31-j%32,by omega⟩
 have e3:(4294967296:Nat)=2^(j%32+1)*2^q:=by rw[←Nat.pow_add,hq]
 rw[e3,Nat.mul_mod_mul_left] at hd;have hlt:t%2^q<2^q:=Nat.mod_lt _ (Nat.pow_pos (by decide));have h4:2^(j%32+1)*(t%2^q+1)≤2^(j%32+1)*2^q:=Nat.mul_le_mul_left _ hlt;rw[←e3,Nat.mul_add,Nat.mul_one,hd,Nat.pow_succ] at h4;have:0<2^(j%32):=Nat.pow_pos (by decide);omega
def RootPost (p e:Nat) (w:World) (en:Ending) (w':World):Prop:=
 ∃ X:Nat,en=.returned (.int .u64 ((X:Int)%18446744073709551616))∧X^e≤p*2^(64*e)∧p*2^(64*e)<(X+1)^e∧Below w.heap.size w w'
structure RS (w:World) (p e j:Nat) (v:Value) (wr:World):Prop where
 st:∃(xs:List Int) (X:Nat),OwnU wr w.heap.size v xs∧xs.length=3∧D32 xs∧val 4294967296 xs=X∧RI p e j X
 below:Below w.heap.size w wr
theorem pw32 (k:Nat):(4294967296:Int)^k=2^(32*k):=by rw[show(4294967296:Int)=2^32 from by decide,←Int.pow_mul]
set_option maxHeartbeats 1000000 in
theorem rootC_any (p e:Nat) (w:World) (hp:p≤409) (he:(e=2∧p<64)∨e=3) :
  Calls Tryz.prog 118 #[.int .u64 p,.int .i64 e] w (RootPost p e w):=by
 have H0:RI p e 67 0:=by
  refine⟨?_,?_,⟨0,rfl⟩,by decide⟩
  ·rcases he with⟨rfl,_⟩|rfl<;>simp
  ·rcases he with⟨rfl,h⟩|rfl
   ·rw[show(0+2^67)^2=64*2^(64*2) from by decide];exact Nat.mul_lt_mul_of_pos_right h (by decide)
   ·rw[show(0+2^67)^3=512*2^(64*3) from by decide];exact Nat.mul_lt_mul_of_pos_right (by omega) (by decide)
 have HS:Hid (RS w p e 67 (.slice (some ⟨w.heap.size,0,none⟩) 3 3) (w.alloc (.cells #[.int .u64 0,.int .u64 0,.int .u64 0] 132))):=
  ⟨⟨[0,0,0],0,OwnK.lit w _ [0,0,0] (Nat.le_refl _) (by decide),rfl,by unfold D32;decide,by decide,H0⟩,(Below.refl _ _).alloc (Nat.le_refl _) _⟩
 have he3:e≤3:=by omega
 have he0:2≤e:=by omega
 clear H0;go_enter Tryz.func118,Tryz.ntmps118;go_wp2
 go_loopw [5,6] (fun v i wr=>∃ j:Nat,j≤67∧i=.int .i64 ((j:Int)-1)∧RS w p e j v wr) (fun _ i _=>(intOf i+1).toNat)
 case atStart=>exact⟨67,Nat.le_refl _,by go_num,HS.out⟩
 case round=>
  clear HS;obtain⟨j,hj,rfl,⟨xs,X,hown,hxl,hxd,hxv,hri⟩,hbel⟩:=hrel;by_cases hj0:0<j
  ·obtain⟨j,rfl⟩:∃ i,j=i+1:=⟨j-1,by omega⟩
   have ei:((j+1:Nat):Int)-1=(j:Int):=by omega
   rw[ei];clear ei;obtain⟨g,c,rfl,hg,hg',hA⟩:=hown.at_;rw[hxl] at hown ⊢;obtain⟨_,_,hE,_,hcl⟩:=hA.get (by omega);cases hE;have hsz:=hbel.size;have hdg:=val_digit (B:=4294967296) (by decide) hxd (j/32);have hdr:=hxd.get (j/32);rw[hxv] at hdg;have hdn:X/4294967296^(j/32)%4294967296=(xs.getD (j/32) 0).toNat:=by
    have:((X/4294967296^(j/32)%4294967296:Nat):Int)=xs.getD (j/32) 0:=by rw[←hdg];simp
    omega
   have hroom:=digit_room X _ j hdn hri.dvd;have hrm:xs.getD (j/32) 0+2^(j%32)<4294967296:=by
    have:((2^(j%32):Nat):Int)=(2:Int)^(j%32):=by simp
    omega
   have h2p:(0:Int)<2^(j%32):=Int.pow_pos (by decide);have hys:val 4294967296 (xs.set (j/32) (xs.getD (j/32) 0+2^(j%32)))=((X+2^j:Nat):Int):=by
    rw[val_set _ _ _ _ (by omega),hxv];have:xs.getD (j/32) 0+2^(j%32)-xs.getD (j/32) 0=(2:Int)^(j%32):=by omega
    rw[this,pw32,←Int.pow_add];have:j%32+32*(j/32)=j:=by omega
    rw[this];simp
   have HYD:Hid (D32 (xs.set (j/32) (xs.getD (j/32) 0+2^(j%32)))):=hxd.set _ _ (by omega) hrm;have HYL:Hid ((xs.set (j/32) (xs.getD (j/32) 0+2^(j%32))).length=3):=by rw[List.length_set];exact hxl
   have HYV:Hid (val 4294967296 (xs.set (j/32) (xs.getD (j/32) 0+2^(j%32)))=((X+2^j:Nat):Int)):=hys;have HRI:Hid (RI p e (j+1) X):=hri;have HX:Hid (xs.length=3∧D32 xs∧val 4294967296 xs=X):=⟨hxl,hxd,hxv⟩
   have HO:Hid (OwnU wr w.heap.size (.slice (some ⟨g,0,none⟩) 3 c) xs):=hown;have HB:Hid (Below w.heap.size w wr):=hbel;have HN:Hid (∀ i,i<3→(wr.alloc (.cells #[] 132)).cell? ((⟨g,0,none⟩:Addr).add i)=some (.int .u64 (xs.getD i 0))):=fun i hi=>by
    rw[Addr.add_lit];rw[((Below.refl wr.heap.size wr).alloc (Nat.le_refl _) (.cells #[] 132)).cell (p:=⟨g,0+i,none⟩) hg'];exact hcl i (by omega)
   have HXL:Hid (xs.length=3):=hxl;clear hdg hdn hroom hys hri hown hbel hxd hxv hcl hA hxl;go_wp2_with (at_builtin;refine wpList_appK _ ktU rfl _ _ rfl wr.heap.size _ [] rfl (OwnK.empty _ _ (Nat.le_refl _)) ⟨g,0,none⟩ 3 _ xs rfl HXL.out HN.out ?c2 ?c3 ?_)
   case c2=>decide
   case c3=>simp
   intro v' w1 hown' hbel' _;obtain⟨g1,c1,rfl,hg1,hg1',_⟩:=hown'.at_;rw[HXL.out] at hown' ⊢;have hB1:Below wr.heap.size wr w1:=((Below.refl _ _).alloc (Nat.le_refl _) _).trans hbel';obtain⟨cz,fz,oz⟩:=OwnK.set HXL.out hown' (j/32) (xs.getD (j/32) 0+2^(j%32)) (by omega);have HO2:Hid (OwnU (w1.setCell ⟨g1,j/32,none⟩ (.int .u64 (xs.getD (j/32) 0+2^(j%32)))) wr.heap.size (.slice (some ⟨g1,0,none⟩) 3 c1) (xs.set (j/32) (xs.getD (j/32) 0+2^(j%32)))):=oz;have HB2:Hid (Below wr.heap.size wr (w1.setCell ⟨g1,j/32,none⟩ (.int .u64 (xs.getD (j/32) 0+2^(j%32))))):=hB1.setCell hg1 _;clear oz hown' hB1 hbel' HN;obtain⟨hd0,hd1⟩:=hdr;generalize hdd:xs.getD (j/32) 0=d at *;have hsh:IntKind.u64.wrap (1*2^(j%32))=2^(j%32):=by rw[Int.one_mul,IntKind.wrap_u64];exact Int.emod_eq_of_lt (by omega) (by omega)
   have hsh':IntKind.u64.wrap (2^(j%32))=2^(j%32):=by rw[IntKind.wrap_u64];exact Int.emod_eq_of_lt (by omega) (by omega)
   have hj3:(j:Int)/32<3:=by omega
   clear hdd;go_wp2_with fail;have o2:=HO2.out;have b2:=HB2.out;have HDL:=HX.out;clear HO2 HB2 cz fz;generalize hyy:xs.set (j/32) (d+2^(j%32))=ys at *;clear hyy;generalize w1.setCell ⟨g1,j/32,none⟩ (.int .u64 (d+2^(j%32)))=w2 at *;obtain⟨hYA,_,_⟩:=o2.atS;have HO9:Hid (OwnU w2 wr.heap.size (.slice (some ⟨g1,0,none⟩) 3 c1) ys):=o2;have HO0:Hid (OwnU w2 w.heap.size (.slice (some ⟨g,0,none⟩) 3 c) xs):=HO.out.grow b2;have HB9:Hid (Below w.heap.size w w2):=HB.out.trans (b2.mono hsz);clear o2 b2 HO HB;refine(mul_any _ _ 3 3 _ _ ys ys _ HYL.out HYL.out (by decide) (by decide) (by decide) (by decide) hYA hYA HYD.out HYD.out).mono ?_;rintro en w3 ⟨v3,zs,rfl,O3,hzl,hzd,hzv,B3⟩;obtain⟨g3,c3,rfl,hg3,hg3',hZA⟩:=O3.at_;rw[HYV.out] at hzv;have hzl':zs.length=6:=by rw[hzl,HYL.out]
   have hYA3:=hYA.below B3;have HO9':Hid (OwnU w3 wr.heap.size (.slice (some ⟨g1,0,none⟩) 3 c1) ys):=HO9.out.grow B3;have HO0':Hid (OwnU w3 w.heap.size (.slice (some ⟨g,0,none⟩) 3 c) xs):=HO0.out.grow B3;have HB9':Hid (Below w.heap.size w w3):=HB9.out.trans (B3.mono HB9.out.size);have hsz9:=B3.size;rw[hzl'] at O3 ⊢;clear HO9 HO0 HB9 hYA O3 B3 hzl;have HTT:Hid ((p:Int)*4294967296^(2*e)=((p*2^(64*e):Nat):Int)):=by
    show _=_
    rw[pw32,Int.natCast_mul,show 32*(2*e)=64*e by omega];simp
   have h2e:((2*e:Nat):Int)=2*(e:Int):=by omega
   rcases he with⟨he2,hp2⟩|he2
   ·have hne:((e:Int) == 3)=false:=by rw[he2];decide
    have HZV:Hid (val 4294967296 zs=(((X+2^j)^e:Nat):Int)):=by
     show _=_
     rw[he2,hzv,Nat.pow_succ,Nat.pow_succ,Nat.pow_zero,Nat.one_mul,Int.natCast_mul]
    clear hzv he2;have hzl:=hzl';clear hzl';go_wp2_with fail;generalize hW:w3=W9 at *;clear hW;generalize hc9:c3=c9 at *;clear hc9;have HO9:=HO9';have HO0:=HO0';have HB9:=HB9';clear HO9' HO0' HB9';by_cases hle:(X+2^j)^e≤p*2^(64*e)
    ·have HQ:Hid (decide (val 4294967296 zs≤(p:Int)*4294967296^(2*e))=true):=by
      show _=_
      rw[HZV.out,HTT.out];have:(((X+2^j)^e:Nat):Int)≤((p*2^(64*e):Nat):Int):=by exact Int.ofNat_le.2 hle
      simpa using this
     have HP:Hid (RS w p e j (.slice (some ⟨g1,0,none⟩) 3 c1) W9):=
      ⟨⟨_,_,(HO9.out.lower hsz),HYL.out,HYD.out,HYV.out,HRI.out.yes hle⟩,HB9.out⟩
     clear hle;have A:=atm_any _ _ c9 (2*e) (p:Int) zs W9 hzl (by omega) (by omega) hZA hzd (by omega) (by omega);rw[h2e] at A;refine A.mono ?_;rintro en w5 ⟨rfl,rfl⟩;rw[HQ.out];clear HQ A;go_wp2;go_roundw
     case rel=>exact⟨j,by omega,rfl,HP.out⟩
     case measure=>first|(simp[intOf];done)|(simp[intOf];omega)
    ·have HQ:Hid (decide (val 4294967296 zs≤(p:Int)*4294967296^(2*e))=false):=by
      show _=_
      rw[HZV.out,HTT.out];have:¬ (((X+2^j)^e:Nat):Int)≤((p*2^(64*e):Nat):Int):=fun h=>hle (Int.ofNat_le.1 h)
      simpa using this
     have HP:Hid (RS w p e j (.slice (some ⟨g,0,none⟩) 3 c) W9):=
      ⟨⟨xs,X,HO0.out,HX.out.1,HX.out.2.1,HX.out.2.2,HRI.out.no hle⟩,HB9.out⟩
     clear hle;have A:=atm_any _ _ c9 (2*e) (p:Int) zs W9 hzl (by omega) (by omega) hZA hzd (by omega) (by omega);rw[h2e] at A;refine A.mono ?_;rintro en w5 ⟨rfl,rfl⟩;rw[HQ.out];clear HQ A;go_wp2;go_roundw
     case rel=>exact⟨j,by omega,rfl,HP.out⟩
     case measure=>first|(simp[intOf];done)|(simp[intOf];omega)
   ·have hne:((e:Int) == 3)=true:=by rw[he2];decide
    have HE:Hid (e=3):=he2;clear he2;have hzl:=hzl';clear hzl';go_wp2_with fail;refine(mul_any _ _ 6 3 _ _ zs ys _ hzl HYL.out (by decide) (by decide) (by decide) (by decide) hZA hYA3 hzd HYD.out).mono ?_;rintro en w4 ⟨v4,us,rfl,O4,hul,hud,huv,B4⟩;obtain⟨g4,c4,rfl,hg4,hg4',hUA⟩:=O4.at_;rw[HYV.out,hzv] at huv;have hul':us.length=9:=by rw[hul,hzl,HYL.out]
    have HO9:Hid (OwnU w4 wr.heap.size (.slice (some ⟨g1,0,none⟩) 3 c1) ys):=HO9'.out.grow B4;have HO0:Hid (OwnU w4 w.heap.size (.slice (some ⟨g,0,none⟩) 3 c) xs):=HO0'.out.grow B4;have HB9:Hid (Below w.heap.size w w4):=HB9'.out.trans (B4.mono HB9'.out.size);rw[hul'] at O4 ⊢;clear HO9' HO0' HB9' O4 B4 hul hzl hzd hzv hZA;have hzl:=hul';have hzd:=hud;have hZA:=hUA;clear hul' hud hUA;have HZV:Hid (val 4294967296 us=(((X+2^j)^e:Nat):Int)):=by
     show _=_
     rw[HE.out,huv,Nat.pow_succ,Nat.pow_succ,Nat.pow_succ,Nat.pow_zero,Nat.one_mul,Int.natCast_mul,Int.natCast_mul]
    clear huv;go_wp2_with fail;generalize hW:w4=W9 at *;clear hW;generalize hc9:c4=c9 at *;clear hc9;by_cases hle:(X+2^j)^e≤p*2^(64*e)
    ·have HQ:Hid (decide (val 4294967296 us≤(p:Int)*4294967296^(2*e))=true):=by
      show _=_
      rw[HZV.out,HTT.out];have:(((X+2^j)^e:Nat):Int)≤((p*2^(64*e):Nat):Int):=by exact Int.ofNat_le.2 hle
      simpa using this
     have HP:Hid (RS w p e j (.slice (some ⟨g1,0,none⟩) 3 c1) W9):=
      ⟨⟨_,_,(HO9.out.lower hsz),HYL.out,HYD.out,HYV.out,HRI.out.yes hle⟩,HB9.out⟩
     clear hle;have A:=atm_any _ _ c9 (2*e) (p:Int) us W9 hzl (by omega) (by omega) hZA hzd (by omega) (by omega);rw[h2e] at A;refine A.mono ?_;rintro en w5 ⟨rfl,rfl⟩;rw[HQ.out];clear HQ A;go_wp2;go_roundw
     case rel=>exact⟨j,by omega,rfl,HP.out⟩
     case measure=>first|(simp[intOf];done)|(simp[intOf];omega)
    ·have HQ:Hid (decide (val 4294967296 us≤(p:Int)*4294967296^(2*e))=false):=by
      show _=_
      rw[HZV.out,HTT.out];have:¬ (((X+2^j)^e:Nat):Int)≤((p*2^(64*e):Nat):Int):=fun h=>hle (Int.ofNat_le.1 h)
      simpa using this
     have HP:Hid (RS w p e j (.slice (some ⟨g,0,none⟩) 3 c) W9):=
      ⟨⟨xs,X,HO0.out,HX.out.1,HX.out.2.1,HX.out.2.2,HRI.out.no hle⟩,HB9.out⟩
     clear hle;have A:=atm_any _ _ c9 (2*e) (p:Int) us W9 hzl (by omega) (by omega) hZA hzd (by omega) (by omega);rw[h2e] at A;refine A.mono ?_;rintro en w5 ⟨rfl,rfl⟩;rw[HQ.out];clear HQ A;go_wp2;go_roundw
     case rel=>exact⟨j,by omega,rfl,HP.out⟩
     case measure=>first|(simp[intOf];done)|(simp[intOf];omega)
  ·obtain rfl:j=0:=by omega
   obtain⟨g,c,rfl,hg,hg',_⟩:=hown.at_;rw[hxl] at hown ⊢;have c0:=OwnK.cellAt hxl hown 0 (by decide);have c1:=OwnK.cellAt hxl hown 1 (by decide);have d0:=hxd.get 0;have d1:=hxd.get 1;have d2:=hxd.get 2;have HX:Hid ((X:Int)%18446744073709551616=xs.getD 0 0+xs.getD 1 0*4294967296):=by
    show _=_
    rw[←hxv]
    match xs,hxl with
    |[a,b,d],_=>
     simp only[List.getD_cons_zero,List.getD_cons_succ,val] at d0 d1 d2 ⊢;omega
   have HP:Hid (X^e≤p*2^(64*e)∧p*2^(64*e)<(X+1)^e):=⟨hri.lo,by simpa using hri.hi⟩
   clear hri hxv hown hxd;generalize xs.getD 0 0=x0 at *;generalize xs.getD 1 0=x1 at *;obtain⟨d00,d01⟩:=d0;obtain⟨d10,d11⟩:=d1;go_wp2
   go_quiet (fail)
   go_wp2
   go_ret
   refine⟨X,?_,HP.out.1,HP.out.2,⟨hbel.os,hbel.tape,hbel.output,hbel.size,hbel.block⟩⟩;rw[HX.out];rfl
end Go.Proofs.YtjdhhgaelgemcaaGreatDoor
