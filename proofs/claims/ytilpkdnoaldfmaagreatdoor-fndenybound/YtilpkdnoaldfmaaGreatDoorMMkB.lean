import Derived.Test.YtilpkdnoaldfmaaGreatDoorMBase
import Derived.Deep.MidRow
import Derived.Laws.BitsAllLaws
import Derived.BigRegion
namespace Go.Proofs.YtilpkdnoaldfmaaGreatDoor
open Go.ChangeShapes Go.WideShapes Go.ChangeAt Go.RowKit
set_option linter.unusedVariables false
abbrev PD:=Int×List Int
def PAt (w:World) (a:Option Addr) (ps:List PD):Prop:=
 ps=[]∨∃ b off,a=some ⟨b,off,none⟩∧b<w.heap.size∧∀ i,i<ps.length→∃ x c,w.cell? ⟨b,off+i*2,none⟩=some (.int .i64 (ps.getD i (0,[])).1)∧
  w.cell? ⟨b,off+i*2+1,none⟩=some (.slice x (ps.getD i (0,[])).2.length c)∧At .u8 w x (ps.getD i (0,[])).2
theorem PAt.get {w:World} {a:Option Addr} {ps:List PD} (h:PAt w a ps) (hz:0<ps.length) :
  ∃ b off,a=some ⟨b,off,none⟩∧b<w.heap.size∧∀ i,i<ps.length→∃ x c,w.cell? ⟨b,off+i*2,none⟩=some (.int .i64 (ps.getD i (0,[])).1)∧
  w.cell? ⟨b,off+i*2+1,none⟩=some (.slice x (ps.getD i (0,[])).2.length c)∧At .u8 w x (ps.getD i (0,[])).2:=by
 rcases h with h|h
 ·simp[h] at hz
 ·exact h
theorem PAt.below {w w':World} {a:Option Addr} {ps:List PD} (h:PAt w a ps) (hb:Below w.heap.size w w'):PAt w' a ps:=by
 rcases h with h|⟨b,off,rfl,hl,hc⟩
 ·exact .inl h
 ·exact .inr ⟨b,off,rfl,by have:=hb.size;omega,fun i hi=>by
   obtain⟨x,c,h1,h2,h3⟩:=hc i hi;exact⟨x,c,by rw[hb.cell (p:=⟨b,off+i*2,none⟩) hl];exact h1,by rw[hb.cell (p:=⟨b,off+i*2+1,none⟩) hl];exact h2,h3.below hb⟩⟩
def PMine (B U:Nat) (w:World) (a:Option Addr) (ps:List PD):Prop:=
 ps=[]∨∃(g o:Nat) (X:Nat→Option Addr) (C:Nat→Nat),a=some ⟨g,o,none⟩∧B≤g∧g<U∧U≤w.heap.size∧
  (∀ i,i<ps.length→w.cell? ⟨g,o+i*2,none⟩=some (.int .i64 (ps.getD i (0,[])).1)∧w.frozen? ⟨g,o+i*2,none⟩=false∧w.cell? ⟨g,o+i*2+1,none⟩=some (.slice (X i) (ps.getD i (0,[])).2.length (C i))∧
   At .u8 w (X i) (ps.getD i (0,[])).2∧Open w (X i) (ps.getD i (0,[])).2.length∧(∀ ad,X i=some ad→B≤ad.block∧ad.block<U∧ad.block≠g)∧(ps.getD i (0,[])).2.length≤C i)∧
  ∀ i j ad ad',i<ps.length→j<ps.length→i≠j→X i=some ad→X j=some ad'→ad.block≠ad'.block
theorem PMine.at_ {B U:Nat} {w:World} {a:Option Addr} {ps:List PD} (h:PMine B U w a ps):PAt w a ps:=by
 rcases h with h|⟨g,o,X,C,ha,_,hg,hU,h1,_⟩
 ·exact .inl h
 ·exact .inr ⟨g,o,ha,by omega,fun i hi=>⟨X i,C i,(h1 i hi).1,(h1 i hi).2.2.1,(h1 i hi).2.2.2.1⟩⟩
theorem Row.open_ {w:World} {g:Nat} {t:TypeId} {zs:List Int} (h:Row w g t zs):Open w (some ⟨g,0,none⟩) zs.length:=
 .inr ⟨g,0,rfl,h.lt,fun i hi=>by rw[Nat.zero_add];exact⟨by rw[h.cell i hi];rfl,h.frozen i⟩⟩
def DAt (w:World) (v:Value) (zs:List Int) (ps:List PD) (f:Int) (d:Bool):Prop:=
 ∃ da dc ca cc,v=.agg #[.slice da zs.length dc,.slice ca ps.length cc,.int .i64 f,.bool d]∧At .u8 w da zs∧PAt w ca ps∧zs.length≤dc
def DMine (B U:Nat) (w:World) (v:Value) (zs:List Int) (ps:List PD) (f:Int) (d:Bool):Prop:=
 ∃ da dc ca cc B1,v=.agg #[.slice da zs.length dc,.slice ca ps.length cc,.int .i64 f,.bool d]∧At .u8 w da zs∧Open w da zs.length∧(∀ ad,da=some ad→B≤ad.block∧ad.block<B1)∧B≤B1∧B1≤U∧U≤w.heap.size∧PMine B1 U w ca ps∧zs.length≤dc
theorem DMine.at_ {B U:Nat} {w:World} {v:Value} {zs:List Int} {ps:List PD} {f:Int} {d:Bool} (h:DMine B U w v zs ps f d):DAt w v zs ps f d:=by
 obtain⟨da,dc,ca,cc,B1,hv,h1,_,_,_,_,_,h2,h3⟩:=h;exact⟨da,dc,ca,cc,hv,h1,h2.at_,h3⟩
theorem DAt.below {w w':World} {v:Value} {zs:List Int} {ps:List PD} {f:Int} {d:Bool} (h:DAt w v zs ps f d) (hb:Below w.heap.size w w'):DAt w' v zs ps f d:=by
 obtain⟨da,dc,ca,cc,hv,h1,h2,h3⟩:=h;exact⟨da,dc,ca,cc,hv,h1.below hb,h2.below hb,h3⟩
theorem At.keep {k:IntKind} {w w':World} {a:Option Addr} {zs:List Int} (h:At k w a zs) (hk:∀ ad,a=some ad→w'.heap[ad.block]?=w.heap[ad.block]?) (hs:w.heap.size≤w'.heap.size):At k w' a zs:=by
 rcases h with h|⟨b,off,rfl,hl,hc⟩
 ·exact .inl h
 ·exact .inr ⟨b,off,rfl,by omega,fun i hi=>by rw[World.cell?_of_block (a:=⟨b,off+i,none⟩) (w:=w) (hk ⟨b,off,none⟩ rfl)];exact hc i hi⟩
theorem frozen_of_block {w w':World} {a:Addr} (h:w'.heap[a.block]?=w.heap[a.block]?):w'.frozen? a=w.frozen? a:=by
 unfold World.frozen?;rw[h]
theorem Open.keep {w w':World} {a:Option Addr} {n:Nat} (h:Open w a n) (hk:∀ ad,a=some ad→w'.heap[ad.block]?=w.heap[ad.block]?) (hs:w.heap.size≤w'.heap.size):Open w' a n:=by
 rcases h with h|⟨g,o,rfl,h2,h3⟩
 ·exact .inl h
 ·exact .inr ⟨g,o,rfl,by omega,fun i hi=>by
   rw[World.cell?_of_block (a:=⟨g,o+i,none⟩) (w:=w) (hk ⟨g,o,none⟩ rfl),frozen_of_block (a:=⟨g,o+i,none⟩) (w:=w) (hk ⟨g,o,none⟩ rfl)];exact h3 i hi⟩
theorem PMine.keep {B U:Nat} {w w':World} {a:Option Addr} {ps:List PD} (h:PMine B U w a ps) (hk:∀ k,B≤k→k<U→w'.heap[k]?=w.heap[k]?) (hs:w.heap.size≤w'.heap.size):PMine B U w' a ps:=by
 rcases h with h|⟨g,o,X,C,ha,hB,hg,hU,h1,h2⟩
 ·exact .inl h
 ·refine .inr ⟨g,o,X,C,ha,hB,hg,by omega,fun i hi=>?_,h2⟩;obtain⟨p1,p2,p3,p4,p5,p6⟩:=h1 i hi;exact⟨by rw[World.cell?_of_block (a:=⟨g,o+i*2,none⟩) (w:=w) (hk _ hB hg)];exact p1,by rw[frozen_of_block (a:=⟨g,o+i*2,none⟩) (w:=w) (hk _ hB hg)];exact p2,by rw[World.cell?_of_block (a:=⟨g,o+i*2+1,none⟩) (w:=w) (hk _ hB hg)];exact p3,
   p4.keep (fun ad e=>hk _ (p6.1 ad e).1 (p6.1 ad e).2.1) hs,p5.keep (fun ad e=>hk _ (p6.1 ad e).1 (p6.1 ad e).2.1) hs,
   p6⟩
theorem row_setCell {w:World} {g i:Nat} {cs cs':Array Value} {t:TypeId} (v:Value) (h:w.heap[g]?=some (.cells cs t (0,0))) (he:cs.setIfInBounds i v=cs'):(w.setCell ⟨g,i,none⟩ v).heap[g]?=some (.cells cs' t (0,0)):=by
 rw[heap_setCell_same w g i cs t v h,he]
theorem u64_or_add (a b:Int) (k:Nat) (ha:0≤a) (ha':a<18446744073709551616) (hb:0≤b) (hb':b<2^k) (hb'':b<18446744073709551616) (q:Int) (hd:a=q*2^k):bits .or .u64 a b=a+b:=by
 obtain⟨a,rfl⟩:=Int.eq_ofNat_of_zero_le ha;obtain⟨b,rfl⟩:=Int.eq_ofNat_of_zero_le hb;rw[u64_or_nat a b (by omega) (by omega)];have hq:0≤q:=by
  have hp:(0:Int)<2^k:=Int.pow_pos (by decide);rcases Int.lt_or_le q 0 with h|h
  ·have:=Int.mul_neg_of_neg_of_pos h hp;omega
  ·exact h
 obtain⟨q,rfl⟩:=Int.eq_ofNat_of_zero_le hq;have hd':a=q*2^k:=by exact_mod_cast hd
 have hb3:b<2^k:=by exact_mod_cast hb'
 have:=Nat.shiftLeft_add_eq_or_of_lt hb3 q;rw[Nat.shiftLeft_eq,←hd'] at this;rw[←this];simp
structure WrH (g:Nat) (w w':World):Prop where
 os:w'.os=w.os
 tape:w'.tape=w.tape
 output:w'.output=w.output
 size:w.heap.size≤w'.heap.size
 block:∀ k,k<w.heap.size→k≠g→w'.heap[k]?=w.heap[k]?
theorem WrH.refl (g:Nat) (w:World):WrH g w w:=⟨rfl,rfl,rfl,Nat.le_refl _,fun _ _ _=>rfl⟩
theorem WrH.trans {g:Nat} {a b c:World} (h:WrH g a b) (k:WrH g b c):WrH g a c:=
 ⟨k.os.trans h.os,k.tape.trans h.tape,k.output.trans h.output,Nat.le_trans h.size k.size,fun i hi hg=>(k.block i (Nat.lt_of_lt_of_le hi h.size) hg).trans (h.block i hi hg)⟩
theorem Wr.wrH {g:Nat} {w w':World} (h:Wr g w w'):WrH g w w':=⟨h.os,h.tape,h.output,by rw[h.size];exact Nat.le_refl _,fun k _ hg=>h.block k hg⟩
theorem WrH.of_below {g:Nat} {w w':World} (h:Below w.heap.size w w'):WrH g w w':=⟨h.os,h.tape,h.output,h.size,fun k hk _=>h.block k hk⟩
theorem WrH.below {g:Nat} {w w':World} (h:WrH g w w') (B:Nat) (hB:B≤g) (hB':B≤w.heap.size):Below B w w':=⟨h.os,h.tape,h.output,h.size,fun k hk=>h.block k (by omega) (by omega)⟩
theorem wp_copyG {w:World} {o:Oper} {a:Act} {K:Act→World→Prop} {Q:Exit→Act→World→Prop} (d s:Operand)
  (ho:o.op=.call { callee:=.builtin .copy,args:=#[d,s],argTypes:=#[22,22] }) (dp sp:Option Addr) (g off dLen dCap sLen sCap:Nat)
  (hd:a.eval d=.slice dp dLen dCap) (hs:a.eval s=.slice sp sLen sCap) (cur:Array Value) (t:TypeId) (hg:w.heap[g]?=some (.cells cur t (0,0))) (news:List Int) (hn:news.length=Nat.min sLen dLen)
  (hpos:0<news.length→dp=some ⟨g,off,none⟩∧∃ ad,sp=some ad∧∀ j,j<news.length→w.cell? (ad.add j)=some (.int .u8 (news.getD j 0))) (hfit:off+news.length≤cur.size)
  (h:∀ w',w'.heap[g]?=some (.cells (cur.toList.take off++(news.map (Value.int .u8)++cur.toList.drop (off+news.length))).toArray t (0,0))→Wr g w w'→K (a.put o.dst (goInt news.length)) w'):o.wp Tryz.prog a w K Q:=by
 by_cases h0:news.length=0
 ·obtain rfl:news=[]:=List.eq_nil_of_length_eq_zero h0;have hrun:=run_copy_none (P:=Tryz.prog) w 22 22 o.type 5 dp sp dLen dCap sLen sCap Tryz.underlying22 Tryz.sizeU8 (by simpa using hn.symm);unfold Oper.wp;simp[execOp,ho,resolve,invoke,builtin,hd,hs,hrun,Result.andThen];exact h w (by simpa using hg) (Wr.refl _ _)
 ·obtain⟨rfl,ad,rfl,hsrc⟩:=hpos (by omega);have hrun:=run_copy_row (P:=Tryz.prog) w 22 22 o.type 5 g off dLen dCap ad sLen sCap cur t (news.map (Value.int .u8)) Tryz.underlying22 Tryz.sizeU8 hg (by simpa using hn) (fun j v hv=>by
   have hj:j<news.length:=by have:=(List.getElem?_eq_some_iff.1 hv).1;simpa using this
   rw[hsrc j hj];simp[hj] at hv;simp[hj,hv]) (by simpa using hfit) (ints_oneCell _ _)
  unfold Oper.wp;simp[execOp,ho,resolve,invoke,builtin,hd,hs,hrun,Result.andThen];exact h _ (by rw[setRow_heap _ _ _ _ _ _ hg]) (Wr.setRow _ _ _)
theorem Own.splice {w w':World} {B g n c:Nat} {zs news:List Int} {cur:Array Value} (h:Own w B (.slice (some ⟨g,0,none⟩) n c) zs) (off:Nat) (hfit:off+news.length≤zs.length) (hg:w.heap[g]?=some (.cells cur 5 (0,0)))
  (hw:w'.heap[g]?=some (.cells (cur.toList.take off++(news.map (Value.int .u8)++cur.toList.drop (off+news.length))).toArray 5 (0,0))):Own w' B (.slice (some ⟨g,0,none⟩) n c) (zs.take off++(news++zs.drop (off+news.length))):=by
 obtain⟨g',c',e⟩:=h.2;cases e;have hl:(zs.take off++(news++zs.drop (off+news.length))).length=zs.length:=by simp;omega
 obtain⟨h1,⟨h2,_⟩|⟨g',cap,cur',hv,hb,hh,hc,hm,hs,ht⟩⟩:=h.1
 ·cases h2
 ·cases hv;rw[hg] at hh;obtain rfl:=(by simpa using hh:cur=cur')
  refine⟨⟨by rw[List.length_map,Nat.mul_one],.inr ⟨g,c,_,?_,hb,hw,by omega,hm,?_,?_⟩⟩,g,c,by rw[hl]⟩
  ·rw[hl]
  ·simp;omega
  ·rw[hl];have e1:cur.toList.take off=(zs.take off).map (Value.int .u8):=by
    have:(cur.toList.take (zs.length*1)).take off=(zs.map (Value.int .u8)).take off:=by rw[ht]
    rw[List.take_take,Nat.min_eq_left (by omega)] at this;rw[this,List.map_take]
   have e2:(cur.toList.drop (off+news.length)).take (zs.length-(off+news.length))=(zs.drop (off+news.length)).map (Value.int .u8):=by
    have:(cur.toList.take (zs.length*1)).drop (off+news.length)=(zs.map (Value.int .u8)).drop (off+news.length):=by rw[ht]
    rw[List.drop_take] at this;rw[Nat.mul_one] at this;rw[this,List.map_drop]
   have hl1:(cur.toList.take off).length=off:=by simp;omega
   have hsum:zs.length*1=(cur.toList.take off).length+((news.map (Value.int .u8)).length+(zs.length-(off+news.length))):=by rw[hl1,List.length_map];omega
   rw[hsum,List.take_length_add_append,List.take_length_add_append,e1,e2];simp
def BAt (w:World) (g o:Nat) (bs:List Int):Prop:=bs.length=32∧Byte bs∧∀ i,i<32→w.cell? ⟨g,o+i,none⟩=some (.int .u8 (bs.getD i 0))∧w.frozen? ⟨g,o+i,none⟩=false
def SetB (bs:List Int) (P:Nat→Prop):Prop:=bs.length=32∧Byte bs∧∀ v,v<256→(bs.getD (v/8) 0/2^(v%8)%2=1↔P v)
theorem bit_nat (x j:Nat):x/2^j%2=1↔x.testBit j=true:=by rw[Nat.testBit_eq_decide_div_mod_eq];simp
theorem u8_or_bit (x:Int) (k:Nat) (hx:0≤x) (hx':x<256) (hk:k<8):0≤bits .or .u8 x (2^k)∧bits .or .u8 x (2^k)<256∧∀ j,j<8→(bits .or .u8 x (2^k)/2^j%2=1↔(x/2^j%2=1∨j=k)):=by
 obtain⟨x,rfl⟩:=Int.eq_ofNat_of_zero_le hx;have h2:(2:Nat)^k<256:=by
  have:2^k≤2^7:=Nat.pow_le_pow_right (by decide) (by omega);omega
 have e:bits .or .u8 (x:Int) (2^k)=((x ||| 2^k:Nat):Int):=by
  rw[show((2:Int)^k)=((2^k:Nat):Int) by simp];exact u8_or_nat x (2^k) (by omega) h2
 rw[e];have hlt:x ||| 2^k<2^8:=Nat.or_lt_two_pow (by omega) (by omega);refine⟨by omega,by omega,fun j hj=>?_⟩;have q:∀ y:Nat,((y:Int)/2^j%2=1↔y.testBit j=true):=fun y=>by
  rw[←bit_nat];rw[show((2:Int)^j)=((2^j:Nat):Int) by simp,←Int.natCast_ediv];omega
 rw[q,q,Nat.testBit_or,Nat.testBit_two_pow];simp only[Bool.or_eq_true,decide_eq_true_eq];constructor
 ·rintro (h|h)
  ·exact .inl h
  ·exact .inr h.symm
 ·rintro (h|h)
  ·exact .inl h
  ·exact .inr h.symm
theorem not_bit:∀ k,k<8→∀ j,j<8→(255-2^k).testBit j=decide (j≠k):=by decide
theorem u8_not_bit (x:Int) (k:Nat) (hx:0≤x) (hx':x<256) (hk:k<8):0≤bits .andNot .u8 x (2^k)∧bits .andNot .u8 x (2^k)<256∧∀ j,j<8→(bits .andNot .u8 x (2^k)/2^j%2=1↔(x/2^j%2=1∧j≠k)):=by
 obtain⟨x,rfl⟩:=Int.eq_ofNat_of_zero_le hx;have h2:(2:Nat)^k<256:=by
  have:2^k≤2^7:=Nat.pow_le_pow_right (by decide) (by omega);omega
 have e:bits .andNot .u8 (x:Int) (2^k)=((x &&& (255-2^k):Nat):Int):=by
  rw[show((2:Int)^k)=((2^k:Nat):Int) by simp];exact u8_andNot_nat x (2^k) (by omega) h2
 rw[e];have hlt:x &&& (255-2^k)<2^8:=Nat.and_lt_two_pow _ (Nat.lt_of_le_of_lt (Nat.sub_le _ _) (by decide));refine⟨by omega,by omega,fun j hj=>?_⟩;have q:∀ y:Nat,((y:Int)/2^j%2=1↔y.testBit j=true):=fun y=>by
  rw[←bit_nat];rw[show((2:Int)^j)=((2^j:Nat):Int) by simp,←Int.natCast_ediv];omega
 rw[q,q,Nat.testBit_and,not_bit k hk j hj];simp
theorem getD_set8 (bs:List Int) (q i:Nat) (x:Int) (hq:q<bs.length):(bs.set q x).getD i 0=if i=q then x else bs.getD i 0:=by
 rw[List.getD_eq_getElem?_getD,List.getElem?_set];by_cases h:q=i
 ·subst h;simp[hq]
 ·rw[if_neg h,if_neg (Ne.symm h),List.getD_eq_getElem?_getD]
def addB (bs:List Int) (v:Nat):List Int:=bs.set (v/8) (bits .or .u8 (bs.getD (v/8) 0) (2^(v%8)))
def remB (bs:List Int) (v:Nat):List Int:=bs.set (v/8) (bits .andNot .u8 (bs.getD (v/8) 0) (2^(v%8)))
theorem byte_set {bs:List Int} (h:Byte bs) (q:Nat) (x:Int) (h0:0≤x) (h1:x<256):Byte (bs.set q x):=fun z hz=>by
 rcases List.mem_or_eq_of_mem_set hz with h'|h'
 ·exact h z h'
 ·rw[h'];exact⟨h0,h1⟩
theorem SetB.add {bs:List Int} {P:Nat→Prop} (h:SetB bs P) (v:Nat) (hv:v<256):SetB (addB bs v) (fun u=>P u∨u=v):=by
 obtain⟨h1,h2,h3⟩:=h;have hx:=h2.get (v/8);obtain⟨a,b,c⟩:=u8_or_bit _ (v%8) hx.1 hx.2 (by omega);refine⟨by unfold addB;rw[List.length_set];exact h1,byte_set h2 _ _ a b,fun u hu=>?_⟩;unfold addB;rw[getD_set8 _ _ _ _ (by omega)];by_cases hq:u/8=v/8
 ·rw[if_pos hq,c (u%8) (by omega),←hq,h3 u hu];constructor
  ·rintro (h|h)
   ·exact .inl h
   ·exact .inr (by omega)
  ·rintro (h|h)
   ·exact .inl h
   ·exact .inr (by omega)
 ·rw[if_neg hq,h3 u hu];constructor
  ·exact .inl
  ·rintro (h|h)
   ·exact h
   ·omega
theorem SetB.rem {bs:List Int} {P:Nat→Prop} (h:SetB bs P) (v:Nat) (hv:v<256):SetB (remB bs v) (fun u=>P u∧u≠v):=by
 obtain⟨h1,h2,h3⟩:=h;have hx:=h2.get (v/8);obtain⟨a,b,c⟩:=u8_not_bit _ (v%8) hx.1 hx.2 (by omega);refine⟨by unfold remB;rw[List.length_set];exact h1,byte_set h2 _ _ a b,fun u hu=>?_⟩;unfold remB;rw[getD_set8 _ _ _ _ (by omega)];by_cases hq:u/8=v/8
 ·rw[if_pos hq,c (u%8) (by omega),←hq,h3 u hu];constructor
  ·rintro⟨h,h'⟩;exact⟨h,by omega⟩
  ·rintro⟨h,h'⟩;exact⟨h,by omega⟩
 ·rw[if_neg hq,h3 u hu];constructor
  ·intro h;exact⟨h,by omega⟩
  ·exact fun h=>h.1
def serOk (v:Int):Bool:=decide (0≤v∧v<256)
def nowOk (v:Int):Bool:=decide (0≤v∧v≤4294967295)
theorem isSerial_any (v:Int) (w:World):Calls Tryz.prog 67 #[.int .i64 v] w fun e w'=>e=.returned (.bool (serOk v))∧w'=w:=by
 by_cases h0:0≤v
 ·by_cases h1:v<256
  ·have HD:Hid (serOk v=true):=decide_eq_true ⟨h0,h1⟩;go_enter Tryz.func67,Tryz.ntmps67;go_wp2
   go_ret
   exact⟨by rw[HD.out];rfl,rfl⟩
  ·have HD:Hid (serOk v=false):=decide_eq_false (fun h=>h1 h.2);go_enter Tryz.func67,Tryz.ntmps67;go_wp2
   go_ret
   exact⟨by rw[HD.out];rfl,rfl⟩
 ·have HD:Hid (serOk v=false):=decide_eq_false (fun h=>h0 h.1);go_enter Tryz.func67,Tryz.ntmps67;go_wp2
  go_ret
  exact⟨by rw[HD.out];rfl,rfl⟩
theorem isNow_any (v:Int) (w:World):Calls Tryz.prog 93 #[.int .i64 v] w fun e w'=>e=.returned (.bool (nowOk v))∧w'=w:=by
 by_cases h0:0≤v
 ·by_cases h1:v≤4294967295
  ·have HD:Hid (nowOk v=true):=decide_eq_true ⟨h0,h1⟩;go_enter Tryz.func93,Tryz.ntmps93;go_wp2
   go_ret
   exact⟨by rw[HD.out];rfl,rfl⟩
  ·have HD:Hid (nowOk v=false):=decide_eq_false (fun h=>h1 h.2);go_enter Tryz.func93,Tryz.ntmps93;go_wp2
   go_ret
   exact⟨by rw[HD.out];rfl,rfl⟩
 ·have HD:Hid (nowOk v=false):=decide_eq_false (fun h=>h0 h.1);go_enter Tryz.func93,Tryz.ntmps93;go_wp2
  go_ret
  exact⟨by rw[HD.out];rfl,rfl⟩
theorem two_mod (v:Nat):(2:Int)^(v%8)%256=2^(v%8):=by
 have:v%8=0∨v%8=1∨v%8=2∨v%8=3∨v%8=4∨v%8=5∨v%8=6∨v%8=7:=by omega
 rcases this with h|h|h|h|h|h|h|h<;>rw[h]<;>decide
set_option maxHeartbeats 1000000 in
theorem addS_any (g o v:Nat) (bs:List Int) (w:World) (hv:v<256) (hb:BAt w g o bs) :
  Calls Tryz.prog 68 #[.pointer (some ⟨g,o,none⟩),.int .i64 v] w fun e w'=>e=.returned (.tuple #[])∧∃ q,w'=(w.setCell ⟨g,o+v/8,none⟩ (.int .u8 ((addB bs v).getD (v/8) 0))).drewN q:=by
 obtain⟨h1,h2,h3⟩:=hb;obtain⟨c0,f0⟩:=h3 (v/8) (by omega);obtain⟨x0,x1⟩:=h2.get (v/8);have HX:Hid ((addB bs v).getD (v/8) 0=bits .or .u8 (bs.getD (v/8) 0) (2^(v%8))):=by
  show _=_
  unfold addB;rw[getD_set8 _ _ _ _ (by omega),if_pos rfl]
 have HM:Hid ((2:Int)^(v%8)%256=2^(v%8)):=two_mod v;have hv':(v:Int)<256:=by omega
 have hv8:(v:Int)/8<32:=by omega
 clear h1 h2 h3;generalize bs.getD (v/8) 0=x at *;go_enter Tryz.func68,Tryz.ntmps68
 go_region
 rw[HM.out,←HX.out]
 go_end0
 exact⟨rfl,1,rfl⟩
set_option maxHeartbeats 1000000 in
theorem remS_any (g o v:Nat) (bs:List Int) (w:World) (hv:v<256) (hb:BAt w g o bs) :
  Calls Tryz.prog 94 #[.pointer (some ⟨g,o,none⟩),.int .i64 v] w fun e w'=>e=.returned (.tuple #[])∧∃ q,w'=(w.setCell ⟨g,o+v/8,none⟩ (.int .u8 ((remB bs v).getD (v/8) 0))).drewN q:=by
 obtain⟨h1,h2,h3⟩:=hb;obtain⟨c0,f0⟩:=h3 (v/8) (by omega);obtain⟨x0,x1⟩:=h2.get (v/8);have HX:Hid ((remB bs v).getD (v/8) 0=bits .andNot .u8 (bs.getD (v/8) 0) (2^(v%8))):=by
  show _=_
  unfold remB;rw[getD_set8 _ _ _ _ (by omega),if_pos rfl]
 have HM:Hid ((2:Int)^(v%8)%256=2^(v%8)):=two_mod v;have hv':(v:Int)<256:=by omega
 have hv8:(v:Int)/8<32:=by omega
 clear h1 h2 h3;generalize bs.getD (v/8) 0=x at *;go_enter Tryz.func94,Tryz.ntmps94
 go_region
 rw[HM.out,←HX.out]
 go_end0
 exact⟨rfl,1,rfl⟩
set_option maxHeartbeats 1000000 in
theorem hasS_any (g o:Nat) (v:Int) (bs:List Int) (P:Nat→Prop) (q:Bool) (w:World) (hb:BAt w g o bs) (hs:SetB bs P) (hq:q=true↔(0≤v∧v<256∧P v.toNat)) :
  Calls Tryz.prog 92 #[.pointer (some ⟨g,o,none⟩),.int .i64 v] w fun e w'=>e=.returned (.bool q)∧w'=w:=by
 by_cases hv:0≤v∧v<256
 ·obtain⟨h0,h1⟩:=hv;obtain⟨v,rfl⟩:=Int.eq_ofNat_of_zero_le h0;obtain⟨l1,l2,l3⟩:=hb;obtain⟨c0,f0⟩:=l3 (v/8) (by omega);obtain⟨x0,x1⟩:=l2.get (v/8);have hbit:=hs.2.2 v (by omega);have HSO:Hid (serOk (v:Int)=true):=decide_eq_true ⟨h0,h1⟩;have hpp:(0:Int)<2^(v%8):=Int.pow_pos (by decide);have y0:0≤bs.getD (v/8) 0/2^(v%8):=Int.ediv_nonneg x0 (by omega);have y1:bs.getD (v/8) 0/2^(v%8)≤bs.getD (v/8) 0:=Int.ediv_le_self _ x0;have HA:Hid (bits .and .u8 (bs.getD (v/8) 0/2^(v%8)) 1=bs.getD (v/8) 0/2^(v%8)%2):=by
   show _=_
   obtain⟨y,hy⟩:=Int.eq_ofNat_of_zero_le y0;rw[hy];have:=u8_and_nat y 1 (by omega) (by decide);rw[show((1:Int))=((1:Nat):Int) from rfl,this,Nat.and_one_is_mod];omega
  have HQ:Hid ((bs.getD (v/8) 0/2^(v%8)%2 == 1)=q):=by
   show _=_
   have h2:bs.getD (v/8) 0/2^(v%8)%2=0∨bs.getD (v/8) 0/2^(v%8)%2=1:=by omega
   rcases h2 with h2|h2
   ·rw[h2];cases q with
    |false=>rfl
    |true=>
     have:=hq.1 rfl;have:=hbit.2 (by simpa using this.2.2);omega
   ·rw[h2];cases q with
    |true=>rfl
    |false=>
     have:=hq.2 ⟨h0,h1,by simpa using hbit.1 h2⟩;cases this
  have hv8:(v:Int)/8<32:=by omega
  clear l1 l2 l3 hbit hs hq hpp;generalize bs.getD (v/8) 0=x at *;go_enter Tryz.func92,Tryz.ntmps92;go_wp2_with fail;refine(isSerial_any _ _).mono ?_;rintro e w1 ⟨rfl,rfl⟩;rw[HSO.out];go_wp2;rw[HA.out,HQ.out]
  go_ret
  exact⟨rfl,rfl⟩
 ·have HSO:Hid (serOk v=false):=decide_eq_false hv;have HQ:Hid (q=false):=by
   show _=_
   cases q with
   |false=>rfl
   |true=>exact absurd ⟨(hq.1 rfl).1,(hq.1 rfl).2.1⟩ hv
  clear hv hq hb hs;go_enter Tryz.func92,Tryz.ntmps92;go_wp2_with fail;refine(isSerial_any _ _).mono ?_;rintro e w1 ⟨rfl,rfl⟩;rw[HSO.out];go_wp2
  go_ret
  exact⟨by rw[HQ.out];rfl,rfl⟩
end Go.Proofs.YtilpkdnoaldfmaaGreatDoor
