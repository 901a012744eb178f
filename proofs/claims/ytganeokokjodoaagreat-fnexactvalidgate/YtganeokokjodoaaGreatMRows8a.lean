import Derived.Test.YtganeokokjodoaaGreatMBase
import Derived.Test.YtganeokokjodoaaGreatRows
import Derived.Deep.MidRow
import Derived.Laws.BitsAllLaws
namespace Go.Proofs.YtganeokokjodoaaGreat
open Go.ChangeShapes Go.WideShapes Go.ChangeAt Go.RowKit
set_option linter.unusedVariables false
def putK (zs:List Int) (p:Nat) (v:Int):Nat→List Int
 |0=>zs
 |k+1=>(putK zs p v k).set (p+k) (v/2^(8*k)%256)
theorem putK_len (zs:List Int) (p:Nat) (v:Int) (k:Nat):(putK zs p v k).length=zs.length:=by
 induction k with
 |zero=>rfl
 |succ k ih=>simp[putK,ih]
set_option maxHeartbeats 400000 in
theorem setN_any (g:Nat) (t:TypeId) (p:Int) (v:Int) (zs:List Int) (w:World) (hr:Row w g t zs) (hl:zs.length=64) (hp:0≤p) (hp':p≤60) (hv:U32 v) :
  Calls Tryz.prog 138 #[.pointer (some ⟨g,0,none⟩),.int .i64 p,.int .u32 v] w fun e w'=>e=.returned (.tuple #[])∧Row w' g t (putK zs p.toNat v 4)∧Wr g w w':=by
 obtain⟨hv0,hv1⟩:=hv
 obtain⟨p,rfl⟩:=Int.eq_ofNat_of_zero_le hp
 go_enter Tryz.func138,Tryz.ntmps138
 go_wp2
 go_loopw [7] (fun i wr=>∃ k:Nat,k≤4∧i=.int .i64 k∧Row wr g t (putK zs p v k)∧Wr g w wr) (fun i _=>4-(intOf i).toNat)
 case atStart=>exact⟨0,by omega,rfl,hr,Wr.refl _ _⟩
 case round=>
  obtain⟨k,hk,rfl,hrow,hwr⟩:=hrel;by_cases hlt:k<4
  ·have hlen:=putK_len zs p v k;have hc:=hrow.cell (p+k) (by omega);have hf:=hrow.frozen (p+k);go_wp2
   go_region
   go_wp2;go_roundw
   case rel=>exact⟨k+1,by omega,by go_num,(hrow.set (p+k) _).drew,(hwr.setCell (p+k) _).drew⟩
   case measure=>simp[intOf];omega
  ·have hk4:k=4:=by omega
   subst hk4;go_wp2
   go_end0
   exact⟨rfl,hrow,hwr⟩
end Go.Proofs.YtganeokokjodoaaGreat
namespace Go.Proofs.YtganeokokjodoaaGreat
open Go.ChangeShapes Go.WideShapes Go.ChangeAt Go.RowKit
set_option linter.unusedVariables false
def num4 (zs:List Int) (p:Nat):Int:=zs.getD p 0+256*zs.getD (p+1) 0+65536*zs.getD (p+2) 0+16777216*zs.getD (p+3) 0
theorem or_join (x y:Int) (i:Nat) (hx:0≤x) (hx':x<2^i) (hy:0≤y) (hy':y<4294967296) (hm:y%2^i=0) (hi:i≤32):bits .or .u32 x y=x+y:=by
 obtain⟨x,rfl⟩:=Int.eq_ofNat_of_zero_le hx
 obtain⟨y,rfl⟩:=Int.eq_ofNat_of_zero_le hy
 have hx2:x<2^i:=by exact_mod_cast hx'
 have hm2:y%2^i=0:=by exact_mod_cast hm
 have hi2:2^i≤2^32:=Nat.pow_le_pow_right (by decide) hi
 rw[u32_or_nat x y (by omega) (by omega),Nat.or_comm,nat_join i y x hm2 hx2]
 omega
theorem num_bits (a b c d:Int) (ha:0≤a∧a<256) (hb:0≤b∧b<256) (hc:0≤c∧c<256) (hd:0≤d∧d<256) :
  bits .or .u32 (bits .or .u32 (bits .or .u32 a (b*256)) (c*65536)) (d*16777216)=a+256*b+65536*c+16777216*d:=by
 rw[or_join a (b*256) 8 (by omega) (by omega) (by omega) (by omega) (by omega) (by decide),
  or_join _ (c*65536) 16 (by omega) (by omega) (by omega) (by omega) (by omega) (by decide),
  or_join _ (d*16777216) 24 (by omega) (by omega) (by omega) (by omega) (by omega) (by decide)]
 omega
set_option maxHeartbeats 400000 in
theorem num_any (g:Nat) (t:TypeId) (p:Int) (zs:List Int) (w:World) (hr:Row w g t zs) (hz:Byte zs) (hl:zs.length=64) (hp:0≤p) (hp':p≤60) :
  Calls Tryz.prog 103 #[.pointer (some ⟨g,0,none⟩),.int .i64 p] w fun e w'=>e=.returned (.int .u32 (num4 zs p.toNat))∧∃ q,w'=w.drewN q:=by
 obtain⟨p,rfl⟩:=Int.eq_ofNat_of_zero_le hp
 have c0:=hr.cell p (by omega)
 have c1:=hr.cell (p+1) (by omega)
 have c2:=hr.cell (p+2) (by omega)
 have c3:=hr.cell (p+3) (by omega)
 have b0:=hz.get p
 have b1:=hz.get (p+1)
 have b2:=hz.get (p+2)
 have b3:=hz.get (p+3)
 have HN:Hid (num4 zs p=zs.getD p 0+256*zs.getD (p+1) 0+65536*zs.getD (p+2) 0+16777216*zs.getD (p+3) 0):=rfl
 generalize zs.getD p 0=a at *
 generalize zs.getD (p+1) 0=b at *
 generalize zs.getD (p+2) 0=c at *
 generalize zs.getD (p+3) 0=d at *
 have HB:=num_bits a b c d b0 b1 b2 b3
 have HH:Hid _:=HB
 clear HB
 obtain⟨b01,b02⟩:=b0
 obtain⟨b11,b12⟩:=b1
 obtain⟨b21,b22⟩:=b2
 obtain⟨b31,b32⟩:=b3
 go_enter Tryz.func103,Tryz.ntmps103
 go_wp2
 go_quiet (fail)
 go_wp2
 go_ret
 exact⟨ret_int (by rw[HH.out,Int.toNat_natCast,HN.out]),nq,rfl⟩
end Go.Proofs.YtganeokokjodoaaGreat
namespace Go.Proofs.YtganeokokjodoaaGreat
set_option linter.unusedVariables false
def val (B:Int):List Int→Int
 |[]=>0
 |z::zs=>z+B*val B zs
def Dig (B:Int) (zs:List Int):Prop:=∀ z∈zs,0≤z∧z<B
theorem val_append (B:Int) (xs ys:List Int):val B (xs++ys)=val B xs+B^xs.length*val B ys:=by
 induction xs with
 |nil=>simp[val]
 |cons x xs ih=>simp only[List.cons_append,val,List.length_cons,ih,Int.pow_succ];grind
theorem val_snoc (B:Int) (xs:List Int) (x:Int):val B (xs++[x])=val B xs+x*B^xs.length:=by
 rw[val_append];simp only[val];grind
theorem Dig.snoc {B:Int} {xs:List Int} {x:Int} (h:Dig B xs) (h0:0≤x) (h1:x<B):Dig B (xs++[x]):=by
 intro z hz;simp at hz;rcases hz with h'|rfl
 ·exact h z h'
 ·exact⟨h0,h1⟩
theorem Dig.nil (B:Int):Dig B []:=fun _ h=>by simp at h
theorem Dig.tail {B:Int} {x:Int} {xs:List Int} (h:Dig B (x::xs)):Dig B xs:=fun z hz=>h z (by simp[hz])
theorem Dig.head {B:Int} {x:Int} {xs:List Int} (h:Dig B (x::xs)):0≤x∧x<B:=h x (by simp)
theorem val_nonneg {B:Int} (hB:0<B) {xs:List Int} (h:Dig B xs):0≤val B xs:=by
 induction xs with
 |nil=>simp[val]
 |cons x xs ih=>
  have:=h.head;have i:=ih h.tail;have:=Int.mul_nonneg (Int.le_of_lt hB) i;simp only[val];omega
theorem val_lt {B:Int} (hB:0<B) {xs:List Int} (h:Dig B xs):val B xs<B^xs.length:=by
 induction xs with
 |nil=>simp[val]
 |cons x xs ih=>
  obtain⟨h0,h1⟩:=h.head;have i:=ih h.tail;have h2:B*(val B xs+1)≤B*B^xs.length:=Int.mul_le_mul_of_nonneg_left (by omega) (by omega);simp only[val,List.length_cons,Int.pow_succ]
  grind
theorem val_inj {B:Int} (hB:0<B) {xs ys:List Int} (hx:Dig B xs) (hy:Dig B ys) (hl:xs.length=ys.length) (h:val B xs=val B ys):xs=ys:=by
 induction xs generalizing ys with
 |nil=>cases ys with
  |nil=>rfl
  |cons y ys=>simp at hl
 |cons x xs ih=>cases ys with
  |nil=>simp at hl
  |cons y ys=>
   obtain⟨h0,h1⟩:=hx.head;obtain⟨h2,h3⟩:=hy.head;simp only[val] at h;have e:x=y:=by
    have a1:(x+B*val B xs)%B=x:=by rw[Int.add_mul_emod_self_left];exact Int.emod_eq_of_lt h0 h1
    have a2:(y+B*val B ys)%B=y:=by rw[Int.add_mul_emod_self_left];exact Int.emod_eq_of_lt h2 h3
    rw[←a1,h,a2]
   subst e;have e2:val B xs=val B ys:=by
    have:B*val B xs=B*val B ys:=by omega
    exact Int.eq_of_mul_eq_mul_left (by omega) this
   rw[ih hx.tail hy.tail (by simpa using hl) e2]
theorem val_take (B:Int) (xs:List Int) (k:Nat) (h:k<xs.length):val B (xs.take (k+1))=val B (xs.take k)+xs.getD k 0*B^k:=by
 have:xs.take (k+1)=xs.take k++[xs.getD k 0]:=by
  rw[List.take_succ_eq_append_getElem h,List.getD_eq_getElem?_getD,List.getElem?_eq_getElem h];rfl
 rw[this,val_snoc,List.length_take,Nat.min_eq_left (by omega)]
theorem val_carry (B P x s t c r:Int) (h:s+c*P=t) (hr:r=x*P):(s+(x+c)%B*P)+(x+c)/B*(P*B)=t+r:=by
 have e:(x+c)%B+B*((x+c)/B)=x+c:=Int.emod_add_mul_ediv _ _
 have e2:((x+c)%B+B*((x+c)/B))*P=(x+c)*P:=by rw[e]
 grind
theorem val_digit {B:Int} (hB:0<B) {ns:List Int} (h:Dig B ns) (q:Nat):val B ns/B^q%B=ns.getD q 0:=by
 induction ns generalizing q with
 |nil=>simp[val]
 |cons n ns ih=>
  obtain⟨h0,h1⟩:=h.head;cases q with
  |zero=>
   simp only[val,Int.pow_zero,Int.ediv_one,List.getD_cons_zero];rw[Int.add_mul_emod_self_left];exact Int.emod_eq_of_lt h0 h1
  |succ q=>
   have e:(n+B*val B ns)/B=val B ns:=by
    rw[Int.add_mul_ediv_left _ _ (by omega),Int.ediv_eq_zero_of_lt h0 h1];omega
   rw[List.getD_cons_succ,←ih h.tail q];simp only[val];rw[Int.pow_succ,Int.mul_comm (B^q) B,←Int.ediv_ediv_of_nonneg (by omega),e]
theorem val_set (B:Int) (ns:List Int) (q:Nat) (x:Int) (hq:q<ns.length):val B (ns.set q x)=val B ns+(x-ns.getD q 0)*B^q:=by
 induction ns generalizing q with
 |nil=>simp at hq
 |cons n ns ih=>
  cases q with
  |zero=>simp only[List.set_cons_zero,val,List.getD_cons_zero,Int.pow_zero];omega
  |succ q=>
   simp only[List.set_cons_succ,val,List.getD_cons_succ];rw[ih q (by simpa using hq),Int.pow_succ];grind
end Go.Proofs.YtganeokokjodoaaGreat
namespace Go.Proofs.YtganeokokjodoaaGreat
open Go.ChangeShapes Go.WideShapes Go.ChangeAt Go.RowKit
set_option linter.unusedVariables false
def RowW (w:World) (g:Nat) (e:TypeId) (ns:List Int):Prop:=w.heap[g]?=some (.cells (ns.map (Value.int .u64)).toArray e (0,0))
theorem RowW.lt {w:World} {g:Nat} {e:TypeId} {zs:List Int} (h:RowW w g e zs):g<w.heap.size:=(Array.getElem?_eq_some_iff.1 h).1
theorem RowW.cell {w:World} {g:Nat} {e:TypeId} {zs:List Int} (h:RowW w g e zs) (i:Nat) (hi:i<zs.length):w.cell? ⟨g,i,none⟩=some (.int .u64 (zs.getD i 0)):=by
 rw[cell_of_row w g i _ e _ h];simp[hi]
theorem RowW.frozen {w:World} {g:Nat} {e:TypeId} {zs:List Int} (h:RowW w g e zs) (i:Nat):w.frozen? ⟨g,i,none⟩=false:=frozen_of_row w g i _ e h
theorem RowW.set {w:World} {g:Nat} {e:TypeId} {zs:List Int} (h:RowW w g e zs) (i:Nat) (x:Int):RowW (w.setCell ⟨g,i,none⟩ (.int .u64 x)) g e (zs.set i x):=by
 unfold RowW;rw[heap_setCell_same w g i _ e _ h];simp[List.map_set]
theorem RowW.drewN {w:World} {g:Nat} {e:TypeId} {zs:List Int} (h:RowW w g e zs) (n:Nat):RowW (w.drewN n) g e zs:=h
theorem Wr.rowW {g g':Nat} {w w':World} {e:TypeId} {zs:List Int} (h:Wr g w w') (hr:RowW w g' e zs) (hg:g'≠g):RowW w' g' e zs:=by
 unfold RowW;rw[h.block g' hg];exact hr
theorem RowW.below {w w':World} {g:Nat} {e:TypeId} {zs:List Int} {B:Nat} (h:RowW w g e zs) (hb:Below B w w') (hg:g<B):RowW w' g e zs:=by
 unfold RowW;rw[hb.block g hg];exact h
def W64:Int:=18446744073709551616
def Wrd (ns:List Int):Prop:=∀ z∈ns,0≤z∧z<18446744073709551616
theorem Wrd.get {zs:List Int} (h:Wrd zs) (i:Nat):0≤zs.getD i 0∧zs.getD i 0<18446744073709551616:=by
 by_cases hi:i<zs.length
 ·rw[List.getD_eq_getElem?_getD,List.getElem?_eq_getElem hi];exact h _ (List.getElem_mem hi)
 ·rw[List.getD_eq_getElem?_getD,List.getElem?_eq_none (by omega)];exact⟨by decide,by decide⟩
theorem Wrd.set {zs:List Int} (h:Wrd zs) (i:Nat) (x:Int) (h0:0≤x) (h1:x<18446744073709551616):Wrd (zs.set i x):=by
 intro z hz
 rcases List.mem_or_eq_of_mem_set hz with h'|rfl
 ·exact h z h'
 ·exact⟨h0,h1⟩
theorem u64_or_add (a b:Int) (k:Nat) (ha:0≤a) (ha':a<18446744073709551616) (hb:0≤b) (hb':b<2^k) (hb'':b<18446744073709551616) (q:Int) (hd:a=q*2^k):bits .or .u64 a b=a+b:=by
 obtain⟨a,rfl⟩:=Int.eq_ofNat_of_zero_le ha
 obtain⟨b,rfl⟩:=Int.eq_ofNat_of_zero_le hb
 rw[u64_or_nat a b (by omega) (by omega)]
 have hq:0≤q:=by
  have hp:(0:Int)<2^k:=Int.pow_pos (by decide);rcases Int.lt_or_le q 0 with h|h
  ·have:=Int.mul_neg_of_neg_of_pos h hp;omega
  ·exact h
 obtain⟨q,rfl⟩:=Int.eq_ofNat_of_zero_le hq
 have hd':a=q*2^k:=by exact_mod_cast hd
 have hb3:b<2^k:=by exact_mod_cast hb'
 have:=Nat.shiftLeft_add_eq_or_of_lt hb3 q
 rw[Nat.shiftLeft_eq,←hd'] at this
 rw[←this];simp
theorem u64_and_mask (a:Int) (k:Nat) (ha:0≤a) (ha':a<18446744073709551616) (m:Int) (hm:m=2^k-1) (hk:k≤64):bits .and .u64 a m=a%2^k:=by
 obtain⟨a,rfl⟩:=Int.eq_ofNat_of_zero_le ha
 have hp:0<2^k:=Nat.pow_pos (by decide)
 have hle:2^k≤2^64:=Nat.pow_le_pow_right (by decide) hk
 have e:m=((2^k-1:Nat):Int):=by rw[hm];rw[Int.ofNat_sub (by omega)];simp
 rw[e,u64_and_nat a _ (by omega) (by omega),Nat.and_two_pow_sub_one_eq_mod]
 simp
theorem take_set_succ (ms:List Int) (k:Nat) (x:Int) (h:k<ms.length):(ms.set k x).take (k+1)=ms.take k++[x]:=by
 rw[List.take_set,List.take_succ_eq_append_getElem h,List.set_append_right _ _ (by simp;omega)]
 simp[Nat.min_eq_left (Nat.le_of_lt h)]
theorem drop_set_succ (ms:List Int) (k:Nat) (x:Int):(ms.set k x).drop (k+1)=ms.drop (k+1):=by
 rw[List.drop_set];simp
theorem getD_of_drop {ms ns:List Int} {k:Nat} (h:ms.drop k=ns.drop k):ms.getD k 0=ns.getD k 0:=by
 have e:(ms.drop k)[0]?=(ns.drop k)[0]?:=by rw[h]
 simp only[List.getElem?_drop,Nat.add_zero] at e
 rw[List.getD_eq_getElem?_getD,List.getD_eq_getElem?_getD,e]
theorem drop_succ_of {ms ns:List Int} {k:Nat} (h:ms.drop k=ns.drop k):ms.drop (k+1)=ns.drop (k+1):=by
 rw[←List.drop_drop,h,List.drop_drop]
theorem val_set_succ (B:Int) (ms:List Int) (k:Nat) (x:Int) (h:k<ms.length):val B ((ms.set k x).take (k+1))=val B (ms.take k)+x*B^k:=by
 rw[take_set_succ ms k x h,val_snoc,List.length_take,Nat.min_eq_left (Nat.le_of_lt h)]
theorem sub_step (B p q z P x y b x' b':Int) (h:p-q=z-b*P) (hx:x'-b'*B=x-y-b):(p+x*P)-(q+y*P)=(z+x'*P)-b'*(P*B):=by
 have:(x'-b'*B)*P=(x-y-b)*P:=by rw[hx]
 grind
structure WrH (g:Nat) (w w':World):Prop where
 os:w'.os=w.os
 tape:w'.tape=w.tape
 output:w'.output=w.output
 size:w.heap.size≤w'.heap.size
 block:∀ k,k<w.heap.size→k≠g→w'.heap[k]?=w.heap[k]?
theorem WrH.refl (g:Nat) (w:World):WrH g w w:=⟨rfl,rfl,rfl,Nat.le_refl _,fun _ _ _=>rfl⟩
theorem WrH.trans {g:Nat} {a b c:World} (h:WrH g a b) (k:WrH g b c):WrH g a c:=
 ⟨k.os.trans h.os,k.tape.trans h.tape,k.output.trans h.output,Nat.le_trans h.size k.size,fun i hi hg=>(k.block i (Nat.lt_of_lt_of_le hi h.size) hg).trans (h.block i hi hg)⟩
theorem Wr.wrH {g:Nat} {w w':World} (h:Wr g w w'):WrH g w w':=⟨h.os,h.tape,h.output,by rw[h.size];exact Nat.le_refl _,fun k _ hg=>h.block k hg⟩
theorem WrH.of_below {g:Nat} {w w':World} (h:Below w.heap.size w w'):WrH g w w':=⟨h.os,h.tape,h.output,h.size,fun k hk _=>h.block k hk⟩
theorem WrH.below {g:Nat} {w w':World} (h:WrH g w w') (B:Nat) (hB:B≤g) (hB':B≤w.heap.size):Below B w w':=⟨h.os,h.tape,h.output,h.size,fun k hk=>h.block k (by omega) (by omega)⟩
theorem WrH.rowW {g g':Nat} {w w':World} {e:TypeId} {zs:List Int} (h:WrH g w w') (hr:RowW w g' e zs) (hg:g'≠g):RowW w' g' e zs:=by
 unfold RowW;rw[h.block g' hr.lt hg];exact hr
theorem RowW.setRow {w:World} {g:Nat} {e:TypeId} {zs:List Int} (h:RowW w g e zs) (ns:List Int):RowW (w.setRow g (ns.map (Value.int .u64)).toArray) g e ns:=by
 unfold RowW;rw[setRow_heap _ _ _ _ _ _ h]
theorem RowW.setRow_other {w:World} {g g':Nat} {e:TypeId} {zs:List Int} (h:RowW w g e zs) (cs:Array Value) (hg:g≠g'):RowW (w.setRow g' cs) g e zs:=by
 unfold RowW;rw[Go.setRow_other w g' g cs hg];exact h
def bor (x y b:Int):Int:=if x<y+b then 1 else 0
theorem bor_bd (x y b:Int):0≤bor x y b∧bor x y b≤1:=by unfold bor;split<;>omega
theorem bor_eq (x y b:Int) (hx:0≤x) (hx':x<18446744073709551616) (hy:0≤y) (hy':y<18446744073709551616) (hb:0≤b) (hb':b≤1):(x-y-b)%18446744073709551616-bor x y b*18446744073709551616=x-y-b:=by
 unfold bor;split<;>omega
theorem below_new2 (w:World) (o:Obj):Below w.heap.size w (w.alloc o):=(Below.refl _ _).alloc (Nat.le_refl _) _
end Go.Proofs.YtganeokokjodoaaGreat
