import Derived.Test.YtjdhhgaelgemcaaGreatDoorMBase
import Derived.Deep.MidRow
import Derived.Laws.BitsAllLaws
namespace Go.Proofs.YtjdhhgaelgemcaaGreatDoor
open Go.ChangeShapes Go.WideShapes Go.ChangeAt Go.RowKit
set_option linter.unusedVariables false
def Row (w:World) (g:Nat) (e:TypeId) (zs:List Int):Prop:=w.heap[g]?=some (.cells (zs.map (Value.int .u8)).toArray e (0,0))
structure Wr (g:Nat) (w w':World):Prop where
 os:w'.os=w.os
 tape:w'.tape=w.tape
 output:w'.output=w.output
 size:w'.heap.size=w.heap.size
 block:∀ k,k≠g→w'.heap[k]?=w.heap[k]?
theorem Wr.refl (g:Nat) (w:World):Wr g w w:=⟨rfl,rfl,rfl,rfl,fun _ _=>rfl⟩
theorem Wr.trans {g:Nat} {a b c:World} (h:Wr g a b) (k:Wr g b c):Wr g a c:=
 ⟨k.os.trans h.os,k.tape.trans h.tape,k.output.trans h.output,k.size.trans h.size,fun i hi=>(k.block i hi).trans (h.block i hi)⟩
theorem Wr.setCell {g:Nat} {a w:World} (h:Wr g a w) (o:Nat) (u:Value):Wr g a (w.setCell ⟨g,o,none⟩ u):=
 h.trans ⟨rfl,rfl,rfl,by simp[World.setCell],fun k hk=>heap_setCell_other w _ k u hk⟩
theorem Wr.setRow (g:Nat) (w:World) (cs:Array Value):Wr g w (w.setRow g cs):=⟨rfl,rfl,rfl,size_setRow w g cs,fun k hk=>setRow_other w g k cs hk⟩
theorem Wr.drewN {g:Nat} {a w:World} (h:Wr g a w) (n:Nat):Wr g a (w.drewN n):=⟨h.os,h.tape,h.output,h.size,h.block⟩
theorem Wr.drew {g:Nat} {a w:World} (h:Wr g a w):Wr g a w.drew:=⟨h.os,h.tape,h.output,h.size,h.block⟩
theorem Wr.below {g B:Nat} {w w':World} (h:Wr g w w') (hB:B≤g):Below B w w':=⟨h.os,h.tape,h.output,by rw[h.size];exact Nat.le_refl _,fun k hk=>h.block k (by omega)⟩
theorem Row.lt {w:World} {g:Nat} {e:TypeId} {zs:List Int} (h:Row w g e zs):g<w.heap.size:=(Array.getElem?_eq_some_iff.1 h).1
theorem Row.cell {w:World} {g:Nat} {e:TypeId} {zs:List Int} (h:Row w g e zs) (i:Nat) (hi:i<zs.length):w.cell? ⟨g,i,none⟩=some (.int .u8 (zs.getD i 0)):=by
 rw[cell_of_row w g i _ e _ h];simp[hi]
theorem Row.frozen {w:World} {g:Nat} {e:TypeId} {zs:List Int} (h:Row w g e zs) (i:Nat):w.frozen? ⟨g,i,none⟩=false:=frozen_of_row w g i _ e h
theorem Row.set {w:World} {g:Nat} {e:TypeId} {zs:List Int} (h:Row w g e zs) (i:Nat) (x:Int):Row (w.setCell ⟨g,i,none⟩ (.int .u8 x)) g e (zs.set i x):=by
 unfold Row;rw[heap_setCell_same w g i _ e _ h];simp[List.map_set]
theorem Row.drew {w:World} {g:Nat} {e:TypeId} {zs:List Int} (h:Row w g e zs):Row w.drew g e zs:=h
def RowW (w:World) (g:Nat) (e:TypeId) (ns:List Int):Prop:=w.heap[g]?=some (.cells (ns.map (Value.int .u64)).toArray e (0,0))
theorem RowW.lt {w:World} {g:Nat} {e:TypeId} {zs:List Int} (h:RowW w g e zs):g<w.heap.size:=(Array.getElem?_eq_some_iff.1 h).1
theorem RowW.cell {w:World} {g:Nat} {e:TypeId} {zs:List Int} (h:RowW w g e zs) (i:Nat) (hi:i<zs.length):w.cell? ⟨g,i,none⟩=some (.int .u64 (zs.getD i 0)):=by
 rw[cell_of_row w g i _ e _ h];simp[hi]
theorem RowW.frozen {w:World} {g:Nat} {e:TypeId} {zs:List Int} (h:RowW w g e zs) (i:Nat):w.frozen? ⟨g,i,none⟩=false:=frozen_of_row w g i _ e h
theorem RowW.set {w:World} {g:Nat} {e:TypeId} {zs:List Int} (h:RowW w g e zs) (i:Nat) (x:Int):RowW (w.setCell ⟨g,i,none⟩ (.int .u64 x)) g e (zs.set i x):=by
 unfold RowW;rw[heap_setCell_same w g i _ e _ h];simp[List.map_set]
theorem Wr.rowW {g g':Nat} {w w':World} {e:TypeId} {zs:List Int} (h:Wr g w w') (hr:RowW w g' e zs) (hg:g'≠g):RowW w' g' e zs:=by
 unfold RowW;rw[h.block g' hg];exact hr
theorem RowW.below {w w':World} {g:Nat} {e:TypeId} {zs:List Int} {B:Nat} (h:RowW w g e zs) (hb:Below B w w') (hg:g<B):RowW w' g e zs:=by
 unfold RowW;rw[hb.block g hg];exact h
def Wrd (ns:List Int):Prop:=∀ z∈ns,0≤z∧z<18446744073709551616
theorem Wrd.get {zs:List Int} (h:Wrd zs) (i:Nat):0≤zs.getD i 0∧zs.getD i 0<18446744073709551616:=by
 by_cases hi:i<zs.length
 ·rw[List.getD_eq_getElem?_getD,List.getElem?_eq_getElem hi];exact h _ (List.getElem_mem hi)
 ·rw[List.getD_eq_getElem?_getD,List.getElem?_eq_none (by omega)];exact⟨by decide,by decide⟩
theorem Wrd.set {zs:List Int} (h:Wrd zs) (i:Nat) (x:Int) (h0:0≤x) (h1:x<18446744073709551616):Wrd (zs.set i x):=by
 intro z hz;rcases List.mem_or_eq_of_mem_set hz with h'|rfl
 ·exact h z h'
 ·exact⟨h0,h1⟩
theorem u64_or_add (a b:Int) (k:Nat) (ha:0≤a) (ha':a<18446744073709551616) (hb:0≤b) (hb':b<2^k) (hb'':b<18446744073709551616) (q:Int) (hd:a=q*2^k):bits .or .u64 a b=a+b:=by
 obtain⟨a,rfl⟩:=Int.eq_ofNat_of_zero_le ha;obtain⟨b,rfl⟩:=Int.eq_ofNat_of_zero_le hb;rw[u64_or_nat a b (by omega) (by omega)];have hq:0≤q:=by
  have hp:(0:Int)<2^k:=Int.pow_pos (by decide);rcases Int.lt_or_le q 0 with h|h
  ·have:=Int.mul_neg_of_neg_of_pos h hp;omega
  ·exact h
 obtain⟨q,rfl⟩:=Int.eq_ofNat_of_zero_le hq;have hd':a=q*2^k:=by exact_mod_cast hd
 have hb3:b<2^k:=by exact_mod_cast hb'
 have:=Nat.shiftLeft_add_eq_or_of_lt hb3 q;rw[Nat.shiftLeft_eq,←hd'] at this;rw[←this];simp
theorem u64_and_mask (a:Int) (k:Nat) (ha:0≤a) (ha':a<18446744073709551616) (m:Int) (hm:m=2^k-1) (hk:k≤64):bits .and .u64 a m=a%2^k:=by
 obtain⟨a,rfl⟩:=Int.eq_ofNat_of_zero_le ha;have hp:0<2^k:=Nat.pow_pos (by decide);have hle:2^k≤2^64:=Nat.pow_le_pow_right (by decide) hk;have e:m=((2^k-1:Nat):Int):=by rw[hm];rw[Int.ofNat_sub (by omega)];simp
 rw[e,u64_and_nat a _ (by omega) (by omega),Nat.and_two_pow_sub_one_eq_mod];simp
theorem take_set_succ (ms:List Int) (k:Nat) (x:Int) (h:k<ms.length):(ms.set k x).take (k+1)=ms.take k++[x]:=by
 rw[List.take_set,List.take_succ_eq_append_getElem h,List.set_append_right _ _ (by simp;omega)];simp[Nat.min_eq_left (Nat.le_of_lt h)]
theorem drop_set_succ (ms:List Int) (k:Nat) (x:Int):(ms.set k x).drop (k+1)=ms.drop (k+1):=by
 rw[List.drop_set];simp
theorem getD_of_drop {ms ns:List Int} {k:Nat} (h:ms.drop k=ns.drop k):ms.getD k 0=ns.getD k 0:=by
 have e:(ms.drop k)[0]?=(ns.drop k)[0]?:=by rw[h]
 simp only[List.getElem?_drop,Nat.add_zero] at e;rw[List.getD_eq_getElem?_getD,List.getD_eq_getElem?_getD,e]
theorem drop_succ_of {ms ns:List Int} {k:Nat} (h:ms.drop k=ns.drop k):ms.drop (k+1)=ns.drop (k+1):=by
 rw[←List.drop_drop,h,List.drop_drop]
theorem val_set_succ (B:Int) (ms:List Int) (k:Nat) (x:Int) (h:k<ms.length):val B ((ms.set k x).take (k+1))=val B (ms.take k)+x*B^k:=by
 rw[take_set_succ ms k x h,val_snoc,List.length_take,Nat.min_eq_left (Nat.le_of_lt h)]
theorem sub_step (B p q z P x y b x' b':Int) (h:p-q=z-b*P) (hx:x'-b'*B=x-y-b):(p+x*P)-(q+y*P)=(z+x'*P)-b'*(P*B):=by
 have:(x'-b'*B)*P=(x-y-b)*P:=by rw[hx]
 grind
structure WrH (g:Nat) (w w':World):Prop where
 os:w'.os=w.os
 tape:w'.tape=w.tape
 output:w'.output=w.output
 size:w.heap.size≤w'.heap.size
 block:∀ k,k<w.heap.size→k≠g→w'.heap[k]?=w.heap[k]?
theorem WrH.refl (g:Nat) (w:World):WrH g w w:=⟨rfl,rfl,rfl,Nat.le_refl _,fun _ _ _=>rfl⟩
theorem WrH.trans {g:Nat} {a b c:World} (h:WrH g a b) (k:WrH g b c):WrH g a c:=
 ⟨k.os.trans h.os,k.tape.trans h.tape,k.output.trans h.output,Nat.le_trans h.size k.size,fun i hi hg=>(k.block i (Nat.lt_of_lt_of_le hi h.size) hg).trans (h.block i hi hg)⟩
theorem Wr.wrH {g:Nat} {w w':World} (h:Wr g w w'):WrH g w w':=⟨h.os,h.tape,h.output,by rw[h.size];exact Nat.le_refl _,fun k _ hg=>h.block k hg⟩
theorem WrH.of_below {g:Nat} {w w':World} (h:Below w.heap.size w w'):WrH g w w':=⟨h.os,h.tape,h.output,h.size,fun k hk _=>h.block k hk⟩
theorem WrH.below {g:Nat} {w w':World} (h:WrH g w w') (B:Nat) (hB:B≤g) (hB':B≤w.heap.size):Below B w w':=⟨h.os,h.tape,h.output,h.size,fun k hk=>h.block k (by omega) (by omega)⟩
theorem WrH.rowW {g g':Nat} {w w':World} {e:TypeId} {zs:List Int} (h:WrH g w w') (hr:RowW w g' e zs) (hg:g'≠g):RowW w' g' e zs:=by
 unfold RowW;rw[h.block g' hr.lt hg];exact hr
theorem RowW.setRow {w:World} {g:Nat} {e:TypeId} {zs:List Int} (h:RowW w g e zs) (ns:List Int):RowW (w.setRow g (ns.map (Value.int .u64)).toArray) g e ns:=by
 unfold RowW;rw[setRow_heap _ _ _ _ _ _ h]
theorem RowW.setRow_other {w:World} {g g':Nat} {e:TypeId} {zs:List Int} (h:RowW w g e zs) (cs:Array Value) (hg:g≠g'):RowW (w.setRow g' cs) g e zs:=by
 unfold RowW;rw[Go.setRow_other w g' g cs hg];exact h
def bor (x y b:Int):Int:=if x<y+b then 1 else 0
theorem bor_bd (x y b:Int):0≤bor x y b∧bor x y b≤1:=by unfold bor;split<;>omega
theorem bor_eq (x y b:Int) (hx:0≤x) (hx':x<18446744073709551616) (hy:0≤y) (hy':y<18446744073709551616) (hb:0≤b) (hb':b≤1):(x-y-b)%18446744073709551616-bor x y b*18446744073709551616=x-y-b:=by
 unfold bor;split<;>omega
theorem below_new2 (w:World) (o:Obj):Below w.heap.size w (w.alloc o):=(Below.refl _ _).alloc (Nat.le_refl _) _
theorem part_u64 (w:World) (xs:List Int) (i:Nat) (hi:i<xs.length):(part 132 (xs.map (Value.int .u64)).toArray i).run Tryz.prog w=.ok (.int .u64 (xs.getD i 0)) w:=by
 have hagg:(isAgg 132).run Tryz.prog w=.ok false w:=by
  unfold isAgg;rw[Sem.run_bind,run_underlying Tryz.underlying132 w];rfl
 simp[part,hagg,hi]
theorem sizeU64 (w:World):(sizeOf 132).run Tryz.prog w=.ok 1 w:=by
 have h:(Tryz.prog.info? 132).map (·.size)=some 1:=by kernel_rfl
 cases hq:Tryz.prog.info? 132 with
 |none=>simp[hq] at h
 |some i=>
  have hs:i.size=1:=by simpa[hq] using h
  simp[sizeOf,typeInfo,hq,hs]
theorem run_eqW (w:World) (d n:Nat) (t:TypeId) (hu:Tryz.prog.underlying t=some (.array n 132)) (xs ys:List Int) (hx:xs.length=n) (hy:ys.length=n) :
  (Op.equalIn (d+2) t (.agg (xs.map (Value.int .u64)).toArray) (.agg (ys.map (Value.int .u64)).toArray)).run Tryz.prog w=.ok (decide (xs=ys)) w:=by
 have key:decide (xs=ys)=(List.range' 0 n).all (fun i=>xs.getD i 0 == ys.getD i 0):=by
  rw[Bool.eq_iff_iff];simp only[decide_eq_true_eq,List.all_eq_true,List.mem_range',beq_iff_eq];constructor
  ·rintro rfl _ _;rfl
  ·intro h;apply List.ext_getElem (by omega);intro i h1 h2;have:=h i ⟨i,by omega,by omega⟩;simpa[h1,h2] using this
 rw[key];unfold Op.equalIn;simp only[Sem.run_bind,run_underlying hu,Result.andThen_ok,sizeU64,Nat.mul_one,Std.Legacy.Range.forIn_eq_forIn_range',Std.Legacy.Range.size,Nat.sub_zero,Nat.add_sub_cancel,Nat.div_one];have hl:∀ i∈List.range' 0 n,i<n:=fun i hi=>by rw[List.mem_range'] at hi;obtain⟨j,_,rfl⟩:=hi;omega
 revert hl;generalize List.range' 0 n=l;intro hl
 induction l with
 |nil=>simp
 |cons i l ih=>
  have hi:=hl i (List.mem_cons_self ..);have ih':=ih (fun j hj=>hl j (List.mem_cons_of_mem _ hj));simp only[List.forIn_cons,Sem.run_bind,part_u64 w xs i (by omega),part_u64 w ys i (by omega),Result.andThen_ok,run_equalIn_int w d 132 .u64 .u64 _ _ Tryz.underlying132,List.all_cons];cases hb:(xs.getD i 0 == ys.getD i 0)
  ·simp
  ·simp only[Bool.not_true,Bool.false_eq_true,if_false,Sem.run_pure,Result.andThen_ok,Bool.true_and];exact ih'
def prm (n:Nat):Bool:=decide (2≤n) && (List.range 32).all (fun d=>decide (d<2) || decide (n<d*d) || !decide (n%d=0))
theorem prm_of {n d:Nat} (hd:2≤d) (h:n%d=0) (hn:d*d≤n) (h32:d<32):prm n=false:=by
 unfold prm;rw[Bool.and_eq_false_iff];right;rw[List.all_eq_false];refine⟨d,List.mem_range.2 h32,?_⟩;simp[h];omega
theorem prm_end {n:Nat} (d:Nat) (hn:n<d*d) (h:∀ e,2≤e→e<d→n%e≠0):prm n=decide (2≤n):=by
 unfold prm;rw[List.all_eq_true.2 (fun e _=>?_),Bool.and_true];by_cases h1:e<2
 ·simp[h1]
 ·by_cases h2:e<d
  ·have:=h e (by omega) h2;simp[this]
  ·have:n<e*e:=Nat.lt_of_lt_of_le hn (Nat.mul_le_mul (by omega) (by omega));simp[this]
set_option maxHeartbeats 400000 in
theorem isPrm_any (n:Nat) (w:World) (hn:n<1024) :
  Calls Tryz.prog 148 #[.int .u64 n] w fun e w'=>e=.returned (.bool (prm n))∧w'=w:=by
 go_enter Tryz.func148,Tryz.ntmps148;go_wp2
 go_loop [3] (fun i=>∃ d:Nat,i=.int .u64 d∧2≤d∧d≤33∧∀ e,2≤e→e<d→n%e≠0) (fun i=>33-(intOf i).toNat)
 case atStart=>exact⟨2,rfl,by decide,by decide,fun e h1 h2=>by omega⟩
 case round=>
  obtain⟨d,rfl,hd,hd',hall⟩:=hrel;have hA:Hid (∀ e,2≤e→e<d→n%e≠0):=hall;clear hall;by_cases hle:d*d≤n
  ·have h32:d<32:=by
    rcases Nat.lt_or_ge d 32 with h|h
    ·exact h
    ·have:=Nat.mul_le_mul h h;omega
   have hdd:d*d<1024:=by omega
   have hle':((d:Int)*(d:Int))≤(n:Int):=by rw[←Int.natCast_mul];omega
   have hdd':((d:Int)*(d:Int))<1024:=by rw[←Int.natCast_mul];omega
   have hdd0:0≤((d:Int)*(d:Int)):=Int.mul_nonneg (by omega) (by omega);by_cases hz:n%d=0
   ·have HP:Hid (prm n=false):=prm_of hd hz hle h32;have hz':(n:Int)%(d:Int)=0:=by exact_mod_cast hz
    have hz2:(n:Int).tmod (d:Int)=0:=by rw[Int.tmod_eq_emod_of_nonneg (by omega)];exact hz'
    have hne:¬ (d:Int)=0:=by omega
    clear hz hle;go_wp2
    go_ret
    exact⟨by rw[HP.out];rfl,rfl⟩
   ·have hz':¬ (n:Int)%(d:Int)=0:=by rw[←Int.natCast_emod];omega
    have hz2:¬ (n:Int).tmod (d:Int)=0:=by rw[Int.tmod_eq_emod_of_nonneg (by omega)];exact hz'
    have hz3:((n:Int)%(d:Int) == 0)=false:=by simpa using hz'
    have hz4:((n:Int).tmod (d:Int) == 0)=false:=by simpa using hz2
    have hne:¬ (d:Int)=0:=by omega
    have HN:Hid (∀ e,2≤e→e<d+1→n%e≠0):=fun e h1 h2=>by
     rcases Nat.lt_or_ge e d with h|h
     ·exact hA.out e h1 h
     ·obtain rfl:e=d:=by omega
      exact hz
    clear hle hA hz;go_wp2
    go_round
    case rel=>exact⟨d+1,by go_num,by omega,by omega,HN.out⟩
    case measure=>simp[intOf];omega
  ·have HP:Hid (prm n=decide (2≤n)):=prm_end d (by omega) hA.out;have hdd:d*d≤1089:=Nat.mul_le_mul hd' hd';have hgt:(n:Int)<((d:Int)*(d:Int)):=by rw[←Int.natCast_mul];omega
   have hgt':¬ ((d:Int)*(d:Int))≤(n:Int):=by omega
   have hdd':((d:Int)*(d:Int))≤1089:=by rw[←Int.natCast_mul];omega
   clear hle hA;by_cases h2:2≤n
   ·have h2':(2:Int)≤(n:Int):=by omega
    have HP2:Hid (prm n=true):=by show prm n=true;rw[HP.out];simpa using h2
    go_wp2
    go_ret
    exact⟨by rw[HP2.out];rfl,rfl⟩
   ·have h2':¬ (2:Int)≤(n:Int):=by omega
    have HP2:Hid (prm n=false):=by show prm n=false;rw[HP.out];simpa using h2
    go_wp2
    go_ret
    exact⟨by rw[HP2.out];rfl,rfl⟩
def prs:List Nat:=[2,3,5,7,11,13,17,19,23,29,31,37,41,43,47,53,59,61,67,71,73,79,83,89,97,101,103,107,109,113,127,131,137,139,149,151,157,163,167,173,179,181,191,193,197,199,211,223,227,229,233,239,241,251,257,263,269,271,277,281,283,293,307,311,313,317,331,337,347,349,353,359,367,373,379,383,389,397,401,409]
def prs0:List Nat:=1::prs
theorem prs_all:∀ m<410,prm m=prs.contains m:=by decide +kernel
theorem prs_gap:∀ k<80,∀ j<80,¬ (prs0.getD k 0<prs.getD j 0∧prs.getD j 0<prs0.getD (k+1) 0):=by decide +kernel
theorem prs_up:∀ k<80,prs0.getD k 0<prs0.getD (k+1) 0∧prs0.getD (k+1) 0<410∧prs.contains (prs0.getD (k+1) 0)=true:=by decide +kernel
theorem prm_gap {k m:Nat} (hk:k<80) (h1:prs0.getD k 0<m) (h2:m<prs0.getD (k+1) 0):prm m=false:=by
 have:=(prs_up k hk).2.1;rw[prs_all m (by omega)];cases h:prs.contains m with
 |false=>rfl
 |true=>
  exfalso
  rw[List.contains_iff_mem] at h;obtain⟨j,hj,rfl⟩:=List.mem_iff_getElem.1 h;have hj':j<80:=hj;have:=prs_gap k hk j hj';rw[List.getD_eq_getElem?_getD (l:=prs),List.getElem?_eq_getElem hj] at this;exact this ⟨h1,h2⟩
theorem prm_hit {k:Nat} (hk:k<80):prm (prs0.getD (k+1) 0)=true:=by
 have:=prs_up k hk;rw[prs_all _ this.2.1];exact this.2.2
set_option maxHeartbeats 400000 in
theorem prime_any (t:Nat) (w:World) (ht:t<80) :
  Calls Tryz.prog 119 #[.int .i64 t] w fun e w'=>e=.returned (.int .u64 (prs0.getD (t+1) 0:Nat))∧w'=w:=by
 go_enter Tryz.func119,Tryz.ntmps119;go_wp2
 go_loop [3,4] (fun n i=>∃ k:Nat,k≤t+1∧i=.int .i64 k∧n=.int .u64 (prs0.getD k 0:Nat)) (fun _ i=>t+1-(intOf i).toNat)
 case atStart=>exact⟨0,Nat.zero_le _,rfl,rfl⟩
 case round=>
  obtain⟨k,hk,rfl,rfl⟩:=hrel;by_cases hlt:k<t+1
  ·obtain⟨hu1,hu2,hu3⟩:=prs_up k (by omega);have HG:Hid (∀ m,prs0.getD k 0<m→m<prs0.getD (k+1) 0→prm m=false):=fun m h1 h2=>prm_gap (by omega) h1 h2
   have HH:Hid (prm (prs0.getD (k+1) 0)=true):=prm_hit (by omega);clear hu3;generalize prs0.getD k 0=p at *;generalize hq:prs0.getD (k+1) 0=q at *;have HQ:Hid (prs0.getD (k+1) 0=q):=hq;clear hq;go_wp2
   go_loop [3] (fun i=>∃ m:Nat,i=.int .u64 m∧p<m∧m≤q) (fun i=>q-(intOf i).toNat)
   case atStart=>exact⟨p+1,by go_num,by omega,by omega⟩
   case round=>
    obtain⟨m,rfl,hm1,hm2⟩:=hrel;by_cases hmq:m<q
    ·have HF:Hid (prm m=false):=HG.out m hm1 hmq;go_wp2_with fail;refine(isPrm_any m _ (by omega)).mono ?_;rintro e w1 ⟨rfl,rfl⟩;rw[HF.out];go_wp2
     go_round
     case rel=>exact⟨m+1,by go_num,by omega,by omega⟩
     case measure=>simp[intOf];omega
    ·obtain rfl:m=q:=by omega
     go_wp2_with fail;refine(isPrm_any m _ (by omega)).mono ?_;rintro e w1 ⟨rfl,rfl⟩;rw[HH.out];go_wp2
     go_round
     case rel=>exact⟨k+1,by omega,by go_num,by rw[HQ.out]⟩
     case measure=>simp[intOf];omega
  ·obtain rfl:k=t+1:=by omega
   go_wp2
   go_ret
   exact⟨rfl,rfl⟩
end Go.Proofs.YtjdhhgaelgemcaaGreatDoor
