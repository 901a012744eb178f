import Derived.Test.YtjdhhgaelgemcaaGreatDoorMBase
open Go.Proofs.Tryz renaming prog->tP
open Go.Proofs.Tryz
open Go renaming World->aC
set_option maxHeartbeats 400000
namespace Go.Proofs.YtjdhhgaelgemcaaGreatDoor
open Go.ChangeShapes Go.WideShapes Go.ChangeAt Go.RowKit
set_option linter.unusedVariables false
def EF (w:aC) (g:Nat) (e:TypeId) (zs:List Int):Prop:=w.heap[g]?=some (.cells (zs.map (Value.int .u8)).toArray e (0,0))
structure Wr (g:Nat) (w w':aC):Prop where
 os:w'.os=w.os
 tape:w'.tape=w.tape
 output:w'.output=w.output
 size:w'.heap.size=w.heap.size
 block:∀ k,k≠g->w'.heap[k]?=w.heap[k]?
theorem Wr.refl (g:Nat) (w:aC):Wr g w w:=⟨rfl,rfl,rfl,rfl,λ_ _=>rfl⟩
theorem Wr.trans {g:Nat} {a b c:aC} (h:Wr g a b) (k:Wr g b c):Wr g a c:=
 ⟨k.os.trans h.os,k.tape.trans h.tape,k.output.trans h.output,k.size.trans h.size,λi hi=>(k.block i hi).trans (h.block i hi)⟩
theorem Wr.setCell {g:Nat} {a w:aC} (h:Wr g a w) (o:Nat) (u:Value):Wr g a (w.setCell ⟨g,o,none⟩ u):=
 h.trans ⟨rfl,rfl,rfl,by simp[World.setCell],λk hk=>heap_setCell_other w _ k u hk⟩
theorem Wr.setRow (g:Nat) (w:aC) (cs:Array Value):Wr g w (w.setRow g cs):=⟨rfl,rfl,rfl,size_setRow w g cs,λk hk=>setRow_other w g k cs hk⟩
theorem Wr.drewN {g:Nat} {a w:aC} (h:Wr g a w) (n:Nat):Wr g a (w.drewN n):=⟨h.os,h.tape,h.output,h.size,h.block⟩
theorem Wr.drew {g:Nat} {a w:aC} (h:Wr g a w):Wr g a w.drew:=⟨h.os,h.tape,h.output,h.size,h.block⟩
theorem Wr.below {g B:Nat} {w w':aC} (h:Wr g w w') (hB:B<=g):Below B w w':=⟨h.os,h.tape,h.output,by rw[h.size];exact Ac _,λk hk=>h.block k AJ⟩
theorem EF.lt {w:aC} {g:Nat} {e:TypeId} {zs:List Int} (h:EF w g e zs):g<w.heap.size:=(AR.1 h).1
theorem EF.cell {w:aC} {g:Nat} {e:TypeId} {zs:List Int} (h:EF w g e zs) (i:Nat) (hi:i<zs.length):w.cell? ⟨g,i,none⟩=some (.int .u8 (zs.getD i 0)):=by
 rw[cell_of_row w g i _ e _ h];simp[hi]
theorem EF.frozen {w:aC} {g:Nat} {e:TypeId} {zs:List Int} (h:EF w g e zs) (i:Nat):w.frozen? ⟨g,i,none⟩=false:=Ar w g i _ e h
theorem EF.set {w:aC} {g:Nat} {e:TypeId} {zs:List Int} (h:EF w g e zs) (i:Nat) (x:Int):EF (w.setCell ⟨g,i,none⟩ (.int .u8 x)) g e (zs.set i x):=by
 unfold EF;rw[A8 w g i _ e _ h];simp[List.map_set]
theorem EF.drew {w:aC} {g:Nat} {e:TypeId} {zs:List Int} (h:EF w g e zs):EF w.drew g e zs:=h
def Ch (w:aC) (g:Nat) (e:TypeId) (ns:List Int):Prop:=w.heap[g]?=some (.cells (ns.map (Value.int .u64)).toArray e (0,0))
theorem Ch.lt {w:aC} {g:Nat} {e:TypeId} {zs:List Int} (h:Ch w g e zs):g<w.heap.size:=(AR.1 h).1
theorem Ch.cell {w:aC} {g:Nat} {e:TypeId} {zs:List Int} (h:Ch w g e zs) (i:Nat) (hi:i<zs.length):w.cell? ⟨g,i,none⟩=some (.int .u64 (zs.getD i 0)):=by
 rw[cell_of_row w g i _ e _ h];simp[hi]
theorem Ch.frozen {w:aC} {g:Nat} {e:TypeId} {zs:List Int} (h:Ch w g e zs) (i:Nat):w.frozen? ⟨g,i,none⟩=false:=Ar w g i _ e h
theorem Ch.set {w:aC} {g:Nat} {e:TypeId} {zs:List Int} (h:Ch w g e zs) (i:Nat) (x:Int):Ch (w.setCell ⟨g,i,none⟩ (.int .u64 x)) g e (zs.set i x):=by
 unfold Ch;rw[A8 w g i _ e _ h];simp[List.map_set]
theorem Wr.rowW {g g':Nat} {w w':aC} {e:TypeId} {zs:List Int} (h:Wr g w w') (hr:Ch w g' e zs) (hg:g'≠g):Ch w' g' e zs:=by
 unfold Ch;rw[h.block g' hg];exact hr
theorem Ch.below {w w':aC} {g:Nat} {e:TypeId} {zs:List Int} {B:Nat} (h:Ch w g e zs) (hb:Below B w w') (hg:g<B):Ch w' g e zs:=by
 unfold Ch;rw[hb.block g hg];exact h
def G4 (ns:List Int):Prop:=∀ z∈ns,0<=z/\z<18446744073709551616
theorem G4.get {zs:List Int} (h:G4 zs) (i:Nat):0<=zs.getD i 0/\zs.getD i 0<18446744073709551616:=by
 by_cases hi:i<zs.length
 ·rw[AS,Av hi];exact h _ (Bl hi)
 ·rw[AS,BX AJ];exact⟨AK,AK⟩
theorem G4.set {zs:List Int} (h:G4 zs) (i:Nat) (x:Int) (h0:0<=x) (h1:x<18446744073709551616):G4 (zs.set i x):=by
 intro z hz;rcases List.mem_or_eq_of_mem_set hz with h'|rfl
 ·exact h z h'
 ·exact⟨h0,h1⟩
theorem FX (a b:Int) (k:Nat) (ha:0<=a) (ha':a<18446744073709551616) (hb:0<=b) (hb':b<2^k) (hb'':b<18446744073709551616) (q:Int) (hd:a=q*2^k):bits .or .u64 a b=a+b:=by
 obtain⟨a,rfl⟩:=Aj ha;obtain⟨b,rfl⟩:=Aj hb;rw[u64_or_nat a b AJ AJ];have hq:0<=q:=by
  have hp:(0:Int)<2^k:=Int.pow_pos AK;rcases Int.lt_or_le q 0 with h|h
  ·have:=Int.mul_neg_of_neg_of_pos h hp;omega
  ·exact h
 obtain⟨q,rfl⟩:=Aj hq;have hd':a=q*2^k:=by exact_mod_cast hd
 have hb3:b<2^k:=by exact_mod_cast hb'
 have:=Nat.shiftLeft_add_eq_or_of_lt hb3 q;rw[Nat.shiftLeft_eq,<-hd'] at this;rw[<-this];simp
theorem DH (a:Int) (k:Nat) (ha:0<=a) (ha':a<18446744073709551616) (m:Int) (hm:m=2^k-1) (hk:k<=64):bits .and .u64 a m=a%2^k:=by
 obtain⟨a,rfl⟩:=Aj ha;have hp:0<2^k:=Nat.pow_pos AK;have hle:2^k<=2^64:=Nat.pow_le_pow_right AK hk;have e:m=((2^k-1:Nat):Int):=by rw[hm];rw[Int.ofNat_sub AJ];simp
 rw[e,u64_and_nat a _ AJ AJ,Nat.and_two_pow_sub_one_eq_mod];simp
theorem J7 (ms:List Int) (k:Nat) (x:Int) (h:k<ms.length):(ms.set k x).take (k+1)=ms.take k++[x]:=by
 rw[List.take_set,A0 h,Bz _ _ (by simp;omega)];simp[Nat.min_eq_left (Nat.le_of_lt h)]
theorem J8 (ms:List Int) (k:Nat) (x:Int):(ms.set k x).drop (k+1)=ms.drop (k+1):=by
 rw[List.drop_set];simp
theorem Kv {ms ns:List Int} {k:Nat} (h:ms.drop k=ns.drop k):ms.getD k 0=ns.getD k 0:=by
 have e:(ms.drop k)[0]?=(ns.drop k)[0]?:=by rw[h]
 simp only[List.getElem?_drop,Nat.add_zero] at e;rw[AS,AS,e]
theorem Kw {ms ns:List Int} {k:Nat} (h:ms.drop k=ns.drop k):ms.drop (k+1)=ns.drop (k+1):=by
 rw[<-List.drop_drop,h,List.drop_drop]
theorem F7 (B:Int) (ms:List Int) (k:Nat) (x:Int) (h:k<ms.length):val B ((ms.set k x).take (k+1))=val B (ms.take k)+x*B^k:=by
 rw[J7 ms k x h,Fs,Ap,Nat.min_eq_left (Nat.le_of_lt h)]
theorem Qm (B p q z P x y b x' b':Int) (h:p-q=z-b*P) (hx:x'-b'*B=x-y-b):(p+x*P)-(q+y*P)=(z+x'*P)-b'*(P*B):=by
 have:(x'-b'*B)*P=(x-y-b)*P:=by rw[hx]
 grind
structure EN (g:Nat) (w w':aC):Prop where
 os:w'.os=w.os
 tape:w'.tape=w.tape
 output:w'.output=w.output
 size:w.heap.size<=w'.heap.size
 block:∀ k,k<w.heap.size->k≠g->w'.heap[k]?=w.heap[k]?
theorem EN.refl (g:Nat) (w:aC):EN g w w:=⟨rfl,rfl,rfl,Ac _,λ_ _ _=>rfl⟩
theorem EN.trans {g:Nat} {a b c:aC} (h:EN g a b) (k:EN g b c):EN g a c:=
 ⟨k.os.trans h.os,k.tape.trans h.tape,k.output.trans h.output,BG h.size k.size,λi hi hg=>(k.block i (As hi h.size) hg).trans (h.block i hi hg)⟩
theorem Wr.wrH {g:Nat} {w w':aC} (h:Wr g w w'):EN g w w':=⟨h.os,h.tape,h.output,by rw[h.size];exact Ac _,λk _ hg=>h.block k hg⟩
theorem EN.of_below {g:Nat} {w w':aC} (h:Below w.heap.size w w'):EN g w w':=⟨h.os,h.tape,h.output,h.size,λk hk _=>h.block k hk⟩
theorem EN.below {g:Nat} {w w':aC} (h:EN g w w') (B:Nat) (hB:B<=g) (hB':B<=w.heap.size):Below B w w':=⟨h.os,h.tape,h.output,h.size,λk hk=>h.block k AJ AJ⟩
theorem EN.rowW {g g':Nat} {w w':aC} {e:TypeId} {zs:List Int} (h:EN g w w') (hr:Ch w g' e zs) (hg:g'≠g):Ch w' g' e zs:=by
 unfold Ch;rw[h.block g' hr.lt hg];exact hr
theorem Ch.setRow {w:aC} {g:Nat} {e:TypeId} {zs:List Int} (h:Ch w g e zs) (ns:List Int):Ch (w.setRow g (ns.map (Value.int .u64)).toArray) g e ns:=by
 unfold Ch;rw[AB h]
theorem Ch.setRow_other {w:aC} {g g':Nat} {e:TypeId} {zs:List Int} (h:Ch w g e zs) (cs:Array Value) (hg:g≠g'):Ch (w.setRow g' cs) g e zs:=by
 unfold Ch;rw[Go.setRow_other w g' g cs hg];exact h
def Td (x y b:Int):Int:=if x<y+b then 1 else 0
theorem WA (x y b:Int):0<=Td x y b/\Td x y b<=1:=by unfold Td;split<;>omega
theorem WB (x y b:Int) (hx:0<=x) (hx':x<18446744073709551616) (hy:0<=y) (hy':y<18446744073709551616) (hb:0<=b) (hb':b<=1):(x-y-b)%18446744073709551616-Td x y b*18446744073709551616=x-y-b:=by
 unfold Td;split<;>omega
theorem Cx (w:aC) (o:Obj):Below w.heap.size w (w.alloc o):=Cg.alloc Cl _
theorem Lk (w:aC) (xs:List Int) (i:Nat) (hi:i<xs.length):(part 132 (xs.map (Value.int .u64)).toArray i).run tP w=.ok (.int .u64 (xs.getD i 0)) w:=by
 have hagg:(isAgg 132).run tP w=.ok false w:=by
  unfold isAgg;rw[Bs,BH underlying132 w];rfl
 simp[part,hagg,hi]
theorem sizeU64 (w:aC):(sizeOf 132).run tP w=.ok 1 w:=by
 have h:(tP.info? 132).map (·.size)=some 1:=AM
 cases hq:tP.info? 132 with
 |none=>simp[hq] at h
 |some i=>
  have hs:i.size=1:=by simpa[hq] using h
  simp[sizeOf,typeInfo,hq,hs]
theorem IF (w:aC) (d n:Nat) (t:TypeId) (hu:tP.underlying t=some (.array n 132)) (xs ys:List Int) (hx:xs.length=n) (hy:ys.length=n) :
  (Op.equalIn (d+2) t (.agg (xs.map (Value.int .u64)).toArray) (.agg (ys.map (Value.int .u64)).toArray)).run tP w=.ok (decide (xs=ys)) w:=by
 have key:decide (xs=ys)=(List.range' 0 n).all (λi=>xs.getD i 0 == ys.getD i 0):=by
  rw[Bool.eq_iff_iff];simp only[decide_eq_true_eq,List.all_eq_true,List.mem_range',beq_iff_eq];constructor
  ·rintro rfl _ _;rfl
  ·intro h;apply List.ext_getElem AJ;intro i h1 h2;have:=h i ⟨i,AJ,AJ⟩;simpa[h1,h2] using this
 rw[key];unfold Op.equalIn;simp only[Sem.run_bind,run_underlying hu,Result.andThen_ok,sizeU64,Nat.mul_one,Std.Legacy.Range.forIn_eq_forIn_range',Std.Legacy.Range.size,Nat.sub_zero,Nat.add_sub_cancel,Nat.div_one];have hl:∀ i∈List.range' 0 n,i<n:=λi hi=>by rw[List.mem_range'] at hi;obtain⟨j,_,rfl⟩:=hi;omega
 revert hl;generalize List.range' 0 n=l;intro hl
 induction l with
 |nil=>simp
 |cons i l ih=>
  have hi:=hl i (List.mem_cons_self ..);have ih':=ih (λj hj=>hl j (List.mem_cons_of_mem _ hj));simp only[List.forIn_cons,Sem.run_bind,Lk w xs i AJ,Lk w ys i AJ,Result.andThen_ok,run_equalIn_int w d 132 .u64 .u64 _ _ underlying132,List.all_cons];cases hb:(xs.getD i 0 == ys.getD i 0)
  ·simp
  ·simp only[Bool.not_true,Bool.false_eq_true,if_false,Sem.run_pure,Result.andThen_ok,Bool.true_and];exact ih'
def Ll (n:Nat):Bool:=decide (2<=n) && (List.range 32).all (λd=>decide (d<2) || decide (n<d*d) || !decide (n%d=0))
theorem WC {n d:Nat} (hd:2<=d) (h:n%d=0) (hn:d*d<=n) (h32:d<32):Ll n=false:=by
 unfold Ll;rw[Bool.and_eq_false_iff];right;rw[List.all_eq_false];refine⟨d,BF.2 h32,?_⟩;simp[h];omega
theorem Tm {n:Nat} (d:Nat) (hn:n<d*d) (h:∀ e,2<=e->e<d->n%e≠0):Ll n=decide (2<=n):=by
 unfold Ll;rw[BI.2 (λe _=>?_),Bool.and_true];by_cases h1:e<2
 ·simp[h1]
 ·by_cases h2:e<d
  ·have:=h e AJ h2;simp[this]
  ·have:n<e*e:=As hn (Nat.mul_le_mul AJ AJ);simp[this]
theorem KG (n:Nat) (w:aC) (hn:n<1024) :
  Calls tP 148 #[.int .u64 n] w λe w'=>e=.returned (.bool (Ll n))/\w'=w:=by
 go_enter func148,ntmps148;go_wp2
 go_loop [3] (λi=>∃ d:Nat,i=.int .u64 d/\2<=d/\d<=33/\∀ e,2<=e->e<d->n%e≠0) (λi=>33-(intOf i).toNat)
 case atStart=>exact⟨2,rfl,AK,AK,λe h1 h2=>AJ⟩
 case round=>
  obtain⟨d,rfl,hd,hd',hall⟩:=hrel;have hA:AO (∀ e,2<=e->e<d->n%e≠0):=hall;clear hall;by_cases hle:d*d<=n
  ·have h32:d<32:=by
    rcases Nat.lt_or_ge d 32 with h|h
    ·exact h
    ·have:=Nat.mul_le_mul h h;omega
   have hdd:d*d<1024:=AJ
   have hle':((d:Int)*(d:Int))<=(n:Int):=by rw[<-Int.natCast_mul];omega
   have hdd':((d:Int)*(d:Int))<1024:=by rw[<-Int.natCast_mul];omega
   have hdd0:0<=((d:Int)*(d:Int)):=Int.mul_nonneg AJ AJ;by_cases hz:n%d=0
   ·have HP:AO (Ll n=false):=WC hd hz hle h32;have hz':(n:Int)%(d:Int)=0:=by exact_mod_cast hz
    have hz2:(n:Int).tmod (d:Int)=0:=by rw[Am AJ];exact hz'
    have hne:¬ (d:Int)=0:=AJ
    clear hz hle;go_wp2
    go_ret
    exact⟨by rw[HP.o];rfl,rfl⟩
   ·have hz':¬ (n:Int)%(d:Int)=0:=by rw[<-Int.natCast_emod];omega
    have hz2:¬ (n:Int).tmod (d:Int)=0:=by rw[Am AJ];exact hz'
    have hz3:((n:Int)%(d:Int) == 0)=false:=by simpa using hz'
    have hz4:((n:Int).tmod (d:Int) == 0)=false:=by simpa using hz2
    have hne:¬ (d:Int)=0:=AJ
    have HN:AO (∀ e,2<=e->e<d+1->n%e≠0):=λe h1 h2=>by
     rcases Nat.lt_or_ge e d with h|h
     ·exact hA.o e h1 h
     ·obtain rfl:e=d:=AJ
      exact hz
    clear hle hA hz;go_wp2
    go_round
    case rel=>exact⟨d+1,by go_num,AJ,AJ,HN.o⟩
    case measure=>simp[intOf];omega
  ·have HP:AO (Ll n=decide (2<=n)):=Tm d AJ hA.o;have hdd:d*d<=1089:=Nat.mul_le_mul hd' hd';have hgt:(n:Int)<((d:Int)*(d:Int)):=by rw[<-Int.natCast_mul];omega
   have hgt':¬ ((d:Int)*(d:Int))<=(n:Int):=AJ
   have hdd':((d:Int)*(d:Int))<=1089:=by rw[<-Int.natCast_mul];omega
   clear hle hA;by_cases h2:2<=n
   ·have h2':(2:Int)<=(n:Int):=AJ
    have HP2:AO (Ll n=true):=by show Ll n=true;rw[HP.o];simpa using h2
    go_wp2
    go_ret
    exact⟨by rw[HP2.o];rfl,rfl⟩
   ·have h2':¬ (2:Int)<=(n:Int):=AJ
    have HP2:AO (Ll n=false):=by show Ll n=false;rw[HP.o];simpa using h2
    go_wp2
    go_ret
    exact⟨by rw[HP2.o];rfl,rfl⟩
def WD:List Nat:=[2,3,5,7,11,13,17,19,23,29,31,37,41,43,47,53,59,61,67,71,73,79,83,89,97,101,103,107,109,113,127,131,137,139,149,151,157,163,167,173,179,181,191,193,197,199,211,223,227,229,233,239,241,251,257,263,269,271,277,281,283,293,307,311,313,317,331,337,347,349,353,359,367,373,379,383,389,397,401,409]
def FA:List Nat:=1::WD
theorem ON:∀ m<410,Ll m=WD.contains m:=by decide +kernel
theorem Tn:∀ k<80,∀ j<80,¬ (FA.getD k 0<WD.getD j 0/\WD.getD j 0<FA.getD (k+1) 0):=by decide +kernel
theorem NK:∀ k<80,FA.getD k 0<FA.getD (k+1) 0/\FA.getD (k+1) 0<410/\WD.contains (FA.getD (k+1) 0)=true:=by decide +kernel
theorem To {k m:Nat} (hk:k<80) (h1:FA.getD k 0<m) (h2:m<FA.getD (k+1) 0):Ll m=false:=by
 have:=(NK k hk).2.1;rw[ON m AJ];cases h:WD.contains m with
 |false=>rfl
 |true=>
  exfalso
  rw[List.contains_iff_mem] at h;obtain⟨j,hj,rfl⟩:=List.mem_iff_getElem.1 h;have hj':j<80:=hj;have:=Tn k hk j hj';rw[AS (l:=WD),Av hj] at this;exact this ⟨h1,h2⟩
theorem Tp {k:Nat} (hk:k<80):Ll (FA.getD (k+1) 0)=true:=by
 have:=NK k hk;rw[ON _ this.2.1];exact this.2.2
theorem KH (t:Nat) (w:aC) (ht:t<80) :
  Calls tP 119 #[.int .i64 t] w λe w'=>e=.returned (.int .u64 (FA.getD (t+1) 0:Nat))/\w'=w:=by
 go_enter func119,ntmps119;go_wp2
 go_loop [3,4] (λn i=>∃ k:Nat,k<=t+1/\i=.int .i64 k/\n=.int .u64 (FA.getD k 0:Nat)) (λ_ i=>t+1-(intOf i).toNat)
 case atStart=>exact⟨0,Au _,rfl,rfl⟩
 case round=>
  obtain⟨k,hk,rfl,rfl⟩:=hrel;by_cases hlt:k<t+1
  ·obtain⟨hu1,hu2,hu3⟩:=NK k AJ;have HG:AO (∀ m,FA.getD k 0<m->m<FA.getD (k+1) 0->Ll m=false):=λm h1 h2=>To AJ h1 h2
   have HH:AO (Ll (FA.getD (k+1) 0)=true):=Tp AJ;clear hu3;generalize FA.getD k 0=p at *;generalize hq:FA.getD (k+1) 0=q at *;have HQ:AO (FA.getD (k+1) 0=q):=hq;clear hq;go_wp2
   go_loop [3] (λi=>∃ m:Nat,i=.int .u64 m/\p<m/\m<=q) (λi=>q-(intOf i).toNat)
   case atStart=>exact⟨p+1,by go_num,AJ,AJ⟩
   case round=>
    obtain⟨m,rfl,hm1,hm2⟩:=hrel;by_cases hmq:m<q
    ·have HF:AO (Ll m=false):=HG.o m hm1 hmq;go_wp2_with fail;refine(KG m _ AJ).mono ?_;rintro e w1 ⟨rfl,rfl⟩;rw[HF.o];go_wp2
     go_round
     case rel=>exact⟨m+1,by go_num,AJ,AJ⟩
     case measure=>simp[intOf];omega
    ·obtain rfl:m=q:=AJ
     go_wp2_with fail;refine(KG m _ AJ).mono ?_;rintro e w1 ⟨rfl,rfl⟩;rw[HH.o];go_wp2
     go_round
     case rel=>exact⟨k+1,AJ,by go_num,by rw[HQ.o]⟩
     case measure=>simp[intOf];omega
  ·obtain rfl:k=t+1:=AJ
   go_wp2
   go_ret
   exact⟨rfl,rfl⟩
end Go.Proofs.YtjdhhgaelgemcaaGreatDoor
