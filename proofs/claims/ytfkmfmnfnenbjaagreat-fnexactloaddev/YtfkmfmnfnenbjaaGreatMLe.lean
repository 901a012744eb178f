import Derived.Test.YtfkmfmnfnenbjaaGreatMRows8a
import Derived.Test.YtfkmfmnfnenbjaaGreatMDevVal
import Derived.Test.YtfkmfmnfnenbjaaGreatMSvP
import Derived.BigRegion
import Derived.Test.YtfkmfmnfnenbjaaGreatMSwH
import Derived.Test.YtfkmfmnfnenbjaaGreatSnX
import Derived.Test.YtfkmfmnfnenbjaaGreatMDevRd
namespace Go.Proofs.YtfkmfmnfnenbjaaGreat
open Go.ChangeShapes Go.WideShapes Go.ChangeAt Go.RowKit
set_option linter.unusedVariables false
theorem i64_or_nat (a b:Nat) (ha:a<4611686018427387904) (hb:b<4611686018427387904):bits .or .i64 (a:Int) (b:Int)=((a ||| b:Nat):Int):=by
 have hx:a ||| b<2^62:=Nat.or_lt_two_pow (by omega) (by omega)
 show IntKind.i64.wrap ((BitVec.ofInt 64 (a:Int) ||| BitVec.ofInt 64 (b:Int)).toNat:Int)=_
 rw[BitVec.toNat_or,ofInt_u64 a (by omega),ofInt_u64 b (by omega),IntKind.wrap_i64]
 omega
theorem i64_or_add (a b:Int) (k:Nat) (ha:0≤a) (ha':a<4611686018427387904) (hb:0≤b) (hb':b<2^k) (hb'':b<4611686018427387904) (q:Int) (hd:a=q*2^k):bits .or .i64 b a=b+a:=by
 have h:=u64_or_add a b k ha (by omega) hb hb' (by omega) q hd
 obtain⟨a,rfl⟩:=Int.eq_ofNat_of_zero_le ha
 obtain⟨b,rfl⟩:=Int.eq_ofNat_of_zero_le hb
 rw[u64_or_nat a b (by omega) (by omega)] at h
 rw[i64_or_nat b a (by omega) (by omega),Nat.or_comm];omega
theorem le_step (v x:Int) (j:Nat) (hj:j<7) (h0:0≤v) (h1:v<256^j) (x0:0≤x) (x1:x<256) :
  bits .or .i64 v (wrap64 (x*2^(8*j)))=v+x*256^j:=by
 have e:(2:Int)^(8*j)=256^j:=by rw[Int.pow_mul];rfl
 have hle:(256:Int)^j≤256^6:=by
  have:j=0∨j=1∨j=2∨j=3∨j=4∨j=5∨j=6:=by omega
  rcases this with h|h|h|h|h|h|h<;>rw[h]<;>decide
 have hP0:(0:Int)<256^j:=Int.pow_pos (by decide)
 have e7:(256:Int)^6=281474976710656:=by decide
 rw[e7] at hle
 have m0:0≤x*256^j:=Int.mul_nonneg x0 (by omega)
 have m1:x*256^j≤255*256^j:=Int.mul_le_mul_of_nonneg_right (by omega) (by omega)
 rw[e]
 unfold wrap64
 have e2:(x*256^j+9223372036854775808)%18446744073709551616-9223372036854775808=x*256^j:=by omega
 rw[e2]
 exact i64_or_add _ _ (8*j) m0 (by omega) h0 (by rw[e];exact h1) (by omega) x (by rw[e])
set_option maxHeartbeats 400000 in
theorem le_any (a:Option Addr) (n cap:Nat) (zs:List Int) (w:World) (hn:zs.length=n) (hm:n≤7) (ha:At .u8 w a zs) (hz:Byte zs) :
  Calls Tryz.prog 106 #[.slice a n cap] w fun e w'=>e=.returned (.int .i64 (val 256 zs))∧w'=w:=by
 go_enter Tryz.func106,Tryz.ntmps106
 go_wp2
 go_loop [3,8] (fun c i=>∃ k:Nat,k≤n∧i=.int .i64 k∧c=.int .i64 (val 256 (zs.take k))) (fun _ i=>n-(intOf i).toNat)
 case atStart=>exact⟨0,Nat.zero_le _,rfl,rfl⟩
 case round=>
  obtain⟨k,hk,rfl,rfl⟩:=hrel;by_cases hlt:k<n
  ·obtain⟨b,off,rfl,hb,hc⟩:=ha.get (by omega);have hck:=hc k (by omega);have hx:=hz.get k;have ht0:0≤val 256 (zs.take k):=val_nonneg (by decide) (fun z hz'=>hz z (List.mem_of_mem_take hz'));have ht1:val 256 (zs.take k)<256^k:=by
    have:=val_lt (B:=256) (by decide) (xs:=zs.take k) (fun z hz'=>hz z (List.mem_of_mem_take hz'))
    rwa [List.length_take,Nat.min_eq_left (by omega)] at this
   have hs:=le_step _ _ k (by omega) ht0 ht1 hx.1 hx.2;rw[←val_take 256 zs k (by omega)] at hs;have HS:Hid (bits .or .i64 (val 256 (zs.take k)) (wrap64 (zs.getD k 0*2^(8*k)))=val 256 (zs.take (k+1))):=hs;clear hs hc ht0 ht1;generalize zs.getD k 0=x at *;generalize val 256 (zs.take k)=c at *;obtain⟨hx0,hx1⟩:=hx;go_wp2
   go_round
   case rel=>exact⟨k+1,by omega,by go_num,by rw[←HS.out]⟩
   case measure=>simp[intOf];omega
  ·have hk':k=n:=by omega
   subst hk';have HT:Hid (zs.take k=zs):=List.take_of_length_le (by omega);go_wp2
   go_ret
   exact⟨ret_int (by rw[HT.out]),rfl⟩
end Go.Proofs.YtfkmfmnfnenbjaaGreat
namespace Go.Proofs.YtfkmfmnfnenbjaaGreat
open Go.ChangeShapes Go.WideShapes Go.ChangeAt Go.RowKit
set_option linter.unusedVariables false
def dkA (i:Nat):Nat:=if i<8 then 44+2*i else 56+2*i
def dkS (zs:List Int) (i:Nat):Int:=zs.getD (dkA i) 0+256*zs.getD (dkA i+1) 0
def dkD (zs:List Int) (k:Nat):List Int:=(List.range k).map (dkS zs)
theorem dkD_succ (zs:List Int) (k:Nat):dkD zs (k+1)=dkD zs k++[dkS zs k]:=by unfold dkD;rw[List.range_succ,List.map_append];rfl
theorem dkD_len (zs:List Int) (k:Nat):(dkD zs k).length=k:=by simp[dkD]
theorem dkA_lt {i:Nat} (h:i<16):dkA i+1<128:=by unfold dkA;split<;>omega
def dkP (zs:List Int) (v:Nat):Bool:=decide (zs.getD (12+v/8) 0/2^(v%8)%2=1)
def dkN (zs:List Int):Nat:=(zs.getD 6 0).toNat
def dkU (zs:List Int):List Int:=upTo (dkP zs) 256
def dkM (zs:List Int):List Int:=(zs.drop 12).take 32
theorem dkM_len {zs:List Int} (h:zs.length=128):(dkM zs).length=32:=by simp[dkM];omega
theorem dkM_get {zs:List Int} (h:zs.length=128) (i:Nat) (hi:i<32):(dkM zs).getD i 0=zs.getD (12+i) 0:=by
 unfold dkM
 rw[List.getD_eq_getElem?_getD,List.getElem?_take_of_lt hi,List.getElem?_drop,←List.getD_eq_getElem?_getD]
theorem dkM_byte {zs:List Int} (hz:Byte zs):Byte (dkM zs):=fun z h=>hz z (List.mem_of_mem_drop (List.mem_of_mem_take h))
theorem dkM_set {zs:List Int} (h:zs.length=128) (hz:Byte zs):SetB (dkM zs) (fun v=>dkP zs v=true):=by
 refine⟨dkM_len h,dkM_byte hz,fun v hv=>?_⟩
 rw[dkM_get h (v/8) (by omega)]
 unfold dkP;simp
structure DkR where
 ok:Bool
 g:Int
 t:Int
 D:List Int
 U:List Int
def dkNo:DkR:=⟨false,0,0,[],[]⟩
noncomputable def dkE (zs:List Int):List Int:=snE (num4 zs 0) (num4 zs 8) (dkD zs (dkN zs)) (dkU zs)
def dkYes (zs:List Int):DkR:=⟨true,num4 zs 0,num4 zs 8,dkD zs (dkN zs),dkU zs⟩
open Classical in
noncomputable def dkF (zs:List Int):DkR:=if zs.length=128∧zs.getD 6 0≤16∧dkE zs=zs then dkYes zs else dkNo
theorem dkF_yes {zs:List Int} (h1:zs.length=128) (h2:zs.getD 6 0≤16) (h3:dkE zs=zs):dkF zs=dkYes zs:=by unfold dkF;rw[if_pos ⟨h1,h2,h3⟩]
theorem dkF_len {zs:List Int} (h:zs.length≠128):dkF zs=dkNo:=by unfold dkF;rw[if_neg (fun q=>h q.1)]
theorem dkF_cnt {zs:List Int} (h:¬ zs.getD 6 0≤16):dkF zs=dkNo:=by unfold dkF;rw[if_neg (fun q=>h q.2.1)]
theorem dkF_no {zs:List Int} (h:dkE zs≠zs):dkF zs=dkNo:=by unfold dkF;rw[if_neg (fun q=>h q.2.2)]
theorem dkF_bd (zs:List Int):(dkF zs).D.length≤256∧(dkF zs).U.length≤256:=by
 unfold dkF
 split
 ·rename_i h
  refine⟨?_,upTo_len _ _⟩;show(dkD zs (dkN zs)).length≤256
  rw[dkD_len];unfold dkN;omega
 ·simp[dkNo]
theorem num4_u3n (zs:List Int) (h:Byte zs) (p:Nat):U32 (num4 zs p):=by
 have h0:=h.get p
 have h1:=h.get (p+1)
 have h2:=h.get (p+2)
 have h3:=h.get (p+3)
 unfold num4 U32
 omega
def DVW (lo:Nat) (w:World) (v:Value) (r:DkR):Prop:=
 ∃ aD nD cD aU nU cU,v=.agg #[.bool r.ok,.int .u32 r.g,.int .u32 r.t,.slice aD nD cD,.slice aU nU cU]∧At .i64 w aD r.D∧At .i64 w aU r.U∧r.D.length=nD∧r.U.length=nU∧Lies lo w aD∧Lies lo w aU
def DVA (lo:Nat) (w:World) (v:Value) (r:DkR):Prop:=
 ∃ aD nD cD aU nU cU,v=.agg #[.bool r.ok,.int .u32 r.g,.int .u32 r.t,.slice aD nD cD,.slice aU nU cU]∧S3 lo w aD aU none nD nU 0 r.D r.U []
def snZ:Array Value:=#[.bool false,.int .u32 0,.int .u32 0,.slice none 0 0,.slice none 0 0]
theorem DVW.no (lo:Nat) (w:World):DVW lo w (.agg snZ) dkNo:=⟨none,0,0,none,0,0,rfl,.inl rfl,.inl rfl,rfl,rfl,fun _ h=>(by cases h),fun _ h=>(by cases h)⟩
theorem DVA.no (lo:Nat) (w:World):DVA lo w (.agg snZ) dkNo:=
 ⟨none,0,0,none,0,0,rfl,.inl rfl,.inl rfl,.inl rfl,rfl,rfl,rfl,fun _ h=>(by cases h),fun _ h=>(by cases h),fun _ h=>(by cases h),fun _ _ h=>(by cases h),fun _ _ h=>(by cases h),fun _ _ h=>(by cases h)⟩
theorem DVW.below {lo:Nat} {w w':World} {v:Value} {r:DkR} (h:DVW lo w v r) (b:Below w.heap.size w w'):DVW lo w' v r:=by
 obtain⟨aD,nD,cD,aU,nU,cU,e,h1,h2,h3,h4,l1,l2⟩:=h
 exact⟨aD,nD,cD,aU,nU,cU,e,h1.below b,h2.below b,h3,h4,l1.mono (Nat.le_refl _) b.size,l2.mono (Nat.le_refl _) b.size⟩
theorem DVA.below {lo:Nat} {w w':World} {v:Value} {r:DkR} (h:DVA lo w v r) (b:Below w.heap.size w w'):DVA lo w' v r:=by
 obtain⟨aD,nD,cD,aU,nU,cU,e,s⟩:=h
 exact⟨aD,nD,cD,aU,nU,cU,e,s.below b⟩
theorem S3.of_io {lo:Nat} {w:World} {aD aU:Option Addr} {nD cD nU cU:Nat} {D U:List Int} (h1:Iow lo w (.slice aD nD cD) D) (h2:Iow lo w (.slice aU nU cU) U) (h3:Aprt aD aU):S3 lo w aD aU none nD nU 0 D U []:=by
 obtain⟨s1,n1,l1⟩:=h1.sat
 obtain⟨s2,n2,l2⟩:=h2.sat
 exact⟨s1,s2,.inl rfl,n1,n2,rfl,l1,l2,fun _ h=>(by cases h),h3,fun _ _ _ h=>(by cases h),fun _ _ _ h=>(by cases h)⟩
theorem Iow.ne {lo G:Nat} {w:World} {a:Option Addr} {n c:Nat} {xs:List Int} {cs:Array Value} {T:TypeId} {fr:Nat×Nat} (h:Iow lo w (.slice a n c) xs) (hG:w.heap[G]?=some (.cells cs T fr)) (hT:T≠2):∀ ad,a=some ad→ad.block≠G:=by
 rintro ad rfl e
 rcases h.2 with⟨h',_⟩|⟨g,cap,cur,h',hb,hh,_⟩
 ·cases h'
 ·cases h';subst e;rw[hG] at hh;simp at hh;exact hT hh.2.1
theorem Iow.keepN {lo G:Nat} {w w':World} {v:Value} {xs:List Int} {cs:Array Value} {T:TypeId} {fr:Nat×Nat} (h:Iow lo w v xs) (hG:w.heap[G]?=some (.cells cs T fr)) (hT:T≠2) (hw:Wr G w w'):Iow lo w' v xs:=by
 obtain⟨a,n,c,rfl⟩:=h.form
 refine⟨h.1,?_⟩
 have hne:=h.ne hG hT
 rcases h.2 with h'|⟨g,cap,cur,h1,h2,h3,h4⟩
 ·exact .inl h'
 ·refine .inr ⟨g,cap,cur,h1,h2,?_,h4⟩;cases h1;rw[hw.block g (hne _ rfl)];exact h3
end Go.Proofs.YtfkmfmnfnenbjaaGreat
namespace Go.Proofs.YtfkmfmnfnenbjaaGreat
open Go.ChangeShapes Go.WideShapes Go.ChangeAt Go.RowKit
set_option linter.unusedVariables false
structure DvF (L c m:Nat) (f:Int) (zs:List Int) (ps:List PD):Prop where
 hl:zs.length=L
 hm:ps.length=m
 hv:validB L ps f=true
 hc:L≤c
 bz:Byte zs
 bp:∀ i,Byte (ps.getD i (0,[])).2
theorem DvF.base {L c m:Nat} {f:Int} {zs:List Int} {ps:List PD} (h:DvF L c m f zs ps):L%64=0∧8≤L/64∧L/64≤256∧m≤1000:=by
 have:=h.hv
 unfold validB at this
 rw[Bool.and_eq_true] at this
 have h1:vBase L ps.length f:=by simpa using this.1
 unfold vBase at h1
 rw[h.hm] at h1
 exact⟨h1.1,h1.2.1,h1.2.2.1,h1.2.2.2.1⟩
theorem DvF.len {L c m:Nat} {f:Int} {zs:List Int} {ps:List PD} (h:DvF L c m f zs ps) (i:Nat) (hi:i<m):(ps.getD i (0,[])).2.length=64:=by
 have:=h.hv
 unfold validB at this
 rw[Bool.and_eq_true,List.all_eq_true] at this
 have hi':i<ps.length:=by rw[h.hm];exact hi
 have h2:=this.2 ps[i] (List.getElem_mem hi')
 have h3:pOk (L/64) ps[i]:=by simpa using h2
 rw[show ps.getD i (0,[])=ps[i] by simp[List.getD,hi']]
 exact h3.2.2
theorem findL_mem {ps:List PD} {s:Int} (k:Nat):∀ z,findL ps s k=some z→∃ i,i<k∧z=(ps.getD i (0,[])).2:=by
 induction k with
 |zero=>intro z hz;simp[findL] at hz
 |succ k ih=>
  intro z hz;unfold findL at hz;split at hz
  ·exact⟨k,Nat.lt_succ_self k,(Option.some.inj hz).symm⟩
  ·obtain⟨i,hi,e⟩:=ih z hz;exact⟨i,by omega,e⟩
theorem DvF.rd {L c m:Nat} {f:Int} {zs:List Int} {ps:List PD} (h:DvF L c m f zs ps) (s:Nat) (hs:s*64+64≤L):(rdV zs ps s).length=64∧Byte (rdV zs ps s):=by
 unfold rdV
 cases e:findL ps s ps.length with
 |none=>
  simp only[Option.getD_none];refine⟨?_,fun z hz=>h.bz z (List.mem_of_mem_drop (List.mem_of_mem_take hz))⟩;rw[List.length_take,List.length_drop,h.hl];simp;omega
 |some z=>
  simp only[Option.getD_some];obtain⟨i,hi,rfl⟩:=findL_mem _ z e;exact⟨h.len i (by rw[←h.hm];exact hi),h.bp i⟩
def slZ (zs:List Int) (ps:List PD) (i:Nat):List Int:=rdV zs ps (2*i:Nat)++rdV zs ps (2*i+1:Nat)
theorem DvF.sl {L c m:Nat} {f:Int} {zs:List Int} {ps:List PD} (h:DvF L c m f zs ps) (i:Nat) (hi:i<2):(slZ zs ps i).length=128∧Byte (slZ zs ps i):=by
 obtain⟨b1,b2,b3,b4⟩:=h.base
 obtain⟨l1,y1⟩:=h.rd (2*i) (by omega)
 obtain⟨l2,y2⟩:=h.rd (2*i+1) (by omega)
 unfold slZ
 refine⟨by rw[List.length_append,l1,l2],fun z hz=>?_⟩
 rcases List.mem_append.1 hz with q|q
 ·exact y1 z q
 ·exact y2 z q
open Classical in
noncomputable def slF (zs:List Int) (ps:List PD) (i:Nat):DkR:=if(dkF (slZ zs ps i)).ok=true∧(dkF (slZ zs ps i)).g%2=(i:Int) then dkF (slZ zs ps i) else dkNo
open Classical in
noncomputable def nwK (zs:List Int) (ps:List PD):Nat→DkR
 |0=>dkNo
 |k+1=>if(slF zs ps k).ok=true∧((nwK zs ps k).ok=false∨(nwK zs ps k).g<(slF zs ps k).g) then slF zs ps k else nwK zs ps k
end Go.Proofs.YtfkmfmnfnenbjaaGreat
