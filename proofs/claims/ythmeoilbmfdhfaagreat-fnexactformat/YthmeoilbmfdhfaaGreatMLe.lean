import Derived.Test.YthmeoilbmfdhfaaGreatMDevRd
import Derived.Test.YthmeoilbmfdhfaaGreatMReg
import Derived.Test.YthmeoilbmfdhfaaGreatMSvP
import Derived.BigRegion
import Derived.Test.YthmeoilbmfdhfaaGreatMSwH
import Derived.Test.YthmeoilbmfdhfaaGreatSnX
import Derived.Test.YthmeoilbmfdhfaaGreatMSnV
namespace Go.Proofs.YthmeoilbmfdhfaaGreat
open Go.ChangeShapes Go.WideShapes Go.ChangeAt Go.RowKit
set_option linter.unusedVariables false
theorem i64_or_nat (a b:Nat) (ha:a<4611686018427387904) (hb:b<4611686018427387904):bits .or .i64 (a:Int) (b:Int)=((a ||| b:Nat):Int):=by
 have hx:a ||| b<2^62:=Nat.or_lt_two_pow (by omega) (by omega)
 show IntKind.i64.wrap ((BitVec.ofInt 64 (a:Int) ||| BitVec.ofInt 64 (b:Int)).toNat:Int)=_
 rw[BitVec.toNat_or,ofInt_u64 a (by omega),ofInt_u64 b (by omega),IntKind.wrap_i64]
 omega
theorem i64_or_add (a b:Int) (k:Nat) (ha:0≤a) (ha':a<4611686018427387904) (hb:0≤b) (hb':b<2^k) (hb'':b<4611686018427387904) (q:Int) (hd:a=q*2^k):bits .or .i64 b a=b+a:=by
 have h:=u64_or_add a b k ha (by omega) hb hb' (by omega) q hd
 obtain⟨a,rfl⟩:=Int.eq_ofNat_of_zero_le ha
 obtain⟨b,rfl⟩:=Int.eq_ofNat_of_zero_le hb
 rw[u64_or_nat a b (by omega) (by omega)] at h
 rw[i64_or_nat b a (by omega) (by omega),Nat.or_comm];omega
theorem le_step (v x:Int) (j:Nat) (hj:j<7) (h0:0≤v) (h1:v<256^j) (x0:0≤x) (x1:x<256) :
  bits .or .i64 v (wrap64 (x*2^(8*j)))=v+x*256^j:=by
 have e:(2:Int)^(8*j)=256^j:=by rw[Int.pow_mul];rfl
 have hle:(256:Int)^j≤256^6:=by
  have:j=0∨j=1∨j=2∨j=3∨j=4∨j=5∨j=6:=by omega
  rcases this with h|h|h|h|h|h|h<;>rw[h]<;>decide
 have hP0:(0:Int)<256^j:=Int.pow_pos (by decide)
 have e7:(256:Int)^6=281474976710656:=by decide
 rw[e7] at hle
 have m0:0≤x*256^j:=Int.mul_nonneg x0 (by omega)
 have m1:x*256^j≤255*256^j:=Int.mul_le_mul_of_nonneg_right (by omega) (by omega)
 rw[e]
 unfold wrap64
 have e2:(x*256^j+9223372036854775808)%18446744073709551616-9223372036854775808=x*256^j:=by omega
 rw[e2]
 exact i64_or_add _ _ (8*j) m0 (by omega) h0 (by rw[e];exact h1) (by omega) x (by rw[e])
set_option maxHeartbeats 400000 in
theorem le_any (a:Option Addr) (n cap:Nat) (zs:List Int) (w:World) (hn:zs.length=n) (hm:n≤7) (ha:At .u8 w a zs) (hz:Byte zs) :
  Calls Tryz.prog 155 #[.slice a n cap] w fun e w'=>e=.returned (.int .i64 (val 256 zs))∧w'=w:=by
 go_enter Tryz.func155,Tryz.ntmps155
 go_wp2
 go_loop [3,8] (fun c i=>∃ k:Nat,k≤n∧i=.int .i64 k∧c=.int .i64 (val 256 (zs.take k))) (fun _ i=>n-(intOf i).toNat)
 case atStart=>exact⟨0,Nat.zero_le _,rfl,rfl⟩
 case round=>
  obtain⟨k,hk,rfl,rfl⟩:=hrel;by_cases hlt:k<n
  ·obtain⟨b,off,rfl,hb,hc⟩:=ha.get (by omega);have hck:=hc k (by omega);have hx:=hz.get k;have ht0:0≤val 256 (zs.take k):=val_nonneg (by decide) (fun z hz'=>hz z (List.mem_of_mem_take hz'));have ht1:val 256 (zs.take k)<256^k:=by
    have:=val_lt (B:=256) (by decide) (xs:=zs.take k) (fun z hz'=>hz z (List.mem_of_mem_take hz'))
    rwa [List.length_take,Nat.min_eq_left (by omega)] at this
   have hs:=le_step _ _ k (by omega) ht0 ht1 hx.1 hx.2;rw[←val_take 256 zs k (by omega)] at hs;have HS:Hid (bits .or .i64 (val 256 (zs.take k)) (wrap64 (zs.getD k 0*2^(8*k)))=val 256 (zs.take (k+1))):=hs;clear hs hc ht0 ht1;generalize zs.getD k 0=x at *;generalize val 256 (zs.take k)=c at *;obtain⟨hx0,hx1⟩:=hx;go_wp2
   go_round
   case rel=>exact⟨k+1,by omega,by go_num,by rw[←HS.out]⟩
   case measure=>simp[intOf];omega
  ·have hk':k=n:=by omega
   subst hk';have HT:Hid (zs.take k=zs):=List.take_of_length_le (by omega);go_wp2
   go_ret
   exact⟨ret_int (by rw[HT.out]),rfl⟩
def dkA (i:Nat):Nat:=if i<8 then 44+2*i else 56+2*i
def dkS (zs:List Int) (i:Nat):Int:=zs.getD (dkA i) 0+256*zs.getD (dkA i+1) 0
def dkD (zs:List Int) (k:Nat):List Int:=(List.range k).map (dkS zs)
theorem dkD_succ (zs:List Int) (k:Nat):dkD zs (k+1)=dkD zs k++[dkS zs k]:=by unfold dkD;rw[List.range_succ,List.map_append];rfl
theorem dkD_len (zs:List Int) (k:Nat):(dkD zs k).length=k:=by simp[dkD]
theorem dkA_lt {i:Nat} (h:i<16):dkA i+1<128:=by unfold dkA;split<;>omega
def dkP (zs:List Int) (v:Nat):Bool:=decide (zs.getD (12+v/8) 0/2^(v%8)%2=1)
def dkN (zs:List Int):Nat:=(zs.getD 6 0).toNat
def dkU (zs:List Int):List Int:=upTo (dkP zs) 256
def dkM (zs:List Int):List Int:=(zs.drop 12).take 32
theorem dkM_len {zs:List Int} (h:zs.length=128):(dkM zs).length=32:=by simp[dkM];omega
theorem dkM_get {zs:List Int} (h:zs.length=128) (i:Nat) (hi:i<32):(dkM zs).getD i 0=zs.getD (12+i) 0:=by
 unfold dkM
 rw[List.getD_eq_getElem?_getD,List.getElem?_take_of_lt hi,List.getElem?_drop,←List.getD_eq_getElem?_getD]
theorem dkM_byte {zs:List Int} (hz:Byte zs):Byte (dkM zs):=fun z h=>hz z (List.mem_of_mem_drop (List.mem_of_mem_take h))
theorem dkM_set {zs:List Int} (h:zs.length=128) (hz:Byte zs):SetB (dkM zs) (fun v=>dkP zs v=true):=by
 refine⟨dkM_len h,dkM_byte hz,fun v hv=>?_⟩
 rw[dkM_get h (v/8) (by omega)]
 unfold dkP;simp
structure DkR where
 ok:Bool
 g:Int
 t:Int
 D:List Int
 U:List Int
def dkNo:DkR:=⟨false,0,0,[],[]⟩
noncomputable def dkE (zs:List Int):List Int:=snE (num4 zs 0) (num4 zs 8) (dkD zs (dkN zs)) (dkU zs)
def dkYes (zs:List Int):DkR:=⟨true,num4 zs 0,num4 zs 8,dkD zs (dkN zs),dkU zs⟩
open Classical in
noncomputable def dkF (zs:List Int):DkR:=if zs.length=128∧zs.getD 6 0≤16∧dkE zs=zs then dkYes zs else dkNo
theorem dkF_yes {zs:List Int} (h1:zs.length=128) (h2:zs.getD 6 0≤16) (h3:dkE zs=zs):dkF zs=dkYes zs:=by unfold dkF;rw[if_pos ⟨h1,h2,h3⟩]
theorem dkF_len {zs:List Int} (h:zs.length≠128):dkF zs=dkNo:=by unfold dkF;rw[if_neg (fun q=>h q.1)]
theorem dkF_cnt {zs:List Int} (h:¬ zs.getD 6 0≤16):dkF zs=dkNo:=by unfold dkF;rw[if_neg (fun q=>h q.2.1)]
theorem dkF_no {zs:List Int} (h:dkE zs≠zs):dkF zs=dkNo:=by unfold dkF;rw[if_neg (fun q=>h q.2.2)]
theorem num4_u3n (zs:List Int) (h:Byte zs) (p:Nat):U32 (num4 zs p):=by
 have h0:=h.get p
 have h1:=h.get (p+1)
 have h2:=h.get (p+2)
 have h3:=h.get (p+3)
 unfold num4 U32
 omega
def DVW (lo:Nat) (w:World) (v:Value) (r:DkR):Prop:=
 ∃ aD nD cD aU nU cU,v=.agg #[.bool r.ok,.int .u32 r.g,.int .u32 r.t,.slice aD nD cD,.slice aU nU cU]∧At .i64 w aD r.D∧At .i64 w aU r.U∧r.D.length=nD∧r.U.length=nU∧Lies lo w aD∧Lies lo w aU
def DVA (lo:Nat) (w:World) (v:Value) (r:DkR):Prop:=
 ∃ aD nD cD aU nU cU,v=.agg #[.bool r.ok,.int .u32 r.g,.int .u32 r.t,.slice aD nD cD,.slice aU nU cU]∧S3 lo w aD aU none nD nU 0 r.D r.U []
def snZ:Array Value:=#[.bool false,.int .u32 0,.int .u32 0,.slice none 0 0,.slice none 0 0]
theorem DVW.no (lo:Nat) (w:World):DVW lo w (.agg snZ) dkNo:=⟨none,0,0,none,0,0,rfl,.inl rfl,.inl rfl,rfl,rfl,fun _ h=>(by cases h),fun _ h=>(by cases h)⟩
theorem DVA.no (lo:Nat) (w:World):DVA lo w (.agg snZ) dkNo:=
 ⟨none,0,0,none,0,0,rfl,.inl rfl,.inl rfl,.inl rfl,rfl,rfl,rfl,fun _ h=>(by cases h),fun _ h=>(by cases h),fun _ h=>(by cases h),fun _ _ h=>(by cases h),fun _ _ h=>(by cases h),fun _ _ h=>(by cases h)⟩
theorem DVW.below {lo:Nat} {w w':World} {v:Value} {r:DkR} (h:DVW lo w v r) (b:Below w.heap.size w w'):DVW lo w' v r:=by
 obtain⟨aD,nD,cD,aU,nU,cU,e,h1,h2,h3,h4,l1,l2⟩:=h
 exact⟨aD,nD,cD,aU,nU,cU,e,h1.below b,h2.below b,h3,h4,l1.mono (Nat.le_refl _) b.size,l2.mono (Nat.le_refl _) b.size⟩
theorem S3.of_io {lo:Nat} {w:World} {aD aU:Option Addr} {nD cD nU cU:Nat} {D U:List Int} (h1:Iow lo w (.slice aD nD cD) D) (h2:Iow lo w (.slice aU nU cU) U) (h3:Aprt aD aU):S3 lo w aD aU none nD nU 0 D U []:=by
 obtain⟨s1,n1,l1⟩:=h1.sat
 obtain⟨s2,n2,l2⟩:=h2.sat
 exact⟨s1,s2,.inl rfl,n1,n2,rfl,l1,l2,fun _ h=>(by cases h),h3,fun _ _ _ h=>(by cases h),fun _ _ _ h=>(by cases h)⟩
theorem Iow.ne {lo G:Nat} {w:World} {a:Option Addr} {n c:Nat} {xs:List Int} {cs:Array Value} {T:TypeId} {fr:Nat×Nat} (h:Iow lo w (.slice a n c) xs) (hG:w.heap[G]?=some (.cells cs T fr)) (hT:T≠2):∀ ad,a=some ad→ad.block≠G:=by
 rintro ad rfl e
 rcases h.2 with⟨h',_⟩|⟨g,cap,cur,h',hb,hh,_⟩
 ·cases h'
 ·cases h';subst e;rw[hG] at hh;simp at hh;exact hT hh.2.1
theorem Iow.keepN {lo G:Nat} {w w':World} {v:Value} {xs:List Int} {cs:Array Value} {T:TypeId} {fr:Nat×Nat} (h:Iow lo w v xs) (hG:w.heap[G]?=some (.cells cs T fr)) (hT:T≠2) (hw:Wr G w w'):Iow lo w' v xs:=by
 obtain⟨a,n,c,rfl⟩:=h.form
 refine⟨h.1,?_⟩
 have hne:=h.ne hG hT
 rcases h.2 with h'|⟨g,cap,cur,h1,h2,h3,h4⟩
 ·exact .inl h'
 ·refine .inr ⟨g,cap,cur,h1,h2,?_,h4⟩;cases h1;rw[hw.block g (hne _ rfl)];exact h3
structure DvF (L c m:Nat) (f:Int) (zs:List Int) (ps:List PD):Prop where
 hl:zs.length=L
 hm:ps.length=m
 hv:validB L ps f=true
 hc:L≤c
 bz:Byte zs
 bp:∀ i,Byte (ps.getD i (0,[])).2
theorem DvF.base {L c m:Nat} {f:Int} {zs:List Int} {ps:List PD} (h:DvF L c m f zs ps):L%64=0∧8≤L/64∧L/64≤256∧m≤1000:=by
 have:=h.hv
 unfold validB at this
 rw[Bool.and_eq_true] at this
 have h1:vBase L ps.length f:=by simpa using this.1
 unfold vBase at h1
 rw[h.hm] at h1
 exact⟨h1.1,h1.2.1,h1.2.2.1,h1.2.2.2.1⟩
theorem DvF.len {L c m:Nat} {f:Int} {zs:List Int} {ps:List PD} (h:DvF L c m f zs ps) (i:Nat) (hi:i<m):(ps.getD i (0,[])).2.length=64:=by
 have:=h.hv
 unfold validB at this
 rw[Bool.and_eq_true,List.all_eq_true] at this
 have hi':i<ps.length:=by rw[h.hm];exact hi
 have h2:=this.2 ps[i] (List.getElem_mem hi')
 have h3:pOk (L/64) ps[i]:=by simpa using h2
 rw[show ps.getD i (0,[])=ps[i] by simp[List.getD,hi']]
 exact h3.2.2
theorem findL_mem {ps:List PD} {s:Int} (k:Nat):∀ z,findL ps s k=some z→∃ i,i<k∧z=(ps.getD i (0,[])).2:=by
 induction k with
 |zero=>intro z hz;simp[findL] at hz
 |succ k ih=>
  intro z hz;unfold findL at hz;split at hz
  ·exact⟨k,Nat.lt_succ_self k,(Option.some.inj hz).symm⟩
  ·obtain⟨i,hi,e⟩:=ih z hz;exact⟨i,by omega,e⟩
theorem DvF.rd {L c m:Nat} {f:Int} {zs:List Int} {ps:List PD} (h:DvF L c m f zs ps) (s:Nat) (hs:s*64+64≤L):(rdV zs ps s).length=64∧Byte (rdV zs ps s):=by
 unfold rdV
 cases e:findL ps s ps.length with
 |none=>
  simp only[Option.getD_none];refine⟨?_,fun z hz=>h.bz z (List.mem_of_mem_drop (List.mem_of_mem_take hz))⟩;rw[List.length_take,List.length_drop,h.hl];simp;omega
 |some z=>
  simp only[Option.getD_some];obtain⟨i,hi,rfl⟩:=findL_mem _ z e;exact⟨h.len i (by rw[←h.hm];exact hi),h.bp i⟩
def slZ (zs:List Int) (ps:List PD) (i:Nat):List Int:=rdV zs ps (2*i:Nat)++rdV zs ps (2*i+1:Nat)
theorem DvF.sl {L c m:Nat} {f:Int} {zs:List Int} {ps:List PD} (h:DvF L c m f zs ps) (i:Nat) (hi:i<2):(slZ zs ps i).length=128∧Byte (slZ zs ps i):=by
 obtain⟨b1,b2,b3,b4⟩:=h.base
 obtain⟨l1,y1⟩:=h.rd (2*i) (by omega)
 obtain⟨l2,y2⟩:=h.rd (2*i+1) (by omega)
 unfold slZ
 refine⟨by rw[List.length_append,l1,l2],fun z hz=>?_⟩
 rcases List.mem_append.1 hz with q|q
 ·exact y1 z q
 ·exact y2 z q
open Classical in
noncomputable def slF (zs:List Int) (ps:List PD) (i:Nat):DkR:=if(dkF (slZ zs ps i)).ok=true∧(dkF (slZ zs ps i)).g%2=(i:Int) then dkF (slZ zs ps i) else dkNo
open Classical in
noncomputable def nwK (zs:List Int) (ps:List PD):Nat→DkR
 |0=>dkNo
 |k+1=>if(slF zs ps k).ok=true∧((nwK zs ps k).ok=false∨(nwK zs ps k).g<(slF zs ps k).g) then slF zs ps k else nwK zs ps k
set_option maxHeartbeats 400000 in
theorem numS_any (g:Nat) (t:TypeId) (p:Int) (zs:List Int) (w:World) (hr:Row w g t zs) (hz:Byte zs) (hl:zs.length=128) (hp:0≤p) (hp':p≤60) :
  Calls Tryz.prog 127 #[.pointer (some ⟨g,0,none⟩),.int .i64 p] w fun e w'=>e=.returned (.int .u32 (num4 zs p.toNat))∧Below w.heap.size w w':=by
 obtain⟨p,rfl⟩:=Int.eq_ofNat_of_zero_le hp
 have c0:=hr.cell p (by omega)
 have c1:=hr.cell (p+1) (by omega)
 have c2:=hr.cell (p+2) (by omega)
 have c3:=hr.cell (p+3) (by omega)
 have b0:=hz.get p
 have b1:=hz.get (p+1)
 have b2:=hz.get (p+2)
 have b3:=hz.get (p+3)
 have HN:Hid (num4 zs p=zs.getD p 0+256*zs.getD (p+1) 0+65536*zs.getD (p+2) 0+16777216*zs.getD (p+3) 0):=rfl
 generalize zs.getD p 0=a at *
 generalize zs.getD (p+1) 0=b at *
 generalize zs.getD (p+2) 0=c at *
 generalize zs.getD (p+3) 0=d at *
 have HB:=num_bits a b c d b0 b1 b2 b3
 have HH:Hid _:=HB
 clear HB
 obtain⟨b01,b02⟩:=b0
 obtain⟨b11,b12⟩:=b1
 obtain⟨b21,b22⟩:=b2
 obtain⟨b31,b32⟩:=b3
 go_enter Tryz.func127,Tryz.ntmps127
 go_wp2
 go_quiet (fail)
 go_wp2
 go_ret
 exact⟨ret_int (by rw[HH.out,Int.toNat_natCast,HN.out]),⟨rfl,rfl,rfl,Nat.le_refl _,fun _ _=>rfl⟩⟩
structure DNS (w:World) (zs:List Int) (k:Nat) (v:Value) (wr:World):Prop where
 own:Iow w.heap.size wr v (dkD zs k)
 below:Below w.heap.size w wr
set_option maxRecDepth 100000 in
set_option maxHeartbeats 1000000 in
theorem denied_any (g:Nat) (zs:List Int) (w:World) (hr:Row w g 124 zs) (hl:zs.length=128) (hz:Byte zs) (hn:zs.getD 6 0≤16) :
  Calls Tryz.prog 128 #[.pointer (some ⟨g,0,none⟩)] w fun e w'=>∃ v,e=.returned v∧Iow w.heap.size w' v (dkD zs (dkN zs))∧Below w.heap.size w w':=by
 have c6:=hr.cell 6 (by omega)
 have b6:=hz.get 6
 obtain⟨n,hn6⟩:∃ n:Nat,zs.getD 6 0=n:=⟨(zs.getD 6 0).toNat,by omega⟩
 have HN:Hid (dkN zs=n):=by show _=_;unfold dkN;omega
 rw[hn6] at c6 hn
 have hn':n≤16:=by omega
 have HR:Hid (Row w g 124 zs∧zs.length=128∧Byte zs):=⟨hr,hl,hz⟩
 have H0:Hid (DNS w zs 0 (.slice none 0 0) w):=⟨Iow.nil _ _,Below.refl _ _⟩
 clear hr hl hz b6 hn6 hn
 go_enter Tryz.func128,Tryz.ntmps128
 go_wp2_with fail
 clear c6
 go_loopw [3,11] (fun l i wr=>∃(k:Nat) (v:Value),k≤n∧i=.int .i64 k∧v=l∧DNS w zs k v wr) (fun _ i _=>n-(intOf i).toNat)
 case atStart=>exact⟨0,_,Nat.zero_le _,rfl,rfl,H0.out⟩
 case round=>
  clear H0;obtain⟨k,l,hk,rfl,rfl,hst⟩:=hrel;by_cases hlt:k<n
  ·have hlt':(k:Int)<n:=by omega
   have HST:Hid (DNS w zs k l wr):=hst;clear hst;go_wp2_with fail;refine(denyP_any g k _ (by omega)).mono ?_;rintro e w2 ⟨c,rfl,hw2⟩;subst w2;have hA1:dkA k+1<128:=dkA_lt (by omega);have hrw:Row wr g 124 zs:=by
    have:=HST.out.below.block g HR.out.1.lt;unfold Row;rw[this];exact HR.out.1
   have HAt:Hid (At .u8 wr (some ⟨g,dkA k,none⟩) [zs.getD (dkA k) 0,zs.getD (dkA k+1) 0]):=.inr ⟨g,dkA k,rfl,hrw.lt,fun i hi=>by
    have:i=0∨i=1:=by simp at hi;omega
    rcases this with rfl|rfl
    ·rw[Nat.add_zero,hrw.cell _ (by rw[HR.out.2.1];omega)];rfl
    ·rw[hrw.cell _ (by rw[HR.out.2.1];omega)];rfl⟩
   have HBy:Hid (Byte [zs.getD (dkA k) 0,zs.getD (dkA k+1) 0]):=byte2 (HR.out.2.2.get _) (HR.out.2.2.get _);have HV:Hid (val 256 [zs.getD (dkA k) 0,zs.getD (dkA k+1) 0]=dkS zs k):=by show _=_;unfold dkS;simp[val]
   have e8:(if k<8 then 44+2*k else 56+2*k)=dkA k:=rfl;rw[e8];generalize dkA k=A at *;generalize zs.getD A 0=x at *;generalize zs.getD (A+1) 0=y at *;clear e8 hA1 hrw;go_wp2_with fail;refine(le_any (some ⟨g,A,none⟩) 2 c [x,y] _ rfl (by decide) HAt.out HBy.out).mono ?_;rintro e w3 ⟨rfl,hw3⟩;subst w3;generalize val 256 [x,y]=s at *;have HNX:Hid (dkD zs (k+1)=dkD zs k++[s]):=by show _=_;rw[dkD_succ,HV.out]
   have HL:Hid ((dkD zs k).length≤1048576):=by show _≤_;rw[dkD_len];omega
   have HO:Hid (Iow w.heap.size (wr.alloc (.cells #[.int .i64 s] 2)) l (dkD zs k)):=HST.out.own.alloc _;have HZ:Hid (w.heap.size≤(wr.alloc (.cells #[.int .i64 s] 2)).heap.size):=by
    show _≤_
    have:=HST.out.below.size;simp;omega
   clear HAt HBy HV;go_wp2_with (first
    |(refine wpList_app1 _ rfl (.tmp 14) (.tmp 19) rfl w.heap.size _ (dkD zs k) rfl HO.out wr s rfl rfl HL.out HZ.out ?_)
    |fail)
   intro v' w3 h1 h2;have HF:Hid (DNS w zs (k+1) v' w3):=⟨by rw[HNX.out];exact h1,(HST.out.below.alloc HST.out.below.size _).trans h2⟩
   clear h1 h2 HO HZ HL;go_wp2;go_roundw
   case rel=>exact⟨k+1,_,by omega,by go_num,rfl,HF.out⟩
   case measure=>simp[intOf];omega
  ·have hke:k=n:=by omega
   subst hke;have HF:Hid (∃ v,Ending.returned l=.returned v∧Iow w.heap.size wr v (dkD zs (dkN zs))∧Below w.heap.size w wr):=⟨l,rfl,by rw[HN.out];exact hst.own,hst.below⟩
   clear hst;go_wp2
   go_ret
   exact HF.out
set_option maxRecDepth 100000 in
set_option maxHeartbeats 2000000 in
theorem used_any (g:Nat) (zs:List Int) (w:World) (hr:Row w g 124 zs) (hl:zs.length=128) (hz:Byte zs) :
  Calls Tryz.prog 129 #[.pointer (some ⟨g,0,none⟩)] w fun e w'=>∃ v,e=.returned v∧Iow w.heap.size w' v (dkU zs)∧Below w.heap.size w w':=by
 have HR:Hid (Row w g 124 zs∧zs.length=128∧Byte zs):=⟨hr,hl,hz⟩
 have HX0:Hid (Below w.heap.size w (w.alloc (.cells #[.int .u8 0,.int .u8 0,.int .u8 0,.int .u8 0,.int .u8 0,.int .u8 0,.int .u8 0,.int .u8 0,.int .u8 0,.int .u8 0,.int .u8 0,.int .u8 0,.int .u8 0,.int .u8 0,.int .u8 0,.int .u8 0,.int .u8 0,.int .u8 0,.int .u8 0,.int .u8 0,.int .u8 0,.int .u8 0,.int .u8 0,.int .u8 0,.int .u8 0,.int .u8 0,.int .u8 0,.int .u8 0,.int .u8 0,.int .u8 0,.int .u8 0,.int .u8 0] 75))∧Row (w.alloc (.cells #[.int .u8 0,.int .u8 0,.int .u8 0,.int .u8 0,.int .u8 0,.int .u8 0,.int .u8 0,.int .u8 0,.int .u8 0,.int .u8 0,.int .u8 0,.int .u8 0,.int .u8 0,.int .u8 0,.int .u8 0,.int .u8 0,.int .u8 0,.int .u8 0,.int .u8 0,.int .u8 0,.int .u8 0,.int .u8 0,.int .u8 0,.int .u8 0,.int .u8 0,.int .u8 0,.int .u8 0,.int .u8 0,.int .u8 0,.int .u8 0,.int .u8 0,.int .u8 0] 75)) g 124 zs∧(w.alloc (.cells #[.int .u8 0,.int .u8 0,.int .u8 0,.int .u8 0,.int .u8 0,.int .u8 0,.int .u8 0,.int .u8 0,.int .u8 0,.int .u8 0,.int .u8 0,.int .u8 0,.int .u8 0,.int .u8 0,.int .u8 0,.int .u8 0,.int .u8 0,.int .u8 0,.int .u8 0,.int .u8 0,.int .u8 0,.int .u8 0,.int .u8 0,.int .u8 0,.int .u8 0,.int .u8 0,.int .u8 0,.int .u8 0,.int .u8 0,.int .u8 0,.int .u8 0,.int .u8 0] 75)).heap[w.heap.size]?=some (.cells #[.int .u8 0,.int .u8 0,.int .u8 0,.int .u8 0,.int .u8 0,.int .u8 0,.int .u8 0,.int .u8 0,.int .u8 0,.int .u8 0,.int .u8 0,.int .u8 0,.int .u8 0,.int .u8 0,.int .u8 0,.int .u8 0,.int .u8 0,.int .u8 0,.int .u8 0,.int .u8 0,.int .u8 0,.int .u8 0,.int .u8 0,.int .u8 0,.int .u8 0,.int .u8 0,.int .u8 0,.int .u8 0,.int .u8 0,.int .u8 0,.int .u8 0,.int .u8 0] 75 (0,0))):=⟨below_new w _,by unfold Row;rw[(below_new w _).block g hr.lt];exact hr,heap_alloc_new w _⟩
 clear hr hl hz
 go_enter Tryz.func129,Tryz.ntmps129
 go_wp2_with fail
 generalize (w.alloc (.cells #[.int .u8 0,.int .u8 0,.int .u8 0,.int .u8 0,.int .u8 0,.int .u8 0,.int .u8 0,.int .u8 0,.int .u8 0,.int .u8 0,.int .u8 0,.int .u8 0,.int .u8 0,.int .u8 0,.int .u8 0,.int .u8 0,.int .u8 0,.int .u8 0,.int .u8 0,.int .u8 0,.int .u8 0,.int .u8 0,.int .u8 0,.int .u8 0,.int .u8 0,.int .u8 0,.int .u8 0,.int .u8 0,.int .u8 0,.int .u8 0,.int .u8 0,.int .u8 0] 75))=w0 at *
 refine wp_region_any (by kernel_rfl) ?_
 refine wpAny_slotsU (fun _ _ _=>True) (frame:=(fun (a b c d e:Value)=>fun (t:Nat→Value)=>({ tmps:=List.toArray [a,b,c,d,t 0,t 1,t 2,t 3,t 4,t 5,e],defers:=[] }:Act)) _ _ _ _ _)
  (Ext:=fun L u w'=>if L 5=true then Below w.heap.size w w'∧Row w' w.heap.size 75 (dkM zs) else Below w.heap.size w w'∧Row w' g 124 zs∧w'.heap[w.heap.size]?=some (.cells #[.int .u8 0,.int .u8 0,.int .u8 0,.int .u8 0,.int .u8 0,.int .u8 0,.int .u8 0,.int .u8 0,.int .u8 0,.int .u8 0,.int .u8 0,.int .u8 0,.int .u8 0,.int .u8 0,.int .u8 0,.int .u8 0,.int .u8 0,.int .u8 0,.int .u8 0,.int .u8 0,.int .u8 0,.int .u8 0,.int .u8 0,.int .u8 0,.int .u8 0,.int .u8 0,.int .u8 0,.int .u8 0,.int .u8 0,.int .u8 0,.int .u8 0,.int .u8 0] 75 (0,0))) (Good:=fun i L w' v=>if i=0 then v=.slice (some ⟨w.heap.size,0,none⟩) 32 32 else if i=1 then v=.pointer (some ⟨g,0,none⟩) else if i=2 then v=.pointer (some ⟨g,0,none⟩) else if i=3 then v=.pointer (some ⟨g,0,none⟩) else if i=4 then v=.slice (some ⟨g,12,none⟩) 52 52 else if i=5 then L 5=true else True) ?hstab (by kernel_rfl) ?hop ?hdone _ _ ((fun (x0 x1 x2 x3 x4 x5:Value)=>fun (i:Nat)=>if i=0 then x0 else if i=1 then x1 else if i=2 then x2 else if i=3 then x3 else if i=4 then x4 else if i=5 then x5 else undef) _ _ _ _ _ _) _ (by simp) ?ext ?start (by simp)
 case start=>intro i hi h;exact absurd h (by rw[Array.getD_eq_getD_getElem?,Array.getElem?_replicate];split<;>simp)
 case ext=>
  rw[if_neg (by show ¬ (Array.getD _ _ _=true);rw[Array.getD_eq_getD_getElem?,Array.getElem?_replicate];split<;>simp)];exact⟨HX0.out.1.drew,HX0.out.2.1,HX0.out.2.2⟩
 case hstab=>
  intro j L w9 w' i v hM hij hLi h;by_cases hl:j=5
  ·subst hl;simp at h ⊢;unfold updK;simp[h]
  ·simp only[if_neg hl] at h ⊢;exact h
 case hop=>
  intro i o L t w' ho hLi hx hdep K hK;have hi:i<6:=(Array.getElem?_eq_some_iff.1 ho).1;obtain rfl|rfl|rfl|rfl|rfl|rfl:i=0∨i=1∨i=2∨i=3∨i=4∨i=5:=by omega
  all_goals(simp at ho;subst ho)
  ·clear hdep;have hK':=hK w' (.slice (some ⟨w.heap.size,0,none⟩) 32 32) (by simp) (by simpa[updK] using hx) trivial;clear hK;rw[if_pos (by rfl)];go_simp;simpa[upd] using hK'
  ·clear hdep;have hK':=hK w' (.pointer (some ⟨g,0,none⟩)) (by simp) (by simpa[updK] using hx) trivial;clear hK;rw[if_pos (by rfl)];go_simp;simpa[upd] using hK'
  ·have d1:t 1=.pointer (some ⟨g,0,none⟩):=by simpa using(hdep ⟨1,.data⟩ (by simp) rfl).2
   clear hdep;have hK':=hK w' (.pointer (some ⟨g,0,none⟩)) (by simp) (by simpa[updK] using hx) trivial;clear hK;rw[if_pos (by rfl)];go_simp;simpa[upd,d1] using hK'
  ·have d2:t 2=.pointer (some ⟨g,0,none⟩):=by simpa using(hdep ⟨2,.data⟩ (by simp) rfl).2
   clear hdep;have hK':=hK w' (.pointer (some ⟨g,0,none⟩)) (by simp) (by simpa[updK] using hx) trivial;clear hK;rw[if_pos (by rfl)];go_simp;simpa[upd,d2] using hK'
  ·have d3:t 3=.pointer (some ⟨g,0,none⟩):=by simpa using(hdep ⟨3,.data⟩ (by simp) rfl).2
   clear hdep;have hK':=hK w' (.slice (some ⟨g,12,none⟩) 52 52) (by simp) (by simpa[updK] using hx) trivial;clear hK;rw[if_pos (by rfl)];go_simp;simpa[upd,d3] using hK'
  ·have d0:t 0=.slice (some ⟨w.heap.size,0,none⟩) 32 32:=by simpa using(hdep ⟨0,.data⟩ (by simp) rfl).2
   have d4:t 4=.slice (some ⟨g,12,none⟩) 52 52:=by simpa using(hdep ⟨4,.data⟩ (by simp) rfl).2
   clear hdep;rw[hLi,if_neg (by decide)] at hx;rw[if_pos (by rfl)];refine wp_copyG (.tmp 4) (.tmp 8) rfl (some ⟨w.heap.size,0,none⟩) (some ⟨g,12,none⟩) (w.heap.size) 0 32 32 52 52 d0 d4 _ 75 hx.2.2 (dkM zs) (by rw[dkM_len HR.out.2.1];rfl) (fun _=>⟨rfl,_,rfl,fun j hj=>?_⟩) (by rw[dkM_len HR.out.2.1];decide) ?_
   ·rw[dkM_len HR.out.2.1] at hj;rw[Addr.add_lit,Row.cell hx.2.1 (12+j) (by rw[HR.out.2.1];omega),dkM_get HR.out.2.1 j hj]
   ·intro w2 h2 hw2;have hrow:Row w2 w.heap.size 75 (dkM zs):=by
     unfold Row;rw[h2];simp[dkM_len HR.out.2.1]
    exact hK w2 _ (by simp[updK]) (by rw[if_pos (by simp[updK])];exact⟨hx.1.trans (hw2.below (Nat.le_refl _)),hrow⟩) trivial
 case hdone=>
  intro L t w2 hx hg;have hlast:L 5=true:=by simpa using hg 5 (by decide)
  rw[if_pos hlast] at hx;clear hg hlast;have HX:=hid_of hx;clear hx HX0;have hbt:∀ w',Below w2.heap.size w2 w'→BAt w' w.heap.size 0 (dkM zs):=fun w' b=>by
   have hr':Row w' w.heap.size 75 (dkM zs):=by unfold Row;rw[b.block _ (Row.lt HX.out.2)];exact HX.out.2
   refine⟨dkM_len HR.out.2.1,dkM_byte HR.out.2.2,fun i hi=>?_⟩;rw[Nat.zero_add];exact⟨hr'.cell i (by rw[dkM_len HR.out.2.1];exact hi),hr'.frozen i⟩
  have A:=hid_of (list_any w.heap.size 0 (dkM zs) (dkP zs) w2 hbt (dkM_set HR.out.2.1 HR.out.2.2));clear hbt;go_wp2_with fail;refine A.out.mono ?_;rintro e w3 ⟨v,rfl,hio,hb3⟩;have HF:Hid (Iow w.heap.size w3 v (dkU zs)∧Below w.heap.size w w3):=⟨Iow.mono hio HX.out.1.size,HX.out.1.trans (hb3.mono HX.out.1.size)⟩
  clear hio hb3 A HX;go_wp2
  go_ret
  exact⟨_,rfl,HF.out⟩
theorem part_u8 (w:World) (xs:List Int) (i:Nat) (hi:i<xs.length):(part 5 (xs.map (Value.int .u8)).toArray i).run Tryz.prog w=.ok (.int .u8 (xs.getD i 0)) w:=by
 have hagg:(isAgg 5).run Tryz.prog w=.ok false w:=by
  unfold isAgg;rw[Sem.run_bind,run_underlying Tryz.underlying5 w];rfl
 simp[part,hagg,hi]
theorem sizeU8 (w:World):(sizeOf 5).run Tryz.prog w=.ok 1 w:=by
 have h:(Tryz.prog.info? 5).map (·.size)=some 1:=by kernel_rfl
 cases hq:Tryz.prog.info? 5 with
 |none=>simp[hq] at h
 |some i=>
  have hs:i.size=1:=by simpa[hq] using h
  simp[sizeOf,typeInfo,hq,hs]
theorem run_eqArr (w:World) (d:Nat) (xs ys:List Int) (hx:xs.length=64) (hy:ys.length=64) :
  (Op.equalIn (d+2) 122 (.agg (xs.map (Value.int .u8)).toArray) (.agg (ys.map (Value.int .u8)).toArray)).run Tryz.prog w=.ok (decide (xs=ys)) w:=by
 have key:decide (xs=ys)=(List.range' 0 64).all (fun i=>xs.getD i 0 == ys.getD i 0):=by
  rw[Bool.eq_iff_iff];simp only[decide_eq_true_eq,List.all_eq_true,List.mem_range',beq_iff_eq];constructor
  ·rintro rfl _ _;rfl
  ·intro h;apply List.ext_getElem (by omega);intro i h1 h2;have:=h i ⟨i,by omega,by omega⟩;simpa[h1,h2] using this
 rw[key]
 unfold Op.equalIn
 simp only[Sem.run_bind,run_underlying Tryz.underlying122,Result.andThen_ok,sizeU8,Nat.mul_one,Std.Legacy.Range.forIn_eq_forIn_range',Std.Legacy.Range.size,Nat.sub_zero,Nat.add_sub_cancel,Nat.div_one]
 have hl:∀ i∈List.range' 0 64,i<64:=fun i hi=>by rw[List.mem_range'] at hi;obtain⟨j,_,rfl⟩:=hi;omega
 revert hl
 generalize List.range' 0 64=l
 intro hl
 induction l with
 |nil=>simp
 |cons i l ih=>
  have hi:=hl i (List.mem_cons_self ..);have ih':=ih (fun j hj=>hl j (List.mem_cons_of_mem _ hj));simp only[List.forIn_cons,Sem.run_bind,part_u8 w xs i (by omega),part_u8 w ys i (by omega),Result.andThen_ok,run_equalIn_int w d 5 .u8 .u8 _ _ Tryz.underlying5,List.all_cons];cases hb:(xs.getD i 0 == ys.getD i 0)
  ·simp
  ·simp only[Bool.not_true,Bool.false_eq_true,if_false,Sem.run_pure,Result.andThen_ok,Bool.true_and];exact ih'
theorem run_neqGuard (w:World) (x y:Operand) (xs ys:Array Value):(eqGuard .neq 122 x y (.agg xs) (.agg ys)).run Tryz.prog w=.ok () w:=
 run_eqGuard_agg w .neq 122 x y xs ys (by kernel_rfl)
theorem sizeSecR (w:World):(sizeOf 122).run Tryz.prog w=.ok 64 w:=by
 have h:(Tryz.prog.info? 122).map (·.size)=some 64:=by kernel_rfl
 cases hq:Tryz.prog.info? 122 with
 |none=>simp[hq] at h
 |some i=>
  have hs:i.size=64:=by simpa[hq] using h
  simp[sizeOf,typeInfo,hq,hs]
theorem part_sec (w:World) (xs:List Int) (a:Nat):(part 122 (xs.map (Value.int .u8)).toArray a).run Tryz.prog w=.ok (.agg (((xs.drop a).take 64).map (Value.int .u8)).toArray) w:=by
 have hagg:(isAgg 122).run Tryz.prog w=.ok true w:=by
  unfold isAgg;rw[Sem.run_bind,run_underlying Tryz.underlying122 w];rfl
 have he:(xs.map (Value.int .u8)).toArray.extract a (a+64)=(((xs.drop a).take 64).map (Value.int .u8)).toArray:=by
  rw[List.extract_toArray,List.extract_eq_take_drop,Nat.add_sub_cancel_left,List.map_take,List.map_drop]
 simp[part,hagg]
theorem eq_two (w:World) (d:Nat) (X Y:Array Value) (X0 Y0 X1 Y1:Value) (c0 c1:Bool)
  (p0:(part 122 X 0).run Tryz.prog w=.ok X0 w) (q0:(part 122 Y 0).run Tryz.prog w=.ok Y0 w) (p1:(part 122 X 64).run Tryz.prog w=.ok X1 w) (q1:(part 122 Y 64).run Tryz.prog w=.ok Y1 w)
  (e0:(Op.equalIn (d+2) 122 X0 Y0).run Tryz.prog w=.ok c0 w) (e1:(Op.equalIn (d+2) 122 X1 Y1).run Tryz.prog w=.ok c1 w) :
  (Op.equalIn (d+3) 124 (.agg X) (.agg Y)).run Tryz.prog w=.ok (c0 && c1) w:=by
 unfold Op.equalIn
 simp only[Sem.run_bind,run_underlying Tryz.underlying124,Result.andThen_ok,sizeSecR,Std.Legacy.Range.forIn_eq_forIn_range',Std.Legacy.Range.size,Nat.sub_zero,Nat.add_sub_cancel,Nat.div_one]
 rw[show List.range' 0 2=[0,1] from rfl,List.forIn_cons]
 simp only[Sem.run_bind,Nat.zero_mul,p0,q0,Result.andThen_ok,e0]
 cases c0
 ·simp only[Bool.not_false,if_true,Sem.run_pure,Result.andThen_ok,Bool.false_and]
 ·simp only[Bool.not_true,Bool.false_eq_true,if_false,Sem.run_pure,Result.andThen_ok,Bool.true_and];rw[List.forIn_cons];simp only[Sem.run_bind,Nat.one_mul,p1,q1,Result.andThen_ok,e1];cases c1
  ·simp only[Bool.not_false,if_true,Sem.run_pure,Result.andThen_ok]
  ·simp only[Bool.not_true,Bool.false_eq_true,if_false,Sem.run_pure,Result.andThen_ok,List.forIn_nil]
theorem slot_key (xs ys:List Int) (hx:xs.length=128) (hy:ys.length=128):decide (xs=ys)=(decide (xs.take 64=ys.take 64) && decide ((xs.drop 64).take 64=(ys.drop 64).take 64)):=by
 have hx1:(xs.drop 64).take 64=xs.drop 64:=List.take_of_length_le (by simp;omega)
 have hy1:(ys.drop 64).take 64=ys.drop 64:=List.take_of_length_le (by simp;omega)
 rw[hx1,hy1,Bool.eq_iff_iff]
 simp only[decide_eq_true_eq,Bool.and_eq_true]
 constructor
 ·rintro rfl;exact⟨rfl,rfl⟩
 ·rintro⟨h1,h2⟩;rw[←List.take_append_drop 64 xs,←List.take_append_drop 64 ys,h1,h2]
theorem run_eqSlot (w:World) (d:Nat) (xs ys:List Int) (hx:xs.length=128) (hy:ys.length=128) :
  (Op.equalIn (d+3) 124 (.agg (xs.map (Value.int .u8)).toArray) (.agg (ys.map (Value.int .u8)).toArray)).run Tryz.prog w=.ok (decide (xs=ys)) w:=by
 rw[slot_key xs ys hx hy]
 exact eq_two w d _ _ _ _ _ _ _ _ (part_sec w xs 0) (part_sec w ys 0) (part_sec w xs 64) (part_sec w ys 64) (run_eqArr w d (xs.take 64) (ys.take 64) (by simp;omega) (by simp;omega)) (run_eqArr w d ((xs.drop 64).take 64) ((ys.drop 64).take 64) (by simp;omega) (by simp;omega))
end Go.Proofs.YthmeoilbmfdhfaaGreat
