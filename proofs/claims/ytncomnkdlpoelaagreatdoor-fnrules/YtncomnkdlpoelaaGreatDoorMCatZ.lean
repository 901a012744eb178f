import Derived.Test.YtncomnkdlpoelaaGreatDoorMBase
import Derived.Test.YtncomnkdlpoelaaGreatDoorMReg
import Derived.BigRegion
import Derived.BigQuiet
import Derived.Deep.QuietTactic
import Derived.Deep.MidRow
import Derived.Deep.Cut
import Derived.Laws.CopyOwn
import Derived.Deep.WholeRow
import Derived.Maps.AppendAt
namespace Go.Proofs.YtncomnkdlpoelaaGreatDoor
open Go.ChangeShapes Go.WideShapes Go.ChangeAt Go.RowKit
set_option linter.unusedVariables false
set_option maxHeartbeats 400000 in
theorem zeros_any (n:Int) (w:World) (h0:0≤n) (h1:n≤1048576) :
  Calls Tryz.prog 65 #[.int .i64 n] w fun e w'=>∃ v,e=.returned v∧Own w' w.heap.size v (List.replicate n.toNat 0)∧Below w.heap.size w w':=by
 obtain⟨n,rfl⟩:=Int.eq_ofNat_of_zero_le h0;go_enter Tryz.func65,Tryz.ntmps65;go_wp2
 go_loopw [3,4] (fun v i wr=>∃ k:Nat,k≤n∧i=.int .i64 k∧Own wr w.heap.size v (List.replicate k 0)∧Below w.heap.size w wr) (fun _ i _=>n-(intOf i).toNat)
 case atStart=>exact⟨0,Nat.zero_le _,rfl,Own.empty _ _ (Nat.le_refl _),(Below.refl _ _).alloc (Nat.le_refl _) _⟩
 case round=>
  obtain⟨k,hk,rfl,hown,hbel⟩:=hrel;by_cases hlt:k<n
  ·have hsz:=hbel.size;go_wp2_with (at_builtin;refine wpList_app _ rfl _ _ rfl w.heap.size _ _ rfl (hown.alloc _) ⟨wr.heap.size,0,none⟩ 1 1 [0] rfl rfl ?c1 ?c2 ?c3 ?_)
   case c1=>intro j hj;obtain rfl:j=0:=by omega
            simp[Addr.add]
   case c2=>simp;omega
   case c3=>simp;omega
   intro v' w1 hown' hbel' _;have HO:Hid (Own w1 w.heap.size v' (List.replicate (k+1) 0)):=by rw[List.replicate_succ'];exact hown'
   have HB:Hid (Below w.heap.size w w1):=(hbel.alloc (by omega) _).trans hbel';clear hown hown' hbel hbel';go_wp2;go_roundw
   case rel=>exact⟨k+1,by omega,by go_num,HO.out,HB.out⟩
   case measure=>simp[intOf];omega
  ·have hkn:k=n:=by omega
   subst hkn;have HO:Hid _:=hown;clear hown;go_wp2
   go_ret
   exact⟨_,rfl,HO.out,hbel⟩
def lB:List Int:=[0xed,0xd3,0xf5,0x5c,0x1a,0x63,0x12,0x58,0xd6,0x9c,0xf7,0xa2,0xde,0xf9,0xde,0x14,0,0,0,0,0,0,0,0,0,0,0,0,0,0,0,0x10]
def bigL:Int:=7237005577332262213973186563042994240857116359379907606001950938285454250989
theorem lB_val:val 256 lB=bigL:=by decide
theorem lB_byte:Byte lB:=by unfold Byte lB;decide
theorem Own.lit (w:World) (B:Nat) (zs:List Int) (hB:B≤w.heap.size) (hl:zs.length≤1024):Own (w.alloc (.cells (zs.map (Value.int .u8)).toArray 5)) B (.slice (some ⟨w.heap.size,0,none⟩) zs.length zs.length) zs:=
 ⟨by
  have:=World.ownsRow_lit w (e:=5) (size:=1) (base:=B) (zs.map (Value.int .u8)).toArray zs.length hB (by unfold maxLen;omega) (by simp);exact this,_,_,rfl⟩
set_option maxHeartbeats 400000 in
theorem l4L_any (w:World) :
  Calls Tryz.prog 96 #[] w fun e w'=>∃ v,e=.returned v∧Own w' w.heap.size v lB∧Below w.heap.size w w':=by
 have HO:=Own.lit w w.heap.size lB (Nat.le_refl _) (by decide);go_enter Tryz.func96,Tryz.ntmps96;go_wp2
 go_ret
 exact⟨_,rfl,HO,(Below.refl _ _).alloc (Nat.le_refl _) _⟩
def LessPost (w:World) (xs ys:List Int) (e:Ending) (w':World):Prop:=
 ∃ v zs,e=.returned (.tuple #[v,.bool (decide (val 256 ys≤val 256 xs))])∧Own w' w.heap.size v zs∧Byte zs∧zs.length=xs.length∧(val 256 ys≤val 256 xs→val 256 zs=val 256 xs-val 256 ys)∧Below w.heap.size w w'
theorem less_step (p q z P x y b x' b':Int) (h:p-q=z-b*P) (hx:x'-b'*256=x-y-b):(p+x*P)-(q+y*P)=(z+x'*P)-b'*(P*256):=by
 have:(x'-b'*256)*P=(x-y-b)*P:=by rw[hx]
 grind
theorem less_end (p q z P b:Int) (h:p-q=z-b*P) (hz:0≤z) (hz':z<P) (hb:b=0∨b=1):(b == 0)=decide (q≤p)∧(q≤p→z=p-q):=by
 rcases hb with rfl|rfl
 ·have:q≤p:=by omega
  simp[this];omega
 ·have:¬ q≤p:=by omega
  simp[this]
set_option maxHeartbeats 400000 in
theorem lessS_any (a a':Option Addr) (n cap cap':Nat) (xs ys:List Int) (w:World) (hn:xs.length=n) (hn':ys.length=n) (hm:n≤1048576) (ha:At .u8 w a xs) (ha':At .u8 w a' ys) (hx:Byte xs) (hy:Byte ys) :
  Calls Tryz.prog 95 #[.slice a n cap,.slice a' n cap'] w (LessPost w xs ys):=by
 go_enter Tryz.func95,Tryz.ntmps95;go_wp2
 go_loopw [6,7,8] (fun v c i wr=>∃(k:Nat) (zs:List Int) (b:Int),k≤n∧i=.int .i64 k∧c=.int .i64 b∧(b=0∨b=1)∧zs.length=k∧Byte zs∧val 256 (xs.take k)-val 256 (ys.take k)=val 256 zs-b*256^k∧Own wr w.heap.size v zs∧Below w.heap.size w wr) (fun _ _ i _=>n-(intOf i).toNat)
 case atStart=>exact⟨0,[],0,Nat.zero_le _,rfl,rfl,.inl rfl,rfl,by simp[Byte],by simp[val],Own.empty _ _ (Nat.le_refl _),(Below.refl _ _).alloc (Nat.le_refl _) _⟩
 case round=>
  obtain⟨k,zs,b,hk,rfl,rfl,hb,hzl,hzb,hv,hown,hbel⟩:=hrel;by_cases hlt:k<n
  ·have hsz:=hbel.size;have vx:=val_take 256 xs k (by omega);have vy:=val_take 256 ys k (by omega);obtain⟨b0,off,rfl,hb0,hc⟩:=(ha.below hbel).get (by omega);obtain⟨b1,off',rfl,hb1,hc'⟩:=(ha'.below hbel).get (by omega);have c0:=hc k (by omega);have c1:=hc' k (by omega);have hx0:=hx.get k;have hy0:=hy.get k;obtain⟨x',b',hb',hx0',hx1',hx2⟩:∃ x' b':Int,(b'=0∨b'=1)∧0≤x'∧x'<256∧x'-b'*256=xs.getD k 0-ys.getD k 0-b:=by
    by_cases h:xs.getD k 0-ys.getD k 0-b<0
    ·exact⟨xs.getD k 0-ys.getD k 0-b+256,1,.inr rfl,by omega,by omega,by omega⟩
    ·exact⟨xs.getD k 0-ys.getD k 0-b,0,.inl rfl,by omega,by omega,by omega⟩
   have hstep:=less_step _ _ _ _ _ _ _ _ _ hv hx2;rw[←vx,←vy,show(256:Int)^k*256=256^(k+1) from(Int.pow_succ _ _).symm,←hzl,←val_snoc,hzl] at hstep;have HS:Hid _:=hstep;have HBy:=hdI <| Dig.snoc (B:=256) hzb hx0' hx1'
   have HZL:=hdI <| hzl
   clear hstep hv vx vy hc hc' ha ha' hx hy hzb hzl;generalize xs.getD k 0=x at *;generalize ys.getD k 0=y at *;obtain⟨hx0,hx1⟩:=hx0;obtain⟨hy0,hy1⟩:=hy0;have hlt':(k:Int)<(n:Int):=by omega
   go_wp2
   go_quiet (fail)
   have O2:Own (wr.drewN nq) w.heap.size u6 zs:=hown;have B2:Below w.heap.size w (wr.drewN nq):=⟨hbel.os,hbel.tape,hbel.output,hbel.size,hbel.block⟩
   have Z2:w.heap.size≤(wr.drewN nq).heap.size:=hsz;clear hown hbel hsz c0 c1 hb0 hb1;generalize wr.drewN nq=w2 at *;have ht0:-257<x-y-b:=by omega
   have ht1:x-y-b<256:=by omega
   generalize x-y-b=t at *;by_cases hneg:t<0
   ·obtain rfl:b'=1:=by omega
    obtain rfl:x'=t+256:=by omega
    clear hx2 hb hb';go_wp2_with (at_builtin;refine wpList_app _ rfl _ _ rfl w.heap.size _ _ rfl (O2.alloc _) ⟨w2.heap.size,0,none⟩ 1 1 [t+256] rfl rfl ?c1 ?c2 ?c3 ?_);all_goals first|(intro j hj;obtain rfl:j=0:=by omega
                                                                                                                                                                                         simp[Addr.add];done)|skip
    case c2=>rw[HZL.out];omega
    case c3=>first|omega|(rw[World.size_alloc];omega)
    intro v' w3 hown' hbel' _;have HO:Hid (Own w3 w.heap.size v' (zs++[t+256])):=hown';have HB:Hid (Below w.heap.size w w3):=(B2.alloc (by omega) _).trans hbel';clear O2 hown' B2 hbel';go_wp2;go_roundw
    case rel=>exact⟨k+1,zs++[t+256],1,by omega,by go_num,rfl,.inr rfl,by rw[List.length_append,HZL.out];rfl,HBy.out,HS.out,HO.out,HB.out⟩
    case measure=>simp[intOf];omega
   ·obtain rfl:b'=0:=by omega
    obtain rfl:x'=t:=by omega
    have hneg':decide (x'<0)=false:=by simpa using hneg
    clear hx2 hb hb' hneg';go_wp2_with (at_builtin;(refine wpList_app _ rfl _ _ rfl w.heap.size _ _ rfl (O2.alloc _) ⟨w2.heap.size,0,none⟩ 1 1 [x'] rfl rfl ?d1 ?d2 ?d3 ?_));all_goals first|(intro j hj;obtain rfl:j=0:=by omega
                                                                                                                                                                                              simp[Addr.add];done)|skip
    case d2=>rw[HZL.out];omega
    case d3=>first|omega|(rw[World.size_alloc];omega)
    intro v' w3 hown' hbel' _;have HO:=hdI <| hown'
    have HB:=hdI <| (B2.alloc (by omega) _).trans hbel'
    clear O2 hown' B2 hbel';go_wp2;go_roundw
    case rel=>exact⟨k+1,zs++[x'],0,by omega,by go_num,rfl,.inl rfl,by rw[List.length_append,HZL.out];rfl,HBy.out,HS.out,HO.out,HB.out⟩
    case measure=>simp[intOf];omega
  ·rw[List.take_of_length_le (by omega),List.take_of_length_le (by omega)] at hv;have z0:=val_nonneg (by decide) hzb;have z1:val 256 zs<256^k:=by rw[←hzl];exact val_lt (by decide) hzb
   obtain⟨e1,e2⟩:=less_end _ _ _ _ _ hv z0 z1 hb;have H1:=hdI <| e1
   have H2:=hdI <| e2
   have H3:=hdI <| hown
   have HZL:Hid (zs.length=xs.length):=by rw[hzl];show k=xs.length;omega
   clear e1 e2 z0 z1 hv hown hzl;go_wp2;refine bodyPost_ret (v:=.tuple #[u6,.bool (b == 0)]) (by simp[results,Tryz.results95,go_sem]) rfl ⟨u6,zs,by rw[H1.out],H3.out,hzb,HZL.out,H2.out,hbel⟩
def chf (e f q:Int):Int:=bits .xor .u64 (bits .and .u64 e f) (bits .and .u64 (bits .xor .u64 IntKind.u64.max e) q)
def maj (a b c:Int):Int:=bits .xor .u64 (bits .xor .u64 (bits .and .u64 a b) (bits .and .u64 a c)) (bits .and .u64 b c)
def rt1 (a b c d e f q z x:Int):Int:=IntKind.u64.wrap (IntKind.u64.wrap (IntKind.u64.wrap (z+bg1 e)+chf e f q)+x)
def rt2 (a b c:Int):Int:=IntKind.u64.wrap (bg0 a+maj a b c)
theorem Tryz.sizeU64:(Tryz.prog.info? 135).map (·.size)=some 1:=by kernel_rfl
theorem wp_copy7 {w:World} {o:Oper} {ac:Act} {K:Act→World→Prop} {Q:Exit→Act→World→Prop} (dd ss:Operand)
  (ho:o.op=.call { callee:=.builtin .copy,args:=#[dd,ss],argTypes:=#[134,134] }) (g:Nat) (ty:TypeId) (a b c d e f q z:Int)
  (hd:ac.eval dd=.slice (some ⟨g,1,none⟩) 7 7) (hs:ac.eval ss=.slice (some ⟨g,0,none⟩) 7 8) (hg:w.heap[g]?=some (.cells #[.int .u64 a,.int .u64 b,.int .u64 c,.int .u64 d,.int .u64 e,.int .u64 f,.int .u64 q,.int .u64 z] ty (0,0)))
  (h:∀ w',w'.heap[g]?=some (.cells #[.int .u64 a,.int .u64 a,.int .u64 b,.int .u64 c,.int .u64 d,.int .u64 e,.int .u64 f,.int .u64 q] ty (0,0))→Wr g w w'→K (ac.put o.dst (goInt 7)) w'):o.wp Tryz.prog ac w K Q:=by
 have hrun:=run_copy_row (P:=Tryz.prog) w 134 134 o.type 135 g 1 7 7 ⟨g,0,none⟩ 7 8 #[.int .u64 a,.int .u64 b,.int .u64 c,.int .u64 d,.int .u64 e,.int .u64 f,.int .u64 q,.int .u64 z] ty [.int .u64 a,.int .u64 b,.int .u64 c,.int .u64 d,.int .u64 e,.int .u64 f,.int .u64 q] Tryz.underlying134 Tryz.sizeU64 hg rfl (fun j v hv=>by
  have hj:j<7:=by have:=(List.getElem?_eq_some_iff.1 hv).1;simpa using this
  rw[Addr.add_lit,cell_of_row _ _ _ _ _ _ hg,Nat.zero_add];have:j=0∨j=1∨j=2∨j=3∨j=4∨j=5∨j=6:=by omega
  rcases this with rfl|rfl|rfl|rfl|rfl|rfl|rfl<;>simpa using hv) (by simp) (by simp[Value.oneCell'])
 unfold Oper.wp;simp[execOp,ho,resolve,invoke,builtin,hd,hs,hrun,Result.andThen];exact h _ (by rw[setRow_heap _ _ _ _ _ _ hg]) (Wr.setRow _ _ _)
set_option maxRecDepth 100000 in
set_option maxHeartbeats 4000000 in
theorem round_any (g:Nat) (ty:TypeId) (a b c d e f q z x:Int) (w:World) (hr:w.heap[g]?=some (.cells #[.int .u64 a,.int .u64 b,.int .u64 c,.int .u64 d,.int .u64 e,.int .u64 f,.int .u64 q,.int .u64 z] ty (0,0)))
  (ha:U64 a) (hb:U64 b) (hc:U64 c) (hd:U64 d) (he:U64 e) (hf:U64 f) (hq:U64 q) (hz:U64 z) (hx:U64 x) :
  Calls Tryz.prog 157 #[.pointer (some ⟨g,0,none⟩),.int .u64 x] w fun en w'=>en=.returned (.tuple #[])∧w'.heap[g]?=some (.cells #[.int .u64 (IntKind.u64.wrap (rt1 a b c d e f q z x+rt2 a b c)),.int .u64 a,.int .u64 b,.int .u64 c,.int .u64 (IntKind.u64.wrap (d+rt1 a b c d e f q z x)),.int .u64 e,.int .u64 f,.int .u64 q] ty (0,0))∧Wr g w w':=by
 have HE:=hid_ofS he;have HA:=hid_ofS ha;have HR:=hid_ofS hr;have c0:w.cell? ⟨g,0,none⟩=some (.int .u64 a):=cell_of_row _ _ _ _ _ _ hr;have c1:w.cell? ⟨g,1,none⟩=some (.int .u64 b):=cell_of_row _ _ _ _ _ _ hr;have c2:w.cell? ⟨g,2,none⟩=some (.int .u64 c):=cell_of_row _ _ _ _ _ _ hr;have c3:w.cell? ⟨g,3,none⟩=some (.int .u64 d):=cell_of_row _ _ _ _ _ _ hr;have c4:w.cell? ⟨g,4,none⟩=some (.int .u64 e):=cell_of_row _ _ _ _ _ _ hr;have c5:w.cell? ⟨g,5,none⟩=some (.int .u64 f):=cell_of_row _ _ _ _ _ _ hr;have c6:w.cell? ⟨g,6,none⟩=some (.int .u64 q):=cell_of_row _ _ _ _ _ _ hr;have c7:w.cell? ⟨g,7,none⟩=some (.int .u64 z):=cell_of_row _ _ _ _ _ _ hr;obtain⟨a0,a1⟩:=ha;obtain⟨b0,b1⟩:=hb;obtain⟨c0,c1⟩:=hc;obtain⟨d0,d1⟩:=hd;obtain⟨e0,e1⟩:=he;obtain⟨f0,f1⟩:=hf;obtain⟨q0,q1⟩:=hq;obtain⟨z0,z1⟩:=hz;obtain⟨x0,x1⟩:=hx;clear hr;go_enter Tryz.func157,Tryz.ntmps157;go_wp2
 go_quiet (fail)
 go_wp2
 go_quiet (fail)
 go_wp2
 go_quiet (first|(refine(b1_any e _ HE.out).mono ?_;rintro _ _ ⟨h1,h2⟩;exact⟨h1,_,h2⟩))
 go_wp2_with fail;refine(b0_any a _ HA.out).mono ?_;rintro _ w9 ⟨rfl,hw9⟩;subst w9;obtain⟨t1,ht1⟩:∃ t1,rt1 a b c d e f q z x=t1:=⟨_,rfl⟩
 have u1:U64 t1:=by rw[←ht1];exact u64_wrap _
 have ht1':=ht1;unfold rt1 chf at ht1';rw[ht1'];obtain⟨u10,u11⟩:=u1;have u2:=bg0_u64 a;obtain⟨s0,hs0⟩:∃ s0,bg0 a=s0:=⟨_,rfl⟩
 rw[hs0] at u2 ⊢;obtain⟨u20,u21⟩:=u2;obtain⟨t2,ht2⟩:∃ t2,rt2 a b c=t2:=⟨_,rfl⟩
 have u3:U64 t2:=by rw[←ht2];exact u64_wrap _
 have ht2':=ht2;unfold rt2 maj at ht2';rw[hs0] at ht2';obtain⟨u30,u31⟩:=u3;have HT1:=hid_ofS ht1;have HT2:=hid_ofS ht2;clear ht1 ht1' hs0 ht2
 go_upto_region 4 with fail
 try rw[ht2']
 clear ht2';have HWN:∀ k,Hid (Wr g w (w.drewN k)):=fun k=>(Wr.refl g w).drewN k
 refine wp_region_any (by kernel_rfl) ?_;refine wpAny_slotsU (fun _ _ _=>True) (frame:=(fun (a b c d e f g h i j k l m n o p q r s u v w x y z A B C D E F G H I J K L M N O P Q R S T U V W X Y Z a0 a1 a2 a3 a4 a5 a6 a7 a8 a9 b0 b1 b2 b3 b4 b5 b6 b7 b8 b9 c0 c1 c2 c3 c4 c5 c6 c7 c8 c9 d0:Value)=>fun (t:Nat→Value)=>({ tmps:=List.toArray [a,b,c,d,e,f,g,h,i,j,k,l,m,n,o,p,q,r,s,u,v,w,x,y,z,A,B,C,D,E,F,G,H,I,J,K,L,M,N,O,P,Q,R,S,T,U,V,W,X,Y,Z,a0,a1,a2,a3,a4,a5,a6,a7,a8,a9,b0,b1,b2,b3,b4,b5,b6,t 0,t 1,t 2,t 3,t 4,t 5,t 6,b7,b8,b9,c0,c1,c2,c3,c4,c5,c6,c7,c8,c9,d0],defers:=[] }:Act)) _ _ _ _ _ _ _ _ _ _ _ _ _ _ _ _ _ _ _ _ _ _ _ _ _ _ _ _ _ _ _ _ _ _ _ _ _ _ _ _ _ _ _ _ _ _ _ _ _ _ _ _ _ _ _ _ _ _ _ _ _ _ _ _ _ _ _ _ _ _ _ _ _ _ _ _ _ _ _ _ _ _)
  (Ext:=fun L u w'=>if L 6=true then w'.heap[g]?=some (.cells #[.int .u64 a,.int .u64 a,.int .u64 b,.int .u64 c,.int .u64 d,.int .u64 e,.int .u64 f,.int .u64 q] ty (0,0))∧Wr g w w' else w'.heap[g]?=some (.cells #[.int .u64 a,.int .u64 b,.int .u64 c,.int .u64 d,.int .u64 e,.int .u64 f,.int .u64 q,.int .u64 z] ty (0,0))∧Wr g w w') (Good:=fun i L w' v=>if i=0 then v=.pointer (some ⟨g,0,none⟩) else if i=1 then v=.pointer (some ⟨g,0,none⟩) else if i=2 then v=.slice (some ⟨g,1,none⟩) 7 7 else if i=3 then v=.pointer (some ⟨g,0,none⟩) else if i=4 then v=.pointer (some ⟨g,0,none⟩) else if i=5 then v=.slice (some ⟨g,0,none⟩) 7 8 else if i=6 then L 6=true else True) ?hstab (by kernel_rfl) ?hop ?hdone _ _ ((fun (x0 x1 x2 x3 x4 x5 x6:Value)=>fun (i:Nat)=>if i=0 then x0 else if i=1 then x1 else if i=2 then x2 else if i=3 then x3 else if i=4 then x4 else if i=5 then x5 else if i=6 then x6 else undef) _ _ _ _ _ _ _) _ (by simp) ?ext ?start (by simp)
 case start=>intro i hi h;exact absurd h (by rw[Array.getD_eq_getD_getElem?,Array.getElem?_replicate];split<;>simp)
 case ext=>
  rw[if_neg (by show ¬ (Array.getD _ _ _=true);rw[Array.getD_eq_getD_getElem?,Array.getElem?_replicate];split<;>simp)];exact⟨HR.out,((HWN _).out).drew⟩
 case hstab=>
  intro j L w9 w' i v hM hij hLi h;by_cases hl:j=6
  ·subst hl;simp at h ⊢;unfold updK;simp[h]
  ·simp only[if_neg hl] at h ⊢;exact h
 case hop=>
  intro i o L t w' ho hLi hx hdep K hK;have hi:i<7:=(Array.getElem?_eq_some_iff.1 ho).1;obtain rfl|rfl|rfl|rfl|rfl|rfl|rfl:i=0∨i=1∨i=2∨i=3∨i=4∨i=5∨i=6:=by omega
  all_goals(simp at ho;subst ho)
  all_goals try(have hK':=hK w' _ rfl (by simpa[updK] using hx) trivial;clear hK;simp[Region.binds] at hdep;rw[if_pos (by rfl)];go_simp;simpa[upd,hdep] using hK';done)
  ·have d2:t 2=.slice (some ⟨g,1,none⟩) 7 7:=by simpa using(hdep ⟨2,.data⟩ (by simp) rfl).2
   have d5:t 5=.slice (some ⟨g,0,none⟩) 7 8:=by simpa using(hdep ⟨5,.data⟩ (by simp) rfl).2
   clear hdep;rw[hLi,if_neg (by decide)] at hx;rw[if_pos (by rfl)];refine wp_copy7 (.tmp 70) (.tmp 73) rfl g ty a b c d e f q z d2 d5 hx.1 ?_;intro w2 h2 hw2;exact hK w2 _ (by simp[updK]) (by rw[if_pos (by simp[updK])];exact⟨h2,hx.2.trans hw2⟩) trivial
 case hdone=>
  intro L t w4 hx hg;have hlast:L 6=true:=by simpa using hg 6 (by decide)
  rw[if_pos hlast] at hx;clear hg hlast;have c4':w4.cell? ⟨g,4,none⟩=some (.int .u64 d):=cell_of_row _ _ _ _ _ _ hx.1;have f4':w4.frozen? ⟨g,4,none⟩=false:=frozen_of_row _ _ _ _ _ hx.1;have c0':w4.cell? ⟨g,0,none⟩=some (.int .u64 a):=cell_of_row _ _ _ _ _ _ hx.1;have f0':w4.frozen? ⟨g,0,none⟩=false:=frozen_of_row _ _ _ _ _ hx.1;have HX:=hid_ofS hx;clear hx;go_wp2
  go_region
  go_wp2
  go_end0
  obtain⟨hx1,hx2⟩:=HX.out;rw[HT1.out,HT2.out];refine⟨rfl,?_,((hx2.setCell 4 _).setCell 0 _).drew⟩;have h5:=heap_setCell_same w4 g 4 _ _ (.int .u64 (IntKind.u64.wrap (d+t1))) hx1;have h6:=heap_setCell_same _ g 0 _ _ (.int .u64 (IntKind.u64.wrap (t1+t2))) h5;exact h6
/-! Rows read whole and stored whole. -/
theorem wpList_loadW {w:World} {ops:Array Oper} {rest:List Oper} {o:Oper} {a:Act} {Q:Exit→Act→World→Prop} {T e t':TypeId} {n:Nat} (hgd:o.guard=none) (x:Operand) (ho:o.op=.load T x)
  (hu:Tryz.prog.underlying T=some (.array n e)) (hz:(Tryz.prog.info? T).map (·.size)=some n) (g:Nat) (es:List Int) (hx:a.eval x=.pointer (some ⟨g,0,none⟩)) (hl:es.length=n) (hr:RowW w g t' es)
  (hK:wpList Tryz.prog ops Q rest (a.put o.dst (.agg (es.map (Value.int .u64)).toArray)) w):wpList Tryz.prog ops Q (o::rest) a w:=
 wpList_load_row hgd T x ho g hx t' _ (0,0) _ hr hu rfl (by rw[hz];simp[hl]) hK
theorem wpList_storeW {w:World} {ops:Array Oper} {rest:List Oper} {o:Oper} {a:Act} {Q:Exit→Act→World→Prop} {T t':TypeId} {n:Nat} (hgd:o.guard=none) (x y:Operand) (ho:o.op=.store T x y)
  (hz:(Tryz.prog.info? T).map (·.size)=some n) (g:Nat) (es zs:List Int) (hx:a.eval x=.pointer (some ⟨g,0,none⟩)) (hy:a.eval y=.agg (es.map (Value.int .u64)).toArray) (hl:es.length=n) (hl':zs.length=n) (hr:RowW w g t' zs)
  (hK:∀ w',RowW w' g t' es→Wr g w w'→wpList Tryz.prog ops Q rest (a.put o.dst undef) w'):wpList Tryz.prog ops Q (o::rest) a w:=
 wpList_store_row hgd T x y ho g ((es.map (Value.int .u64)).toArray) hx hy t' _ hr (by rw[hz];simp[hl]) (by simp[hl,hl']) (all_oneCell_toArray (ints_oneCell _ _)) (hK _ (hr.setRow es) (Wr.setRow _ _ _))
theorem wpList_loadB {w:World} {ops:Array Oper} {rest:List Oper} {o:Oper} {a:Act} {Q:Exit→Act→World→Prop} {T e t':TypeId} {n:Nat} (hgd:o.guard=none) (x:Operand) (ho:o.op=.load T x)
  (hu:Tryz.prog.underlying T=some (.array n e)) (hz:(Tryz.prog.info? T).map (·.size)=some n) (g:Nat) (es:List Int) (hx:a.eval x=.pointer (some ⟨g,0,none⟩)) (hl:es.length=n) (hr:Row w g t' es)
  (hK:wpList Tryz.prog ops Q rest (a.put o.dst (.agg (es.map (Value.int .u8)).toArray)) w):wpList Tryz.prog ops Q (o::rest) a w:=
 wpList_load_row hgd T x ho g hx t' _ (0,0) _ hr hu rfl (by rw[hz];simp[hl]) hK
theorem wpList_storeB {w:World} {ops:Array Oper} {rest:List Oper} {o:Oper} {a:Act} {Q:Exit→Act→World→Prop} {T t':TypeId} {n:Nat} (hgd:o.guard=none) (x y:Operand) (ho:o.op=.store T x y)
  (hz:(Tryz.prog.info? T).map (·.size)=some n) (g:Nat) (es zs:List Int) (hx:a.eval x=.pointer (some ⟨g,0,none⟩)) (hy:a.eval y=.agg (es.map (Value.int .u8)).toArray) (hl:es.length=n) (hl':zs.length=n) (hr:Row w g t' zs)
  (hK:∀ w',Row w' g t' es→Wr g w w'→wpList Tryz.prog ops Q rest (a.put o.dst undef) w'):wpList Tryz.prog ops Q (o::rest) a w:=
 wpList_store_row hgd T x y ho g ((es.map (Value.int .u8)).toArray) hx hy t' _ hr (by rw[hz];simp[hl]) (by simp[hl,hl']) (all_oneCell_toArray (ints_oneCell _ _)) (hK _ (by unfold Row;rw[setRow_heap _ _ _ _ _ _ hr]) (Wr.setRow _ _ _))
theorem RowW.drew {w:World} {g:Nat} {e:TypeId} {zs:List Int} (h:RowW w g e zs):RowW w.drew g e zs:=h
theorem Row.below {w w':World} {g:Nat} {e:TypeId} {zs:List Int} {B:Nat} (h:Row w g e zs) (hb:Below B w w') (hg:g<B):Row w' g e zs:=by
 unfold Row;rw[hb.block g hg];exact h
theorem Tryz.sizeSch:(Tryz.prog.info? 213).map (·.size)=some 80:=by kernel_rfl
theorem Tryz.sizeWds:(Tryz.prog.info? 175).map (·.size)=some 8:=by kernel_rfl
theorem Tryz.sizeBlk:(Tryz.prog.info? 178).map (·.size)=some 128:=by kernel_rfl
def zSch:Array Value:=((List.replicate 80 (0:Int)).map (Value.int .u64)).toArray
theorem zcSch:zSch=((List.replicate 80 (0:Int)).map (Value.int .u64)).toArray:=rfl
theorem zvSch:∀ w,(zeroValue 213).run Tryz.prog w=.ok (.agg zSch) w:=(zero_of_info (n:=80) (by kernel_rfl)).1
theorem zsSch:zSch.size=80:=by unfold zSch;simp
theorem znSch:¬ zSch=#[]:=by intro h;have:=zsSch;rw[h] at this;simp at this
def zBlk:Array Value:=((List.replicate 128 (0:Int)).map (Value.int .u8)).toArray
theorem zcBlk:zBlk=((List.replicate 128 (0:Int)).map (Value.int .u8)).toArray:=rfl
theorem zvBlk:∀ w,(zeroValue 178).run Tryz.prog w=.ok (.agg zBlk) w:=(zero_of_info (n:=128) (by kernel_rfl)).1
theorem zsBlk:zBlk.size=128:=by unfold zBlk;simp
theorem znBlk:¬ zBlk=#[]:=by intro h;have:=zsBlk;rw[h] at this;simp at this
/-! The schedule. -/
def wtN (bs l:List Int) (t:Nat):Int:=
 if t<16 then beV ((bs.drop (8*t)).take 8)
 else IntKind.u64.wrap (IntKind.u64.wrap (IntKind.u64.wrap (sg1 (l.getD (t-2) 0)+l.getD (t-7) 0)+sg0 (l.getD (t-15) 0))+l.getD (t-16) 0)
def schN (bs:List Int):Nat→List Int
 |0=>[]
 |n+1=>schN bs n++[wtN bs (schN bs n) n]
def wd (bs:List Int) (t:Nat):Int:=wtN bs (schN bs t) t
theorem schN_len (bs:List Int) (n:Nat):(schN bs n).length=n:=by
 induction n with
 |zero=>rfl
 |succ n ih=>simp[schN,ih]
theorem schN_get (bs:List Int) (n t:Nat) (h:t<n):(schN bs n).getD t 0=wd bs t:=by
 induction n with
 |zero=>omega
 |succ n ih=>
  have hl:=schN_len bs n;unfold schN;rcases Nat.lt_or_ge t n with h'|h'
  ·rw[List.getD_eq_getElem?_getD,List.getElem?_append_left (by omega),←List.getD_eq_getElem?_getD];exact ih h'
  ·obtain rfl:t=n:=by omega
   rw[List.getD_eq_getElem?_getD,List.getElem?_append_right (by omega),hl];simp[wd]
theorem wd_lo (bs:List Int) (t:Nat) (h:t<16):wd bs t=beV ((bs.drop (8*t)).take 8):=by unfold wd wtN;rw[if_pos h]
theorem wd_hi (bs:List Int) (j:Nat):wd bs (j+16)=IntKind.u64.wrap (IntKind.u64.wrap (IntKind.u64.wrap (sg1 (wd bs (j+14))+wd bs (j+9))+sg0 (wd bs (j+1)))+wd bs j):=by
 have e:wd bs (j+16)=wtN bs (schN bs (j+16)) (j+16):=rfl;rw[e,wtN,if_neg (by omega),schN_get _ _ _ (by omega),schN_get _ _ _ (by omega),schN_get _ _ _ (by omega),schN_get _ _ _ (by omega)];rfl
theorem wd_hi' (bs:List Int) (k:Nat) (h:16≤k):wd bs k=IntKind.u64.wrap (IntKind.u64.wrap (IntKind.u64.wrap (sg1 (wd bs (k-2))+wd bs (k-7))+sg0 (wd bs (k-15)))+wd bs (k-16)):=by
 obtain⟨j,rfl⟩:∃ j,k=j+16:=⟨k-16,by omega⟩
 exact wd_hi bs j
theorem wd_u64 {bs:List Int} (hz:Byte bs) (hl:bs.length=128) (t:Nat):U64 (wd bs t):=by
 rcases Nat.lt_or_ge t 16 with h|h
 ·rw[wd_lo bs t h];have hz':Byte ((bs.drop (8*t)).take 8):=fun z h=>hz z (List.mem_of_mem_drop (List.mem_of_mem_take h))
  have hl':((bs.drop (8*t)).take 8).length=8:=by simp;omega
  have hb:=beV_bd hz' 8 (by omega);rw[List.take_of_length_le (by omega)] at hb;exact⟨hb.1,by have:=hb.2;simpa using this⟩
 ·obtain⟨j,rfl⟩:∃ j,t=j+16:=⟨t-16,by omega⟩
  rw[wd_hi];exact u64_wrap _
def schA (bs:List Int) (m:Nat):List Int:=(List.range 80).map fun j=>if j<m then wd bs j else 0
theorem schA_len (bs:List Int) (m:Nat):(schA bs m).length=80:=by simp[schA]
theorem schA_get (bs:List Int) (m j:Nat) (h:j<80):(schA bs m).getD j 0=if j<m then wd bs j else 0:=by unfold schA;simp[List.getD,h]
theorem schA_zero (bs:List Int):schA bs 0=List.replicate 80 0:=by
 unfold schA;simp only[Nat.not_lt_zero,if_false];rw[List.map_const'];simp
theorem schA_set (bs:List Int) (m:Nat) (h:m<80):(schA bs m).set m (wd bs m)=schA bs (m+1):=by
 apply List.ext_getElem?;intro i;rw[List.getElem?_set];unfold schA;by_cases h1:m=i
 ·subst h1;simp[h]
 ·rw[if_neg h1];by_cases h2:i<80
  ·have e:(i<m+1)=(i<m):=by apply propext;omega
   simp[h2,e]
  ·simp[h2]
structure SC (w:World) (bs:List Int) (m:Nat) (y:World):Prop where
 res:RowW y w.heap.size 213 (List.replicate 80 0)
 row:RowW y (w.heap.size+1) 213 (schA bs m)
 below:Below w.heap.size w y
theorem SC.drew {w:World} {bs:List Int} {m:Nat} {y:World} (h:SC w bs m y):SC w bs m y.drew:=⟨h.res.drew,h.row.drew,h.below.drew⟩
theorem SC.cellAt {w:World} {bs:List Int} {m:Nat} {y:World} (h:SC w bs m y) (j:Nat) (hj:j<m) (h8:j<80):y.cell? ⟨w.heap.size+1,j,none⟩=some (.int .u64 (wd bs j)):=by
 rw[h.row.cell j (by rw[schA_len];exact h8),schA_get _ _ _ h8,if_pos hj]
theorem SC.cell0 {w:World} {bs:List Int} {m:Nat} {y:World} (h:SC w bs m y) (j:Nat) (hj:m≤j) (h8:j<80):y.cell? ⟨w.heap.size+1,j,none⟩=some (.int .u64 0):=by
 rw[h.row.cell j (by rw[schA_len];exact h8),schA_get _ _ _ h8,if_neg (by omega)]
theorem SC.set {w:World} {bs:List Int} {m:Nat} {y:World} (h:SC w bs m y) (hm:m<80):SC w bs (m+1) (y.setCell ⟨w.heap.size+1,m,none⟩ (.int .u64 (wd bs m))):=
 ⟨((Wr.refl _ _).setCell m _).rowW h.res (by omega),by rw[←schA_set bs m hm];exact h.row.set m _,h.below.setCell (by simp) _⟩
theorem ite_sc {w:World} {bs:List Int} {m:Nat} {y:World} {b:Bool} (h:if b=true then SC w bs (m+1) y else SC w bs m y) (j:Nat) (hj:j<m) (h8:j<80):y.cell? ⟨w.heap.size+1,j,none⟩=some (.int .u64 (wd bs j)):=by
 cases b
 ·exact SC.cellAt (by simpa using h) j hj h8
 ·exact SC.cellAt (m:=m+1) (by simpa using h) j (by omega) h8
set_option maxHeartbeats 400000 in
theorem setL_any (g:Nat) (n:Int) (bs:List Int) (w:World) (hr:Row w g 178 bs) (hl:bs.length=128) (hn:U64 n) :
  Calls Tryz.prog 158 #[.pointer (some ⟨g,0,none⟩),.int .u64 n] w fun e w'=>e=.returned (.tuple #[])∧Row w' g 178 (ov8 (ov8 bs 112 (n/2^61) 8) 120 (IntKind.u64.wrap (n*8)) 8)∧Wr g w w':=by
 obtain⟨n0,n1⟩:=hn;have A:=hid_ofS (setW_any g 112 (n/2305843009213693952) bs w hr hl (by omega) ⟨by omega,by omega⟩);have B:=hid_ofS (fun w1 (h:Row w1 g 178 (ov8 bs 112 (n/2305843009213693952) 8))=>setW_any g 120 (IntKind.u64.wrap (n*8)) _ w1 h (by rw[ov8_len];exact hl) (by omega) (u64_wrap _));have HD:=hid_ofS (show n/2^61=n/2305843009213693952 from rfl);clear hr;go_enter Tryz.func158,Tryz.ntmps158;go_wp2_with fail;refine A.out.mono ?_;rintro e w1 ⟨rfl,r1,b1⟩;have B':=B.out w1 r1;clear A B r1;have HB1:=hid_ofS b1;clear b1;have HB:=hid_ofS B';clear B';go_wp2_with fail;refine HB.out.mono ?_;rintro e w2 ⟨rfl,r2,b2⟩;have H2:=hid_ofS r2;have HB2:=hid_ofS b2;clear r2 b2 HB;go_wp2
 go_end0
 rw[HD.out];exact⟨rfl,H2.out,HB1.out.trans HB2.out⟩
set_option maxRecDepth 100000 in
set_option maxHeartbeats 4000000 in
theorem sched_any (g:Nat) (bs:List Int) (w:World) (hr:Row w g 178 bs) (hl:bs.length=128) (hz:Byte bs) :
  Calls Tryz.prog 156 #[.pointer (some ⟨g,0,none⟩)] w fun e w'=>e=.returned (.agg ((schA bs 80).map (Value.int .u64)).toArray)∧Below w.heap.size w w':=by
 have HR:=hid_ofS hr;have HL:=hid_ofS hl;have HZ:=hid_ofS hz;have HU:=hid_ofS (fun t=>wd_u64 hz hl t);have hlt:=hr.lt;clear hr hl hz;have HS:Hid (SC w bs 0 ((w.alloc (.cells zSch 213)).alloc (.cells zSch 213))):=by
  refine⟨?_,?_,((Below.refl _ _).alloc (Nat.le_refl _) _).alloc (by simp) _⟩
  ·unfold RowW;rw[heap_alloc2_old,zcSch]
  ·unfold RowW;rw[heap_alloc2_new,zcSch,schA_zero]
 have z1:=zvSch;have z2:=zsSch;have z3:=znSch;go_enter Tryz.func156,Tryz.ntmps156;go_wp2
 go_loopw [5] (fun i wr=>∃ k:Nat,k≤80∧i=.int .i64 k∧SC w bs k wr) (fun i _=>80-(intOf i).toNat)
 case atStart=>exact⟨0,by omega,rfl,HS.out⟩
 case round=>
  clear HS;obtain⟨k,hk,rfl,hst⟩:=hrel;by_cases h80:k<80
  ·have h80':(k:Int)<80:=by omega
   by_cases h16:k<16
   ·have h16':(k:Int)<16:=by omega
    have A:=hid_ofS (wordI_any g (8*k) bs wr (HR.out.below hst.below hlt) HL.out HZ.out (by omega));have hc:=hst.cell0 k (Nat.le_refl _) h80;have hf:=hst.row.frozen k;have e8:=hid_ofS (show((8*k:Nat):Int)=8*(k:Int) by omega);have HN:=hst.set h80;rw[wd_lo _ _ h16] at HN;have HX:=hid_ofS HN;clear HN hst;go_wp2_with fail;rw[←e8.out];refine A.out.mono ?_;rintro e w9 ⟨rfl,h9⟩;subst h9;clear A;generalize beV ((bs.drop (8*k)).take 8)=v at *;go_wp2;go_roundw
    case rel=>exact⟨k+1,by omega,by go_num,HX.out⟩
    case measure=>simp[intOf];omega
   ·have h16':¬ ((k:Int)<16):=by omega
    have HS0:=hid_ofS hst;have HWD:=wd_hi' bs k (by omega);have HST:Hid (∀ y,SC w bs k y→SC w bs (k+1) (y.setCell ⟨w.heap.size+1,k,none⟩ (.int .u64 (wd bs k)))):=fun y h=>h.set h80
    have HCE:Hid (∀ y (L:Nat→Bool),(if L 23=true then SC w bs (k+1) y else SC w bs k y)→∀ i,i<k→y.cell? ⟨w.heap.size+1,i,none⟩=some (.int .u64 (wd bs i))):=fun y L h i hi=>ite_sc h i hi (by omega)
    obtain⟨j0,hj0⟩:∃ i,i=k-16:=⟨_,rfl⟩
    obtain⟨j1,hj1⟩:∃ i,i=k-15:=⟨_,rfl⟩
    obtain⟨j9,hj9⟩:∃ i,i=k-7:=⟨_,rfl⟩
    obtain⟨j14,hj14⟩:∃ i,i=k-2:=⟨_,rfl⟩
    rw[←hj0,←hj1,←hj9,←hj14] at HWD;have hJ0:Hid ((k:Int)-16=(j0:Int)∧j0<k):=⟨by omega,by omega⟩
    have hJ1:Hid ((k:Int)-15=(j1:Int)∧j1<k):=⟨by omega,by omega⟩
    have hJ9:Hid ((k:Int)-7=(j9:Int)∧j9<k):=⟨by omega,by omega⟩
    have hJ14:Hid ((k:Int)-2=(j14:Int)∧j14<k):=⟨by omega,by omega⟩
    clear hj0 hj1 hj9 hj14;obtain⟨x0,hx0⟩:∃ x,x=wd bs j0:=⟨_,rfl⟩
    obtain⟨x1,hx1⟩:∃ x,x=wd bs j1:=⟨_,rfl⟩
    obtain⟨x9,hx9⟩:∃ x,x=wd bs j9:=⟨_,rfl⟩
    obtain⟨x14,hx14⟩:∃ x,x=wd bs j14:=⟨_,rfl⟩
    have U1:=hid_ofS (HU.out j1);rw[←hx1] at U1;have U14:=hid_ofS (HU.out j14);rw[←hx14] at U14;rw[←hx0,←hx1,←hx9,←hx14] at HWD;have hWD:=hid_ofS HWD;have hX0:=hid_ofS hx0;have hX1:=hid_ofS hx1;have hX9:=hid_ofS hx9;have hX14:=hid_ofS hx14;clear HWD hx0 hx1 hx9 hx14 hst
    go_upto_region 7 with fail
    refine wp_region_any (by kernel_rfl) ?_;refine wpAny_slotsU (fun _ _ _=>True) (frame:=(fun (a b c d e f g h i j k l m n o p q r:Value)=>fun (t:Nat→Value)=>({ tmps:=List.toArray [a,b,c,d,e,f,g,h,i,j,k,l,m,n,o,p,t 0,t 1,t 2,t 3,t 4,t 5,t 6,t 7,t 8,t 9,t 10,t 11,t 12,t 13,t 14,t 15,t 16,t 17,t 18,t 19,t 20,t 21,t 22,q,r],defers:=[] }:Act)) _ _ _ _ _ _ _ _ _ _ _ _ _ _ _ _ _ _)
     (Ext:=fun L u w'=>if L 23=true then SC w bs (k+1) w' else SC w bs k w') (Good:=fun i L w' v=>if i=0 then v=.int .i64 (k:Int) else if i=1 then v=.int .i64 (k:Int) else if i=2 then v=.int .i64 (j14:Int) else if i=3 then v=.pointer (some ⟨w.heap.size+1,j14,none⟩) else if i=4 then v=.int .u64 (x14) else if i=5 then v=.int .u64 (sg1 x14) else if i=6 then v=.int .i64 (k:Int) else if i=7 then v=.int .i64 (j9:Int) else if i=8 then v=.pointer (some ⟨w.heap.size+1,j9,none⟩) else if i=9 then v=.int .u64 (x9) else if i=10 then v=.int .u64 (IntKind.u64.wrap (sg1 x14+x9)) else if i=11 then v=.int .i64 (k:Int) else if i=12 then v=.int .i64 (j1:Int) else if i=13 then v=.pointer (some ⟨w.heap.size+1,j1,none⟩) else if i=14 then v=.int .u64 (x1) else if i=15 then v=.int .u64 (sg0 x1) else if i=16 then v=.int .u64 (IntKind.u64.wrap (IntKind.u64.wrap (sg1 x14+x9)+sg0 x1)) else if i=17 then v=.int .i64 (k:Int) else if i=18 then v=.int .i64 (j0:Int) else if i=19 then v=.pointer (some ⟨w.heap.size+1,j0,none⟩) else if i=20 then v=.int .u64 (x0) else if i=21 then v=.int .u64 (IntKind.u64.wrap (IntKind.u64.wrap (IntKind.u64.wrap (sg1 x14+x9)+sg0 x1)+x0)) else if i=22 then v=.pointer (some ⟨w.heap.size+1,k,none⟩) else if i=23 then L 23=true else True) ?hstab (by kernel_rfl) ?hop ?hdone _ _ ((fun (x0 x1 x2 x3 x4 x5 x6 x7 x8 x9 x10 x11 x12 x13 x14 x15 x16 x17 x18 x19 x20 x21 x22:Value)=>fun (i:Nat)=>if i=0 then x0 else if i=1 then x1 else if i=2 then x2 else if i=3 then x3 else if i=4 then x4 else if i=5 then x5 else if i=6 then x6 else if i=7 then x7 else if i=8 then x8 else if i=9 then x9 else if i=10 then x10 else if i=11 then x11 else if i=12 then x12 else if i=13 then x13 else if i=14 then x14 else if i=15 then x15 else if i=16 then x16 else if i=17 then x17 else if i=18 then x18 else if i=19 then x19 else if i=20 then x20 else if i=21 then x21 else if i=22 then x22 else undef) _ _ _ _ _ _ _ _ _ _ _ _ _ _ _ _ _ _ _ _ _ _ _) _ (by simp) ?ext ?start (by simp)
    case start=>intro i hi h;exact absurd h (by rw[Array.getD_eq_getD_getElem?,Array.getElem?_replicate];split<;>simp)
    case ext=>
     rw[if_neg (by show ¬ (Array.getD _ _ _=true);rw[Array.getD_eq_getD_getElem?,Array.getElem?_replicate];split<;>simp)];exact HS0.out.drew
    case hstab=>
     intro j L w9 w' i v hM hij hLi h;by_cases hl:j=23
     ·subst hl;simp at h ⊢;unfold updK;simp[h]
     ·simp only[if_neg hl] at h ⊢;exact h
    case hop=>
     intro i o L t w' ho hLi hx hdep K hK;have hi:i<24:=(Array.getElem?_eq_some_iff.1 ho).1;obtain rfl|rfl|rfl|rfl|rfl|rfl|rfl|rfl|rfl|rfl|rfl|rfl|rfl|rfl|rfl|rfl|rfl|rfl|rfl|rfl|rfl|rfl|rfl|rfl:i=0∨i=1∨i=2∨i=3∨i=4∨i=5∨i=6∨i=7∨i=8∨i=9∨i=10∨i=11∨i=12∨i=13∨i=14∨i=15∨i=16∨i=17∨i=18∨i=19∨i=20∨i=21∨i=22∨i=23:=by omega
     all_goals(simp at ho;subst ho)
     all_goals try(have hK':=hK w' _ rfl (by simpa[updK] using hx) trivial;clear hK;simp[Region.binds] at hdep;rw[if_pos (by rfl)];go_simp;simpa[upd,hdep] using hK';done)
     ·have d1:t 1=.int .i64 (k:Int):=by simpa using(hdep ⟨1,.data⟩ (by simp) rfl).2
      clear hdep;have e1:=hJ14.out.1;have e4:IntKind.i64.wrap (j14:Int)=(j14:Int):=by have:=hJ14.out.2;rw[IntKind.wrap_i64];omega
      have hK':=hK w' (.int .i64 (j14:Int)) (by simp) (by simpa[updK] using hx) trivial;clear hK;rw[if_pos (by rfl)];go_simp;simpa[upd,d1,e1,e4] using hK'
     ·have d2:t 2=.int .i64 (j14:Int):=by simpa using(hdep ⟨2,.data⟩ (by simp) rfl).2
      clear hdep;have e2:(j14:Int)<80:=by have:=hJ14.out.2;omega
      have hK':=hK w' (.pointer (some ⟨w.heap.size+1,j14,none⟩)) (by simp) (by simpa[updK] using hx) trivial;clear hK;rw[if_pos (by rfl)];go_simp;simpa[upd,d2] using hK'
     ·have d3:t 3=.pointer (some ⟨w.heap.size+1,j14,none⟩):=by simpa using(hdep ⟨3,.data⟩ (by simp) rfl).2
      clear hdep;have hc:w'.cell? ⟨w.heap.size+1,j14,none⟩=some (.int .u64 (x14)):=by rw[hX14.out];exact HCE.out w' L hx j14 (hJ14.out.2)
      have hK':=hK w' (.int .u64 (x14)) (by simp) (by simpa[updK] using hx) trivial;clear hK;rw[if_pos (by rfl)];go_simp;simpa[upd,d3] using hK'
     ·have d4:t 4=.int .u64 (x14):=by simpa using(hdep ⟨4,.data⟩ (by simp) rfl).2
      clear hdep;have A:=s1_any x14 w' U14.out;have hK':=hK w' (.int .u64 (sg1 x14)) (by simp) (by simpa[updK] using hx) trivial;clear hK hx;rw[if_pos (by rfl)];go_simp;try simp only[d4]
      refine A.mono ?_;rintro e w9 ⟨rfl,h9⟩;subst h9;clear A;go_simp;simpa[upd,d4] using hK'
     ·have d6:t 6=.int .i64 (k:Int):=by simpa using(hdep ⟨6,.data⟩ (by simp) rfl).2
      clear hdep;have e1:=hJ9.out.1;have e4:IntKind.i64.wrap (j9:Int)=(j9:Int):=by have:=hJ9.out.2;rw[IntKind.wrap_i64];omega
      have hK':=hK w' (.int .i64 (j9:Int)) (by simp) (by simpa[updK] using hx) trivial;clear hK;rw[if_pos (by rfl)];go_simp;simpa[upd,d6,e1,e4] using hK'
     ·have d7:t 7=.int .i64 (j9:Int):=by simpa using(hdep ⟨7,.data⟩ (by simp) rfl).2
      clear hdep;have e2:(j9:Int)<80:=by have:=hJ9.out.2;omega
      have hK':=hK w' (.pointer (some ⟨w.heap.size+1,j9,none⟩)) (by simp) (by simpa[updK] using hx) trivial;clear hK;rw[if_pos (by rfl)];go_simp;simpa[upd,d7] using hK'
     ·have d8:t 8=.pointer (some ⟨w.heap.size+1,j9,none⟩):=by simpa using(hdep ⟨8,.data⟩ (by simp) rfl).2
      clear hdep;have hc:w'.cell? ⟨w.heap.size+1,j9,none⟩=some (.int .u64 (x9)):=by rw[hX9.out];exact HCE.out w' L hx j9 (hJ9.out.2)
      have hK':=hK w' (.int .u64 (x9)) (by simp) (by simpa[updK] using hx) trivial;clear hK;rw[if_pos (by rfl)];go_simp;simpa[upd,d8] using hK'
     ·have d11:t 11=.int .i64 (k:Int):=by simpa using(hdep ⟨11,.data⟩ (by simp) rfl).2
      clear hdep;have e1:=hJ1.out.1;have e4:IntKind.i64.wrap (j1:Int)=(j1:Int):=by have:=hJ1.out.2;rw[IntKind.wrap_i64];omega
      have hK':=hK w' (.int .i64 (j1:Int)) (by simp) (by simpa[updK] using hx) trivial;clear hK;rw[if_pos (by rfl)];go_simp;simpa[upd,d11,e1,e4] using hK'
     ·have d12:t 12=.int .i64 (j1:Int):=by simpa using(hdep ⟨12,.data⟩ (by simp) rfl).2
      clear hdep;have e2:(j1:Int)<80:=by have:=hJ1.out.2;omega
      have hK':=hK w' (.pointer (some ⟨w.heap.size+1,j1,none⟩)) (by simp) (by simpa[updK] using hx) trivial;clear hK;rw[if_pos (by rfl)];go_simp;simpa[upd,d12] using hK'
     ·have d13:t 13=.pointer (some ⟨w.heap.size+1,j1,none⟩):=by simpa using(hdep ⟨13,.data⟩ (by simp) rfl).2
      clear hdep;have hc:w'.cell? ⟨w.heap.size+1,j1,none⟩=some (.int .u64 (x1)):=by rw[hX1.out];exact HCE.out w' L hx j1 (hJ1.out.2)
      have hK':=hK w' (.int .u64 (x1)) (by simp) (by simpa[updK] using hx) trivial;clear hK;rw[if_pos (by rfl)];go_simp;simpa[upd,d13] using hK'
     ·have d14:t 14=.int .u64 (x1):=by simpa using(hdep ⟨14,.data⟩ (by simp) rfl).2
      clear hdep;have A:=s0_any x1 w' U1.out;have hK':=hK w' (.int .u64 (sg0 x1)) (by simp) (by simpa[updK] using hx) trivial;clear hK hx;rw[if_pos (by rfl)];go_simp;try simp only[d14]
      refine A.mono ?_;rintro e w9 ⟨rfl,h9⟩;subst h9;clear A;go_simp;simpa[upd,d14] using hK'
     ·have d17:t 17=.int .i64 (k:Int):=by simpa using(hdep ⟨17,.data⟩ (by simp) rfl).2
      clear hdep;have e1:=hJ0.out.1;have e4:IntKind.i64.wrap (j0:Int)=(j0:Int):=by have:=hJ0.out.2;rw[IntKind.wrap_i64];omega
      have hK':=hK w' (.int .i64 (j0:Int)) (by simp) (by simpa[updK] using hx) trivial;clear hK;rw[if_pos (by rfl)];go_simp;simpa[upd,d17,e1,e4] using hK'
     ·have d18:t 18=.int .i64 (j0:Int):=by simpa using(hdep ⟨18,.data⟩ (by simp) rfl).2
      clear hdep;have e2:(j0:Int)<80:=by have:=hJ0.out.2;omega
      have hK':=hK w' (.pointer (some ⟨w.heap.size+1,j0,none⟩)) (by simp) (by simpa[updK] using hx) trivial;clear hK;rw[if_pos (by rfl)];go_simp;simpa[upd,d18] using hK'
     ·have d19:t 19=.pointer (some ⟨w.heap.size+1,j0,none⟩):=by simpa using(hdep ⟨19,.data⟩ (by simp) rfl).2
      clear hdep;have hc:w'.cell? ⟨w.heap.size+1,j0,none⟩=some (.int .u64 (x0)):=by rw[hX0.out];exact HCE.out w' L hx j0 (hJ0.out.2)
      have hK':=hK w' (.int .u64 (x0)) (by simp) (by simpa[updK] using hx) trivial;clear hK;rw[if_pos (by rfl)];go_simp;simpa[upd,d19] using hK'
     ·have d21:t 21=.int .u64 (IntKind.u64.wrap (IntKind.u64.wrap (IntKind.u64.wrap (sg1 x14+x9)+sg0 x1)+x0)):=by simpa using(hdep ⟨21,.data⟩ (by simp) rfl).2
      have d22:t 22=.pointer (some ⟨w.heap.size+1,k,none⟩):=by simpa using(hdep ⟨22,.data⟩ (by simp) rfl).2
      clear hdep;rw[hLi,if_neg (by decide)] at hx;have hc:=hx.cell0 k (Nat.le_refl _) (by omega);have hf:w'.frozen? ⟨w.heap.size+1,k,none⟩=false:=hx.row.frozen _;have hn:=HST.out w' hx;rw[hWD.out] at hn;have hK':=hK _ undef (by simp[updK]) (by rw[if_pos (by simp[updK])];exact hn) trivial;clear hK hx hn;rw[if_pos (by rfl)];go_simp;simpa[upd,d21,d22] using hK'
    case hdone=>
     intro L t w4 hx hg;have hlast:L 23=true:=by simpa using hg 23 (by decide)
     rw[if_pos hlast] at hx;clear hg hlast;have HX:=hid_ofS hx;clear hx;go_wp2;go_roundw
     case rel=>exact⟨k+1,by omega,by go_num,HX.out⟩
     case measure=>simp[intOf];omega
  ·obtain rfl:k=80:=by omega
   have H1:=hid_ofS hst.row;have H2:=hid_ofS hst.res;have H3:=hid_ofS hst.below;clear hst;go_wp2_with (first
    |(refine wpList_loadW rfl (.tmp 3) rfl Tryz.underlying213 Tryz.sizeSch (w.heap.size+1) (schA bs 80) rfl (schA_len _ _) H1.out ?_)
    |(refine wpList_storeW rfl (.tmp 2) (.tmp 40) rfl Tryz.sizeSch w.heap.size (schA bs 80) (List.replicate 80 0) rfl rfl (schA_len _ _) (by simp) H2.out ?_)
    |fail)
   intro w3 hr3 hw3;have HB3:=hdI <| H3.out.trans (hw3.below (Nat.le_refl _))
   have HR3:=hid_ofS hr3;clear hr3 hw3 H1 H2 H3;go_wp2;exact bodyPost_ret (v:=.agg ((schA bs 80).map (Value.int .u64)).toArray) (results_cell_row rfl _ _ w.heap.size 213 _ (0,0) _ rfl HR3.out Tryz.underlying213 rfl (by rw[Tryz.sizeSch];simp[schA_len])) rfl ⟨rfl,HB3.out⟩
def ClG (tb:List (Nat×Nat)) (L:Nat→Bool):Prop:=∀ p,p∈tb→L p.1=true→L p.2=true
theorem updK_neO (L:Nat→Bool) {i j:Nat} (h:j≠i):updK L i j=L j:=by unfold updK;rw[if_neg h]
theorem updK_self (L:Nat→Bool) (i:Nat):updK L i i=true:=by unfold updK;rw[if_pos rfl]
theorem upd_ne (u:Nat→Value) {i j:Nat} (v:Value) (h:j≠i):upd u i v j=u j:=by unfold upd;rw[if_neg h]
theorem upd_self (u:Nat→Value) (i:Nat) (v:Value):upd u i v i=v:=by unfold upd;rw[if_pos rfl]
theorem ClG.step {tb:List (Nat×Nat)} {L:Nat→Bool} (h:ClG tb L) (i:Nat) (hd:∀ p,p∈tb→p.1=i→L p.2=true):ClG tb (updK L i):=by
 intro p hp h1;have hu:∀ k,L k=true→updK L i k=true:=fun k hk=>by unfold updK;split<;>simp[hk]
 by_cases e:p.1=i
 ·exact hu _ (hd p hp e)
 ·rw[updK_neO L e] at h1;exact hu _ (h p hp h1)
theorem ClG.back {tb:List (Nat×Nat)} {L:Nat→Bool} (h:ClG tb L) {a b:Nat} (hp:(a,b)∈tb) (hb:L b=false):L a=false:=by
 cases ha:L a with
 |false=>rfl
 |true=>have:=h _ hp ha;rw[hb] at this;cases this
theorem ClG.none {tb:List (Nat×Nat)} {L:Nat→Bool} (h:∀ i,L i=false):ClG tb L:=fun p _ h1=>by rw[h] at h1;cases h1
structure AC (tb:List (Nat×Nat)) (b a s:Nat) (V0:Value) (W0 W1:World) (Fin:World→Value→Prop) (L:Nat→Bool) (u:Nat→Value) (w':World):Prop where
 cl:ClG tb L
 old:L s=false→u s=V0
 new:L s=true→u s=u a
 ph:(L a=true∧Fin w' (u a))∨(L a=false∧L b=true∧w'=W1)∨(L a=false∧L b=false∧w'=W0)
section
variable {tb:List (Nat×Nat)} {b a s:Nat} {V0:Value} {W0 W1:World} {Fin:World→Value→Prop} {L:Nat→Bool} {u:Nat→Value} {w':World}
theorem AC.start (h:∀ i,L i=false) (hu:u s=V0):AC tb b a s V0 W0 W1 Fin L u W0:=
 ⟨ClG.none h,fun _=>hu,fun h'=>(by rw[h] at h';cases h'),.inr (.inr ⟨h _,h _,rfl⟩)⟩
theorem AC.pure (h:AC tb b a s V0 W0 W1 Fin L u w') (i:Nat) (v:Value) (hb:b≠i) (ha:a≠i) (hs:s≠i) (hd:∀ p,p∈tb→p.1=i→L p.2=true):AC tb b a s V0 W0 W1 Fin (updK L i) (upd u i v) w':=
 ⟨h.cl.step i hd,by rw[updK_neO L hs,upd_ne u v hs];exact h.old,by rw[updK_neO L hs,upd_ne u v hs,upd_ne u v ha];exact h.new,by rw[updK_neO L ha,updK_neO L hb,upd_ne u v ha];exact h.ph⟩
theorem AC.world (h:AC tb b a s V0 W0 W1 Fin L u w') (hb:L b=false) (hp:(a,b)∈tb):w'=W0:=by
 have ha:=h.cl.back hp hb;rcases h.ph with⟨h1,_⟩|⟨_,h1,_⟩|⟨_,_,h1⟩
 ·rw[ha] at h1;cases h1
 ·rw[hb] at h1;cases h1
 ·exact h1
theorem AC.build (h:AC tb b a s V0 W0 W1 Fin L u w') (v:Value) (hLb:L b=false) (hp:(a,b)∈tb) (ha:a≠b) (hs:s≠b) (hd:∀ p,p∈tb→p.1=b→L p.2=true):AC tb b a s V0 W0 W1 Fin (updK L b) (upd u b v) W1:=
 ⟨h.cl.step b hd,by rw[updK_neO L hs,upd_ne u v hs];exact h.old,by rw[updK_neO L hs,upd_ne u v hs,upd_ne u v ha];exact h.new,.inr (.inl ⟨by rw[updK_neO L ha];exact h.cl.back hp hLb,updK_self L b,rfl⟩)⟩
theorem AC.mid (h:AC tb b a s V0 W0 W1 Fin L u w') (hb:L b=true) (ha:L a=false):w'=W1:=by
 rcases h.ph with⟨h1,_⟩|⟨_,_,h1⟩|⟨_,h1,_⟩
 ·rw[ha] at h1;cases h1
 ·exact h1
 ·rw[hb] at h1;cases h1
theorem AC.app (h:AC tb b a s V0 W0 W1 Fin L u w') {v:Value} {w9:World} (hF:Fin w9 v) (hLa:L a=false) (hp:(s,a)∈tb) (hs:s≠a) (hd:∀ p,p∈tb→p.1=a→L p.2=true):AC tb b a s V0 W0 W1 Fin (updK L a) (upd u a v) w9:=
 have hls:=h.cl.back hp hLa
 ⟨h.cl.step a hd,by rw[updK_neO L hs,upd_ne u v hs];exact h.old,fun h'=>(by rw[updK_neO L hs,hls] at h';cases h'),.inl ⟨updK_self L a,by rw[upd_self];exact hF⟩⟩
theorem AC.asg (h:AC tb b a s V0 W0 W1 Fin L u w') (ha:a≠s) (hb:b≠s) (hd:∀ p,p∈tb→p.1=s→L p.2=true):AC tb b a s V0 W0 W1 Fin (updK L s) (upd u s (u a)) w':=
 ⟨h.cl.step s hd,fun h'=>(by rw[updK_self] at h';cases h'),fun _=>(by rw[upd_self,upd_ne u _ ha]),by rw[updK_neO L ha,updK_neO L hb,upd_ne u _ ha];exact h.ph⟩
theorem AC.fin (h:AC tb b a s V0 W0 W1 Fin L u w') (ha:L a=true) (hs:L s=true):u s=u a∧Fin w' (u a):=by
 refine⟨h.new hs,?_⟩;rcases h.ph with⟨_,h1⟩|⟨h1,_⟩|⟨h1,_⟩
 ·exact h1
 ·rw[ha] at h1;cases h1
 ·rw[ha] at h1;cases h1
end
structure AD (tb:List (Nat×Nat)) (b s:Nat) (V0:Value) (W0 W1:World) (L:Nat→Bool) (u:Nat→Value) (w':World):Prop where
 cl:ClG tb L
 old:L s=false→u s=V0
 ph:(L b=true∧w'=W1)∨(L b=false∧w'=W0)
section
variable {tb:List (Nat×Nat)} {b s:Nat} {V0:Value} {W0 W1:World} {L:Nat→Bool} {u:Nat→Value} {w':World}
theorem AD.start (h:∀ i,L i=false) (hu:u s=V0):AD tb b s V0 W0 W1 L u W0:=⟨ClG.none h,fun _=>hu,.inr ⟨h _,rfl⟩⟩
theorem AD.pure (h:AD tb b s V0 W0 W1 L u w') (i:Nat) (v:Value) (hb:b≠i) (hs:s≠i) (hd:∀ p,p∈tb→p.1=i→L p.2=true):AD tb b s V0 W0 W1 (updK L i) (upd u i v) w':=
 ⟨h.cl.step i hd,by rw[updK_neO L hs,upd_ne u v hs];exact h.old,by rw[updK_neO L hb];exact h.ph⟩
theorem AD.world (h:AD tb b s V0 W0 W1 L u w') (hb:L b=false):w'=W0:=by
 rcases h.ph with⟨h1,_⟩|⟨_,h1⟩
 ·rw[hb] at h1;cases h1
 ·exact h1
theorem AD.build (h:AD tb b s V0 W0 W1 L u w') (v:Value) (hs:s≠b) (hd:∀ p,p∈tb→p.1=b→L p.2=true):AD tb b s V0 W0 W1 (updK L b) (upd u b v) W1:=
 ⟨h.cl.step b hd,by rw[updK_neO L hs,upd_ne u v hs];exact h.old,.inl ⟨updK_self L b,rfl⟩⟩
theorem AD.asg (h:AD tb b s V0 W0 W1 L u w') (v:Value) (hb:b≠s) (hd:∀ p,p∈tb→p.1=s→L p.2=true):AD tb b s V0 W0 W1 (updK L s) (upd u s v) w':=
 ⟨h.cl.step s hd,fun h'=>(by rw[updK_self] at h';cases h'),by rw[updK_neO L hb];exact h.ph⟩
theorem AD.fin (h:AD tb b s V0 W0 W1 L u w') (hb:L b=true):w'=W1:=by
 rcases h.ph with⟨_,h1⟩|⟨h1,_⟩
 ·exact h1
 ·rw[hb] at h1;cases h1
end
theorem wp_appU (w:World) {o:Oper} {a:Act} {K:Act→World→Prop} {Q:Exit→Act→World→Prop} (sx x:Operand)
  (hop:o.op=Op.call { callee:=Callee.builtin Builtin.append,args:=#[sx,x],argTypes:=#[134,134] }) (B:Nat) (v:Value) (xs:List Int) (hs:a.eval sx=v) (hown:OwnU w B v xs)
  (b off m c:Nat) (zs:List Int) (hx:a.eval x=.slice (some ⟨b,off,none⟩) m c) (hl:zs.length=m) (hc:∀ i,i<zs.length→w.cell? ⟨b,off+i,none⟩=some (.int .u64 (zs.getD i 0))) (hm:xs.length+m≤1048576) (hB:B≤w.heap.size)
  (hK:∀ v' w',OwnU w' B v' (xs++zs)→Below B w w'→K (a.put o.dst v') w'):o.wp Tryz.prog a w K Q:=by
 obtain⟨i0,hi,hz0,hz1,hz2⟩:=info_parts ktU.info;have hbase:=hown.base;obtain⟨v',w',hr,h2,h3,h4,h5⟩:=run_append_own_at (P:=Tryz.prog) w B 134 o.type 135 i0 (.int .u64 0) 1 8 Tryz.underlying134 hi hz0 hz1 hz2 rfl (by decide) v xs.length _ hown.1 ⟨b,off,none⟩ m c (zs.map (Value.int .u64)) (by simp[hl]) (by
  intro j u hu;have hj:j<zs.length:=by have:=(List.getElem?_eq_some_iff.1 hu).1;simpa using this
  rw[Addr.add_lit,hc j hj];simp[hj] at hu;simp[hj,hu]) (ints_oneCell _ _) (by unfold maxLen;omega) (by omega) hB
 obtain⟨g,c0,hv,hBg,_,_⟩:=hbase;have hbel:=(Below.refl _ _).grown h3 hB (fun k hk=>by rw[hv] at hk;simp[Value.ownBlock] at hk;omega);have hk:=hK v' w' ⟨by rw[List.map_append,List.length_append,hl];exact h2,by
  rcases h2.2 with⟨h',h''⟩|⟨g',c',cur,h',_⟩
  ·exact absurd (h4.1 h').1 (by rw[hv];simp)
  ·exact⟨g',c',by rw[h',List.length_append,hl]⟩⟩ hbel
 unfold Oper.wp execOp;simp only[hop,resolve,invoke,builtin,Sem.run_bind,Sem.run_pure,Result.andThen_ok,List.map_toArray,List.map_cons,List.map_nil,hs,hx,hr];exact hk
def BAt (w:World) (g o:Nat) (bs:List Int):Prop:=bs.length=32∧Byte bs∧∀ i,i<32→w.cell? ⟨g,o+i,none⟩=some (.int .u8 (bs.getD i 0))∧w.frozen? ⟨g,o+i,none⟩=false
def SetB (bs:List Int) (P:Nat→Prop):Prop:=bs.length=32∧Byte bs∧∀ v,v<256→(bs.getD (v/8) 0/2^(v%8)%2=1↔P v)
theorem bit_nat (x j:Nat):x/2^j%2=1↔x.testBit j=true:=by rw[Nat.testBit_eq_decide_div_mod_eq];simp
theorem u8_or_bit (x:Int) (k:Nat) (hx:0≤x) (hx':x<256) (hk:k<8):0≤bits .or .u8 x (2^k)∧bits .or .u8 x (2^k)<256∧∀ j,j<8→(bits .or .u8 x (2^k)/2^j%2=1↔(x/2^j%2=1∨j=k)):=by
 obtain⟨x,rfl⟩:=Int.eq_ofNat_of_zero_le hx;have h2:(2:Nat)^k<256:=by
  have:2^k≤2^7:=Nat.pow_le_pow_right (by decide) (by omega);omega
 have e:bits .or .u8 (x:Int) (2^k)=((x ||| 2^k:Nat):Int):=by
  rw[show((2:Int)^k)=((2^k:Nat):Int) by simp];exact u8_or_nat x (2^k) (by omega) h2
 rw[e];have hlt:x ||| 2^k<2^8:=Nat.or_lt_two_pow (by omega) (by omega);refine⟨by omega,by omega,fun j hj=>?_⟩;have q:∀ y:Nat,((y:Int)/2^j%2=1↔y.testBit j=true):=fun y=>by
  rw[←bit_nat];rw[show((2:Int)^j)=((2^j:Nat):Int) by simp,←Int.natCast_ediv];omega
 rw[q,q,Nat.testBit_or,Nat.testBit_two_pow];simp only[Bool.or_eq_true,decide_eq_true_eq];constructor
 ·rintro (h|h)
  ·exact .inl h
  ·exact .inr h.symm
 ·rintro (h|h)
  ·exact .inl h
  ·exact .inr h.symm
theorem not_bit:∀ k,k<8→∀ j,j<8→(255-2^k).testBit j=decide (j≠k):=by decide
theorem u8_not_bit (x:Int) (k:Nat) (hx:0≤x) (hx':x<256) (hk:k<8):0≤bits .andNot .u8 x (2^k)∧bits .andNot .u8 x (2^k)<256∧∀ j,j<8→(bits .andNot .u8 x (2^k)/2^j%2=1↔(x/2^j%2=1∧j≠k)):=by
 obtain⟨x,rfl⟩:=Int.eq_ofNat_of_zero_le hx;have h2:(2:Nat)^k<256:=by
  have:2^k≤2^7:=Nat.pow_le_pow_right (by decide) (by omega);omega
 have e:bits .andNot .u8 (x:Int) (2^k)=((x &&& (255-2^k):Nat):Int):=by
  rw[show((2:Int)^k)=((2^k:Nat):Int) by simp];exact u8_andNot_nat x (2^k) (by omega) h2
 rw[e];have hlt:x &&& (255-2^k)<2^8:=Nat.and_lt_two_pow _ (Nat.lt_of_le_of_lt (Nat.sub_le _ _) (by decide));refine⟨by omega,by omega,fun j hj=>?_⟩;have q:∀ y:Nat,((y:Int)/2^j%2=1↔y.testBit j=true):=fun y=>by
  rw[←bit_nat];rw[show((2:Int)^j)=((2^j:Nat):Int) by simp,←Int.natCast_ediv];omega
 rw[q,q,Nat.testBit_and,not_bit k hk j hj];simp
theorem getD_set8 (bs:List Int) (q i:Nat) (x:Int) (hq:q<bs.length):(bs.set q x).getD i 0=if i=q then x else bs.getD i 0:=by
 rw[List.getD_eq_getElem?_getD,List.getElem?_set];by_cases h:q=i
 ·subst h;simp[hq]
 ·rw[if_neg h,if_neg (Ne.symm h),List.getD_eq_getElem?_getD]
def addB (bs:List Int) (v:Nat):List Int:=bs.set (v/8) (bits .or .u8 (bs.getD (v/8) 0) (2^(v%8)))
def remB (bs:List Int) (v:Nat):List Int:=bs.set (v/8) (bits .andNot .u8 (bs.getD (v/8) 0) (2^(v%8)))
theorem byte_set {bs:List Int} (h:Byte bs) (q:Nat) (x:Int) (h0:0≤x) (h1:x<256):Byte (bs.set q x):=fun z hz=>by
 rcases List.mem_or_eq_of_mem_set hz with h'|h'
 ·exact h z h'
 ·rw[h'];exact⟨h0,h1⟩
theorem SetB.add {bs:List Int} {P:Nat→Prop} (h:SetB bs P) (v:Nat) (hv:v<256):SetB (addB bs v) (fun u=>P u∨u=v):=by
 obtain⟨h1,h2,h3⟩:=h;have hx:=h2.get (v/8);obtain⟨a,b,c⟩:=u8_or_bit _ (v%8) hx.1 hx.2 (by omega);refine⟨by unfold addB;rw[List.length_set];exact h1,byte_set h2 _ _ a b,fun u hu=>?_⟩;unfold addB;rw[getD_set8 _ _ _ _ (by omega)];by_cases hq:u/8=v/8
 ·rw[if_pos hq,c (u%8) (by omega),←hq,h3 u hu];constructor
  ·rintro (h|h)
   ·exact .inl h
   ·exact .inr (by omega)
  ·rintro (h|h)
   ·exact .inl h
   ·exact .inr (by omega)
 ·rw[if_neg hq,h3 u hu];constructor
  ·exact .inl
  ·rintro (h|h)
   ·exact h
   ·omega
theorem SetB.rem {bs:List Int} {P:Nat→Prop} (h:SetB bs P) (v:Nat) (hv:v<256):SetB (remB bs v) (fun u=>P u∧u≠v):=by
 obtain⟨h1,h2,h3⟩:=h;have hx:=h2.get (v/8);obtain⟨a,b,c⟩:=u8_not_bit _ (v%8) hx.1 hx.2 (by omega);refine⟨by unfold remB;rw[List.length_set];exact h1,byte_set h2 _ _ a b,fun u hu=>?_⟩;unfold remB;rw[getD_set8 _ _ _ _ (by omega)];by_cases hq:u/8=v/8
 ·rw[if_pos hq,c (u%8) (by omega),←hq,h3 u hu];constructor
  ·rintro⟨h,h'⟩;exact⟨h,by omega⟩
  ·rintro⟨h,h'⟩;exact⟨h,by omega⟩
 ·rw[if_neg hq,h3 u hu];constructor
  ·intro h;exact⟨h,by omega⟩
  ·exact fun h=>h.1
def serOk (v:Int):Bool:=decide (0≤v∧v<256)
def nowOk (v:Int):Bool:=decide (0≤v∧v≤4294967295)
theorem isSerial_any (v:Int) (w:World):Calls Tryz.prog 69 #[.int .i64 v] w fun e w'=>e=.returned (.bool (serOk v))∧w'=w:=by
 by_cases h0:0≤v
 ·by_cases h1:v<256
  ·have HD:Hid (serOk v=true):=decide_eq_true ⟨h0,h1⟩;go_enter Tryz.func69,Tryz.ntmps69;go_wp2
   go_ret
   exact⟨by rw[HD.out];rfl,rfl⟩
  ·have HD:Hid (serOk v=false):=decide_eq_false (fun h=>h1 h.2);go_enter Tryz.func69,Tryz.ntmps69;go_wp2
   go_ret
   exact⟨by rw[HD.out];rfl,rfl⟩
 ·have HD:Hid (serOk v=false):=decide_eq_false (fun h=>h0 h.1);go_enter Tryz.func69,Tryz.ntmps69;go_wp2
  go_ret
  exact⟨by rw[HD.out];rfl,rfl⟩
theorem isNow_any (v:Int) (w:World):Calls Tryz.prog 72 #[.int .i64 v] w fun e w'=>e=.returned (.bool (nowOk v))∧w'=w:=by
 by_cases h0:0≤v
 ·by_cases h1:v≤4294967295
  ·have HD:Hid (nowOk v=true):=decide_eq_true ⟨h0,h1⟩;go_enter Tryz.func72,Tryz.ntmps72;go_wp2
   go_ret
   exact⟨by rw[HD.out];rfl,rfl⟩
  ·have HD:Hid (nowOk v=false):=decide_eq_false (fun h=>h1 h.2);go_enter Tryz.func72,Tryz.ntmps72;go_wp2
   go_ret
   exact⟨by rw[HD.out];rfl,rfl⟩
 ·have HD:Hid (nowOk v=false):=decide_eq_false (fun h=>h0 h.1);go_enter Tryz.func72,Tryz.ntmps72;go_wp2
  go_ret
  exact⟨by rw[HD.out];rfl,rfl⟩
theorem two_mod (v:Nat):(2:Int)^(v%8)%256=2^(v%8):=by
 have:v%8=0∨v%8=1∨v%8=2∨v%8=3∨v%8=4∨v%8=5∨v%8=6∨v%8=7:=by omega
 rcases this with h|h|h|h|h|h|h|h<;>rw[h]<;>decide
set_option maxHeartbeats 1000000 in
theorem addS_any (g o v:Nat) (bs:List Int) (w:World) (hv:v<256) (hb:BAt w g o bs) :
  Calls Tryz.prog 70 #[.pointer (some ⟨g,o,none⟩),.int .i64 v] w fun e w'=>e=.returned (.tuple #[])∧∃ q,w'=(w.setCell ⟨g,o+v/8,none⟩ (.int .u8 ((addB bs v).getD (v/8) 0))).drewN q:=by
 obtain⟨h1,h2,h3⟩:=hb;obtain⟨c0,f0⟩:=h3 (v/8) (by omega);obtain⟨x0,x1⟩:=h2.get (v/8);have HX:Hid ((addB bs v).getD (v/8) 0=bits .or .u8 (bs.getD (v/8) 0) (2^(v%8))):=by
  show _=_
  unfold addB;rw[getD_set8 _ _ _ _ (by omega),if_pos rfl]
 have HM:=hdI <| two_mod v
 have hv':(v:Int)<256:=by omega
 have hv8:(v:Int)/8<32:=by omega
 clear h1 h2 h3;generalize bs.getD (v/8) 0=x at *;go_enter Tryz.func70,Tryz.ntmps70
 go_region
 rw[HM.out,←HX.out]
 go_end0
 exact⟨rfl,1,rfl⟩
set_option maxHeartbeats 1000000 in
theorem remS_any (g o v:Nat) (bs:List Int) (w:World) (hv:v<256) (hb:BAt w g o bs) :
  Calls Tryz.prog 73 #[.pointer (some ⟨g,o,none⟩),.int .i64 v] w fun e w'=>e=.returned (.tuple #[])∧∃ q,w'=(w.setCell ⟨g,o+v/8,none⟩ (.int .u8 ((remB bs v).getD (v/8) 0))).drewN q:=by
 obtain⟨h1,h2,h3⟩:=hb;obtain⟨c0,f0⟩:=h3 (v/8) (by omega);obtain⟨x0,x1⟩:=h2.get (v/8);have HX:Hid ((remB bs v).getD (v/8) 0=bits .andNot .u8 (bs.getD (v/8) 0) (2^(v%8))):=by
  show _=_
  unfold remB;rw[getD_set8 _ _ _ _ (by omega),if_pos rfl]
 have HM:=hdI <| two_mod v
 have hv':(v:Int)<256:=by omega
 have hv8:(v:Int)/8<32:=by omega
 clear h1 h2 h3;generalize bs.getD (v/8) 0=x at *;go_enter Tryz.func73,Tryz.ntmps73
 go_region
 rw[HM.out,←HX.out]
 go_end0
 exact⟨rfl,1,rfl⟩
set_option maxHeartbeats 1000000 in
theorem hasS_any (g o:Nat) (v:Int) (bs:List Int) (P:Nat→Prop) (q:Bool) (w:World) (hb:BAt w g o bs) (hs:SetB bs P) (hq:q=true↔(0≤v∧v<256∧P v.toNat)) :
  Calls Tryz.prog 71 #[.pointer (some ⟨g,o,none⟩),.int .i64 v] w fun e w'=>e=.returned (.bool q)∧w'=w:=by
 by_cases hv:0≤v∧v<256
 ·obtain⟨h0,h1⟩:=hv;obtain⟨v,rfl⟩:=Int.eq_ofNat_of_zero_le h0;obtain⟨l1,l2,l3⟩:=hb;obtain⟨c0,f0⟩:=l3 (v/8) (by omega);obtain⟨x0,x1⟩:=l2.get (v/8);have hbit:=hs.2.2 v (by omega);have HSO:Hid (serOk (v:Int)=true):=decide_eq_true ⟨h0,h1⟩;have hpp:(0:Int)<2^(v%8):=Int.pow_pos (by decide);have y0:0≤bs.getD (v/8) 0/2^(v%8):=Int.ediv_nonneg x0 (by omega);have y1:bs.getD (v/8) 0/2^(v%8)≤bs.getD (v/8) 0:=Int.ediv_le_self _ x0;have HA:Hid (bits .and .u8 (bs.getD (v/8) 0/2^(v%8)) 1=bs.getD (v/8) 0/2^(v%8)%2):=by
   show _=_
   obtain⟨y,hy⟩:=Int.eq_ofNat_of_zero_le y0;rw[hy];have:=u8_and_nat y 1 (by omega) (by decide);rw[show((1:Int))=((1:Nat):Int) from rfl,this,Nat.and_one_is_mod];omega
  have HQ:Hid ((bs.getD (v/8) 0/2^(v%8)%2 == 1)=q):=by
   show _=_
   have h2:bs.getD (v/8) 0/2^(v%8)%2=0∨bs.getD (v/8) 0/2^(v%8)%2=1:=by omega
   rcases h2 with h2|h2
   ·rw[h2];cases q with
    |false=>rfl
    |true=>
     have:=hq.1 rfl;have:=hbit.2 (by simpa using this.2.2);omega
   ·rw[h2];cases q with
    |true=>rfl
    |false=>
     have:=hq.2 ⟨h0,h1,by simpa using hbit.1 h2⟩;cases this
  have hv8:(v:Int)/8<32:=by omega
  clear l1 l2 l3 hbit hs hq hpp;generalize bs.getD (v/8) 0=x at *;go_enter Tryz.func71,Tryz.ntmps71;go_wp2_with fail;refine(isSerial_any _ _).mono ?_;rintro e w1 ⟨rfl,rfl⟩;rw[HSO.out];go_wp2;rw[HA.out,HQ.out]
  go_ret
  exact⟨rfl,rfl⟩
 ·have HSO:Hid (serOk v=false):=decide_eq_false hv;have HQ:Hid (q=false):=by
   show _=_
   cases q with
   |false=>rfl
   |true=>exact absurd ⟨(hq.1 rfl).1,(hq.1 rfl).2.1⟩ hv
  clear hv hq hb hs;go_enter Tryz.func71,Tryz.ntmps71;go_wp2_with fail;refine(isSerial_any _ _).mono ?_;rintro e w1 ⟨rfl,rfl⟩;rw[HSO.out];go_wp2
  go_ret
  exact⟨by rw[HQ.out];rfl,rfl⟩
def okI (xs:List Int) (i:Nat):Prop:=0≤xs.getD i 0∧xs.getD i 0<256∧(0<i→xs.getD (i-1) 0<xs.getD i 0)
def SerP (xs:List Int):Prop:=∀ i,i<xs.length→okI xs i
open Classical in
noncomputable def serB (xs:List Int):Bool:=decide (SerP xs)
theorem serB_iff (xs:List Int):serB xs=true↔SerP xs:=by unfold serB;simp
theorem serB_no {xs:List Int} (h:¬ SerP xs):serB xs=false:=by unfold serB;simp[h]
theorem serB_yes {xs:List Int} (h:SerP xs):serB xs=true:=by unfold serB;simp[h]
theorem results_ct {fn:Func} {p u:Tmp} (h:fn.results=#[.cell p 59,.tmp u]) (tmps:Array Value) (w:World) (g:Nat) (cs:Array Value) (v:Value) (hv:tmps.getD u undef=v)
  (hp:tmps.getD p undef=.pointer (some ⟨g,0,none⟩)) (hr:w.heap[g]?=some (.cells cs 59 (0,0))) (hs:(Tryz.prog.info? 59).map (·.size)=some cs.size) :
  (results fn tmps).run Tryz.prog w=.ok (.tuple #[.agg cs,v]) w:=by
 have hp':tmps[p]?.getD undef=.pointer (some ⟨g,0,none⟩):=by simpa using hp
 have hv':tmps[u]?.getD undef=v:=by simpa using hv
 have hl:=run_loadVar_row (P:=Tryz.prog) w g 59 59 cs (0,0) _ hr Tryz.underlying59 rfl hs;simp[results,h,hp',hv',asAddr,hl]
def z32:List Int:=[0,0,0,0,0,0,0,0,0,0,0,0,0,0,0,0,0,0,0,0,0,0,0,0,0,0,0,0,0,0,0,0]
theorem z32_set:SetB z32 (fun _=>False):=by
 refine⟨rfl,by unfold Byte z32;decide,fun v hv=>⟨fun h=>?_,fun h=>h.elim⟩⟩;have e:z32.getD (v/8) 0=0:=by
  have:v/8<32:=by omega
  generalize v/8=q at *;have hq:∀ q,q<32→z32.getD q 0=0:=by decide
  exact hq q this
 rw[e] at h;simp at h
theorem SetB.congr {bs:List Int} {P Q:Nat→Prop} (h:SetB bs P) (hq:∀ v,v<256→(P v↔Q v)):SetB bs Q:=⟨h.1,h.2.1,fun v hv=>(h.2.2 v hv).trans (hq v hv)⟩
theorem Row.bat {w:World} {g:Nat} {t:TypeId} {bs:List Int} (h:Row w g t bs) (hl:bs.length=32) (hb:Byte bs):BAt w g 0 bs:=⟨hl,hb,fun i hi=>by rw[Nat.zero_add];exact⟨h.cell i (by omega),h.frozen i⟩⟩
theorem Tryz.sizeSS:(Tryz.prog.info? 59).map (·.size)=some 32:=by kernel_rfl
structure SOS (w:World) (xs:List Int) (k:Nat) (wr:World):Prop where
 below:Below w.heap.size w wr
 res:Row wr w.heap.size 59 z32
 set:∃ bs,Row wr (w.heap.size+1) 59 bs∧SetB bs (fun v=>(v:Int)∈xs.take k)
 ok:∀ i,i<k→okI xs i
def lastOf (xs:List Int) (k:Nat):Int:=if k=0 then -1 else xs.getD (k-1) 0
def SoP (w:World) (xs:List Int) (e:Ending) (w':World):Prop:=
 ∃ bs,e=.returned (.tuple #[.agg (bs.map (Value.int .u8)).toArray,.bool (serB xs)])∧bs.length=32∧Byte bs∧(SerP xs→SetB bs (fun v=>(v:Int)∈xs))∧Below w.heap.size w w'
set_option maxRecDepth 100000 in
set_option maxHeartbeats 4000000 in
theorem setOf_any (a:Option Addr) (n cap:Nat) (xs:List Int) (w:World) (hn:xs.length=n) (hm:n≤1048576) (ha:At .i64 w a xs) :
  Calls Tryz.prog 43 #[.slice a n cap] w (SoP w xs):=by
 have HS:Hid (SOS w xs 0 ((w.alloc (.cells #[.int .u8 0,.int .u8 0,.int .u8 0,.int .u8 0,.int .u8 0,.int .u8 0,.int .u8 0,.int .u8 0,.int .u8 0,.int .u8 0,.int .u8 0,.int .u8 0,.int .u8 0,.int .u8 0,.int .u8 0,.int .u8 0,.int .u8 0,.int .u8 0,.int .u8 0,.int .u8 0,.int .u8 0,.int .u8 0,.int .u8 0,.int .u8 0,.int .u8 0,.int .u8 0,.int .u8 0,.int .u8 0,.int .u8 0,.int .u8 0,.int .u8 0,.int .u8 0] 59)).alloc (.cells #[.int .u8 0,.int .u8 0,.int .u8 0,.int .u8 0,.int .u8 0,.int .u8 0,.int .u8 0,.int .u8 0,.int .u8 0,.int .u8 0,.int .u8 0,.int .u8 0,.int .u8 0,.int .u8 0,.int .u8 0,.int .u8 0,.int .u8 0,.int .u8 0,.int .u8 0,.int .u8 0,.int .u8 0,.int .u8 0,.int .u8 0,.int .u8 0,.int .u8 0,.int .u8 0,.int .u8 0,.int .u8 0,.int .u8 0,.int .u8 0,.int .u8 0,.int .u8 0] 59))):=by
  have bb:Below w.heap.size w ((w.alloc (.cells #[.int .u8 0,.int .u8 0,.int .u8 0,.int .u8 0,.int .u8 0,.int .u8 0,.int .u8 0,.int .u8 0,.int .u8 0,.int .u8 0,.int .u8 0,.int .u8 0,.int .u8 0,.int .u8 0,.int .u8 0,.int .u8 0,.int .u8 0,.int .u8 0,.int .u8 0,.int .u8 0,.int .u8 0,.int .u8 0,.int .u8 0,.int .u8 0,.int .u8 0,.int .u8 0,.int .u8 0,.int .u8 0,.int .u8 0,.int .u8 0,.int .u8 0,.int .u8 0] 59)).alloc (.cells #[.int .u8 0,.int .u8 0,.int .u8 0,.int .u8 0,.int .u8 0,.int .u8 0,.int .u8 0,.int .u8 0,.int .u8 0,.int .u8 0,.int .u8 0,.int .u8 0,.int .u8 0,.int .u8 0,.int .u8 0,.int .u8 0,.int .u8 0,.int .u8 0,.int .u8 0,.int .u8 0,.int .u8 0,.int .u8 0,.int .u8 0,.int .u8 0,.int .u8 0,.int .u8 0,.int .u8 0,.int .u8 0,.int .u8 0,.int .u8 0,.int .u8 0,.int .u8 0] 59)):=((Below.refl _ _).alloc (Nat.le_refl _) _).alloc (by simp) _;refine⟨bb,?_,⟨z32,?_,z32_set.congr (fun v _=>by simp)⟩,fun i hi=>by omega⟩
  ·show _=_
   rw[Below.heap_alloc _ _ w.heap.size (by simp)];exact heap_alloc_new w _
  ·show _=_
   have:=heap_alloc_new (w.alloc (.cells #[.int .u8 0,.int .u8 0,.int .u8 0,.int .u8 0,.int .u8 0,.int .u8 0,.int .u8 0,.int .u8 0,.int .u8 0,.int .u8 0,.int .u8 0,.int .u8 0,.int .u8 0,.int .u8 0,.int .u8 0,.int .u8 0,.int .u8 0,.int .u8 0,.int .u8 0,.int .u8 0,.int .u8 0,.int .u8 0,.int .u8 0,.int .u8 0,.int .u8 0,.int .u8 0,.int .u8 0,.int .u8 0,.int .u8 0,.int .u8 0,.int .u8 0,.int .u8 0] 59)) (.cells #[.int .u8 0,.int .u8 0,.int .u8 0,.int .u8 0,.int .u8 0,.int .u8 0,.int .u8 0,.int .u8 0,.int .u8 0,.int .u8 0,.int .u8 0,.int .u8 0,.int .u8 0,.int .u8 0,.int .u8 0,.int .u8 0,.int .u8 0,.int .u8 0,.int .u8 0,.int .u8 0,.int .u8 0,.int .u8 0,.int .u8 0,.int .u8 0,.int .u8 0,.int .u8 0,.int .u8 0,.int .u8 0,.int .u8 0,.int .u8 0,.int .u8 0,.int .u8 0] 59)
   rwa [show(w.alloc (.cells #[.int .u8 0,.int .u8 0,.int .u8 0,.int .u8 0,.int .u8 0,.int .u8 0,.int .u8 0,.int .u8 0,.int .u8 0,.int .u8 0,.int .u8 0,.int .u8 0,.int .u8 0,.int .u8 0,.int .u8 0,.int .u8 0,.int .u8 0,.int .u8 0,.int .u8 0,.int .u8 0,.int .u8 0,.int .u8 0,.int .u8 0,.int .u8 0,.int .u8 0,.int .u8 0,.int .u8 0,.int .u8 0,.int .u8 0,.int .u8 0,.int .u8 0,.int .u8 0] 59)).heap.size=w.heap.size+1 by simp] at this
 have HA:=hdI <| ha
 have HNX:=hdI <| hn
 clear ha hn;go_enter Tryz.func43,Tryz.ntmps43;go_wp2_with fail;generalize ((w.alloc (.cells #[.int .u8 0,.int .u8 0,.int .u8 0,.int .u8 0,.int .u8 0,.int .u8 0,.int .u8 0,.int .u8 0,.int .u8 0,.int .u8 0,.int .u8 0,.int .u8 0,.int .u8 0,.int .u8 0,.int .u8 0,.int .u8 0,.int .u8 0,.int .u8 0,.int .u8 0,.int .u8 0,.int .u8 0,.int .u8 0,.int .u8 0,.int .u8 0,.int .u8 0,.int .u8 0,.int .u8 0,.int .u8 0,.int .u8 0,.int .u8 0,.int .u8 0,.int .u8 0] 59)).alloc (.cells #[.int .u8 0,.int .u8 0,.int .u8 0,.int .u8 0,.int .u8 0,.int .u8 0,.int .u8 0,.int .u8 0,.int .u8 0,.int .u8 0,.int .u8 0,.int .u8 0,.int .u8 0,.int .u8 0,.int .u8 0,.int .u8 0,.int .u8 0,.int .u8 0,.int .u8 0,.int .u8 0,.int .u8 0,.int .u8 0,.int .u8 0,.int .u8 0,.int .u8 0,.int .u8 0,.int .u8 0,.int .u8 0,.int .u8 0,.int .u8 0,.int .u8 0,.int .u8 0] 59))=w0 at *
 go_loopw [5,10] (fun l i wr=>∃ k:Nat,k≤n∧i=.int .i64 k∧l=.int .i64 (lastOf xs k)∧SOS w xs k wr) (fun _ i _=>n-(intOf i).toNat)
 case atStart=>exact⟨0,Nat.zero_le _,rfl,rfl,HS.out⟩
 case round=>
  clear HS;obtain⟨k,hk,rfl,rfl,hst⟩:=hrel;by_cases hlt:k<n
  ·have hlt':(k:Int)<n:=by omega
   obtain⟨b,off,ea,hb,hc⟩:=(HA.out.below hst.below).get (by have:=HNX.out;omega);have hck:=hc k (by have:=HNX.out;omega);have HST:=hdI <| hst
   have HEA:=hdI <| ea
   subst ea;clear hst hc hb;by_cases hle:xs.getD k 0≤lastOf xs k
   ·have HNO:Hid (¬ SerP xs):=fun h=>by
     have q:=h k (by have:=HNX.out;omega);unfold lastOf at hle;by_cases h0:k=0
     ·rw[if_pos h0] at hle;have:=q.1;omega
     ·rw[if_neg h0] at hle;have:=q.2.2 (by omega);omega
    have HR:=hdI <| HST.out.res
    generalize xs.getD k 0=v at *;generalize lastOf xs k=l at *;go_wp2_with (first
     |(refine wpList_store_row rfl 59 (.tmp 2) (.tmp 22) rfl w.heap.size ((z32.map (Value.int .u8)).toArray) rfl rfl 59 _ HR.out Tryz.sizeSS rfl (all_oneCell_toArray (ints_oneCell _ _)) ?_)
     |fail)
    refine bodyPost_ret (v:=.tuple #[.agg (z32.map (Value.int .u8)).toArray,.bool false]) (results_ct rfl _ _ w.heap.size _ _ rfl rfl (setRow_heap _ _ _ _ _ _ HR.out) Tryz.sizeSS) rfl ?_;exact⟨z32,by rw[serB_no HNO.out],rfl,z32_set.2.1,fun h=>absurd h HNO.out,HST.out.below.trans ((Wr.setRow _ _ _).below (Nat.le_refl _))⟩
   ·by_cases hso:0≤xs.getD k 0∧xs.getD k 0<256
    ·obtain⟨v,hv⟩:=Int.eq_ofNat_of_zero_le hso.1;have hv256:v<256:=by omega
     have HSO:Hid (serOk (v:Int)=true):=decide_eq_true ⟨by omega,by omega⟩;obtain⟨bs,hrow,hset⟩:=HST.out.set;have HBT:Hid (BAt wr (w.heap.size+1) 0 bs):=hrow.bat hset.1 hset.2.1;have HN:∀ q,Hid (SOS w xs (k+1) ((wr.setCell ⟨w.heap.size+1,0+v/8,none⟩ (.int .u8 ((addB bs v).getD (v/8) 0))).drewN q)):=fun q=>by
      have hr2:=hrow.set (v/8) ((addB bs v).getD (v/8) 0);have e2:bs.set (v/8) ((addB bs v).getD (v/8) 0)=addB bs v:=by
       unfold addB;rw[getD_set8 _ _ _ _ (by have:=hset.1;omega),if_pos rfl]
      rw[e2] at hr2;have hw:Wr (w.heap.size+1) wr (wr.setCell ⟨w.heap.size+1,v/8,none⟩ (.int .u8 ((addB bs v).getD (v/8) 0))):=(Wr.refl _ _).setCell _ _;rw[Nat.zero_add];refine⟨?_,?_,⟨addB bs v,hr2,(hset.add v hv256).congr (fun u hu=>?_)⟩,fun i hi=>?_⟩
      ·have bq:=HST.out.below.trans (hw.below (by omega));exact⟨bq.os,bq.tape,bq.output,bq.size,bq.block⟩
      ·have:=HST.out.res;show _=_
       exact(hw.block _ (by omega)).trans this
      ·rw[take_snoc xs k (by have:=HNX.out;omega),List.mem_append,hv];simp only[List.mem_cons,List.not_mem_nil,or_false];constructor
       ·rintro (h|h)
        ·exact .inl h
        ·exact .inr (by omega)
       ·rintro (h|h)
        ·exact .inl h
        ·exact .inr (by omega)
      ·by_cases hik:i<k
       ·exact HST.out.ok i hik
       ·have:i=k:=by omega
        subst this;refine⟨hso.1,hso.2,fun h0=>?_⟩;unfold lastOf at hle;rw[if_neg (by omega)] at hle;omega
     have HL:Hid (lastOf xs (k+1)=(v:Int)):=by show _=_;unfold lastOf;rw[if_neg (by omega),Nat.add_sub_cancel];exact hv
     rw[hv] at hck hle;clear hso hrow hset hv;generalize lastOf xs k=l at *;go_wp2_with fail;refine(isSerial_any _ _).mono ?_;rintro e w1 ⟨rfl,rfl⟩;rw[HSO.out];go_wp2_with fail;refine(addS_any (w.heap.size+1) 0 v bs _ hv256 HBT.out).mono ?_;rintro e w2 ⟨rfl,q,rfl⟩;have H2:=HN q;clear HN HBT HST;generalize (w1.setCell ⟨w.heap.size+1,0+v/8,none⟩ (.int .u8 ((addB bs v).getD (v/8) 0))).drewN q=w2 at *;go_wp2;go_roundw
     case rel=>exact⟨k+1,by omega,by go_num,by rw[HL.out],H2.out⟩
     case measure=>simp[intOf];omega
    ·have HSO:Hid (serOk (xs.getD k 0)=false):=decide_eq_false hso;have HNO:Hid (¬ SerP xs):=fun h=>hso ⟨(h k (by have:=HNX.out;omega)).1,(h k (by have:=HNX.out;omega)).2.1⟩
     have HR:Hid (wr.heap[w.heap.size]?=some (.cells (z32.map (Value.int .u8)).toArray 59 (0,0))):=HST.out.res;clear hso;generalize xs.getD k 0=v at *;generalize lastOf xs k=l at *;go_wp2_with fail;refine(isSerial_any _ _).mono ?_;rintro e w1 ⟨rfl,rfl⟩;rw[HSO.out];go_wp2_with (first
      |(refine wpList_store_row rfl 59 (.tmp 2) (.tmp 22) rfl w.heap.size ((z32.map (Value.int .u8)).toArray) rfl rfl 59 _ HR.out Tryz.sizeSS rfl (all_oneCell_toArray (ints_oneCell _ _)) ?_)
      |fail)
     refine bodyPost_ret (v:=.tuple #[.agg (z32.map (Value.int .u8)).toArray,.bool false]) (results_ct rfl _ _ w.heap.size _ _ rfl rfl (setRow_heap _ _ _ _ _ _ HR.out) Tryz.sizeSS) rfl ?_;exact⟨z32,by rw[serB_no HNO.out],rfl,z32_set.2.1,fun h=>absurd h HNO.out,HST.out.below.trans ((Wr.setRow _ _ _).below (Nat.le_refl _))⟩
  ·have hkn:k=n:=by omega
   have hlt':¬ ((k:Int)<n):=by omega
   obtain⟨bs,hrow,hset⟩:=hst.set;have HYE:Hid (SerP xs):=fun i hi=>hst.ok i (by have:=HNX.out;omega)
   have HBS:Hid (bs.length=32∧Byte bs∧SetB bs (fun v=>(v:Int)∈xs)):=⟨hset.1,hset.2.1,hset.congr (fun v _=>by rw[List.take_of_length_le (by have:=HNX.out;omega)])⟩
   have HR:=hdI <| hst.res
   have HL:=hdI <| hrow
   have HSZ:Hid ((Tryz.prog.info? 59).map (·.size)=some ((bs.map (Value.int .u8)).toArray).size):=by show _=_;rw[Tryz.sizeSS];simp[hset.1]
   have HEQ:Hid (((z32.map (Value.int .u8)).toArray).size=((bs.map (Value.int .u8)).toArray).size):=by show _=_;simp[hset.1,z32]
   have HBW:=hdI <| hst.below
   clear hst hrow hset;generalize lastOf xs k=l at *;go_wp2_with (first
    |(refine wpList_load_row rfl 59 (.tmp 4) rfl (w.heap.size+1) rfl 59 _ (0,0) _ HL.out Tryz.underlying59 rfl HSZ.out ?_)
    |(refine wpList_store_row rfl 59 (.tmp 2) (.tmp 27) rfl w.heap.size ((bs.map (Value.int .u8)).toArray) rfl rfl 59 _ HR.out HSZ.out HEQ.out (all_oneCell_toArray (ints_oneCell _ _)) ?_)
    |fail)
   refine bodyPost_ret (v:=.tuple #[.agg (bs.map (Value.int .u8)).toArray,.bool true]) (results_ct rfl _ _ w.heap.size _ _ rfl rfl (setRow_heap _ _ _ _ _ _ HR.out) HSZ.out) rfl ?_;exact⟨bs,by rw[serB_yes HYE.out],HBS.out.1,HBS.out.2.1,fun _=>HBS.out.2.2,HBW.out.trans ((Wr.setRow _ _ _).below (Nat.le_refl _))⟩
end Go.Proofs.YtncomnkdlpoelaaGreatDoor
