import Derived.Test.YtjdhhgaelgemcaaGreatDoorMApx
import Derived.Test.YtjdhhgaelgemcaaGreatDoorMSvM
import Derived.Test.YtjdhhgaelgemcaaGreatDoorMBase
import Derived.BigRegion
import Derived.Test.YtjdhhgaelgemcaaGreatDoorMSAf
import Derived.Test.YtjdhhgaelgemcaaGreatDoorMSPow
import Derived.Test.YtjdhhgaelgemcaaGreatDoorMSvB
import Derived.Maps.AppendAt
namespace Go.Proofs.YtjdhhgaelgemcaaGreatDoor
open Go.ChangeShapes Go.WideShapes Go.ChangeAt Go.RowKit
set_option linter.unusedVariables false
set_option maxHeartbeats 400000 in
theorem toI_any (a:Option Addr) (n cap:Nat) (zs:List Int) (w:World) (hn:zs.length=n) (hm:n≤1048576) (ha:At .i64 w a zs) :
  Calls Tryz.prog 27 #[.slice a n cap] w fun e w'=>e=.returned (.slice (some ⟨w.heap.size,0,none⟩) n n)∧
   w'.ownsRow w.heap.size 2 1 (.slice (some ⟨w.heap.size,0,none⟩) n n) n (zs.map (Value.int .i64))∧Below w.heap.size w w':=by
 obtain⟨i0,hi,hz0,hz1,hz2⟩:=info_parts Tryz.infoI64;have HI:Hid (i0.bytes=8):=hz2;clear hz2;go_enter Tryz.func27,Tryz.ntmps27;go_wp2_with (first
  |(at_make;refine wpList_make_full _ rfl _ _ 22 rfl w.heap.size 2 i0 (.int .i64 0) 1 Tryz.underlying22 hi hz0 hz1 _ _ _ _ n rfl rfl rfl rfl ?c1 ?c2 ?c3 ?_)
  |fail)
 case c1=>rw[HI.out];omega
 case c2=>unfold maxLen;omega
 case c3=>exact Nat.le_refl _
 intro w1 hown hgrow;have hb1:Below w.heap.size w w1:=(Below.refl _ _).grown hgrow (Nat.le_refl _) (by simp);have hown0:w1.ownsRow w.heap.size 2 1 (.slice (some ⟨w.heap.size,0,none⟩) n n) n ((cp zs 0).map (Value.int .i64)):=by
  have e:(madeCells #[Value.int IntKind.i64 0] n).toList=(cp zs 0).map (Value.int .i64):=by
   rw[cp_zero];simp only[toList_madeCells_one,List.map_replicate,hn]
  rw[←e];exact hown
 clear hown hgrow;go_wp2
 go_loopw [4] (fun i wr=>∃ k:Nat,k≤n∧i=.int .i64 k∧wr.ownsRow w.heap.size 2 1 (.slice (some ⟨w.heap.size,0,none⟩) n n) n ((cp zs k).map (Value.int .i64))∧Below w.heap.size w wr) (fun i _=>n-(intOf i).toNat)
 case atStart=>exact⟨0,Nat.zero_le _,rfl,hown0,hb1⟩
 case round=>
  obtain⟨k,hk,rfl,hown,hbel⟩:=hrel;by_cases hlt:k<n
  ·obtain⟨b,off,rfl,hb,hc⟩:=ha.get (by omega);have hck:wr.cell? ⟨b,off+k,none⟩=some (.int .i64 (zs.getD k 0)):=by rw[hbel.cell (p:=⟨b,off+k,none⟩) hb];exact hc k (by omega)
   have hst:=hown.stored k (.int .i64 (zs.getD k 0));have hmem:wr.cell? ⟨w.heap.size,k,none⟩=some (.int .i64 ((cp zs k).getD k 0)):=by
    rw[hown.cellAt k (by omega)];have:=cp_len zs k (by omega);simp[show k<(cp zs k).length by omega]
   have hfz:=hown.frozenAt k;rw[←List.map_set,cp_succ zs k (by omega)] at hst;have HX:=hst.1;have HB:Below w.heap.size w (wr.setCell ⟨w.heap.size,k,none⟩ (.int .i64 (zs.getD k 0))):=hbel.setCell (Nat.le_refl _) _;clear hst hown hc ha hbel hown0 hb1;generalize zs.getD k 0=x at *;generalize (cp zs k).getD k 0=y at *;have HXX:Hid _:=HX;have HBB:Hid _:=HB;clear HX HB;go_wp2;go_roundw
   case rel=>exact⟨k+1,by omega,by go_num,HXX.out,HBB.out⟩
   case measure=>simp[intOf];omega
  ·have hkn:k=zs.length:=by omega
   have HO:Hid (wr.ownsRow w.heap.size 2 1 (.slice (some ⟨w.heap.size,0,none⟩) n n) n (zs.map (Value.int .i64))):=by rw[hkn,cp_all] at hown;exact hown
   clear hown;go_wp2
   go_ret
   exact⟨rfl,HO.out,hbel⟩
set_option maxHeartbeats 400000 in
theorem szI_any (a:Option Addr) (n cap:Nat) (left:Int) (w:World) (h0:0≤left) (h1:left≤1048576) (hn:n≤9223372036854775807) :
  Calls Tryz.prog 20 #[.slice a n cap,.int .i64 left] w fun e w'=>e=.returned (.int .i64 (szQ left n))∧w'=w:=by
 have HZ:Hid (szQ left n=if left<n then -1 else left-n):=rfl;by_cases h:left<n
 ·have t:left-(n:Int)<0:=by omega
  go_enter Tryz.func20,Tryz.ntmps20;go_wp2
  go_ret
  exact⟨ret_int (by rw[HZ.out,if_pos h]),rfl⟩
 ·have t:¬ (left-(n:Int)<0):=by omega
  go_enter Tryz.func20,Tryz.ntmps20;go_wp2
  go_ret
  exact⟨ret_int (by rw[HZ.out,if_neg (by omega)]),rfl⟩
set_option maxHeartbeats 400000 in
theorem szT_any (a:Option Addr) (n cap:Nat) (left:Int) (w:World) (h0:0≤left) (h1:left≤1048576) (hn:n≤9223372036854775807) :
  Calls Tryz.prog 21 #[.slice a n cap,.int .i64 left] w fun e w'=>e=.returned (.int .i64 (szQ left n))∧w'=w:=by
 have HZ:Hid (szQ left n=if left<n then -1 else left-n):=rfl;by_cases h:left<n
 ·have t:left-(n:Int)<0:=by omega
  go_enter Tryz.func21,Tryz.ntmps21;go_wp2
  go_ret
  exact⟨ret_int (by rw[HZ.out,if_pos h]),rfl⟩
 ·have t:¬ (left-(n:Int)<0):=by omega
  go_enter Tryz.func21,Tryz.ntmps21;go_wp2
  go_ret
  exact⟨ret_int (by rw[HZ.out,if_neg (by omega)]),rfl⟩
theorem i64_or_nat (a b:Nat) (ha:a<4611686018427387904) (hb:b<4611686018427387904):bits .or .i64 (a:Int) (b:Int)=((a ||| b:Nat):Int):=by
 have hx:a ||| b<2^62:=Nat.or_lt_two_pow (by omega) (by omega);show IntKind.i64.wrap ((BitVec.ofInt 64 (a:Int) ||| BitVec.ofInt 64 (b:Int)).toNat:Int)=_
 rw[BitVec.toNat_or,ofInt_u64 a (by omega),ofInt_u64 b (by omega),IntKind.wrap_i64];omega
theorem i64_or_add (a b:Int) (k:Nat) (ha:0≤a) (ha':a<4611686018427387904) (hb:0≤b) (hb':b<2^k) (hb'':b<4611686018427387904) (q:Int) (hd:a=q*2^k):bits .or .i64 b a=b+a:=by
 have h:=u64_or_add a b k ha (by omega) hb hb' (by omega) q hd;obtain⟨a,rfl⟩:=Int.eq_ofNat_of_zero_le ha;obtain⟨b,rfl⟩:=Int.eq_ofNat_of_zero_le hb;rw[u64_or_nat a b (by omega) (by omega)] at h;rw[i64_or_nat b a (by omega) (by omega),Nat.or_comm];omega
theorem le_step (v x:Int) (j:Nat) (hj:j<7) (h0:0≤v) (h1:v<256^j) (x0:0≤x) (x1:x<256) :
  bits .or .i64 v (wrap64 (x*2^(8*j)))=v+x*256^j:=by
 have e:(2:Int)^(8*j)=256^j:=by rw[Int.pow_mul];rfl
 have hle:(256:Int)^j≤256^6:=by
  have:j=0∨j=1∨j=2∨j=3∨j=4∨j=5∨j=6:=by omega
  rcases this with h|h|h|h|h|h|h<;>rw[h]<;>decide
 have hP0:(0:Int)<256^j:=Int.pow_pos (by decide);have e7:(256:Int)^6=281474976710656:=by decide
 rw[e7] at hle;have m0:0≤x*256^j:=Int.mul_nonneg x0 (by omega);have m1:x*256^j≤255*256^j:=Int.mul_le_mul_of_nonneg_right (by omega) (by omega);rw[e];unfold wrap64;have e2:(x*256^j+9223372036854775808)%18446744073709551616-9223372036854775808=x*256^j:=by omega
 rw[e2];exact i64_or_add _ _ (8*j) m0 (by omega) h0 (by rw[e];exact h1) (by omega) x (by rw[e])
set_option maxHeartbeats 400000 in
theorem le_any (a:Option Addr) (n cap:Nat) (zs:List Int) (w:World) (hn:zs.length=n) (hm:n≤7) (ha:At .u8 w a zs) (hz:Byte zs) :
  Calls Tryz.prog 100 #[.slice a n cap] w fun e w'=>e=.returned (.int .i64 (val 256 zs))∧w'=w:=by
 go_enter Tryz.func100,Tryz.ntmps100;go_wp2
 go_loop [3,8] (fun c i=>∃ k:Nat,k≤n∧i=.int .i64 k∧c=.int .i64 (val 256 (zs.take k))) (fun _ i=>n-(intOf i).toNat)
 case atStart=>exact⟨0,Nat.zero_le _,rfl,rfl⟩
 case round=>
  obtain⟨k,hk,rfl,rfl⟩:=hrel;by_cases hlt:k<n
  ·obtain⟨b,off,rfl,hb,hc⟩:=ha.get (by omega);have hck:=hc k (by omega);have hx:=hz.get k;have ht0:0≤val 256 (zs.take k):=val_nonneg (by decide) (fun z hz'=>hz z (List.mem_of_mem_take hz'));have ht1:val 256 (zs.take k)<256^k:=by
    have:=val_lt (B:=256) (by decide) (xs:=zs.take k) (fun z hz'=>hz z (List.mem_of_mem_take hz'))
    rwa [List.length_take,Nat.min_eq_left (by omega)] at this
   have hs:=le_step _ _ k (by omega) ht0 ht1 hx.1 hx.2;rw[←val_take 256 zs k (by omega)] at hs;have HS:Hid (bits .or .i64 (val 256 (zs.take k)) (wrap64 (zs.getD k 0*2^(8*k)))=val 256 (zs.take (k+1))):=hs;clear hs hc ht0 ht1;generalize zs.getD k 0=x at *;generalize val 256 (zs.take k)=c at *;obtain⟨hx0,hx1⟩:=hx;go_wp2
   go_round
   case rel=>exact⟨k+1,by omega,by go_num,by rw[←HS.out]⟩
   case measure=>simp[intOf];omega
  ·have hk':k=n:=by omega
   subst hk';have HT:Hid (zs.take k=zs):=List.take_of_length_le (by omega);go_wp2
   go_ret
   exact⟨ret_int (by rw[HT.out]),rfl⟩
def FG (w:World) (v:Value) (x:Int):Prop:=∃ g c,v=.slice (some ⟨g,0,none⟩) 16 c∧FeA w (some ⟨g,0,none⟩) x
theorem FG.below {w w':World} {v:Value} {x:Int} (h:FG w v x) (b:Below w.heap.size w w'):FG w' v x:=by
 obtain⟨g,c,e,f⟩:=h;exact⟨g,c,e,f.below b⟩
theorem FG.get {w:World} {v:Value} {x:Int} (h:FG w v x):∃ g c,v=.slice (some ⟨g,0,none⟩) 16 c∧FeA w (some ⟨g,0,none⟩) x:=h
theorem FG.elim_ {w:World} {v:Value} {x:Int} {C:Prop} (h:FG w v x) (k:∀ g c,v=.slice (some ⟨g,0,none⟩) 16 c→FeA w (some ⟨g,0,none⟩) x→C):C:=by
 obtain⟨g,c,e,f⟩:=h;exact k g c e f
theorem PtW.c0 {w:World} {g:Nat} {s0 s1 s2 s3:Value} (h:PtW w g #[s0,s1,s2,s3]):w.cell? ⟨g,0,none⟩=some s0:=by rw[cell_of_row w g 0 _ _ _ h];rfl
theorem PtW.c1 {w:World} {g:Nat} {s0 s1 s2 s3:Value} (h:PtW w g #[s0,s1,s2,s3]):w.cell? ⟨g,1,none⟩=some s1:=by rw[cell_of_row w g 1 _ _ _ h];rfl
theorem PtW.c2 {w:World} {g:Nat} {s0 s1 s2 s3:Value} (h:PtW w g #[s0,s1,s2,s3]):w.cell? ⟨g,2,none⟩=some s2:=by rw[cell_of_row w g 2 _ _ _ h];rfl
theorem PtW.c3 {w:World} {g:Nat} {s0 s1 s2 s3:Value} (h:PtW w g #[s0,s1,s2,s3]):w.cell? ⟨g,3,none⟩=some s3:=by rw[cell_of_row w g 3 _ _ _ h];rfl
def smA (X1 Y1 X2 Y2:Int):Int:=((Y1-X1)%fp)*((Y2-X2)%fp)%fp
def smB (X1 Y1 X2 Y2:Int):Int:=((Y1+X1)%fp)*((Y2+X2)%fp)%fp
def smC (D T1 T2:Int):Int:=(((D+D)%fp)*T1%fp)*T2%fp
def smG (Z1 Z2:Int):Int:=((Z1+Z1)%fp)*Z2%fp
theorem SR.more {w wr w':World} {L:List (Option Addr×Int)} {a:Option Addr} {x:Int} (h:SR w wr L) (b:Below wr.heap.size wr w') (hf:FeA w' a x):SR w w' (L++[(a,x)]):=
 ⟨h.below.trans (b.mono h.below.size),fun e he=>by
  rcases List.mem_append.1 he with h'|h'
  ·exact(h.fe e h').below b
  ·simp only[List.mem_cons,List.not_mem_nil,or_false] at h';subst h';exact hf⟩
def SumP (w:World) (A B C G:Int) (e:Ending) (w':World):Prop:=
 ∃ g1 k1 g2 k2 g3 k3 g4 k4,e=.returned (.agg #[.slice (some ⟨g1,0,none⟩) 16 k1,.slice (some ⟨g2,0,none⟩) 16 k2,.slice (some ⟨g3,0,none⟩) 16 k3,.slice (some ⟨g4,0,none⟩) 16 k4])∧
  FeA w' (some ⟨g1,0,none⟩) ((B-A)%fp*((G-C)%fp)%fp)∧FeA w' (some ⟨g2,0,none⟩) ((G+C)%fp*((B+A)%fp)%fp)∧
  FeA w' (some ⟨g3,0,none⟩) ((G-C)%fp*((G+C)%fp)%fp)∧FeA w' (some ⟨g4,0,none⟩) ((B-A)%fp*((B+A)%fp)%fp)∧Below w.heap.size w w'∧(w.heap.size≤g1∧w.heap.size≤g2∧w.heap.size≤g3∧w.heap.size≤g4)
set_option maxRecDepth 100000 in
set_option maxHeartbeats 8000000 in
theorem sum_any (a0 a1 a2 a3 b0 b1 b2 b3 ad:Option Addr) (c0 c1 c2 c3 e0 e1 e2 e3 cd:Nat) (X1 Y1 Z1 T1 X2 Y2 Z2 T2 D:Int) (w:World) (hs:∀ e∈[(a0,X1),(a1,Y1),(a2,Z1),(a3,T1),(b0,X2),(b1,Y2),(b2,Z2),(b3,T2),(ad,D)],FeA w e.1 e.2) :
  Calls Tryz.prog 78 #[.agg #[.slice a0 16 c0,.slice a1 16 c1,.slice a2 16 c2,.slice a3 16 c3],.agg #[.slice b0 16 e0,.slice b1 16 e1,.slice b2 16 e2,.slice b3 16 e3],.slice ad 16 cd] w (SumP w (smA X1 Y1 X2 Y2) (smB X1 Y1 X2 Y2) (smC D T1 T2) (smG Z1 Z2)):=by
 have bb:Below w.heap.size w (((w.alloc (.cells #[.slice a0 16 c0,.slice a1 16 c1,.slice a2 16 c2,.slice a3 16 c3] 109)).alloc (.cells #[.slice b0 16 e0,.slice b1 16 e1,.slice b2 16 e2,.slice b3 16 e3] 109)).alloc (.cells #[.slice none 0 0,.slice none 0 0,.slice none 0 0,.slice none 0 0] 109)):=(((Below.refl _ _).alloc (Nat.le_refl _) _).alloc (by simp) _).alloc (by simp;omega) _;have HP:Hid (PtW (((w.alloc (.cells #[.slice a0 16 c0,.slice a1 16 c1,.slice a2 16 c2,.slice a3 16 c3] 109)).alloc (.cells #[.slice b0 16 e0,.slice b1 16 e1,.slice b2 16 e2,.slice b3 16 e3] 109)).alloc (.cells #[.slice none 0 0,.slice none 0 0,.slice none 0 0,.slice none 0 0] 109)) w.heap.size #[.slice a0 16 c0,.slice a1 16 c1,.slice a2 16 c2,.slice a3 16 c3]):=by
  show _=_
  rw[Below.heap_alloc _ _ w.heap.size (by simp;omega),Below.heap_alloc _ _ w.heap.size (by simp)];exact heap_alloc_new w _
 have HQ:Hid (PtW (((w.alloc (.cells #[.slice a0 16 c0,.slice a1 16 c1,.slice a2 16 c2,.slice a3 16 c3] 109)).alloc (.cells #[.slice b0 16 e0,.slice b1 16 e1,.slice b2 16 e2,.slice b3 16 e3] 109)).alloc (.cells #[.slice none 0 0,.slice none 0 0,.slice none 0 0,.slice none 0 0] 109)) (w.heap.size+1) #[.slice b0 16 e0,.slice b1 16 e1,.slice b2 16 e2,.slice b3 16 e3]):=by
  show _=_
  rw[Below.heap_alloc _ _ (w.heap.size+1) (by simp)];have:=heap_alloc_new (w.alloc (.cells #[.slice a0 16 c0,.slice a1 16 c1,.slice a2 16 c2,.slice a3 16 c3] 109)) (.cells #[.slice b0 16 e0,.slice b1 16 e1,.slice b2 16 e2,.slice b3 16 e3] 109);simpa using this
 have HZ:Hid (PtW (((w.alloc (.cells #[.slice a0 16 c0,.slice a1 16 c1,.slice a2 16 c2,.slice a3 16 c3] 109)).alloc (.cells #[.slice b0 16 e0,.slice b1 16 e1,.slice b2 16 e2,.slice b3 16 e3] 109)).alloc (.cells #[.slice none 0 0,.slice none 0 0,.slice none 0 0,.slice none 0 0] 109)) (w.heap.size+1+1) #[.slice none 0 0,.slice none 0 0,.slice none 0 0,.slice none 0 0]):=by
  show _=_
  have:=heap_alloc_new ((w.alloc (.cells #[.slice a0 16 c0,.slice a1 16 c1,.slice a2 16 c2,.slice a3 16 c3] 109)).alloc (.cells #[.slice b0 16 e0,.slice b1 16 e1,.slice b2 16 e2,.slice b3 16 e3] 109)) (.cells #[.slice none 0 0,.slice none 0 0,.slice none 0 0,.slice none 0 0] 109);simpa using this
 have SRK:Hid (SR w (((w.alloc (.cells #[.slice a0 16 c0,.slice a1 16 c1,.slice a2 16 c2,.slice a3 16 c3] 109)).alloc (.cells #[.slice b0 16 e0,.slice b1 16 e1,.slice b2 16 e2,.slice b3 16 e3] 109)).alloc (.cells #[.slice none 0 0,.slice none 0 0,.slice none 0 0,.slice none 0 0] 109)) [(a0,X1),(a1,Y1),(a2,Z1),(a3,T1),(b0,X2),(b1,Y2),(b2,Z2),(b3,T2),(ad,D)]):=⟨bb,fun e he=>(hs e he).below bb⟩
 clear bb hs;go_enter Tryz.func78,Tryz.ntmps78;go_wp2_with fail;generalize (((w.alloc (.cells #[.slice a0 16 c0,.slice a1 16 c1,.slice a2 16 c2,.slice a3 16 c3] 109)).alloc (.cells #[.slice b0 16 e0,.slice b1 16 e1,.slice b2 16 e2,.slice b3 16 e3] 109)).alloc (.cells #[.slice none 0 0,.slice none 0 0,.slice none 0 0,.slice none 0 0] 109))=w0 at *;refine wp_region_any (by kernel_rfl) ?_;refine wpAny_slotsG (fun _ w w'=>Below w.heap.size w w') (frame:=(fun (a b c d e f g h i j k l m n o p q r s u v w x y z A B C D E F G H I J K L M N O P Q R S T U V W X Y Z a0 a1 a2 a3 a4 a5 a6 a7 a8 a9 b0 b1 b2 b3 b4 b5:Value)=>fun (t:Nat→Value)=>({ tmps:=List.toArray [a,b,c,d,e,f,g,t 11,h,i,j,k,l,m,n,t 0,t 1,t 2,t 3,t 4,t 5,t 6,t 7,t 8,t 9,t 10,o,p,q,r,s,u,v,w,x,y,z,A,B,C,D,E,F,G,H,I,J,K,L,M,N,O,P,Q,R,S,T,U,V,W,X,Y,Z,a0,a1,a2,a3,a4,a5,a6,a7,a8,a9,b0,b1,b2,b3,b4,b5],defers:=[] }:Act)) _ _ _ _ _ _ _ _ _ _ _ _ _ _ _ _ _ _ _ _ _ _ _ _ _ _ _ _ _ _ _ _ _ _ _ _ _ _ _ _ _ _ _ _ _ _ _ _ _ _ _ _ _ _ _ _ _ _ _ _ _ _ _ _ _ _ _)
  (Ext:=fun L w'=>Below w0.heap.size w0 w') (Good:=fun i L w' v=>if i=0 then v=.pointer (some ⟨w.heap.size,1,none⟩) else if i=1 then v=.slice a1 16 c1 else if i=2 then v=.pointer (some ⟨w.heap.size,0,none⟩) else if i=3 then v=.slice a0 16 c0 else if i=4 then FG w' v ((Y1-X1)%fp) else if i=5 then v=.pointer (some ⟨(w.heap.size+1),1,none⟩) else if i=6 then v=.slice b1 16 e1 else if i=7 then v=.pointer (some ⟨(w.heap.size+1),0,none⟩) else if i=8 then v=.slice b0 16 e0 else if i=9 then FG w' v ((Y2-X2)%fp) else if i=10 then FG w' v (((Y1-X1)%fp)*((Y2-X2)%fp)%fp) else if i=11 then FG w' v (((Y1-X1)%fp)*((Y2-X2)%fp)%fp) else True) ?hstab (by kernel_rfl) ?hop ?hdone _ _ ((fun (x0 x1 x2 x3 x4 x5 x6 x7 x8 x9 x10 x11:Value)=>fun (i:Nat)=>if i=0 then x0 else if i=1 then x1 else if i=2 then x2 else if i=3 then x3 else if i=4 then x4 else if i=5 then x5 else if i=6 then x6 else if i=7 then x7 else if i=8 then x8 else if i=9 then x9 else if i=10 then x10 else if i=11 then x11 else undef) _ _ _ _ _ _ _ _ _ _ _ _) _ (by simp) ?ext ?start (by simp)
 case start=>intro i hi h;exact absurd h (by rw[Array.getD_eq_getD_getElem?,Array.getElem?_replicate];split<;>simp)
 case ext=>exact⟨rfl,rfl,rfl,Nat.le_refl _,fun _ _=>rfl⟩
 case hstab=>
  intro j L w9 w' i v hM _ _ h;by_cases h4:j=4
  ·subst h4;simp at h ⊢;exact h.below hM
  by_cases h9:j=9
  ·subst h9;simp at h ⊢;exact h.below hM
  by_cases h10:j=10
  ·subst h10;simp at h ⊢;exact h.below hM
  by_cases h11:j=11
  ·subst h11;simp at h ⊢;exact h.below hM
  simp only[if_neg h4,if_neg h9,if_neg h10,if_neg h11] at h ⊢;exact h
 case hop=>
  intro i o L t w' ho hLi hx hdep K hK;have hi:i<12:=(Array.getElem?_eq_some_iff.1 ho).1;obtain rfl|rfl|rfl|rfl|rfl|rfl|rfl|rfl|rfl|rfl|rfl|rfl:i=0∨i=1∨i=2∨i=3∨i=4∨i=5∨i=6∨i=7∨i=8∨i=9∨i=10∨i=11:=by omega
  all_goals(simp at ho;subst ho)
  ·clear hdep;have hK':=hK w' (.pointer (some ⟨w.heap.size,1,none⟩)) (by simp) hx (Below.refl _ _);clear hK;rw[if_pos (by rfl)];go_simp;simpa[upd] using hK'
  ·have d0:t 0=.pointer (some ⟨w.heap.size,1,none⟩):=by simpa using hdep ⟨0,.data⟩ (by simp) rfl
   clear hdep;have cc:=(HP.out.below hx HP.out.lt).c1;have hK':=hK w' (.slice a1 16 c1) (by simp) hx (Below.refl _ _);clear hK;rw[if_pos (by rfl)];go_simp;simpa[upd,d0] using hK'
  ·clear hdep;have hK':=hK w' (.pointer (some ⟨w.heap.size,0,none⟩)) (by simp) hx (Below.refl _ _);clear hK;rw[if_pos (by rfl)];go_simp;simpa[upd] using hK'
  ·have d2:t 2=.pointer (some ⟨w.heap.size,0,none⟩):=by simpa using hdep ⟨2,.data⟩ (by simp) rfl
   clear hdep;have cc:=(HP.out.below hx HP.out.lt).c0;have hK':=hK w' (.slice a0 16 c0) (by simp) hx (Below.refl _ _);clear hK;rw[if_pos (by rfl)];go_simp;simpa[upd,d2] using hK'
  ·have d1:t 1=.slice a1 16 c1:=by simpa using hdep ⟨1,.data⟩ (by simp) rfl
   have d3:t 3=.slice a0 16 c0:=by simpa using hdep ⟨3,.data⟩ (by simp) rfl
   clear hdep;have A:=fsub_any a1 a0 c1 c0 Y1 X1 w' ((SRK.out.at 1 _ _ rfl).below hx) ((SRK.out.at 0 _ _ rfl).below hx);have hK':∀ ww v,FG ww v ((Y1-X1)%fp)→Below w'.heap.size w' ww→K _ ww:=fun ww v hg hb=>hK ww v (by simpa using hg) (hx.trans (hb.mono hx.size)) hb
   clear hK;rw[if_pos (by rfl)];go_simp;try simp only[d1,d3]
   refine A.mono ?_;rintro e w9 ⟨g',c',rfl,_,_,hf,hb⟩;have hK2:=hK' w9 _ ⟨g',c',rfl,hf⟩ hb;clear hK' A hf hb;go_simp;simpa[upd,d1,d3] using hK2
  ·clear hdep;have hK':=hK w' (.pointer (some ⟨(w.heap.size+1),1,none⟩)) (by simp) hx (Below.refl _ _);clear hK;rw[if_pos (by rfl)];go_simp;simpa[upd] using hK'
  ·have d5:t 5=.pointer (some ⟨(w.heap.size+1),1,none⟩):=by simpa using hdep ⟨5,.data⟩ (by simp) rfl
   clear hdep;have cc:=(HQ.out.below hx HQ.out.lt).c1;have hK':=hK w' (.slice b1 16 e1) (by simp) hx (Below.refl _ _);clear hK;rw[if_pos (by rfl)];go_simp;simpa[upd,d5] using hK'
  ·clear hdep;have hK':=hK w' (.pointer (some ⟨(w.heap.size+1),0,none⟩)) (by simp) hx (Below.refl _ _);clear hK;rw[if_pos (by rfl)];go_simp;simpa[upd] using hK'
  ·have d7:t 7=.pointer (some ⟨(w.heap.size+1),0,none⟩):=by simpa using hdep ⟨7,.data⟩ (by simp) rfl
   clear hdep;have cc:=(HQ.out.below hx HQ.out.lt).c0;have hK':=hK w' (.slice b0 16 e0) (by simp) hx (Below.refl _ _);clear hK;rw[if_pos (by rfl)];go_simp;simpa[upd,d7] using hK'
  ·have d6:t 6=.slice b1 16 e1:=by simpa using hdep ⟨6,.data⟩ (by simp) rfl
   have d8:t 8=.slice b0 16 e0:=by simpa using hdep ⟨8,.data⟩ (by simp) rfl
   clear hdep;have A:=fsub_any b1 b0 e1 e0 Y2 X2 w' ((SRK.out.at 5 _ _ rfl).below hx) ((SRK.out.at 4 _ _ rfl).below hx);have hK':∀ ww v,FG ww v ((Y2-X2)%fp)→Below w'.heap.size w' ww→K _ ww:=fun ww v hg hb=>hK ww v (by simpa using hg) (hx.trans (hb.mono hx.size)) hb
   clear hK;rw[if_pos (by rfl)];go_simp;try simp only[d6,d8]
   refine A.mono ?_;rintro e w9 ⟨g',c',rfl,_,_,hf,hb⟩;have hK2:=hK' w9 _ ⟨g',c',rfl,hf⟩ hb;clear hK' A hf hb;go_simp;simpa[upd,d6,d8] using hK2
  ·have h4:FG w' (t 4) ((Y1-X1)%fp):=by simpa using hdep ⟨4,.data⟩ (by simp) rfl
   refine h4.elim_ fun g4 c4 d4 f4=>?_
   clear h4;have h9:FG w' (t 9) ((Y2-X2)%fp):=by simpa using hdep ⟨9,.data⟩ (by simp) rfl
   refine h9.elim_ fun g9 c9 d9 f9=>?_
   clear h9;clear hdep;have A:=fmul_any (some ⟨g4,0,none⟩) (some ⟨g9,0,none⟩) c4 c9 _ _ w' f4 f9;have hK':∀ ww v,FG ww v (((Y1-X1)%fp)*((Y2-X2)%fp)%fp)→Below w'.heap.size w' ww→K _ ww:=fun ww v hg hb=>hK ww v (by simpa using hg) (hx.trans (hb.mono hx.size)) hb
   clear hK;rw[if_pos (by rfl)];go_simp;try simp only[d4,d9]
   refine A.mono ?_;rintro e w9 ⟨g',c',rfl,_,_,hf,hb⟩;have hK2:=hK' w9 _ ⟨g',c',rfl,hf⟩ hb;clear hK' A hf hb;go_simp;simpa[upd,d4,d9] using hK2
  ·have h10:FG w' (t 10) (((Y1-X1)%fp)*((Y2-X2)%fp)%fp):=by simpa using hdep ⟨10,.data⟩ (by simp) rfl
   refine h10.elim_ fun g10 c10 d10 f10=>?_
   clear h10;clear hdep;have hK':=hK w' (.slice (some ⟨g10,0,none⟩) 16 c10) (by simpa using⟨g10,c10,rfl,f10⟩) hx (Below.refl _ _);clear hK;rw[if_pos (by rfl)];go_simp;simpa[upd,d10] using hK'
 case hdone=>
  intro L t1 w1 hx hg;have f11:FG w1 (t1 11) (((Y1-X1)%fp)*((Y2-X2)%fp)%fp):=by simpa using hg 11 (by decide)
  clear hg;obtain⟨ggA,ccA,eA,ff⟩:=f11.get;have HP1:Hid (PtW w1 w.heap.size #[.slice a0 16 c0,.slice a1 16 c1,.slice a2 16 c2,.slice a3 16 c3]):=HP.out.below hx HP.out.lt;have HQ1:Hid (PtW w1 (w.heap.size+1) #[.slice b0 16 e0,.slice b1 16 e1,.slice b2 16 e2,.slice b3 16 e3]):=HQ.out.below hx HQ.out.lt;have HZ1:Hid (PtW w1 (w.heap.size+1+1) #[.slice none 0 0,.slice none 0 0,.slice none 0 0,.slice none 0 0]):=HZ.out.below hx HZ.out.lt;have SRK1:Hid (SR w w1 [(a0,X1),(a1,Y1),(a2,Z1),(a3,T1),(b0,X2),(b1,Y2),(b2,Z2),(b3,T2),(ad,D),(some ⟨ggA,0,none⟩,smA X1 Y1 X2 Y2)]):=SRK.out.more hx ff;clear HP HQ HZ SRK hx ff;simp only[eA];clear eA;go_wp2_with fail;refine wp_region_any (by kernel_rfl) ?_;refine wpAny_slotsG (fun _ w w'=>Below w.heap.size w w') (frame:=(fun (a b c d e f g h i j k l m n o p q r s u v w x y z A B C D E F G H I J K L M N O P Q R S T U V W X Y Z a0 a1 a2 a3 a4 a5 a6 a7 a8 a9 b0 b1 b2 b3 b4 b5:Value)=>fun (t:Nat→Value)=>({ tmps:=List.toArray [a,b,c,d,e,f,g,h,t 11,i,j,k,l,m,n,o,p,q,r,s,u,v,w,x,y,z,t 0,t 1,t 2,t 3,t 4,t 5,t 6,t 7,t 8,t 9,t 10,A,B,C,D,E,F,G,H,I,J,K,L,M,N,O,P,Q,R,S,T,U,V,W,X,Y,Z,a0,a1,a2,a3,a4,a5,a6,a7,a8,a9,b0,b1,b2,b3,b4,b5],defers:=[] }:Act)) _ _ _ _ _ _ _ _ _ _ _ _ _ _ _ _ _ _ _ _ _ _ _ _ _ _ _ _ _ _ _ _ _ _ _ _ _ _ _ _ _ _ _ _ _ _ _ _ _ _ _ _ _ _ _ _ _ _ _ _ _ _ _ _ _ _ _)
   (Ext:=fun L w'=>Below w1.heap.size w1 w') (Good:=fun i L w' v=>if i=0 then v=.pointer (some ⟨w.heap.size,1,none⟩) else if i=1 then v=.slice a1 16 c1 else if i=2 then v=.pointer (some ⟨w.heap.size,0,none⟩) else if i=3 then v=.slice a0 16 c0 else if i=4 then FG w' v ((Y1+X1)%fp) else if i=5 then v=.pointer (some ⟨(w.heap.size+1),1,none⟩) else if i=6 then v=.slice b1 16 e1 else if i=7 then v=.pointer (some ⟨(w.heap.size+1),0,none⟩) else if i=8 then v=.slice b0 16 e0 else if i=9 then FG w' v ((Y2+X2)%fp) else if i=10 then FG w' v (((Y1+X1)%fp)*((Y2+X2)%fp)%fp) else if i=11 then FG w' v (((Y1+X1)%fp)*((Y2+X2)%fp)%fp) else True) ?hstab (by kernel_rfl) ?hop ?hdone _ _ ((fun (x0 x1 x2 x3 x4 x5 x6 x7 x8 x9 x10 x11:Value)=>fun (i:Nat)=>if i=0 then x0 else if i=1 then x1 else if i=2 then x2 else if i=3 then x3 else if i=4 then x4 else if i=5 then x5 else if i=6 then x6 else if i=7 then x7 else if i=8 then x8 else if i=9 then x9 else if i=10 then x10 else if i=11 then x11 else undef) _ _ _ _ _ _ _ _ _ _ _ _) _ (by simp) ?ext ?start (by simp)
  case start=>intro i hi h;exact absurd h (by rw[Array.getD_eq_getD_getElem?,Array.getElem?_replicate];split<;>simp)
  case ext=>exact⟨rfl,rfl,rfl,Nat.le_refl _,fun _ _=>rfl⟩
  case hstab=>
   intro j L w9 w' i v hM _ _ h;by_cases h4:j=4
   ·subst h4;simp at h ⊢;exact h.below hM
   by_cases h9:j=9
   ·subst h9;simp at h ⊢;exact h.below hM
   by_cases h10:j=10
   ·subst h10;simp at h ⊢;exact h.below hM
   by_cases h11:j=11
   ·subst h11;simp at h ⊢;exact h.below hM
   simp only[if_neg h4,if_neg h9,if_neg h10,if_neg h11] at h ⊢;exact h
  case hop=>
   intro i o L t w' ho hLi hx hdep K hK;have hi:i<12:=(Array.getElem?_eq_some_iff.1 ho).1;obtain rfl|rfl|rfl|rfl|rfl|rfl|rfl|rfl|rfl|rfl|rfl|rfl:i=0∨i=1∨i=2∨i=3∨i=4∨i=5∨i=6∨i=7∨i=8∨i=9∨i=10∨i=11:=by omega
   all_goals(simp at ho;subst ho)
   ·clear hdep;have hK':=hK w' (.pointer (some ⟨w.heap.size,1,none⟩)) (by simp) hx (Below.refl _ _);clear hK;rw[if_pos (by rfl)];go_simp;simpa[upd] using hK'
   ·have d0:t 0=.pointer (some ⟨w.heap.size,1,none⟩):=by simpa using hdep ⟨0,.data⟩ (by simp) rfl
    clear hdep;have cc:=(HP1.out.below hx HP1.out.lt).c1;have hK':=hK w' (.slice a1 16 c1) (by simp) hx (Below.refl _ _);clear hK;rw[if_pos (by rfl)];go_simp;simpa[upd,d0] using hK'
   ·clear hdep;have hK':=hK w' (.pointer (some ⟨w.heap.size,0,none⟩)) (by simp) hx (Below.refl _ _);clear hK;rw[if_pos (by rfl)];go_simp;simpa[upd] using hK'
   ·have d2:t 2=.pointer (some ⟨w.heap.size,0,none⟩):=by simpa using hdep ⟨2,.data⟩ (by simp) rfl
    clear hdep;have cc:=(HP1.out.below hx HP1.out.lt).c0;have hK':=hK w' (.slice a0 16 c0) (by simp) hx (Below.refl _ _);clear hK;rw[if_pos (by rfl)];go_simp;simpa[upd,d2] using hK'
   ·have d1:t 1=.slice a1 16 c1:=by simpa using hdep ⟨1,.data⟩ (by simp) rfl
    have d3:t 3=.slice a0 16 c0:=by simpa using hdep ⟨3,.data⟩ (by simp) rfl
    clear hdep;have A:=fadd_any a1 a0 c1 c0 Y1 X1 w' ((SRK1.out.at 1 _ _ rfl).below hx) ((SRK1.out.at 0 _ _ rfl).below hx);have hK':∀ ww v,FG ww v ((Y1+X1)%fp)→Below w'.heap.size w' ww→K _ ww:=fun ww v hg hb=>hK ww v (by simpa using hg) (hx.trans (hb.mono hx.size)) hb
    clear hK;rw[if_pos (by rfl)];go_simp;try simp only[d1,d3]
    refine A.mono ?_;rintro e w9 ⟨g',c',rfl,_,_,hf,hb⟩;have hK2:=hK' w9 _ ⟨g',c',rfl,hf⟩ hb;clear hK' A hf hb;go_simp;simpa[upd,d1,d3] using hK2
   ·clear hdep;have hK':=hK w' (.pointer (some ⟨(w.heap.size+1),1,none⟩)) (by simp) hx (Below.refl _ _);clear hK;rw[if_pos (by rfl)];go_simp;simpa[upd] using hK'
   ·have d5:t 5=.pointer (some ⟨(w.heap.size+1),1,none⟩):=by simpa using hdep ⟨5,.data⟩ (by simp) rfl
    clear hdep;have cc:=(HQ1.out.below hx HQ1.out.lt).c1;have hK':=hK w' (.slice b1 16 e1) (by simp) hx (Below.refl _ _);clear hK;rw[if_pos (by rfl)];go_simp;simpa[upd,d5] using hK'
   ·clear hdep;have hK':=hK w' (.pointer (some ⟨(w.heap.size+1),0,none⟩)) (by simp) hx (Below.refl _ _);clear hK;rw[if_pos (by rfl)];go_simp;simpa[upd] using hK'
   ·have d7:t 7=.pointer (some ⟨(w.heap.size+1),0,none⟩):=by simpa using hdep ⟨7,.data⟩ (by simp) rfl
    clear hdep;have cc:=(HQ1.out.below hx HQ1.out.lt).c0;have hK':=hK w' (.slice b0 16 e0) (by simp) hx (Below.refl _ _);clear hK;rw[if_pos (by rfl)];go_simp;simpa[upd,d7] using hK'
   ·have d6:t 6=.slice b1 16 e1:=by simpa using hdep ⟨6,.data⟩ (by simp) rfl
    have d8:t 8=.slice b0 16 e0:=by simpa using hdep ⟨8,.data⟩ (by simp) rfl
    clear hdep;have A:=fadd_any b1 b0 e1 e0 Y2 X2 w' ((SRK1.out.at 5 _ _ rfl).below hx) ((SRK1.out.at 4 _ _ rfl).below hx);have hK':∀ ww v,FG ww v ((Y2+X2)%fp)→Below w'.heap.size w' ww→K _ ww:=fun ww v hg hb=>hK ww v (by simpa using hg) (hx.trans (hb.mono hx.size)) hb
    clear hK;rw[if_pos (by rfl)];go_simp;try simp only[d6,d8]
    refine A.mono ?_;rintro e w9 ⟨g',c',rfl,_,_,hf,hb⟩;have hK2:=hK' w9 _ ⟨g',c',rfl,hf⟩ hb;clear hK' A hf hb;go_simp;simpa[upd,d6,d8] using hK2
   ·have h4:FG w' (t 4) ((Y1+X1)%fp):=by simpa using hdep ⟨4,.data⟩ (by simp) rfl
    refine h4.elim_ fun g4 c4 d4 f4=>?_
    clear h4;have h9:FG w' (t 9) ((Y2+X2)%fp):=by simpa using hdep ⟨9,.data⟩ (by simp) rfl
    refine h9.elim_ fun g9 c9 d9 f9=>?_
    clear h9;clear hdep;have A:=fmul_any (some ⟨g4,0,none⟩) (some ⟨g9,0,none⟩) c4 c9 _ _ w' f4 f9;have hK':∀ ww v,FG ww v (((Y1+X1)%fp)*((Y2+X2)%fp)%fp)→Below w'.heap.size w' ww→K _ ww:=fun ww v hg hb=>hK ww v (by simpa using hg) (hx.trans (hb.mono hx.size)) hb
    clear hK;rw[if_pos (by rfl)];go_simp;try simp only[d4,d9]
    refine A.mono ?_;rintro e w9 ⟨g',c',rfl,_,_,hf,hb⟩;have hK2:=hK' w9 _ ⟨g',c',rfl,hf⟩ hb;clear hK' A hf hb;go_simp;simpa[upd,d4,d9] using hK2
   ·have h10:FG w' (t 10) (((Y1+X1)%fp)*((Y2+X2)%fp)%fp):=by simpa using hdep ⟨10,.data⟩ (by simp) rfl
    refine h10.elim_ fun g10 c10 d10 f10=>?_
    clear h10;clear hdep;have hK':=hK w' (.slice (some ⟨g10,0,none⟩) 16 c10) (by simpa using⟨g10,c10,rfl,f10⟩) hx (Below.refl _ _);clear hK;rw[if_pos (by rfl)];go_simp;simpa[upd,d10] using hK'
  case hdone=>
   intro L t2 w2 hx hg;have f11:FG w2 (t2 11) (((Y1+X1)%fp)*((Y2+X2)%fp)%fp):=by simpa using hg 11 (by decide)
   clear hg;obtain⟨ggB,ccB,eB,ff⟩:=f11.get;have HP2:Hid (PtW w2 w.heap.size #[.slice a0 16 c0,.slice a1 16 c1,.slice a2 16 c2,.slice a3 16 c3]):=HP1.out.below hx HP1.out.lt;have HQ2:Hid (PtW w2 (w.heap.size+1) #[.slice b0 16 e0,.slice b1 16 e1,.slice b2 16 e2,.slice b3 16 e3]):=HQ1.out.below hx HQ1.out.lt;have HZ2:Hid (PtW w2 (w.heap.size+1+1) #[.slice none 0 0,.slice none 0 0,.slice none 0 0,.slice none 0 0]):=HZ1.out.below hx HZ1.out.lt;have SRK2:Hid (SR w w2 [(a0,X1),(a1,Y1),(a2,Z1),(a3,T1),(b0,X2),(b1,Y2),(b2,Z2),(b3,T2),(ad,D),(some ⟨ggA,0,none⟩,smA X1 Y1 X2 Y2),(some ⟨ggB,0,none⟩,smB X1 Y1 X2 Y2)]):=SRK1.out.more hx ff;clear HP1 HQ1 HZ1 SRK1 hx ff;simp only[eB];clear eB;go_wp2_with fail;refine wp_region_any (by kernel_rfl) ?_;refine wpAny_slotsG (fun _ w w'=>Below w.heap.size w w') (frame:=(fun (a b c d e f g h i j k l m n o p q r s u v w x y z A B C D E F G H I J K L M N O P Q R S T U V W X Y Z a0 a1 a2 a3 a4 a5 a6 a7 a8 a9 b0 b1 b2 b3 b4 b5 b6 b7:Value)=>fun (t:Nat→Value)=>({ tmps:=List.toArray [a,b,c,d,e,f,g,h,i,t 9,j,k,l,m,n,o,p,q,r,s,u,v,w,x,y,z,A,B,C,D,E,F,G,H,I,J,K,t 0,t 1,t 2,t 3,t 4,t 5,t 6,t 7,t 8,L,M,N,O,P,Q,R,S,T,U,V,W,X,Y,Z,a0,a1,a2,a3,a4,a5,a6,a7,a8,a9,b0,b1,b2,b3,b4,b5,b6,b7],defers:=[] }:Act)) _ _ _ _ _ _ _ _ _ _ _ _ _ _ _ _ _ _ _ _ _ _ _ _ _ _ _ _ _ _ _ _ _ _ _ _ _ _ _ _ _ _ _ _ _ _ _ _ _ _ _ _ _ _ _ _ _ _ _ _ _ _ _ _ _ _ _ _ _)
    (Ext:=fun L w'=>Below w2.heap.size w2 w') (Good:=fun i L w' v=>if i=0 then v=.slice ad 16 cd else if i=1 then v=.slice ad 16 cd else if i=2 then FG w' v ((D+D)%fp) else if i=3 then v=.pointer (some ⟨w.heap.size,3,none⟩) else if i=4 then v=.slice a3 16 c3 else if i=5 then FG w' v (((D+D)%fp)*T1%fp) else if i=6 then v=.pointer (some ⟨(w.heap.size+1),3,none⟩) else if i=7 then v=.slice b3 16 e3 else if i=8 then FG w' v ((((D+D)%fp)*T1%fp)*T2%fp) else if i=9 then FG w' v ((((D+D)%fp)*T1%fp)*T2%fp) else True) ?hstab (by kernel_rfl) ?hop ?hdone _ _ ((fun (x0 x1 x2 x3 x4 x5 x6 x7 x8 x9:Value)=>fun (i:Nat)=>if i=0 then x0 else if i=1 then x1 else if i=2 then x2 else if i=3 then x3 else if i=4 then x4 else if i=5 then x5 else if i=6 then x6 else if i=7 then x7 else if i=8 then x8 else if i=9 then x9 else undef) _ _ _ _ _ _ _ _ _ _) _ (by simp) ?ext ?start (by simp)
   case start=>intro i hi h;exact absurd h (by rw[Array.getD_eq_getD_getElem?,Array.getElem?_replicate];split<;>simp)
   case ext=>exact⟨rfl,rfl,rfl,Nat.le_refl _,fun _ _=>rfl⟩
   case hstab=>
    intro j L w9 w' i v hM _ _ h;by_cases h2:j=2
    ·subst h2;simp at h ⊢;exact h.below hM
    by_cases h5:j=5
    ·subst h5;simp at h ⊢;exact h.below hM
    by_cases h8:j=8
    ·subst h8;simp at h ⊢;exact h.below hM
    by_cases h9:j=9
    ·subst h9;simp at h ⊢;exact h.below hM
    simp only[if_neg h2,if_neg h5,if_neg h8,if_neg h9] at h ⊢;exact h
   case hop=>
    intro i o L t w' ho hLi hx hdep K hK;have hi:i<10:=(Array.getElem?_eq_some_iff.1 ho).1;obtain rfl|rfl|rfl|rfl|rfl|rfl|rfl|rfl|rfl|rfl:i=0∨i=1∨i=2∨i=3∨i=4∨i=5∨i=6∨i=7∨i=8∨i=9:=by omega
    all_goals(simp at ho;subst ho)
    ·clear hdep;have hK':=hK w' (.slice ad 16 cd) (by simp) hx (Below.refl _ _);clear hK;rw[if_pos (by rfl)];go_simp;simpa[upd] using hK'
    ·clear hdep;have hK':=hK w' (.slice ad 16 cd) (by simp) hx (Below.refl _ _);clear hK;rw[if_pos (by rfl)];go_simp;simpa[upd] using hK'
    ·have d0:t 0=.slice ad 16 cd:=by simpa using hdep ⟨0,.data⟩ (by simp) rfl
     have d1:t 1=.slice ad 16 cd:=by simpa using hdep ⟨1,.data⟩ (by simp) rfl
     clear hdep;have A:=fadd_any ad ad cd cd D D w' ((SRK2.out.at 8 _ _ rfl).below hx) ((SRK2.out.at 8 _ _ rfl).below hx);have hK':∀ ww v,FG ww v ((D+D)%fp)→Below w'.heap.size w' ww→K _ ww:=fun ww v hg hb=>hK ww v (by simpa using hg) (hx.trans (hb.mono hx.size)) hb
     clear hK;rw[if_pos (by rfl)];go_simp;try simp only[d0,d1]
     refine A.mono ?_;rintro e w9 ⟨g',c',rfl,_,_,hf,hb⟩;have hK2:=hK' w9 _ ⟨g',c',rfl,hf⟩ hb;clear hK' A hf hb;go_simp;simpa[upd,d0,d1] using hK2
    ·clear hdep;have hK':=hK w' (.pointer (some ⟨w.heap.size,3,none⟩)) (by simp) hx (Below.refl _ _);clear hK;rw[if_pos (by rfl)];go_simp;simpa[upd] using hK'
    ·have d3:t 3=.pointer (some ⟨w.heap.size,3,none⟩):=by simpa using hdep ⟨3,.data⟩ (by simp) rfl
     clear hdep;have cc:=(HP2.out.below hx HP2.out.lt).c3;have hK':=hK w' (.slice a3 16 c3) (by simp) hx (Below.refl _ _);clear hK;rw[if_pos (by rfl)];go_simp;simpa[upd,d3] using hK'
    ·have h2:FG w' (t 2) ((D+D)%fp):=by simpa using hdep ⟨2,.data⟩ (by simp) rfl
     refine h2.elim_ fun g2 c2 d2 f2=>?_
     clear h2;have d4:t 4=.slice a3 16 c3:=by simpa using hdep ⟨4,.data⟩ (by simp) rfl
     clear hdep;have A:=fmul_any (some ⟨g2,0,none⟩) a3 c2 c3 _ T1 w' f2 ((SRK2.out.at 3 _ _ rfl).below hx);have hK':∀ ww v,FG ww v (((D+D)%fp)*T1%fp)→Below w'.heap.size w' ww→K _ ww:=fun ww v hg hb=>hK ww v (by simpa using hg) (hx.trans (hb.mono hx.size)) hb
     clear hK;rw[if_pos (by rfl)];go_simp;try simp only[d2,d4]
     refine A.mono ?_;rintro e w9 ⟨g',c',rfl,_,_,hf,hb⟩;have hK2:=hK' w9 _ ⟨g',c',rfl,hf⟩ hb;clear hK' A hf hb;go_simp;simpa[upd,d2,d4] using hK2
    ·clear hdep;have hK':=hK w' (.pointer (some ⟨(w.heap.size+1),3,none⟩)) (by simp) hx (Below.refl _ _);clear hK;rw[if_pos (by rfl)];go_simp;simpa[upd] using hK'
    ·have d6:t 6=.pointer (some ⟨(w.heap.size+1),3,none⟩):=by simpa using hdep ⟨6,.data⟩ (by simp) rfl
     clear hdep;have cc:=(HQ2.out.below hx HQ2.out.lt).c3;have hK':=hK w' (.slice b3 16 e3) (by simp) hx (Below.refl _ _);clear hK;rw[if_pos (by rfl)];go_simp;simpa[upd,d6] using hK'
    ·have h5:FG w' (t 5) (((D+D)%fp)*T1%fp):=by simpa using hdep ⟨5,.data⟩ (by simp) rfl
     refine h5.elim_ fun g5 c5 d5 f5=>?_
     clear h5;have d7:t 7=.slice b3 16 e3:=by simpa using hdep ⟨7,.data⟩ (by simp) rfl
     clear hdep;have A:=fmul_any (some ⟨g5,0,none⟩) b3 c5 e3 _ T2 w' f5 ((SRK2.out.at 7 _ _ rfl).below hx);have hK':∀ ww v,FG ww v ((((D+D)%fp)*T1%fp)*T2%fp)→Below w'.heap.size w' ww→K _ ww:=fun ww v hg hb=>hK ww v (by simpa using hg) (hx.trans (hb.mono hx.size)) hb
     clear hK;rw[if_pos (by rfl)];go_simp;try simp only[d5,d7]
     refine A.mono ?_;rintro e w9 ⟨g',c',rfl,_,_,hf,hb⟩;have hK2:=hK' w9 _ ⟨g',c',rfl,hf⟩ hb;clear hK' A hf hb;go_simp;simpa[upd,d5,d7] using hK2
    ·have h8:FG w' (t 8) ((((D+D)%fp)*T1%fp)*T2%fp):=by simpa using hdep ⟨8,.data⟩ (by simp) rfl
     refine h8.elim_ fun g8 c8 d8 f8=>?_
     clear h8;clear hdep;have hK':=hK w' (.slice (some ⟨g8,0,none⟩) 16 c8) (by simpa using⟨g8,c8,rfl,f8⟩) hx (Below.refl _ _);clear hK;rw[if_pos (by rfl)];go_simp;simpa[upd,d8] using hK'
   case hdone=>
    intro L t3 w3 hx hg;have f9:FG w3 (t3 9) ((((D+D)%fp)*T1%fp)*T2%fp):=by simpa using hg 9 (by decide)
    clear hg;obtain⟨ggC,ccC,eC,ff⟩:=f9.get;have HP3:Hid (PtW w3 w.heap.size #[.slice a0 16 c0,.slice a1 16 c1,.slice a2 16 c2,.slice a3 16 c3]):=HP2.out.below hx HP2.out.lt;have HQ3:Hid (PtW w3 (w.heap.size+1) #[.slice b0 16 e0,.slice b1 16 e1,.slice b2 16 e2,.slice b3 16 e3]):=HQ2.out.below hx HQ2.out.lt;have HZ3:Hid (PtW w3 (w.heap.size+1+1) #[.slice none 0 0,.slice none 0 0,.slice none 0 0,.slice none 0 0]):=HZ2.out.below hx HZ2.out.lt;have SRK3:Hid (SR w w3 [(a0,X1),(a1,Y1),(a2,Z1),(a3,T1),(b0,X2),(b1,Y2),(b2,Z2),(b3,T2),(ad,D),(some ⟨ggA,0,none⟩,smA X1 Y1 X2 Y2),(some ⟨ggB,0,none⟩,smB X1 Y1 X2 Y2),(some ⟨ggC,0,none⟩,smC D T1 T2)]):=SRK2.out.more hx ff;clear HP2 HQ2 HZ2 SRK2 hx ff;simp only[eC];clear eC;go_wp2_with fail;refine wp_region_any (by kernel_rfl) ?_;refine wpAny_slotsG (fun _ w w'=>Below w.heap.size w w') (frame:=(fun (a b c d e f g h i j k l m n o p q r s u v w x y z A B C D E F G H I J K L M N O P Q R S T U V W X Y Z a0 a1 a2 a3 a4 a5 a6 a7 a8 a9 b0 b1 b2 b3 b4 b5 b6 b7 b8:Value)=>fun (t:Nat→Value)=>({ tmps:=List.toArray [a,b,c,d,e,f,g,h,i,j,t 8,k,l,m,n,o,p,q,r,s,u,v,w,x,y,z,A,B,C,D,E,F,G,H,I,J,K,L,M,N,O,P,Q,R,S,T,t 0,t 1,t 2,t 3,t 4,t 5,t 6,t 7,U,V,W,X,Y,Z,a0,a1,a2,a3,a4,a5,a6,a7,a8,a9,b0,b1,b2,b3,b4,b5,b6,b7,b8],defers:=[] }:Act)) _ _ _ _ _ _ _ _ _ _ _ _ _ _ _ _ _ _ _ _ _ _ _ _ _ _ _ _ _ _ _ _ _ _ _ _ _ _ _ _ _ _ _ _ _ _ _ _ _ _ _ _ _ _ _ _ _ _ _ _ _ _ _ _ _ _ _ _ _ _)
     (Ext:=fun L w'=>Below w3.heap.size w3 w') (Good:=fun i L w' v=>if i=0 then v=.pointer (some ⟨w.heap.size,2,none⟩) else if i=1 then v=.slice a2 16 c2 else if i=2 then v=.pointer (some ⟨w.heap.size,2,none⟩) else if i=3 then v=.slice a2 16 c2 else if i=4 then FG w' v ((Z1+Z1)%fp) else if i=5 then v=.pointer (some ⟨(w.heap.size+1),2,none⟩) else if i=6 then v=.slice b2 16 e2 else if i=7 then FG w' v (((Z1+Z1)%fp)*Z2%fp) else if i=8 then FG w' v (((Z1+Z1)%fp)*Z2%fp) else True) ?hstab (by kernel_rfl) ?hop ?hdone _ _ ((fun (x0 x1 x2 x3 x4 x5 x6 x7 x8:Value)=>fun (i:Nat)=>if i=0 then x0 else if i=1 then x1 else if i=2 then x2 else if i=3 then x3 else if i=4 then x4 else if i=5 then x5 else if i=6 then x6 else if i=7 then x7 else if i=8 then x8 else undef) _ _ _ _ _ _ _ _ _) _ (by simp) ?ext ?start (by simp)
    case start=>intro i hi h;exact absurd h (by rw[Array.getD_eq_getD_getElem?,Array.getElem?_replicate];split<;>simp)
    case ext=>exact⟨rfl,rfl,rfl,Nat.le_refl _,fun _ _=>rfl⟩
    case hstab=>
     intro j L w9 w' i v hM _ _ h;by_cases h4:j=4
     ·subst h4;simp at h ⊢;exact h.below hM
     by_cases h7:j=7
     ·subst h7;simp at h ⊢;exact h.below hM
     by_cases h8:j=8
     ·subst h8;simp at h ⊢;exact h.below hM
     simp only[if_neg h4,if_neg h7,if_neg h8] at h ⊢;exact h
    case hop=>
     intro i o L t w' ho hLi hx hdep K hK;have hi:i<9:=(Array.getElem?_eq_some_iff.1 ho).1;obtain rfl|rfl|rfl|rfl|rfl|rfl|rfl|rfl|rfl:i=0∨i=1∨i=2∨i=3∨i=4∨i=5∨i=6∨i=7∨i=8:=by omega
     all_goals(simp at ho;subst ho)
     ·clear hdep;have hK':=hK w' (.pointer (some ⟨w.heap.size,2,none⟩)) (by simp) hx (Below.refl _ _);clear hK;rw[if_pos (by rfl)];go_simp;simpa[upd] using hK'
     ·have d0:t 0=.pointer (some ⟨w.heap.size,2,none⟩):=by simpa using hdep ⟨0,.data⟩ (by simp) rfl
      clear hdep;have cc:=(HP3.out.below hx HP3.out.lt).c2;have hK':=hK w' (.slice a2 16 c2) (by simp) hx (Below.refl _ _);clear hK;rw[if_pos (by rfl)];go_simp;simpa[upd,d0] using hK'
     ·clear hdep;have hK':=hK w' (.pointer (some ⟨w.heap.size,2,none⟩)) (by simp) hx (Below.refl _ _);clear hK;rw[if_pos (by rfl)];go_simp;simpa[upd] using hK'
     ·have d2:t 2=.pointer (some ⟨w.heap.size,2,none⟩):=by simpa using hdep ⟨2,.data⟩ (by simp) rfl
      clear hdep;have cc:=(HP3.out.below hx HP3.out.lt).c2;have hK':=hK w' (.slice a2 16 c2) (by simp) hx (Below.refl _ _);clear hK;rw[if_pos (by rfl)];go_simp;simpa[upd,d2] using hK'
     ·have d1:t 1=.slice a2 16 c2:=by simpa using hdep ⟨1,.data⟩ (by simp) rfl
      have d3:t 3=.slice a2 16 c2:=by simpa using hdep ⟨3,.data⟩ (by simp) rfl
      clear hdep;have A:=fadd_any a2 a2 c2 c2 Z1 Z1 w' ((SRK3.out.at 2 _ _ rfl).below hx) ((SRK3.out.at 2 _ _ rfl).below hx);have hK':∀ ww v,FG ww v ((Z1+Z1)%fp)→Below w'.heap.size w' ww→K _ ww:=fun ww v hg hb=>hK ww v (by simpa using hg) (hx.trans (hb.mono hx.size)) hb
      clear hK;rw[if_pos (by rfl)];go_simp;try simp only[d1,d3]
      refine A.mono ?_;rintro e w9 ⟨g',c',rfl,_,_,hf,hb⟩;have hK2:=hK' w9 _ ⟨g',c',rfl,hf⟩ hb;clear hK' A hf hb;go_simp;simpa[upd,d1,d3] using hK2
     ·clear hdep;have hK':=hK w' (.pointer (some ⟨(w.heap.size+1),2,none⟩)) (by simp) hx (Below.refl _ _);clear hK;rw[if_pos (by rfl)];go_simp;simpa[upd] using hK'
     ·have d5:t 5=.pointer (some ⟨(w.heap.size+1),2,none⟩):=by simpa using hdep ⟨5,.data⟩ (by simp) rfl
      clear hdep;have cc:=(HQ3.out.below hx HQ3.out.lt).c2;have hK':=hK w' (.slice b2 16 e2) (by simp) hx (Below.refl _ _);clear hK;rw[if_pos (by rfl)];go_simp;simpa[upd,d5] using hK'
     ·have h4:FG w' (t 4) ((Z1+Z1)%fp):=by simpa using hdep ⟨4,.data⟩ (by simp) rfl
      refine h4.elim_ fun g4 c4 d4 f4=>?_
      clear h4;have d6:t 6=.slice b2 16 e2:=by simpa using hdep ⟨6,.data⟩ (by simp) rfl
      clear hdep;have A:=fmul_any (some ⟨g4,0,none⟩) b2 c4 e2 _ Z2 w' f4 ((SRK3.out.at 6 _ _ rfl).below hx);have hK':∀ ww v,FG ww v (((Z1+Z1)%fp)*Z2%fp)→Below w'.heap.size w' ww→K _ ww:=fun ww v hg hb=>hK ww v (by simpa using hg) (hx.trans (hb.mono hx.size)) hb
      clear hK;rw[if_pos (by rfl)];go_simp;try simp only[d4,d6]
      refine A.mono ?_;rintro e w9 ⟨g',c',rfl,_,_,hf,hb⟩;have hK2:=hK' w9 _ ⟨g',c',rfl,hf⟩ hb;clear hK' A hf hb;go_simp;simpa[upd,d4,d6] using hK2
     ·have h7:FG w' (t 7) (((Z1+Z1)%fp)*Z2%fp):=by simpa using hdep ⟨7,.data⟩ (by simp) rfl
      refine h7.elim_ fun g7 c7 d7 f7=>?_
      clear h7;clear hdep;have hK':=hK w' (.slice (some ⟨g7,0,none⟩) 16 c7) (by simpa using⟨g7,c7,rfl,f7⟩) hx (Below.refl _ _);clear hK;rw[if_pos (by rfl)];go_simp;simpa[upd,d7] using hK'
    case hdone=>
     intro L t4 w4 hx hg;have f8:FG w4 (t4 8) (((Z1+Z1)%fp)*Z2%fp):=by simpa using hg 8 (by decide)
     clear hg;obtain⟨ggG,ccG,eG,ff⟩:=f8.get;have HP4:Hid (PtW w4 w.heap.size #[.slice a0 16 c0,.slice a1 16 c1,.slice a2 16 c2,.slice a3 16 c3]):=HP3.out.below hx HP3.out.lt;have HQ4:Hid (PtW w4 (w.heap.size+1) #[.slice b0 16 e0,.slice b1 16 e1,.slice b2 16 e2,.slice b3 16 e3]):=HQ3.out.below hx HQ3.out.lt;have HZ4:Hid (PtW w4 (w.heap.size+1+1) #[.slice none 0 0,.slice none 0 0,.slice none 0 0,.slice none 0 0]):=HZ3.out.below hx HZ3.out.lt;have SRK4:Hid (SR w w4 [(a0,X1),(a1,Y1),(a2,Z1),(a3,T1),(b0,X2),(b1,Y2),(b2,Z2),(b3,T2),(ad,D),(some ⟨ggA,0,none⟩,smA X1 Y1 X2 Y2),(some ⟨ggB,0,none⟩,smB X1 Y1 X2 Y2),(some ⟨ggC,0,none⟩,smC D T1 T2),(some ⟨ggG,0,none⟩,smG Z1 Z2)]):=SRK3.out.more hx ff;clear HP3 HQ3 HZ3 SRK3 hx ff;simp only[eG];clear eG;go_wp2_with fail;clear HP4 HQ4;refine(fsub_any _ _ ccB ccA _ _ _ (SRK4.out.at 10 _ _ rfl) (SRK4.out.at 9 _ _ rfl)).mono ?_;rintro e w5 ⟨gE,kE,rfl,hk1,hl1,hf,hb⟩;have HZ5:Hid (PtW w5 (w.heap.size+1+1) #[.slice none 0 0,.slice none 0 0,.slice none 0 0,.slice none 0 0]):=HZ4.out.below hb HZ4.out.lt;have SRK5:Hid (SR w w5 [(a0,X1),(a1,Y1),(a2,Z1),(a3,T1),(b0,X2),(b1,Y2),(b2,Z2),(b3,T2),(ad,D),(some ⟨ggA,0,none⟩,smA X1 Y1 X2 Y2),(some ⟨ggB,0,none⟩,smB X1 Y1 X2 Y2),(some ⟨ggC,0,none⟩,smC D T1 T2),(some ⟨ggG,0,none⟩,smG Z1 Z2),(some ⟨gE,0,none⟩,(smB X1 Y1 X2 Y2-smA X1 Y1 X2 Y2)%fp)]):=SRK4.out.more hb hf;have hgE:w.heap.size+1+1<gE:=by have:=HZ4.out.lt;omega
     clear hf hb SRK4 HZ4 hk1 hl1;go_wp2_with fail;refine(fsub_any _ _ ccG ccC _ _ _ (SRK5.out.at 12 _ _ rfl) (SRK5.out.at 11 _ _ rfl)).mono ?_;rintro e w6 ⟨gF,kF,rfl,hk1,hl1,hf,hb⟩;have HZ6:Hid (PtW w6 (w.heap.size+1+1) #[.slice none 0 0,.slice none 0 0,.slice none 0 0,.slice none 0 0]):=HZ5.out.below hb HZ5.out.lt;have SRK6:Hid (SR w w6 [(a0,X1),(a1,Y1),(a2,Z1),(a3,T1),(b0,X2),(b1,Y2),(b2,Z2),(b3,T2),(ad,D),(some ⟨ggA,0,none⟩,smA X1 Y1 X2 Y2),(some ⟨ggB,0,none⟩,smB X1 Y1 X2 Y2),(some ⟨ggC,0,none⟩,smC D T1 T2),(some ⟨ggG,0,none⟩,smG Z1 Z2),(some ⟨gE,0,none⟩,(smB X1 Y1 X2 Y2-smA X1 Y1 X2 Y2)%fp),(some ⟨gF,0,none⟩,(smG Z1 Z2-smC D T1 T2)%fp)]):=SRK5.out.more hb hf;have hgF:w.heap.size+1+1<gF:=by have:=HZ5.out.lt;omega
     clear hf hb SRK5 HZ5 hk1 hl1;go_wp2_with fail;refine(fadd_any _ _ ccG ccC _ _ _ (SRK6.out.at 12 _ _ rfl) (SRK6.out.at 11 _ _ rfl)).mono ?_;rintro e w7 ⟨gH,kH,rfl,hk1,hl1,hf,hb⟩;have HZ7:Hid (PtW w7 (w.heap.size+1+1) #[.slice none 0 0,.slice none 0 0,.slice none 0 0,.slice none 0 0]):=HZ6.out.below hb HZ6.out.lt;have SRK7:Hid (SR w w7 [(a0,X1),(a1,Y1),(a2,Z1),(a3,T1),(b0,X2),(b1,Y2),(b2,Z2),(b3,T2),(ad,D),(some ⟨ggA,0,none⟩,smA X1 Y1 X2 Y2),(some ⟨ggB,0,none⟩,smB X1 Y1 X2 Y2),(some ⟨ggC,0,none⟩,smC D T1 T2),(some ⟨ggG,0,none⟩,smG Z1 Z2),(some ⟨gE,0,none⟩,(smB X1 Y1 X2 Y2-smA X1 Y1 X2 Y2)%fp),(some ⟨gF,0,none⟩,(smG Z1 Z2-smC D T1 T2)%fp),(some ⟨gH,0,none⟩,(smG Z1 Z2+smC D T1 T2)%fp)]):=SRK6.out.more hb hf;have hgH:w.heap.size+1+1<gH:=by have:=HZ6.out.lt;omega
     clear hf hb SRK6 HZ6 hk1 hl1;go_wp2_with fail;refine(fadd_any _ _ ccB ccA _ _ _ (SRK7.out.at 10 _ _ rfl) (SRK7.out.at 9 _ _ rfl)).mono ?_;rintro e w8 ⟨gK,kK,rfl,hk1,hl1,hf,hb⟩;have HZ8:Hid (PtW w8 (w.heap.size+1+1) #[.slice none 0 0,.slice none 0 0,.slice none 0 0,.slice none 0 0]):=HZ7.out.below hb HZ7.out.lt;have SRK8:Hid (SR w w8 [(a0,X1),(a1,Y1),(a2,Z1),(a3,T1),(b0,X2),(b1,Y2),(b2,Z2),(b3,T2),(ad,D),(some ⟨ggA,0,none⟩,smA X1 Y1 X2 Y2),(some ⟨ggB,0,none⟩,smB X1 Y1 X2 Y2),(some ⟨ggC,0,none⟩,smC D T1 T2),(some ⟨ggG,0,none⟩,smG Z1 Z2),(some ⟨gE,0,none⟩,(smB X1 Y1 X2 Y2-smA X1 Y1 X2 Y2)%fp),(some ⟨gF,0,none⟩,(smG Z1 Z2-smC D T1 T2)%fp),(some ⟨gH,0,none⟩,(smG Z1 Z2+smC D T1 T2)%fp),(some ⟨gK,0,none⟩,(smB X1 Y1 X2 Y2+smA X1 Y1 X2 Y2)%fp)]):=SRK7.out.more hb hf;have hgK:w.heap.size+1+1<gK:=by have:=HZ7.out.lt;omega
     clear hf hb SRK7 HZ7 hk1 hl1;go_wp2_with fail;refine(fmul_any _ _ kE kF _ _ _ (SRK8.out.at 13 _ _ rfl) (SRK8.out.at 14 _ _ rfl)).mono ?_;rintro e w9 ⟨gX,kX,rfl,hk1,hl1,hf,hb⟩;have HZ9:Hid (PtW w9 (w.heap.size+1+1) #[.slice none 0 0,.slice none 0 0,.slice none 0 0,.slice none 0 0]):=HZ8.out.below hb HZ8.out.lt;have SRK9:Hid (SR w w9 [(a0,X1),(a1,Y1),(a2,Z1),(a3,T1),(b0,X2),(b1,Y2),(b2,Z2),(b3,T2),(ad,D),(some ⟨ggA,0,none⟩,smA X1 Y1 X2 Y2),(some ⟨ggB,0,none⟩,smB X1 Y1 X2 Y2),(some ⟨ggC,0,none⟩,smC D T1 T2),(some ⟨ggG,0,none⟩,smG Z1 Z2),(some ⟨gE,0,none⟩,(smB X1 Y1 X2 Y2-smA X1 Y1 X2 Y2)%fp),(some ⟨gF,0,none⟩,(smG Z1 Z2-smC D T1 T2)%fp),(some ⟨gH,0,none⟩,(smG Z1 Z2+smC D T1 T2)%fp),(some ⟨gK,0,none⟩,(smB X1 Y1 X2 Y2+smA X1 Y1 X2 Y2)%fp),(some ⟨gX,0,none⟩,(smB X1 Y1 X2 Y2-smA X1 Y1 X2 Y2)%fp*((smG Z1 Z2-smC D T1 T2)%fp)%fp)]):=SRK8.out.more hb hf;have hgX:w.heap.size+1+1<gX:=by have:=HZ8.out.lt;omega
     clear hf hb SRK8 HZ8 hk1 hl1;go_wp2_with fail;refine(fmul_any _ _ kH kK _ _ _ (SRK9.out.at 15 _ _ rfl) (SRK9.out.at 16 _ _ rfl)).mono ?_;rintro e w10 ⟨gY,kY,rfl,hk1,hl1,hf,hb⟩;have HZ10:Hid (PtW w10 (w.heap.size+1+1) #[.slice none 0 0,.slice none 0 0,.slice none 0 0,.slice none 0 0]):=HZ9.out.below hb HZ9.out.lt;have SRK10:Hid (SR w w10 [(a0,X1),(a1,Y1),(a2,Z1),(a3,T1),(b0,X2),(b1,Y2),(b2,Z2),(b3,T2),(ad,D),(some ⟨ggA,0,none⟩,smA X1 Y1 X2 Y2),(some ⟨ggB,0,none⟩,smB X1 Y1 X2 Y2),(some ⟨ggC,0,none⟩,smC D T1 T2),(some ⟨ggG,0,none⟩,smG Z1 Z2),(some ⟨gE,0,none⟩,(smB X1 Y1 X2 Y2-smA X1 Y1 X2 Y2)%fp),(some ⟨gF,0,none⟩,(smG Z1 Z2-smC D T1 T2)%fp),(some ⟨gH,0,none⟩,(smG Z1 Z2+smC D T1 T2)%fp),(some ⟨gK,0,none⟩,(smB X1 Y1 X2 Y2+smA X1 Y1 X2 Y2)%fp),(some ⟨gX,0,none⟩,(smB X1 Y1 X2 Y2-smA X1 Y1 X2 Y2)%fp*((smG Z1 Z2-smC D T1 T2)%fp)%fp),(some ⟨gY,0,none⟩,(smG Z1 Z2+smC D T1 T2)%fp*((smB X1 Y1 X2 Y2+smA X1 Y1 X2 Y2)%fp)%fp)]):=SRK9.out.more hb hf;have hgY:w.heap.size+1+1<gY:=by have:=HZ9.out.lt;omega
     clear hf hb SRK9 HZ9 hk1 hl1;go_wp2_with fail;refine(fmul_any _ _ kF kH _ _ _ (SRK10.out.at 14 _ _ rfl) (SRK10.out.at 15 _ _ rfl)).mono ?_;rintro e w11 ⟨gZ,kZ,rfl,hk1,hl1,hf,hb⟩;have HZ11:Hid (PtW w11 (w.heap.size+1+1) #[.slice none 0 0,.slice none 0 0,.slice none 0 0,.slice none 0 0]):=HZ10.out.below hb HZ10.out.lt;have SRK11:Hid (SR w w11 [(a0,X1),(a1,Y1),(a2,Z1),(a3,T1),(b0,X2),(b1,Y2),(b2,Z2),(b3,T2),(ad,D),(some ⟨ggA,0,none⟩,smA X1 Y1 X2 Y2),(some ⟨ggB,0,none⟩,smB X1 Y1 X2 Y2),(some ⟨ggC,0,none⟩,smC D T1 T2),(some ⟨ggG,0,none⟩,smG Z1 Z2),(some ⟨gE,0,none⟩,(smB X1 Y1 X2 Y2-smA X1 Y1 X2 Y2)%fp),(some ⟨gF,0,none⟩,(smG Z1 Z2-smC D T1 T2)%fp),(some ⟨gH,0,none⟩,(smG Z1 Z2+smC D T1 T2)%fp),(some ⟨gK,0,none⟩,(smB X1 Y1 X2 Y2+smA X1 Y1 X2 Y2)%fp),(some ⟨gX,0,none⟩,(smB X1 Y1 X2 Y2-smA X1 Y1 X2 Y2)%fp*((smG Z1 Z2-smC D T1 T2)%fp)%fp),(some ⟨gY,0,none⟩,(smG Z1 Z2+smC D T1 T2)%fp*((smB X1 Y1 X2 Y2+smA X1 Y1 X2 Y2)%fp)%fp),(some ⟨gZ,0,none⟩,(smG Z1 Z2-smC D T1 T2)%fp*((smG Z1 Z2+smC D T1 T2)%fp)%fp)]):=SRK10.out.more hb hf;have hgZ:w.heap.size+1+1<gZ:=by have:=HZ10.out.lt;omega
     clear hf hb SRK10 HZ10 hk1 hl1;go_wp2_with fail;refine(fmul_any _ _ kE kK _ _ _ (SRK11.out.at 13 _ _ rfl) (SRK11.out.at 16 _ _ rfl)).mono ?_;rintro e w12 ⟨gT,kT,rfl,hk1,hl1,hf,hb⟩;have HZ12:Hid (PtW w12 (w.heap.size+1+1) #[.slice none 0 0,.slice none 0 0,.slice none 0 0,.slice none 0 0]):=HZ11.out.below hb HZ11.out.lt;have SRK12:Hid (SR w w12 [(a0,X1),(a1,Y1),(a2,Z1),(a3,T1),(b0,X2),(b1,Y2),(b2,Z2),(b3,T2),(ad,D),(some ⟨ggA,0,none⟩,smA X1 Y1 X2 Y2),(some ⟨ggB,0,none⟩,smB X1 Y1 X2 Y2),(some ⟨ggC,0,none⟩,smC D T1 T2),(some ⟨ggG,0,none⟩,smG Z1 Z2),(some ⟨gE,0,none⟩,(smB X1 Y1 X2 Y2-smA X1 Y1 X2 Y2)%fp),(some ⟨gF,0,none⟩,(smG Z1 Z2-smC D T1 T2)%fp),(some ⟨gH,0,none⟩,(smG Z1 Z2+smC D T1 T2)%fp),(some ⟨gK,0,none⟩,(smB X1 Y1 X2 Y2+smA X1 Y1 X2 Y2)%fp),(some ⟨gX,0,none⟩,(smB X1 Y1 X2 Y2-smA X1 Y1 X2 Y2)%fp*((smG Z1 Z2-smC D T1 T2)%fp)%fp),(some ⟨gY,0,none⟩,(smG Z1 Z2+smC D T1 T2)%fp*((smB X1 Y1 X2 Y2+smA X1 Y1 X2 Y2)%fp)%fp),(some ⟨gZ,0,none⟩,(smG Z1 Z2-smC D T1 T2)%fp*((smG Z1 Z2+smC D T1 T2)%fp)%fp),(some ⟨gT,0,none⟩,(smB X1 Y1 X2 Y2-smA X1 Y1 X2 Y2)%fp*((smB X1 Y1 X2 Y2+smA X1 Y1 X2 Y2)%fp)%fp)]):=SRK11.out.more hb hf;have hgT:w.heap.size+1+1<gT:=by have:=HZ11.out.lt;omega
     clear hf hb SRK11 HZ11 hk1 hl1;go_wp2_with (first
      |(refine wpList_storePt rfl (.tmp 6) (.tmp 78) rfl (w.heap.size+1+1) _ _ _ _ _ rfl rfl rfl rfl rfl rfl rfl HZ12.out ?_)
      |fail)
     intro w13 hp3 hw3;have HP3:Hid (PtW w13 (w.heap.size+1+1) #[.slice (some ⟨gX,0,none⟩) 16 kX,.slice (some ⟨gY,0,none⟩) 16 kY,.slice (some ⟨gZ,0,none⟩) 16 kZ,.slice (some ⟨gT,0,none⟩) 16 kT]):=hp3;have HF:Hid (FeA w13 (some ⟨gX,0,none⟩) ((smB X1 Y1 X2 Y2-smA X1 Y1 X2 Y2)%fp*((smG Z1 Z2-smC D T1 T2)%fp)%fp)∧FeA w13 (some ⟨gY,0,none⟩) ((smG Z1 Z2+smC D T1 T2)%fp*((smB X1 Y1 X2 Y2+smA X1 Y1 X2 Y2)%fp)%fp)∧FeA w13 (some ⟨gZ,0,none⟩) ((smG Z1 Z2-smC D T1 T2)%fp*((smG Z1 Z2+smC D T1 T2)%fp)%fp)∧FeA w13 (some ⟨gT,0,none⟩) ((smB X1 Y1 X2 Y2-smA X1 Y1 X2 Y2)%fp*((smB X1 Y1 X2 Y2+smA X1 Y1 X2 Y2)%fp)%fp)∧Below w.heap.size w w13):=
      ⟨(SRK12.out.at 17 _ _ rfl).wr hw3 (by omega),(SRK12.out.at 18 _ _ rfl).wr hw3 (by omega),(SRK12.out.at 19 _ _ rfl).wr hw3 (by omega),(SRK12.out.at 20 _ _ rfl).wr hw3 (by omega),SRK12.out.below.trans (hw3.below (by omega))⟩
     clear hp3 hw3 SRK12 HZ12;go_wp2;exact bodyPost_ret (v:=.agg #[.slice (some ⟨gX,0,none⟩) 16 kX,.slice (some ⟨gY,0,none⟩) 16 kY,.slice (some ⟨gZ,0,none⟩) 16 kZ,.slice (some ⟨gT,0,none⟩) 16 kT]) (results_cell_row rfl _ _ (w.heap.size+1+1) 109 _ (0,0) _ rfl HP3.out Tryz.underlying109 rfl Tryz.sizePt) rfl ⟨gX,kX,gY,kY,gZ,kZ,gT,kT,rfl,HF.out.1,HF.out.2.1,HF.out.2.2.1,HF.out.2.2.2.1,HF.out.2.2.2.2,by omega,by omega,by omega,by omega⟩
def blks (zs:List Int):Nat→List Int
 |0=>ivL
 |k+1=>mixL (blks zs k) (blkOf (zs.drop (128*k)))
theorem blks_w8 (zs:List Int) (k:Nat):W8 (blks zs k):=by
 cases k with
 |zero=>exact ivL_w8
 |succ k=>exact mixL_w8 _ _
def shaL (zs:List Int):List Int:=txtW (finL (blks zs (zs.length/128)) (zs.drop (128*(zs.length/128))) zs.length)
theorem finL_w8 (hs zs:List Int) (n:Int):W8 (finL hs zs n):=by
 unfold finL;split
 ·exact mixL_w8 _ _
 ·exact mixL_w8 _ _
structure KS (w:World) (G:Nat) (hs:List Int) (y:World):Prop where
 wds:RowW y G 173 hs
 tab:TabIn y
 below:Below w.heap.size w y
 hi:w.heap.size≤G
theorem KS.frg {w:World} {G:Nat} {hs hs':List Int} {y y':World} (h:KS w G hs y) (hz:1<w.heap.size) (hf:FrG G y y') (hr:RowW y' G 173 hs'):KS w G hs' y':=by
 have:=h.hi;exact⟨hr,h.tab.frg (fun k hk e=>hf.block k hk (by omega)),h.below.trans (hf.below h.hi h.below.size),h.hi⟩
theorem KS.new {w:World} {G:Nat} {hs:List Int} {y y':World} (h:KS w G hs y) (hz:1<w.heap.size) (hb:Below y.heap.size y y'):KS w G hs y':=
 ⟨h.wds.below hb h.wds.lt,h.tab.frg (fun k hk _=>hb.block k hk),h.below.trans (hb.mono h.below.size),h.hi⟩
theorem Own.lower {w:World} {B B':Nat} {v:Value} {zs:List Int} (h:Own w B' v zs) (hB:B≤B'):Own w B v zs:=by
 obtain⟨⟨h1,h2⟩,h3⟩:=h;refine⟨⟨h1,?_⟩,h3⟩;rcases h2 with h|⟨g,cap,cur,e,hg,r⟩
 ·exact .inl h
 ·exact .inr ⟨g,cap,cur,e,Nat.le_trans hB hg,r⟩
set_option maxRecDepth 100000 in
set_option maxHeartbeats 2000000 in
theorem shaI_any (a:Option Addr) (n cap:Nat) (zs:List Int) (w:World) (hn:zs.length=n) (ha:At .u8 w a zs) (hz:Byte zs) (hm:n≤2097152) (hcap:n≤cap) (hT:TabIn w) (h0:1<w.heap.size) :
  Calls Tryz.prog 107 #[.slice a n cap] w fun e w'=>∃ v,e=.returned v∧Own w' w.heap.size v (shaL zs)∧Below w.heap.size w w':=by
 have z1:=zvBlk;have z2:=zsBlk;have z3:=znBlk;have A:=hid_ofS (first_any w hT h0);have HT:=hid_ofS hT;have HA:=hid_ofS ha;have HZ:=hid_ofS hz;have HN:=hid_ofS hn;clear hn ha hz hT;go_enter Tryz.func107,Tryz.ntmps107;go_wp2_with fail;refine A.out.mono ?_;rintro e w1 ⟨rfl,b1⟩;have HB1:=hid_ofS b1;clear A b1;have HZN:Hid (RowW (w1.alloc (.cells #[.int .u64 0,.int .u64 0,.int .u64 0,.int .u64 0,.int .u64 0,.int .u64 0,.int .u64 0,.int .u64 0] 173)) w1.heap.size 173 [0,0,0,0,0,0,0,0]):=heap_alloc_new w1 _;have HAL:Hid (Below w1.heap.size w1 (w1.alloc (.cells #[.int .u64 0,.int .u64 0,.int .u64 0,.int .u64 0,.int .u64 0,.int .u64 0,.int .u64 0,.int .u64 0] 173))):=(Below.refl _ _).alloc (Nat.le_refl _) _;have HL:=hid_ofS ivL_w8.1;go_wp2_with (first
  |(refine wpList_storeW rfl (.tmp 3) (.tmp 6) rfl Tryz.sizeWds w1.heap.size ivL [0,0,0,0,0,0,0,0] rfl rfl HL.out rfl HZN.out ?_)
  |fail)
 intro w2 hr2 hw2;have hs1:=HB1.out.size;have HK:Hid (KS w w1.heap.size (blks zs 0) w2):=⟨hr2,((HT.out.frg (fun k hk _=>HB1.out.block k hk)).frg (fun k hk _=>HAL.out.block k hk)).frg (fun k _ e=>hw2.block k (by omega)),(HB1.out.trans (HAL.out.mono hs1)).trans (hw2.below hs1),hs1⟩
 clear hr2 hw2 HB1 HAL HZN HL HT;go_wp2
 go_loopw [4] (fun v wr=>∃(k:Nat) (a':Option Addr) (c':Nat),128*k≤n∧v=.slice a' (n-128*k) c'∧n-128*k≤c'∧At .u8 w a' (zs.drop (128*k))∧KS w w1.heap.size (blks zs k) wr) (fun v _=>lenOf v)
 case atStart=>exact⟨0,a,cap,by omega,rfl,by omega,HA.out,HK.out⟩
 case round=>
  clear HK;obtain⟨k,a',c',hk,rfl,hc',ha',hst⟩:=hrel;have HK:=hid_ofS hst;have HA':=hid_ofS ha';have hlen:(zs.drop (128*k)).length=n-128*k:=by rw[List.length_drop,HN.out]
  have HBY:Hid (Byte (zs.drop (128*k))):=fun z h=>HZ.out z (List.mem_of_mem_drop h)
  have HDL:=hid_ofS hlen;clear hst ha' hlen;by_cases hge:128≤n-128*k
  ·have hge':(128:Int)≤((n-128*k:Nat):Int):=by omega
   have HBL:Hid (blks zs (k+1)=mixL (blks zs k) (blkOf (zs.drop (128*k)))):=rfl;obtain⟨b,off,rfl,hb0,hcc⟩:=HA'.out.get (by rw[HDL.out];omega);have HN2:Hid (n-128*(k+1)=n-128*k-128):=by show _=_;omega
   have HD2:Hid (zs.drop (128*(k+1))=(zs.drop (128*k)).drop 128):=by show _=_;rw[List.drop_drop];congr 1
   have HK1:Hid (128*(k+1)≤n):=by show _≤_;omega
   have HCC:=hid_ofS hcc;clear hcc;obtain⟨m,hm'⟩:∃ m,m=n-128*k:=⟨_,rfl⟩
   rw[←hm'] at HN2 HDL hge hge' hc' ⊢;have hmm:m≤2097152:=by omega
   clear hm';have B:=hid_ofS (blk_any (some ⟨b,off,none⟩) m c' (zs.drop (128*k)) wr HDL.out (HA'.out.below HK.out.below) hmm);go_wp2_with fail;refine B.out.mono ?_;rintro e w3 ⟨rfl,b3⟩;have HK3:=hid_ofS (HK.out.new h0 b3);clear b3 B HK;have HZN:Hid (Row (w3.alloc (.cells zBlk 176)) w3.heap.size 176 (List.replicate 128 0)):=by show _=_;rw[heap_alloc_new,zcBlk]
   have HAL:Hid (Below w3.heap.size w3 (w3.alloc (.cells zBlk 176))):=(Below.refl _ _).alloc (Nat.le_refl _) _;have HLB:=hid_ofS (blkOf_len (zs.drop (128*k)));go_wp2_with (first
    |(refine wpList_storeB rfl (.tmp 5) (.tmp 12) rfl Tryz.sizeBlk w3.heap.size (blkOf (zs.drop (128*k))) (List.replicate 128 0) rfl rfl HLB.out (by simp) HZN.out ?_)
    |fail)
   intro w4 hr4 hw4;have hlt3:=HK3.out.wds.lt;have hsz3:=HK3.out.below.size;have hz3:=HK3.out.hi;have b34:Below w3.heap.size w3 w4:=HAL.out.trans (hw4.below (Nat.le_refl _));have HK4:=hid_ofS (HK3.out.new h0 b34);have HG0:Hid (w1.heap.size≠1):=by show ¬ _;omega
   have C:=hid_ofS (mix_any w1.heap.size w3.heap.size (blks zs k) (blkOf (zs.drop (128*k))) w4 HK4.out.wds (blks_w8 _ _) hr4 HLB.out (blkOf_byte HBY.out) HK4.out.tab HG0.out);clear hr4 hw4 b34 HK3 HZN HAL;go_wp2_with fail;refine C.out.mono ?_;rintro e w5 ⟨rfl,r5,b5⟩;have HK5:Hid (KS w w1.heap.size (blks zs (k+1)) w5):=by rw[HBL.out];exact HK4.out.frg h0 b5 r5
   clear r5 b5 C HK4;go_wp2;refine⟨⟨k+1,_,c'-128,HK1.out,by rw[HN2.out],by rw[HN2.out];omega,?_,HK5.out⟩,by show m-128<m;omega⟩;rw[HD2.out];by_cases hcc:c'=128
   ·exact .inl (List.eq_nil_of_length_eq_zero (by rw[List.length_drop,HDL.out];omega))
   ·rw[if_neg hcc];refine .inr ⟨b,off+128,rfl,hb0,fun i hi=>?_⟩;rw[List.length_drop] at hi;rw[Nat.add_assoc,HCC.out (128+i) (by omega),List.getD_eq_getElem?_getD,List.getD_eq_getElem?_getD,List.getElem?_drop,List.getElem?_drop,List.getElem?_drop]
  ·have hge':¬ ((128:Int)≤((n-128*k:Nat):Int)):=by omega
   have HQ:Hid (shaL zs=txtW (finL (blks zs k) (zs.drop (128*k)) (n:Int))):=by
    show _=_
    unfold shaL;rw[HN.out,show n/128=k by omega]
   have HUN:Hid (U64 (n:Int)):=⟨by omega,by omega⟩
   have HG0:Hid (w1.heap.size≠1):=by show ¬ _;omega
   obtain⟨m,hm'⟩:∃ m,m=n-128*k:=⟨_,rfl⟩
   rw[←hm'] at HDL hge hge' hc' ⊢;have hmm:m<128:=by omega
   clear hm';have B:=hid_ofS (fin_any w1.heap.size (blks zs k) a' m c' (zs.drop (128*k)) (n:Int) wr HK.out.wds (blks_w8 _ _) HDL.out (HA'.out.below HK.out.below) HBY.out hmm HK.out.tab HG0.out HUN.out);go_wp2_with fail;refine B.out.mono ?_;rintro e w3 ⟨rfl,r3,b3⟩;have HK3:Hid (KS w w1.heap.size (finL (blks zs k) (zs.drop (128*k)) n) w3):=HK.out.frg h0 b3 r3;clear r3 b3 B HK;have C:=hid_ofS (textI_any w1.heap.size _ w3 HK3.out.wds (finL_w8 _ _ _));go_wp2_with fail;refine C.out.mono ?_;rintro e w4 ⟨v,rfl,o4,b4⟩;have HO:Hid (Own w4 w.heap.size v (shaL zs)):=by rw[HQ.out];exact o4.lower HK3.out.below.size
   have HB:Hid (Below w.heap.size w w4):=HK3.out.below.trans (b4.mono HK3.out.below.size);clear o4 b4 C HK3;go_wp2
   go_ret
   exact⟨_,rfl,HO.out,HB.out⟩
theorem run_sliceB (w:World) (b o c t:Nat) (ht:t<16) (hc:128≤c):(Instr.sliceAt 26 (.slice (some ⟨b,o,none⟩) 128 c) (some (.int .i64 (8*(t:Int)))) (some (.int .i64 (8*(t:Int)+8))) none).run Tryz.prog w=.ok (.slice (some ⟨b,o+8*t,none⟩) 8 (c-8*t)) w:=by
 have h2:(8*(t:Int)+8)≤(c:Int):=by omega
 have h3:(8*(t:Int)+8).toNat=8*t+8:=by omega
 have h4:¬ (c=8*t):=by omega
 have h5:(8*(t:Int)).toNat=8*t:=by omega
 have h6:(0:Int)≤8*(t:Int):=by omega
 have h7:(0:Int)≤8*(t:Int)+8:=by omega
 unfold Instr.sliceAt;simp[run_underlying Tryz.underlying26,go_sem,Instr.sliceBounds,h2,h3,h4,h5,h6,h7,Addr.add];rw[if_pos (by omega)];by_cases h0:t=0
 ·subst h0;simp
 ·rw[if_neg (by omega)]
structure BK (w:World) (bh oh bb ob bk:Nat) (hs bs:List Int):Prop where
 h:bh<w.heap.size∧∀ i,i<8→w.cell? ⟨bh,oh+i,none⟩=some (.int .u64 (hs.getD i 0))
 b:bb<w.heap.size∧∀ i,i<128→w.cell? ⟨bb,ob+i,none⟩=some (.int .u8 (bs.getD i 0))
 k:bk<w.heap.size∧∀ i,i<88→w.cell? ⟨bk,i,none⟩=some (.int .u64 (kt i))
theorem BK.below {w w':World} {bh oh bb ob bk:Nat} {hs bs:List Int} (h:BK w bh oh bb ob bk hs bs) (hb:Below w.heap.size w w'):BK w' bh oh bb ob bk hs bs:=by
 have:=hb.size;exact⟨⟨by have:=h.h.1;omega,fun i hi=>by rw[World.cell?_of_block (w:=w) (hb.block bh h.h.1)];exact h.h.2 i hi⟩,⟨by have:=h.b.1;omega,fun i hi=>by rw[World.cell?_of_block (w:=w) (hb.block bb h.b.1)];exact h.b.2 i hi⟩,⟨by have:=h.k.1;omega,fun i hi=>by rw[World.cell?_of_block (w:=w) (hb.block bk h.k.1)];exact h.k.2 i hi⟩⟩
theorem rs1 (x:Int) (w:World) (hx:U64 x):Calls Tryz.prog 121 #[.int .u64 x,.int .u64 1] w fun e w'=>e=.returned (.int .u64 (rtr 1 x))∧w'=w:=rotS_any x 1 w (by decide) hx
theorem rs8 (x:Int) (w:World) (hx:U64 x):Calls Tryz.prog 121 #[.int .u64 x,.int .u64 8] w fun e w'=>e=.returned (.int .u64 (rtr 8 x))∧w'=w:=rotS_any x 8 w (by decide) hx
theorem rs19 (x:Int) (w:World) (hx:U64 x):Calls Tryz.prog 121 #[.int .u64 x,.int .u64 19] w fun e w'=>e=.returned (.int .u64 (rtr 19 x))∧w'=w:=rotS_any x 19 w (by decide) hx
theorem rs61 (x:Int) (w:World) (hx:U64 x):Calls Tryz.prog 121 #[.int .u64 x,.int .u64 61] w fun e w'=>e=.returned (.int .u64 (rtr 61 x))∧w'=w:=rotS_any x 61 w (by decide) hx
theorem rs28 (x:Int) (w:World) (hx:U64 x):Calls Tryz.prog 121 #[.int .u64 x,.int .u64 28] w fun e w'=>e=.returned (.int .u64 (rtr 28 x))∧w'=w:=rotS_any x 28 w (by decide) hx
theorem rs34 (x:Int) (w:World) (hx:U64 x):Calls Tryz.prog 121 #[.int .u64 x,.int .u64 34] w fun e w'=>e=.returned (.int .u64 (rtr 34 x))∧w'=w:=rotS_any x 34 w (by decide) hx
theorem rs39 (x:Int) (w:World) (hx:U64 x):Calls Tryz.prog 121 #[.int .u64 x,.int .u64 39] w fun e w'=>e=.returned (.int .u64 (rtr 39 x))∧w'=w:=rotS_any x 39 w (by decide) hx
theorem rs14 (x:Int) (w:World) (hx:U64 x):Calls Tryz.prog 121 #[.int .u64 x,.int .u64 14] w fun e w'=>e=.returned (.int .u64 (rtr 14 x))∧w'=w:=rotS_any x 14 w (by decide) hx
theorem rs18 (x:Int) (w:World) (hx:U64 x):Calls Tryz.prog 121 #[.int .u64 x,.int .u64 18] w fun e w'=>e=.returned (.int .u64 (rtr 18 x))∧w'=w:=rotS_any x 18 w (by decide) hx
theorem rs41 (x:Int) (w:World) (hx:U64 x):Calls Tryz.prog 121 #[.int .u64 x,.int .u64 41] w fun e w'=>e=.returned (.int .u64 (rtr 41 x))∧w'=w:=rotS_any x 41 w (by decide) hx
def ClG (tb:List (Nat×Nat)) (L:Nat→Bool):Prop:=∀ p,p∈tb→L p.1=true→L p.2=true
theorem updK_neO (L:Nat→Bool) {i j:Nat} (h:j≠i):updK L i j=L j:=by unfold updK;rw[if_neg h]
theorem updK_self (L:Nat→Bool) (i:Nat):updK L i i=true:=by unfold updK;rw[if_pos rfl]
theorem upd_ne (u:Nat→Value) {i j:Nat} (v:Value) (h:j≠i):upd u i v j=u j:=by unfold upd;rw[if_neg h]
theorem upd_self (u:Nat→Value) (i:Nat) (v:Value):upd u i v i=v:=by unfold upd;rw[if_pos rfl]
theorem ClG.step {tb:List (Nat×Nat)} {L:Nat→Bool} (h:ClG tb L) (i:Nat) (hd:∀ p,p∈tb→p.1=i→L p.2=true):ClG tb (updK L i):=by
 intro p hp h1;have hu:∀ k,L k=true→updK L i k=true:=fun k hk=>by unfold updK;split<;>simp[hk]
 by_cases e:p.1=i
 ·exact hu _ (hd p hp e)
 ·rw[updK_neO L e] at h1;exact hu _ (h p hp h1)
theorem ClG.back {tb:List (Nat×Nat)} {L:Nat→Bool} (h:ClG tb L) {a b:Nat} (hp:(a,b)∈tb) (hb:L b=false):L a=false:=by
 cases ha:L a with
 |false=>rfl
 |true=>have:=h _ hp ha;rw[hb] at this;cases this
theorem ClG.none {tb:List (Nat×Nat)} {L:Nat→Bool} (h:∀ i,L i=false):ClG tb L:=fun p _ h1=>by rw[h] at h1;cases h1
structure AC (tb:List (Nat×Nat)) (b a s:Nat) (V0:Value) (W0 W1:World) (Fin:World→Value→Prop) (L:Nat→Bool) (u:Nat→Value) (w':World):Prop where
 cl:ClG tb L
 old:L s=false→u s=V0
 new:L s=true→u s=u a
 ph:(L a=true∧Fin w' (u a))∨(L a=false∧L b=true∧w'=W1)∨(L a=false∧L b=false∧w'=W0)
section
variable {tb:List (Nat×Nat)} {b a s:Nat} {V0:Value} {W0 W1:World} {Fin:World→Value→Prop} {L:Nat→Bool} {u:Nat→Value} {w':World}
theorem AC.start (h:∀ i,L i=false) (hu:u s=V0):AC tb b a s V0 W0 W1 Fin L u W0:=
 ⟨ClG.none h,fun _=>hu,fun h'=>(by rw[h] at h';cases h'),.inr (.inr ⟨h _,h _,rfl⟩)⟩
theorem AC.pure (h:AC tb b a s V0 W0 W1 Fin L u w') (i:Nat) (v:Value) (hb:b≠i) (ha:a≠i) (hs:s≠i) (hd:∀ p,p∈tb→p.1=i→L p.2=true):AC tb b a s V0 W0 W1 Fin (updK L i) (upd u i v) w':=
 ⟨h.cl.step i hd,by rw[updK_neO L hs,upd_ne u v hs];exact h.old,by rw[updK_neO L hs,upd_ne u v hs,upd_ne u v ha];exact h.new,by rw[updK_neO L ha,updK_neO L hb,upd_ne u v ha];exact h.ph⟩
theorem AC.world (h:AC tb b a s V0 W0 W1 Fin L u w') (hb:L b=false) (hp:(a,b)∈tb):w'=W0:=by
 have ha:=h.cl.back hp hb;rcases h.ph with⟨h1,_⟩|⟨_,h1,_⟩|⟨_,_,h1⟩
 ·rw[ha] at h1;cases h1
 ·rw[hb] at h1;cases h1
 ·exact h1
theorem AC.build (h:AC tb b a s V0 W0 W1 Fin L u w') (v:Value) (hLb:L b=false) (hp:(a,b)∈tb) (ha:a≠b) (hs:s≠b) (hd:∀ p,p∈tb→p.1=b→L p.2=true):AC tb b a s V0 W0 W1 Fin (updK L b) (upd u b v) W1:=
 ⟨h.cl.step b hd,by rw[updK_neO L hs,upd_ne u v hs];exact h.old,by rw[updK_neO L hs,upd_ne u v hs,upd_ne u v ha];exact h.new,.inr (.inl ⟨by rw[updK_neO L ha];exact h.cl.back hp hLb,updK_self L b,rfl⟩)⟩
theorem AC.mid (h:AC tb b a s V0 W0 W1 Fin L u w') (hb:L b=true) (ha:L a=false):w'=W1:=by
 rcases h.ph with⟨h1,_⟩|⟨_,_,h1⟩|⟨_,h1,_⟩
 ·rw[ha] at h1;cases h1
 ·exact h1
 ·rw[hb] at h1;cases h1
theorem AC.app (h:AC tb b a s V0 W0 W1 Fin L u w') {v:Value} {w9:World} (hF:Fin w9 v) (hLa:L a=false) (hp:(s,a)∈tb) (hs:s≠a) (hd:∀ p,p∈tb→p.1=a→L p.2=true):AC tb b a s V0 W0 W1 Fin (updK L a) (upd u a v) w9:=
 have hls:=h.cl.back hp hLa
 ⟨h.cl.step a hd,by rw[updK_neO L hs,upd_ne u v hs];exact h.old,fun h'=>(by rw[updK_neO L hs,hls] at h';cases h'),.inl ⟨updK_self L a,by rw[upd_self];exact hF⟩⟩
theorem AC.asg (h:AC tb b a s V0 W0 W1 Fin L u w') (ha:a≠s) (hb:b≠s) (hd:∀ p,p∈tb→p.1=s→L p.2=true):AC tb b a s V0 W0 W1 Fin (updK L s) (upd u s (u a)) w':=
 ⟨h.cl.step s hd,fun h'=>(by rw[updK_self] at h';cases h'),fun _=>(by rw[upd_self,upd_ne u _ ha]),by rw[updK_neO L ha,updK_neO L hb,upd_ne u _ ha];exact h.ph⟩
theorem AC.fin (h:AC tb b a s V0 W0 W1 Fin L u w') (ha:L a=true) (hs:L s=true):u s=u a∧Fin w' (u a):=by
 refine⟨h.new hs,?_⟩;rcases h.ph with⟨_,h1⟩|⟨h1,_⟩|⟨h1,_⟩
 ·exact h1
 ·rw[ha] at h1;cases h1
 ·rw[ha] at h1;cases h1
end
structure AD (tb:List (Nat×Nat)) (b s:Nat) (V0:Value) (W0 W1:World) (L:Nat→Bool) (u:Nat→Value) (w':World):Prop where
 cl:ClG tb L
 old:L s=false→u s=V0
 ph:(L b=true∧w'=W1)∨(L b=false∧w'=W0)
section
variable {tb:List (Nat×Nat)} {b s:Nat} {V0:Value} {W0 W1:World} {L:Nat→Bool} {u:Nat→Value} {w':World}
theorem AD.start (h:∀ i,L i=false) (hu:u s=V0):AD tb b s V0 W0 W1 L u W0:=⟨ClG.none h,fun _=>hu,.inr ⟨h _,rfl⟩⟩
theorem AD.pure (h:AD tb b s V0 W0 W1 L u w') (i:Nat) (v:Value) (hb:b≠i) (hs:s≠i) (hd:∀ p,p∈tb→p.1=i→L p.2=true):AD tb b s V0 W0 W1 (updK L i) (upd u i v) w':=
 ⟨h.cl.step i hd,by rw[updK_neO L hs,upd_ne u v hs];exact h.old,by rw[updK_neO L hb];exact h.ph⟩
theorem AD.world (h:AD tb b s V0 W0 W1 L u w') (hb:L b=false):w'=W0:=by
 rcases h.ph with⟨h1,_⟩|⟨_,h1⟩
 ·rw[hb] at h1;cases h1
 ·exact h1
theorem AD.build (h:AD tb b s V0 W0 W1 L u w') (v:Value) (hs:s≠b) (hd:∀ p,p∈tb→p.1=b→L p.2=true):AD tb b s V0 W0 W1 (updK L b) (upd u b v) W1:=
 ⟨h.cl.step b hd,by rw[updK_neO L hs,upd_ne u v hs];exact h.old,.inl ⟨updK_self L b,rfl⟩⟩
theorem AD.asg (h:AD tb b s V0 W0 W1 L u w') (v:Value) (hb:b≠s) (hd:∀ p,p∈tb→p.1=s→L p.2=true):AD tb b s V0 W0 W1 (updK L s) (upd u s v) w':=
 ⟨h.cl.step s hd,fun h'=>(by rw[updK_self] at h';cases h'),by rw[updK_neO L hb];exact h.ph⟩
theorem AD.fin (h:AD tb b s V0 W0 W1 L u w') (hb:L b=true):w'=W1:=by
 rcases h.ph with⟨_,h1⟩|⟨h1,_⟩
 ·exact h1
 ·rw[hb] at h1;cases h1
end
theorem wp_appU (w:World) {o:Oper} {a:Act} {K:Act→World→Prop} {Q:Exit→Act→World→Prop} (sx x:Operand)
  (hop:o.op=Op.call { callee:=Callee.builtin Builtin.append,args:=#[sx,x],argTypes:=#[131,131] }) (B:Nat) (v:Value) (xs:List Int) (hs:a.eval sx=v) (hown:OwnU w B v xs)
  (b off m c:Nat) (zs:List Int) (hx:a.eval x=.slice (some ⟨b,off,none⟩) m c) (hl:zs.length=m) (hc:∀ i,i<zs.length→w.cell? ⟨b,off+i,none⟩=some (.int .u64 (zs.getD i 0))) (hm:xs.length+m≤1048576) (hB:B≤w.heap.size)
  (hK:∀ v' w',OwnU w' B v' (xs++zs)→Below B w w'→K (a.put o.dst v') w'):o.wp Tryz.prog a w K Q:=by
 obtain⟨i0,hi,hz0,hz1,hz2⟩:=info_parts ktU.info;have hbase:=hown.base;obtain⟨v',w',hr,h2,h3,h4,h5⟩:=run_append_own_at (P:=Tryz.prog) w B 131 o.type 132 i0 (.int .u64 0) 1 8 Tryz.underlying131 hi hz0 hz1 hz2 rfl (by decide) v xs.length _ hown.1 ⟨b,off,none⟩ m c (zs.map (Value.int .u64)) (by simp[hl]) (by
  intro j u hu;have hj:j<zs.length:=by have:=(List.getElem?_eq_some_iff.1 hu).1;simpa using this
  rw[Addr.add_lit,hc j hj];simp[hj] at hu;simp[hj,hu]) (ints_oneCell _ _) (by unfold maxLen;omega) (by omega) hB
 obtain⟨g,c0,hv,hBg,_,_⟩:=hbase;have hbel:Below B w w':=(Below.refl _ _).grown h3 hB (fun k hk=>by rw[hv] at hk;simp[Value.ownBlock] at hk;omega);have hk:=hK v' w' ⟨by rw[List.map_append,List.length_append,hl];exact h2,by
  rcases h2.2 with⟨h',h''⟩|⟨g',c',cur,h',_⟩
  ·exact absurd (h4.1 h').1 (by rw[hv];simp)
  ·exact⟨g',c',by rw[h',List.length_append,hl]⟩⟩ hbel
 unfold Oper.wp execOp;simp only[hop,resolve,invoke,builtin,Sem.run_bind,Sem.run_pure,Result.andThen_ok,List.map_toArray,List.map_cons,List.map_nil,hs,hx,hr];exact hk
theorem getD_app (xs ys:List Int) (i:Nat):(xs++ys).getD i 0=if i<xs.length then xs.getD i 0 else ys.getD (i-xs.length) 0:=by
 simp only[List.getD_eq_getElem?_getD,List.getElem?_append];split<;>rfl
theorem getD_rep0 (n i:Nat):(List.replicate n (0:Int)).getD i 0=0:=by
 simp only[List.getD_eq_getElem?_getD,List.getElem?_replicate];split<;>rfl
theorem getD_out (xs:List Int) (i:Nat) (h:xs.length≤i):xs.getD i 0=0:=by
 rw[List.getD_eq_getElem?_getD,List.getElem?_eq_none h];rfl
theorem getD_dropI (xs:List Int) (m i:Nat):(xs.drop m).getD i 0=xs.getD (m+i) 0:=by
 simp only[List.getD_eq_getElem?_getD,List.getElem?_drop]
theorem getD_takeI (xs:List Int) (m i:Nat) (h:i<m):(xs.take m).getD i 0=xs.getD i 0:=by
 simp only[List.getD_eq_getElem?_getD,List.getElem?_take,if_pos h]
theorem ext_getD {xs ys:List Int} (n:Nat) (h1:xs.length=n) (h2:ys.length=n) (h:∀ i,i<n→xs.getD i 0=ys.getD i 0):xs=ys:=by
 apply List.ext_getElem (by omega);intro i hi hj;have:=h i (by omega);simpa[List.getD_eq_getElem?_getD,hi,hj] using this
theorem ov8_get (bs:List Int) (o:Nat) (v:Int) (k:Nat) (hk:o+k≤bs.length) (i:Nat) :
  (ov8 bs o v k).getD i 0=if o≤i∧i<o+k then v/2^(56-8*(i-o))%256 else bs.getD i 0:=by
 induction k with
 |zero=>rw[if_neg (by omega)];rfl
 |succ k ih=>
  have ih:=ih (by omega);unfold ov8;by_cases e:i=o+k
  ·rw[e,getD_set_same _ _ _ (by rw[ov8_len];omega),if_pos (by omega),show o+k-o=k by omega]
  ·rw[getD_set_other _ _ _ _ e,ih];by_cases c:o≤i∧i<o+k
   ·rw[if_pos c,if_pos (by omega)]
   ·rw[if_neg c,if_neg (by omega)]
theorem blkOf_get (zs:List Int) (i:Nat) (h:i<128):(blkOf zs).getD i 0=zs.getD i 0:=by
 unfold blkOf;rw[getD_app];split
 ·rw[getD_takeI _ _ _ h]
 ·next c=>rw[getD_rep0,getD_out];rw[List.length_take] at c;omega
theorem mrk_get (zs:List Int) (i:Nat) (h:i<128) (hl:zs.length<128):(mrk zs).getD i 0=if i=zs.length then 128 else zs.getD i 0:=by
 unfold mrk;by_cases e:i=zs.length
 ·rw[e,getD_set_same _ _ _ (by rw[blkOf_len];exact hl),if_pos rfl]
 ·rw[getD_set_other _ _ _ _ e,blkOf_get _ _ h,if_neg e]
theorem lenB_get (bs:List Int) (n:Nat) (hl:bs.length=128) (hn:n≤2097152) (i:Nat) :
  (lenB bs n).getD i 0=if i<112 then bs.getD i 0 else if i<120 then 0 else if i<128 then(by8 (8*(n:Int))).getD (i-120) 0 else 0:=by
 unfold lenB;rw[ov8_get _ _ _ _ (by rw[ov8_len];omega),ov8_get _ _ _ _ (by omega)];have hw:IntKind.u64.wrap ((n:Int)*8)=8*(n:Int):=by rw[IntKind.wrap_u64];omega
 have h61:(n:Int)/2^61=0:=by omega
 rw[hw,h61];by_cases a:i<112
 ·rw[if_neg (by omega),if_neg (by omega),if_pos a]
 ·rw[if_neg a];by_cases b:i<120
  ·rw[if_neg (by omega),if_pos (by omega),if_pos b,Int.zero_ediv];rfl
  ·rw[if_neg b];by_cases c:i<128
   ·rw[if_pos (by omega),if_pos c,by8_get _ _ (by omega)]
   ·rw[if_neg (by omega),if_neg (by omega),if_neg c,getD_out _ _ (by omega)]
theorem padL_len (zs:List Int):(padL zs).length=zs.length+1+padZ zs.length+16:=by
 unfold padL;simp[by8_len];omega
theorem padL_get (zs:List Int) (i:Nat):(padL zs).getD i 0=if i<zs.length then zs.getD i 0 else if i=zs.length then 128 else if i<zs.length+1+padZ zs.length+8 then 0 else(by8 (8*(zs.length:Int))).getD (i-(zs.length+1+padZ zs.length+8)) 0:=by
 unfold padL;rw[getD_app,getD_app,getD_app,getD_app];simp only[List.length_append,List.length_replicate,List.length_cons,List.length_nil,getD_rep0,Nat.zero_add];by_cases a:i<zs.length
 ·rw[if_pos (by omega),if_pos (by omega),if_pos (by omega),if_pos a,if_pos a]
 ·rw[if_neg a,if_neg a];by_cases b:i=zs.length
  ·rw[if_pos (by omega),if_pos (by omega),if_pos (by omega),if_pos b,b,Nat.sub_self];rfl
  ·rw[if_neg b];by_cases c:i<zs.length+1+padZ zs.length+8
   ·rw[if_pos c,if_pos c];split
    ·rw[if_neg (by omega)]
    ·rfl
   ·rw[if_neg c,if_neg c]
def mbl (zs:List Int):Nat→List Int
 |0=>ivL
 |k+1=>mixL (mbl zs k) (((padL zs).drop (128*k)).take 128)
theorem mbl_w8 (zs:List Int) (k:Nat):W8 (mbl zs k):=by
 cases k with
 |zero=>exact ivL_w8
 |succ k=>exact mixL_w8 _ _
def nBl (n:Nat):Nat:=(n+1+padZ n+16)/128
theorem nBl_len (zs:List Int):(padL zs).length=128*nBl zs.length:=by
 have h:=padZ_spec zs.length;rw[padL_len];unfold nBl;omega
theorem pblk_len (zs:List Int) (k:Nat) (h:k<nBl zs.length):(((padL zs).drop (128*k)).take 128).length=128:=by
 rw[List.length_take,List.length_drop,nBl_len];omega
theorem pblk_get (zs:List Int) (k i:Nat) (h:i<128):(((padL zs).drop (128*k)).take 128).getD i 0=(padL zs).getD (128*k+i) 0:=by
 rw[getD_takeI _ _ _ h,getD_dropI]
theorem mbl_lo (zs:List Int) (k:Nat) (h:128*k≤zs.length):mbl zs k=blks zs k:=by
 induction k with
 |zero=>rfl
 |succ k ih=>
  have hs:=padZ_spec zs.length;have hk:k<nBl zs.length:=by unfold nBl;omega
  show mixL (mbl zs k) _=mixL (blks zs k) _
  rw[ih (by omega)]
  congr 1
  refine ext_getD 128 (pblk_len zs k hk) (blkOf_len _) fun i hi=>?_
  rw[pblk_get _ _ _ hi,blkOf_get _ _ hi,getD_dropI,padL_get,if_pos (by omega)]
theorem mbl_fin (zs:List Int) (hn:zs.length≤2097152):mbl zs (nBl zs.length)=finL (blks zs (zs.length/128)) (zs.drop (128*(zs.length/128))) zs.length:=by
 obtain⟨n,hn'⟩:∃ n,n=zs.length:=⟨_,rfl⟩
 obtain⟨q,hq⟩:∃ q,q=n/128:=⟨_,rfl⟩
 rw[←hn',←hq];have hs:=padZ_spec n;have hdl:(zs.drop (128*q)).length=n-128*q:=by rw[List.length_drop,hn']
 have hlo:=mbl_lo zs q (by omega);unfold finL;by_cases c:n-128*q<112
 ·have e:nBl n=q+1:=by unfold nBl;omega
  have eT:n+1+padZ n=128*q+112:=by omega
  rw[if_pos (by omega),e];have e1:((padL zs).drop (128*q)).take 128=lenB (mrk (zs.drop (128*q))) n:=?_
  ·show mixL (mbl zs q) _=_
   rw[hlo,e1]
  refine ext_getD 128 (pblk_len zs q (by rw[←hn',e];omega)) (lenB_len (mrk_len _) _) fun i hi=>?_
  rw[pblk_get _ _ _ hi,lenB_get _ _ (mrk_len _) (by omega),padL_get,←hn',eT];by_cases a:i<112
  ·rw[if_pos a,mrk_get _ _ hi (by omega),hdl,getD_dropI];by_cases b:i<n-128*q
   ·rw[if_pos (by omega),if_neg (by omega)]
   ·rw[if_neg (by omega)];by_cases d:i=n-128*q
    ·rw[if_pos (by omega),if_pos d]
    ·rw[if_neg (by omega),if_pos (by omega),if_neg d,getD_out];omega
  ·rw[if_neg a,if_neg (by omega),if_neg (by omega)];by_cases b:i<120
   ·rw[if_pos b,if_pos (by omega)]
   ·rw[if_neg b,if_neg (by omega),if_pos hi];rw[show 128*q+i-(128*q+112+8)=i-120 by omega]
 ·have e:nBl n=q+2:=by unfold nBl;omega
  have eT:n+1+padZ n=128*q+240:=by omega
  rw[if_neg (by omega),e];have e1:((padL zs).drop (128*q)).take 128=mrk (zs.drop (128*q)):=by
   refine ext_getD 128 (pblk_len zs q (by rw[←hn',e];omega)) (mrk_len _) fun i hi=>?_
   rw[pblk_get _ _ _ hi,padL_get,←hn',eT,mrk_get _ _ hi (by omega),hdl,getD_dropI];by_cases b:i<n-128*q
   ·rw[if_pos (by omega),if_neg (by omega)]
   ·rw[if_neg (by omega)];by_cases d:i=n-128*q
    ·rw[if_pos (by omega),if_pos d]
    ·rw[if_neg (by omega),if_pos (by omega),if_neg d,getD_out];omega
  have e2:((padL zs).drop (128*(q+1))).take 128=lenB (List.replicate 128 0) n:=by
   refine ext_getD 128 (pblk_len zs (q+1) (by rw[←hn',e];omega)) (lenB_len (by simp) _) fun i hi=>?_
   rw[pblk_get _ _ _ hi,lenB_get _ _ (by simp) (by omega),padL_get,←hn',eT,if_neg (by omega),if_neg (by omega),getD_rep0];by_cases b:i<120
   ·rw[if_pos (by omega)];by_cases d:i<112
    ·rw[if_pos d]
    ·rw[if_neg d,if_pos b]
   ·rw[if_neg (by omega),if_neg (by omega),if_neg b,if_pos hi];rw[show 128*(q+1)+i-(128*q+240+8)=i-120 by omega]
  generalize lenB (List.replicate 128 0) (n:Int)=X at *;generalize mrk (zs.drop (128*q))=Y at *;have e3:mbl zs (q+1)=mixL (blks zs q) Y:=by rw[←hlo,←e1];rfl
  rw[←e3,←e2];rfl
theorem mbl_sha (zs:List Int) (hn:zs.length≤2097152):txtW (mbl zs (nBl zs.length))=shaL zs:=by
 rw[mbl_fin zs hn];rfl
theorem padL_byte {zs:List Int} (hz:Byte zs):Byte (padL zs):=by
 intro z h;unfold padL at h;simp only[List.mem_append,List.mem_replicate,List.mem_singleton] at h;rcases h with (((h|rfl)|⟨_,rfl⟩)|⟨_,rfl⟩)|h
 ·exact hz z h
 ·exact⟨by decide,by decide⟩
 ·exact⟨by decide,by decide⟩
 ·exact⟨by decide,by decide⟩
 ·exact by8_byte _ z h
end Go.Proofs.YtjdhhgaelgemcaaGreatDoor
