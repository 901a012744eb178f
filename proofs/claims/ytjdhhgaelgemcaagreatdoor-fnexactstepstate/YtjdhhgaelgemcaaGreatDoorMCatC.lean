import Derived.Test.YtjdhhgaelgemcaaGreatDoorMSvF
import Derived.Test.YtjdhhgaelgemcaaGreatDoorMSwA
import Derived.Test.YtjdhhgaelgemcaaGreatDoorMIRt
import Derived.Test.YtjdhhgaelgemcaaGreatDoorMSAf
import Derived.Test.YtjdhhgaelgemcaaGreatDoorMSPow
import Derived.Test.YtjdhhgaelgemcaaGreatDoorShN
import Derived.Test.YtjdhhgaelgemcaaGreatDoorMSvE
import Derived.Test.YtjdhhgaelgemcaaGreatDoorMSvB
import Derived.Test.YtjdhhgaelgemcaaGreatDoorMApx
import Derived.Laws.Tables
import Derived.Laws.BytesArg
namespace Go.Proofs.YtjdhhgaelgemcaaGreatDoor
open Go.ChangeShapes Go.WideShapes Go.ChangeAt Go.RowKit
set_option linter.unusedVariables false
set_option maxHeartbeats 400000 in
theorem cat_any (p m cap:Nat) (vs:List Value) (zss:List (List Int)) (w:World) (hm:zss.length=m) (hp:p<w.heap.size) (hc:∀ i,i<m→w.cell? ⟨p,i,none⟩=some (vs.getD i undef))
  (hz:∀ i,i<m→Part w (vs.getD i undef) (zss.getD i [])) (ht:zss.flatten.length≤2097152) (hm':m≤1048576) :
  Calls Tryz.prog 76 #[.slice (some ⟨p,0,none⟩) m cap] w fun e w'=>∃ v,e=.returned v∧Own w' w.heap.size v zss.flatten∧Below w.heap.size w w':=by
 go_enter Tryz.func76,Tryz.ntmps76;go_wp2
 go_loopw [3,4] (fun v i wr=>∃ k:Nat,k≤m∧i=.int .i64 k∧Own wr w.heap.size v (zss.take k).flatten∧Below w.heap.size w wr) (fun _ i _=>m-(intOf i).toNat)
 case atStart=>exact⟨0,Nat.zero_le _,rfl,Own.empty _ _ (Nat.le_refl _),(Below.refl _ _).alloc (Nat.le_refl _) _⟩
 case round=>
  obtain⟨k,hk,rfl,hown,hbel⟩:=hrel;by_cases hlt:k<m
  ·have hsz:=hbel.size;obtain⟨b,o,c,hv,hb,hcell⟩:=hz k hlt;have hck:wr.cell? ⟨p,k,none⟩=some (.slice (some ⟨b,o,none⟩) (zss.getD k []).length c):=by rw[hbel.cell (p:=⟨p,k,none⟩) hp,hc k hlt,hv]
   have hnews:∀ j,j<(zss.getD k []).length→wr.cell? ((⟨b,o,none⟩:Addr).add j)=some (.int .u8 ((zss.getD k []).getD j 0)):=by
    intro j hj;rw[Addr.add_lit,hbel.cell (p:=⟨b,o+j,none⟩) hb];exact hcell j hj
   have hfl:=flat_snoc zss k (by omega);have hle:=flat_le zss (k+1);have hle2:(zss.take k).flatten.length+(zss.getD k []).length≤2097152:=by rw[hfl,List.length_append] at hle;omega
   have HF:Hid _:=hfl;clear hfl hle hv hcell hc hz;generalize zss.getD k []=z at *;generalize (zss.take k).flatten=y at *;generalize hzl:z.length=zl at *;have HL:Hid _:=hzl;clear hzl;have HN:Hid _:=hnews;clear hnews;go_wp2_with (at_builtin;refine wpList_app _ rfl _ _ rfl w.heap.size _ _ rfl hown ⟨b,o,none⟩ _ _ z rfl HL.out HN.out ?c2 ?c3 ?_)
   case c2=>omega
   case c3=>omega
   intro v' w1 hown' hbel' _;have HO:Hid (Own w1 w.heap.size v' (zss.take (k+1)).flatten):=by rw[HF.out];exact hown'
   have HB:Hid (Below w.heap.size w w1):=hbel.trans hbel';clear hown hown' hbel hbel';go_wp2;go_roundw
   case rel=>exact⟨k+1,by omega,by go_num,HO.out,HB.out⟩
   case measure=>simp[intOf];omega
  ·have hkn:zss.take k=zss:=List.take_of_length_le (by omega);rw[hkn] at hown;have HO:Hid _:=hown;clear hown hkn;go_wp2
   go_ret
   exact⟨_,rfl,HO.out,hbel⟩
def ptQ (zs:List Int):Q4:=(mX zs mdD,mY zs,1%fp,mX zs mdD*mY zs%fp)
theorem mB_len2 {zs:List Int} (h:mB zs mdD=true):zs.length=32∧mY zs<fp:=by
 unfold mB at h;simp only[Bool.and_eq_true] at h;exact⟨by simpa using h.1.1.1,by simpa using h.1.1.2⟩
def bB:List Int:=[88,102,102,102,102,102,102,102,102,102,102,102,102,102,102,102,102,102,102,102,102,102,102,102,102,102,102,102,102,102,102,102]
theorem bB_len:bB.length=32:=rfl
theorem bB_val:val 256 bB=baseY:=by decide +kernel
theorem bB_byte:Byte bB:=by unfold Byte bB;decide
theorem bB_ok:mB bB mdD=true:=by decide +kernel
theorem bB_of {bs:List Int} (hb:Byte bs) (hl:bs.length=32) (hv:val 256 bs=baseY):bs=bB:=
 val_inj (B:=256) (by decide) hb bB_byte (by rw[hl,bB_len]) (by rw[hv,bB_val])
theorem word_bit (ns:List Int) (hw:Wrd ns) (i:Nat):ns.getD (i/64) 0/2^(i%64)%2=val 18446744073709551616 ns/2^i%2:=by
 have hd:=val_digit (B:=18446744073709551616) (by decide) hw (i/64);rw[←hd];generalize val 18446744073709551616 ns=V;have e1:(18446744073709551616:Int)^(i/64)=2^(64*(i/64)):=by rw[Int.pow_mul];rfl
 have e2:(2:Int)^i=2^(64*(i/64))*2^(i%64):=by rw[←Int.pow_add];congr 1;omega
 have hp:(0:Int)≤2^(64*(i/64)):=Int.le_of_lt (Int.pow_pos (by decide));rw[e1,e2,←Int.ediv_ediv_of_nonneg hp];generalize V/2^(64*(i/64))=U;have e3:(18446744073709551616:Int)=2^(i%64)*2^(64-i%64):=by
  rw[←Int.pow_add,show i%64+(64-i%64)=64 by omega];rfl
 have h1:0<64-i%64:=by omega
 rw[e3];have hq:(0:Int)<2^(i%64):=Int.pow_pos (by decide);rw[Int.emod_def U,Int.mul_assoc,Int.sub_eq_add_neg,←Int.mul_neg,Int.add_mul_ediv_left _ _ (by omega)];obtain⟨m,hm⟩:∃ m,64-i%64=m+1:=⟨63-i%64,by omega⟩
 rw[hm,Int.pow_succ];generalize U/2^(i%64)=A;generalize U/(2^(i%64)*(2^m*2))=B;rw[show -(2^m*2*B)=2*(-(2^m*B)) by grind,Int.add_mul_emod_self_left]
set_option maxHeartbeats 1000000 in
theorem bit_any (g:Nat) (ns:List Int) (i:Nat) (w:World) (hl:ns.length=4) (hi:i<256) (hr:RowW w g 143 ns) (hw:Wrd ns) :
  Calls Tryz.prog 122 #[.pointer (some ⟨g,0,none⟩),.int .i64 i] w fun e w'=>e=.returned (.int .u64 (val 18446744073709551616 ns/2^i%2))∧w'=w:=by
 have c3:=hr.cell (i/64) (by omega);obtain⟨h0,h1⟩:=hw.get (i/64);have HB:Hid (ns.getD (i/64) 0/2^(i%64)%2=val 18446744073709551616 ns/2^i%2):=word_bit ns hw i;have hp:(0:Int)<2^(i%64):=Int.pow_pos (by decide);have HA:Hid (bits .and .u64 (ns.getD (i/64) 0/2^(i%64)) 1=ns.getD (i/64) 0/2^(i%64)%2):=by
  have q0:0≤ns.getD (i/64) 0/2^(i%64):=Int.ediv_nonneg h0 (by omega);have q1:ns.getD (i/64) 0/2^(i%64)≤ns.getD (i/64) 0:=Int.ediv_le_self _ h0;exact u64_and_mask _ 1 q0 (by omega) 1 (by decide) (by decide)
 have hlt:(i:Int)/64<4:=by omega
 have hi':(i:Int)<256:=by omega
 clear hr hw hl hp;generalize ns.getD (i/64) 0=x at *;go_enter Tryz.func122,Tryz.ntmps122;go_wp2;rw[HA.out,HB.out]
 go_ret
 exact⟨rfl,rfl⟩
theorem AddP.q4 {w:World} {g:Nat} {X1 Y1 Z1 T1 X2 Y2 Z2 T2:Int} {e:Ending} {w':World} (h:AddP w g X1 Y1 Z1 T1 X2 Y2 Z2 T2 e w') :
  ∃ x y z t,Pt w' g x y z t∧WrH g w w'∧e=.returned (.tuple #[])∧((ev x,ev y,ev z,ev t):Q4)=F4 (X1,Y1,Z1,T1) (X2,Y2,Z2,T2):=by
 obtain⟨x,y,z,t,h1,h2,h3,h4,h5,h6,h7⟩:=h;exact⟨x,y,z,t,h1,h2,h3,by rw[h4,h5,h6,h7];rfl⟩
theorem Pt.wrh2 {w w':World} {g V:Nat} {x y z t:List Int} (h:Pt w g x y z t) (hw:WrH V w w') (hne:g≠V):Pt w' g x y z t:=⟨hw.rowW h.row hne,h.x,h.y,h.z,h.t⟩
def MulP (w:World) (g:Nat) (Q:Q4) (e:Ending) (w':World):Prop:=
 ∃ x y z t,Pt w' g x y z t∧WrH g w w'∧e=.returned (.tuple #[])∧((ev x,ev y,ev z,ev t):Q4)=Q
structure MuS (w:World) (g:Nat) (x y z t ns:List Int) (Q:Q4) (wr:World):Prop where
 below:Below w.heap.size w wr
 num:RowW wr w.heap.size 143 ns
 pt:Pt wr g x y z t
 lt:g<w.heap.size
 sum:∃ a b c d,Pt wr (w.heap.size+1+1) a b c d∧((ev a,ev b,ev c,ev d):Q4)=Q
theorem ev_id:((ev [0,0,0,0,0],ev [1,0,0,0,0],ev [1,0,0,0,0],ev [0,0,0,0,0]):Q4)=idQ:=by decide
theorem heap_third (w:World) (o1 o2 o3:Obj):(((w.alloc o1).alloc o2).alloc o3).heap[w.heap.size+1+1]?=some o3:=by
 have:=heap_alloc_new ((w.alloc o1).alloc o2) o3
 rwa [show((w.alloc o1).alloc o2).heap.size=w.heap.size+1+1 by simp] at this
def z20:List Int:=[0,0,0,0,0,0,0,0,0,0,0,0,0,0,0,0,0,0,0,0]
theorem one_ok2:EOk [1,0,0,0,0]:=one_ok
theorem Tryz.sizePoint2:(Tryz.prog.info? 140).map (·.size)=some 20:=by kernel_rfl
set_option maxRecDepth 100000 in
set_option maxHeartbeats 4000000 in
theorem multiply_gen (S:Nat→Q4) (g:Nat) (x y z t ns:List Int) (w:World) (hp:Pt w g x y z t) (hl:ns.length=4) (hw:Wrd ns) (hS0:Hid (S 0=idQ))
  (hSs:Hid (∀ n,S (n+1)=bif vbit (val 18446744073709551616 ns) (255-n) then F4 (F4 (S n) (S n)) (ev x,ev y,ev z,ev t) else F4 (S n) (S n))) :
  Calls Tryz.prog 104 #[.pointer (some ⟨g,0,none⟩),.agg (ns.map (Value.int .u64)).toArray] w (MulP w g (S 256)):=by
 match ns,hl with
 |[n0,n1,n2,n3],_=>
 have HB:Hid (Below w.heap.size w (((w.alloc (.cells #[.int .u64 n0,.int .u64 n1,.int .u64 n2,.int .u64 n3] 143)).alloc (.cells #[.int .u64 1,.int .u64 0,.int .u64 0,.int .u64 0,.int .u64 0] 138)).alloc (.cells #[.int .u64 0,.int .u64 0,.int .u64 0,.int .u64 0,.int .u64 0,.int .u64 0,.int .u64 0,.int .u64 0,.int .u64 0,.int .u64 0,.int .u64 0,.int .u64 0,.int .u64 0,.int .u64 0,.int .u64 0,.int .u64 0,.int .u64 0,.int .u64 0,.int .u64 0,.int .u64 0] 140))):=(((Below.refl _ _).alloc (Nat.le_refl _) _).alloc (by simp) _).alloc (by simp;omega) _;have HNR:Hid (RowW (((w.alloc (.cells #[.int .u64 n0,.int .u64 n1,.int .u64 n2,.int .u64 n3] 143)).alloc (.cells #[.int .u64 1,.int .u64 0,.int .u64 0,.int .u64 0,.int .u64 0] 138)).alloc (.cells #[.int .u64 0,.int .u64 0,.int .u64 0,.int .u64 0,.int .u64 0,.int .u64 0,.int .u64 0,.int .u64 0,.int .u64 0,.int .u64 0,.int .u64 0,.int .u64 0,.int .u64 0,.int .u64 0,.int .u64 0,.int .u64 0,.int .u64 0,.int .u64 0,.int .u64 0,.int .u64 0] 140)) w.heap.size 143 [n0,n1,n2,n3]):=by
  show _=_
  rw[Below.heap_alloc _ _ w.heap.size (by simp;omega),Below.heap_alloc _ _ w.heap.size (by simp)];exact heap_alloc_new w _
 have HZR:Hid (RowW (((w.alloc (.cells #[.int .u64 n0,.int .u64 n1,.int .u64 n2,.int .u64 n3] 143)).alloc (.cells #[.int .u64 1,.int .u64 0,.int .u64 0,.int .u64 0,.int .u64 0] 138)).alloc (.cells #[.int .u64 0,.int .u64 0,.int .u64 0,.int .u64 0,.int .u64 0,.int .u64 0,.int .u64 0,.int .u64 0,.int .u64 0,.int .u64 0,.int .u64 0,.int .u64 0,.int .u64 0,.int .u64 0,.int .u64 0,.int .u64 0,.int .u64 0,.int .u64 0,.int .u64 0,.int .u64 0] 140)) (w.heap.size+1+1) 140 z20):=heap_third w _ _ _;have HER:Hid (EAt ((w.alloc (.cells #[.int .u64 n0,.int .u64 n1,.int .u64 n2,.int .u64 n3] 143)).alloc (.cells #[.int .u64 1,.int .u64 0,.int .u64 0,.int .u64 0,.int .u64 0] 138)) (w.heap.size+1) 0 [1,0,0,0,0]):=by
  have r:RowW ((w.alloc (.cells #[.int .u64 n0,.int .u64 n1,.int .u64 n2,.int .u64 n3] 143)).alloc (.cells #[.int .u64 1,.int .u64 0,.int .u64 0,.int .u64 0,.int .u64 0] 138)) (w.heap.size+1) 138 [1,0,0,0,0]:=by
   have:=heap_alloc_new (w.alloc (.cells #[.int .u64 n0,.int .u64 n1,.int .u64 n2,.int .u64 n3] 143)) (.cells #[.int .u64 1,.int .u64 0,.int .u64 0,.int .u64 0,.int .u64 0] 138)
   rwa [show(w.alloc (.cells #[.int .u64 n0,.int .u64 n1,.int .u64 n2,.int .u64 n3] 143)).heap.size=w.heap.size+1 by simp] at this
  exact EAt.of_row r one_ok2
 have HPT:Hid (Pt w g x y z t):=hp;have HWD:Hid (Wrd [n0,n1,n2,n3]):=hw;clear hp hw;simp only[List.map_cons,List.map_nil];go_enter Tryz.func104,Tryz.ntmps104;go_wp2_with (first
  |(refine wpList_loadE rfl (.tmp 4) rfl (w.heap.size+1) 0 [1,0,0,0,0] rfl HER.out ?_)
  |(refine wpList_storeP rfl (.tmp 5) (.tmp 10) rfl (w.heap.size+1+1) [0,0,0,0,0] [1,0,0,0,0] [1,0,0,0,0] [0,0,0,0,0] z20 rfl rfl zero_ok one_ok2 one_ok2 zero_ok rfl HZR.out ?_)
  |fail)
 intro w0 hp0 hw0;have HS:Hid (MuS w g x y z t [n0,n1,n2,n3] (S 0) w0):=by
  have b0:Below w.heap.size w w0:=HB.out.trans (hw0.below (by omega));exact⟨b0,hw0.rowW HNR.out (by omega),HPT.out.below b0 HPT.out.row.lt,HPT.out.row.lt,[0,0,0,0,0],[1,0,0,0,0],[1,0,0,0,0],[0,0,0,0,0],hp0,by rw[hS0.out];exact ev_id⟩
 clear hp0 hw0 HB HNR HZR HER;go_wp2_with fail
 go_loopw [6] (fun i wr=>∃ j:Nat,j≤256∧i=.int .i64 ((j:Int)-1)∧MuS w g x y z t [n0,n1,n2,n3] (S (256-j)) wr) (fun i _=>(intOf i+1).toNat)
 case atStart=>exact⟨256,Nat.le_refl _,by go_num,by rw[Nat.sub_self];exact HS.out⟩
 case round=>
  clear HS;obtain⟨j,hj,rfl,hst⟩:=hrel;by_cases hj0:0<j
  ·obtain⟨i,rfl⟩:∃ i,j=i+1:=⟨j-1,by omega⟩
   have ei:((i+1:Nat):Int)-1=(i:Int):=by omega
   rw[ei];clear ei;obtain⟨hbel,hnum,hpt,hlt,a,b,c,d,hsum,hq⟩:=hst;have HST:Hid (Below w.heap.size w wr∧RowW wr w.heap.size 143 [n0,n1,n2,n3]∧Pt wr g x y z t∧g<w.heap.size∧Pt wr (w.heap.size+1+1) a b c d∧((ev a,ev b,ev c,ev d):Q4)=S (256-(i+1))):=⟨hbel,hnum,hpt,hlt,hsum,hq⟩
   clear hbel hnum hpt hlt hsum hq;go_wp2_with fail;refine(add_any (w.heap.size+1+1) (w.heap.size+1+1) a b c d a b c d _ HST.out.2.2.2.2.1 HST.out.2.2.2.2.1).mono ?_;intro e w2 h2;obtain⟨a2,b2,c2,d2,p2,hw2,rfl,q2⟩:=h2.q4;obtain⟨s1,s2,s3,s4,s5,s6⟩:=HST.out;have HST2:Hid (Below w.heap.size w w2∧RowW w2 w.heap.size 143 [n0,n1,n2,n3]∧Pt w2 g x y z t∧g<w.heap.size∧Pt w2 (w.heap.size+1+1) a2 b2 c2 d2∧((ev a2,ev b2,ev c2,ev d2):Q4)=F4 (S (256-(i+1))) (S (256-(i+1)))):=
    ⟨s1.trans (hw2.below w.heap.size (by omega) s1.size),hw2.rowW s2 (by omega),s3.wrh2 hw2 (by omega),s4,p2,by rw[q2,s6]⟩
   clear h2 p2 hw2 q2 s1 s2 s3 s4 s5 s6 HST;go_wp2_with fail;refine(bit_any w.heap.size [n0,n1,n2,n3] i _ rfl (by omega) HST2.out.2.1 HWD.out).mono ?_;rintro e w3 ⟨rfl,rfl⟩;have hv:val 18446744073709551616 [n0,n1,n2,n3]/2^i%2=0∨val 18446744073709551616 [n0,n1,n2,n3]/2^i%2=1:=by omega
   have en:256-i=256-(i+1)+1:=by omega
   have en2:255-(256-(i+1))=i:=by omega
   rcases hv with hv|hv
   ·have hvb:vbit (val 18446744073709551616 [n0,n1,n2,n3]) i=false:=by unfold vbit;rw[hv];rfl
    have HN:Hid (MuS w g x y z t [n0,n1,n2,n3] (S (256-i)) w3):=by
     obtain⟨s1,s2,s3,s4,s5,s6⟩:=HST2.out;refine⟨s1,s2,s3,s4,a2,b2,c2,d2,s5,?_⟩;rw[s6,en,hSs.out,en2,hvb];rfl
    rw[hv];clear hv HST2 en en2 hvb;go_wp2;go_roundw
    case rel=>exact⟨i,by omega,by go_num,HN.out⟩
    case measure=>simp[intOf]
   ·have hvb:vbit (val 18446744073709551616 [n0,n1,n2,n3]) i=true:=by unfold vbit;rw[hv];rfl
    rw[hv];clear hv;go_wp2_with fail;refine(add_any (w.heap.size+1+1) g a2 b2 c2 d2 x y z t _ HST2.out.2.2.2.2.1 HST2.out.2.2.1).mono ?_;intro e w4 h4;obtain⟨a4,b4,c4,d4,p4,hw4,rfl,q4⟩:=h4.q4;have HN:Hid (MuS w g x y z t [n0,n1,n2,n3] (S (256-i)) w4):=by
     obtain⟨s1,s2,s3,s4,s5,s6⟩:=HST2.out;refine⟨s1.trans (hw4.below w.heap.size (by omega) s1.size),hw4.rowW s2 (by omega),s3.wrh2 hw4 (by omega),s4,a4,b4,c4,d4,p4,?_⟩;rw[q4,s6,en,hSs.out,en2,hvb];rfl
    clear HST2 en en2 hvb h4 p4 hw4 q4;go_wp2;go_roundw
    case rel=>exact⟨i,by omega,by go_num,HN.out⟩
    case measure=>simp[intOf]
  ·have hj00:j=0:=by omega
   subst hj00;obtain⟨hbel,hnum,hpt,hlt,a,b,c,d,hsum,hq⟩:=hst;rw[Nat.sub_zero] at hq;have HL:Hid (wr.heap[w.heap.size+1+1]?=some (.cells ((pl a b c d).map (Value.int .u64)).toArray 140 (0,0))):=hsum.row;have HPX:Hid ((pl x y z t).length=20):=by show _=_;unfold pl;simp[HPT.out.x.1,HPT.out.y.1,HPT.out.z.1,HPT.out.t.1]
   have HSZ:Hid ((Tryz.prog.info? 140).map (·.size)=some ((pl a b c d).map (Value.int .u64)).toArray.size):=by
    show _=_
    rw[Tryz.sizePoint2];unfold pl;simp[hsum.x.1,hsum.y.1,hsum.z.1,hsum.t.1]
   have HOK:Hid (EOk a∧EOk b∧EOk c∧EOk d):=⟨hsum.x,hsum.y,hsum.z,hsum.t⟩
   have HPR:Hid (RowW wr g 140 (pl x y z t)):=hpt.row;have HFF:Hid (Below w.heap.size w wr∧((ev a,ev b,ev c,ev d):Q4)=S 256):=⟨hbel,hq⟩
   clear hbel hnum hpt hsum hq;go_wp2_with (first
    |(refine wpList_load_row rfl 140 (.tmp 5) rfl (w.heap.size+1+1) rfl 140 _ (0,0) _ HL.out Tryz.underlying140 rfl HSZ.out ?_)
    |(refine wpList_storeP rfl (.tmp 23) (.tmp 22) rfl g a b c d _ rfl rfl HOK.out.1 HOK.out.2.1 HOK.out.2.2.1 HOK.out.2.2.2 HPX.out HPR.out ?_)
    |fail)
   intro w5 hp5 hw5;have HF:Hid (MulP w g (S 256) (.returned (.tuple #[])) w5):=
    ⟨a,b,c,d,hp5,(WrH.of_below HFF.out.1).trans hw5.wrH,rfl,HFF.out.2⟩
   clear hp5 hw5 HFF HPR HOK HSZ HPX HL;go_wp2
   go_end0
   exact HF.out
theorem multiply_any (g:Nat) (x y z t ns:List Int) (w:World) (hp:Pt w g x y z t) (hl:ns.length=4) (hw:Wrd ns) :
  Calls Tryz.prog 104 #[.pointer (some ⟨g,0,none⟩),.agg (ns.map (Value.int .u64)).toArray] w (MulP w g (pS (val 18446744073709551616 ns) (ev x,ev y,ev z,ev t) 256)):=
 multiply_gen (pS (val 18446744073709551616 ns) (ev x,ev y,ev z,ev t)) g x y z t ns w hp hl hw rfl (fun _=>rfl)
theorem byte_bit (ks:List Int) (hw:Byte ks) (i:Nat):ks.getD (i/8) 0/2^(i%8)%2=val 256 ks/2^i%2:=by
 have hd:=val_digit (B:=256) (by decide) (fun z hz=>hw z hz) (i/8);rw[←hd];generalize val 256 ks=V;have e1:(256:Int)^(i/8)=2^(8*(i/8)):=by rw[Int.pow_mul];rfl
 have e2:(2:Int)^i=2^(8*(i/8))*2^(i%8):=by rw[←Int.pow_add];congr 1;omega
 have hp:(0:Int)≤2^(8*(i/8)):=Int.le_of_lt (Int.pow_pos (by decide));rw[e1,e2,←Int.ediv_ediv_of_nonneg hp];generalize V/2^(8*(i/8))=U;have e3:(256:Int)=2^(i%8)*2^(8-i%8):=by
  rw[←Int.pow_add,show i%8+(8-i%8)=8 by omega];rfl
 have h1:0<8-i%8:=by omega
 rw[e3];have hq:(0:Int)<2^(i%8):=Int.pow_pos (by decide);rw[Int.emod_def U,Int.mul_assoc,Int.sub_eq_add_neg,←Int.mul_neg,Int.add_mul_ediv_left _ _ (by omega)];obtain⟨m,hm⟩:∃ m,8-i%8=m+1:=⟨7-i%8,by omega⟩
 rw[hm,Int.pow_succ];generalize U/2^(i%8)=A;generalize U/(2^(i%8)*(2^m*2))=B;rw[show -(2^m*2*B)=2*(-(2^m*B)) by grind,Int.add_mul_emod_self_left]
theorem FeA.lt {w:World} {g:Nat} {x:Int} (h:FeA w (some ⟨g,0,none⟩) x):g<w.heap.size:=by
 obtain⟨zs,h1,h2,h3⟩:=h;obtain⟨b,o,e,hb,hc⟩:=h1.get (by have:=h2.1;omega);cases e;exact hb
def OutS (B:Nat) (wr:World) (G:Nat) (Q:Q4):Prop:=
 ∃ h0 k0 h1 k1 h2 k2 h3 k3,PtW wr G #[.slice (some ⟨h0,0,none⟩) 16 k0,.slice (some ⟨h1,0,none⟩) 16 k1,.slice (some ⟨h2,0,none⟩) 16 k2,.slice (some ⟨h3,0,none⟩) 16 k3]∧FeA wr (some ⟨h0,0,none⟩) Q.1∧FeA wr (some ⟨h1,0,none⟩) Q.2.1∧FeA wr (some ⟨h2,0,none⟩) Q.2.2.1∧FeA wr (some ⟨h3,0,none⟩) Q.2.2.2∧(h0≠G∧h1≠G∧h2≠G∧h3≠G)∧(B<h0∧B<h1∧B<h2∧B<h3)
structure TmE (w:World) (pc:Array Value) (G:Nat) (wr:World):Prop where
 below:Below w.heap.size w wr
 pb:PtW wr w.heap.size pc
 rs:PtW wr (w.heap.size+1) #[.slice none 0 0,.slice none 0 0,.slice none 0 0,.slice none 0 0]
 gt:w.heap.size+1<G
theorem TmE.call {w wr w':World} {pc:Array Value} {G:Nat} (h:TmE w pc G wr) (b:Below wr.heap.size wr w'):TmE w pc G w':=
 ⟨h.below.trans (b.mono h.below.size),h.pb.below b h.pb.lt,h.rs.below b h.rs.lt,h.gt⟩
theorem PtW.wr2 {w w':World} {g V:Nat} {cs:Array Value} (h:PtW w g cs) (hw:Wr V w w') (hne:g≠V):PtW w' g cs:=by unfold PtW;rw[hw.block g hne];exact h
theorem TmE.wr {w wr w':World} {pc:Array Value} {G:Nat} (h:TmE w pc G wr) (hw:Wr G wr w'):TmE w pc G w':=
 ⟨h.below.trans (hw.below (by have:=h.gt;omega)),h.pb.wr2 hw (by have:=h.gt;omega),h.rs.wr2 hw (by have:=h.gt;omega),h.gt⟩
def TimP (w:World) (Q:Q4) (e:Ending) (w':World):Prop:=
 ∃ h0 k0 h1 k1 h2 k2 h3 k3,e=.returned (.agg #[.slice (some ⟨h0,0,none⟩) 16 k0,.slice (some ⟨h1,0,none⟩) 16 k1,.slice (some ⟨h2,0,none⟩) 16 k2,.slice (some ⟨h3,0,none⟩) 16 k3])∧FeA w' (some ⟨h0,0,none⟩) Q.1∧FeA w' (some ⟨h1,0,none⟩) Q.2.1∧FeA w' (some ⟨h2,0,none⟩) Q.2.2.1∧FeA w' (some ⟨h3,0,none⟩) Q.2.2.2∧Below w.heap.size w w'
theorem OutS.put {B:Nat} {wr w5 w6:World} {G:Nat} {P Q:Q4} {v:Value} (hG:G<wr.heap.size) (hB:B<G)
  (h:SumP wr (smA P.1 P.2.1 Q.1 Q.2.1) (smB P.1 P.2.1 Q.1 Q.2.1) (smC mdD P.2.2.2 Q.2.2.2) (smG P.2.2.1 Q.2.2.1) (.returned v) w5) :
  ∃ s0 s1 s2 s3,v=.agg #[s0,s1,s2,s3]∧(s0.oneCell'=true∧s1.oneCell'=true∧s2.oneCell'=true∧s3.oneCell'=true)∧(PtW w6 G #[s0,s1,s2,s3]→Wr G w5 w6→OutS B w6 G (F4 P Q)):=by
 obtain⟨g1,k1,g2,k2,g3,k3,g4,k4,e,f1,f2,f3,f4,b,q1,q2,q3,q4⟩:=h;cases e;refine⟨_,_,_,_,rfl,⟨rfl,rfl,rfl,rfl⟩,fun hp hw=>⟨g1,k1,g2,k2,g3,k3,g4,k4,hp,f1.wr hw (by omega),f2.wr hw (by omega),f3.wr hw (by omega),f4.wr hw (by omega),⟨by omega,by omega,by omega,by omega⟩,by omega,by omega,by omega,by omega⟩⟩
set_option maxRecDepth 100000 in
set_option maxHeartbeats 8000000 in
theorem ltimes_gen (M:Nat→Q4×Bool) (kp:Option Addr) (kc:Nat) (ks:List Int) (p0 p1 p2 p3 gd c0 c1 c2 c3 cd:Nat) (P:Q4) (w:World) (hk:ks.length=32) (hb:Byte ks) (ha:At .u8 w kp ks)
  (h0:FeA w (some ⟨p0,0,none⟩) P.1) (h1:FeA w (some ⟨p1,0,none⟩) P.2.1) (h2:FeA w (some ⟨p2,0,none⟩) P.2.2.1) (h3:FeA w (some ⟨p3,0,none⟩) P.2.2.2) (hd:FeA w (some ⟨gd,0,none⟩) mdD) (hM0:Hid (M 0=(idQ,false)))
  (hMs:Hid (∀ n Q b,M n=(Q,b)→M (n+1)=bif vbit (val 256 ks) (255-n) then(F4 (bif b then F4 Q Q else Q) P,true) else(bif b then F4 Q Q else Q,b))) :
  Calls Tryz.prog 77 #[.slice kp 32 kc,.agg #[.slice (some ⟨p0,0,none⟩) 16 c0,.slice (some ⟨p1,0,none⟩) 16 c1,.slice (some ⟨p2,0,none⟩) 16 c2,.slice (some ⟨p3,0,none⟩) 16 c3],.slice (some ⟨gd,0,none⟩) 16 cd] w (TimP w (M 256).1):=by
 have bb:Below w.heap.size w ((w.alloc (.cells #[.slice (some ⟨p0,0,none⟩) 16 c0,.slice (some ⟨p1,0,none⟩) 16 c1,.slice (some ⟨p2,0,none⟩) 16 c2,.slice (some ⟨p3,0,none⟩) 16 c3] 109)).alloc (.cells #[.slice none 0 0,.slice none 0 0,.slice none 0 0,.slice none 0 0] 109)):=((Below.refl _ _).alloc (Nat.le_refl _) _).alloc (by simp) _;have HP0:Hid (PtW ((w.alloc (.cells #[.slice (some ⟨p0,0,none⟩) 16 c0,.slice (some ⟨p1,0,none⟩) 16 c1,.slice (some ⟨p2,0,none⟩) 16 c2,.slice (some ⟨p3,0,none⟩) 16 c3] 109)).alloc (.cells #[.slice none 0 0,.slice none 0 0,.slice none 0 0,.slice none 0 0] 109)) w.heap.size #[.slice (some ⟨p0,0,none⟩) 16 c0,.slice (some ⟨p1,0,none⟩) 16 c1,.slice (some ⟨p2,0,none⟩) 16 c2,.slice (some ⟨p3,0,none⟩) 16 c3]):=by
  show _=_
  rw[Below.heap_alloc _ _ w.heap.size (by simp)];exact heap_alloc_new w _
 have HZ0:Hid (PtW ((w.alloc (.cells #[.slice (some ⟨p0,0,none⟩) 16 c0,.slice (some ⟨p1,0,none⟩) 16 c1,.slice (some ⟨p2,0,none⟩) 16 c2,.slice (some ⟨p3,0,none⟩) 16 c3] 109)).alloc (.cells #[.slice none 0 0,.slice none 0 0,.slice none 0 0,.slice none 0 0] 109)) (w.heap.size+1) #[.slice none 0 0,.slice none 0 0,.slice none 0 0,.slice none 0 0]):=by
  show _=_
  have:=heap_alloc_new (w.alloc (.cells #[.slice (some ⟨p0,0,none⟩) 16 c0,.slice (some ⟨p1,0,none⟩) 16 c1,.slice (some ⟨p2,0,none⟩) 16 c2,.slice (some ⟨p3,0,none⟩) 16 c3] 109)) (.cells #[.slice none 0 0,.slice none 0 0,.slice none 0 0,.slice none 0 0] 109);simpa using this
 have HB0:Hid (Below w.heap.size w ((w.alloc (.cells #[.slice (some ⟨p0,0,none⟩) 16 c0,.slice (some ⟨p1,0,none⟩) 16 c1,.slice (some ⟨p2,0,none⟩) 16 c2,.slice (some ⟨p3,0,none⟩) 16 c3] 109)).alloc (.cells #[.slice none 0 0,.slice none 0 0,.slice none 0 0,.slice none 0 0] 109))):=bb;have HF0:Hid (FeA w (some ⟨p0,0,none⟩) P.1):=h0;have HF1:Hid (FeA w (some ⟨p1,0,none⟩) P.2.1):=h1;have HF2:Hid (FeA w (some ⟨p2,0,none⟩) P.2.2.1):=h2;have HF3:Hid (FeA w (some ⟨p3,0,none⟩) P.2.2.2):=h3;have HFD:Hid (FeA w (some ⟨gd,0,none⟩) mdD):=hd;obtain⟨kb,ko,rfl,hkb,hkc⟩:=ha.get (by omega);have HKB:Hid (kb<w.heap.size):=hkb;have HKC:Hid (∀ q,q<32→w.cell? ⟨kb,ko+q,none⟩=some (.int .u8 (ks.getD q 0))):=fun q hq=>hkc q (by omega)
 have HBY:Hid (Byte ks):=hb;have HKL:Hid (ks.length=32):=hk;clear bb h0 h1 h2 h3 hd ha hb hk hkb hkc;go_enter Tryz.func77,Tryz.ntmps77;go_wp2_with fail;generalize ((w.alloc (.cells #[.slice (some ⟨p0,0,none⟩) 16 c0,.slice (some ⟨p1,0,none⟩) 16 c1,.slice (some ⟨p2,0,none⟩) 16 c2,.slice (some ⟨p3,0,none⟩) 16 c3] 109)).alloc (.cells #[.slice none 0 0,.slice none 0 0,.slice none 0 0,.slice none 0 0] 109))=w0 at *;refine(small_any 0 _ (by decide) (by decide)).mono ?_;rintro e w1 ⟨g1,k1,rfl,hr1,_,hf,hb⟩;have hg1:w.heap.size+1<g1:=by have:=HZ0.out.lt;omega
 have HX:Hid (FeA w1 (some ⟨g1,0,none⟩) (0%fp)):=hf;have b1:Below w.heap.size w w1:=HB0.out.trans (hb.mono HB0.out.size);have HP1:Hid (PtW w1 w.heap.size #[.slice (some ⟨p0,0,none⟩) 16 c0,.slice (some ⟨p1,0,none⟩) 16 c1,.slice (some ⟨p2,0,none⟩) 16 c2,.slice (some ⟨p3,0,none⟩) 16 c3]):=HP0.out.below hb HP0.out.lt;have HZ1:Hid (PtW w1 (w.heap.size+1) #[.slice none 0 0,.slice none 0 0,.slice none 0 0,.slice none 0 0]):=HZ0.out.below hb HZ0.out.lt;have HB1:Hid (Below w.heap.size w w1):=b1;clear hf hb HB0 HP0 HZ0 b1;go_wp2_with fail;refine(small_any 1 _ (by decide) (by decide)).mono ?_;rintro e w2 ⟨g2,k2,rfl,hr2,_,hf,hb⟩;have hg2:w.heap.size+1<g2:=by have:=HZ1.out.lt;omega
 have HX2:Hid (FeA w2 (some ⟨g1,0,none⟩) (0%fp)):=HX.out.below hb;have HY2:Hid (FeA w2 (some ⟨g2,0,none⟩) (1%fp)):=hf;have HP2:Hid (PtW w2 w.heap.size #[.slice (some ⟨p0,0,none⟩) 16 c0,.slice (some ⟨p1,0,none⟩) 16 c1,.slice (some ⟨p2,0,none⟩) 16 c2,.slice (some ⟨p3,0,none⟩) 16 c3]):=HP1.out.below hb HP1.out.lt;have HZ2:Hid (PtW w2 (w.heap.size+1) #[.slice none 0 0,.slice none 0 0,.slice none 0 0,.slice none 0 0]):=HZ1.out.below hb HZ1.out.lt;have HB2:Hid (Below w.heap.size w w2):=HB1.out.trans (hb.mono HB1.out.size);clear hf hb HB1 HP1 HZ1 HX;go_wp2_with fail;refine(affine_any (some ⟨g1,0,none⟩) (some ⟨g2,0,none⟩) k1 k2 _ _ _ HX2.out HY2.out).mono ?_;rintro e w3 ⟨gz,cz,gt,ct,rfl,f3,f4,hb,hr3,hr4⟩;have hgz:w.heap.size+1<gz:=by have:=HZ2.out.lt;omega
 have hgt:w.heap.size+1<gt:=by have:=HZ2.out.lt;omega
 have HX3:Hid (FeA w3 (some ⟨g1,0,none⟩) (0%fp)∧FeA w3 (some ⟨g2,0,none⟩) (1%fp)∧FeA w3 (some ⟨gz,0,none⟩) (1%fp)∧FeA w3 (some ⟨gt,0,none⟩) (0%fp*(1%fp)%fp)):=⟨HX2.out.below hb,HY2.out.below hb,f3,f4⟩
 have HP3:Hid (PtW w3 w.heap.size #[.slice (some ⟨p0,0,none⟩) 16 c0,.slice (some ⟨p1,0,none⟩) 16 c1,.slice (some ⟨p2,0,none⟩) 16 c2,.slice (some ⟨p3,0,none⟩) 16 c3]):=HP2.out.below hb HP2.out.lt;have HZ3:Hid (PtW w3 (w.heap.size+1) #[.slice none 0 0,.slice none 0 0,.slice none 0 0,.slice none 0 0]):=HZ2.out.below hb HZ2.out.lt;have HB3:Hid (Below w.heap.size w w3):=HB2.out.trans (hb.mono HB2.out.size);have HPN:Hid (PtW (w3.alloc (.cells #[.slice none 0 0,.slice none 0 0,.slice none 0 0,.slice none 0 0] 109)) w3.heap.size #[.slice none 0 0,.slice none 0 0,.slice none 0 0,.slice none 0 0]):=PtW.new w3;clear f3 f4 hb HB2 HP2 HZ2 HX2 HY2;go_wp2_with (first
  |(refine wpList_storePt rfl (.tmp 7) (.tmp 12) rfl w3.heap.size _ _ _ _ _ rfl rfl rfl rfl rfl rfl rfl HPN.out ?_)
  |fail)
 intro w4 hp4 hw4;have b34:Below w3.heap.size w3 w4:=(below_new3 _ _).trans (hw4.below (Nat.le_refl _));have HE:Hid (TmE w #[.slice (some ⟨p0,0,none⟩) 16 c0,.slice (some ⟨p1,0,none⟩) 16 c1,.slice (some ⟨p2,0,none⟩) 16 c2,.slice (some ⟨p3,0,none⟩) 16 c3] w3.heap.size w4):=⟨HB3.out.trans (b34.mono HB3.out.size),HP3.out.below b34 HP3.out.lt,HZ3.out.below b34 HZ3.out.lt,HZ3.out.lt⟩
 have HO:Hid (OutS (w.heap.size+1) w4 w3.heap.size (M 0).1):=by
  show OutS _ _ _ _
  rw[hM0.out];obtain⟨q1,q2,q3,q4⟩:=HX3.out;refine⟨g1,k1,g2,k2,gz,cz,gt,ct,hp4,?_,?_,?_,?_,⟨?_,?_,?_,?_⟩,hg1,hg2,hgz,hgt⟩
  ·exact q1.below b34
  ·exact q2.below b34
  ·exact q3.below b34
  ·exact q4.below b34
  ·have:=q1.lt;omega
  ·have:=q2.lt;omega
  ·have:=q3.lt;omega
  ·have:=q4.lt;omega
 clear hp4 hw4 b34 HPN HX3 HP3 HZ3 HB3;generalize w3.heap.size=G at *;go_wp2_with fail
 go_loopw [8,9] (fun b i wr=>∃ j:Nat,j≤256∧i=.int .i64 ((j:Int)-1)∧b=.bool (M (256-j)).2∧TmE w #[.slice (some ⟨p0,0,none⟩) 16 c0,.slice (some ⟨p1,0,none⟩) 16 c1,.slice (some ⟨p2,0,none⟩) 16 c2,.slice (some ⟨p3,0,none⟩) 16 c3] G wr∧OutS (w.heap.size+1) wr G (M (256-j)).1) (fun _ i _=>(intOf i+1).toNat)
 case atStart=>exact⟨256,Nat.le_refl _,by go_num,by rw[Nat.sub_self,hM0.out],HE.out,by rw[Nat.sub_self];exact HO.out⟩
 case round=>
  clear HE HO;obtain⟨j,hj,rfl,rfl,hE,hO⟩:=hrel;by_cases hj0:0<j
  ·obtain⟨i,rfl⟩:∃ i,j=i+1:=⟨j-1,by omega⟩
   have ei:((i+1:Nat):Int)-1=(i:Int):=by omega
   rw[ei];clear ei;have en:256-i=256-(i+1)+1:=by omega
   have en2:255-(256-(i+1))=i:=by omega
   have hi8:i<256:=by omega
   generalize hM:M (256-(i+1))=mq at *;obtain⟨Q,bg⟩:=mq;simp only at hO ⊢;cases bg with
   |false=>
    have hge:¬ ((i:Int)<0):=by omega
    have cK:wr.cell? ⟨kb,ko+i/8,none⟩=some (.int .u8 (ks.getD (i/8) 0)):=by rw[hE.below.cell (p:=⟨kb,ko+i/8,none⟩) HKB.out];exact HKC.out (i/8) (by omega)
    have hx:=HBY.out.get (i/8);have HBIT:Hid (ks.getD (i/8) 0/2^(i%8)%2=(val 256 ks)/2^i%2):=byte_bit ks HBY.out i;have hlt:(i:Int)/8<32:=by omega
    have HE:Hid (TmE w #[.slice (some ⟨p0,0,none⟩) 16 c0,.slice (some ⟨p1,0,none⟩) 16 c1,.slice (some ⟨p2,0,none⟩) 16 c2,.slice (some ⟨p3,0,none⟩) 16 c3] G wr):=hE;have HO:Hid (OutS (w.heap.size+1) wr G (Q)):=hO;clear hE hO;generalize ks.getD (i/8) 0=x at *;obtain⟨hx0,hx1⟩:=hx;have hv:(val 256 ks)/2^i%2=0∨(val 256 ks)/2^i%2=1:=by omega
    have hpp:(0:Int)<2^(i%8):=Int.pow_pos (by decide);have hy0:0≤x/2^(i%8):=Int.ediv_nonneg hx0 (by omega);have hy1:x/2^(i%8)≤x:=Int.ediv_le_self _ hx0;rcases hv with hv|hv
    ·have hvb:vbit (val 256 ks) i=false:=by unfold vbit;rw[hv];rfl
     have hb0:x/2^(i%8)%2=0:=by rw[HBIT.out,hv]
     have HN:Hid ((M (256-i))=(Q,false)):=by
      show _=_
      rw[en,hMs.out _ _ _ hM,en2,hvb];rfl
     clear hv HBIT hvb;have ht:(x/2^(i%8)).tmod 2=0:=by rw[Int.tmod_eq_emod_of_nonneg hy0,hb0]
     clear hb0;go_wp2;go_roundw
     case rel=>exact⟨i,by omega,by go_num,by rw[HN.out],HE.out,by rw[HN.out];exact HO.out⟩
     case measure=>simp[intOf]
    ·have hvb:vbit (val 256 ks) i=true:=by unfold vbit;rw[hv];rfl
     have hb0:x/2^(i%8)%2=1:=by rw[HBIT.out,hv]
     have HN:Hid ((M (256-i))=(F4 (Q) P,true)):=by
      show _=_
      rw[en,hMs.out _ _ _ hM,en2,hvb];rfl
     clear hv HBIT hvb;have ht:(x/2^(i%8)).tmod 2=1:=by rw[Int.tmod_eq_emod_of_nonneg hy0,hb0]
     clear hb0;obtain⟨h0,k0,h1,k1,h2,k2,h3,k3,hp,hf0,hf1,hf2,hf3,hne⟩:=HO.out;have hE:=HE.out;have CS := sum_any (some ⟨h0,0,none⟩) (some ⟨h1,0,none⟩) (some ⟨h2,0,none⟩) (some ⟨h3,0,none⟩) (some ⟨p0,0,none⟩) (some ⟨p1,0,none⟩) (some ⟨p2,0,none⟩) (some ⟨p3,0,none⟩) (some ⟨gd,0,none⟩) k0 k1 k2 k3 c0 c1 c2 c3 cd _ _ _ _ _ _ _ _ mdD wr (fun e he=>by
                                                                                                      simp only[List.mem_cons,List.not_mem_nil,or_false] at he
                                                                                                      rcases he with rfl|rfl|rfl|rfl|rfl|rfl|rfl|rfl|rfl
                                                                                                      · exact hf0
                                                                                                      · exact hf1
                                                                                                      · exact hf2
                                                                                                      · exact hf3
                                                                                                      · exact(HF0.out.below hE.below)
                                                                                                      · exact(HF1.out.below hE.below)
                                                                                                      · exact(HF2.out.below hE.below)
                                                                                                      · exact(HF3.out.below hE.below)
                                                                                                      · exact(HFD.out.below hE.below))
     have HPO:Hid (PtW wr G #[.slice (some ⟨h0,0,none⟩) 16 k0,.slice (some ⟨h1,0,none⟩) 16 k1,.slice (some ⟨h2,0,none⟩) 16 k2,.slice (some ⟨h3,0,none⟩) 16 k3]):=hp;have HPB:Hid (PtW wr w.heap.size #[.slice (some ⟨p0,0,none⟩) 16 c0,.slice (some ⟨p1,0,none⟩) 16 c1,.slice (some ⟨p2,0,none⟩) 16 c2,.slice (some ⟨p3,0,none⟩) 16 c3]):=hE.pb;clear hp hf0 hf1 hf2 hf3 hne hE HO;go_wp2_with (first
      |(refine wpList_load_row rfl 109 (.tmp 7) rfl G rfl 109 _ (0,0) _ HPO.out Tryz.underlying109 rfl Tryz.sizePt ?_)
      |(refine wpList_load_row rfl 109 (.tmp 4) rfl w.heap.size rfl 109 _ (0,0) _ HPB.out Tryz.underlying109 rfl Tryz.sizePt ?_)
      |fail)
     refine CS.mono ?_;intro e w8 h8;have h8b:Below wr.heap.size wr w8:=by obtain⟨_,_,_,_,_,_,_,_,_,_,_,_,_,b,_⟩:=h8;exact b
     have h8e:∃ v,e=.returned v:=by obtain⟨_,_,_,_,_,_,_,_,r,_⟩:=h8;exact⟨_,r⟩
     obtain⟨v8,rfl⟩:=h8e;have hput:=fun w9=>OutS.put (B:=w.heap.size+1) (w6:=w9) (P:=Q) (Q:=P) HPO.out.lt HE.out.gt h8
     obtain⟨s0,s1,s2,s3,rfl,hone,_⟩:=hput w8;have HPT:Hid (∀ w9,PtW w9 G #[s0,s1,s2,s3]→Wr G w8 w9→OutS (w.heap.size+1) w9 G (F4 (Q) P)):=fun w9 hp hw=>by
      obtain⟨q0,q1,q2,q3,e,_,k⟩:=hput w9;cases e;exact k hp hw
     have HON:Hid (s0.oneCell'=true∧s1.oneCell'=true∧s2.oneCell'=true∧s3.oneCell'=true):=hone;have HP8:Hid (PtW w8 G #[.slice (some ⟨h0,0,none⟩) 16 k0,.slice (some ⟨h1,0,none⟩) 16 k1,.slice (some ⟨h2,0,none⟩) 16 k2,.slice (some ⟨h3,0,none⟩) 16 k3]):=HPO.out.below h8b HPO.out.lt;have HE8:Hid (TmE w #[.slice (some ⟨p0,0,none⟩) 16 c0,.slice (some ⟨p1,0,none⟩) 16 c1,.slice (some ⟨p2,0,none⟩) 16 c2,.slice (some ⟨p3,0,none⟩) 16 c3] G w8):=HE.out.call h8b;clear h8 h8b hput hone CS HE HPO HPB;go_wp2_with (first
      |(refine wpList_storePt rfl (.tmp 7) (.tmp 40) rfl G s0 s1 s2 s3 _ HON.out.1 HON.out.2.1 HON.out.2.2.1 HON.out.2.2.2 rfl rfl rfl HP8.out ?_)
      |fail)
     intro w9 hp9 hw9;have HO9:Hid (OutS (w.heap.size+1) w9 G (F4 (Q) P)):=HPT.out w9 hp9 hw9;have HE9:Hid (TmE w #[.slice (some ⟨p0,0,none⟩) 16 c0,.slice (some ⟨p1,0,none⟩) 16 c1,.slice (some ⟨p2,0,none⟩) 16 c2,.slice (some ⟨p3,0,none⟩) 16 c3] G w9):=HE8.out.wr hw9;clear hp9 hw9 HPT HON HP8 HE8;go_wp2;go_roundw
     case rel=>exact⟨i,by omega,by go_num,by rw[HN.out],HE9.out,by rw[HN.out];exact HO9.out⟩
     case measure=>simp[intOf]
   |true=>
    obtain⟨h0,k0,h1,k1,h2,k2,h3,k3,hp,hf0,hf1,hf2,hf3,hne⟩:=hO;have CS:=sum_any (some ⟨h0,0,none⟩) (some ⟨h1,0,none⟩) (some ⟨h2,0,none⟩) (some ⟨h3,0,none⟩) (some ⟨h0,0,none⟩) (some ⟨h1,0,none⟩) (some ⟨h2,0,none⟩) (some ⟨h3,0,none⟩) (some ⟨gd,0,none⟩) k0 k1 k2 k3 k0 k1 k2 k3 cd _ _ _ _ _ _ _ _ mdD wr (fun e he=>by
     simp only[List.mem_cons,List.not_mem_nil,or_false] at he;rcases he with rfl|rfl|rfl|rfl|rfl|rfl|rfl|rfl|rfl
     ·exact hf0
     ·exact hf1
     ·exact hf2
     ·exact hf3
     ·exact hf0
     ·exact hf1
     ·exact hf2
     ·exact hf3
     ·exact(HFD.out.below hE.below))
    have HPO:Hid (PtW wr G #[.slice (some ⟨h0,0,none⟩) 16 k0,.slice (some ⟨h1,0,none⟩) 16 k1,.slice (some ⟨h2,0,none⟩) 16 k2,.slice (some ⟨h3,0,none⟩) 16 k3]):=hp;have HE:Hid (TmE w #[.slice (some ⟨p0,0,none⟩) 16 c0,.slice (some ⟨p1,0,none⟩) 16 c1,.slice (some ⟨p2,0,none⟩) 16 c2,.slice (some ⟨p3,0,none⟩) 16 c3] G wr):=hE;clear hp hf0 hf1 hf2 hf3 hne hE;go_wp2_with (first
     |(refine wpList_load_row rfl 109 (.tmp 7) rfl G rfl 109 _ (0,0) _ HPO.out Tryz.underlying109 rfl Tryz.sizePt ?_)
     |fail)
    refine CS.mono ?_;intro e w5 h5;have h5b:Below wr.heap.size wr w5:=by obtain⟨_,_,_,_,_,_,_,_,_,_,_,_,_,b,_⟩:=h5;exact b
    have h5e:∃ v,e=.returned v:=by obtain⟨_,_,_,_,_,_,_,_,r,_⟩:=h5;exact⟨_,r⟩
    obtain⟨v5,rfl⟩:=h5e;have hput:=fun w9=>OutS.put (B:=w.heap.size+1) (w6:=w9) (P:=Q) (Q:=Q) HPO.out.lt HE.out.gt h5
    obtain⟨s0,s1,s2,s3,rfl,hone,_⟩:=hput w5;have HPT:Hid (∀ w9,PtW w9 G #[s0,s1,s2,s3]→Wr G w5 w9→OutS (w.heap.size+1) w9 G (F4 Q Q)):=fun w9 hp hw=>by
     obtain⟨q0,q1,q2,q3,e,_,k⟩:=hput w9;cases e;exact k hp hw
    have HON:Hid (s0.oneCell'=true∧s1.oneCell'=true∧s2.oneCell'=true∧s3.oneCell'=true):=hone;have HP5:Hid (PtW w5 G #[.slice (some ⟨h0,0,none⟩) 16 k0,.slice (some ⟨h1,0,none⟩) 16 k1,.slice (some ⟨h2,0,none⟩) 16 k2,.slice (some ⟨h3,0,none⟩) 16 k3]):=HPO.out.below h5b HPO.out.lt;have HE5:Hid (TmE w #[.slice (some ⟨p0,0,none⟩) 16 c0,.slice (some ⟨p1,0,none⟩) 16 c1,.slice (some ⟨p2,0,none⟩) 16 c2,.slice (some ⟨p3,0,none⟩) 16 c3] G w5):=HE.out.call h5b;clear h5 h5b hput hone CS HE HPO;go_wp2_with (first
     |(refine wpList_storePt rfl (.tmp 7) (.tmp 25) rfl G s0 s1 s2 s3 _ HON.out.1 HON.out.2.1 HON.out.2.2.1 HON.out.2.2.2 rfl rfl rfl HP5.out ?_)
     |fail)
    intro w6 hp6 hw6;have hO:OutS (w.heap.size+1) w6 G (F4 Q Q):=HPT.out w6 hp6 hw6;have hE:TmE w #[.slice (some ⟨p0,0,none⟩) 16 c0,.slice (some ⟨p1,0,none⟩) 16 c1,.slice (some ⟨p2,0,none⟩) 16 c2,.slice (some ⟨p3,0,none⟩) 16 c3] G w6:=HE5.out.wr hw6;clear hp6 hw6 HPT HON HP5 HE5;have cK:w6.cell? ⟨kb,ko+i/8,none⟩=some (.int .u8 (ks.getD (i/8) 0)):=by rw[hE.below.cell (p:=⟨kb,ko+i/8,none⟩) HKB.out];exact HKC.out (i/8) (by omega)
    have hx:=HBY.out.get (i/8);have HBIT:Hid (ks.getD (i/8) 0/2^(i%8)%2=(val 256 ks)/2^i%2):=byte_bit ks HBY.out i;have hlt:(i:Int)/8<32:=by omega
    have HE:Hid (TmE w #[.slice (some ⟨p0,0,none⟩) 16 c0,.slice (some ⟨p1,0,none⟩) 16 c1,.slice (some ⟨p2,0,none⟩) 16 c2,.slice (some ⟨p3,0,none⟩) 16 c3] G w6):=hE;have HO:Hid (OutS (w.heap.size+1) w6 G (F4 Q Q)):=hO;clear hE hO;generalize ks.getD (i/8) 0=x at *;obtain⟨hx0,hx1⟩:=hx;have hv:(val 256 ks)/2^i%2=0∨(val 256 ks)/2^i%2=1:=by omega
    have hpp:(0:Int)<2^(i%8):=Int.pow_pos (by decide);have hy0:0≤x/2^(i%8):=Int.ediv_nonneg hx0 (by omega);have hy1:x/2^(i%8)≤x:=Int.ediv_le_self _ hx0;rcases hv with hv|hv
    ·have hvb:vbit (val 256 ks) i=false:=by unfold vbit;rw[hv];rfl
     have hb0:x/2^(i%8)%2=0:=by rw[HBIT.out,hv]
     have HN:Hid ((M (256-i))=(F4 Q Q,true)):=by
      show _=_
      rw[en,hMs.out _ _ _ hM,en2,hvb];rfl
     clear hv HBIT hvb;have ht:(x/2^(i%8)).tmod 2=0:=by rw[Int.tmod_eq_emod_of_nonneg hy0,hb0]
     clear hb0;go_wp2;go_roundw
     case rel=>exact⟨i,by omega,by go_num,by rw[HN.out],HE.out,by rw[HN.out];exact HO.out⟩
     case measure=>simp[intOf]
    ·have hvb:vbit (val 256 ks) i=true:=by unfold vbit;rw[hv];rfl
     have hb0:x/2^(i%8)%2=1:=by rw[HBIT.out,hv]
     have HN:Hid ((M (256-i))=(F4 (F4 Q Q) P,true)):=by
      show _=_
      rw[en,hMs.out _ _ _ hM,en2,hvb];rfl
     clear hv HBIT hvb;have ht:(x/2^(i%8)).tmod 2=1:=by rw[Int.tmod_eq_emod_of_nonneg hy0,hb0]
     clear hb0;obtain⟨h0,k0,h1,k1,h2,k2,h3,k3,hp,hf0,hf1,hf2,hf3,hne⟩:=HO.out;have hE:=HE.out;have CS := sum_any (some ⟨h0,0,none⟩) (some ⟨h1,0,none⟩) (some ⟨h2,0,none⟩) (some ⟨h3,0,none⟩) (some ⟨p0,0,none⟩) (some ⟨p1,0,none⟩) (some ⟨p2,0,none⟩) (some ⟨p3,0,none⟩) (some ⟨gd,0,none⟩) k0 k1 k2 k3 c0 c1 c2 c3 cd _ _ _ _ _ _ _ _ mdD w6 (fun e he=>by
                                                                                                      simp only[List.mem_cons,List.not_mem_nil,or_false] at he
                                                                                                      rcases he with rfl|rfl|rfl|rfl|rfl|rfl|rfl|rfl|rfl
                                                                                                      · exact hf0
                                                                                                      · exact hf1
                                                                                                      · exact hf2
                                                                                                      · exact hf3
                                                                                                      · exact(HF0.out.below hE.below)
                                                                                                      · exact(HF1.out.below hE.below)
                                                                                                      · exact(HF2.out.below hE.below)
                                                                                                      · exact(HF3.out.below hE.below)
                                                                                                      · exact(HFD.out.below hE.below))
     have HPO:Hid (PtW w6 G #[.slice (some ⟨h0,0,none⟩) 16 k0,.slice (some ⟨h1,0,none⟩) 16 k1,.slice (some ⟨h2,0,none⟩) 16 k2,.slice (some ⟨h3,0,none⟩) 16 k3]):=hp;have HPB:Hid (PtW w6 w.heap.size #[.slice (some ⟨p0,0,none⟩) 16 c0,.slice (some ⟨p1,0,none⟩) 16 c1,.slice (some ⟨p2,0,none⟩) 16 c2,.slice (some ⟨p3,0,none⟩) 16 c3]):=hE.pb;clear hp hf0 hf1 hf2 hf3 hne hE HO;go_wp2_with (first
      |(refine wpList_load_row rfl 109 (.tmp 7) rfl G rfl 109 _ (0,0) _ HPO.out Tryz.underlying109 rfl Tryz.sizePt ?_)
      |(refine wpList_load_row rfl 109 (.tmp 4) rfl w.heap.size rfl 109 _ (0,0) _ HPB.out Tryz.underlying109 rfl Tryz.sizePt ?_)
      |fail)
     refine CS.mono ?_;intro e w8 h8;have h8b:Below w6.heap.size w6 w8:=by obtain⟨_,_,_,_,_,_,_,_,_,_,_,_,_,b,_⟩:=h8;exact b
     have h8e:∃ v,e=.returned v:=by obtain⟨_,_,_,_,_,_,_,_,r,_⟩:=h8;exact⟨_,r⟩
     obtain⟨v8,rfl⟩:=h8e;have hput:=fun w9=>OutS.put (B:=w.heap.size+1) (w6:=w9) (P:=F4 Q Q) (Q:=P) HPO.out.lt HE.out.gt h8
     obtain⟨s0,s1,s2,s3,rfl,hone,_⟩:=hput w8;have HPT:Hid (∀ w9,PtW w9 G #[s0,s1,s2,s3]→Wr G w8 w9→OutS (w.heap.size+1) w9 G (F4 (F4 Q Q) P)):=fun w9 hp hw=>by
      obtain⟨q0,q1,q2,q3,e,_,k⟩:=hput w9;cases e;exact k hp hw
     have HON:Hid (s0.oneCell'=true∧s1.oneCell'=true∧s2.oneCell'=true∧s3.oneCell'=true):=hone;have HP8:Hid (PtW w8 G #[.slice (some ⟨h0,0,none⟩) 16 k0,.slice (some ⟨h1,0,none⟩) 16 k1,.slice (some ⟨h2,0,none⟩) 16 k2,.slice (some ⟨h3,0,none⟩) 16 k3]):=HPO.out.below h8b HPO.out.lt;have HE8:Hid (TmE w #[.slice (some ⟨p0,0,none⟩) 16 c0,.slice (some ⟨p1,0,none⟩) 16 c1,.slice (some ⟨p2,0,none⟩) 16 c2,.slice (some ⟨p3,0,none⟩) 16 c3] G w8):=HE.out.call h8b;clear h8 h8b hput hone CS HE HPO HPB;go_wp2_with (first
      |(refine wpList_storePt rfl (.tmp 7) (.tmp 40) rfl G s0 s1 s2 s3 _ HON.out.1 HON.out.2.1 HON.out.2.2.1 HON.out.2.2.2 rfl rfl rfl HP8.out ?_)
      |fail)
     intro w9 hp9 hw9;have HO9:Hid (OutS (w.heap.size+1) w9 G (F4 (F4 Q Q) P)):=HPT.out w9 hp9 hw9;have HE9:Hid (TmE w #[.slice (some ⟨p0,0,none⟩) 16 c0,.slice (some ⟨p1,0,none⟩) 16 c1,.slice (some ⟨p2,0,none⟩) 16 c2,.slice (some ⟨p3,0,none⟩) 16 c3] G w9):=HE8.out.wr hw9;clear hp9 hw9 HPT HON HP8 HE8;go_wp2;go_roundw
     case rel=>exact⟨i,by omega,by go_num,by rw[HN.out],HE9.out,by rw[HN.out];exact HO9.out⟩
     case measure=>simp[intOf]
  ·have hj00:j=0:=by omega
   subst hj00;obtain⟨h0,k0,h1,k1,h2,k2,h3,k3,hp,hf0,hf1,hf2,hf3,hne⟩:=hO;have HNE:Hid (h0≠w.heap.size+1∧h1≠w.heap.size+1∧h2≠w.heap.size+1∧h3≠w.heap.size+1):=by obtain⟨_,q1,q2,q3,q4⟩:=hne;exact⟨by omega,by omega,by omega,by omega⟩
   clear hne;have HPO:Hid (PtW wr G #[.slice (some ⟨h0,0,none⟩) 16 k0,.slice (some ⟨h1,0,none⟩) 16 k1,.slice (some ⟨h2,0,none⟩) 16 k2,.slice (some ⟨h3,0,none⟩) 16 k3]):=hp;have HRS:Hid (PtW wr (w.heap.size+1) #[.slice none 0 0,.slice none 0 0,.slice none 0 0,.slice none 0 0]):=hE.rs;have HFF:Hid (FeA wr (some ⟨h0,0,none⟩) (M 256).1.1∧FeA wr (some ⟨h1,0,none⟩) (M 256).1.2.1∧FeA wr (some ⟨h2,0,none⟩) (M 256).1.2.2.1∧FeA wr (some ⟨h3,0,none⟩) (M 256).1.2.2.2∧Below w.heap.size w wr):=⟨hf0,hf1,hf2,hf3,hE.below⟩
   clear hp hf0 hf1 hf2 hf3;go_wp2_with (first
    |(refine wpList_load_row rfl 109 (.tmp 7) rfl G rfl 109 _ (0,0) _ HPO.out Tryz.underlying109 rfl Tryz.sizePt ?_)
    |(refine wpList_storePt rfl (.tmp 6) (.tmp 41) rfl (w.heap.size+1) _ _ _ _ _ rfl rfl rfl rfl rfl rfl rfl HRS.out ?_)
    |fail)
   intro w7 hp7 hw7;have HP7:Hid (PtW w7 (w.heap.size+1) #[.slice (some ⟨h0,0,none⟩) 16 k0,.slice (some ⟨h1,0,none⟩) 16 k1,.slice (some ⟨h2,0,none⟩) 16 k2,.slice (some ⟨h3,0,none⟩) 16 k3]):=hp7;have HF7:Hid (TimP w (M 256).1 (.returned (.agg #[.slice (some ⟨h0,0,none⟩) 16 k0,.slice (some ⟨h1,0,none⟩) 16 k1,.slice (some ⟨h2,0,none⟩) 16 k2,.slice (some ⟨h3,0,none⟩) 16 k3])) w7):=by
    obtain⟨q1,q2,q3,q4,q5⟩:=HFF.out;exact⟨h0,k0,h1,k1,h2,k2,h3,k3,rfl,q1.wr hw7 HNE.out.1,q2.wr hw7 HNE.out.2.1,q3.wr hw7 HNE.out.2.2.1,q4.wr hw7 HNE.out.2.2.2,q5.trans (hw7.below (by omega))⟩
   clear hp7 hw7 HPO HRS HFF HNE;go_wp2;exact bodyPost_ret (v:=.agg #[.slice (some ⟨h0,0,none⟩) 16 k0,.slice (some ⟨h1,0,none⟩) 16 k1,.slice (some ⟨h2,0,none⟩) 16 k2,.slice (some ⟨h3,0,none⟩) 16 k3]) (results_cell_row rfl _ _ (w.heap.size+1) 109 _ (0,0) _ rfl HP7.out Tryz.underlying109 rfl Tryz.sizePt) rfl HF7.out
theorem ltimes_any (kp:Option Addr) (kc:Nat) (ks:List Int) (p0 p1 p2 p3 gd c0 c1 c2 c3 cd:Nat) (P:Q4) (w:World) (hk:ks.length=32) (hb:Byte ks) (ha:At .u8 w kp ks)
  (h0:FeA w (some ⟨p0,0,none⟩) P.1) (h1:FeA w (some ⟨p1,0,none⟩) P.2.1) (h2:FeA w (some ⟨p2,0,none⟩) P.2.2.1) (h3:FeA w (some ⟨p3,0,none⟩) P.2.2.2) (hd:FeA w (some ⟨gd,0,none⟩) mdD) :
  Calls Tryz.prog 77 #[.slice kp 32 kc,.agg #[.slice (some ⟨p0,0,none⟩) 16 c0,.slice (some ⟨p1,0,none⟩) 16 c1,.slice (some ⟨p2,0,none⟩) 16 c2,.slice (some ⟨p3,0,none⟩) 16 c3],.slice (some ⟨gd,0,none⟩) 16 cd] w (TimP w (mS (val 256 ks) P 256).1):=
 ltimes_gen (mS (val 256 ks) P) kp kc ks p0 p1 p2 p3 gd c0 c1 c2 c3 cd P w hk hb ha h0 h1 h2 h3 hd rfl (fun n Q b h=>by simp only[mS,h])
def ktL (q:Nat):List Int:=(List.range q).map kt
theorem ktL_len (q:Nat):(ktL q).length=q:=by simp[ktL]
theorem ktL_snoc (q:Nat):ktL (q+1)=ktL q++[kt q]:=by unfold ktL;rw[List.range_succ,List.map_append];rfl
theorem ktL_get (q i:Nat) (h:i<q):(ktL q).getD i 0=kt i:=by unfold ktL;simp[List.getD,h]
theorem rcT_kt (q:Nat) (h:q<88):rcT (q:Int)=kt q:=by
 unfold rcT kt;rw[if_pos (by omega),Int.toNat_natCast]
theorem run_sliceH (w:World) (g c:Nat) (hc:88≤c):(Instr.sliceAt 131 (.slice (some ⟨g,0,none⟩) 88 c) (some (.int .i64 80)) none none).run Tryz.prog w=.ok (.slice (some ⟨g,80,none⟩) 8 (c-80)) w:=by
 have h4:¬ (c=80):=by omega
 unfold Instr.sliceAt;simp[run_underlying Tryz.underlying131,go_sem,Instr.sliceBounds,h4,Addr.add];try omega
theorem run_sliceM (w:World) (g L c I:Nat) (hI:I+128≤L) (hc:L≤c):(Instr.sliceAt 26 (.slice (some ⟨g,0,none⟩) L c) (some (.int .i64 (I:Int))) (some (.int .i64 ((I:Int)+128))) none).run Tryz.prog w=.ok (.slice (some ⟨g,I,none⟩) 128 (c-I)) w:=by
 have h2:((I:Int)+128)≤(c:Int):=by omega
 have h3:((I:Int)+128).toNat=I+128:=by omega
 have h4:¬ (c=I):=by omega
 have h6:(0:Int)≤(I:Int):=by omega
 have h7:(0:Int)≤(I:Int)+128:=by omega
 unfold Instr.sliceAt;simp[run_underlying Tryz.underlying26,go_sem,Instr.sliceBounds,h2,h3,h4,h6,h7,Addr.add];omega
structure HW (w:World) (v:Value) (hs:List Int):Prop where
 ex:∃ b o c,v=.slice (some ⟨b,o,none⟩) 8 c∧b<w.heap.size∧∀ i,i<8→w.cell? ⟨b,o+i,none⟩=some (.int .u64 (hs.getD i 0))
theorem HW.of_own {w:World} {B:Nat} {v:Value} {hs:List Int} (h:OwnU w B v hs) (h8:hs.length=8):HW w v hs:=by
 obtain⟨g,c,rfl,hB,hg,hc⟩:=h.base;refine⟨g,0,c,by rw[h8],hg,fun i hi=>?_⟩;rw[Nat.zero_add];exact h.cellAt rfl i (by omega)
structure MS (W:World) (gk gm:Nat) (ms:List Int) (y:World):Prop where
 k:gk<y.heap.size∧∀ i,i<88→y.cell? ⟨gk,i,none⟩=some (.int .u64 (kt i))
 m:gm<y.heap.size∧∀ i,i<ms.length→y.cell? ⟨gm,i,none⟩=some (.int .u8 (ms.getD i 0))
 below:Below W.heap.size W y
theorem MS.new {W:World} {gk gm:Nat} {ms:List Int} {y y':World} (h:MS W gk gm ms y) (hb:Below y.heap.size y y'):MS W gk gm ms y':=
 ⟨⟨Nat.lt_of_lt_of_le h.k.1 hb.size,fun i hi=>by rw[World.cell?_of_block (w:=y) (hb.block gk h.k.1)];exact h.k.2 i hi⟩,⟨Nat.lt_of_lt_of_le h.m.1 hb.size,fun i hi=>by rw[World.cell?_of_block (w:=y) (hb.block gm h.m.1)];exact h.m.2 i hi⟩,h.below.trans (hb.mono h.below.size)⟩
set_option maxRecDepth 100000 in
set_option maxHeartbeats 2000000 in
theorem shaS_any (b off cap n:Nat) (zs:List Int) (w:World) (hn:zs.length=n) (hb:b<w.heap.size) (hc:∀ i,i<zs.length→w.cell? ⟨b,off+i,none⟩=some (.int .u8 (zs.getD i 0))) (hz:Byte zs) (hm:n≤2097152) :
  Calls Tryz.prog 75 #[.slice (some ⟨b,off,none⟩) n cap] w fun e w'=>∃ v,e=.returned v∧Own w' w.heap.size v (shaL zs)∧Below w.heap.size w w':=by
 have HC:=hid_ofS hc;have HN:=hid_ofS hn;have HZ:=hid_ofS hz;have HE0:=hid_ofS (OwnK.empty (k:=.u64) (t:=132) w w.heap.size (Nat.le_refl _));have HAL:Hid (Below w.heap.size w (w.alloc (.cells #[] 132))):=(Below.refl _ _).alloc (Nat.le_refl _) _;clear hc hn hz;go_enter Tryz.func75,Tryz.ntmps75;go_wp2
 go_loopw [3,4] (fun v i wr=>∃ q:Nat,q≤88∧i=.int .i64 q∧OwnU wr w.heap.size v (ktL q)∧Below w.heap.size w wr) (fun _ i _=>88-(intOf i).toNat)
 case atStart=>exact⟨0,by omega,rfl,HE0.out,HAL.out⟩
 case round=>
  clear HE0 HAL;obtain⟨q,hq,rfl,hown,hbel⟩:=hrel;by_cases hlt:q<88
  ·have hlt':(q:Int)<88:=by omega
   have hsz:=hbel.size;have HO:=hid_ofS hown;have HB:=hid_ofS hbel;have A:=hid_ofS (rcS_any (q:Int) wr (by omega) (by omega));rw[rcT_kt q hlt] at A;have HSN:=hid_ofS (ktL_snoc q);have HLS:=hid_ofS (ktL_len q);clear hown hbel;generalize kt q=x at *;go_wp2_with fail;refine A.out.mono ?_;rintro e w1 ⟨rfl,b1⟩;have HO1:=hid_ofS (HO.out.grow b1);have HB1:=hid_ofS (HB.out.trans (b1.mono hsz));have hsz1:w.heap.size≤w1.heap.size:=HB1.out.size;clear A HO HB b1;have HLJ:Hid ((ktL q).length+1≤1099511627776):=by show _≤_;rw[HLS.out];omega
   go_wp2_with (at_builtin;refine wpList_appK _ ktU rfl _ _ rfl w.heap.size _ _ rfl (HO1.out.alloc _) ⟨w1.heap.size,0,none⟩ 1 1 [x] rfl rfl ?c1 ?c2 ?c3 ?_);all_goals first|(intro j hj;obtain rfl:j=0:=by omega
                                                                                                                                                                             simp[Addr.add];done)|skip
   case c2=>have:=HLJ.out;simpa using by omega
   case c3=>rw[World.size_alloc];omega
   intro v' w2 hown' hbel' _;have HO2:Hid (OwnU w2 w.heap.size v' (ktL (q+1))):=by rw[HSN.out];exact hown'
   have HB2:Hid (Below w.heap.size w w2):=(HB1.out.alloc hsz1 _).trans hbel';clear hown' hbel' HO1 HB1;go_wp2;go_roundw
   case rel=>exact⟨q+1,by omega,by go_num,HO2.out,HB2.out⟩
   case measure=>simp[intOf];omega
  ·obtain rfl:q=88:=by omega
   obtain⟨gk,ck,rfl,hk1,hk2,hk3⟩:=hown.base;have HKC:Hid (∀ i,i<88→wr.cell? ⟨gk,i,none⟩=some (.int .u64 (kt i))):=fun i hi=>by
    rw[hown.cellAt rfl i (by rw[ktL_len];exact hi),ktL_get _ _ hi]
   rw[ktL_len] at hk3 ⊢;have hsl:=fun w=>run_sliceH w gk ck hk3
   have HB:=hid_ofS hbel;have hsz:=hbel.size;have hbr:b<wr.heap.size:=by omega
   have A:=hid_ofS (padS_any b off cap n zs wr HN.out hbr (fun i hi=>by rw[World.cell?_of_block (w:=w) (hbel.block b hb)];exact HC.out i hi) hm);clear hown hbel;go_wp2_with fail;refine A.out.mono ?_;rintro e W ⟨vm,rfl,om,bm⟩;obtain⟨gm,cm,rfl,hm1,hm2,hm3⟩:=om.base;have HMC:Hid (∀ i,i<(padL zs).length→W.cell? ⟨gm,i,none⟩=some (.int .u8 ((padL zs).getD i 0))):=fun i hi=>by
    obtain⟨b',o',c',e',_,hcc⟩:=om.part;cases e';have:=hcc i hi
    rwa [Nat.zero_add] at this
   have HMS:Hid (MS W gk gm (padL zs) W):=⟨⟨Nat.lt_of_lt_of_le hk2 bm.size,fun i hi=>by rw[World.cell?_of_block (w:=wr) (bm.block gk hk2)];exact HKC.out i hi⟩,⟨hm2,HMC.out⟩,Below.refl _ _⟩
   have HHW:Hid (HW W (.slice (some ⟨gk,80,none⟩) 8 (ck-80)) (mbl zs 0)):=⟨gk,80,ck-80,rfl,HMS.out.k.1,fun i hi=>by
    rw[HMS.out.k.2 (80+i) (by omega)];show _=some (Value.int .u64 (ivL.getD i 0))
    rw[ivL_get i hi]⟩
   have HBW:Hid (Below w.heap.size w W):=HB.out.trans (bm.mono hsz);have HLP:Hid ((padL zs).length=128*nBl n):=by show _=_;rw[nBl_len,HN.out]
   rw[HLP.out] at hm3 ⊢;have hK:128*nBl n≤2097152+256:=by rw[←HLP.out,padL_len,HN.out];have:=(padZ_spec n).2;omega
   have HSH:Hid (txtW (mbl zs (nBl n))=shaL zs):=by show _=_;rw[←HN.out];exact mbl_sha zs (by rw[HN.out];exact hm)
   have HPB:=hid_ofS (padL_byte HZ.out);clear A hsl om bm HMC HKC HC HZ HB hk1 hm1 hk2 hm2;generalize nBl n=K at *;obtain⟨L,hL⟩:∃ L,L=128*K:=⟨_,rfl⟩
   rw[←hL] at hm3 HLP hK ⊢;have HL:=hid_ofS hL;clear hL;go_wp2
   go_loopw [5,7] (fun v i y=>∃ j I:Nat,j≤K∧I=128*j∧i=.int .i64 (I:Int)∧HW y v (mbl zs j)∧MS W gk gm (padL zs) y) (fun _ i _=>(L+128-(intOf i).toNat))
   case atStart=>exact⟨0,0,by omega,rfl,rfl,HHW.out,HMS.out⟩
   case round=>
    clear HHW HMS;obtain⟨j,I,hj,hI,rfl,⟨bh,oh,ch,rfl,hh1,hh2⟩,hms⟩:=hrel;have hL:=HL.out;have HI:=hid_ofS hI;by_cases hlt:j<K
    ·have hlt':(I:Int)<(L:Int):=by omega
     have hIL:I+128≤L:=by omega
     have hsl:=fun w=>run_sliceM w gm L cm I hIL hm3
     have HMS:=hid_ofS hms;have HBS:Hid (mbl zs (j+1)=mixL (mbl zs j) (((padL zs).drop (128*j)).take 128)):=rfl;have hbl:(((padL zs).drop (128*j)).take 128).length=128:=by rw[List.length_take,List.length_drop,HLP.out];omega
     have hbb:Byte (((padL zs).drop (128*j)).take 128):=fun z h=>HPB.out z (List.mem_of_mem_drop (List.mem_of_mem_take h))
     have hBK:BK wr bh oh gm I gk (mbl zs j) (((padL zs).drop (128*j)).take 128):=
      ⟨⟨hh1,hh2⟩,⟨hms.m.1,fun i hi=>by rw[hms.m.2 (I+i) (by rw[HLP.out];omega),pblk_get _ _ _ hi,hI]⟩,hms.k⟩
     have A:=hid_ofS (blockS_any bh oh ch gm I (cm-I) gk ck _ _ wr hBK (mbl_w8 zs j) hbl hbb (by omega));rw[←HBS.out] at A;have HJ:Hid (j+1≤K∧I+128=128*(j+1)):=by constructor<;>omega
     clear hms hh2 hbl hbb hBK HBS hI hL hj hlt;go_wp2_with fail;refine A.out.mono ?_;rintro e w3 ⟨v3,rfl,o3,b3⟩;have HMS3:=hid_ofS (HMS.out.new b3);have HHW3:=hid_ofS (HW.of_own o3 (mbl_w8 zs (j+1)).1);clear A hsl o3 b3 HMS;go_wp2;go_roundw
     case rel=>exact⟨j+1,I+128,HJ.out.1,HJ.out.2,by go_num,HHW3.out,HMS3.out⟩
     case measure=>simp[intOf];omega
    ·obtain rfl:j=K:=by omega
     have hlt':¬ ((I:Int)<(L:Int)):=by omega
     have HBR:Hid (Below w.heap.size w wr):=HBW.out.trans (hms.below.mono HBW.out.size);have HHH:=hid_ofS hh2;have H8:=hid_ofS (mbl_w8 zs j);have hIb:I≤2097700:=by omega
     clear hms hh2 HBW HPB hI hL HI HL;generalize mbl zs j=hs at *;obtain⟨wy,rfl⟩:∃ y,y=wr:=⟨_,rfl⟩
     go_wp2
     go_loopw [8,9] (fun v i y=>∃ q:Nat,q≤8∧i=.int .i64 q∧Own y wy.heap.size v (txtW (hs.take q))∧Below wy.heap.size wy y) (fun _ i _=>8-(intOf i).toNat)
     case atStart=>exact⟨0,by omega,rfl,Own.empty _ _ (Nat.le_refl _),(Below.refl _ _).alloc (Nat.le_refl _) _⟩
     case round=>
      obtain⟨q,hq,rfl,hown,hbel⟩:=hrel;by_cases hlq:q<8
      ·have hlq':(q:Int)<8:=by omega
       have hsz:=hbel.size;have hcl:=HHH.out q hlq;rw[←World.cell?_of_block (w':=wr) (hbel.block bh hh1)] at hcl;have HSN:=hid_ofS (txtW_snoc hs q (by rw[H8.out.1];exact hlq));have HPL:=hid_ofS (txtW_len (hs.take q));rw[List.length_take,H8.out.1] at HPL;have hu:=H8.out.2 q;have HO:=hid_ofS hown;have HB:=hid_ofS hbel;clear hown hbel;obtain⟨x,hx⟩:∃ x,x=hs.getD q 0:=⟨_,rfl⟩
       rw[←hx] at hcl hu HSN;clear hx;have A:=hid_ofS (bytesS_any x wr hu);obtain⟨hu0,hu1⟩:=hu;go_wp2_with fail;refine A.out.mono ?_;rintro e w5 ⟨v5,rfl,o5,b5⟩;obtain⟨g5,c5,rfl,h51,h52,h53⟩:=o5.base;have HC5:Hid (∀ i,i<8→w5.cell? ((⟨g5,0,none⟩:Addr).add i)=some (.int .u8 ((by8 x).getD i 0))):=fun i hi=>by
        obtain⟨b',o',c',e',_,hcc⟩:=o5.part;cases e';rw[Addr.add_lit];exact hcc i (by rw[by8_len];exact hi)
       have HO5:=hid_ofS (own_grow HO.out b5);have HB5:=hid_ofS (HB.out.trans (b5.mono hsz));have hsz5:wy.heap.size≤w5.heap.size:=HB5.out.size;rw[by8_len];clear A HO HB o5 b5;have HLY:Hid ((txtW (hs.take q)).length+8≤1099511627776):=by show _≤_;rw[HPL.out];omega
       go_wp2_with (at_builtin;refine wpList_app _ rfl _ _ rfl wy.heap.size _ _ rfl HO5.out ⟨g5,0,none⟩ 8 c5 (by8 x) rfl (by8_len _) HC5.out HLY.out hsz5 ?_);intro v6 w6 o6 b6 _;have HO6:Hid (Own w6 wy.heap.size v6 (txtW (hs.take (q+1)))):=by rw[HSN.out];exact o6
       have HB6:=hid_ofS (HB5.out.trans b6);clear o6 b6 HO5 HB5;go_wp2;go_roundw
       case rel=>exact⟨q+1,by omega,by go_num,HO6.out,HB6.out⟩
       case measure=>simp[intOf];omega
      ·obtain rfl:q=8:=by omega
       rw[List.take_of_length_le (by rw[H8.out.1];exact Nat.le_refl _),HSH.out] at hown;have HOF:Hid (Own _ w.heap.size _ (shaL zs)):=hown.lower HBR.out.size;have HBF:=hid_ofS (HBR.out.trans (hbel.mono HBR.out.size));clear hown hbel;go_wp2
       go_ret
       exact⟨_,rfl,HOF.out,HBF.out⟩
def cdQ (P:Q4):Int:=cdV P.1 P.2.1 P.2.2.1
def hsV (pub msg sig:List Int):Int:=val 256 (shaL (sig.take 32++pub++msg))%bigL
def eqnS (pub msg sig:List Int):Bool:=decide (cdQ (mS (val 256 (sig.drop 32)) (ptQ bB) 256).1=cdQ (F4 (ptQ (sig.take 32)) (mS (hsV pub msg sig) (ptQ pub) 256).1))
def eqnI (pub msg sig:List Int):Bool:=decide (cdQ (pS (val 256 (sig.drop 32)) (ptQ bB) 256)=cdQ (F4 (ptQ (sig.take 32)) (pS (hsV pub msg sig) (ptQ pub) 256)))
def vsR (pub msg sig:List Int):Bool:=decide (sig.length=64) && decide (val 256 (sig.drop 32)<bigL) && mB pub mdD && mB (sig.take 32) mdD && eqnS pub msg sig
theorem cdQ_scl (k:Nat) (P:Q4):cdQ (scl (2^k) P)=cdQ P:=cdV_scl k _ _ _
theorem eqn_same (pub msg sig:List Int) (hp:Rd (ptQ pub)) (hs:Rd (ptQ (sig.take 32))) (hb:Rd (ptQ bB)):eqnI pub msg sig=eqnS pub msg sig:=by
 unfold eqnI eqnS;obtain⟨⟨j,hj⟩,_,_⟩:=same_S (val 256 (sig.drop 32)) (ptQ bB) hb 256;obtain⟨⟨k,hk⟩,_,_⟩:=same_S (hsV pub msg sig) (ptQ pub) hp 256;rw[hj,hk,cdQ_scl];have e:F4 (ptQ (sig.take 32)) (scl (2^k) (mS (hsV pub msg sig) (ptQ pub) 256).1)=scl (2^(k+k)) (F4 (ptQ (sig.take 32)) (mS (hsV pub msg sig) (ptQ pub) 256).1):=by
  conv=>lhs;rw[←scl_one hs]
  rw[F4_scl,Int.one_mul,←Int.pow_add]
 rw[e,cdQ_scl]
structure PtA (w:World) (b o:Nat) (zs:List Int):Prop where
 lt:b<w.heap.size
 c:∀ i,i<zs.length→w.cell? ⟨b,o+i,none⟩=some (.int .u8 (zs.getD i 0))
theorem PtA.below {w w':World} {b o:Nat} {zs:List Int} (h:PtA w b o zs) (hb:Below w.heap.size w w'):PtA w' b o zs:=
 ⟨Nat.lt_of_lt_of_le h.lt hb.size,fun i hi=>by rw[World.cell?_of_block (w:=w) (hb.block b h.lt)];exact h.c i hi⟩
theorem PtA.at_ {w:World} {b o:Nat} {zs:List Int} (h:PtA w b o zs):At .u8 w (some ⟨b,o,none⟩) zs:=.inr ⟨b,o,rfl,h.lt,h.c⟩
theorem PtA.take {w:World} {b o:Nat} {zs:List Int} (h:PtA w b o zs) (n:Nat):PtA w b o (zs.take n):=
 ⟨h.lt,fun i hi=>by rw[List.length_take] at hi;rw[h.c i (by omega),getD_takeI _ _ _ (by omega)]⟩
theorem PtA.drop {w:World} {b o:Nat} {zs:List Int} (h:PtA w b o zs) (n:Nat):PtA w b (o+n) (zs.drop n):=
 ⟨h.lt,fun i hi=>by rw[List.length_drop] at hi;rw[Nat.add_assoc,h.c (n+i) (by omega),getD_dropI]⟩
theorem PtA.part {w:World} {b o:Nat} {zs:List Int} (h:PtA w b o zs) (n c:Nat) (hn:zs.length=n):Part w (.slice (some ⟨b,o,none⟩) n c) zs:=⟨b,o,c,by rw[hn],h.lt,h.c⟩
theorem PtA.of_own {w:World} {B:Nat} {v:Value} {zs:List Int} (h:Own w B v zs):∃ g c,v=.slice (some ⟨g,0,none⟩) zs.length c∧PtA w g 0 zs∧zs.length≤c:=by
 obtain⟨g,c,e,_,_,hc⟩:=h.base;obtain⟨b',o',c',e',hl,hcc⟩:=h.part;rw[e] at e';cases e';exact⟨g,c,e,⟨hl,hcc⟩,hc⟩
theorem byte_take {zs:List Int} (h:Byte zs) (n:Nat):Byte (zs.take n):=fun z hz=>h z (List.mem_of_mem_take hz)
theorem byte_drop {zs:List Int} (h:Byte zs) (n:Nat):Byte (zs.drop n):=fun z hz=>h z (List.mem_of_mem_drop hz)
theorem run_sliceHi (w:World) (b o c:Nat) (hc:64≤c):(Instr.sliceAt 26 (.slice (some ⟨b,o,none⟩) 64 c) (some (.int .i64 32)) none none).run Tryz.prog w=.ok (.slice (some ⟨b,o+32,none⟩) 32 (c-32)) w:=by
 have h4:¬ (c=32):=by omega
 unfold Instr.sliceAt;simp[run_underlying Tryz.underlying26,go_sem,Instr.sliceBounds,h4,Addr.add];try omega
theorem run_sliceLo (w:World) (b o c:Nat) (hc:64≤c):(Instr.sliceAt 26 (.slice (some ⟨b,o,none⟩) 64 c) none (some (.int .i64 32)) none).run Tryz.prog w=.ok (.slice (some ⟨b,o,none⟩) 32 c) w:=by
 have h2:(32:Int)≤(c:Int):=by omega
 unfold Instr.sliceAt;simp[run_underlying Tryz.underlying26,go_sem,Instr.sliceBounds,h2,Addr.add];try omega
def PtQ (w:World) (g:Nat) (Q:Q4):Prop:=
 ∃ g1 c1 g2 c2 g3 c3 g4 c4,PtW w g #[.slice (some ⟨g1,0,none⟩) 16 c1,.slice (some ⟨g2,0,none⟩) 16 c2,.slice (some ⟨g3,0,none⟩) 16 c3,.slice (some ⟨g4,0,none⟩) 16 c4]∧
  FeA w (some ⟨g1,0,none⟩) Q.1∧FeA w (some ⟨g2,0,none⟩) Q.2.1∧FeA w (some ⟨g3,0,none⟩) Q.2.2.1∧FeA w (some ⟨g4,0,none⟩) Q.2.2.2
theorem PtQ.below {w w':World} {g:Nat} {Q:Q4} (h:PtQ w g Q) (hb:Below w.heap.size w w'):PtQ w' g Q:=by
 obtain⟨g1,c1,g2,c2,g3,c3,g4,c4,hp,f1,f2,f3,f4⟩:=h;exact⟨g1,c1,g2,c2,g3,c3,g4,c4,hp.below hb hp.lt,f1.below hb,f2.below hb,f3.below hb,f4.below hb⟩
def TmV (w:World) (v:Value) (Q:Q4):Prop:=
 ∃ g1 c1 g2 c2 g3 c3 g4 c4,v=.agg #[.slice (some ⟨g1,0,none⟩) 16 c1,.slice (some ⟨g2,0,none⟩) 16 c2,.slice (some ⟨g3,0,none⟩) 16 c3,.slice (some ⟨g4,0,none⟩) 16 c4]∧
  FeA w (some ⟨g1,0,none⟩) Q.1∧FeA w (some ⟨g2,0,none⟩) Q.2.1∧FeA w (some ⟨g3,0,none⟩) Q.2.2.1∧FeA w (some ⟨g4,0,none⟩) Q.2.2.2
theorem TmV.below {w w':World} {v:Value} {Q:Q4} (h:TmV w v Q) (hb:Below w.heap.size w w'):TmV w' v Q:=by
 obtain⟨g1,c1,g2,c2,g3,c3,g4,c4,hp,f1,f2,f3,f4⟩:=h;exact⟨g1,c1,g2,c2,g3,c3,g4,c4,hp,f1.below hb,f2.below hb,f3.below hb,f4.below hb⟩
theorem TmV.elim_ {w:World} {v:Value} {Q:Q4} {C:Prop} (h:TmV w v Q) (k:∀ g1 c1 g2 c2 g3 c3 g4 c4,v=.agg #[.slice (some ⟨g1,0,none⟩) 16 c1,.slice (some ⟨g2,0,none⟩) 16 c2,.slice (some ⟨g3,0,none⟩) 16 c3,.slice (some ⟨g4,0,none⟩) 16 c4]→FeA w (some ⟨g1,0,none⟩) Q.1→FeA w (some ⟨g2,0,none⟩) Q.2.1→FeA w (some ⟨g3,0,none⟩) Q.2.2.1→FeA w (some ⟨g4,0,none⟩) Q.2.2.2→C):C:=by
 obtain⟨g1,c1,g2,c2,g3,c3,g4,c4,hp,f1,f2,f3,f4⟩:=h;exact k g1 c1 g2 c2 g3 c3 g4 c4 hp f1 f2 f3 f4
theorem PtW.fe {w:World} {G g:Nat} {a:Option Addr} {n c:Nat} {s1 s2 s3:Value} {x:Int} (h:PtW w G #[.slice a n c,s1,s2,s3]) (f:FeA w (some ⟨g,0,none⟩) x):g≠G:=by
 intro e;subst e;obtain⟨zs,h1,h2,_⟩:=f;obtain⟨b,o,e,_,hc⟩:=h1.get (by have:=h2.1;omega);cases e;have c0:=hc 0 (by have:=h2.1;omega);rw[Nat.zero_add,h.c0] at c0;cases c0
def z4:Array Value:=#[.slice none 0 0,.slice none 0 0,.slice none 0 0,.slice none 0 0]
def PtZ (B:Nat) (w:World) (v:Value):Prop:=∃ g,v=.pointer (some ⟨g,0,none⟩)∧B≤g∧PtW w g #[.slice none 0 0,.slice none 0 0,.slice none 0 0,.slice none 0 0]
theorem PtZ.below {B:Nat} {w w':World} {v:Value} (h:PtZ B w v) (hb:Below w.heap.size w w'):PtZ B w' v:=by
 obtain⟨g,e,h1,h2⟩:=h;exact⟨g,e,h1,h2.below hb h2.lt⟩
def PtF (w:World) (v:Value) (Q:Q4):Prop:=∃ g,v=.pointer (some ⟨g,0,none⟩)∧PtQ w g Q
theorem PtF.below {w w':World} {v:Value} {Q:Q4} (h:PtF w v Q) (hb:Below w.heap.size w w'):PtF w' v Q:=by
 obtain⟨g,e,h1⟩:=h;exact⟨g,e,h1.below hb⟩
structure SXv (W:World) (a s c:Nat) (Q:Q4) (L:Nat→Bool) (u:Nat→Value) (w:World):Prop where
 below:Below W.heap.size W w
 fin:L s=true→(L a=true∧L c=true)∧PtF w (u a) Q
section
variable {W:World} {a s c:Nat} {Q:Q4} {L:Nat→Bool} {u:Nat→Value} {w w':World}
theorem SXv.start (h:∀ i,L i=false):SXv W a s c Q L u W.drew:=⟨(Below.refl _ _).drew,fun h'=>by rw[h] at h';cases h'⟩
theorem updK_neS (L:Nat→Bool) {i j:Nat} (h:j≠i):updK L i j=L j:=by unfold updK;rw[if_neg h]
theorem upd_neS (u:Nat→Value) {i j:Nat} (v:Value) (h:j≠i):upd u i v j=u j:=by unfold upd;rw[if_neg h]
theorem SXv.step (h:SXv W a s c Q L u w) (i:Nat) (v:Value) (hb:Below w.heap.size w w') (hs:s≠i) (ha:a≠i):SXv W a s c Q (updK L i) (upd u i v) w':=
 ⟨h.below.trans (hb.mono h.below.size),by
  rw[updK_neS L hs,updK_neS L ha,upd_neS u v ha];exact fun h'=>⟨⟨(h.fin h').1.1,by have:=(h.fin h').1.2;unfold updK;split<;>simp[this]⟩,(h.fin h').2.below hb⟩⟩
theorem SXv.made (h:SXv W a s c Q L u w) (v:Value) (hb:Below w.heap.size w w') (hs:s≠a) (hL:L a=false):SXv W a s c Q (updK L a) (upd u a v) w':=
 ⟨h.below.trans (hb.mono h.below.size),by
  rw[updK_neS L hs];intro h';have:=(h.fin h').1.1;rw[hL] at this;cases this⟩
theorem SXv.set (h:SXv W a s c Q L u w) (v:Value) (hb:Below W.heap.size w w') (hs:a≠s) (hc:c≠s) (hL:L a=true) (hLc:L c=true) (hf:PtF w' (u a) Q):SXv W a s c Q (updK L s) (upd u s v) w':=
 ⟨h.below.trans hb,fun _=>⟨⟨by rw[updK_neS L hs];exact hL,by rw[updK_neS L hc];exact hLc⟩,by rw[upd_neS u v hs];exact hf⟩⟩
end
theorem wp_storeS {w:World} {o:Oper} {a:Act} {K:Act→World→Prop} {Q:Exit→Act→World→Prop} (x y:Operand) (ho:o.op=.store 109 x y) (B:Nat) (R:Q4) (vx vy:Value)
  (hx:a.eval x=vx) (hy:a.eval y=vy) (hz:PtZ B w vx) (ht:TmV w vy R) (hK:∀ w',Below B w w'→PtF w' vx R→K (a.put o.dst undef) w'):o.wp Tryz.prog a w K Q:=by
 obtain⟨g,rfl,h1,h2⟩:=hz;obtain⟨g1,c1,g2,c2,g3,c3,g4,c4,rfl,f1,f2,f3,f4⟩:=ht;have hw:Wr g w (w.setRow g #[.slice (some ⟨g1,0,none⟩) 16 c1,.slice (some ⟨g2,0,none⟩) 16 c2,.slice (some ⟨g3,0,none⟩) 16 c3,.slice (some ⟨g4,0,none⟩) 16 c4]):=Wr.setRow _ _ _;refine wp_store_row 109 x y ho g #[.slice (some ⟨g1,0,none⟩) 16 c1,.slice (some ⟨g2,0,none⟩) 16 c2,.slice (some ⟨g3,0,none⟩) 16 c3,.slice (some ⟨g4,0,none⟩) 16 c4] hx hy 109 _ h2 Tryz.sizePt rfl (by simp[Value.oneCell']) ?_;exact hK _ (hw.below h1) ⟨g,rfl,g1,c1,g2,c2,g3,c3,g4,c4,setRow_heap _ _ _ _ _ _ h2,f1.wr hw (h2.fe f1),f2.wr hw (h2.fe f2),f3.wr hw (h2.fe f3),f4.wr hw (h2.fe f4)⟩
def CdW (w:World) (v:Value) (V:Int):Prop:=∃ g c bs,v=.slice (some ⟨g,0,none⟩) 32 c∧PtA w g 0 bs∧Byte bs∧bs.length=32∧val 256 bs=V
theorem CdW.below {w w':World} {v:Value} {V:Int} (h:CdW w v V) (hb:Below w.heap.size w w'):CdW w' v V:=by
 obtain⟨g,c,bs,e,h1,h2⟩:=h;exact⟨g,c,bs,e,h1.below hb,h2⟩
def StV (w:World) (v:Value) (V:Int):Prop:=∃ bs,v=.string (strOfNums bs)∧Byte bs∧bs.length=32∧val 256 bs=V
theorem StV.below {w w':World} {v:Value} {V:Int} (h:StV w v V) (hb:Below w.heap.size w w'):StV w' v V:=h
theorem str_injS {xs ys:List Int} (hx:Byte xs) (hy:Byte ys):((strOfNums xs).toList == (strOfNums ys).toList)=decide (xs=ys):=by
 rw[Bool.eq_iff_iff,decide_eq_true_eq,beq_iff_eq,ByteArray.toList_eq,ByteArray.toList_eq,strOfNums_data,strOfNums_data];constructor
 ·intro h;have hl:xs.length=ys.length:=by simpa using congrArg List.length h
  apply List.ext_getElem hl;intro i h1 h2;have e:(xs.map fun n=>UInt8.ofNat n.toNat)[i]?=(ys.map fun n=>UInt8.ofNat n.toNat)[i]?:=by rw[h]
  simp[h1,h2] at e;have e':=congrArg UInt8.toNat e;have bx:=hx xs[i] (List.getElem_mem h1);have by':=hy ys[i] (List.getElem_mem h2);simp only[UInt8.toNat_ofNat'] at e';omega
 ·rintro rfl;rfl
theorem str_val {xs ys:List Int} (hx:Byte xs) (hy:Byte ys) (lx:xs.length=32) (ly:ys.length=32):((strOfNums xs).toList == (strOfNums ys).toList)=decide (val 256 xs=val 256 ys):=by
 rw[str_injS hx hy];by_cases h:xs=ys
 ·rw[decide_eq_true h,decide_eq_true (by rw[h])]
 ·rw[decide_eq_false h,decide_eq_false (fun e=>h (val_inj (B:=256) (by decide) hx hy (by omega) e))]
theorem vsR_64s {pub msg sig:List Int} (h:¬ sig.length=64):vsR pub msg sig=false:=by unfold vsR;simp[h]
theorem vsR_32s {pub msg sig:List Int} (h:¬ pub.length=32):vsR pub msg sig=false:=by
 have:mB pub mdD=false:=by
  cases hb:mB pub mdD with
  |false=>rfl
  |true=>exact absurd (mB_len2 hb).1 h
 unfold vsR;simp[this]
theorem vsR_qs {pub msg sig:List Int} (h:decide (val 256 (sig.drop 32)<bigL)=false):vsR pub msg sig=false:=by unfold vsR;simp[h]
theorem vsR_ps {pub msg sig:List Int} (h:mB pub mdD=false):vsR pub msg sig=false:=by unfold vsR;simp[h]
theorem vsR_rs {pub msg sig:List Int} (h:mB (sig.take 32) mdD=false):vsR pub msg sig=false:=by unfold vsR;simp[h]
theorem vsR_es {pub msg sig:List Int} (h1:sig.length=64) (h2:decide (val 256 (sig.drop 32)<bigL)=true) (h3:mB pub mdD=true) (h4:mB (sig.take 32) mdD=true):vsR pub msg sig=eqnS pub msg sig:=by unfold vsR;rw[h2,h3,h4,decide_eq_true h1];simp
theorem md_pt {zs:List Int} {s1 s2 s3 s4:Value} {w2 w3:World} {G:Nat} (hok:mB zs mdD=true→∃ g1 c1 g2 c2 g3 c3 g4 c4,s1=.slice (some ⟨g1,0,none⟩) 16 c1∧s2=.slice (some ⟨g2,0,none⟩) 16 c2∧s3=.slice (some ⟨g3,0,none⟩) 16 c3∧s4=.slice (some ⟨g4,0,none⟩) 16 c4∧
   FeA w2 (some ⟨g1,0,none⟩) (mX zs mdD)∧FeA w2 (some ⟨g2,0,none⟩) (mY zs)∧FeA w2 (some ⟨g3,0,none⟩) (1%fp)∧FeA w2 (some ⟨g4,0,none⟩) (mX zs mdD*mY zs%fp))
  (hp:PtW w3 G #[s1,s2,s3,s4]) (hb:Below w2.heap.size w2 w3) (h:mB zs mdD=true):PtQ w3 G (ptQ zs):=by
 obtain⟨g1,c1,g2,c2,g3,c3,g4,c4,rfl,rfl,rfl,rfl,f1,f2,f3,f4⟩:=hok h;exact⟨g1,c1,g2,c2,g3,c3,g4,c4,hp,f1.below hb,f2.below hb,f3.below hb,f4.below hb⟩
set_option maxRecDepth 100000 in
set_option maxHeartbeats 16000000 in
theorem vsS_any (bp op cp bm om cm bs os cs np nm ns:Nat) (pub msg sig:List Int) (w:World) (hpl:pub.length=np) (hml:msg.length=nm) (hsl:sig.length=ns) (hp:PtA w bp op pub) (hm:PtA w bm om msg) (hs:PtA w bs os sig)
  (zp:Byte pub) (zm:Byte msg) (zs:Byte sig) (hcs:ns≤cs) (bnp:np≤1048576) (bnm:nm≤1048576) (bns:ns≤1048576) :
  Calls Tryz.prog 57 #[.slice (some ⟨bp,op,none⟩) np cp,.slice (some ⟨bm,om,none⟩) nm cm,.slice (some ⟨bs,os,none⟩) ns cs] w fun e w'=>e=.returned (.bool (vsR pub msg sig))∧Below w.heap.size w w':=by
 have HP:=hid_ofS hp;have HM:=hid_ofS hm;have HS:=hid_ofS hs;have HZ:=hid_ofS (And.intro zp (And.intro zm zs));clear hp hm hs zp zm zs;by_cases h32:np=32
 ·subst h32;by_cases h64:ns=64
  ·subst h64;have hslh:=fun w=>run_sliceHi w bs os cs hcs
   have hsll:=fun w=>run_sliceLo w bs os cs hcs
   have hdl:(sig.drop 32).length=32:=by rw[List.length_drop,hsl]
   have htl:(sig.take 32).length=32:=by rw[List.length_take,hsl];rfl
   go_enter Tryz.func57,Tryz.ntmps57;go_wp2_with fail;refine(sok_any (some ⟨bs,os+32,none⟩) 32 (cs-32) (sig.drop 32) _ hdl (HS.out.drop 32).at_ (byte_drop HZ.out.2.2 32)).mono ?_;rintro e w0 ⟨rfl,b0⟩;have HB0:=hid_ofS b0;have hqq:decide (32=32∧val 256 (sig.drop 32)<bigL)=decide (val 256 (sig.drop 32)<bigL):=by simp
   rw[hqq];clear b0 hqq;cases hq:decide (val 256 (sig.drop 32)<bigL) with
   |false=>
    have HV:=hid_ofS (vsR_qs (pub:=pub) (msg:=msg) hq);clear hq;go_wp2
    go_ret
    exact⟨by rw[HV.out];rfl,HB0.out⟩
   |true=>
    have HQ:=hid_ofS hq;clear hq;go_wp2_with fail;refine(d_any _).mono ?_;rintro e w1 ⟨gd,cd,rfl,_,_,hf,hb⟩;have HB1:Hid (Below w.heap.size w w1):=HB0.out.trans (hb.mono HB0.out.size);have HD1:=hid_ofS hf;clear hb hf HB0;go_wp2_with fail;refine(decodeS_any (some ⟨bp,op,none⟩) _ 32 cp cd pub mdD _ hpl (by decide) (HP.out.below HB1.out).at_ HZ.out.1 HD1.out).mono ?_;rintro e w2 ⟨s1,s2,s3,s4,rfl,hb2,hone,hok⟩;have HON:=hid_ofS hone;have HOK:=hid_ofS hok;have HPN:=hid_ofS (PtW.new w2);have HB2:Hid (Below w.heap.size w w2):=HB1.out.trans (hb2.mono HB1.out.size);have HD2:=hid_ofS (HD1.out.below hb2);clear hb2 hone hok HB1 HD1;generalize hqa:mB pub mdD=qa at *;have HQA:=hid_ofS hqa;clear hqa;go_wp2_with (first
     |(refine wpList_storePt rfl (.tmp 9) (.tmp 37) rfl w2.heap.size s1 s2 s3 s4 _ HON.out.1 HON.out.2.1 HON.out.2.2.1 HON.out.2.2.2 rfl rfl rfl HPN.out ?_)
     |fail)
    intro w3 hp3 hw3;have b23:Below w2.heap.size w2 w3:=(below_new3 _ _).trans (hw3.below (Nat.le_refl _));have HB3:Hid (Below w.heap.size w w3):=HB2.out.trans (b23.mono HB2.out.size);have HD3:=hid_ofS (HD2.out.below b23);have HA3:Hid (qa=true→PtQ w3 w2.heap.size (ptQ pub)):=fun h=>md_pt (fun h'=>HOK.out (by rw[←HQA.out];exact h')) hp3 b23 (by rw[HQA.out];exact h)
    clear hp3 hw3 b23 HB2 HD2 HPN HON HOK;generalize w2.heap.size=Ga at *;go_wp2_with fail;refine(decodeS_any (some ⟨bs,os,none⟩) _ 32 cs cd (sig.take 32) mdD _ htl (by decide) ((HS.out.below HB3.out).take 32).at_ (byte_take HZ.out.2.2 32) HD3.out).mono ?_;rintro e w4 ⟨r1,r2,r3,r4,rfl,hb4,hone,hok⟩;have HON:=hid_ofS hone;have HOK:=hid_ofS hok;have HPN:=hid_ofS (PtW.new w4);have HB4:Hid (Below w.heap.size w w4):=HB3.out.trans (hb4.mono HB3.out.size);have HD4:=hid_ofS (HD3.out.below hb4);have HA4:Hid (qa=true→PtQ w4 Ga (ptQ pub)):=fun h=>(HA3.out h).below hb4
    clear hb4 hone hok HB3 HD3 HA3;generalize hqr:mB (sig.take 32) mdD=qr at *;have HQR:=hid_ofS hqr;clear hqr;go_wp2_with (first
     |(refine wpList_storePt rfl (.tmp 11) (.tmp 44) rfl w4.heap.size r1 r2 r3 r4 _ HON.out.1 HON.out.2.1 HON.out.2.2.1 HON.out.2.2.2 rfl rfl rfl HPN.out ?_)
     |fail)
    intro w5 hp5 hw5;have b45:Below w4.heap.size w4 w5:=(below_new3 _ _).trans (hw5.below (Nat.le_refl _));have HB5:Hid (Below w.heap.size w w5):=HB4.out.trans (b45.mono HB4.out.size);have HD5:=hid_ofS (HD4.out.below b45);have HA5:Hid (qa=true→PtQ w5 Ga (ptQ pub)):=fun h=>(HA4.out h).below b45
    have HR5:Hid (qr=true→PtQ w5 w4.heap.size (ptQ (sig.take 32))):=fun h=>md_pt (fun h'=>HOK.out (by rw[←HQR.out];exact h')) hp5 b45 (by rw[HQR.out];exact h)
    clear hp5 hw5 b45 HB4 HD4 HPN HON HOK HA4;generalize w4.heap.size=Gr at *;cases qa with
    |false=>
     have HV:=hid_ofS (vsR_ps (msg:=msg) (sig:=sig) HQA.out);clear HA5 HR5 HQA HQR;go_wp2
     go_ret
     exact⟨by rw[HV.out];rfl,HB5.out⟩
    |true=>
     cases qr with
     |false=>
      have HV:=hid_ofS (vsR_rs (msg:=msg) (pub:=pub) HQR.out);clear HA5 HR5 HQA HQR;go_wp2
      go_ret
      exact⟨by rw[HV.out];rfl,HB5.out⟩
     |true=>
      have HVR:=hid_ofS (vsR_es (msg:=msg) hsl HQ.out HQA.out HQR.out);have HA6:=hid_ofS (HA5.out rfl);have HR6:=hid_ofS (HR5.out rfl);clear HA5 HR5 HQA HQR HQ;go_wp2_with fail;refine(sbas_any _).mono ?_;rintro e w6 ⟨v6,b6s,rfl,o6,c1,c2,c3,b6⟩;obtain rfl:=bB_of c1 c2 c3;obtain⟨g6,c6,rfl,hA6,hc6⟩:=PtA.of_own o6;have HB6:Hid (Below w.heap.size w w6):=HB5.out.trans (b6.mono HB5.out.size);have HD6:=hid_ofS (HD5.out.below b6);have HPA6:=hid_ofS (HA6.out.below b6);have HPR6:=hid_ofS (HR6.out.below b6);have HBB6:=hid_ofS hA6;rw[bB_len];clear o6 c1 c2 c3 b6 hA6 hc6 HB5 HD5 HA6 HR6;go_wp2_with fail;refine(decodeS_any (some ⟨g6,0,none⟩) _ 32 c6 cd bB mdD _ bB_len (by decide) HBB6.out.at_ bB_byte HD6.out).mono ?_;rintro e w7 ⟨t1,t2,t3,t4,rfl,hb7,hone,hok⟩;have HON:=hid_ofS hone;have HOK:=hid_ofS hok;have HPN:=hid_ofS (PtW.new w7);have HB7:Hid (Below w.heap.size w w7):=HB6.out.trans (hb7.mono HB6.out.size);have HD7:=hid_ofS (HD6.out.below hb7);have HPA7:=hid_ofS (HPA6.out.below hb7);have HPR7:=hid_ofS (HPR6.out.below hb7);have HMB:=hid_ofS bB_ok;generalize mB bB mdD=mb at *;clear hb7 hone hok HB6 HD6 HPA6 HPR6 HBB6;go_wp2_with (first
       |(refine wpList_storePt rfl (.tmp 13) (.tmp 56) rfl w7.heap.size t1 t2 t3 t4 _ HON.out.1 HON.out.2.1 HON.out.2.2.1 HON.out.2.2.2 rfl rfl rfl HPN.out ?_)
       |fail)
      intro w8 hp8 hw8;have b78:Below w7.heap.size w7 w8:=(below_new3 _ _).trans (hw8.below (Nat.le_refl _));have HB8:Hid (Below w.heap.size w w8):=HB7.out.trans (b78.mono HB7.out.size);have HD8:=hid_ofS (HD7.out.below b78);have HPA8:=hid_ofS (HPA7.out.below b78);have HPR8:=hid_ofS (HPR7.out.below b78);have HPB8:Hid (PtQ w8 w7.heap.size (ptQ bB)):=md_pt (fun _=>HOK.out HMB.out) hp8 b78 bB_ok;clear hp8 hw8 b78 HB7 HD7 HPN HON HOK HPA7 HPR7 HMB;generalize w7.heap.size=Gb at *;have hfl:[sig.take 32,pub,msg].flatten=sig.take 32++pub++msg:=by simp
      have hfn:(sig.take 32++pub++msg).length=32+32+nm:=by rw[List.length_append,List.length_append,htl,hpl,hml]
      have HAL:Hid (Below w8.heap.size w8 (w8.alloc (.cells #[.slice (some ⟨bs,os,none⟩) 32 cs,.slice (some ⟨bp,op,none⟩) 32 cp,.slice (some ⟨bm,om,none⟩) nm cm] 26))):=below_new3 _ _;have CC:Hid (Calls Tryz.prog 76 #[.slice (some ⟨w8.heap.size,0,none⟩) 3 3] (w8.alloc (.cells #[.slice (some ⟨bs,os,none⟩) 32 cs,.slice (some ⟨bp,op,none⟩) 32 cp,.slice (some ⟨bm,om,none⟩) nm cm] 26)) _):=
       cat_any w8.heap.size 3 3 [.slice (some ⟨bs,os,none⟩) 32 cs,.slice (some ⟨bp,op,none⟩) 32 cp,.slice (some ⟨bm,om,none⟩) nm cm] [sig.take 32,pub,msg] _ rfl (by simp)
        (fun i hi=>by
         rw[cell_of_row _ _ i _ _ _ (heap_alloc_new w8 _)]
         match i,hi with
         |0,_=>rfl
         |1,_=>rfl
         |2,_=>rfl)
        (fun i hi=>by
         have bx:=HB8.out.trans (HAL.out.mono HB8.out.size)
         match i,hi with
         |0,_=>exact((HS.out.below bx).take 32).part 32 cs htl
         |1,_=>exact(HP.out.below bx).part 32 cp hpl
         |2,_=>exact(HM.out.below bx).part nm cm hml)
        (by rw[hfl,hfn];omega) (by decide)
      rw[hfl] at CC;have HFN:=hid_ofS hfn;clear hfl hfn;go_wp2_with fail;refine CC.out.mono ?_;rintro e w9 ⟨v9,rfl,o9,b9⟩;obtain⟨g9,c9,rfl,hA9,hc9⟩:=PtA.of_own o9;have b89:Below w8.heap.size w8 w9:=HAL.out.trans (b9.mono HAL.out.size);have HB9:Hid (Below w.heap.size w w9):=HB8.out.trans (b89.mono HB8.out.size);have HD9:=hid_ofS (HD8.out.below b89);have HPA9:=hid_ofS (HPA8.out.below b89);have HPR9:=hid_ofS (HPR8.out.below b89);have HPB9:=hid_ofS (HPB8.out.below b89);have HBY:Hid (Byte (sig.take 32++pub++msg)):=fun z hz=>by
       simp only[List.mem_append] at hz;rcases hz with (h|h)|h
       ·exact byte_take HZ.out.2.2 32 z h
       ·exact HZ.out.1 z h
       ·exact HZ.out.2.1 z h
      have CH:=hid_ofS (shaS_any g9 0 c9 _ (sig.take 32++pub++msg) w9 rfl hA9.lt hA9.c HBY.out (by rw[HFN.out];omega));rw[HFN.out] at CH ⊢;clear o9 b9 b89 hA9 hc9 CC HAL HB8 HD8 HPA8 HPR8 HPB8 HBY;go_wp2_with fail;refine CH.out.mono ?_;rintro e w10 ⟨v10,rfl,o10,b10⟩;obtain⟨g10,c10,rfl,hA10,hc10⟩:=PtA.of_own o10;have HB10:Hid (Below w.heap.size w w10):=HB9.out.trans (b10.mono HB9.out.size);have HD10:=hid_ofS (HD9.out.below b10);have HPA10:=hid_ofS (HPA9.out.below b10);have HPR10:=hid_ofS (HPR9.out.below b10);have HPB10:=hid_ofS (HPB9.out.below b10);have hsl9:(shaL (sig.take 32++pub++msg)).length=64:=by unfold shaL;rw[txtW_len,(finL_w8 _ _ _).1]
      have CR:=hid_ofS (sred_any (some ⟨g10,0,none⟩) 64 c10 (shaL (sig.take 32++pub++msg)) w10 hsl9 (by decide) hA10.at_ (by unfold shaL;exact txtW_byte _));rw[hsl9];clear o10 b10 hA10 hc10 CH HB9 HD9 HPA9 HPR9 HPB9 hsl9;go_wp2_with fail;refine CR.out.mono ?_;rintro e w11 ⟨v11,ks,rfl,o11,hkb,hkl,hkv,b11⟩;obtain⟨gk,ck,rfl,hAk,hck⟩:=PtA.of_own o11;rw[hkl];have HB11:Hid (Below w.heap.size w w11):=HB10.out.trans (b11.mono HB10.out.size);have HD:=hid_ofS (HD10.out.below b11);have HPA:=hid_ofS (HPA10.out.below b11);have HPR:=hid_ofS (HPR10.out.below b11);have HPB:=hid_ofS (HPB10.out.below b11);have HK:=hid_ofS hAk;have HKV:Hid (Byte ks∧ks.length=32∧val 256 ks=hsV pub msg sig):=⟨hkb,hkl,hkv⟩
      clear o11 b11 hkb hkl hkv hAk hck CR HB10 HD10 HPA10 HPR10 HPB10;go_wp2_with fail;obtain⟨p1,pc1,p2,pc2,p3,pc3,p4,pc4,pW,pf1,pf2,pf3,pf4⟩:=HPB.out;have PW:=hid_ofS pW;have PF:=hid_ofS (And.intro pf1 (And.intro pf2 (And.intro pf3 pf4)));clear pW pf1 pf2 pf3 pf4;refine wp_region_any (by kernel_rfl) ?_;refine wpAny_slotsU (fun i x y=>i=6∨Below x.heap.size x y) (frame:=(fun (a b c d e f g h i j k l m n o p q r s u v w x y z A B C D E F G H I J K L M N O P Q R S T U V W X Y Z a0 a1 a2 a3 a4 a5 a6 a7 a8 a9 b0 b1 b2 b3 b4 b5 b6 b7 b8 b9 c0 c1 c2 c3 c4 c5 c6:Value)=>fun (t:Nat→Value)=>({ tmps:=List.toArray [a,b,c,d,e,f,g,h,i,j,k,l,m,n,o,t 5,p,q,r,s,u,v,w,x,y,z,A,B,C,D,E,F,G,H,I,J,K,L,M,N,O,P,Q,R,S,T,U,V,W,X,Y,Z,a0,a1,a2,a3,a4,a5,a6,a7,a8,a9,b0,b1,b2,t 0,t 1,t 2,t 3,t 4,b3,b4,b5,b6,b7,b8,b9,c0,c1,c2,c3,c4,c5,c6],defers:=[] }:Act)) _ _ _ _ _ _ _ _ _ _ _ _ _ _ _ _ _ _ _ _ _ _ _ _ _ _ _ _ _ _ _ _ _ _ _ _ _ _ _ _ _ _ _ _ _ _ _ _ _ _ _ _ _ _ _ _ _ _ _ _ _ _ _ _ _ _ _ _ _ _ _ _ _ _ _ _ _ _)
       (Ext:=fun L u w'=>SXv w11 5 6 4 ((mS (val 256 (sig.drop 32)) (ptQ bB) 256).1) L u w') (Good:=fun i L w' v=>if i=0 then v=.slice (some ⟨bs,os,none⟩) 64 cs else if i=1 then v=.slice (some ⟨bs,os+32,none⟩) 32 (cs-32) else if i=2 then v=.agg #[.slice (some ⟨p1,0,none⟩) 16 pc1,.slice (some ⟨p2,0,none⟩) 16 pc2,.slice (some ⟨p3,0,none⟩) 16 pc3,.slice (some ⟨p4,0,none⟩) 16 pc4] else if i=3 then v=.slice (some ⟨gd,0,none⟩) 16 cd else if i=4 then(L 6=true∨TmV w' v ((mS (val 256 (sig.drop 32)) (ptQ bB) 256).1)) else if i=5 then(L 6=true∨PtZ w11.heap.size w' v) else if i=6 then L 6=true else True) ?hstab (by kernel_rfl) ?hop ?hdone _ _ ((fun (x0 x1 x2 x3 x4 x5:Value)=>fun (i:Nat)=>if i=0 then x0 else if i=1 then x1 else if i=2 then x2 else if i=3 then x3 else if i=4 then x4 else if i=5 then x5 else undef) _ _ _ _ _ _) _ (by simp) ?ext ?start (by simp)
      case start=>intro i hi h;exact absurd h (by rw[Array.getD_eq_getD_getElem?,Array.getElem?_replicate];split<;>simp)
      case ext=>exact SXv.start (fun i=>by rw[Array.getD_eq_getD_getElem?,Array.getElem?_replicate];split<;>rfl)
      case hstab=>
       intro j L w9 w' i v hM hij hLi h;have hu:∀ k,L k=true→updK L i k=true:=fun k hk=>by unfold updK;split<;>simp[hk]
       by_cases h4:j=4
       ·subst h4;simp at h ⊢;rcases hM with rfl|hM
        ·exact .inl (by simp[updK])
        ·rcases h with h|h
         ·exact .inl (hu _ h)
         ·exact .inr (h.below hM)
       by_cases h5:j=5
       ·subst h5;simp at h ⊢;rcases hM with rfl|hM
        ·exact .inl (by simp[updK])
        ·rcases h with h|h
         ·exact .inl (hu _ h)
         ·exact .inr (h.below hM)
       by_cases hs:j=6
       ·subst hs;simp at h ⊢;exact hu _ h
       simp only[if_neg h4,if_neg h5,if_neg hs] at h ⊢;exact h
      case hop=>
       intro i o L t w' ho hLi hx hdep K hK;have hi:i<7:=(Array.getElem?_eq_some_iff.1 ho).1;obtain rfl|rfl|rfl|rfl|rfl|rfl|rfl:i=0∨i=1∨i=2∨i=3∨i=4∨i=5∨i=6:=by omega
       all_goals(simp at ho;subst ho)
       ·clear hdep;have hK':=hK w' (.slice (some ⟨bs,os,none⟩) 64 cs) (by simp) (hx.step 0 _ (Below.refl _ _) (by decide) (by decide)) (.inr (Below.refl _ _));clear hK;rw[if_pos (by rfl)];go_simp;simpa[upd] using hK'
       ·have d0:t 0=.slice (some ⟨bs,os,none⟩) 64 cs:=by simpa using(hdep ⟨0,.data⟩ (by simp) rfl).2
        clear hdep;have hK':=hK w' (.slice (some ⟨bs,os+32,none⟩) 32 (cs-32)) (by simp) (hx.step 1 _ (Below.refl _ _) (by decide) (by decide)) (.inr (Below.refl _ _));clear hK;rw[if_pos (by rfl)];go_simp;simpa[upd,d0] using hK'
       ·clear hdep;have hK':=hK w' (.agg #[.slice (some ⟨p1,0,none⟩) 16 pc1,.slice (some ⟨p2,0,none⟩) 16 pc2,.slice (some ⟨p3,0,none⟩) 16 pc3,.slice (some ⟨p4,0,none⟩) 16 pc4]) (by simp) (hx.step 2 _ (Below.refl _ _) (by decide) (by decide)) (.inr (Below.refl _ _));clear hK;rw[if_pos (by rfl)];refine wp_load_row 109 (.tmp 13) rfl Gb rfl 109 _ (0,0) _ (PW.out.below hx.below PW.out.lt) Tryz.underlying109 rfl Tryz.sizePt ?_;simpa[upd,Act.put] using hK'
       ·clear hdep;have hK':=hK w' (.slice (some ⟨gd,0,none⟩) 16 cd) (by simp) (hx.step 3 _ (Below.refl _ _) (by decide) (by decide)) (.inr (Below.refl _ _));clear hK;rw[if_pos (by rfl)];go_simp;simpa[upd] using hK'
       ·have d1:t 1=.slice (some ⟨bs,os+32,none⟩) 32 (cs-32):=by simpa using(hdep ⟨1,.data⟩ (by simp) rfl).2
        have d2:t 2=.agg #[.slice (some ⟨p1,0,none⟩) 16 pc1,.slice (some ⟨p2,0,none⟩) 16 pc2,.slice (some ⟨p3,0,none⟩) 16 pc3,.slice (some ⟨p4,0,none⟩) 16 pc4]:=by simpa using(hdep ⟨2,.data⟩ (by simp) rfl).2
        have d3:t 3=.slice (some ⟨gd,0,none⟩) 16 cd:=by simpa using(hdep ⟨3,.data⟩ (by simp) rfl).2
        clear hdep;have A:=ltimes_any (some ⟨bs,os+32,none⟩) (cs-32) (sig.drop 32) p1 p2 p3 p4 gd pc1 pc2 pc3 pc4 cd (ptQ bB) w' hdl (byte_drop HZ.out.2.2 32) ((HS.out.below (HB11.out.trans (hx.below.mono HB11.out.size))).drop 32).at_ (PF.out.1.below hx.below) (PF.out.2.1.below hx.below) (PF.out.2.2.1.below hx.below) (PF.out.2.2.2.below hx.below) (HD.out.below hx.below);have hK':∀ ww v,TmV ww v ((mS (val 256 (sig.drop 32)) (ptQ bB) 256).1)→Below w'.heap.size w' ww→K _ ww:=fun ww v hv hb=>hK ww v (by simp;exact .inr hv) (hx.step 4 v hb (by decide) (by decide)) (.inr hb)
        clear hK;rw[if_pos (by rfl)];go_simp;try simp only[d1,d2,d3]
        refine A.mono ?_;rintro e w9 ⟨h1,k1,h2,k2,h3,k3,h4,k4,rfl,f1,f2,f3,f4,hb9⟩;have hK2:=hK' w9 _ ⟨h1,k1,h2,k2,h3,k3,h4,k4,rfl,f1,f2,f3,f4⟩ hb9;clear hK' A f1 f2 f3 f4 hb9;go_simp;simpa[upd,d1,d2,d3] using hK2
       ·clear hdep;have hK':=hK (w'.alloc (.cells #[.slice none 0 0,.slice none 0 0,.slice none 0 0,.slice none 0 0] 109)) (.pointer (some ⟨w'.heap.size,0,none⟩)) (by simp;exact .inr ⟨_,rfl,hx.below.size,PtW.new w'⟩) (hx.made _ (below_new3 _ _) (by decide) hLi) (.inr (below_new3 _ _));clear hK;rw[if_pos (by rfl)];go_simp;simpa[upd] using hK'
       ·have l4:L 4=true:=(hdep ⟨4,.data⟩ (by simp) rfl).1;have f4:TmV w' (t 4) ((mS (val 256 (sig.drop 32)) (ptQ bB) 256).1):=by have h:=(hdep ⟨4,.data⟩ (by simp) rfl).2;simp at h;rcases h with h|h;(rw[hLi] at h;cases h);exact h
        have l5:L 5=true:=(hdep ⟨5,.data⟩ (by simp) rfl).1;have f5:PtZ w11.heap.size w' (t 5):=by have h:=(hdep ⟨5,.data⟩ (by simp) rfl).2;simp at h;rcases h with h|h;(rw[hLi] at h;cases h);exact h
        clear hdep;have hK':∀ w9,Below w11.heap.size w' w9→PtF w9 (t 5) ((mS (val 256 (sig.drop 32)) (ptQ bB) 256).1)→K _ w9:=fun w9 hb hf=>hK w9 undef (by simp[updK]) (hx.set undef hb (by decide) (by decide) l5 l4 hf) (.inl rfl)
        clear hK;rw[if_pos (by rfl)];refine wp_storeS (.tmp 15) (.tmp 69) rfl w11.heap.size ((mS (val 256 (sig.drop 32)) (ptQ bB) 256).1) (t 5) (t 4) rfl rfl f5 f4 ?_;intro w9 hb hf;have hK2:=hK' w9 hb hf;clear hK' hb hf;simpa[upd,Act.put] using hK2
      case hdone=>
       intro L t w12 hx hg;have hl:L 6=true:=by simpa using hg 6 (by decide)
       obtain⟨_,hf⟩:=hx.fin hl;have hb:=hx.below;clear hg hl hx;obtain⟨Gl,eGl,hGl⟩:=hf;have HB12:Hid (Below w.heap.size w w12):=HB11.out.trans (hb.mono HB11.out.size);have HD12:=hid_ofS (HD.out.below hb);have HPA12:=hid_ofS (HPA.out.below hb);have HPR12:=hid_ofS (HPR.out.below hb);have HPL12:=hid_ofS hGl;have HK12:=hid_ofS (HK.out.below hb);clear hb hGl HB11 HD HPA HPR HPB HK PW PF;simp only[eGl];clear eGl;go_wp2_with fail;obtain⟨r1,rc1,r2,rc2,r3,rc3,r4,rc4,rW,rf1,rf2,rf3,rf4⟩:=HPR12.out;have RW:=hid_ofS rW;have RF:=hid_ofS (And.intro rf1 (And.intro rf2 (And.intro rf3 rf4)));clear rW rf1 rf2 rf3 rf4;obtain⟨a1,ac1,a2,ac2,a3,ac3,a4,ac4,aW,af1,af2,af3,af4⟩:=HPA12.out;have AW:=hid_ofS aW;have AF:=hid_ofS (And.intro af1 (And.intro af2 (And.intro af3 af4)));clear aW af1 af2 af3 af4;refine wp_region_any (by kernel_rfl) ?_;refine wpAny_slotsU (fun i x y=>i=8∨Below x.heap.size x y) (frame:=(fun (a b c d e f g h i j k l m n o p q r s u v w x y z A B C D E F G H I J K L M N O P Q R S T U V W X Y Z a0 a1 a2 a3 a4 a5 a6 a7 a8 a9 b0 b1 b2 b3 b4 b5 b6 b7 b8 b9 c0 c1 c2 c3 c4:Value)=>fun (t:Nat→Value)=>({ tmps:=List.toArray [a,b,c,d,e,f,g,h,i,j,k,l,m,n,o,p,t 7,q,r,s,u,v,w,x,y,z,A,B,C,D,E,F,G,H,I,J,K,L,M,N,O,P,Q,R,S,T,U,V,W,X,Y,Z,a0,a1,a2,a3,a4,a5,a6,a7,a8,a9,b0,b1,b2,b3,b4,b5,b6,b7,t 0,t 1,t 2,t 3,t 4,t 5,t 6,b8,b9,c0,c1,c2,c3,c4],defers:=[] }:Act)) _ _ _ _ _ _ _ _ _ _ _ _ _ _ _ _ _ _ _ _ _ _ _ _ _ _ _ _ _ _ _ _ _ _ _ _ _ _ _ _ _ _ _ _ _ _ _ _ _ _ _ _ _ _ _ _ _ _ _ _ _ _ _ _ _ _ _ _ _ _ _ _ _ _ _ _)
        (Ext:=fun L u w'=>SXv w12 7 8 6 (F4 (ptQ (sig.take 32)) (mS (hsV pub msg sig) (ptQ pub) 256).1) L u w') (Good:=fun i L w' v=>if i=0 then v=.agg #[.slice (some ⟨r1,0,none⟩) 16 rc1,.slice (some ⟨r2,0,none⟩) 16 rc2,.slice (some ⟨r3,0,none⟩) 16 rc3,.slice (some ⟨r4,0,none⟩) 16 rc4] else if i=1 then v=.slice (some ⟨gk,0,none⟩) 32 ck else if i=2 then v=.agg #[.slice (some ⟨a1,0,none⟩) 16 ac1,.slice (some ⟨a2,0,none⟩) 16 ac2,.slice (some ⟨a3,0,none⟩) 16 ac3,.slice (some ⟨a4,0,none⟩) 16 ac4] else if i=3 then v=.slice (some ⟨gd,0,none⟩) 16 cd else if i=4 then(L 8=true∨TmV w' v ((mS (hsV pub msg sig) (ptQ pub) 256).1)) else if i=5 then v=.slice (some ⟨gd,0,none⟩) 16 cd else if i=6 then(L 8=true∨TmV w' v (F4 (ptQ (sig.take 32)) (mS (hsV pub msg sig) (ptQ pub) 256).1)) else if i=7 then(L 8=true∨PtZ w12.heap.size w' v) else if i=8 then L 8=true else True) ?hstab (by kernel_rfl) ?hop ?hdone _ _ ((fun (x0 x1 x2 x3 x4 x5 x6 x7:Value)=>fun (i:Nat)=>if i=0 then x0 else if i=1 then x1 else if i=2 then x2 else if i=3 then x3 else if i=4 then x4 else if i=5 then x5 else if i=6 then x6 else if i=7 then x7 else undef) _ _ _ _ _ _ _ _) _ (by simp) ?ext ?start (by simp)
       case start=>intro i hi h;exact absurd h (by rw[Array.getD_eq_getD_getElem?,Array.getElem?_replicate];split<;>simp)
       case ext=>exact SXv.start (fun i=>by rw[Array.getD_eq_getD_getElem?,Array.getElem?_replicate];split<;>rfl)
       case hstab=>
        intro j L w9 w' i v hM hij hLi h;have hu:∀ k,L k=true→updK L i k=true:=fun k hk=>by unfold updK;split<;>simp[hk]
        by_cases h4:j=4
        ·subst h4;simp at h ⊢;rcases hM with rfl|hM
         ·exact .inl (by simp[updK])
         ·rcases h with h|h
          ·exact .inl (hu _ h)
          ·exact .inr (h.below hM)
        by_cases h6:j=6
        ·subst h6;simp at h ⊢;rcases hM with rfl|hM
         ·exact .inl (by simp[updK])
         ·rcases h with h|h
          ·exact .inl (hu _ h)
          ·exact .inr (h.below hM)
        by_cases h7:j=7
        ·subst h7;simp at h ⊢;rcases hM with rfl|hM
         ·exact .inl (by simp[updK])
         ·rcases h with h|h
          ·exact .inl (hu _ h)
          ·exact .inr (h.below hM)
        by_cases hs:j=8
        ·subst hs;simp at h ⊢;exact hu _ h
        simp only[if_neg h4,if_neg h6,if_neg h7,if_neg hs] at h ⊢;exact h
       case hop=>
        intro i o L t w' ho hLi hx hdep K hK;have hi:i<9:=(Array.getElem?_eq_some_iff.1 ho).1;obtain rfl|rfl|rfl|rfl|rfl|rfl|rfl|rfl|rfl:i=0∨i=1∨i=2∨i=3∨i=4∨i=5∨i=6∨i=7∨i=8:=by omega
        all_goals(simp at ho;subst ho)
        ·clear hdep;have hK':=hK w' (.agg #[.slice (some ⟨r1,0,none⟩) 16 rc1,.slice (some ⟨r2,0,none⟩) 16 rc2,.slice (some ⟨r3,0,none⟩) 16 rc3,.slice (some ⟨r4,0,none⟩) 16 rc4]) (by simp) (hx.step 0 _ (Below.refl _ _) (by decide) (by decide)) (.inr (Below.refl _ _));clear hK;rw[if_pos (by rfl)];refine wp_load_row 109 (.tmp 11) rfl Gr rfl 109 _ (0,0) _ (RW.out.below hx.below RW.out.lt) Tryz.underlying109 rfl Tryz.sizePt ?_;simpa[upd,Act.put] using hK'
        ·clear hdep;have hK':=hK w' (.slice (some ⟨gk,0,none⟩) 32 ck) (by simp) (hx.step 1 _ (Below.refl _ _) (by decide) (by decide)) (.inr (Below.refl _ _));clear hK;rw[if_pos (by rfl)];go_simp;simpa[upd] using hK'
        ·clear hdep;have hK':=hK w' (.agg #[.slice (some ⟨a1,0,none⟩) 16 ac1,.slice (some ⟨a2,0,none⟩) 16 ac2,.slice (some ⟨a3,0,none⟩) 16 ac3,.slice (some ⟨a4,0,none⟩) 16 ac4]) (by simp) (hx.step 2 _ (Below.refl _ _) (by decide) (by decide)) (.inr (Below.refl _ _));clear hK;rw[if_pos (by rfl)];refine wp_load_row 109 (.tmp 9) rfl Ga rfl 109 _ (0,0) _ (AW.out.below hx.below AW.out.lt) Tryz.underlying109 rfl Tryz.sizePt ?_;simpa[upd,Act.put] using hK'
        ·clear hdep;have hK':=hK w' (.slice (some ⟨gd,0,none⟩) 16 cd) (by simp) (hx.step 3 _ (Below.refl _ _) (by decide) (by decide)) (.inr (Below.refl _ _));clear hK;rw[if_pos (by rfl)];go_simp;simpa[upd] using hK'
        ·have d1:t 1=.slice (some ⟨gk,0,none⟩) 32 ck:=by simpa using(hdep ⟨1,.data⟩ (by simp) rfl).2
         have d2:t 2=.agg #[.slice (some ⟨a1,0,none⟩) 16 ac1,.slice (some ⟨a2,0,none⟩) 16 ac2,.slice (some ⟨a3,0,none⟩) 16 ac3,.slice (some ⟨a4,0,none⟩) 16 ac4]:=by simpa using(hdep ⟨2,.data⟩ (by simp) rfl).2
         have d3:t 3=.slice (some ⟨gd,0,none⟩) 16 cd:=by simpa using(hdep ⟨3,.data⟩ (by simp) rfl).2
         clear hdep;have A:=hid_ofS (ltimes_any (some ⟨gk,0,none⟩) ck ks a1 a2 a3 a4 gd ac1 ac2 ac3 ac4 cd (ptQ pub) w' HKV.out.2.1 HKV.out.1 (HK12.out.below hx.below).at_ (AF.out.1.below hx.below) (AF.out.2.1.below hx.below) (AF.out.2.2.1.below hx.below) (AF.out.2.2.2.below hx.below) (HD12.out.below hx.below));rw[HKV.out.2.2] at A;have A:=A.out;have hK':∀ ww v,TmV ww v ((mS (hsV pub msg sig) (ptQ pub) 256).1)→Below w'.heap.size w' ww→K _ ww:=fun ww v hv hb=>hK ww v (by simp;exact .inr hv) (hx.step 4 v hb (by decide) (by decide)) (.inr hb)
         clear hK;rw[if_pos (by rfl)];go_simp;try simp only[d1,d2,d3]
         refine A.mono ?_;rintro e w9 ⟨h1,k1,h2,k2,h3,k3,h4,k4,rfl,f1,f2,f3,f4,hb9⟩;have hK2:=hK' w9 _ ⟨h1,k1,h2,k2,h3,k3,h4,k4,rfl,f1,f2,f3,f4⟩ hb9;clear hK' A f1 f2 f3 f4 hb9;go_simp;simpa[upd,d1,d2,d3] using hK2
        ·clear hdep;have hK':=hK w' (.slice (some ⟨gd,0,none⟩) 16 cd) (by simp) (hx.step 5 _ (Below.refl _ _) (by decide) (by decide)) (.inr (Below.refl _ _));clear hK;rw[if_pos (by rfl)];go_simp;simpa[upd] using hK'
        ·have d0:t 0=.agg #[.slice (some ⟨r1,0,none⟩) 16 rc1,.slice (some ⟨r2,0,none⟩) 16 rc2,.slice (some ⟨r3,0,none⟩) 16 rc3,.slice (some ⟨r4,0,none⟩) 16 rc4]:=by simpa using(hdep ⟨0,.data⟩ (by simp) rfl).2
         have l4:L 4=true:=(hdep ⟨4,.data⟩ (by simp) rfl).1;have f4:L 8=true∨TmV w' (t 4) ((mS (hsV pub msg sig) (ptQ pub) 256).1):=by have h:=(hdep ⟨4,.data⟩ (by simp) rfl).2;simpa using h
         have d5:t 5=.slice (some ⟨gd,0,none⟩) 16 cd:=by simpa using(hdep ⟨5,.data⟩ (by simp) rfl).2
         clear hdep;rcases f4 with f4|f4
         ·have:=(hx.fin f4).1.2;rw[hLi] at this;cases this
         refine f4.elim_ fun q1 e1 q2 e2 q3 e3 q4 e4 d4 y1 y2 y3 y4=>?_
         have A:=sum_any (some ⟨r1,0,none⟩) (some ⟨r2,0,none⟩) (some ⟨r3,0,none⟩) (some ⟨r4,0,none⟩) (some ⟨q1,0,none⟩) (some ⟨q2,0,none⟩) (some ⟨q3,0,none⟩) (some ⟨q4,0,none⟩) (some ⟨gd,0,none⟩) rc1 rc2 rc3 rc4 e1 e2 e3 e4 cd _ _ _ _ _ _ _ _ mdD w' (fun e he=>by
           simp only[List.mem_cons,List.not_mem_nil,or_false] at he;rcases he with rfl|rfl|rfl|rfl|rfl|rfl|rfl|rfl|rfl
           ·exact RF.out.1.below hx.below
           ·exact RF.out.2.1.below hx.below
           ·exact RF.out.2.2.1.below hx.below
           ·exact RF.out.2.2.2.below hx.below
           ·exact y1
           ·exact y2
           ·exact y3
           ·exact y4
           ·exact HD12.out.below hx.below)
         have hK':∀ ww v,TmV ww v (F4 (ptQ (sig.take 32)) (mS (hsV pub msg sig) (ptQ pub) 256).1)→Below w'.heap.size w' ww→K _ ww:=fun ww v hv hb=>hK ww v (by simp;exact .inr hv) (hx.step 6 v hb (by decide) (by decide)) (.inr hb)
         clear hK;rw[if_pos (by rfl)];go_simp;try simp only[d0,d5,d4]
         refine A.mono ?_;rintro e w9 ⟨h1,k1,h2,k2,h3,k3,h4,k4,rfl,f1,f2,f3,f4x,hb9,_⟩;have hK2:=hK' w9 _ ⟨h1,k1,h2,k2,h3,k3,h4,k4,rfl,f1,f2,f3,f4x⟩ hb9;clear hK' A f1 f2 f3 f4x hb9;go_simp;simpa[upd,d0,d5,d4] using hK2
        ·clear hdep;have hK':=hK (w'.alloc (.cells #[.slice none 0 0,.slice none 0 0,.slice none 0 0,.slice none 0 0] 109)) (.pointer (some ⟨w'.heap.size,0,none⟩)) (by simp;exact .inr ⟨_,rfl,hx.below.size,PtW.new w'⟩) (hx.made _ (below_new3 _ _) (by decide) hLi) (.inr (below_new3 _ _));clear hK;rw[if_pos (by rfl)];go_simp;simpa[upd] using hK'
        ·have l6:L 6=true:=(hdep ⟨6,.data⟩ (by simp) rfl).1;have f6:TmV w' (t 6) (F4 (ptQ (sig.take 32)) (mS (hsV pub msg sig) (ptQ pub) 256).1):=by have h:=(hdep ⟨6,.data⟩ (by simp) rfl).2;simp at h;rcases h with h|h;(rw[hLi] at h;cases h);exact h
         have l7:L 7=true:=(hdep ⟨7,.data⟩ (by simp) rfl).1;have f7:PtZ w12.heap.size w' (t 7):=by have h:=(hdep ⟨7,.data⟩ (by simp) rfl).2;simp at h;rcases h with h|h;(rw[hLi] at h;cases h);exact h
         clear hdep;have hK':∀ w9,Below w12.heap.size w' w9→PtF w9 (t 7) (F4 (ptQ (sig.take 32)) (mS (hsV pub msg sig) (ptQ pub) 256).1)→K _ w9:=fun w9 hb hf=>hK w9 undef (by simp[updK]) (hx.set undef hb (by decide) (by decide) l7 l6 hf) (.inl rfl)
         clear hK;rw[if_pos (by rfl)];refine wp_storeS (.tmp 16) (.tmp 76) rfl w12.heap.size (F4 (ptQ (sig.take 32)) (mS (hsV pub msg sig) (ptQ pub) 256).1) (t 7) (t 6) rfl rfl f7 f6 ?_;intro w9 hb hf;have hK2:=hK' w9 hb hf;clear hK' hb hf;simpa[upd,Act.put] using hK2
       case hdone=>
        intro L t w13 hx hg;have hl:L 8=true:=by simpa using hg 8 (by decide)
        obtain⟨_,hf⟩:=hx.fin hl;have hb:=hx.below;clear hg hl hx;obtain⟨Gs,eGs,hGs⟩:=hf;have HB13:Hid (Below w.heap.size w w13):=HB12.out.trans (hb.mono HB12.out.size);have HPL13:=hid_ofS (HPL12.out.below hb);have HPS13:=hid_ofS hGs;clear hb hGs HB12 HD12 HPA12 HPR12 HPL12 HK12 RW RF AW AF;simp only[eGs];clear eGs;go_wp2_with fail;obtain⟨l1,lc1,l2,lc2,l3,lc3,l4,lc4,lW,lf1,lf2,lf3,lf4⟩:=HPL13.out;have LW:=hid_ofS lW;have LF:=hid_ofS (And.intro lf1 (And.intro lf2 (And.intro lf3 lf4)));clear lW lf1 lf2 lf3 lf4;obtain⟨s1,sc1,s2,sc2,s3,sc3,s4,sc4,sW,sf1,sf2,sf3,sf4⟩:=HPS13.out;have SW:=hid_ofS sW;have SF:=hid_ofS (And.intro sf1 (And.intro sf2 (And.intro sf3 sf4)));clear sW sf1 sf2 sf3 sf4;refine wp_region_any (by kernel_rfl) ?_;refine wpAny_slotsU (fun _ a b=>Below a.heap.size a b) (frame:=(fun (a b c d e f g h i j k l m n o p q r s u v w x y z A B C D E F G H I J K L M N O P Q R S T U V W X Y Z a0 a1 a2 a3 a4 a5 a6 a7 a8 a9 b0 b1 b2 b3 b4 b5 b6 b7 b8 b9 c0 c1 c2 c3 c4:Value)=>fun (t:Nat→Value)=>({ tmps:=List.toArray [a,b,c,d,e,f,t 7,g,h,i,j,k,l,m,n,o,p,q,r,s,u,v,w,x,y,z,A,B,C,D,E,F,G,H,I,J,K,L,M,N,O,P,Q,R,S,T,U,V,W,X,Y,Z,a0,a1,a2,a3,a4,a5,a6,a7,a8,a9,b0,b1,b2,b3,b4,b5,b6,b7,b8,b9,c0,c1,c2,c3,c4,t 0,t 1,t 2,t 3,t 4,t 5,t 6],defers:=[] }:Act)) _ _ _ _ _ _ _ _ _ _ _ _ _ _ _ _ _ _ _ _ _ _ _ _ _ _ _ _ _ _ _ _ _ _ _ _ _ _ _ _ _ _ _ _ _ _ _ _ _ _ _ _ _ _ _ _ _ _ _ _ _ _ _ _ _ _ _ _ _ _ _ _ _ _ _ _)
         (Ext:=fun L u w'=>ApX w13 [] L u w') (Good:=fun i L w' v=>if i=0 then v=.agg #[.slice (some ⟨l1,0,none⟩) 16 lc1,.slice (some ⟨l2,0,none⟩) 16 lc2,.slice (some ⟨l3,0,none⟩) 16 lc3,.slice (some ⟨l4,0,none⟩) 16 lc4] else if i=1 then CdW w' v (cdQ ((mS (val 256 (sig.drop 32)) (ptQ bB) 256).1)) else if i=2 then StV w' v (cdQ ((mS (val 256 (sig.drop 32)) (ptQ bB) 256).1)) else if i=3 then v=.agg #[.slice (some ⟨s1,0,none⟩) 16 sc1,.slice (some ⟨s2,0,none⟩) 16 sc2,.slice (some ⟨s3,0,none⟩) 16 sc3,.slice (some ⟨s4,0,none⟩) 16 sc4] else if i=4 then CdW w' v (cdQ (F4 (ptQ (sig.take 32)) (mS (hsV pub msg sig) (ptQ pub) 256).1)) else if i=5 then StV w' v (cdQ (F4 (ptQ (sig.take 32)) (mS (hsV pub msg sig) (ptQ pub) 256).1)) else if i=6 then v=.bool (eqnS pub msg sig) else if i=7 then v=.bool (eqnS pub msg sig) else True) ?hstab (by kernel_rfl) ?hop ?hdone _ _ ((fun (x0 x1 x2 x3 x4 x5 x6 x7:Value)=>fun (i:Nat)=>if i=0 then x0 else if i=1 then x1 else if i=2 then x2 else if i=3 then x3 else if i=4 then x4 else if i=5 then x5 else if i=6 then x6 else if i=7 then x7 else undef) _ _ _ _ _ _ _ _) _ (by simp) ?ext ?start (by simp)
        case start=>intro i hi h;exact absurd h (by rw[Array.getD_eq_getD_getElem?,Array.getElem?_replicate];split<;>simp)
        case ext=>exact(ApX.start w13 [] _ _ (fun i=>by rw[Array.getD_eq_getD_getElem?,Array.getElem?_replicate];split<;>rfl)).drew
        case hstab=>
         intro j L w9 w' i v hM _ _ h;by_cases h1:j=1
         ·subst h1;simp at h ⊢;exact h.below hM
         by_cases h2:j=2
         ·subst h2;simp at h ⊢;exact h.below hM
         by_cases h4:j=4
         ·subst h4;simp at h ⊢;exact h.below hM
         by_cases h5:j=5
         ·subst h5;simp at h ⊢;exact h.below hM
         simp only[if_neg h1,if_neg h2,if_neg h4,if_neg h5] at h ⊢;exact h
        case hop=>
         intro i o L t w' ho hLi hx hdep K hK;have hi:i<8:=(Array.getElem?_eq_some_iff.1 ho).1;obtain rfl|rfl|rfl|rfl|rfl|rfl|rfl|rfl:i=0∨i=1∨i=2∨i=3∨i=4∨i=5∨i=6∨i=7:=by omega
         all_goals(simp at ho;subst ho)
         ·clear hdep;have hK':=hK w' (.agg #[.slice (some ⟨l1,0,none⟩) 16 lc1,.slice (some ⟨l2,0,none⟩) 16 lc2,.slice (some ⟨l3,0,none⟩) 16 lc3,.slice (some ⟨l4,0,none⟩) 16 lc4]) (by simp) (hx.step 0 _ (Below.refl _ _) (fun h=>absurd h (by decide))) (Below.refl _ _);clear hK;rw[if_pos (by rfl)];refine wp_load_row 109 (.tmp 15) rfl Gl rfl 109 _ (0,0) _ (LW.out.below hx.below LW.out.lt) Tryz.underlying109 rfl Tryz.sizePt ?_;simpa[upd,Act.put] using hK'
         ·have d0:t 0=.agg #[.slice (some ⟨l1,0,none⟩) 16 lc1,.slice (some ⟨l2,0,none⟩) 16 lc2,.slice (some ⟨l3,0,none⟩) 16 lc3,.slice (some ⟨l4,0,none⟩) 16 lc4]:=by simpa using(hdep ⟨0,.data⟩ (by simp) rfl).2
          clear hdep;have A:=code_any (some ⟨l1,0,none⟩) (some ⟨l2,0,none⟩) (some ⟨l3,0,none⟩) (some ⟨l4,0,none⟩) lc1 lc2 lc3 lc4 _ _ _ w' (LF.out.1.below hx.below) (LF.out.2.1.below hx.below) (LF.out.2.2.1.below hx.below);have hK':∀ ww v,CdW ww v (cdQ ((mS (val 256 (sig.drop 32)) (ptQ bB) 256).1))→Below w'.heap.size w' ww→K _ ww:=fun ww v hv hb=>hK ww v (by simpa using hv) (hx.step 1 v hb (fun h=>absurd h (by decide))) hb
          clear hK;rw[if_pos (by rfl)];go_simp;try simp only[d0]
          refine A.mono ?_;rintro e w9 ⟨v9,bx,rfl,o9,hy,hl,hv,hb9⟩;have hK2:=hK' w9 v9 (by obtain⟨g,c,e,hA,_⟩:=PtA.of_own o9;rw[hl] at e;exact⟨g,c,bx,e,hA,hy,hl,hv⟩) hb9;clear hK' A o9 hy hl hv hb9;go_simp;simpa[upd,d0] using hK2
         ·have f1:CdW w' (t 1) (cdQ ((mS (val 256 (sig.drop 32)) (ptQ bB) 256).1)):=by simpa using(hdep ⟨1,.data⟩ (by simp) rfl).2
          clear hdep;refine Exists.elim f1 fun gg hh=>?_
          obtain⟨cc,bx,dj,hA,hy,hl,hv⟩:=hh;have hcv:=run_convert_bytes_arg w' 26 5 Tryz.underlying26 Tryz.underlying5 gg 0 32 cc bx hl (fun i hi=>hA.c i (by rw[hl];exact hi)) 9 Tryz.underlying9;have hK':=hK w' (.string (strOfNums bx)) (by simpa using⟨bx,rfl,hy,hl,hv⟩) (hx.step 2 _ (Below.refl _ _) (fun h=>absurd h (by decide))) (Below.refl _ _);clear hK hA;rw[if_pos (by rfl)];go_simp;simpa[upd,dj,hcv] using hK'
         ·clear hdep;have hK':=hK w' (.agg #[.slice (some ⟨s1,0,none⟩) 16 sc1,.slice (some ⟨s2,0,none⟩) 16 sc2,.slice (some ⟨s3,0,none⟩) 16 sc3,.slice (some ⟨s4,0,none⟩) 16 sc4]) (by simp) (hx.step 3 _ (Below.refl _ _) (fun h=>absurd h (by decide))) (Below.refl _ _);clear hK;rw[if_pos (by rfl)];refine wp_load_row 109 (.tmp 16) rfl Gs rfl 109 _ (0,0) _ (SW.out.below hx.below SW.out.lt) Tryz.underlying109 rfl Tryz.sizePt ?_;simpa[upd,Act.put] using hK'
         ·have d3:t 3=.agg #[.slice (some ⟨s1,0,none⟩) 16 sc1,.slice (some ⟨s2,0,none⟩) 16 sc2,.slice (some ⟨s3,0,none⟩) 16 sc3,.slice (some ⟨s4,0,none⟩) 16 sc4]:=by simpa using(hdep ⟨3,.data⟩ (by simp) rfl).2
          clear hdep;have A:=code_any (some ⟨s1,0,none⟩) (some ⟨s2,0,none⟩) (some ⟨s3,0,none⟩) (some ⟨s4,0,none⟩) sc1 sc2 sc3 sc4 _ _ _ w' (SF.out.1.below hx.below) (SF.out.2.1.below hx.below) (SF.out.2.2.1.below hx.below);have hK':∀ ww v,CdW ww v (cdQ (F4 (ptQ (sig.take 32)) (mS (hsV pub msg sig) (ptQ pub) 256).1))→Below w'.heap.size w' ww→K _ ww:=fun ww v hv hb=>hK ww v (by simpa using hv) (hx.step 4 v hb (fun h=>absurd h (by decide))) hb
          clear hK;rw[if_pos (by rfl)];go_simp;try simp only[d3]
          refine A.mono ?_;rintro e w9 ⟨v9,bx,rfl,o9,hy,hl,hv,hb9⟩;have hK2:=hK' w9 v9 (by obtain⟨g,c,e,hA,_⟩:=PtA.of_own o9;rw[hl] at e;exact⟨g,c,bx,e,hA,hy,hl,hv⟩) hb9;clear hK' A o9 hy hl hv hb9;go_simp;simpa[upd,d3] using hK2
         ·have f4:CdW w' (t 4) (cdQ (F4 (ptQ (sig.take 32)) (mS (hsV pub msg sig) (ptQ pub) 256).1)):=by simpa using(hdep ⟨4,.data⟩ (by simp) rfl).2
          clear hdep;refine Exists.elim f4 fun gg hh=>?_
          obtain⟨cc,bx,dj,hA,hy,hl,hv⟩:=hh;have hcv:=run_convert_bytes_arg w' 26 5 Tryz.underlying26 Tryz.underlying5 gg 0 32 cc bx hl (fun i hi=>hA.c i (by rw[hl];exact hi)) 9 Tryz.underlying9;have hK':=hK w' (.string (strOfNums bx)) (by simpa using⟨bx,rfl,hy,hl,hv⟩) (hx.step 5 _ (Below.refl _ _) (fun h=>absurd h (by decide))) (Below.refl _ _);clear hK hA;rw[if_pos (by rfl)];go_simp;simpa[upd,dj,hcv] using hK'
         ·have f2:StV w' (t 2) (cdQ ((mS (val 256 (sig.drop 32)) (ptQ bB) 256).1)):=by simpa using(hdep ⟨2,.data⟩ (by simp) rfl).2
          have f5:StV w' (t 5) (cdQ (F4 (ptQ (sig.take 32)) (mS (hsV pub msg sig) (ptQ pub) 256).1)):=by simpa using(hdep ⟨5,.data⟩ (by simp) rfl).2
          clear hdep;refine Exists.elim f2 fun bx hh=>?_
          obtain⟨d2,hy,hl,hv⟩:=hh;refine Exists.elim f5 fun bz hh'=>?_
          obtain⟨d5,hy',hl',hv'⟩:=hh';have hq:((strOfNums bx).toList == (strOfNums bz).toList)=eqnS pub msg sig:=by rw[str_val hy hy' hl hl',hv,hv'];rfl
          have hK':=hK w' (.bool (eqnS pub msg sig)) (by simp) (hx.step 6 _ (Below.refl _ _) (fun h=>absurd h (by decide))) (Below.refl _ _);clear hK hv hv';generalize eqnS pub msg sig=bb at *;rw[if_pos (by rfl)];go_simp;simpa[upd,d2,d5,hq] using hK'
         ·have d6:t 6=.bool (eqnS pub msg sig):=by simpa using(hdep ⟨6,.data⟩ (by simp) rfl).2
          clear hdep;have hK':=hK w' (.bool (eqnS pub msg sig)) (by simp) (hx.step 7 _ (Below.refl _ _) (fun h=>absurd h (by decide))) (Below.refl _ _);clear hK;rw[if_pos (by rfl)];go_simp;simpa[upd,d6] using hK'
        case hdone=>
         intro L t w14 hx hg;have e7:t 7=.bool (eqnS pub msg sig):=by simpa using hg 7 (by decide)
         have HBF:Hid (Below w.heap.size w w14):=HB13.out.trans (hx.below.mono HB13.out.size);clear hg hx HB13 LW LF SW SF;simp only[e7];clear e7;go_wp2
         go_ret
         exact⟨by rw[HVR.out];rfl,HBF.out⟩
  ·have HV:=hid_ofS (vsR_64s (pub:=pub) (msg:=msg) (sig:=sig) (by rw[hsl];exact h64));have h65:¬ ((ns:Int)=64):=by omega
   have h66:((ns:Int) != 64)=true:=by simpa using h65
   go_enter Tryz.func57,Tryz.ntmps57;go_wp2
   go_ret
   exact⟨by rw[HV.out];rfl,Below.refl _ _⟩
 ·have HV:=hid_ofS (vsR_32s (pub:=pub) (msg:=msg) (sig:=sig) (by rw[hpl];exact h32));have h65:¬ ((np:Int)=32):=by omega
  have h66:((np:Int) != 32)=true:=by simpa using h65
  go_enter Tryz.func57,Tryz.ntmps57;go_wp2
  go_ret
  exact⟨by rw[HV.out];rfl,Below.refl _ _⟩
end Go.Proofs.YtjdhhgaelgemcaaGreatDoor
