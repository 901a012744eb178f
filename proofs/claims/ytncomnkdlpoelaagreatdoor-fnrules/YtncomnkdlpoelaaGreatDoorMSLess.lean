import Derived.Test.YtncomnkdlpoelaaGreatDoorMBase
namespace Go.Proofs.YtncomnkdlpoelaaGreatDoor
open Go.ChangeShapes Go.WideShapes Go.ChangeAt Go.RowKit
set_option linter.unusedVariables false
def lB:List Int:=[0xed,0xd3,0xf5,0x5c,0x1a,0x63,0x12,0x58,0xd6,0x9c,0xf7,0xa2,0xde,0xf9,0xde,0x14,0,0,0,0,0,0,0,0,0,0,0,0,0,0,0,0x10]
def bigL:Int:=7237005577332262213973186563042994240857116359379907606001950938285454250989
theorem lB_val:val 256 lB=bigL:=by decide
theorem lB_byte:Byte lB:=by unfold Byte lB;decide
theorem Own.lit (w:World) (B:Nat) (zs:List Int) (hB:B≤w.heap.size) (hl:zs.length≤1024):Own (w.alloc (.cells (zs.map (Value.int .u8)).toArray 5)) B (.slice (some ⟨w.heap.size,0,none⟩) zs.length zs.length) zs:=
 ⟨by
  have:=World.ownsRow_lit w (e:=5) (size:=1) (base:=B) (zs.map (Value.int .u8)).toArray zs.length hB (by unfold maxLen;omega) (by simp);exact this,_,_,rfl⟩
set_option maxHeartbeats 400000 in
theorem l4L_any (w:World) :
  Calls Tryz.prog 96 #[] w fun e w'=>∃ v,e=.returned v∧Own w' w.heap.size v lB∧Below w.heap.size w w':=by
 have HO:=Own.lit w w.heap.size lB (Nat.le_refl _) (by decide);go_enter Tryz.func96,Tryz.ntmps96;go_wp2
 go_ret
 exact⟨_,rfl,HO,(Below.refl _ _).alloc (Nat.le_refl _) _⟩
def LessPost (w:World) (xs ys:List Int) (e:Ending) (w':World):Prop:=
 ∃ v zs,e=.returned (.tuple #[v,.bool (decide (val 256 ys≤val 256 xs))])∧Own w' w.heap.size v zs∧Byte zs∧zs.length=xs.length∧(val 256 ys≤val 256 xs→val 256 zs=val 256 xs-val 256 ys)∧Below w.heap.size w w'
theorem less_step (p q z P x y b x' b':Int) (h:p-q=z-b*P) (hx:x'-b'*256=x-y-b):(p+x*P)-(q+y*P)=(z+x'*P)-b'*(P*256):=by
 have:(x'-b'*256)*P=(x-y-b)*P:=by rw[hx]
 grind
theorem less_end (p q z P b:Int) (h:p-q=z-b*P) (hz:0≤z) (hz':z<P) (hb:b=0∨b=1):(b == 0)=decide (q≤p)∧(q≤p→z=p-q):=by
 rcases hb with rfl|rfl
 ·have:q≤p:=by omega
  simp[this];omega
 ·have:¬ q≤p:=by omega
  simp[this]
set_option maxHeartbeats 400000 in
theorem lessS_any (a a':Option Addr) (n cap cap':Nat) (xs ys:List Int) (w:World) (hn:xs.length=n) (hn':ys.length=n) (hm:n≤1048576) (ha:At .u8 w a xs) (ha':At .u8 w a' ys) (hx:Byte xs) (hy:Byte ys) :
  Calls Tryz.prog 95 #[.slice a n cap,.slice a' n cap'] w (LessPost w xs ys):=by
 go_enter Tryz.func95,Tryz.ntmps95;go_wp2
 go_loopw [6,7,8] (fun v c i wr=>∃(k:Nat) (zs:List Int) (b:Int),k≤n∧i=.int .i64 k∧c=.int .i64 b∧(b=0∨b=1)∧zs.length=k∧Byte zs∧val 256 (xs.take k)-val 256 (ys.take k)=val 256 zs-b*256^k∧Own wr w.heap.size v zs∧Below w.heap.size w wr) (fun _ _ i _=>n-(intOf i).toNat)
 case atStart=>exact⟨0,[],0,Nat.zero_le _,rfl,rfl,.inl rfl,rfl,by simp[Byte],by simp[val],Own.empty _ _ (Nat.le_refl _),(Below.refl _ _).alloc (Nat.le_refl _) _⟩
 case round=>
  obtain⟨k,zs,b,hk,rfl,rfl,hb,hzl,hzb,hv,hown,hbel⟩:=hrel;by_cases hlt:k<n
  ·have hsz:=hbel.size;have vx:=val_take 256 xs k (by omega);have vy:=val_take 256 ys k (by omega);obtain⟨b0,off,rfl,hb0,hc⟩:=(ha.below hbel).get (by omega);obtain⟨b1,off',rfl,hb1,hc'⟩:=(ha'.below hbel).get (by omega);have c0:=hc k (by omega);have c1:=hc' k (by omega);have hx0:=hx.get k;have hy0:=hy.get k;obtain⟨x',b',hb',hx0',hx1',hx2⟩:∃ x' b':Int,(b'=0∨b'=1)∧0≤x'∧x'<256∧x'-b'*256=xs.getD k 0-ys.getD k 0-b:=by
    by_cases h:xs.getD k 0-ys.getD k 0-b<0
    ·exact⟨xs.getD k 0-ys.getD k 0-b+256,1,.inr rfl,by omega,by omega,by omega⟩
    ·exact⟨xs.getD k 0-ys.getD k 0-b,0,.inl rfl,by omega,by omega,by omega⟩
   have hstep:=less_step _ _ _ _ _ _ _ _ _ hv hx2;rw[←vx,←vy,show(256:Int)^k*256=256^(k+1) from(Int.pow_succ _ _).symm,←hzl,←val_snoc,hzl] at hstep;have HS:Hid _:=hstep;have HBy:=hdI <| Dig.snoc (B:=256) hzb hx0' hx1'
   have HZL:=hdI <| hzl
   clear hstep hv vx vy hc hc' ha ha' hx hy hzb hzl;generalize xs.getD k 0=x at *;generalize ys.getD k 0=y at *;obtain⟨hx0,hx1⟩:=hx0;obtain⟨hy0,hy1⟩:=hy0;have hlt':(k:Int)<(n:Int):=by omega
   go_wp2
   go_quiet (fail)
   have O2:Own (wr.drewN nq) w.heap.size u6 zs:=hown;have B2:Below w.heap.size w (wr.drewN nq):=⟨hbel.os,hbel.tape,hbel.output,hbel.size,hbel.block⟩
   have Z2:w.heap.size≤(wr.drewN nq).heap.size:=hsz;clear hown hbel hsz c0 c1 hb0 hb1;generalize wr.drewN nq=w2 at *;have ht0:-257<x-y-b:=by omega
   have ht1:x-y-b<256:=by omega
   generalize x-y-b=t at *;by_cases hneg:t<0
   ·obtain rfl:b'=1:=by omega
    obtain rfl:x'=t+256:=by omega
    clear hx2 hb hb';go_wp2_with (at_builtin;refine wpList_app _ rfl _ _ rfl w.heap.size _ _ rfl (O2.alloc _) ⟨w2.heap.size,0,none⟩ 1 1 [t+256] rfl rfl ?c1 ?c2 ?c3 ?_);all_goals first|(intro j hj;obtain rfl:j=0:=by omega
                                                                                                                                                                                         simp[Addr.add];done)|skip
    case c2=>rw[HZL.out];omega
    case c3=>first|omega|(rw[World.size_alloc];omega)
    intro v' w3 hown' hbel' _;have HO:Hid (Own w3 w.heap.size v' (zs++[t+256])):=hown';have HB:Hid (Below w.heap.size w w3):=(B2.alloc (by omega) _).trans hbel';clear O2 hown' B2 hbel';go_wp2;go_roundw
    case rel=>exact⟨k+1,zs++[t+256],1,by omega,by go_num,rfl,.inr rfl,by rw[List.length_append,HZL.out];rfl,HBy.out,HS.out,HO.out,HB.out⟩
    case measure=>simp[intOf];omega
   ·obtain rfl:b'=0:=by omega
    obtain rfl:x'=t:=by omega
    have hneg':decide (x'<0)=false:=by simpa using hneg
    clear hx2 hb hb' hneg';go_wp2_with (at_builtin;(refine wpList_app _ rfl _ _ rfl w.heap.size _ _ rfl (O2.alloc _) ⟨w2.heap.size,0,none⟩ 1 1 [x'] rfl rfl ?d1 ?d2 ?d3 ?_));all_goals first|(intro j hj;obtain rfl:j=0:=by omega
                                                                                                                                                                                              simp[Addr.add];done)|skip
    case d2=>rw[HZL.out];omega
    case d3=>first|omega|(rw[World.size_alloc];omega)
    intro v' w3 hown' hbel' _;have HO:=hdI <| hown'
    have HB:=hdI <| (B2.alloc (by omega) _).trans hbel'
    clear O2 hown' B2 hbel';go_wp2;go_roundw
    case rel=>exact⟨k+1,zs++[x'],0,by omega,by go_num,rfl,.inl rfl,by rw[List.length_append,HZL.out];rfl,HBy.out,HS.out,HO.out,HB.out⟩
    case measure=>simp[intOf];omega
  ·rw[List.take_of_length_le (by omega),List.take_of_length_le (by omega)] at hv;have z0:=val_nonneg (by decide) hzb;have z1:val 256 zs<256^k:=by rw[←hzl];exact val_lt (by decide) hzb
   obtain⟨e1,e2⟩:=less_end _ _ _ _ _ hv z0 z1 hb;have H1:=hdI <| e1
   have H2:=hdI <| e2
   have H3:=hdI <| hown
   have HZL:Hid (zs.length=xs.length):=by rw[hzl];show k=xs.length;omega
   clear e1 e2 z0 z1 hv hown hzl;go_wp2;refine bodyPost_ret (v:=.tuple #[u6,.bool (b == 0)]) (by simp[results,Tryz.results95,go_sem]) rfl ⟨u6,zs,by rw[H1.out],H3.out,hzb,HZL.out,H2.out,hbel⟩
def restAt (V:Int) (j:Nat):Int:=V/2^j%bigL
theorem restAt_bd (V:Int) (j:Nat):0≤restAt V j∧restAt V j<bigL:=by
 unfold restAt bigL;omega
theorem restAt_zero (V:Int):restAt V 0=V%bigL:=by simp[restAt]
def bitAt (V:Int) (j:Nat):Int:=V/2^j%2
theorem bitAt_bd (V:Int) (j:Nat):bitAt V j=0∨bitAt V j=1:=by unfold bitAt;omega
theorem restAt_step (V:Int) (j:Nat):restAt V j=if bigL≤2*restAt V (j+1)+bitAt V j then 2*restAt V (j+1)+bitAt V j-bigL else 2*restAt V (j+1)+bitAt V j:=by
 unfold restAt bitAt bigL;have e:V/2^(j+1)=V/2^j/2:=by rw[Int.pow_succ,Int.ediv_ediv_of_nonneg (Int.pow_nonneg (by decide))]
 rw[e];generalize V/2^j=q;split<;>omega
theorem restAt_top (V:Int) (j:Nat) (h0:0≤V) (h:V<2^j):restAt V j=0:=by
 unfold restAt;rw[Int.ediv_eq_zero_of_lt h0 h];rfl
theorem pow256r (n:Nat):(256:Int)^n=2^(8*n):=by rw[show(256:Int)=2^8 from rfl,←Int.pow_mul]
theorem bitAt_byte (zs:List Int) (j:Nat) (hz:Byte zs):bitAt (val 256 zs) j=zs.getD (j/8) 0/2^(j%8)%2:=by
 induction zs generalizing j with
 |nil=>simp[val,bitAt]
 |cons z zs ih=>
  obtain⟨h0,h1⟩:=Dig.head (B:=256) hz;by_cases hj:j<8
  ·have e1:j/8=0:=by omega
   have e2:j%8=j:=by omega
   rw[e1,e2];simp only[val,bitAt,List.getD_cons_zero];have:j=0∨j=1∨j=2∨j=3∨j=4∨j=5∨j=6∨j=7:=by omega
   rcases this with rfl|rfl|rfl|rfl|rfl|rfl|rfl|rfl<;>simp only[Int.pow_succ,Int.pow_zero]<;>omega
  ·obtain⟨i,rfl⟩:∃ i,j=i+8:=⟨j-8,by omega⟩
   have e1:(i+8)/8=i/8+1:=by omega
   have e2:(i+8)%8=i%8:=by omega
   rw[e1,e2,List.getD_cons_succ,←ih i (Dig.tail (B:=256) hz)];simp only[val,bitAt];have e3:(2:Int)^(i+8)=256*2^i:=by rw[Int.pow_add,Int.mul_comm];rfl
   rw[e3,←Int.ediv_ediv_of_nonneg (by decide)];have e4:(z+256*val 256 zs)/256=val 256 zs:=by omega
   rw[e4]
theorem twice_step (p s P d c b t:Int) (h:s+c*P=2*p+b):(s+(2*d+c)%256*P)+(2*d+c)/256*(P*256)=2*(p+d*P)+b:=by
 have:=val_carry 256 P (2*d) s (2*p+b) c (2*d*P) h rfl
 grind
theorem Own.grow2r {w w':World} {B:Nat} {v:Value} {zs:List Int} (h:Own w B v zs) (hb:Below w.heap.size w w'):Own w' B v zs:=by
 refine⟨⟨h.1.1,?_⟩,h.2⟩;rcases h.1.2 with h'|⟨g,c,cur,h1,h2,h3,h4⟩
 ·exact .inl h'
 ·exact .inr ⟨g,c,cur,h1,h2,by rw[hb.block g (Array.getElem?_eq_some_iff.1 h3).1];exact h3,h4⟩
theorem Own.lower2 {w:World} {B B':Nat} {v:Value} {zs:List Int} (h:Own w B' v zs) (hB:B≤B'):Own w B v zs:=by
 obtain⟨⟨h1,h2⟩,h3⟩:=h;refine⟨⟨h1,?_⟩,h3⟩;rcases h2 with h|⟨g,c,cur,h4,h5,h6⟩
 ·exact .inl h
 ·exact .inr ⟨g,c,cur,h4,by omega,h6⟩
theorem Own.at_ {w:World} {B:Nat} {v:Value} {zs:List Int} (h:Own w B v zs):∃ g c,v=.slice (some ⟨g,0,none⟩) zs.length c∧B≤g∧g<w.heap.size∧At .u8 w (some ⟨g,0,none⟩) zs:=by
 obtain⟨g,c,rfl,hb,hg,hc⟩:=h.base;exact⟨g,c,rfl,hb,hg,.inr ⟨g,0,rfl,hg,fun i hi=>by rw[Nat.zero_add,h.1.cellAt i (by omega)];simp[hi]⟩⟩
theorem shr_bit {x b:Int} {r:Nat} (h0:0≤x) (h1:x<256) (h:b=x/2^r%2):(wrap64 (x/2^r)).tmod 2=b:=by
 have hp:(0:Int)<2^r:=Int.pow_pos (by decide);have a0:0≤x/2^r:=Int.ediv_nonneg h0 (by omega);have a1:x/2^r≤x:=Int.ediv_le_self _ h0;generalize x/2^r=y at *;have:wrap64 y=y:=by unfold wrap64;omega
 rw[this,Int.tmod_eq_emod_of_nonneg a0,h]
theorem red_end {V m z:Int} {j:Nat} (hm:m=2*restAt V (j+1)+bitAt V j) (h:bigL≤m→z=m-bigL):(bigL≤m→z=restAt V j)∧(¬ bigL≤m→m=restAt V j):=by
 have:=restAt_step V j;rw[←hm] at this;refine⟨fun hh=>?_,fun hh=>?_⟩
 ·rw[this,if_pos hh,h hh]
 ·rw[this,if_neg hh]
set_option maxHeartbeats 1000000 in
theorem sred_any (a:Option Addr) (n cap:Nat) (zs:List Int) (w:World) (hn:zs.length=n) (hm:n≤64) (ha:At .u8 w a zs) (hz:Byte zs) :
  Calls Tryz.prog 87 #[.slice a n cap] w fun e w'=>∃ v rs,e=.returned v∧Own w' w.heap.size v rs∧Byte rs∧rs.length=32∧val 256 rs=val 256 zs%bigL∧Below w.heap.size w w':=by
 have hm':¬ ((64:Int)<(n:Int)):=by omega
 go_enter Tryz.func87,Tryz.ntmps87;go_wp2
 go_loopw [3,4] (fun v i wr=>∃ k:Nat,k≤32∧i=.int .i64 k∧Own wr w.heap.size v (List.replicate k 0)∧Below w.heap.size w wr) (fun _ i _=>32-(intOf i).toNat)
 case atStart=>exact⟨0,Nat.zero_le _,rfl,Own.empty _ _ (Nat.le_refl _),(Below.refl _ _).alloc (Nat.le_refl _) _⟩
 case round=>
  obtain⟨k,hk,rfl,hown,hbel⟩:=hrel;by_cases hlt:k<32
  ·have hsz:=hbel.size;go_wp2_with (at_builtin;refine wpList_app _ rfl _ _ rfl w.heap.size _ _ rfl (hown.alloc _) ⟨wr.heap.size,0,none⟩ 1 1 [0] rfl rfl ?c1 ?c2 ?c3 ?_);all_goals first|(intro j hj;obtain rfl:j=0:=by omega
                                                                                                                                                                                         simp[Addr.add];done)|skip
   case c2=>simp;omega
   case c3=>first|omega|(rw[World.size_alloc];omega)
   intro v' w1 hown' hbel' _;have HO:Hid (Own w1 w.heap.size v' (List.replicate (k+1) 0)):=by rw[List.replicate_succ'];exact hown'
   have HB:=hdI <| (hbel.alloc (by omega) _).trans hbel'
   clear hown hown' hbel hbel';go_wp2;go_roundw
   case rel=>exact⟨k+1,by omega,by go_num,HO.out,HB.out⟩
   case measure=>simp[intOf];omega
  ·have hkn:k=32:=by omega
   subst hkn;rw[show((32:Nat):Int)=32 from rfl];have HO:=hdI <| hown
   have hV0:=val_nonneg (by decide) hz;have hV1:val 256 zs<2^(8*n):=by rw[←pow256r,←hn];exact val_lt (by decide) hz
   have HT:=hdI <| restAt_top _ _ hV0 hV1
   clear hown hV0 hV1;go_wp2
   go_loopw [3,5] (fun v i wr=>∃(j:Nat) (rs:List Int),j≤8*n∧i=.int .i64 ((j:Int)-1)∧rs.length=32∧Byte rs∧val 256 rs=restAt (val 256 zs) j∧Own wr w.heap.size v rs∧Below w.heap.size w wr) (fun _ i _=>(intOf i+1).toNat)
   case atStart=>
    refine⟨8*n,_,Nat.le_refl _,by go_num,?_,?_,?_,HO.out,hbel⟩
    ·simp
    ·intro z hz;rw[List.mem_replicate] at hz;omega
    ·rw[HT.out];decide
   case round=>
    clear HT HO hbel;obtain⟨j,rs,hj,rfl,hrl,hrb,hrv,hown,hbel⟩:=hrel;by_cases hj0:0<j
    ·obtain⟨j,rfl⟩:∃ i,j=i+1:=⟨j-1,by omega⟩
     have hsz:=hbel.size;have ei:((j+1:Nat):Int)-1=(j:Int):=by omega
     rw[ei];clear ei;obtain⟨b0,off,rfl,hb0,hc⟩:=(ha.below hbel).get (by omega);have c0:=hc (j/8) (by omega);have hb:=bitAt_byte zs j hz;have hx:=hz.get (j/8);generalize zs.getD (j/8) 0=x at *;obtain⟨hx0,hx1⟩:=hx;go_wp2;rw[shr_bit hx0 hx1 hb];generalize wrap64 (x/2^(j%8))=y41;generalize x/2^(j%8)=y40;have hbb:=bitAt_bd (val 256 zs) j;have HR:Hid (2*restAt (val 256 zs) (j+1)+bitAt (val 256 zs) j<256^32):=by
      have:=(restAt_bd (val 256 zs) (j+1)).2;show 2*restAt (val 256 zs) (j+1)+bitAt (val 256 zs) j<256^32
      unfold bigL at this;omega
     have HBB:=hdI <| hbb
     have HRV:=hdI <| hrv
     obtain⟨g3,c3,rfl,hg3,hg3',A3⟩:=hown.at_;rw[hrl];clear hb hbb hc c0 hrv hown;generalize hbj:bitAt (val 256 zs) j=bj at *;have HBJ:=hdI <| hbj
     clear hbj;obtain⟨w5,hw5⟩:∃ x,x=wr:=⟨_,rfl⟩
     subst hw5
     go_loopw [6,7,8] (fun c v i wq=>∃(k:Nat) (ts:List Int) (b:Int),k≤32∧i=.int .i64 k∧c=.int .i64 b∧(0≤b∧b≤1)∧ts.length=k∧Byte ts∧val 256 ts+b*256^k=2*val 256 (rs.take k)+bj∧Own wq w5.heap.size v ts∧Below w5.heap.size w5 wq) (fun _ _ i _=>32-(intOf i).toNat)
     case atStart=>exact⟨0,[],bj,Nat.zero_le _,rfl,rfl,by rcases HBB.out with h|h<;>omega,rfl,by simp[Byte],by simp[val],Own.empty _ _ (Nat.le_refl _),(Below.refl _ _).alloc (Nat.le_refl _) _⟩
     case round=>
      obtain⟨k,ts,b,hk,rfl,rfl,⟨hb0',hb1'⟩,htl,htb,hv,hot,hbt⟩:=hrel;by_cases hlt:k<32
      ·have hst:=hbt.size;have vr:=val_take 256 rs k (by omega);obtain⟨b3,o3,he3,hb3,hc3⟩:=A3.get (by omega);cases he3;have c1:wr.cell? ⟨g3,0+k,none⟩=some (.int .u8 (rs.getD k 0)):=by rw[hbt.cell (p:=⟨g3,0+k,none⟩) hb3];exact hc3 k (by omega)
       rw[Nat.zero_add] at c1;clear hc3;have hd:=hrb.get k;have hstep:=twice_step _ _ _ (rs.getD k 0) _ _ 0 hv;rw[←vr,show(256:Int)^k*256=256^(k+1) from(Int.pow_succ _ _).symm,←htl,←val_snoc,htl] at hstep;generalize rs.getD k 0=d at *;obtain⟨hd0,hd1⟩:=hd;have hq0:0≤(2*d+b)/256:=by omega
       have hq1:(2*d+b)/256≤1:=by omega
       have hr0:0≤(2*d+b)%256:=by omega
       have hr1:(2*d+b)%256<256:=by omega
       have HBy:=hdI <| Dig.snoc (B:=256) htb hr0 hr1
       have HS:=hdI <| hstep
       have HTL:=hdI <| htl
       clear hstep hv vr htb htl A3;have hcov:(2*d+b).tmod 256=(2*d+b)%256:=Int.tmod_eq_emod_of_nonneg (by omega);have hcod:(2*d+b).tdiv 256=(2*d+b)/256:=Int.tdiv_eq_ediv_of_nonneg (by omega);go_wp2_with (at_builtin;refine wpList_app _ rfl _ _ rfl w5.heap.size _ _ rfl (hot.alloc _) ⟨wr.heap.size,0,none⟩ 1 1 [(2*d+b)%256] rfl rfl ?d1 ?d2 ?d3 ?_);all_goals first|(intro j hj;obtain rfl:j=0:=by omega
                                                                                                                                                                                                                                                                                                                                                                            simp[Addr.add];done)|skip
       case d2=>rw[HTL.out];omega
       case d3=>first|omega|(rw[World.size_alloc];omega)
       intro v' w3 hown' hbel' _;have HO:=hdI <| hown'
       have HB:=hdI <| (hbt.alloc (by omega) _).trans hbel'
       clear hot hown' hbt hbel';go_wp2;go_roundw
       case rel=>exact⟨k+1,ts++[(2*d+b)%256],(2*d+b)/256,by omega,by go_num,rfl,⟨hq0,hq1⟩,by rw[List.length_append,HTL.out];rfl,HBy.out,HS.out,HO.out,HB.out⟩
       case measure=>simp[intOf];omega
      ·have hkn:k=32:=by omega
       subst hkn;rw[List.take_of_length_le (by omega),HRV.out] at hv;have t0:=val_nonneg (by decide) htb;have hb00:b=0:=by
        have:=HR.out;have:(0:Int)<256^32:=by decide
        rcases (show b=0∨b=1 by omega) with h|h
        ·exact h
        ·exfalso;subst h;omega
       subst hb00;have HV:Hid (val 256 ts=2*restAt (val 256 zs) (j+1)+bj):=by show val 256 ts=_;omega
       obtain⟨g4,c4,rfl,hg4,hg4',A4⟩:=hot.at_;rw[htl] at hot ⊢;have hst:=hbt.size;clear hv t0;go_wp2_with fail;refine(l4L_any _).mono ?_;rintro e w6 ⟨v6,rfl,O6,B6⟩;obtain⟨g6,c6,rfl,hg6,hg6',A6⟩:=O6.at_;have A46:=A4.below B6;have O46:=hot.grow2r B6;have HO46:=hdI <| O46
       clear O46 O6 hot A4;go_wp2_with fail;refine(lessS_any _ _ 32 _ _ ts lB _ htl rfl (by decide) A46 A6 htb lB_byte).mono ?_;rintro e w7 ⟨v7,ds,rfl,O7,hdb,hdl,hdv,B7⟩;rw[lB_val] at hdv ⊢;obtain⟨q1,q2⟩:=red_end (V:=val 256 zs) (j:=j) (show val 256 ts=_ by rw[HBJ.out];exact HV.out) hdv;have s6:=B6.size;have s7:=B7.size;have B57:=hbt.trans ((B6.trans (B7.mono B6.size)).mono hst);have HB7:=hdI <| hbel.trans (B57.mono hsz)
       have HOT:=hdI <| (HO46.out.grow2r B7).lower2 hsz
       have HOD:Hid (Own w7 w.heap.size v7 ds):=O7.lower2 (by omega);clear HO46 O7 B57 B6 B7 hbt hbel A46 A6;by_cases hL:bigL≤val 256 ts
       ·have hL':decide (bigL≤val 256 ts)=true:=by simpa using hL
        rw[hL'];have HQ:Hid (val 256 ds=restAt (val 256 zs) j):=q1 hL;have HDL:Hid (ds.length=32):=by rw[hdl];exact htl
        clear q1 q2 hdv hL' hL hdl;go_wp2;go_roundw
        case rel=>exact⟨j,ds,by omega,rfl,HDL.out,hdb,HQ.out,HOD.out,HB7.out⟩
        case measure=>first|(simp[intOf];done)|(simp[intOf];omega)
       ·have hL':decide (bigL≤val 256 ts)=false:=by simpa using hL
        rw[hL'];have HQ:=hdI <| q2 hL
        have HDL:=hdI <| htl
        clear q1 q2 hdv hL' hL hdl htl;go_wp2;go_roundw
        case rel=>exact⟨j,ts,by omega,rfl,HDL.out,htb,HQ.out,HOT.out,HB7.out⟩
        case measure=>first|(simp[intOf];done)|(simp[intOf];omega)
    ·obtain rfl:j=0:=by omega
     have HV:Hid (val 256 rs=val 256 zs%bigL):=by rw[←restAt_zero];exact hrv
     have HO:=hdI <| hown
     have HL:=hdI <| hrl
     clear hrv hown hrl;go_wp2
     go_ret
     exact⟨_,rs,rfl,HO.out,hrb,HL.out,HV.out,hbel⟩
set_option maxHeartbeats 400000 in
theorem sok_any (a:Option Addr) (n cap:Nat) (zs:List Int) (w:World) (hn:zs.length=n) (ha:At .u8 w a zs) (hz:Byte zs) :
  Calls Tryz.prog 90 #[.slice a n cap] w fun e w'=>e=.returned (.bool (decide (n=32∧val 256 zs<bigL)))∧Below w.heap.size w w':=by
 by_cases h:n=32
 ·subst h;go_enter Tryz.func90,Tryz.ntmps90;go_wp2_with fail;refine(l4L_any _).mono ?_;rintro e w6 ⟨v6,rfl,O6,B6⟩;obtain⟨g6,c6,rfl,hg6,hg6',A6⟩:=O6.at_;have A1:=ha.below B6;clear O6;go_wp2_with fail;refine(lessS_any _ _ 32 _ _ zs lB _ hn rfl (by decide) A1 A6 hz lB_byte).mono ?_;rintro e w7 ⟨v7,ds,rfl,O7,hdb,hdl,hdv,B7⟩;rw[lB_val] at *;have B:=B6.trans (B7.mono B6.size);have HB:=hdI <| B
  have e:(!decide (bigL≤val 256 zs))=decide (32=32∧val 256 zs<bigL):=by
   by_cases h:bigL≤val 256 zs
   ·have:¬ val 256 zs<bigL:=by omega
    simp[h,this]
   ·have:val 256 zs<bigL:=by omega
    simp[h,this]
  generalize decide (bigL≤val 256 zs)=q at *;have HE:=hdI <| e
  clear e;clear B O7 A1 A6 hdv B6 B7 ha;go_wp2
  go_ret
  refine⟨?_,HB.out⟩;show Ending.returned (.bool (!q))=_
  rw[HE.out]
 ·have e:decide (n=32∧val 256 zs<bigL)=false:=by simp[h]
  rw[e];have h':((n:Int) != 32)=true:=by simp;omega
  go_enter Tryz.func90,Tryz.ntmps90;go_wp2
  go_ret
  exact⟨rfl,Below.refl _ _⟩
end Go.Proofs.YtncomnkdlpoelaaGreatDoor
