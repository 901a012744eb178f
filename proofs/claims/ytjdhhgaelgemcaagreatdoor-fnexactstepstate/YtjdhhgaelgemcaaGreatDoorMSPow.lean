import Derived.Test.YtjdhhgaelgemcaaGreatDoorMTxt
import Derived.Test.YtjdhhgaelgemcaaGreatDoorMOwnB
import Derived.Test.YtjdhhgaelgemcaaGreatDoorMFerm
import Derived.Test.YtjdhhgaelgemcaaGreatDoorMReg
import Derived.BigRegion
import Derived.BigQuiet
import Derived.Deep.QuietTactic
import Derived.Deep.MidRow
import Derived.Deep.Cut
import Derived.Laws.CopyOwn
import Derived.Test.YtjdhhgaelgemcaaGreatDoorMRowB
import Derived.Deep.WholeRow
import Derived.Laws.Externs
namespace Go.Proofs.YtjdhhgaelgemcaaGreatDoor
open Go.ChangeShapes Go.WideShapes Go.ChangeAt Go.RowKit
set_option linter.unusedVariables false
structure PwS (w:World) (x:Int) (v:Value) (wr:World):Prop where
 fe:∃ g c,v=.slice (some ⟨g,0,none⟩) 16 c∧w.heap.size≤g∧g<wr.heap.size∧FeA wr (some ⟨g,0,none⟩) x
 below:Below w.heap.size w wr
set_option maxHeartbeats 1000000 in
theorem pow0_any (a:Option Addr) (cap:Nat) (x:Int) (w:World) (ha:FeA w a x) :
  Calls Tryz.prog 88 #[.slice a 16 cap,.int .i64 0] w (FeP w (pwF x 11 5 254 255)):=by
 have HA:Hid (FeA w a x):=ha;clear ha;go_enter Tryz.func88,Tryz.ntmps88;go_wp2_with fail;refine(small_any 1 _ (by decide) (by decide)).mono ?_;rintro e w1 ⟨g1,c1,rfl,hg1,hg1',hf1,hb1⟩;have HS:Hid (PwS w (pwF x 11 5 254 0) (.slice (some ⟨g1,0,none⟩) 16 c1) w1):=⟨⟨g1,c1,rfl,hg1,hg1',hf1⟩,hb1⟩
 clear hf1 hb1;go_wp2
 go_loopw [8,9] (fun v i wr=>∃ j:Nat,j≤255∧i=.int .i64 ((j:Int)-1)∧PwS w (pwF x 11 5 254 (255-j)) v wr) (fun _ i _=>(intOf i+1).toNat)
 case atStart=>exact⟨255,Nat.le_refl _,by go_num,HS.out⟩
 case round=>
  clear HS;obtain⟨j,hj,rfl,⟨⟨g,c,rfl,hg,hg',hf⟩,hbel⟩⟩:=hrel;by_cases hj0:0<j
  ·obtain⟨j,rfl⟩:∃ i,j=i+1:=⟨j-1,by omega⟩
   have ei:((j+1:Nat):Int)-1=(j:Int):=by omega
   rw[ei];clear ei;have hstep:pwF x 11 5 254 (255-j)=pstep x (pbit 11 5 j) (pwF x 11 5 254 (255-(j+1))):=by
    have e1:255-j=(255-(j+1))+1:=by omega
    rw[e1,pwF];have e2:254-(255-(j+1))=j:=by omega
    rw[e2]
   have HST:Hid (pwF x 11 5 254 (255-j)=pstep x (pbit 11 5 j) (pwF x 11 5 254 (255-(j+1)))):=hstep;clear hstep;generalize pwF x 11 5 254 (255-(j+1))=s at *;have HF:Hid (FeA wr (some ⟨g,0,none⟩) s):=hf;have HB:Hid (Below w.heap.size w wr):=hbel;clear hf hbel;go_wp2_with fail;refine(fmul_any _ _ c c s s _ HF.out HF.out).mono ?_;rintro e w2 ⟨g2,c2,rfl,hg2,hg2',hf2,hb2⟩;have HB2:Hid (Below w.heap.size w w2):=HB.out.trans (hb2.mono HB.out.size);have HF2:Hid (FeA w2 (some ⟨g2,0,none⟩) (s*s%fp)):=hf2;have HA2:Hid (FeA w2 a x):=(HA.out.below HB.out).below hb2;have hs:=HB.out.size;clear hf2 hb2 HF HB;by_cases hge:5≤j
   ·have hge':(5:Int)≤(j:Int):=by omega
    have hge2:decide ((5:Int)≤(j:Int))=true:=by simpa using hge'
    have HPS:Hid (pstep x (pbit 11 5 j) s=s*s%fp*x%fp):=by show _=_;unfold pbit pstep;simp[hge]
    go_wp2_with fail;refine(fmul_any _ _ c2 cap (s*s%fp) x _ HF2.out HA2.out).mono ?_;rintro e w3 ⟨g3,c3,rfl,hg3,hg3',hf3,hb3⟩;have HP:Hid (PwS w (pwF x 11 5 254 (255-j)) (.slice (some ⟨g3,0,none⟩) 16 c3) w3):=by
     rw[HST.out,HPS.out];exact⟨⟨g3,c3,rfl,by have:=HB2.out.size;omega,hg3',hf3⟩,HB2.out.trans (hb3.mono HB2.out.size)⟩
    clear hf3 hb3 HST HPS HB2 HF2 HA2;go_wp2;go_roundw
    case rel=>exact⟨j,by omega,rfl,HP.out⟩
    case measure=>first|(simp[intOf];done)|(simp[intOf];omega)
   ·have hge':¬ (5:Int)≤(j:Int):=by omega
    have hge2:decide ((5:Int)≤(j:Int))=false:=by simpa using hge'
    by_cases hbit:11/2^j%2=1
    ·have HPS:Hid (pstep x (pbit 11 5 j) s=s*s%fp*x%fp):=by show _=_;unfold pbit pstep;simp[hbit]
     have hb2:((11:Int)/2^j).tmod 2=1:=by
      rw[Int.tmod_eq_emod_of_nonneg (Int.ediv_nonneg (by decide) (Int.pow_nonneg (by decide)))];have:(((11/2^j%2:Nat)):Int)=1:=by rw[hbit];rfl
      simpa using this
     have hb3:((11:Int)/2^j)%2=1:=by
      have:(((11/2^j%2:Nat)):Int)=1:=by rw[hbit];rfl
      simpa using this
     clear hbit;go_wp2_with fail;refine(fmul_any _ _ c2 cap (s*s%fp) x _ HF2.out HA2.out).mono ?_;rintro e w3 ⟨g3,c3,rfl,hg3,hg3',hf3,hb3'⟩;have HP:Hid (PwS w (pwF x 11 5 254 (255-j)) (.slice (some ⟨g3,0,none⟩) 16 c3) w3):=by
      rw[HST.out,HPS.out];exact⟨⟨g3,c3,rfl,by have:=HB2.out.size;omega,hg3',hf3⟩,HB2.out.trans (hb3'.mono HB2.out.size)⟩
     clear hf3 hb3' HST HPS HB2 HF2 HA2;go_wp2;go_roundw
     case rel=>exact⟨j,by omega,rfl,HP.out⟩
     case measure=>first|(simp[intOf];done)|(simp[intOf];omega)
    ·have HPS:Hid (pstep x (pbit 11 5 j) s=s*s%fp):=by show _=_;unfold pbit pstep;simp[hge,hbit]
     have hbit0:11/2^j%2=0:=by omega
     have hb3:((11:Int)/2^j)%2=0:=by
      have:(((11/2^j%2:Nat)):Int)=0:=by rw[hbit0];rfl
      simpa using this
     have hb2:((11:Int)/2^j).tmod 2=0:=by
      rw[Int.tmod_eq_emod_of_nonneg (Int.ediv_nonneg (by decide) (Int.pow_nonneg (by decide)))];exact hb3
     clear hbit hbit0;have HP:Hid (PwS w (pwF x 11 5 254 (255-j)) (.slice (some ⟨g2,0,none⟩) 16 c2) w2):=by
      rw[HST.out,HPS.out];exact⟨⟨g2,c2,rfl,by omega,hg2',HF2.out⟩,HB2.out⟩
     clear HST HPS HB2 HF2 HA2;go_wp2;go_roundw
     case rel=>exact⟨j,by omega,rfl,HP.out⟩
     case measure=>first|(simp[intOf];done)|(simp[intOf];omega)
  ·obtain rfl:j=0:=by omega
   have HP:Hid (FeP w (pwF x 11 5 254 255) (.returned (.slice (some ⟨g,0,none⟩) 16 c)) wr):=⟨g,c,rfl,hg,hg',hf,hbel⟩
   clear hf hbel;go_wp2
   go_ret
   exact HP.out
def restAt (V:Int) (j:Nat):Int:=V/2^j%bigL
theorem restAt_bd (V:Int) (j:Nat):0≤restAt V j∧restAt V j<bigL:=by
 unfold restAt bigL;omega
theorem restAt_zero (V:Int):restAt V 0=V%bigL:=by simp[restAt]
def bitAt (V:Int) (j:Nat):Int:=V/2^j%2
theorem bitAt_bd (V:Int) (j:Nat):bitAt V j=0∨bitAt V j=1:=by unfold bitAt;omega
theorem restAt_step (V:Int) (j:Nat):restAt V j=if bigL≤2*restAt V (j+1)+bitAt V j then 2*restAt V (j+1)+bitAt V j-bigL else 2*restAt V (j+1)+bitAt V j:=by
 unfold restAt bitAt bigL;have e:V/2^(j+1)=V/2^j/2:=by rw[Int.pow_succ,Int.ediv_ediv_of_nonneg (Int.pow_nonneg (by decide))]
 rw[e];generalize V/2^j=q;split<;>omega
theorem restAt_top (V:Int) (j:Nat) (h0:0≤V) (h:V<2^j):restAt V j=0:=by
 unfold restAt;rw[Int.ediv_eq_zero_of_lt h0 h];rfl
theorem pow256r (n:Nat):(256:Int)^n=2^(8*n):=by rw[show(256:Int)=2^8 from rfl,←Int.pow_mul]
theorem bitAt_byte (zs:List Int) (j:Nat) (hz:Byte zs):bitAt (val 256 zs) j=zs.getD (j/8) 0/2^(j%8)%2:=by
 induction zs generalizing j with
 |nil=>simp[val,bitAt]
 |cons z zs ih=>
  obtain⟨h0,h1⟩:=Dig.head (B:=256) hz;by_cases hj:j<8
  ·have e1:j/8=0:=by omega
   have e2:j%8=j:=by omega
   rw[e1,e2];simp only[val,bitAt,List.getD_cons_zero];have:j=0∨j=1∨j=2∨j=3∨j=4∨j=5∨j=6∨j=7:=by omega
   rcases this with rfl|rfl|rfl|rfl|rfl|rfl|rfl|rfl<;>simp only[Int.pow_succ,Int.pow_zero]<;>omega
  ·obtain⟨i,rfl⟩:∃ i,j=i+8:=⟨j-8,by omega⟩
   have e1:(i+8)/8=i/8+1:=by omega
   have e2:(i+8)%8=i%8:=by omega
   rw[e1,e2,List.getD_cons_succ,←ih i (Dig.tail (B:=256) hz)];simp only[val,bitAt];have e3:(2:Int)^(i+8)=256*2^i:=by rw[Int.pow_add,Int.mul_comm];rfl
   rw[e3,←Int.ediv_ediv_of_nonneg (by decide)];have e4:(z+256*val 256 zs)/256=val 256 zs:=by omega
   rw[e4]
theorem twice_step (p s P d c b t:Int) (h:s+c*P=2*p+b):(s+(2*d+c)%256*P)+(2*d+c)/256*(P*256)=2*(p+d*P)+b:=by
 have:=val_carry 256 P (2*d) s (2*p+b) c (2*d*P) h rfl
 grind
theorem Own.grow2r {w w':World} {B:Nat} {v:Value} {zs:List Int} (h:Own w B v zs) (hb:Below w.heap.size w w'):Own w' B v zs:=by
 refine⟨⟨h.1.1,?_⟩,h.2⟩;rcases h.1.2 with h'|⟨g,c,cur,h1,h2,h3,h4⟩
 ·exact .inl h'
 ·exact .inr ⟨g,c,cur,h1,h2,by rw[hb.block g (Array.getElem?_eq_some_iff.1 h3).1];exact h3,h4⟩
theorem Own.lower2 {w:World} {B B':Nat} {v:Value} {zs:List Int} (h:Own w B' v zs) (hB:B≤B'):Own w B v zs:=by
 obtain⟨⟨h1,h2⟩,h3⟩:=h;refine⟨⟨h1,?_⟩,h3⟩;rcases h2 with h|⟨g,c,cur,h4,h5,h6⟩
 ·exact .inl h
 ·exact .inr ⟨g,c,cur,h4,by omega,h6⟩
theorem Own.at_ {w:World} {B:Nat} {v:Value} {zs:List Int} (h:Own w B v zs):∃ g c,v=.slice (some ⟨g,0,none⟩) zs.length c∧B≤g∧g<w.heap.size∧At .u8 w (some ⟨g,0,none⟩) zs:=by
 obtain⟨g,c,rfl,hb,hg,hc⟩:=h.base;exact⟨g,c,rfl,hb,hg,.inr ⟨g,0,rfl,hg,fun i hi=>by rw[Nat.zero_add,h.1.cellAt i (by omega)];simp[hi]⟩⟩
theorem shr_bit {x b:Int} {r:Nat} (h0:0≤x) (h1:x<256) (h:b=x/2^r%2):(wrap64 (x/2^r)).tmod 2=b:=by
 have hp:(0:Int)<2^r:=Int.pow_pos (by decide);have a0:0≤x/2^r:=Int.ediv_nonneg h0 (by omega);have a1:x/2^r≤x:=Int.ediv_le_self _ h0;generalize x/2^r=y at *;have:wrap64 y=y:=by unfold wrap64;omega
 rw[this,Int.tmod_eq_emod_of_nonneg a0,h]
theorem red_end {V m z:Int} {j:Nat} (hm:m=2*restAt V (j+1)+bitAt V j) (h:bigL≤m→z=m-bigL):(bigL≤m→z=restAt V j)∧(¬ bigL≤m→m=restAt V j):=by
 have:=restAt_step V j;rw[←hm] at this;refine⟨fun hh=>?_,fun hh=>?_⟩
 ·rw[this,if_pos hh,h hh]
 ·rw[this,if_neg hh]
set_option maxHeartbeats 1000000 in
theorem sred_any (a:Option Addr) (n cap:Nat) (zs:List Int) (w:World) (hn:zs.length=n) (hm:n≤64) (ha:At .u8 w a zs) (hz:Byte zs) :
  Calls Tryz.prog 74 #[.slice a n cap] w fun e w'=>∃ v rs,e=.returned v∧Own w' w.heap.size v rs∧Byte rs∧rs.length=32∧val 256 rs=val 256 zs%bigL∧Below w.heap.size w w':=by
 have hm':¬ ((64:Int)<(n:Int)):=by omega
 go_enter Tryz.func74,Tryz.ntmps74;go_wp2
 go_loopw [3,4] (fun v i wr=>∃ k:Nat,k≤32∧i=.int .i64 k∧Own wr w.heap.size v (List.replicate k 0)∧Below w.heap.size w wr) (fun _ i _=>32-(intOf i).toNat)
 case atStart=>exact⟨0,Nat.zero_le _,rfl,Own.empty _ _ (Nat.le_refl _),(Below.refl _ _).alloc (Nat.le_refl _) _⟩
 case round=>
  obtain⟨k,hk,rfl,hown,hbel⟩:=hrel;by_cases hlt:k<32
  ·have hsz:=hbel.size;go_wp2_with (at_builtin;refine wpList_app _ rfl _ _ rfl w.heap.size _ _ rfl (hown.alloc _) ⟨wr.heap.size,0,none⟩ 1 1 [0] rfl rfl ?c1 ?c2 ?c3 ?_);all_goals first|(intro j hj;obtain rfl:j=0:=by omega
                                                                                                                                                                                         simp[Addr.add];done)|skip
   case c2=>simp;omega
   case c3=>first|omega|(rw[World.size_alloc];omega)
   intro v' w1 hown' hbel' _;have HO:Hid (Own w1 w.heap.size v' (List.replicate (k+1) 0)):=by rw[List.replicate_succ'];exact hown'
   have HB:Hid (Below w.heap.size w w1):=(hbel.alloc (by omega) _).trans hbel';clear hown hown' hbel hbel';go_wp2;go_roundw
   case rel=>exact⟨k+1,by omega,by go_num,HO.out,HB.out⟩
   case measure=>simp[intOf];omega
  ·have hkn:k=32:=by omega
   subst hkn;rw[show((32:Nat):Int)=32 from rfl];have HO:Hid (Own wr w.heap.size u3 (List.replicate 32 0)):=hown;have hV0:0≤val 256 zs:=val_nonneg (by decide) hz;have hV1:val 256 zs<2^(8*n):=by rw[←pow256r,←hn];exact val_lt (by decide) hz
   have HT:Hid (restAt (val 256 zs) (8*n)=0):=restAt_top _ _ hV0 hV1;clear hown hV0 hV1;go_wp2
   go_loopw [3,5] (fun v i wr=>∃(j:Nat) (rs:List Int),j≤8*n∧i=.int .i64 ((j:Int)-1)∧rs.length=32∧Byte rs∧val 256 rs=restAt (val 256 zs) j∧Own wr w.heap.size v rs∧Below w.heap.size w wr) (fun _ i _=>(intOf i+1).toNat)
   case atStart=>
    refine⟨8*n,_,Nat.le_refl _,by go_num,?_,?_,?_,HO.out,hbel⟩
    ·simp
    ·intro z hz;rw[List.mem_replicate] at hz;omega
    ·rw[HT.out];decide
   case round=>
    clear HT HO hbel;obtain⟨j,rs,hj,rfl,hrl,hrb,hrv,hown,hbel⟩:=hrel;by_cases hj0:0<j
    ·obtain⟨j,rfl⟩:∃ i,j=i+1:=⟨j-1,by omega⟩
     have hsz:=hbel.size;have ei:((j+1:Nat):Int)-1=(j:Int):=by omega
     rw[ei];clear ei;obtain⟨b0,off,rfl,hb0,hc⟩:=(ha.below hbel).get (by omega);have c0:=hc (j/8) (by omega);have hb:=bitAt_byte zs j hz;have hx:=hz.get (j/8);generalize zs.getD (j/8) 0=x at *;obtain⟨hx0,hx1⟩:=hx;go_wp2;rw[shr_bit hx0 hx1 hb];generalize wrap64 (x/2^(j%8))=y41;generalize x/2^(j%8)=y40;have hbb:=bitAt_bd (val 256 zs) j;have HR:Hid (2*restAt (val 256 zs) (j+1)+bitAt (val 256 zs) j<256^32):=by
      have:=(restAt_bd (val 256 zs) (j+1)).2;show 2*restAt (val 256 zs) (j+1)+bitAt (val 256 zs) j<256^32
      unfold bigL at this;omega
     have HBB:Hid (bitAt (val 256 zs) j=0∨bitAt (val 256 zs) j=1):=hbb;have HRV:Hid (val 256 rs=restAt (val 256 zs) (j+1)):=hrv;obtain⟨g3,c3,rfl,hg3,hg3',A3⟩:=hown.at_;rw[hrl];clear hb hbb hc c0 hrv hown;generalize hbj:bitAt (val 256 zs) j=bj at *;have HBJ:Hid (bitAt (val 256 zs) j=bj):=hbj;clear hbj;obtain⟨w5,hw5⟩:∃ x,x=wr:=⟨_,rfl⟩
     subst hw5
     go_loopw [6,7,8] (fun c v i wq=>∃(k:Nat) (ts:List Int) (b:Int),k≤32∧i=.int .i64 k∧c=.int .i64 b∧(0≤b∧b≤1)∧ts.length=k∧Byte ts∧val 256 ts+b*256^k=2*val 256 (rs.take k)+bj∧Own wq w5.heap.size v ts∧Below w5.heap.size w5 wq) (fun _ _ i _=>32-(intOf i).toNat)
     case atStart=>exact⟨0,[],bj,Nat.zero_le _,rfl,rfl,by rcases HBB.out with h|h<;>omega,rfl,by simp[Byte],by simp[val],Own.empty _ _ (Nat.le_refl _),(Below.refl _ _).alloc (Nat.le_refl _) _⟩
     case round=>
      obtain⟨k,ts,b,hk,rfl,rfl,⟨hb0',hb1'⟩,htl,htb,hv,hot,hbt⟩:=hrel;by_cases hlt:k<32
      ·have hst:=hbt.size;have vr:=val_take 256 rs k (by omega);obtain⟨b3,o3,he3,hb3,hc3⟩:=A3.get (by omega);cases he3;have c1:wr.cell? ⟨g3,0+k,none⟩=some (.int .u8 (rs.getD k 0)):=by rw[hbt.cell (p:=⟨g3,0+k,none⟩) hb3];exact hc3 k (by omega)
       rw[Nat.zero_add] at c1;clear hc3;have hd:=hrb.get k;have hstep:=twice_step _ _ _ (rs.getD k 0) _ _ 0 hv;rw[←vr,show(256:Int)^k*256=256^(k+1) from(Int.pow_succ _ _).symm,←htl,←val_snoc,htl] at hstep;generalize rs.getD k 0=d at *;obtain⟨hd0,hd1⟩:=hd;have hq0:0≤(2*d+b)/256:=by omega
       have hq1:(2*d+b)/256≤1:=by omega
       have hr0:0≤(2*d+b)%256:=by omega
       have hr1:(2*d+b)%256<256:=by omega
       have HBy:Hid (Byte (ts++[(2*d+b)%256])):=Dig.snoc (B:=256) htb hr0 hr1;have HS:Hid (val 256 (ts++[(2*d+b)%256])+(2*d+b)/256*256^(k+1)=2*val 256 (rs.take (k+1))+bj):=hstep;have HTL:Hid (ts.length=k):=htl;clear hstep hv vr htb htl A3;have hcov:(2*d+b).tmod 256=(2*d+b)%256:=Int.tmod_eq_emod_of_nonneg (by omega);have hcod:(2*d+b).tdiv 256=(2*d+b)/256:=Int.tdiv_eq_ediv_of_nonneg (by omega);go_wp2_with (at_builtin;refine wpList_app _ rfl _ _ rfl w5.heap.size _ _ rfl (hot.alloc _) ⟨wr.heap.size,0,none⟩ 1 1 [(2*d+b)%256] rfl rfl ?d1 ?d2 ?d3 ?_);all_goals first|(intro j hj;obtain rfl:j=0:=by omega
                                                                                                                                                                                                                                                                                                                                                                                                                                                                                                                                                                                       simp[Addr.add];done)|skip
       case d2=>rw[HTL.out];omega
       case d3=>first|omega|(rw[World.size_alloc];omega)
       intro v' w3 hown' hbel' _;have HO:Hid (Own w3 w5.heap.size v' (ts++[(2*d+b)%256])):=hown';have HB:Hid (Below w5.heap.size w5 w3):=(hbt.alloc (by omega) _).trans hbel';clear hot hown' hbt hbel';go_wp2;go_roundw
       case rel=>exact⟨k+1,ts++[(2*d+b)%256],(2*d+b)/256,by omega,by go_num,rfl,⟨hq0,hq1⟩,by rw[List.length_append,HTL.out];rfl,HBy.out,HS.out,HO.out,HB.out⟩
       case measure=>simp[intOf];omega
      ·have hkn:k=32:=by omega
       subst hkn;rw[List.take_of_length_le (by omega),HRV.out] at hv;have t0:0≤val 256 ts:=val_nonneg (by decide) htb;have hb00:b=0:=by
        have:=HR.out;have:(0:Int)<256^32:=by decide
        rcases (show b=0∨b=1 by omega) with h|h
        ·exact h
        ·exfalso;subst h;omega
       subst hb00;have HV:Hid (val 256 ts=2*restAt (val 256 zs) (j+1)+bj):=by show val 256 ts=_;omega
       obtain⟨g4,c4,rfl,hg4,hg4',A4⟩:=hot.at_;rw[htl] at hot ⊢;have hst:=hbt.size;clear hv t0;go_wp2_with fail;refine(l4L_any _).mono ?_;rintro e w6 ⟨v6,rfl,O6,B6⟩;obtain⟨g6,c6,rfl,hg6,hg6',A6⟩:=O6.at_;have A46:=A4.below B6;have O46:Own w6 w5.heap.size (.slice (some ⟨g4,0,none⟩) 32 c4) ts:=hot.grow2r B6;have HO46:Hid (Own w6 w5.heap.size (.slice (some ⟨g4,0,none⟩) 32 c4) ts):=O46;clear O46 O6 hot A4;go_wp2_with fail;refine(lessS_any _ _ 32 _ _ ts lB _ htl rfl (by decide) A46 A6 htb lB_byte).mono ?_;rintro e w7 ⟨v7,ds,rfl,O7,hdb,hdl,hdv,B7⟩;rw[lB_val] at hdv ⊢;obtain⟨q1,q2⟩:=red_end (V:=val 256 zs) (j:=j) (show val 256 ts=_ by rw[HBJ.out];exact HV.out) hdv;have s6:=B6.size;have s7:=B7.size;have B57:Below w5.heap.size w5 w7:=hbt.trans ((B6.trans (B7.mono B6.size)).mono hst);have HB7:Hid (Below w.heap.size w w7):=hbel.trans (B57.mono hsz);have HOT:Hid (Own w7 w.heap.size (.slice (some ⟨g4,0,none⟩) 32 c4) ts):=(HO46.out.grow2r B7).lower2 hsz;have HOD:Hid (Own w7 w.heap.size v7 ds):=O7.lower2 (by omega);clear HO46 O7 B57 B6 B7 hbt hbel A46 A6;by_cases hL:bigL≤val 256 ts
       ·have hL':decide (bigL≤val 256 ts)=true:=by simpa using hL
        rw[hL'];have HQ:Hid (val 256 ds=restAt (val 256 zs) j):=q1 hL;have HDL:Hid (ds.length=32):=by rw[hdl];exact htl
        clear q1 q2 hdv hL' hL hdl;go_wp2;go_roundw
        case rel=>exact⟨j,ds,by omega,rfl,HDL.out,hdb,HQ.out,HOD.out,HB7.out⟩
        case measure=>first|(simp[intOf];done)|(simp[intOf];omega)
       ·have hL':decide (bigL≤val 256 ts)=false:=by simpa using hL
        rw[hL'];have HQ:Hid (val 256 ts=restAt (val 256 zs) j):=q2 hL;have HDL:Hid (ts.length=32):=htl;clear q1 q2 hdv hL' hL hdl htl;go_wp2;go_roundw
        case rel=>exact⟨j,ts,by omega,rfl,HDL.out,htb,HQ.out,HOT.out,HB7.out⟩
        case measure=>first|(simp[intOf];done)|(simp[intOf];omega)
    ·obtain rfl:j=0:=by omega
     have HV:Hid (val 256 rs=val 256 zs%bigL):=by rw[←restAt_zero];exact hrv
     have HO:Hid (Own wr w.heap.size u3 rs):=hown;have HL:Hid (rs.length=32):=hrl;clear hrv hown hrl;go_wp2
     go_ret
     exact⟨_,rs,rfl,HO.out,hrb,HL.out,HV.out,hbel⟩
set_option maxHeartbeats 400000 in
theorem sok_any (a:Option Addr) (n cap:Nat) (zs:List Int) (w:World) (hn:zs.length=n) (ha:At .u8 w a zs) (hz:Byte zs) :
  Calls Tryz.prog 70 #[.slice a n cap] w fun e w'=>e=.returned (.bool (decide (n=32∧val 256 zs<bigL)))∧Below w.heap.size w w':=by
 by_cases h:n=32
 ·subst h;go_enter Tryz.func70,Tryz.ntmps70;go_wp2_with fail;refine(l4L_any _).mono ?_;rintro e w6 ⟨v6,rfl,O6,B6⟩;obtain⟨g6,c6,rfl,hg6,hg6',A6⟩:=O6.at_;have A1:=ha.below B6;clear O6;go_wp2_with fail;refine(lessS_any _ _ 32 _ _ zs lB _ hn rfl (by decide) A1 A6 hz lB_byte).mono ?_;rintro e w7 ⟨v7,ds,rfl,O7,hdb,hdl,hdv,B7⟩;rw[lB_val] at *;have B:Below w.heap.size w w7:=B6.trans (B7.mono B6.size);have HB:Hid (Below w.heap.size w w7):=B;have e:(!decide (bigL≤val 256 zs))=decide (32=32∧val 256 zs<bigL):=by
   by_cases h:bigL≤val 256 zs
   ·have:¬ val 256 zs<bigL:=by omega
    simp[h,this]
   ·have:val 256 zs<bigL:=by omega
    simp[h,this]
  generalize decide (bigL≤val 256 zs)=q at *;have HE:Hid ((!q)=decide (32=32∧val 256 zs<bigL)):=e;clear e;clear B O7 A1 A6 hdv B6 B7 ha;go_wp2
  go_ret
  refine⟨?_,HB.out⟩;show Ending.returned (.bool (!q))=_
  rw[HE.out]
 ·have e:decide (n=32∧val 256 zs<bigL)=false:=by simp[h]
  rw[e];have h':((n:Int) != 32)=true:=by simp;omega
  go_enter Tryz.func70,Tryz.ntmps70;go_wp2
  go_ret
  exact⟨rfl,Below.refl _ _⟩
def chf (e f q:Int):Int:=bits .xor .u64 (bits .and .u64 e f) (bits .and .u64 (bits .xor .u64 IntKind.u64.max e) q)
def maj (a b c:Int):Int:=bits .xor .u64 (bits .xor .u64 (bits .and .u64 a b) (bits .and .u64 a c)) (bits .and .u64 b c)
def rt1 (a b c d e f q z x:Int):Int:=IntKind.u64.wrap (IntKind.u64.wrap (IntKind.u64.wrap (z+bg1 e)+chf e f q)+x)
def rt2 (a b c:Int):Int:=IntKind.u64.wrap (bg0 a+maj a b c)
theorem Tryz.sizeU64:(Tryz.prog.info? 132).map (·.size)=some 1:=by kernel_rfl
theorem wp_copy7 {w:World} {o:Oper} {ac:Act} {K:Act→World→Prop} {Q:Exit→Act→World→Prop} (dd ss:Operand)
  (ho:o.op=.call { callee:=.builtin .copy,args:=#[dd,ss],argTypes:=#[131,131] }) (g:Nat) (ty:TypeId) (a b c d e f q z:Int)
  (hd:ac.eval dd=.slice (some ⟨g,1,none⟩) 7 7) (hs:ac.eval ss=.slice (some ⟨g,0,none⟩) 7 8) (hg:w.heap[g]?=some (.cells #[.int .u64 a,.int .u64 b,.int .u64 c,.int .u64 d,.int .u64 e,.int .u64 f,.int .u64 q,.int .u64 z] ty (0,0)))
  (h:∀ w',w'.heap[g]?=some (.cells #[.int .u64 a,.int .u64 a,.int .u64 b,.int .u64 c,.int .u64 d,.int .u64 e,.int .u64 f,.int .u64 q] ty (0,0))→Wr g w w'→K (ac.put o.dst (goInt 7)) w'):o.wp Tryz.prog ac w K Q:=by
 have hrun:=run_copy_row (P:=Tryz.prog) w 131 131 o.type 132 g 1 7 7 ⟨g,0,none⟩ 7 8 #[.int .u64 a,.int .u64 b,.int .u64 c,.int .u64 d,.int .u64 e,.int .u64 f,.int .u64 q,.int .u64 z] ty [.int .u64 a,.int .u64 b,.int .u64 c,.int .u64 d,.int .u64 e,.int .u64 f,.int .u64 q] Tryz.underlying131 Tryz.sizeU64 hg rfl (fun j v hv=>by
  have hj:j<7:=by have:=(List.getElem?_eq_some_iff.1 hv).1;simpa using this
  rw[Addr.add_lit,cell_of_row _ _ _ _ _ _ hg,Nat.zero_add];have:j=0∨j=1∨j=2∨j=3∨j=4∨j=5∨j=6:=by omega
  rcases this with rfl|rfl|rfl|rfl|rfl|rfl|rfl<;>simpa using hv) (by simp) (by simp[Value.oneCell'])
 unfold Oper.wp;simp[execOp,ho,resolve,invoke,builtin,hd,hs,hrun,Result.andThen];exact h _ (by rw[setRow_heap _ _ _ _ _ _ hg]) (Wr.setRow _ _ _)
set_option maxRecDepth 100000 in
set_option maxHeartbeats 4000000 in
theorem round_any (g:Nat) (ty:TypeId) (a b c d e f q z x:Int) (w:World) (hr:w.heap[g]?=some (.cells #[.int .u64 a,.int .u64 b,.int .u64 c,.int .u64 d,.int .u64 e,.int .u64 f,.int .u64 q,.int .u64 z] ty (0,0)))
  (ha:U64 a) (hb:U64 b) (hc:U64 c) (hd:U64 d) (he:U64 e) (hf:U64 f) (hq:U64 q) (hz:U64 z) (hx:U64 x) :
  Calls Tryz.prog 158 #[.pointer (some ⟨g,0,none⟩),.int .u64 x] w fun en w'=>en=.returned (.tuple #[])∧w'.heap[g]?=some (.cells #[.int .u64 (IntKind.u64.wrap (rt1 a b c d e f q z x+rt2 a b c)),.int .u64 a,.int .u64 b,.int .u64 c,.int .u64 (IntKind.u64.wrap (d+rt1 a b c d e f q z x)),.int .u64 e,.int .u64 f,.int .u64 q] ty (0,0))∧Wr g w w':=by
 have HE:=hid_ofS he;have HA:=hid_ofS ha;have HR:=hid_ofS hr;have c0:w.cell? ⟨g,0,none⟩=some (.int .u64 a):=cell_of_row _ _ _ _ _ _ hr;have c1:w.cell? ⟨g,1,none⟩=some (.int .u64 b):=cell_of_row _ _ _ _ _ _ hr;have c2:w.cell? ⟨g,2,none⟩=some (.int .u64 c):=cell_of_row _ _ _ _ _ _ hr;have c3:w.cell? ⟨g,3,none⟩=some (.int .u64 d):=cell_of_row _ _ _ _ _ _ hr;have c4:w.cell? ⟨g,4,none⟩=some (.int .u64 e):=cell_of_row _ _ _ _ _ _ hr;have c5:w.cell? ⟨g,5,none⟩=some (.int .u64 f):=cell_of_row _ _ _ _ _ _ hr;have c6:w.cell? ⟨g,6,none⟩=some (.int .u64 q):=cell_of_row _ _ _ _ _ _ hr;have c7:w.cell? ⟨g,7,none⟩=some (.int .u64 z):=cell_of_row _ _ _ _ _ _ hr;obtain⟨a0,a1⟩:=ha;obtain⟨b0,b1⟩:=hb;obtain⟨c0,c1⟩:=hc;obtain⟨d0,d1⟩:=hd;obtain⟨e0,e1⟩:=he;obtain⟨f0,f1⟩:=hf;obtain⟨q0,q1⟩:=hq;obtain⟨z0,z1⟩:=hz;obtain⟨x0,x1⟩:=hx;clear hr;go_enter Tryz.func158,Tryz.ntmps158;go_wp2
 go_quiet (fail)
 go_wp2
 go_quiet (fail)
 go_wp2
 go_quiet (first|(refine(b1_any e _ HE.out).mono ?_;rintro _ _ ⟨h1,h2⟩;exact⟨h1,_,h2⟩))
 go_wp2_with fail;refine(b0_any a _ HA.out).mono ?_;rintro _ w9 ⟨rfl,hw9⟩;subst w9;obtain⟨t1,ht1⟩:∃ t1,rt1 a b c d e f q z x=t1:=⟨_,rfl⟩
 have u1:U64 t1:=by rw[←ht1];exact u64_wrap _
 have ht1':=ht1;unfold rt1 chf at ht1';rw[ht1'];obtain⟨u10,u11⟩:=u1;have u2:=bg0_u64 a;obtain⟨s0,hs0⟩:∃ s0,bg0 a=s0:=⟨_,rfl⟩
 rw[hs0] at u2 ⊢;obtain⟨u20,u21⟩:=u2;obtain⟨t2,ht2⟩:∃ t2,rt2 a b c=t2:=⟨_,rfl⟩
 have u3:U64 t2:=by rw[←ht2];exact u64_wrap _
 have ht2':=ht2;unfold rt2 maj at ht2';rw[hs0] at ht2';obtain⟨u30,u31⟩:=u3;have HT1:=hid_ofS ht1;have HT2:=hid_ofS ht2;clear ht1 ht1' hs0 ht2
 go_upto_region 4 with fail
 try rw[ht2']
 clear ht2';have HWN:∀ k,Hid (Wr g w (w.drewN k)):=fun k=>(Wr.refl g w).drewN k
 refine wp_region_any (by kernel_rfl) ?_;refine wpAny_slotsU (fun _ _ _=>True) (frame:=(fun (a b c d e f g h i j k l m n o p q r s u v w x y z A B C D E F G H I J K L M N O P Q R S T U V W X Y Z a0 a1 a2 a3 a4 a5 a6 a7 a8 a9 b0 b1 b2 b3 b4 b5 b6 b7 b8 b9 c0 c1 c2 c3 c4 c5 c6 c7 c8 c9 d0:Value)=>fun (t:Nat→Value)=>({ tmps:=List.toArray [a,b,c,d,e,f,g,h,i,j,k,l,m,n,o,p,q,r,s,u,v,w,x,y,z,A,B,C,D,E,F,G,H,I,J,K,L,M,N,O,P,Q,R,S,T,U,V,W,X,Y,Z,a0,a1,a2,a3,a4,a5,a6,a7,a8,a9,b0,b1,b2,b3,b4,b5,b6,t 0,t 1,t 2,t 3,t 4,t 5,t 6,b7,b8,b9,c0,c1,c2,c3,c4,c5,c6,c7,c8,c9,d0],defers:=[] }:Act)) _ _ _ _ _ _ _ _ _ _ _ _ _ _ _ _ _ _ _ _ _ _ _ _ _ _ _ _ _ _ _ _ _ _ _ _ _ _ _ _ _ _ _ _ _ _ _ _ _ _ _ _ _ _ _ _ _ _ _ _ _ _ _ _ _ _ _ _ _ _ _ _ _ _ _ _ _ _ _ _ _ _)
  (Ext:=fun L u w'=>if L 6=true then w'.heap[g]?=some (.cells #[.int .u64 a,.int .u64 a,.int .u64 b,.int .u64 c,.int .u64 d,.int .u64 e,.int .u64 f,.int .u64 q] ty (0,0))∧Wr g w w' else w'.heap[g]?=some (.cells #[.int .u64 a,.int .u64 b,.int .u64 c,.int .u64 d,.int .u64 e,.int .u64 f,.int .u64 q,.int .u64 z] ty (0,0))∧Wr g w w') (Good:=fun i L w' v=>if i=0 then v=.pointer (some ⟨g,0,none⟩) else if i=1 then v=.pointer (some ⟨g,0,none⟩) else if i=2 then v=.slice (some ⟨g,1,none⟩) 7 7 else if i=3 then v=.pointer (some ⟨g,0,none⟩) else if i=4 then v=.pointer (some ⟨g,0,none⟩) else if i=5 then v=.slice (some ⟨g,0,none⟩) 7 8 else if i=6 then L 6=true else True) ?hstab (by kernel_rfl) ?hop ?hdone _ _ ((fun (x0 x1 x2 x3 x4 x5 x6:Value)=>fun (i:Nat)=>if i=0 then x0 else if i=1 then x1 else if i=2 then x2 else if i=3 then x3 else if i=4 then x4 else if i=5 then x5 else if i=6 then x6 else undef) _ _ _ _ _ _ _) _ (by simp) ?ext ?start (by simp)
 case start=>intro i hi h;exact absurd h (by rw[Array.getD_eq_getD_getElem?,Array.getElem?_replicate];split<;>simp)
 case ext=>
  rw[if_neg (by show ¬ (Array.getD _ _ _=true);rw[Array.getD_eq_getD_getElem?,Array.getElem?_replicate];split<;>simp)];exact⟨HR.out,((HWN _).out).drew⟩
 case hstab=>
  intro j L w9 w' i v hM hij hLi h;by_cases hl:j=6
  ·subst hl;simp at h ⊢;unfold updK;simp[h]
  ·simp only[if_neg hl] at h ⊢;exact h
 case hop=>
  intro i o L t w' ho hLi hx hdep K hK;have hi:i<7:=(Array.getElem?_eq_some_iff.1 ho).1;obtain rfl|rfl|rfl|rfl|rfl|rfl|rfl:i=0∨i=1∨i=2∨i=3∨i=4∨i=5∨i=6:=by omega
  all_goals(simp at ho;subst ho)
  ·clear hdep;have hK':=hK w' (.pointer (some ⟨g,0,none⟩)) (by simp) (by simpa[updK] using hx) trivial;clear hK;rw[if_pos (by rfl)];go_simp;simpa[upd] using hK'
  ·have d0:t 0=.pointer (some ⟨g,0,none⟩):=by simpa using(hdep ⟨0,.data⟩ (by simp) rfl).2
   clear hdep;have hK':=hK w' (.pointer (some ⟨g,0,none⟩)) (by simp) (by simpa[updK] using hx) trivial;clear hK;rw[if_pos (by rfl)];go_simp;simpa[upd,d0] using hK'
  ·have d1:t 1=.pointer (some ⟨g,0,none⟩):=by simpa using(hdep ⟨1,.data⟩ (by simp) rfl).2
   clear hdep;have hK':=hK w' (.slice (some ⟨g,1,none⟩) 7 7) (by simp) (by simpa[updK] using hx) trivial;clear hK;rw[if_pos (by rfl)];go_simp;simpa[upd,d1] using hK'
  ·clear hdep;have hK':=hK w' (.pointer (some ⟨g,0,none⟩)) (by simp) (by simpa[updK] using hx) trivial;clear hK;rw[if_pos (by rfl)];go_simp;simpa[upd] using hK'
  ·have d3:t 3=.pointer (some ⟨g,0,none⟩):=by simpa using(hdep ⟨3,.data⟩ (by simp) rfl).2
   clear hdep;have hK':=hK w' (.pointer (some ⟨g,0,none⟩)) (by simp) (by simpa[updK] using hx) trivial;clear hK;rw[if_pos (by rfl)];go_simp;simpa[upd,d3] using hK'
  ·have d4:t 4=.pointer (some ⟨g,0,none⟩):=by simpa using(hdep ⟨4,.data⟩ (by simp) rfl).2
   clear hdep;have hK':=hK w' (.slice (some ⟨g,0,none⟩) 7 8) (by simp) (by simpa[updK] using hx) trivial;clear hK;rw[if_pos (by rfl)];go_simp;simpa[upd,d4] using hK'
  ·have d2:t 2=.slice (some ⟨g,1,none⟩) 7 7:=by simpa using(hdep ⟨2,.data⟩ (by simp) rfl).2
   have d5:t 5=.slice (some ⟨g,0,none⟩) 7 8:=by simpa using(hdep ⟨5,.data⟩ (by simp) rfl).2
   clear hdep;rw[hLi,if_neg (by decide)] at hx;rw[if_pos (by rfl)];refine wp_copy7 (.tmp 70) (.tmp 73) rfl g ty a b c d e f q z d2 d5 hx.1 ?_;intro w2 h2 hw2;exact hK w2 _ (by simp[updK]) (by rw[if_pos (by simp[updK])];exact⟨h2,hx.2.trans hw2⟩) trivial
 case hdone=>
  intro L t w4 hx hg;have hlast:L 6=true:=by simpa using hg 6 (by decide)
  rw[if_pos hlast] at hx;clear hg hlast;have c4':w4.cell? ⟨g,4,none⟩=some (.int .u64 d):=cell_of_row _ _ _ _ _ _ hx.1;have f4':w4.frozen? ⟨g,4,none⟩=false:=frozen_of_row _ _ _ _ _ hx.1;have c0':w4.cell? ⟨g,0,none⟩=some (.int .u64 a):=cell_of_row _ _ _ _ _ _ hx.1;have f0':w4.frozen? ⟨g,0,none⟩=false:=frozen_of_row _ _ _ _ _ hx.1;have HX:=hid_ofS hx;clear hx;go_wp2
  go_region
  go_wp2
  go_end0
  obtain⟨hx1,hx2⟩:=HX.out;rw[HT1.out,HT2.out];refine⟨rfl,?_,((hx2.setCell 4 _).setCell 0 _).drew⟩;have h5:=heap_setCell_same w4 g 4 _ _ (.int .u64 (IntKind.u64.wrap (d+t1))) hx1;have h6:=heap_setCell_same _ g 0 _ _ (.int .u64 (IntKind.u64.wrap (t1+t2))) h5;exact h6
/-! Rows read whole and stored whole. -/
theorem wpList_loadW {w:World} {ops:Array Oper} {rest:List Oper} {o:Oper} {a:Act} {Q:Exit→Act→World→Prop} {T e t':TypeId} {n:Nat} (hgd:o.guard=none) (x:Operand) (ho:o.op=.load T x)
  (hu:Tryz.prog.underlying T=some (.array n e)) (hz:(Tryz.prog.info? T).map (·.size)=some n) (g:Nat) (es:List Int) (hx:a.eval x=.pointer (some ⟨g,0,none⟩)) (hl:es.length=n) (hr:RowW w g t' es)
  (hK:wpList Tryz.prog ops Q rest (a.put o.dst (.agg (es.map (Value.int .u64)).toArray)) w):wpList Tryz.prog ops Q (o::rest) a w:=
 wpList_load_row hgd T x ho g hx t' _ (0,0) _ hr hu rfl (by rw[hz];simp[hl]) hK
theorem wpList_storeW {w:World} {ops:Array Oper} {rest:List Oper} {o:Oper} {a:Act} {Q:Exit→Act→World→Prop} {T t':TypeId} {n:Nat} (hgd:o.guard=none) (x y:Operand) (ho:o.op=.store T x y)
  (hz:(Tryz.prog.info? T).map (·.size)=some n) (g:Nat) (es zs:List Int) (hx:a.eval x=.pointer (some ⟨g,0,none⟩)) (hy:a.eval y=.agg (es.map (Value.int .u64)).toArray) (hl:es.length=n) (hl':zs.length=n) (hr:RowW w g t' zs)
  (hK:∀ w',RowW w' g t' es→Wr g w w'→wpList Tryz.prog ops Q rest (a.put o.dst undef) w'):wpList Tryz.prog ops Q (o::rest) a w:=
 wpList_store_row hgd T x y ho g ((es.map (Value.int .u64)).toArray) hx hy t' _ hr (by rw[hz];simp[hl]) (by simp[hl,hl']) (all_oneCell_toArray (ints_oneCell _ _)) (hK _ (hr.setRow es) (Wr.setRow _ _ _))
theorem wpList_loadB {w:World} {ops:Array Oper} {rest:List Oper} {o:Oper} {a:Act} {Q:Exit→Act→World→Prop} {T e t':TypeId} {n:Nat} (hgd:o.guard=none) (x:Operand) (ho:o.op=.load T x)
  (hu:Tryz.prog.underlying T=some (.array n e)) (hz:(Tryz.prog.info? T).map (·.size)=some n) (g:Nat) (es:List Int) (hx:a.eval x=.pointer (some ⟨g,0,none⟩)) (hl:es.length=n) (hr:Row w g t' es)
  (hK:wpList Tryz.prog ops Q rest (a.put o.dst (.agg (es.map (Value.int .u8)).toArray)) w):wpList Tryz.prog ops Q (o::rest) a w:=
 wpList_load_row hgd T x ho g hx t' _ (0,0) _ hr hu rfl (by rw[hz];simp[hl]) hK
theorem wpList_storeB {w:World} {ops:Array Oper} {rest:List Oper} {o:Oper} {a:Act} {Q:Exit→Act→World→Prop} {T t':TypeId} {n:Nat} (hgd:o.guard=none) (x y:Operand) (ho:o.op=.store T x y)
  (hz:(Tryz.prog.info? T).map (·.size)=some n) (g:Nat) (es zs:List Int) (hx:a.eval x=.pointer (some ⟨g,0,none⟩)) (hy:a.eval y=.agg (es.map (Value.int .u8)).toArray) (hl:es.length=n) (hl':zs.length=n) (hr:Row w g t' zs)
  (hK:∀ w',Row w' g t' es→Wr g w w'→wpList Tryz.prog ops Q rest (a.put o.dst undef) w'):wpList Tryz.prog ops Q (o::rest) a w:=
 wpList_store_row hgd T x y ho g ((es.map (Value.int .u8)).toArray) hx hy t' _ hr (by rw[hz];simp[hl]) (by simp[hl,hl']) (all_oneCell_toArray (ints_oneCell _ _)) (hK _ (by unfold Row;rw[setRow_heap _ _ _ _ _ _ hr]) (Wr.setRow _ _ _))
theorem RowW.drew {w:World} {g:Nat} {e:TypeId} {zs:List Int} (h:RowW w g e zs):RowW w.drew g e zs:=h
theorem Row.below {w w':World} {g:Nat} {e:TypeId} {zs:List Int} {B:Nat} (h:Row w g e zs) (hb:Below B w w') (hg:g<B):Row w' g e zs:=by
 unfold Row;rw[hb.block g hg];exact h
theorem Tryz.sizeSch:(Tryz.prog.info? 211).map (·.size)=some 80:=by kernel_rfl
theorem Tryz.sizeWds:(Tryz.prog.info? 173).map (·.size)=some 8:=by kernel_rfl
theorem Tryz.sizeBlk:(Tryz.prog.info? 176).map (·.size)=some 128:=by kernel_rfl
def zSch:Array Value:=((List.replicate 80 (0:Int)).map (Value.int .u64)).toArray
theorem zcSch:zSch=((List.replicate 80 (0:Int)).map (Value.int .u64)).toArray:=rfl
theorem zvSch:∀ w,(zeroValue 211).run Tryz.prog w=.ok (.agg zSch) w:=(zero_of_info (n:=80) (by kernel_rfl)).1
theorem zsSch:zSch.size=80:=by unfold zSch;simp
theorem znSch:¬ zSch=#[]:=by intro h;have:=zsSch;rw[h] at this;simp at this
def zBlk:Array Value:=((List.replicate 128 (0:Int)).map (Value.int .u8)).toArray
theorem zcBlk:zBlk=((List.replicate 128 (0:Int)).map (Value.int .u8)).toArray:=rfl
theorem zvBlk:∀ w,(zeroValue 176).run Tryz.prog w=.ok (.agg zBlk) w:=(zero_of_info (n:=128) (by kernel_rfl)).1
theorem zsBlk:zBlk.size=128:=by unfold zBlk;simp
theorem znBlk:¬ zBlk=#[]:=by intro h;have:=zsBlk;rw[h] at this;simp at this
/-! The schedule. -/
def wtN (bs l:List Int) (t:Nat):Int:=
 if t<16 then beV ((bs.drop (8*t)).take 8)
 else IntKind.u64.wrap (IntKind.u64.wrap (IntKind.u64.wrap (sg1 (l.getD (t-2) 0)+l.getD (t-7) 0)+sg0 (l.getD (t-15) 0))+l.getD (t-16) 0)
def schN (bs:List Int):Nat→List Int
 |0=>[]
 |n+1=>schN bs n++[wtN bs (schN bs n) n]
def wd (bs:List Int) (t:Nat):Int:=wtN bs (schN bs t) t
theorem schN_len (bs:List Int) (n:Nat):(schN bs n).length=n:=by
 induction n with
 |zero=>rfl
 |succ n ih=>simp[schN,ih]
theorem schN_get (bs:List Int) (n t:Nat) (h:t<n):(schN bs n).getD t 0=wd bs t:=by
 induction n with
 |zero=>omega
 |succ n ih=>
  have hl:=schN_len bs n;unfold schN;rcases Nat.lt_or_ge t n with h'|h'
  ·rw[List.getD_eq_getElem?_getD,List.getElem?_append_left (by omega),←List.getD_eq_getElem?_getD];exact ih h'
  ·obtain rfl:t=n:=by omega
   rw[List.getD_eq_getElem?_getD,List.getElem?_append_right (by omega),hl];simp[wd]
theorem wd_lo (bs:List Int) (t:Nat) (h:t<16):wd bs t=beV ((bs.drop (8*t)).take 8):=by unfold wd wtN;rw[if_pos h]
theorem wd_hi (bs:List Int) (j:Nat):wd bs (j+16)=IntKind.u64.wrap (IntKind.u64.wrap (IntKind.u64.wrap (sg1 (wd bs (j+14))+wd bs (j+9))+sg0 (wd bs (j+1)))+wd bs j):=by
 have e:wd bs (j+16)=wtN bs (schN bs (j+16)) (j+16):=rfl;rw[e,wtN,if_neg (by omega),schN_get _ _ _ (by omega),schN_get _ _ _ (by omega),schN_get _ _ _ (by omega),schN_get _ _ _ (by omega)];rfl
theorem wd_hi' (bs:List Int) (k:Nat) (h:16≤k):wd bs k=IntKind.u64.wrap (IntKind.u64.wrap (IntKind.u64.wrap (sg1 (wd bs (k-2))+wd bs (k-7))+sg0 (wd bs (k-15)))+wd bs (k-16)):=by
 obtain⟨j,rfl⟩:∃ j,k=j+16:=⟨k-16,by omega⟩
 exact wd_hi bs j
theorem wd_u64 {bs:List Int} (hz:Byte bs) (hl:bs.length=128) (t:Nat):U64 (wd bs t):=by
 rcases Nat.lt_or_ge t 16 with h|h
 ·rw[wd_lo bs t h];have hz':Byte ((bs.drop (8*t)).take 8):=fun z h=>hz z (List.mem_of_mem_drop (List.mem_of_mem_take h))
  have hl':((bs.drop (8*t)).take 8).length=8:=by simp;omega
  have hb:=beV_bd hz' 8 (by omega);rw[List.take_of_length_le (by omega)] at hb;exact⟨hb.1,by have:=hb.2;simpa using this⟩
 ·obtain⟨j,rfl⟩:∃ j,t=j+16:=⟨t-16,by omega⟩
  rw[wd_hi];exact u64_wrap _
def schA (bs:List Int) (m:Nat):List Int:=(List.range 80).map fun j=>if j<m then wd bs j else 0
theorem schA_len (bs:List Int) (m:Nat):(schA bs m).length=80:=by simp[schA]
theorem schA_get (bs:List Int) (m j:Nat) (h:j<80):(schA bs m).getD j 0=if j<m then wd bs j else 0:=by unfold schA;simp[List.getD,h]
theorem schA_zero (bs:List Int):schA bs 0=List.replicate 80 0:=by
 unfold schA;simp only[Nat.not_lt_zero,if_false];rw[List.map_const'];simp
theorem schA_set (bs:List Int) (m:Nat) (h:m<80):(schA bs m).set m (wd bs m)=schA bs (m+1):=by
 apply List.ext_getElem?;intro i;rw[List.getElem?_set];unfold schA;by_cases h1:m=i
 ·subst h1;simp[h]
 ·rw[if_neg h1];by_cases h2:i<80
  ·have e:(i<m+1)=(i<m):=by apply propext;omega
   simp[h2,e]
  ·simp[h2]
structure SC (w:World) (bs:List Int) (m:Nat) (y:World):Prop where
 res:RowW y w.heap.size 211 (List.replicate 80 0)
 row:RowW y (w.heap.size+1) 211 (schA bs m)
 below:Below w.heap.size w y
theorem SC.drew {w:World} {bs:List Int} {m:Nat} {y:World} (h:SC w bs m y):SC w bs m y.drew:=⟨h.res.drew,h.row.drew,h.below.drew⟩
theorem SC.cellAt {w:World} {bs:List Int} {m:Nat} {y:World} (h:SC w bs m y) (j:Nat) (hj:j<m) (h8:j<80):y.cell? ⟨w.heap.size+1,j,none⟩=some (.int .u64 (wd bs j)):=by
 rw[h.row.cell j (by rw[schA_len];exact h8),schA_get _ _ _ h8,if_pos hj]
theorem SC.cell0 {w:World} {bs:List Int} {m:Nat} {y:World} (h:SC w bs m y) (j:Nat) (hj:m≤j) (h8:j<80):y.cell? ⟨w.heap.size+1,j,none⟩=some (.int .u64 0):=by
 rw[h.row.cell j (by rw[schA_len];exact h8),schA_get _ _ _ h8,if_neg (by omega)]
theorem SC.set {w:World} {bs:List Int} {m:Nat} {y:World} (h:SC w bs m y) (hm:m<80):SC w bs (m+1) (y.setCell ⟨w.heap.size+1,m,none⟩ (.int .u64 (wd bs m))):=
 ⟨((Wr.refl _ _).setCell m _).rowW h.res (by omega),by rw[←schA_set bs m hm];exact h.row.set m _,h.below.setCell (by simp) _⟩
theorem ite_sc {w:World} {bs:List Int} {m:Nat} {y:World} {b:Bool} (h:if b=true then SC w bs (m+1) y else SC w bs m y) (j:Nat) (hj:j<m) (h8:j<80):y.cell? ⟨w.heap.size+1,j,none⟩=some (.int .u64 (wd bs j)):=by
 cases b
 ·exact SC.cellAt (by simpa using h) j hj h8
 ·exact SC.cellAt (m:=m+1) (by simpa using h) j (by omega) h8
set_option maxHeartbeats 400000 in
theorem setL_any (g:Nat) (n:Int) (bs:List Int) (w:World) (hr:Row w g 176 bs) (hl:bs.length=128) (hn:U64 n) :
  Calls Tryz.prog 159 #[.pointer (some ⟨g,0,none⟩),.int .u64 n] w fun e w'=>e=.returned (.tuple #[])∧Row w' g 176 (ov8 (ov8 bs 112 (n/2^61) 8) 120 (IntKind.u64.wrap (n*8)) 8)∧Wr g w w':=by
 obtain⟨n0,n1⟩:=hn;have A:=hid_ofS (setW_any g 112 (n/2305843009213693952) bs w hr hl (by omega) ⟨by omega,by omega⟩);have B:=hid_ofS (fun w1 (h:Row w1 g 176 (ov8 bs 112 (n/2305843009213693952) 8))=>setW_any g 120 (IntKind.u64.wrap (n*8)) _ w1 h (by rw[ov8_len];exact hl) (by omega) (u64_wrap _));have HD:=hid_ofS (show n/2^61=n/2305843009213693952 from rfl);clear hr;go_enter Tryz.func159,Tryz.ntmps159;go_wp2_with fail;refine A.out.mono ?_;rintro e w1 ⟨rfl,r1,b1⟩;have B':=B.out w1 r1;clear A B r1;have HB1:=hid_ofS b1;clear b1;have HB:=hid_ofS B';clear B';go_wp2_with fail;refine HB.out.mono ?_;rintro e w2 ⟨rfl,r2,b2⟩;have H2:=hid_ofS r2;have HB2:=hid_ofS b2;clear r2 b2 HB;go_wp2
 go_end0
 rw[HD.out];exact⟨rfl,H2.out,HB1.out.trans HB2.out⟩
set_option maxRecDepth 100000 in
set_option maxHeartbeats 4000000 in
theorem sched_any (g:Nat) (bs:List Int) (w:World) (hr:Row w g 176 bs) (hl:bs.length=128) (hz:Byte bs) :
  Calls Tryz.prog 157 #[.pointer (some ⟨g,0,none⟩)] w fun e w'=>e=.returned (.agg ((schA bs 80).map (Value.int .u64)).toArray)∧Below w.heap.size w w':=by
 have HR:=hid_ofS hr;have HL:=hid_ofS hl;have HZ:=hid_ofS hz;have HU:=hid_ofS (fun t=>wd_u64 hz hl t);have hlt:=hr.lt;clear hr hl hz;have HS:Hid (SC w bs 0 ((w.alloc (.cells zSch 211)).alloc (.cells zSch 211))):=by
  refine⟨?_,?_,((Below.refl _ _).alloc (Nat.le_refl _) _).alloc (by simp) _⟩
  ·unfold RowW;rw[heap_alloc2_old,zcSch]
  ·unfold RowW;rw[heap_alloc2_new,zcSch,schA_zero]
 have z1:=zvSch;have z2:=zsSch;have z3:=znSch;go_enter Tryz.func157,Tryz.ntmps157;go_wp2
 go_loopw [5] (fun i wr=>∃ k:Nat,k≤80∧i=.int .i64 k∧SC w bs k wr) (fun i _=>80-(intOf i).toNat)
 case atStart=>exact⟨0,by omega,rfl,HS.out⟩
 case round=>
  clear HS;obtain⟨k,hk,rfl,hst⟩:=hrel;by_cases h80:k<80
  ·have h80':(k:Int)<80:=by omega
   by_cases h16:k<16
   ·have h16':(k:Int)<16:=by omega
    have A:=hid_ofS (wordI_any g (8*k) bs wr (HR.out.below hst.below hlt) HL.out HZ.out (by omega));have hc:=hst.cell0 k (Nat.le_refl _) h80;have hf:=hst.row.frozen k;have e8:=hid_ofS (show((8*k:Nat):Int)=8*(k:Int) by omega);have HN:=hst.set h80;rw[wd_lo _ _ h16] at HN;have HX:=hid_ofS HN;clear HN hst;go_wp2_with fail;rw[←e8.out];refine A.out.mono ?_;rintro e w9 ⟨rfl,h9⟩;subst h9;clear A;generalize beV ((bs.drop (8*k)).take 8)=v at *;go_wp2;go_roundw
    case rel=>exact⟨k+1,by omega,by go_num,HX.out⟩
    case measure=>simp[intOf];omega
   ·have h16':¬ ((k:Int)<16):=by omega
    have HS0:=hid_ofS hst;have HWD:=wd_hi' bs k (by omega);have HST:Hid (∀ y,SC w bs k y→SC w bs (k+1) (y.setCell ⟨w.heap.size+1,k,none⟩ (.int .u64 (wd bs k)))):=fun y h=>h.set h80
    have HCE:Hid (∀ y (L:Nat→Bool),(if L 23=true then SC w bs (k+1) y else SC w bs k y)→∀ i,i<k→y.cell? ⟨w.heap.size+1,i,none⟩=some (.int .u64 (wd bs i))):=fun y L h i hi=>ite_sc h i hi (by omega)
    obtain⟨j0,hj0⟩:∃ i,i=k-16:=⟨_,rfl⟩
    obtain⟨j1,hj1⟩:∃ i,i=k-15:=⟨_,rfl⟩
    obtain⟨j9,hj9⟩:∃ i,i=k-7:=⟨_,rfl⟩
    obtain⟨j14,hj14⟩:∃ i,i=k-2:=⟨_,rfl⟩
    rw[←hj0,←hj1,←hj9,←hj14] at HWD;have hJ0:Hid ((k:Int)-16=(j0:Int)∧j0<k):=⟨by omega,by omega⟩
    have hJ1:Hid ((k:Int)-15=(j1:Int)∧j1<k):=⟨by omega,by omega⟩
    have hJ9:Hid ((k:Int)-7=(j9:Int)∧j9<k):=⟨by omega,by omega⟩
    have hJ14:Hid ((k:Int)-2=(j14:Int)∧j14<k):=⟨by omega,by omega⟩
    clear hj0 hj1 hj9 hj14;obtain⟨x0,hx0⟩:∃ x,x=wd bs j0:=⟨_,rfl⟩
    obtain⟨x1,hx1⟩:∃ x,x=wd bs j1:=⟨_,rfl⟩
    obtain⟨x9,hx9⟩:∃ x,x=wd bs j9:=⟨_,rfl⟩
    obtain⟨x14,hx14⟩:∃ x,x=wd bs j14:=⟨_,rfl⟩
    have U1:=hid_ofS (HU.out j1);rw[←hx1] at U1;have U14:=hid_ofS (HU.out j14);rw[←hx14] at U14;rw[←hx0,←hx1,←hx9,←hx14] at HWD;have hWD:=hid_ofS HWD;have hX0:=hid_ofS hx0;have hX1:=hid_ofS hx1;have hX9:=hid_ofS hx9;have hX14:=hid_ofS hx14;clear HWD hx0 hx1 hx9 hx14 hst
    go_upto_region 7 with fail
    refine wp_region_any (by kernel_rfl) ?_;refine wpAny_slotsU (fun _ _ _=>True) (frame:=(fun (a b c d e f g h i j k l m n o p q r:Value)=>fun (t:Nat→Value)=>({ tmps:=List.toArray [a,b,c,d,e,f,g,h,i,j,k,l,m,n,o,p,t 0,t 1,t 2,t 3,t 4,t 5,t 6,t 7,t 8,t 9,t 10,t 11,t 12,t 13,t 14,t 15,t 16,t 17,t 18,t 19,t 20,t 21,t 22,q,r],defers:=[] }:Act)) _ _ _ _ _ _ _ _ _ _ _ _ _ _ _ _ _ _)
     (Ext:=fun L u w'=>if L 23=true then SC w bs (k+1) w' else SC w bs k w') (Good:=fun i L w' v=>if i=0 then v=.int .i64 (k:Int) else if i=1 then v=.int .i64 (k:Int) else if i=2 then v=.int .i64 (j14:Int) else if i=3 then v=.pointer (some ⟨w.heap.size+1,j14,none⟩) else if i=4 then v=.int .u64 (x14) else if i=5 then v=.int .u64 (sg1 x14) else if i=6 then v=.int .i64 (k:Int) else if i=7 then v=.int .i64 (j9:Int) else if i=8 then v=.pointer (some ⟨w.heap.size+1,j9,none⟩) else if i=9 then v=.int .u64 (x9) else if i=10 then v=.int .u64 (IntKind.u64.wrap (sg1 x14+x9)) else if i=11 then v=.int .i64 (k:Int) else if i=12 then v=.int .i64 (j1:Int) else if i=13 then v=.pointer (some ⟨w.heap.size+1,j1,none⟩) else if i=14 then v=.int .u64 (x1) else if i=15 then v=.int .u64 (sg0 x1) else if i=16 then v=.int .u64 (IntKind.u64.wrap (IntKind.u64.wrap (sg1 x14+x9)+sg0 x1)) else if i=17 then v=.int .i64 (k:Int) else if i=18 then v=.int .i64 (j0:Int) else if i=19 then v=.pointer (some ⟨w.heap.size+1,j0,none⟩) else if i=20 then v=.int .u64 (x0) else if i=21 then v=.int .u64 (IntKind.u64.wrap (IntKind.u64.wrap (IntKind.u64.wrap (sg1 x14+x9)+sg0 x1)+x0)) else if i=22 then v=.pointer (some ⟨w.heap.size+1,k,none⟩) else if i=23 then L 23=true else True) ?hstab (by kernel_rfl) ?hop ?hdone _ _ ((fun (x0 x1 x2 x3 x4 x5 x6 x7 x8 x9 x10 x11 x12 x13 x14 x15 x16 x17 x18 x19 x20 x21 x22:Value)=>fun (i:Nat)=>if i=0 then x0 else if i=1 then x1 else if i=2 then x2 else if i=3 then x3 else if i=4 then x4 else if i=5 then x5 else if i=6 then x6 else if i=7 then x7 else if i=8 then x8 else if i=9 then x9 else if i=10 then x10 else if i=11 then x11 else if i=12 then x12 else if i=13 then x13 else if i=14 then x14 else if i=15 then x15 else if i=16 then x16 else if i=17 then x17 else if i=18 then x18 else if i=19 then x19 else if i=20 then x20 else if i=21 then x21 else if i=22 then x22 else undef) _ _ _ _ _ _ _ _ _ _ _ _ _ _ _ _ _ _ _ _ _ _ _) _ (by simp) ?ext ?start (by simp)
    case start=>intro i hi h;exact absurd h (by rw[Array.getD_eq_getD_getElem?,Array.getElem?_replicate];split<;>simp)
    case ext=>
     rw[if_neg (by show ¬ (Array.getD _ _ _=true);rw[Array.getD_eq_getD_getElem?,Array.getElem?_replicate];split<;>simp)];exact HS0.out.drew
    case hstab=>
     intro j L w9 w' i v hM hij hLi h;by_cases hl:j=23
     ·subst hl;simp at h ⊢;unfold updK;simp[h]
     ·simp only[if_neg hl] at h ⊢;exact h
    case hop=>
     intro i o L t w' ho hLi hx hdep K hK;have hi:i<24:=(Array.getElem?_eq_some_iff.1 ho).1;obtain rfl|rfl|rfl|rfl|rfl|rfl|rfl|rfl|rfl|rfl|rfl|rfl|rfl|rfl|rfl|rfl|rfl|rfl|rfl|rfl|rfl|rfl|rfl|rfl:i=0∨i=1∨i=2∨i=3∨i=4∨i=5∨i=6∨i=7∨i=8∨i=9∨i=10∨i=11∨i=12∨i=13∨i=14∨i=15∨i=16∨i=17∨i=18∨i=19∨i=20∨i=21∨i=22∨i=23:=by omega
     all_goals(simp at ho;subst ho)
     ·clear hdep;have hK':=hK w' (.int .i64 (k:Int)) (by simp) (by simpa[updK] using hx) trivial;clear hK;rw[if_pos (by rfl)];go_simp;simpa[upd] using hK'
     ·clear hdep;have hK':=hK w' (.int .i64 (k:Int)) (by simp) (by simpa[updK] using hx) trivial;clear hK;rw[if_pos (by rfl)];go_simp;simpa[upd] using hK'
     ·have d1:t 1=.int .i64 (k:Int):=by simpa using(hdep ⟨1,.data⟩ (by simp) rfl).2
      clear hdep;have e1:(k:Int)-2=(j14:Int):=hJ14.out.1;have e4:IntKind.i64.wrap (j14:Int)=(j14:Int):=by have:=hJ14.out.2;rw[IntKind.wrap_i64];omega
      have hK':=hK w' (.int .i64 (j14:Int)) (by simp) (by simpa[updK] using hx) trivial;clear hK;rw[if_pos (by rfl)];go_simp;simpa[upd,d1,e1,e4] using hK'
     ·have d2:t 2=.int .i64 (j14:Int):=by simpa using(hdep ⟨2,.data⟩ (by simp) rfl).2
      clear hdep;have e2:(j14:Int)<80:=by have:=hJ14.out.2;omega
      have hK':=hK w' (.pointer (some ⟨w.heap.size+1,j14,none⟩)) (by simp) (by simpa[updK] using hx) trivial;clear hK;rw[if_pos (by rfl)];go_simp;simpa[upd,d2] using hK'
     ·have d3:t 3=.pointer (some ⟨w.heap.size+1,j14,none⟩):=by simpa using(hdep ⟨3,.data⟩ (by simp) rfl).2
      clear hdep;have hc:w'.cell? ⟨w.heap.size+1,j14,none⟩=some (.int .u64 (x14)):=by rw[hX14.out];exact HCE.out w' L hx j14 (hJ14.out.2)
      have hK':=hK w' (.int .u64 (x14)) (by simp) (by simpa[updK] using hx) trivial;clear hK;rw[if_pos (by rfl)];go_simp;simpa[upd,d3] using hK'
     ·have d4:t 4=.int .u64 (x14):=by simpa using(hdep ⟨4,.data⟩ (by simp) rfl).2
      clear hdep;have A:=s1_any x14 w' U14.out;have hK':=hK w' (.int .u64 (sg1 x14)) (by simp) (by simpa[updK] using hx) trivial;clear hK hx;rw[if_pos (by rfl)];go_simp;try simp only[d4]
      refine A.mono ?_;rintro e w9 ⟨rfl,h9⟩;subst h9;clear A;go_simp;simpa[upd,d4] using hK'
     ·clear hdep;have hK':=hK w' (.int .i64 (k:Int)) (by simp) (by simpa[updK] using hx) trivial;clear hK;rw[if_pos (by rfl)];go_simp;simpa[upd] using hK'
     ·have d6:t 6=.int .i64 (k:Int):=by simpa using(hdep ⟨6,.data⟩ (by simp) rfl).2
      clear hdep;have e1:(k:Int)-7=(j9:Int):=hJ9.out.1;have e4:IntKind.i64.wrap (j9:Int)=(j9:Int):=by have:=hJ9.out.2;rw[IntKind.wrap_i64];omega
      have hK':=hK w' (.int .i64 (j9:Int)) (by simp) (by simpa[updK] using hx) trivial;clear hK;rw[if_pos (by rfl)];go_simp;simpa[upd,d6,e1,e4] using hK'
     ·have d7:t 7=.int .i64 (j9:Int):=by simpa using(hdep ⟨7,.data⟩ (by simp) rfl).2
      clear hdep;have e2:(j9:Int)<80:=by have:=hJ9.out.2;omega
      have hK':=hK w' (.pointer (some ⟨w.heap.size+1,j9,none⟩)) (by simp) (by simpa[updK] using hx) trivial;clear hK;rw[if_pos (by rfl)];go_simp;simpa[upd,d7] using hK'
     ·have d8:t 8=.pointer (some ⟨w.heap.size+1,j9,none⟩):=by simpa using(hdep ⟨8,.data⟩ (by simp) rfl).2
      clear hdep;have hc:w'.cell? ⟨w.heap.size+1,j9,none⟩=some (.int .u64 (x9)):=by rw[hX9.out];exact HCE.out w' L hx j9 (hJ9.out.2)
      have hK':=hK w' (.int .u64 (x9)) (by simp) (by simpa[updK] using hx) trivial;clear hK;rw[if_pos (by rfl)];go_simp;simpa[upd,d8] using hK'
     ·have d5:t 5=.int .u64 (sg1 x14):=by simpa using(hdep ⟨5,.data⟩ (by simp) rfl).2
      have d9:t 9=.int .u64 (x9):=by simpa using(hdep ⟨9,.data⟩ (by simp) rfl).2
      clear hdep;have hK':=hK w' (.int .u64 (IntKind.u64.wrap (sg1 x14+x9))) (by simp) (by simpa[updK] using hx) trivial;clear hK;rw[if_pos (by rfl)];go_simp;simpa[upd,d5,d9] using hK'
     ·clear hdep;have hK':=hK w' (.int .i64 (k:Int)) (by simp) (by simpa[updK] using hx) trivial;clear hK;rw[if_pos (by rfl)];go_simp;simpa[upd] using hK'
     ·have d11:t 11=.int .i64 (k:Int):=by simpa using(hdep ⟨11,.data⟩ (by simp) rfl).2
      clear hdep;have e1:(k:Int)-15=(j1:Int):=hJ1.out.1;have e4:IntKind.i64.wrap (j1:Int)=(j1:Int):=by have:=hJ1.out.2;rw[IntKind.wrap_i64];omega
      have hK':=hK w' (.int .i64 (j1:Int)) (by simp) (by simpa[updK] using hx) trivial;clear hK;rw[if_pos (by rfl)];go_simp;simpa[upd,d11,e1,e4] using hK'
     ·have d12:t 12=.int .i64 (j1:Int):=by simpa using(hdep ⟨12,.data⟩ (by simp) rfl).2
      clear hdep;have e2:(j1:Int)<80:=by have:=hJ1.out.2;omega
      have hK':=hK w' (.pointer (some ⟨w.heap.size+1,j1,none⟩)) (by simp) (by simpa[updK] using hx) trivial;clear hK;rw[if_pos (by rfl)];go_simp;simpa[upd,d12] using hK'
     ·have d13:t 13=.pointer (some ⟨w.heap.size+1,j1,none⟩):=by simpa using(hdep ⟨13,.data⟩ (by simp) rfl).2
      clear hdep;have hc:w'.cell? ⟨w.heap.size+1,j1,none⟩=some (.int .u64 (x1)):=by rw[hX1.out];exact HCE.out w' L hx j1 (hJ1.out.2)
      have hK':=hK w' (.int .u64 (x1)) (by simp) (by simpa[updK] using hx) trivial;clear hK;rw[if_pos (by rfl)];go_simp;simpa[upd,d13] using hK'
     ·have d14:t 14=.int .u64 (x1):=by simpa using(hdep ⟨14,.data⟩ (by simp) rfl).2
      clear hdep;have A:=s0_any x1 w' U1.out;have hK':=hK w' (.int .u64 (sg0 x1)) (by simp) (by simpa[updK] using hx) trivial;clear hK hx;rw[if_pos (by rfl)];go_simp;try simp only[d14]
      refine A.mono ?_;rintro e w9 ⟨rfl,h9⟩;subst h9;clear A;go_simp;simpa[upd,d14] using hK'
     ·have d10:t 10=.int .u64 (IntKind.u64.wrap (sg1 x14+x9)):=by simpa using(hdep ⟨10,.data⟩ (by simp) rfl).2
      have d15:t 15=.int .u64 (sg0 x1):=by simpa using(hdep ⟨15,.data⟩ (by simp) rfl).2
      clear hdep;have hK':=hK w' (.int .u64 (IntKind.u64.wrap (IntKind.u64.wrap (sg1 x14+x9)+sg0 x1))) (by simp) (by simpa[updK] using hx) trivial;clear hK;rw[if_pos (by rfl)];go_simp;simpa[upd,d10,d15] using hK'
     ·clear hdep;have hK':=hK w' (.int .i64 (k:Int)) (by simp) (by simpa[updK] using hx) trivial;clear hK;rw[if_pos (by rfl)];go_simp;simpa[upd] using hK'
     ·have d17:t 17=.int .i64 (k:Int):=by simpa using(hdep ⟨17,.data⟩ (by simp) rfl).2
      clear hdep;have e1:(k:Int)-16=(j0:Int):=hJ0.out.1;have e4:IntKind.i64.wrap (j0:Int)=(j0:Int):=by have:=hJ0.out.2;rw[IntKind.wrap_i64];omega
      have hK':=hK w' (.int .i64 (j0:Int)) (by simp) (by simpa[updK] using hx) trivial;clear hK;rw[if_pos (by rfl)];go_simp;simpa[upd,d17,e1,e4] using hK'
     ·have d18:t 18=.int .i64 (j0:Int):=by simpa using(hdep ⟨18,.data⟩ (by simp) rfl).2
      clear hdep;have e2:(j0:Int)<80:=by have:=hJ0.out.2;omega
      have hK':=hK w' (.pointer (some ⟨w.heap.size+1,j0,none⟩)) (by simp) (by simpa[updK] using hx) trivial;clear hK;rw[if_pos (by rfl)];go_simp;simpa[upd,d18] using hK'
     ·have d19:t 19=.pointer (some ⟨w.heap.size+1,j0,none⟩):=by simpa using(hdep ⟨19,.data⟩ (by simp) rfl).2
      clear hdep;have hc:w'.cell? ⟨w.heap.size+1,j0,none⟩=some (.int .u64 (x0)):=by rw[hX0.out];exact HCE.out w' L hx j0 (hJ0.out.2)
      have hK':=hK w' (.int .u64 (x0)) (by simp) (by simpa[updK] using hx) trivial;clear hK;rw[if_pos (by rfl)];go_simp;simpa[upd,d19] using hK'
     ·have d16:t 16=.int .u64 (IntKind.u64.wrap (IntKind.u64.wrap (sg1 x14+x9)+sg0 x1)):=by simpa using(hdep ⟨16,.data⟩ (by simp) rfl).2
      have d20:t 20=.int .u64 (x0):=by simpa using(hdep ⟨20,.data⟩ (by simp) rfl).2
      clear hdep;have hK':=hK w' (.int .u64 (IntKind.u64.wrap (IntKind.u64.wrap (IntKind.u64.wrap (sg1 x14+x9)+sg0 x1)+x0))) (by simp) (by simpa[updK] using hx) trivial;clear hK;rw[if_pos (by rfl)];go_simp;simpa[upd,d16,d20] using hK'
     ·have d0:t 0=.int .i64 (k:Int):=by simpa using(hdep ⟨0,.data⟩ (by simp) rfl).2
      clear hdep;have hK':=hK w' (.pointer (some ⟨w.heap.size+1,k,none⟩)) (by simp) (by simpa[updK] using hx) trivial;clear hK;rw[if_pos (by rfl)];go_simp;simpa[upd,d0] using hK'
     ·have d21:t 21=.int .u64 (IntKind.u64.wrap (IntKind.u64.wrap (IntKind.u64.wrap (sg1 x14+x9)+sg0 x1)+x0)):=by simpa using(hdep ⟨21,.data⟩ (by simp) rfl).2
      have d22:t 22=.pointer (some ⟨w.heap.size+1,k,none⟩):=by simpa using(hdep ⟨22,.data⟩ (by simp) rfl).2
      clear hdep;rw[hLi,if_neg (by decide)] at hx;have hc:w'.cell? ⟨w.heap.size+1,k,none⟩=some (.int .u64 0):=hx.cell0 k (Nat.le_refl _) (by omega);have hf:w'.frozen? ⟨w.heap.size+1,k,none⟩=false:=hx.row.frozen _;have hn:=HST.out w' hx;rw[hWD.out] at hn;have hK':=hK _ undef (by simp[updK]) (by rw[if_pos (by simp[updK])];exact hn) trivial;clear hK hx hn;rw[if_pos (by rfl)];go_simp;simpa[upd,d21,d22] using hK'
    case hdone=>
     intro L t w4 hx hg;have hlast:L 23=true:=by simpa using hg 23 (by decide)
     rw[if_pos hlast] at hx;clear hg hlast;have HX:=hid_ofS hx;clear hx;go_wp2;go_roundw
     case rel=>exact⟨k+1,by omega,by go_num,HX.out⟩
     case measure=>simp[intOf];omega
  ·obtain rfl:k=80:=by omega
   have H1:=hid_ofS hst.row;have H2:=hid_ofS hst.res;have H3:=hid_ofS hst.below;clear hst;go_wp2_with (first
    |(refine wpList_loadW rfl (.tmp 3) rfl Tryz.underlying211 Tryz.sizeSch (w.heap.size+1) (schA bs 80) rfl (schA_len _ _) H1.out ?_)
    |(refine wpList_storeW rfl (.tmp 2) (.tmp 40) rfl Tryz.sizeSch w.heap.size (schA bs 80) (List.replicate 80 0) rfl rfl (schA_len _ _) (by simp) H2.out ?_)
    |fail)
   intro w3 hr3 hw3;have HB3:Hid (Below w.heap.size w w3):=H3.out.trans (hw3.below (Nat.le_refl _));have HR3:=hid_ofS hr3;clear hr3 hw3 H1 H2 H3;go_wp2;exact bodyPost_ret (v:=.agg ((schA bs 80).map (Value.int .u64)).toArray) (results_cell_row rfl _ _ w.heap.size 211 _ (0,0) _ rfl HR3.out Tryz.underlying211 rfl (by rw[Tryz.sizeSch];simp[schA_len])) rfl ⟨rfl,HB3.out⟩
def sub64E:Array Value→Sem Value:=fun args=>do
 let (x, y, b) ← Extern.MathBitsCarry.three "Sub64" args
 pure (Extern.MathBitsCarry.pair ((x+Extern.MathBitsCarry.m64-y-b)%Extern.MathBitsCarry.m64) (if x<y+b then 1 else 0))
theorem run_sub64E (x y b:Nat) (hb:b≤1) (w:World) :
  (sub64E #[.int .u64 x,.int .u64 y,.int .u64 b]).run Tryz.prog w=
   .ok (.tuple #[.int .u64 (((x+18446744073709551616-y-b)%18446744073709551616:Nat):Int),.int .u64 ((if x<y+b then 1 else 0:Nat):Int)]) w:=by
 have:b=0∨b=1:=by omega
 rcases this with rfl|rfl<;>rfl
theorem sub64 (x y b:Int) (hx:0≤x) (hy:0≤y) (hy':y<18446744073709551616) (hb0:0≤b) (hb:b≤1) (w:World):(callFunc 156 #[.int .u64 x,.int .u64 y,.int .u64 b]).run Tryz.prog w=
  .ok (.value (.tuple #[.int .u64 ((x-y-b)%18446744073709551616),.int .u64 (bor x y b)])) w:=by
 obtain⟨x,rfl⟩:=Int.eq_ofNat_of_zero_le hx;obtain⟨y,rfl⟩:=Int.eq_ofNat_of_zero_le hy;obtain⟨b,rfl⟩:=Int.eq_ofNat_of_zero_le hb0;have e1:(((x+18446744073709551616-y-b)%18446744073709551616:Nat):Int)=((x:Int)-y-b)%18446744073709551616:=by omega
 have e2:((if x<y+b then 1 else 0:Nat):Int)=bor x y b:=by unfold bor;split<;>split<;>omega
 rw[run_callFunc_extern Tryz.func156 (by kernel_rfl) (by kernel_rfl) (by kernel_rfl) (e:=sub64E) (by kernel_rfl),run_sub64E x y b (by omega),e1,e2];rfl
set_option maxHeartbeats 400000 in
theorem push_any (g:Nat) (ns:List Int) (bit:Int) (w:World) (hl:ns.length=4) (hr:RowW w g 143 ns) (hw:Wrd ns) (hb:bit=0∨bit=1) :
  Calls Tryz.prog 130 #[.pointer (some ⟨g,0,none⟩),.int .u64 bit] w fun e w'=>e=.returned (.tuple #[])∧∃ ms,ms.length=4∧RowW w' g 143 ms∧Wrd ms∧(∃ c,0≤c∧val 18446744073709551616 ms+c*18446744073709551616^4=2*val 18446744073709551616 ns+bit)∧Wr g w w':=by
 go_enter Tryz.func130,Tryz.ntmps130;go_wp2
 go_loopw [1,7] (fun c i wr=>∃(k:Nat) (ms:List Int) (b:Int),k≤4∧i=.int .i64 k∧c=.int .u64 b∧(b=0∨b=1)∧ms.length=4∧RowW wr g 143 ms∧Wrd ms∧ms.drop k=ns.drop k∧val 18446744073709551616 (ms.take k)+b*18446744073709551616^k=2*val 18446744073709551616 (ns.take k)+bit∧Wr g w wr) (fun _ i _=>4-(intOf i).toNat)
 case atStart=>exact⟨0,ns,bit,Nat.zero_le _,rfl,rfl,hb,hl,hr,hw,rfl,by simp[val],Wr.refl _ _⟩
 case round=>
  obtain⟨k,ms,b,hk,rfl,rfl,hb',hml,hmr,hmw,hmd,hv,hwr⟩:=hrel;by_cases hlt:k<4
  ·have ck:=hmr.cell k (by omega);have fk:=hmr.frozen k;have hx:=hmw.get k;have hgd:=getD_of_drop hmd;have hx2:∀ c,0≤c→c<2→0≤2*ms.getD k 0%18446744073709551616+c∧2*ms.getD k 0%18446744073709551616+c<18446744073709551616:=fun c h0 h1=>by omega
   have S1:RowW (wr.setCell ⟨g,k,none⟩ (.int .u64 (2*ms.getD k 0%18446744073709551616+b))) g 143 (ms.set k (2*ms.getD k 0%18446744073709551616+b)):=hmr.set k _;have S2:Wrd (ms.set k (2*ms.getD k 0%18446744073709551616+b)):=hmw.set k _ (hx2 b (by omega) (by omega)).1 (hx2 b (by omega) (by omega)).2;have S3:=(drop_set_succ ms k (2*ms.getD k 0%18446744073709551616+b)).trans (drop_succ_of hmd);have S4:val 18446744073709551616 ((ms.set k (2*ms.getD k 0%18446744073709551616+b)).take (k+1))+ms.getD k 0/9223372036854775808*18446744073709551616^(k+1)=2*val 18446744073709551616 (ns.take (k+1))+bit:=by
    rw[val_set_succ _ _ _ _ (by omega),val_take _ ns k (by omega),←hgd,Int.pow_succ];have e:(2*ms.getD k 0%18446744073709551616)+ms.getD k 0/9223372036854775808*18446744073709551616=2*ms.getD k 0:=by omega
    generalize ms.getD k 0=x at *;generalize (18446744073709551616:Int)^k=P at *;have e':((2*x%18446744073709551616)+x/9223372036854775808*18446744073709551616)*P=2*x*P:=by rw[e]
    grind
   have HW:Hid (Wr g w (wr.setCell ⟨g,k,none⟩ (.int .u64 (2*ms.getD k 0%18446744073709551616+b)))):=hwr.setCell k _;have HL:Hid ((ms.set k (2*ms.getD k 0%18446744073709551616+b)).length=4):=by rw[List.length_set];exact hml
   have HC:Hid (bits .or .u64 (IntKind.u64.wrap (ms.getD k 0*2)) b=2*ms.getD k 0%18446744073709551616+b):=by
    show bits .or .u64 (IntKind.u64.wrap (ms.getD k 0*2)) b=_
    rw[IntKind.wrap_u64,Int.mul_comm];exact u64_or_add _ _ 1 (by omega) (by omega) (by omega) (by omega) (by omega) (2*ms.getD k 0%18446744073709551616/2) (by omega)
   have hbb:ms.getD k 0/9223372036854775808=0∨ms.getD k 0/9223372036854775808=1:=by omega
   have HBB:Hid _:=hbb;have H1:Hid _:=S1;have H2:Hid _:=S2;have H3:Hid _:=S3;have H4:Hid _:=S4;clear hgd hx2 S1 S2 S3 S4 hmr hmw hmd hv hwr hbb hr hw;generalize ms.getD k 0=x at *;obtain⟨hx0,hx1⟩:=hx;have hlt':(k:Int)<4:=by omega
   go_wp2
   go_quiet (fail)
   go_wp2;rw[HC.out];refine⟨⟨k+1,ms.set k (2*x%18446744073709551616+b),x/9223372036854775808,by omega,by go_num,rfl,HBB.out,HL.out,H1.out,H2.out,H3.out,H4.out,?_⟩,by simp[intOf];omega⟩;exact⟨HW.out.os,HW.out.tape,HW.out.output,HW.out.size,HW.out.block⟩
  ·have hk4:k=4:=by omega
   subst hk4;rw[List.take_of_length_le (by omega),List.take_of_length_le (by omega)] at hv;have H:Hid (∃ ms,ms.length=4∧RowW wr g 143 ms∧Wrd ms∧(∃ c,0≤c∧val 18446744073709551616 ms+c*18446744073709551616^4=2*val 18446744073709551616 ns+bit)∧Wr g w wr):=
    ⟨ms,hml,hmr,hmw,⟨b,by omega,hv⟩,hwr⟩
   clear hml hmr hmw hv hwr hmd hr hw hb hb';go_wp2
   go_end0
   exact⟨rfl,H.out⟩
end Go.Proofs.YtjdhhgaelgemcaaGreatDoor
