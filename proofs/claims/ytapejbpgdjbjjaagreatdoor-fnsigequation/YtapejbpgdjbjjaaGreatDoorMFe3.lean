import Derived.Test.YtapejbpgdjbjjaaGreatDoorMFe
import Derived.Test.YtapejbpgdjbjjaaGreatDoorMOwnK
namespace Go.Proofs.YtapejbpgdjbjjaaGreatDoor
set_option linter.unusedVariables false
theorem least_dig {xs:List Int} (h:R xs):∀ i,0≤(carryL (carryL xs)).getD i 0∧(carryL (carryL xs)).getD i 0<65536:=by
 have hc:=cy_bd (C:=2) h.2 (by decide) (by decide) 16
 obtain⟨b1,b2⟩:=carry_bd (xs:=xs) (by decide) hc
 have h0:=carryL_get xs 0 (by decide)
 rw[if_pos rfl] at h0
 have h0':-76≤(carryL xs).getD 0 0∧(carryL xs).getD 0 0≤65611:=by rw[h0];omega
 clear h0 hc
 have h0:=h0'
 generalize hy:carryL xs=ys at *
 have hch:∀ i,(-1≤cy ys (i+1)∧cy ys (i+1)≤1)∧(cy ys (i+1)=1→65536≤ys.getD 0 0)∧(cy ys (i+1)=-1→ys.getD 0 0<0):=by
  intro i
  induction i with
  |zero=>simp only[cy];omega
  |succ i ih=>
   have:=b2 (i+1) (by omega);rw[show i+1+1=(i+1)+1 from rfl,cy];omega
 have h16:(-1≤cy ys 16∧cy ys 16≤1)∧(cy ys 16=1→65536≤ys.getD 0 0)∧(cy ys 16=-1→ys.getD 0 0<0):=hch 15
 intro i
 by_cases hi:i<16
 ·rw[carryL_get _ _ hi];by_cases hi0:i=0
  ·subst hi0;rw[if_pos rfl,show cy ys 0=0 from rfl];generalize cy ys 16=c at *;omega
  ·rw[if_neg hi0];omega
 ·rw[getD_past (by rw[carryL_len];omega)];omega
theorem carry_id {ys:List Int} (hl:ys.length=16) (h:∀ i,0≤ys.getD i 0∧ys.getD i 0<65536):carryL ys=ys:=by
 have hc:∀ i,cy ys i=0:=fun i=>by
  induction i with
  |zero=>rfl
  |succ i ih=>have:=h i;simp only[cy,ih];omega
 apply list16 (carryL_len _) hl
 intro i hi
 rw[carryL_get _ _ hi,hc,hc]
 have:=h i
 split<;>omega
theorem dig_of_get {B:Int} {xs:List Int} (h:∀ i,0≤xs.getD i 0∧xs.getD i 0<B):Dig B xs:=by
 intro z hz
 obtain⟨i,hi,rfl⟩:=List.mem_iff_getElem.1 hz
 have:=h i
 simpa[hi] using this
def pD:List Int:=[65517,65535,65535,65535,65535,65535,65535,65535,65535,65535,65535,65535,65535,65535,65535,32767]
theorem pD_val:val 65536 pD=fp:=by decide
theorem pD_dig:∀ i,0≤pD.getD i 0∧pD.getD i 0<65536:=by
 intro i
 by_cases h:i<16
 ·have:i=0∨i=1∨i=2∨i=3∨i=4∨i=5∨i=6∨i=7∨i=8∨i=9∨i=10∨i=11∨i=12∨i=13∨i=14∨i=15:=by omega
  rcases this with rfl|rfl|rfl|rfl|rfl|rfl|rfl|rfl|rfl|rfl|rfl|rfl|rfl|rfl|rfl|rfl<;>decide
 ·rw[getD_past (by simp[pD];omega)];decide
theorem pD_get (i:Nat) (h:i<16):pD.getD i 0=if i=0 then 65517 else if i=15 then 32767 else 65535:=by
 have:i=0∨i=1∨i=2∨i=3∨i=4∨i=5∨i=6∨i=7∨i=8∨i=9∨i=10∨i=11∨i=12∨i=13∨i=14∨i=15:=by omega
 rcases this with rfl|rfl|rfl|rfl|rfl|rfl|rfl|rfl|rfl|rfl|rfl|rfl|rfl|rfl|rfl|rfl<;>decide
theorem sub_step16 (B p q z P x y b x' b':Int) (h:p-q=z-b*P) (hx:x'-b'*B=x-y-b):(p+x*P)-(q+y*P)=(z+x'*P)-b'*(P*B):=by
 have:(x'-b'*B)*P=(x-y-b)*P:=by rw[hx]
 grind
def pbit (low nb i:Nat):Bool:=decide (nb≤i) || decide (low/2^i%2=1)
def pstep (x:Int) (b:Bool) (s:Int):Int:=if b then s*s%fp*x%fp else s*s%fp
def pwF (x:Int) (low nb top:Nat):Nat→Int
 |0=>1
 |k+1=>pstep x (pbit low nb (top-k)) (pwF x low nb top k)
def fpN:Nat:=57896044618658097711785492504343953926634992332820282019728792003956564819949
def pstepN (x:Nat) (b:Bool) (s:Nat):Nat:=if b then s*s%fpN*x%fpN else s*s%fpN
def pwN (x low nb top:Nat):Nat→Nat
 |0=>1
 |k+1=>pstepN x (pbit low nb (top-k)) (pwN x low nb top k)
theorem fp_fpN:fp=(fpN:Int):=rfl
theorem pwF_N (x low nb top k:Nat):pwF (x:Int) low nb top k=(pwN x low nb top k:Nat):=by
 induction k with
 |zero=>rfl
 |succ k ih=>
  simp only[pwF,pwN,ih,pstep,pstepN,fp_fpN];split<;>simp only[Int.natCast_emod,Int.natCast_mul]
end Go.Proofs.YtapejbpgdjbjjaaGreatDoor
namespace Go.Proofs.YtapejbpgdjbjjaaGreatDoor
open Go.ChangeShapes Go.WideShapes Go.ChangeAt Go.RowKit
set_option linter.unusedVariables false
structure PwS (w:World) (x:Int) (v:Value) (wr:World):Prop where
 fe:∃ g c,v=.slice (some ⟨g,0,none⟩) 16 c∧w.heap.size≤g∧g<wr.heap.size∧FeA wr (some ⟨g,0,none⟩) x
 below:Below w.heap.size w wr
set_option maxHeartbeats 1000000 in
theorem pow0_any (a:Option Addr) (cap:Nat) (x:Int) (w:World) (ha:FeA w a x) :
  Calls Tryz.prog 59 #[.slice a 16 cap,.int .i64 0] w (FeP w (pwF x 11 5 254 255)):=by
 have HA:Hid (FeA w a x):=ha
 clear ha
 go_enter Tryz.func59,Tryz.ntmps59
 go_wp2_with fail
 refine(small_any 1 _ (by decide) (by decide)).mono ?_
 rintro e w1 ⟨g1,c1,rfl,hg1,hg1',hf1,hb1⟩
 have HS:Hid (PwS w (pwF x 11 5 254 0) (.slice (some ⟨g1,0,none⟩) 16 c1) w1):=⟨⟨g1,c1,rfl,hg1,hg1',hf1⟩,hb1⟩
 clear hf1 hb1
 go_wp2
 go_loopw [8,9] (fun v i wr=>∃ j:Nat,j≤255∧i=.int .i64 ((j:Int)-1)∧PwS w (pwF x 11 5 254 (255-j)) v wr) (fun _ i _=>(intOf i+1).toNat)
 case atStart=>exact⟨255,Nat.le_refl _,by go_num,HS.out⟩
 case round=>
  clear HS;obtain⟨j,hj,rfl,⟨⟨g,c,rfl,hg,hg',hf⟩,hbel⟩⟩:=hrel;by_cases hj0:0<j
  ·obtain⟨j,rfl⟩:∃ i,j=i+1:=⟨j-1,by omega⟩
   have ei:((j+1:Nat):Int)-1=(j:Int):=by omega
   rw[ei];clear ei;have hstep:pwF x 11 5 254 (255-j)=pstep x (pbit 11 5 j) (pwF x 11 5 254 (255-(j+1))):=by
    have e1:255-j=(255-(j+1))+1:=by omega
    rw[e1,pwF];have e2:254-(255-(j+1))=j:=by omega
    rw[e2]
   have HST:Hid (pwF x 11 5 254 (255-j)=pstep x (pbit 11 5 j) (pwF x 11 5 254 (255-(j+1)))):=hstep;clear hstep;generalize pwF x 11 5 254 (255-(j+1))=s at *;have HF:Hid (FeA wr (some ⟨g,0,none⟩) s):=hf;have HB:Hid (Below w.heap.size w wr):=hbel;clear hf hbel;go_wp2_with fail;refine(fmul_any _ _ c c s s _ HF.out HF.out).mono ?_;rintro e w2 ⟨g2,c2,rfl,hg2,hg2',hf2,hb2⟩;have HB2:Hid (Below w.heap.size w w2):=HB.out.trans (hb2.mono HB.out.size);have HF2:Hid (FeA w2 (some ⟨g2,0,none⟩) (s*s%fp)):=hf2;have HA2:Hid (FeA w2 a x):=(HA.out.below HB.out).below hb2;have hs:=HB.out.size;clear hf2 hb2 HF HB;by_cases hge:5≤j
   ·have hge':(5:Int)≤(j:Int):=by omega
    have hge2:decide ((5:Int)≤(j:Int))=true:=by simpa using hge'
    have HPS:Hid (pstep x (pbit 11 5 j) s=s*s%fp*x%fp):=by show _=_;unfold pbit pstep;simp[hge]
    go_wp2_with fail;refine(fmul_any _ _ c2 cap (s*s%fp) x _ HF2.out HA2.out).mono ?_;rintro e w3 ⟨g3,c3,rfl,hg3,hg3',hf3,hb3⟩;have HP:Hid (PwS w (pwF x 11 5 254 (255-j)) (.slice (some ⟨g3,0,none⟩) 16 c3) w3):=by
     rw[HST.out,HPS.out];exact⟨⟨g3,c3,rfl,by have:=HB2.out.size;omega,hg3',hf3⟩,HB2.out.trans (hb3.mono HB2.out.size)⟩
    clear hf3 hb3 HST HPS HB2 HF2 HA2;go_wp2;go_roundw
    case rel=>exact⟨j,by omega,rfl,HP.out⟩
    case measure=>first|(simp[intOf];done)|(simp[intOf];omega)
   ·have hge':¬ (5:Int)≤(j:Int):=by omega
    have hge2:decide ((5:Int)≤(j:Int))=false:=by simpa using hge'
    by_cases hbit:11/2^j%2=1
    ·have HPS:Hid (pstep x (pbit 11 5 j) s=s*s%fp*x%fp):=by show _=_;unfold pbit pstep;simp[hbit]
     have hb2:((11:Int)/2^j).tmod 2=1:=by
      rw[Int.tmod_eq_emod_of_nonneg (Int.ediv_nonneg (by decide) (Int.pow_nonneg (by decide)))];have:(((11/2^j%2:Nat)):Int)=1:=by rw[hbit];rfl
      simpa using this
     have hb3:((11:Int)/2^j)%2=1:=by
      have:(((11/2^j%2:Nat)):Int)=1:=by rw[hbit];rfl
      simpa using this
     clear hbit;go_wp2_with fail;refine(fmul_any _ _ c2 cap (s*s%fp) x _ HF2.out HA2.out).mono ?_;rintro e w3 ⟨g3,c3,rfl,hg3,hg3',hf3,hb3'⟩;have HP:Hid (PwS w (pwF x 11 5 254 (255-j)) (.slice (some ⟨g3,0,none⟩) 16 c3) w3):=by
      rw[HST.out,HPS.out];exact⟨⟨g3,c3,rfl,by have:=HB2.out.size;omega,hg3',hf3⟩,HB2.out.trans (hb3'.mono HB2.out.size)⟩
     clear hf3 hb3' HST HPS HB2 HF2 HA2;go_wp2;go_roundw
     case rel=>exact⟨j,by omega,rfl,HP.out⟩
     case measure=>first|(simp[intOf];done)|(simp[intOf];omega)
    ·have HPS:Hid (pstep x (pbit 11 5 j) s=s*s%fp):=by show _=_;unfold pbit pstep;simp[hge,hbit]
     have hbit0:11/2^j%2=0:=by omega
     have hb3:((11:Int)/2^j)%2=0:=by
      have:(((11/2^j%2:Nat)):Int)=0:=by rw[hbit0];rfl
      simpa using this
     have hb2:((11:Int)/2^j).tmod 2=0:=by
      rw[Int.tmod_eq_emod_of_nonneg (Int.ediv_nonneg (by decide) (Int.pow_nonneg (by decide)))];exact hb3
     clear hbit hbit0;have HP:Hid (PwS w (pwF x 11 5 254 (255-j)) (.slice (some ⟨g2,0,none⟩) 16 c2) w2):=by
      rw[HST.out,HPS.out];exact⟨⟨g2,c2,rfl,by omega,hg2',HF2.out⟩,HB2.out⟩
     clear HST HPS HB2 HF2 HA2;go_wp2;go_roundw
     case rel=>exact⟨j,by omega,rfl,HP.out⟩
     case measure=>first|(simp[intOf];done)|(simp[intOf];omega)
  ·obtain rfl:j=0:=by omega
   have HP:Hid (FeP w (pwF x 11 5 254 255) (.returned (.slice (some ⟨g,0,none⟩) 16 c)) wr):=⟨g,c,rfl,hg,hg',hf,hbel⟩
   clear hf hbel;go_wp2
   go_ret
   exact HP.out
end Go.Proofs.YtapejbpgdjbjjaaGreatDoor
namespace Go.Proofs.YtapejbpgdjbjjaaGreatDoor
open Go.ChangeShapes Go.WideShapes Go.ChangeAt Go.RowKit
set_option linter.unusedVariables false
set_option maxHeartbeats 1000000 in
theorem pow1_any (a:Option Addr) (cap:Nat) (x:Int) (w:World) (ha:FeA w a x) :
  Calls Tryz.prog 59 #[.slice a 16 cap,.int .i64 1] w (FeP w (pwF x 5 3 251 252)):=by
 have HA:Hid (FeA w a x):=ha
 clear ha
 go_enter Tryz.func59,Tryz.ntmps59
 go_wp2_with fail
 refine(small_any 1 _ (by decide) (by decide)).mono ?_
 rintro e w1 ⟨g1,c1,rfl,hg1,hg1',hf1,hb1⟩
 have HS:Hid (PwS w (pwF x 5 3 251 0) (.slice (some ⟨g1,0,none⟩) 16 c1) w1):=⟨⟨g1,c1,rfl,hg1,hg1',hf1⟩,hb1⟩
 clear hf1 hb1
 go_wp2
 go_loopw [8,9] (fun v i wr=>∃ j:Nat,j≤252∧i=.int .i64 ((j:Int)-1)∧PwS w (pwF x 5 3 251 (252-j)) v wr) (fun _ i _=>(intOf i+1).toNat)
 case atStart=>exact⟨252,Nat.le_refl _,by go_num,HS.out⟩
 case round=>
  clear HS;obtain⟨j,hj,rfl,⟨⟨g,c,rfl,hg,hg',hf⟩,hbel⟩⟩:=hrel;by_cases hj0:0<j
  ·obtain⟨j,rfl⟩:∃ i,j=i+1:=⟨j-1,by omega⟩
   have ei:((j+1:Nat):Int)-1=(j:Int):=by omega
   rw[ei];clear ei;have hstep:pwF x 5 3 251 (252-j)=pstep x (pbit 5 3 j) (pwF x 5 3 251 (252-(j+1))):=by
    have e1:252-j=(252-(j+1))+1:=by omega
    rw[e1,pwF];have e2:251-(252-(j+1))=j:=by omega
    rw[e2]
   have HST:Hid (pwF x 5 3 251 (252-j)=pstep x (pbit 5 3 j) (pwF x 5 3 251 (252-(j+1)))):=hstep;clear hstep;generalize pwF x 5 3 251 (252-(j+1))=s at *;have HF:Hid (FeA wr (some ⟨g,0,none⟩) s):=hf;have HB:Hid (Below w.heap.size w wr):=hbel;clear hf hbel;go_wp2_with fail;refine(fmul_any _ _ c c s s _ HF.out HF.out).mono ?_;rintro e w2 ⟨g2,c2,rfl,hg2,hg2',hf2,hb2⟩;have HB2:Hid (Below w.heap.size w w2):=HB.out.trans (hb2.mono HB.out.size);have HF2:Hid (FeA w2 (some ⟨g2,0,none⟩) (s*s%fp)):=hf2;have HA2:Hid (FeA w2 a x):=(HA.out.below HB.out).below hb2;have hs:=HB.out.size;clear hf2 hb2 HF HB;by_cases hge:3≤j
   ·have hge':(3:Int)≤(j:Int):=by omega
    have hge2:decide ((3:Int)≤(j:Int))=true:=by simpa using hge'
    have HPS:Hid (pstep x (pbit 5 3 j) s=s*s%fp*x%fp):=by show _=_;unfold pbit pstep;simp[hge]
    go_wp2_with fail;refine(fmul_any _ _ c2 cap (s*s%fp) x _ HF2.out HA2.out).mono ?_;rintro e w3 ⟨g3,c3,rfl,hg3,hg3',hf3,hb3⟩;have HP:Hid (PwS w (pwF x 5 3 251 (252-j)) (.slice (some ⟨g3,0,none⟩) 16 c3) w3):=by
     rw[HST.out,HPS.out];exact⟨⟨g3,c3,rfl,by have:=HB2.out.size;omega,hg3',hf3⟩,HB2.out.trans (hb3.mono HB2.out.size)⟩
    clear hf3 hb3 HST HPS HB2 HF2 HA2;go_wp2;go_roundw
    case rel=>exact⟨j,by omega,rfl,HP.out⟩
    case measure=>first|(simp[intOf];done)|(simp[intOf];omega)
   ·have hge':¬ (3:Int)≤(j:Int):=by omega
    have hge2:decide ((3:Int)≤(j:Int))=false:=by simpa using hge'
    by_cases hbit:5/2^j%2=1
    ·have HPS:Hid (pstep x (pbit 5 3 j) s=s*s%fp*x%fp):=by show _=_;unfold pbit pstep;simp[hbit]
     have hb2:((5:Int)/2^j).tmod 2=1:=by
      rw[Int.tmod_eq_emod_of_nonneg (Int.ediv_nonneg (by decide) (Int.pow_nonneg (by decide)))];have:(((5/2^j%2:Nat)):Int)=1:=by rw[hbit];rfl
      simpa using this
     have hb3:((5:Int)/2^j)%2=1:=by
      have:(((5/2^j%2:Nat)):Int)=1:=by rw[hbit];rfl
      simpa using this
     clear hbit;go_wp2_with fail;refine(fmul_any _ _ c2 cap (s*s%fp) x _ HF2.out HA2.out).mono ?_;rintro e w3 ⟨g3,c3,rfl,hg3,hg3',hf3,hb3'⟩;have HP:Hid (PwS w (pwF x 5 3 251 (252-j)) (.slice (some ⟨g3,0,none⟩) 16 c3) w3):=by
      rw[HST.out,HPS.out];exact⟨⟨g3,c3,rfl,by have:=HB2.out.size;omega,hg3',hf3⟩,HB2.out.trans (hb3'.mono HB2.out.size)⟩
     clear hf3 hb3' HST HPS HB2 HF2 HA2;go_wp2;go_roundw
     case rel=>exact⟨j,by omega,rfl,HP.out⟩
     case measure=>first|(simp[intOf];done)|(simp[intOf];omega)
    ·have HPS:Hid (pstep x (pbit 5 3 j) s=s*s%fp):=by show _=_;unfold pbit pstep;simp[hge,hbit]
     have hbit0:5/2^j%2=0:=by omega
     have hb3:((5:Int)/2^j)%2=0:=by
      have:(((5/2^j%2:Nat)):Int)=0:=by rw[hbit0];rfl
      simpa using this
     have hb2:((5:Int)/2^j).tmod 2=0:=by
      rw[Int.tmod_eq_emod_of_nonneg (Int.ediv_nonneg (by decide) (Int.pow_nonneg (by decide)))];exact hb3
     clear hbit hbit0;have HP:Hid (PwS w (pwF x 5 3 251 (252-j)) (.slice (some ⟨g2,0,none⟩) 16 c2) w2):=by
      rw[HST.out,HPS.out];exact⟨⟨g2,c2,rfl,by omega,hg2',HF2.out⟩,HB2.out⟩
     clear HST HPS HB2 HF2 HA2;go_wp2;go_roundw
     case rel=>exact⟨j,by omega,rfl,HP.out⟩
     case measure=>first|(simp[intOf];done)|(simp[intOf];omega)
  ·obtain rfl:j=0:=by omega
   have HP:Hid (FeP w (pwF x 5 3 251 252) (.returned (.slice (some ⟨g,0,none⟩) 16 c)) wr):=⟨g,c,rfl,hg,hg',hf,hbel⟩
   clear hf hbel;go_wp2
   go_ret
   exact HP.out
set_option maxHeartbeats 1000000 in
theorem pow2_any (a:Option Addr) (cap:Nat) (x:Int) (w:World) (ha:FeA w a x) :
  Calls Tryz.prog 59 #[.slice a 16 cap,.int .i64 2] w (FeP w (pwF x 3 3 252 253)):=by
 have HA:Hid (FeA w a x):=ha
 clear ha
 go_enter Tryz.func59,Tryz.ntmps59
 go_wp2_with fail
 refine(small_any 1 _ (by decide) (by decide)).mono ?_
 rintro e w1 ⟨g1,c1,rfl,hg1,hg1',hf1,hb1⟩
 have HS:Hid (PwS w (pwF x 3 3 252 0) (.slice (some ⟨g1,0,none⟩) 16 c1) w1):=⟨⟨g1,c1,rfl,hg1,hg1',hf1⟩,hb1⟩
 clear hf1 hb1
 go_wp2
 go_loopw [8,9] (fun v i wr=>∃ j:Nat,j≤253∧i=.int .i64 ((j:Int)-1)∧PwS w (pwF x 3 3 252 (253-j)) v wr) (fun _ i _=>(intOf i+1).toNat)
 case atStart=>exact⟨253,Nat.le_refl _,by go_num,HS.out⟩
 case round=>
  clear HS;obtain⟨j,hj,rfl,⟨⟨g,c,rfl,hg,hg',hf⟩,hbel⟩⟩:=hrel;by_cases hj0:0<j
  ·obtain⟨j,rfl⟩:∃ i,j=i+1:=⟨j-1,by omega⟩
   have ei:((j+1:Nat):Int)-1=(j:Int):=by omega
   rw[ei];clear ei;have hstep:pwF x 3 3 252 (253-j)=pstep x (pbit 3 3 j) (pwF x 3 3 252 (253-(j+1))):=by
    have e1:253-j=(253-(j+1))+1:=by omega
    rw[e1,pwF];have e2:252-(253-(j+1))=j:=by omega
    rw[e2]
   have HST:Hid (pwF x 3 3 252 (253-j)=pstep x (pbit 3 3 j) (pwF x 3 3 252 (253-(j+1)))):=hstep;clear hstep;generalize pwF x 3 3 252 (253-(j+1))=s at *;have HF:Hid (FeA wr (some ⟨g,0,none⟩) s):=hf;have HB:Hid (Below w.heap.size w wr):=hbel;clear hf hbel;go_wp2_with fail;refine(fmul_any _ _ c c s s _ HF.out HF.out).mono ?_;rintro e w2 ⟨g2,c2,rfl,hg2,hg2',hf2,hb2⟩;have HB2:Hid (Below w.heap.size w w2):=HB.out.trans (hb2.mono HB.out.size);have HF2:Hid (FeA w2 (some ⟨g2,0,none⟩) (s*s%fp)):=hf2;have HA2:Hid (FeA w2 a x):=(HA.out.below HB.out).below hb2;have hs:=HB.out.size;clear hf2 hb2 HF HB;by_cases hge:3≤j
   ·have hge':(3:Int)≤(j:Int):=by omega
    have hge2:decide ((3:Int)≤(j:Int))=true:=by simpa using hge'
    have HPS:Hid (pstep x (pbit 3 3 j) s=s*s%fp*x%fp):=by show _=_;unfold pbit pstep;simp[hge]
    go_wp2_with fail;refine(fmul_any _ _ c2 cap (s*s%fp) x _ HF2.out HA2.out).mono ?_;rintro e w3 ⟨g3,c3,rfl,hg3,hg3',hf3,hb3⟩;have HP:Hid (PwS w (pwF x 3 3 252 (253-j)) (.slice (some ⟨g3,0,none⟩) 16 c3) w3):=by
     rw[HST.out,HPS.out];exact⟨⟨g3,c3,rfl,by have:=HB2.out.size;omega,hg3',hf3⟩,HB2.out.trans (hb3.mono HB2.out.size)⟩
    clear hf3 hb3 HST HPS HB2 HF2 HA2;go_wp2;go_roundw
    case rel=>exact⟨j,by omega,rfl,HP.out⟩
    case measure=>first|(simp[intOf];done)|(simp[intOf];omega)
   ·have hge':¬ (3:Int)≤(j:Int):=by omega
    have hge2:decide ((3:Int)≤(j:Int))=false:=by simpa using hge'
    by_cases hbit:3/2^j%2=1
    ·have HPS:Hid (pstep x (pbit 3 3 j) s=s*s%fp*x%fp):=by show _=_;unfold pbit pstep;simp[hbit]
     have hb2:((3:Int)/2^j).tmod 2=1:=by
      rw[Int.tmod_eq_emod_of_nonneg (Int.ediv_nonneg (by decide) (Int.pow_nonneg (by decide)))];have:(((3/2^j%2:Nat)):Int)=1:=by rw[hbit];rfl
      simpa using this
     have hb3:((3:Int)/2^j)%2=1:=by
      have:(((3/2^j%2:Nat)):Int)=1:=by rw[hbit];rfl
      simpa using this
     clear hbit;go_wp2_with fail;refine(fmul_any _ _ c2 cap (s*s%fp) x _ HF2.out HA2.out).mono ?_;rintro e w3 ⟨g3,c3,rfl,hg3,hg3',hf3,hb3'⟩;have HP:Hid (PwS w (pwF x 3 3 252 (253-j)) (.slice (some ⟨g3,0,none⟩) 16 c3) w3):=by
      rw[HST.out,HPS.out];exact⟨⟨g3,c3,rfl,by have:=HB2.out.size;omega,hg3',hf3⟩,HB2.out.trans (hb3'.mono HB2.out.size)⟩
     clear hf3 hb3' HST HPS HB2 HF2 HA2;go_wp2;go_roundw
     case rel=>exact⟨j,by omega,rfl,HP.out⟩
     case measure=>first|(simp[intOf];done)|(simp[intOf];omega)
    ·have HPS:Hid (pstep x (pbit 3 3 j) s=s*s%fp):=by show _=_;unfold pbit pstep;simp[hge,hbit]
     have hbit0:3/2^j%2=0:=by omega
     have hb3:((3:Int)/2^j)%2=0:=by
      have:(((3/2^j%2:Nat)):Int)=0:=by rw[hbit0];rfl
      simpa using this
     have hb2:((3:Int)/2^j).tmod 2=0:=by
      rw[Int.tmod_eq_emod_of_nonneg (Int.ediv_nonneg (by decide) (Int.pow_nonneg (by decide)))];exact hb3
     clear hbit hbit0;have HP:Hid (PwS w (pwF x 3 3 252 (253-j)) (.slice (some ⟨g2,0,none⟩) 16 c2) w2):=by
      rw[HST.out,HPS.out];exact⟨⟨g2,c2,rfl,by omega,hg2',HF2.out⟩,HB2.out⟩
     clear HST HPS HB2 HF2 HA2;go_wp2;go_roundw
     case rel=>exact⟨j,by omega,rfl,HP.out⟩
     case measure=>first|(simp[intOf];done)|(simp[intOf];omega)
  ·obtain rfl:j=0:=by omega
   have HP:Hid (FeP w (pwF x 3 3 252 253) (.returned (.slice (some ⟨g,0,none⟩) 16 c)) wr):=⟨g,c,rfl,hg,hg',hf,hbel⟩
   clear hf hbel;go_wp2
   go_ret
   exact HP.out
end Go.Proofs.YtapejbpgdjbjjaaGreatDoor
