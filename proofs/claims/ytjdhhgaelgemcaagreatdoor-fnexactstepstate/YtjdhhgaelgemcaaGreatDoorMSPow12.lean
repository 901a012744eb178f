import Derived.Test.YtjdhhgaelgemcaaGreatDoorMSPow
import Derived.Test.YtjdhhgaelgemcaaGreatDoorMSvP
import Derived.Test.YtjdhhgaelgemcaaGreatDoorMTxt
import Derived.Test.YtjdhhgaelgemcaaGreatDoorMU8i
import Derived.Test.YtjdhhgaelgemcaaGreatDoorMSvM
namespace Go.Proofs.YtjdhhgaelgemcaaGreatDoor
open Go.ChangeShapes Go.WideShapes Go.ChangeAt Go.RowKit
set_option linter.unusedVariables false
set_option maxHeartbeats 1000000 in
theorem pow1_any (a:Option Addr) (cap:Nat) (x:Int) (w:World) (ha:FeA w a x) :
  Calls Tryz.prog 88 #[.slice a 16 cap,.int .i64 1] w (FeP w (pwF x 5 3 251 252)):=by
 have HA:Hid (FeA w a x):=ha;clear ha;go_enter Tryz.func88,Tryz.ntmps88;go_wp2_with fail;refine(small_any 1 _ (by decide) (by decide)).mono ?_;rintro e w1 ⟨g1,c1,rfl,hg1,hg1',hf1,hb1⟩;have HS:Hid (PwS w (pwF x 5 3 251 0) (.slice (some ⟨g1,0,none⟩) 16 c1) w1):=⟨⟨g1,c1,rfl,hg1,hg1',hf1⟩,hb1⟩
 clear hf1 hb1;go_wp2
 go_loopw [8,9] (fun v i wr=>∃ j:Nat,j≤252∧i=.int .i64 ((j:Int)-1)∧PwS w (pwF x 5 3 251 (252-j)) v wr) (fun _ i _=>(intOf i+1).toNat)
 case atStart=>exact⟨252,Nat.le_refl _,by go_num,HS.out⟩
 case round=>
  clear HS;obtain⟨j,hj,rfl,⟨⟨g,c,rfl,hg,hg',hf⟩,hbel⟩⟩:=hrel;by_cases hj0:0<j
  ·obtain⟨j,rfl⟩:∃ i,j=i+1:=⟨j-1,by omega⟩
   have ei:((j+1:Nat):Int)-1=(j:Int):=by omega
   rw[ei];clear ei;have hstep:pwF x 5 3 251 (252-j)=pstep x (pbit 5 3 j) (pwF x 5 3 251 (252-(j+1))):=by
    have e1:252-j=(252-(j+1))+1:=by omega
    rw[e1,pwF];have e2:251-(252-(j+1))=j:=by omega
    rw[e2]
   have HST:Hid (pwF x 5 3 251 (252-j)=pstep x (pbit 5 3 j) (pwF x 5 3 251 (252-(j+1)))):=hstep;clear hstep;generalize pwF x 5 3 251 (252-(j+1))=s at *;have HF:Hid (FeA wr (some ⟨g,0,none⟩) s):=hf;have HB:Hid (Below w.heap.size w wr):=hbel;clear hf hbel;go_wp2_with fail;refine(fmul_any _ _ c c s s _ HF.out HF.out).mono ?_;rintro e w2 ⟨g2,c2,rfl,hg2,hg2',hf2,hb2⟩;have HB2:Hid (Below w.heap.size w w2):=HB.out.trans (hb2.mono HB.out.size);have HF2:Hid (FeA w2 (some ⟨g2,0,none⟩) (s*s%fp)):=hf2;have HA2:Hid (FeA w2 a x):=(HA.out.below HB.out).below hb2;have hs:=HB.out.size;clear hf2 hb2 HF HB;by_cases hge:3≤j
   ·have hge':(3:Int)≤(j:Int):=by omega
    have hge2:decide ((3:Int)≤(j:Int))=true:=by simpa using hge'
    have HPS:Hid (pstep x (pbit 5 3 j) s=s*s%fp*x%fp):=by show _=_;unfold pbit pstep;simp[hge]
    go_wp2_with fail;refine(fmul_any _ _ c2 cap (s*s%fp) x _ HF2.out HA2.out).mono ?_;rintro e w3 ⟨g3,c3,rfl,hg3,hg3',hf3,hb3⟩;have HP:Hid (PwS w (pwF x 5 3 251 (252-j)) (.slice (some ⟨g3,0,none⟩) 16 c3) w3):=by
     rw[HST.out,HPS.out];exact⟨⟨g3,c3,rfl,by have:=HB2.out.size;omega,hg3',hf3⟩,HB2.out.trans (hb3.mono HB2.out.size)⟩
    clear hf3 hb3 HST HPS HB2 HF2 HA2;go_wp2;go_roundw
    case rel=>exact⟨j,by omega,rfl,HP.out⟩
    case measure=>first|(simp[intOf];done)|(simp[intOf];omega)
   ·have hge':¬ (3:Int)≤(j:Int):=by omega
    have hge2:decide ((3:Int)≤(j:Int))=false:=by simpa using hge'
    by_cases hbit:5/2^j%2=1
    ·have HPS:Hid (pstep x (pbit 5 3 j) s=s*s%fp*x%fp):=by show _=_;unfold pbit pstep;simp[hbit]
     have hb2:((5:Int)/2^j).tmod 2=1:=by
      rw[Int.tmod_eq_emod_of_nonneg (Int.ediv_nonneg (by decide) (Int.pow_nonneg (by decide)))];have:(((5/2^j%2:Nat)):Int)=1:=by rw[hbit];rfl
      simpa using this
     have hb3:((5:Int)/2^j)%2=1:=by
      have:(((5/2^j%2:Nat)):Int)=1:=by rw[hbit];rfl
      simpa using this
     clear hbit;go_wp2_with fail;refine(fmul_any _ _ c2 cap (s*s%fp) x _ HF2.out HA2.out).mono ?_;rintro e w3 ⟨g3,c3,rfl,hg3,hg3',hf3,hb3'⟩;have HP:Hid (PwS w (pwF x 5 3 251 (252-j)) (.slice (some ⟨g3,0,none⟩) 16 c3) w3):=by
      rw[HST.out,HPS.out];exact⟨⟨g3,c3,rfl,by have:=HB2.out.size;omega,hg3',hf3⟩,HB2.out.trans (hb3'.mono HB2.out.size)⟩
     clear hf3 hb3' HST HPS HB2 HF2 HA2;go_wp2;go_roundw
     case rel=>exact⟨j,by omega,rfl,HP.out⟩
     case measure=>first|(simp[intOf];done)|(simp[intOf];omega)
    ·have HPS:Hid (pstep x (pbit 5 3 j) s=s*s%fp):=by show _=_;unfold pbit pstep;simp[hge,hbit]
     have hbit0:5/2^j%2=0:=by omega
     have hb3:((5:Int)/2^j)%2=0:=by
      have:(((5/2^j%2:Nat)):Int)=0:=by rw[hbit0];rfl
      simpa using this
     have hb2:((5:Int)/2^j).tmod 2=0:=by
      rw[Int.tmod_eq_emod_of_nonneg (Int.ediv_nonneg (by decide) (Int.pow_nonneg (by decide)))];exact hb3
     clear hbit hbit0;have HP:Hid (PwS w (pwF x 5 3 251 (252-j)) (.slice (some ⟨g2,0,none⟩) 16 c2) w2):=by
      rw[HST.out,HPS.out];exact⟨⟨g2,c2,rfl,by omega,hg2',HF2.out⟩,HB2.out⟩
     clear HST HPS HB2 HF2 HA2;go_wp2;go_roundw
     case rel=>exact⟨j,by omega,rfl,HP.out⟩
     case measure=>first|(simp[intOf];done)|(simp[intOf];omega)
  ·obtain rfl:j=0:=by omega
   have HP:Hid (FeP w (pwF x 5 3 251 252) (.returned (.slice (some ⟨g,0,none⟩) 16 c)) wr):=⟨g,c,rfl,hg,hg',hf,hbel⟩
   clear hf hbel;go_wp2
   go_ret
   exact HP.out
set_option maxHeartbeats 1000000 in
theorem pow2_any (a:Option Addr) (cap:Nat) (x:Int) (w:World) (ha:FeA w a x) :
  Calls Tryz.prog 88 #[.slice a 16 cap,.int .i64 2] w (FeP w (pwF x 3 3 252 253)):=by
 have HA:Hid (FeA w a x):=ha;clear ha;go_enter Tryz.func88,Tryz.ntmps88;go_wp2_with fail;refine(small_any 1 _ (by decide) (by decide)).mono ?_;rintro e w1 ⟨g1,c1,rfl,hg1,hg1',hf1,hb1⟩;have HS:Hid (PwS w (pwF x 3 3 252 0) (.slice (some ⟨g1,0,none⟩) 16 c1) w1):=⟨⟨g1,c1,rfl,hg1,hg1',hf1⟩,hb1⟩
 clear hf1 hb1;go_wp2
 go_loopw [8,9] (fun v i wr=>∃ j:Nat,j≤253∧i=.int .i64 ((j:Int)-1)∧PwS w (pwF x 3 3 252 (253-j)) v wr) (fun _ i _=>(intOf i+1).toNat)
 case atStart=>exact⟨253,Nat.le_refl _,by go_num,HS.out⟩
 case round=>
  clear HS;obtain⟨j,hj,rfl,⟨⟨g,c,rfl,hg,hg',hf⟩,hbel⟩⟩:=hrel;by_cases hj0:0<j
  ·obtain⟨j,rfl⟩:∃ i,j=i+1:=⟨j-1,by omega⟩
   have ei:((j+1:Nat):Int)-1=(j:Int):=by omega
   rw[ei];clear ei;have hstep:pwF x 3 3 252 (253-j)=pstep x (pbit 3 3 j) (pwF x 3 3 252 (253-(j+1))):=by
    have e1:253-j=(253-(j+1))+1:=by omega
    rw[e1,pwF];have e2:252-(253-(j+1))=j:=by omega
    rw[e2]
   have HST:Hid (pwF x 3 3 252 (253-j)=pstep x (pbit 3 3 j) (pwF x 3 3 252 (253-(j+1)))):=hstep;clear hstep;generalize pwF x 3 3 252 (253-(j+1))=s at *;have HF:Hid (FeA wr (some ⟨g,0,none⟩) s):=hf;have HB:Hid (Below w.heap.size w wr):=hbel;clear hf hbel;go_wp2_with fail;refine(fmul_any _ _ c c s s _ HF.out HF.out).mono ?_;rintro e w2 ⟨g2,c2,rfl,hg2,hg2',hf2,hb2⟩;have HB2:Hid (Below w.heap.size w w2):=HB.out.trans (hb2.mono HB.out.size);have HF2:Hid (FeA w2 (some ⟨g2,0,none⟩) (s*s%fp)):=hf2;have HA2:Hid (FeA w2 a x):=(HA.out.below HB.out).below hb2;have hs:=HB.out.size;clear hf2 hb2 HF HB;by_cases hge:3≤j
   ·have hge':(3:Int)≤(j:Int):=by omega
    have hge2:decide ((3:Int)≤(j:Int))=true:=by simpa using hge'
    have HPS:Hid (pstep x (pbit 3 3 j) s=s*s%fp*x%fp):=by show _=_;unfold pbit pstep;simp[hge]
    go_wp2_with fail;refine(fmul_any _ _ c2 cap (s*s%fp) x _ HF2.out HA2.out).mono ?_;rintro e w3 ⟨g3,c3,rfl,hg3,hg3',hf3,hb3⟩;have HP:Hid (PwS w (pwF x 3 3 252 (253-j)) (.slice (some ⟨g3,0,none⟩) 16 c3) w3):=by
     rw[HST.out,HPS.out];exact⟨⟨g3,c3,rfl,by have:=HB2.out.size;omega,hg3',hf3⟩,HB2.out.trans (hb3.mono HB2.out.size)⟩
    clear hf3 hb3 HST HPS HB2 HF2 HA2;go_wp2;go_roundw
    case rel=>exact⟨j,by omega,rfl,HP.out⟩
    case measure=>first|(simp[intOf];done)|(simp[intOf];omega)
   ·have hge':¬ (3:Int)≤(j:Int):=by omega
    have hge2:decide ((3:Int)≤(j:Int))=false:=by simpa using hge'
    by_cases hbit:3/2^j%2=1
    ·have HPS:Hid (pstep x (pbit 3 3 j) s=s*s%fp*x%fp):=by show _=_;unfold pbit pstep;simp[hbit]
     have hb2:((3:Int)/2^j).tmod 2=1:=by
      rw[Int.tmod_eq_emod_of_nonneg (Int.ediv_nonneg (by decide) (Int.pow_nonneg (by decide)))];have:(((3/2^j%2:Nat)):Int)=1:=by rw[hbit];rfl
      simpa using this
     have hb3:((3:Int)/2^j)%2=1:=by
      have:(((3/2^j%2:Nat)):Int)=1:=by rw[hbit];rfl
      simpa using this
     clear hbit;go_wp2_with fail;refine(fmul_any _ _ c2 cap (s*s%fp) x _ HF2.out HA2.out).mono ?_;rintro e w3 ⟨g3,c3,rfl,hg3,hg3',hf3,hb3'⟩;have HP:Hid (PwS w (pwF x 3 3 252 (253-j)) (.slice (some ⟨g3,0,none⟩) 16 c3) w3):=by
      rw[HST.out,HPS.out];exact⟨⟨g3,c3,rfl,by have:=HB2.out.size;omega,hg3',hf3⟩,HB2.out.trans (hb3'.mono HB2.out.size)⟩
     clear hf3 hb3' HST HPS HB2 HF2 HA2;go_wp2;go_roundw
     case rel=>exact⟨j,by omega,rfl,HP.out⟩
     case measure=>first|(simp[intOf];done)|(simp[intOf];omega)
    ·have HPS:Hid (pstep x (pbit 3 3 j) s=s*s%fp):=by show _=_;unfold pbit pstep;simp[hge,hbit]
     have hbit0:3/2^j%2=0:=by omega
     have hb3:((3:Int)/2^j)%2=0:=by
      have:(((3/2^j%2:Nat)):Int)=0:=by rw[hbit0];rfl
      simpa using this
     have hb2:((3:Int)/2^j).tmod 2=0:=by
      rw[Int.tmod_eq_emod_of_nonneg (Int.ediv_nonneg (by decide) (Int.pow_nonneg (by decide)))];exact hb3
     clear hbit hbit0;have HP:Hid (PwS w (pwF x 3 3 252 (253-j)) (.slice (some ⟨g2,0,none⟩) 16 c2) w2):=by
      rw[HST.out,HPS.out];exact⟨⟨g2,c2,rfl,by omega,hg2',HF2.out⟩,HB2.out⟩
     clear HST HPS HB2 HF2 HA2;go_wp2;go_roundw
     case rel=>exact⟨j,by omega,rfl,HP.out⟩
     case measure=>first|(simp[intOf];done)|(simp[intOf];omega)
  ·obtain rfl:j=0:=by omega
   have HP:Hid (FeP w (pwF x 3 3 252 253) (.returned (.slice (some ⟨g,0,none⟩) 16 c)) wr):=⟨g,c,rfl,hg,hg',hf,hbel⟩
   clear hf hbel;go_wp2
   go_ret
   exact HP.out
theorem ls_eq {xs ys:List Int} (hx:xs.length=16) (hy:ys.length=16) (dx:∀ i,0≤xs.getD i 0∧xs.getD i 0<65536) (dy:∀ i,0≤ys.getD i 0∧ys.getD i 0<65536):val 65536 xs=val 65536 ys↔∀ i,i<16→xs.getD i 0=ys.getD i 0:=by
 constructor
 ·intro h i _;rw[val_inj (B:=65536) (by decide) (dig_of_get dx) (dig_of_get dy) (by omega) h]
 ·intro h;rw[list16 hx hy h]
set_option maxHeartbeats 1000000 in
theorem equal_any (a a':Option Addr) (cap cap':Nat) (x y:Int) (w:World) (ha:FeA w a x) (ha':FeA w a' y) :
  Calls Tryz.prog 92 #[.slice a 16 cap,.slice a' 16 cap'] w fun e w'=>e=.returned (.bool (decide (x=y)))∧Below w.heap.size w w':=by
 have HA':Hid (FeA w a' y):=ha';go_enter Tryz.func92,Tryz.ntmps92;go_wp2_with fail;refine(least_any a cap x _ ha).mono ?_;rintro e w1 ⟨g1,c1,rfl,hg1,hg1',hl1,hb1⟩;have HB1:Hid (Below w.heap.size w w1):=hb1;have HL1:Hid (LsA w1 (some ⟨g1,0,none⟩) x):=hl1;have ha2:=HA'.out.below hb1;clear ha ha' HA' hl1 hb1;go_wp2_with fail;refine(least_any a' cap' y _ ha2).mono ?_;rintro e w2 ⟨g2,c2,rfl,hg2,hg2',hl2,hb2⟩;have HB2:Hid (Below w.heap.size w w2):=HB1.out.trans (hb2.mono HB1.out.size);have hl1:=HL1.out.below hb2;obtain⟨xs,hA1,hx1,hx2,hx3⟩:=hl1;obtain⟨ys,hA2,hy1,hy2,hy3⟩:=hl2;have HEQ:Hid (x=y↔∀ i,i<16→xs.getD i 0=ys.getD i 0):=by
  show _↔_
  rw[←hx3,←hy3];exact ls_eq hx1 hy1 hx2 hy2
 have HC1:Hid (∀ i,i<16→w2.cell? ⟨g1,i,none⟩=some (.int .i64 (xs.getD i 0))):=fun i hi=>by
  obtain⟨b,o,e,_,h⟩:=hA1.get (by omega);cases e;have:=h i (by omega)
  rwa [Nat.zero_add] at this
 have HC2:Hid (∀ i,i<16→w2.cell? ⟨g2,i,none⟩=some (.int .i64 (ys.getD i 0))):=fun i hi=>by
  obtain⟨b,o,e,_,h⟩:=hA2.get (by omega);cases e;have:=h i (by omega)
  rwa [Nat.zero_add] at this
 clear ha2 hb2 HB1 HL1 hA1 hA2 hx1 hx2 hx3 hy1 hy2 hy3;go_wp2
 go_loopw [7] (fun i wr=>∃(k q:Nat),k≤16∧i=.int .i64 k∧wr=w2.drewN q∧∀ i,i<k→xs.getD i 0=ys.getD i 0) (fun i _=>16-(intOf i).toNat)
 case atStart=>exact⟨0,0,by decide,rfl,rfl,fun i hi=>by omega⟩
 case round=>
  obtain⟨k,q,hk,rfl,rfl,hall⟩:=hrel;have HALL:Hid (∀ i,i<k→xs.getD i 0=ys.getD i 0):=hall;clear hall;by_cases hlt:k<16
  ·have hlt':(k:Int)<16:=by omega
   have c1':=HC1.out k hlt;have c2':=HC2.out k hlt;have HXY:Hid (∀ d e:Int,xs.getD k 0=d→ys.getD k 0=e→d=e→∀ i,i<k+1→xs.getD i 0=ys.getD i 0):=fun d e h1 h2 h3 i hi=>by
    by_cases h:i=k
    ·subst h;rw[h1,h2,h3]
    ·exact HALL.out i (by omega)
   have HNE:Hid (xs.getD k 0≠ys.getD k 0→decide (x=y)=false):=fun h=>decide_eq_false (fun e=>h (HEQ.out.1 e k hlt))
   by_cases hxy:xs.getD k 0=ys.getD k 0
   ·have HS:Hid (∀ i,i<k+1→xs.getD i 0=ys.getD i 0):=HXY.out _ _ rfl rfl hxy;rw[←hxy] at c2';clear HXY HNE hxy;generalize xs.getD k 0=d at *;go_wp2
    go_quiet (fail)
    rw[dN_dN];clear c1' c2';go_wp2;go_roundw
    case rel=>exact⟨k+1,q+nq,by omega,by go_num,rfl,HS.out⟩
    case measure=>simp[intOf];omega
   ·have HD:Hid (decide (x=y)=false):=HNE.out hxy;clear HXY HNE;generalize xs.getD k 0=d at *;generalize ys.getD k 0=d' at *;have hdd:(d == d')=false:=by simpa using hxy
    have hdn:(d != d')=true:=by simpa using hxy
    clear hxy;go_wp2
    go_quiet (fail)
    rw[dN_dN];clear c1' c2' hdd hdn;go_wp2
    go_ret
    exact⟨by rw[HD.out];rfl,⟨HB2.out.os,HB2.out.tape,HB2.out.output,HB2.out.size,HB2.out.block⟩⟩
  ·have hk16:k=16:=by omega
   have HD:Hid (decide (x=y)=true):=decide_eq_true (HEQ.out.2 (fun i hi=>HALL.out i (by omega)));have hlt':¬ (k:Int)<16:=by omega
   clear hk16;go_wp2
   go_ret
   exact⟨by rw[HD.out];rfl,⟨HB2.out.os,HB2.out.tape,HB2.out.output,HB2.out.size,HB2.out.block⟩⟩
structure SR (w wr:World) (L:List (Option Addr×Int)):Prop where
 below:Below w.heap.size w wr
 fe:∀ e∈L,FeA wr e.1 e.2
theorem SR.start (w:World) (L:List (Option Addr×Int)) (h:∀ e∈L,FeA w e.1 e.2):SR w w L:=⟨Below.refl _ _,h⟩
theorem SR.at {w wr:World} {L:List (Option Addr×Int)} (h:SR w wr L) (i:Nat) (a:Option Addr) (x:Int) (hi:L[i]?=some (a,x)):FeA wr a x:=h.fe _ (List.mem_of_getElem? hi)
theorem SR.low {w wr w':World} {L:List (Option Addr×Int)} (h:SR w wr L) (b:Below wr.heap.size wr w'):SR w w' L:=⟨h.below.trans (b.mono h.below.size),fun e he=>(h.fe e he).below b⟩
theorem SR.add {w wr w':World} {L:List (Option Addr×Int)} {a:Option Addr} {x:Int} (h:SR w wr L) (hf:FeA w' a x) (b:Below wr.heap.size wr w'):SR w w' ((a,x)::L):=
 ⟨(h.low b).below,fun e he=>by
  rcases List.mem_cons.1 he with rfl|he
  ·exact hf
  ·exact(h.low b).fe e he⟩
def inv0 (x:Int):Int:=pwF x 11 5 254 255
def pw1 (x:Int):Int:=pwF x 5 3 251 252
def pw2 (x:Int):Int:=pwF x 3 3 252 253
def mdD:Int:=(-121665)%fp*inv0 (121666%fp)%fp
def mdU (Y:Int):Int:=(Y*Y%fp-1%fp)%fp
def mdV (Y D:Int):Int:=(D*(Y*Y%fp)%fp+1%fp)%fp
def mdW (Y D:Int):Int:=mdU Y*inv0 (mdV Y D)%fp
def mdR (Y D:Int):Int:=mdW Y D*pw1 (mdW Y D)%fp
def mdQ (Y D:Int):Int:=mdR Y D*pw2 (2%fp)%fp
def mdOk (Y D:Int):Bool:=decide (mdR Y D*mdR Y D%fp=mdW Y D) || decide (mdQ Y D*mdQ Y D%fp=mdW Y D)
def mdX (Y D:Int):Int:=if mdR Y D*mdR Y D%fp=mdW Y D then mdR Y D else mdQ Y D
def RtP (w:World) (Y D:Int) (e:Ending) (w':World):Prop:=
 ∃ g c,e=.returned (.tuple #[.bool (mdOk Y D),.slice (some ⟨g,0,none⟩) 16 c])∧w.heap.size≤g∧g<w'.heap.size∧FeA w' (some ⟨g,0,none⟩) (mdX Y D)∧Below w.heap.size w w'
set_option maxHeartbeats 2000000 in
theorem d_any (w:World):Calls Tryz.prog 71 #[] w (FeP w mdD):=by
 have HS0:Hid (SR w w []):=SR.start w [] (by simp);go_enter Tryz.func71,Tryz.ntmps71;go_wp2_with fail;refine(small_any (-121665) _ (by decide) (by decide)).mono ?_;rintro e w1 ⟨g1,c1,rfl,k1,l1,hf,hb⟩;have HS1:Hid (SR w w1 [(some ⟨g1,0,none⟩,(-121665)%fp)]):=HS0.out.add hf hb;have m1:=hb.size;clear hf hb HS0;go_wp2_with fail;refine(small_any 121666 _ (by decide) (by decide)).mono ?_;rintro e w2 ⟨g2,c2,rfl,k2,l2,hf,hb⟩;have HS2:Hid (SR w w2 [(some ⟨g2,0,none⟩,121666%fp),(some ⟨g1,0,none⟩,(-121665)%fp)]):=HS1.out.add hf hb;have m2:=hb.size;clear hf hb HS1;go_wp2_with fail;refine(pow0_any _ c2 (121666%fp) _ (HS2.out.at 0 _ _ rfl)).mono ?_;rintro e w3 ⟨g3,c3,rfl,k3,l3,hf,hb⟩;have HS3:Hid (SR w w3 [(some ⟨g3,0,none⟩,inv0 (121666%fp)),(some ⟨g2,0,none⟩,121666%fp),(some ⟨g1,0,none⟩,(-121665)%fp)]):=HS2.out.add hf hb;have m3:=hb.size;clear hf hb HS2;go_wp2_with fail;refine(fmul_any _ _ c1 c3 ((-121665)%fp) (inv0 (121666%fp)) _ (HS3.out.at 2 _ _ rfl) (HS3.out.at 0 _ _ rfl)).mono ?_;rintro e w4 ⟨g4,c4,rfl,k4,l4,hf,hb⟩;have HS4:Hid (SR w w4 [(some ⟨g4,0,none⟩,mdD),(some ⟨g3,0,none⟩,inv0 (121666%fp)),(some ⟨g2,0,none⟩,121666%fp),(some ⟨g1,0,none⟩,(-121665)%fp)]):=HS3.out.add hf hb;have m4:=hb.size;clear hf hb HS3;have HP:Hid (w.heap.size≤g4∧g4<w4.heap.size):=⟨by omega,by omega⟩
 go_wp2
 go_ret
 exact⟨g4,c4,rfl,HP.out.1,HP.out.2,HS4.out.at 0 _ _ rfl,HS4.out.below⟩
set_option maxHeartbeats 4000000 in
theorem root_any (a a':Option Addr) (cap cap':Nat) (Y D:Int) (w:World) (ha:FeA w a Y) (ha':FeA w a' D) :
  Calls Tryz.prog 91 #[.slice a 16 cap,.slice a' 16 cap'] w (RtP w Y D):=by
 have HS0:Hid (SR w w [(a,Y),(a',D)]):=SR.start w _ (fun e he=>by
  simp only[List.mem_cons,List.not_mem_nil,or_false] at he;rcases he with rfl|rfl
  ·exact ha
  ·exact ha')
 clear ha ha';go_enter Tryz.func91,Tryz.ntmps91;go_wp2_with fail;refine(fmul_any _ _ cap cap (Y) (Y) _ (HS0.out.at 0 _ _ rfl) (HS0.out.at 0 _ _ rfl)).mono ?_;rintro e w1 ⟨g1,c1,rfl,k1,l1,hf,hb⟩;have HS1:Hid (SR w w1 [(some ⟨g1,0,none⟩,Y*Y%fp),(a,Y),(a',D)]):=HS0.out.add hf hb;have m1:=hb.size;clear hf hb HS0;go_wp2_with fail;refine(small_any 1 _ (by decide) (by decide)).mono ?_;rintro e w2 ⟨g2,c2,rfl,k2,l2,hf,hb⟩;have HS2:Hid (SR w w2 [(some ⟨g2,0,none⟩,1%fp),(some ⟨g1,0,none⟩,Y*Y%fp),(a,Y),(a',D)]):=HS1.out.add hf hb;have m2:=hb.size;clear hf hb HS1;go_wp2_with fail;refine(fsub_any _ _ c1 c2 (Y*Y%fp) (1%fp) _ (HS2.out.at 1 _ _ rfl) (HS2.out.at 0 _ _ rfl)).mono ?_;rintro e w3 ⟨g3,c3,rfl,k3,l3,hf,hb⟩;have HS3:Hid (SR w w3 [(some ⟨g3,0,none⟩,mdU Y),(some ⟨g2,0,none⟩,1%fp),(some ⟨g1,0,none⟩,Y*Y%fp),(a,Y),(a',D)]):=HS2.out.add hf hb;have m3:=hb.size;clear hf hb HS2;go_wp2_with fail;refine(fmul_any _ _ cap' c1 (D) (Y*Y%fp) _ (HS3.out.at 4 _ _ rfl) (HS3.out.at 2 _ _ rfl)).mono ?_;rintro e w4 ⟨g4,c4,rfl,k4,l4,hf,hb⟩;have HS4:Hid (SR w w4 [(some ⟨g4,0,none⟩,D*(Y*Y%fp)%fp),(some ⟨g3,0,none⟩,mdU Y),(some ⟨g2,0,none⟩,1%fp),(some ⟨g1,0,none⟩,Y*Y%fp),(a,Y),(a',D)]):=HS3.out.add hf hb;have m4:=hb.size;clear hf hb HS3;go_wp2_with fail;refine(small_any 1 _ (by decide) (by decide)).mono ?_;rintro e w5 ⟨g5,c5,rfl,k5,l5,hf,hb⟩;have HS5:Hid (SR w w5 [(some ⟨g5,0,none⟩,1%fp),(some ⟨g4,0,none⟩,D*(Y*Y%fp)%fp),(some ⟨g3,0,none⟩,mdU Y),(some ⟨g2,0,none⟩,1%fp),(some ⟨g1,0,none⟩,Y*Y%fp),(a,Y),(a',D)]):=HS4.out.add hf hb;have m5:=hb.size;clear hf hb HS4;go_wp2_with fail;refine(fadd_any _ _ c4 c5 (D*(Y*Y%fp)%fp) (1%fp) _ (HS5.out.at 1 _ _ rfl) (HS5.out.at 0 _ _ rfl)).mono ?_;rintro e w6 ⟨g6,c6,rfl,k6,l6,hf,hb⟩;have HS6:Hid (SR w w6 [(some ⟨g6,0,none⟩,mdV Y D),(some ⟨g5,0,none⟩,1%fp),(some ⟨g4,0,none⟩,D*(Y*Y%fp)%fp),(some ⟨g3,0,none⟩,mdU Y),(some ⟨g2,0,none⟩,1%fp),(some ⟨g1,0,none⟩,Y*Y%fp),(a,Y),(a',D)]):=HS5.out.add hf hb;have m6:=hb.size;clear hf hb HS5;go_wp2_with fail;refine(pow0_any _ c6 (mdV Y D) _ (HS6.out.at 0 _ _ rfl)).mono ?_;rintro e w7 ⟨g7,c7,rfl,k7,l7,hf,hb⟩;have HS7:Hid (SR w w7 [(some ⟨g7,0,none⟩,inv0 (mdV Y D)),(some ⟨g6,0,none⟩,mdV Y D),(some ⟨g5,0,none⟩,1%fp),(some ⟨g4,0,none⟩,D*(Y*Y%fp)%fp),(some ⟨g3,0,none⟩,mdU Y),(some ⟨g2,0,none⟩,1%fp),(some ⟨g1,0,none⟩,Y*Y%fp),(a,Y),(a',D)]):=HS6.out.add hf hb;have m7:=hb.size;clear hf hb HS6;go_wp2_with fail;refine(fmul_any _ _ c3 c7 (mdU Y) (inv0 (mdV Y D)) _ (HS7.out.at 4 _ _ rfl) (HS7.out.at 0 _ _ rfl)).mono ?_;rintro e w8 ⟨g8,c8,rfl,k8,l8,hf,hb⟩;have HS8:Hid (SR w w8 [(some ⟨g8,0,none⟩,mdW Y D),(some ⟨g7,0,none⟩,inv0 (mdV Y D)),(some ⟨g6,0,none⟩,mdV Y D),(some ⟨g5,0,none⟩,1%fp),(some ⟨g4,0,none⟩,D*(Y*Y%fp)%fp),(some ⟨g3,0,none⟩,mdU Y),(some ⟨g2,0,none⟩,1%fp),(some ⟨g1,0,none⟩,Y*Y%fp),(a,Y),(a',D)]):=HS7.out.add hf hb;have m8:=hb.size;clear hf hb HS7;go_wp2_with fail;refine(pow1_any _ c8 (mdW Y D) _ (HS8.out.at 0 _ _ rfl)).mono ?_;rintro e w9 ⟨g9,c9,rfl,k9,l9,hf,hb⟩;have HS9:Hid (SR w w9 [(some ⟨g9,0,none⟩,pw1 (mdW Y D)),(some ⟨g8,0,none⟩,mdW Y D),(some ⟨g7,0,none⟩,inv0 (mdV Y D)),(some ⟨g6,0,none⟩,mdV Y D),(some ⟨g5,0,none⟩,1%fp),(some ⟨g4,0,none⟩,D*(Y*Y%fp)%fp),(some ⟨g3,0,none⟩,mdU Y),(some ⟨g2,0,none⟩,1%fp),(some ⟨g1,0,none⟩,Y*Y%fp),(a,Y),(a',D)]):=HS8.out.add hf hb;have m9:=hb.size;clear hf hb HS8;go_wp2_with fail;refine(fmul_any _ _ c8 c9 (mdW Y D) (pw1 (mdW Y D)) _ (HS9.out.at 1 _ _ rfl) (HS9.out.at 0 _ _ rfl)).mono ?_;rintro e w10 ⟨g10,c10,rfl,k10,l10,hf,hb⟩;have HS10:Hid (SR w w10 [(some ⟨g10,0,none⟩,mdR Y D),(some ⟨g9,0,none⟩,pw1 (mdW Y D)),(some ⟨g8,0,none⟩,mdW Y D),(some ⟨g7,0,none⟩,inv0 (mdV Y D)),(some ⟨g6,0,none⟩,mdV Y D),(some ⟨g5,0,none⟩,1%fp),(some ⟨g4,0,none⟩,D*(Y*Y%fp)%fp),(some ⟨g3,0,none⟩,mdU Y),(some ⟨g2,0,none⟩,1%fp),(some ⟨g1,0,none⟩,Y*Y%fp),(a,Y),(a',D)]):=HS9.out.add hf hb;have m10:=hb.size;clear hf hb HS9;go_wp2_with fail;refine(fmul_any _ _ c10 c10 (mdR Y D) (mdR Y D) _ (HS10.out.at 0 _ _ rfl) (HS10.out.at 0 _ _ rfl)).mono ?_;rintro e w11 ⟨g11,c11,rfl,k11,l11,hf,hb⟩;have HS11:Hid (SR w w11 [(some ⟨g11,0,none⟩,mdR Y D*mdR Y D%fp),(some ⟨g10,0,none⟩,mdR Y D),(some ⟨g9,0,none⟩,pw1 (mdW Y D)),(some ⟨g8,0,none⟩,mdW Y D),(some ⟨g7,0,none⟩,inv0 (mdV Y D)),(some ⟨g6,0,none⟩,mdV Y D),(some ⟨g5,0,none⟩,1%fp),(some ⟨g4,0,none⟩,D*(Y*Y%fp)%fp),(some ⟨g3,0,none⟩,mdU Y),(some ⟨g2,0,none⟩,1%fp),(some ⟨g1,0,none⟩,Y*Y%fp),(a,Y),(a',D)]):=HS10.out.add hf hb;have m11:=hb.size;clear hf hb HS10;go_wp2_with fail;refine(equal_any _ _ c11 c8 (mdR Y D*mdR Y D%fp) (mdW Y D) _ (HS11.out.at 0 _ _ rfl) (HS11.out.at 3 _ _ rfl)).mono ?_;rintro e wq ⟨rfl,hb⟩;have HSq:Hid (SR w wq [(some ⟨g11,0,none⟩,mdR Y D*mdR Y D%fp),(some ⟨g10,0,none⟩,mdR Y D),(some ⟨g9,0,none⟩,pw1 (mdW Y D)),(some ⟨g8,0,none⟩,mdW Y D),(some ⟨g7,0,none⟩,inv0 (mdV Y D)),(some ⟨g6,0,none⟩,mdV Y D),(some ⟨g5,0,none⟩,1%fp),(some ⟨g4,0,none⟩,D*(Y*Y%fp)%fp),(some ⟨g3,0,none⟩,mdU Y),(some ⟨g2,0,none⟩,1%fp),(some ⟨g1,0,none⟩,Y*Y%fp),(a,Y),(a',D)]):=HS11.out.low hb;have mq:=hb.size;clear hb HS11;by_cases hq:mdR Y D*mdR Y D%fp=mdW Y D
 ·have HQ:Hid (mdOk Y D=true∧mdX Y D=mdR Y D):=⟨by unfold mdOk;rw[decide_eq_true hq];rfl,by unfold mdX;rw[if_pos hq]⟩
  rw[decide_eq_true hq];clear hq;have HP:Hid (w.heap.size≤g10∧g10<wq.heap.size):=⟨by omega,by omega⟩
  go_wp2
  go_ret2
  exact⟨g10,c10,by rw[HQ.out.1];rfl,HP.out.1,HP.out.2,by rw[HQ.out.2];exact HSq.out.at 1 _ _ rfl,HSq.out.below⟩
 ·have HQ:Hid (¬ (mdR Y D*mdR Y D%fp=mdW Y D)):=hq;rw[decide_eq_false hq];clear hq;go_wp2_with fail;refine(small_any 2 _ (by decide) (by decide)).mono ?_;rintro e w12 ⟨g12,c12,rfl,k12,l12,hf,hb⟩;have HS12:Hid (SR w w12 [(some ⟨g12,0,none⟩,2%fp),(some ⟨g11,0,none⟩,mdR Y D*mdR Y D%fp),(some ⟨g10,0,none⟩,mdR Y D),(some ⟨g9,0,none⟩,pw1 (mdW Y D)),(some ⟨g8,0,none⟩,mdW Y D),(some ⟨g7,0,none⟩,inv0 (mdV Y D)),(some ⟨g6,0,none⟩,mdV Y D),(some ⟨g5,0,none⟩,1%fp),(some ⟨g4,0,none⟩,D*(Y*Y%fp)%fp),(some ⟨g3,0,none⟩,mdU Y),(some ⟨g2,0,none⟩,1%fp),(some ⟨g1,0,none⟩,Y*Y%fp),(a,Y),(a',D)]):=HSq.out.add hf hb;have m12:=hb.size;clear hf hb HSq;go_wp2_with fail;refine(pow2_any _ c12 (2%fp) _ (HS12.out.at 0 _ _ rfl)).mono ?_;rintro e w13 ⟨g13,c13,rfl,k13,l13,hf,hb⟩;have HS13:Hid (SR w w13 [(some ⟨g13,0,none⟩,pw2 (2%fp)),(some ⟨g12,0,none⟩,2%fp),(some ⟨g11,0,none⟩,mdR Y D*mdR Y D%fp),(some ⟨g10,0,none⟩,mdR Y D),(some ⟨g9,0,none⟩,pw1 (mdW Y D)),(some ⟨g8,0,none⟩,mdW Y D),(some ⟨g7,0,none⟩,inv0 (mdV Y D)),(some ⟨g6,0,none⟩,mdV Y D),(some ⟨g5,0,none⟩,1%fp),(some ⟨g4,0,none⟩,D*(Y*Y%fp)%fp),(some ⟨g3,0,none⟩,mdU Y),(some ⟨g2,0,none⟩,1%fp),(some ⟨g1,0,none⟩,Y*Y%fp),(a,Y),(a',D)]):=HS12.out.add hf hb;have m13:=hb.size;clear hf hb HS12;go_wp2_with fail;refine(fmul_any _ _ c10 c13 (mdR Y D) (pw2 (2%fp)) _ (HS13.out.at 3 _ _ rfl) (HS13.out.at 0 _ _ rfl)).mono ?_;rintro e w14 ⟨g14,c14,rfl,k14,l14,hf,hb⟩;have HS14:Hid (SR w w14 [(some ⟨g14,0,none⟩,mdQ Y D),(some ⟨g13,0,none⟩,pw2 (2%fp)),(some ⟨g12,0,none⟩,2%fp),(some ⟨g11,0,none⟩,mdR Y D*mdR Y D%fp),(some ⟨g10,0,none⟩,mdR Y D),(some ⟨g9,0,none⟩,pw1 (mdW Y D)),(some ⟨g8,0,none⟩,mdW Y D),(some ⟨g7,0,none⟩,inv0 (mdV Y D)),(some ⟨g6,0,none⟩,mdV Y D),(some ⟨g5,0,none⟩,1%fp),(some ⟨g4,0,none⟩,D*(Y*Y%fp)%fp),(some ⟨g3,0,none⟩,mdU Y),(some ⟨g2,0,none⟩,1%fp),(some ⟨g1,0,none⟩,Y*Y%fp),(a,Y),(a',D)]):=HS13.out.add hf hb;have m14:=hb.size;clear hf hb HS13;go_wp2_with fail;refine(fmul_any _ _ c14 c14 (mdQ Y D) (mdQ Y D) _ (HS14.out.at 0 _ _ rfl) (HS14.out.at 0 _ _ rfl)).mono ?_;rintro e w15 ⟨g15,c15,rfl,k15,l15,hf,hb⟩;have HS15:Hid (SR w w15 [(some ⟨g15,0,none⟩,mdQ Y D*mdQ Y D%fp),(some ⟨g14,0,none⟩,mdQ Y D),(some ⟨g13,0,none⟩,pw2 (2%fp)),(some ⟨g12,0,none⟩,2%fp),(some ⟨g11,0,none⟩,mdR Y D*mdR Y D%fp),(some ⟨g10,0,none⟩,mdR Y D),(some ⟨g9,0,none⟩,pw1 (mdW Y D)),(some ⟨g8,0,none⟩,mdW Y D),(some ⟨g7,0,none⟩,inv0 (mdV Y D)),(some ⟨g6,0,none⟩,mdV Y D),(some ⟨g5,0,none⟩,1%fp),(some ⟨g4,0,none⟩,D*(Y*Y%fp)%fp),(some ⟨g3,0,none⟩,mdU Y),(some ⟨g2,0,none⟩,1%fp),(some ⟨g1,0,none⟩,Y*Y%fp),(a,Y),(a',D)]):=HS14.out.add hf hb;have m15:=hb.size;clear hf hb HS14;go_wp2_with fail;refine(equal_any _ _ c15 c8 (mdQ Y D*mdQ Y D%fp) (mdW Y D) _ (HS15.out.at 0 _ _ rfl) (HS15.out.at 7 _ _ rfl)).mono ?_;rintro e wz ⟨rfl,hb⟩;have HSz:Hid (SR w wz [(some ⟨g15,0,none⟩,mdQ Y D*mdQ Y D%fp),(some ⟨g14,0,none⟩,mdQ Y D),(some ⟨g13,0,none⟩,pw2 (2%fp)),(some ⟨g12,0,none⟩,2%fp),(some ⟨g11,0,none⟩,mdR Y D*mdR Y D%fp),(some ⟨g10,0,none⟩,mdR Y D),(some ⟨g9,0,none⟩,pw1 (mdW Y D)),(some ⟨g8,0,none⟩,mdW Y D),(some ⟨g7,0,none⟩,inv0 (mdV Y D)),(some ⟨g6,0,none⟩,mdV Y D),(some ⟨g5,0,none⟩,1%fp),(some ⟨g4,0,none⟩,D*(Y*Y%fp)%fp),(some ⟨g3,0,none⟩,mdU Y),(some ⟨g2,0,none⟩,1%fp),(some ⟨g1,0,none⟩,Y*Y%fp),(a,Y),(a',D)]):=HS15.out.low hb;have mz:=hb.size;clear hb HS15;have HD:Hid (decide (mdQ Y D*mdQ Y D%fp=mdW Y D)=mdOk Y D∧mdX Y D=mdQ Y D):=⟨by unfold mdOk;rw[decide_eq_false HQ.out];simp,by unfold mdX;rw[if_neg HQ.out]⟩
  rw[HD.out.1];have HP:Hid (w.heap.size≤g14∧g14<wz.heap.size):=⟨by omega,by omega⟩
  go_wp2
  go_ret2
  exact⟨g14,c14,rfl,HP.out.1,HP.out.2,by rw[HD.out.2];exact HSz.out.at 1 _ _ rfl,HSz.out.below⟩
def fbL (bs:List Int):List Int:=(List.range 16).map fun i=>bs.getD (2*i) 0+256*bs.getD (2*i+1) 0
theorem fbL_len (bs:List Int):(fbL bs).length=16:=by simp[fbL]
theorem fb_val (bs:List Int) (n:Nat) (h:2*n≤bs.length):val 65536 ((List.range n).map fun i=>bs.getD (2*i) 0+256*bs.getD (2*i+1) 0)=val 256 (bs.take (2*n)):=by
 induction n with
 |zero=>simp[val]
 |succ n ih=>
  rw[val_range,ih (by omega),show 2*(n+1)=2*n+1+1 by omega,val_take 256 bs (2*n+1) (by omega),val_take 256 bs (2*n) (by omega)];have e:(65536:Int)^n=256^(2*n):=by rw[Int.pow_mul];rfl
  rw[e,Int.pow_succ];generalize (256:Int)^(2*n)=P;generalize bs.getD (2*n) 0=x;generalize bs.getD (2*n+1) 0=y;generalize val 256 (bs.take (2*n))=v
  grind
theorem fb_top (V r d:Int) (hV:V=r+d*1766847064778384329583297500742918515827483896875618958121606201292619776) (h0:0≤r) (h1:r<1766847064778384329583297500742918515827483896875618958121606201292619776) (hd0:0≤d) (hd1:d<65536) :
  V+(d%32768-d)*1766847064778384329583297500742918515827483896875618958121606201292619776=V%57896044618658097711785492504343953926634992332820282019728792003956564819968:=by omega
theorem fb_all (bs:List Int) (hl:bs.length=32) (hb:Byte bs):((fbL bs).set 15 ((fbL bs).getD 15 0%32768)).length=16∧(∀ i,0≤((fbL bs).set 15 ((fbL bs).getD 15 0%32768)).getD i 0∧((fbL bs).set 15 ((fbL bs).getD 15 0%32768)).getD i 0<65536)∧val 65536 ((fbL bs).set 15 ((fbL bs).getD 15 0%32768))=val 256 bs%(fp+19):=by
 have hd:∀ i,0≤(fbL bs).getD i 0∧(fbL bs).getD i 0<65536:=fun i=>by
  by_cases h:i<16
  ·rw[show(fbL bs).getD i 0=_ from rget _ i h];have:=hb.get (2*i);have:=hb.get (2*i+1);omega
  ·rw[getD_past (by rw[fbL_len];omega)];omega
 refine⟨by rw[List.length_set,fbL_len],fun i=>?_,?_⟩
 ·rw[getD_set_eq _ _ _ _ (by rw[fbL_len];decide)];have:=hd i;have:=hd 15;split<;>omega
 ·have e1:val 65536 (fbL bs)=val 256 bs:=by
   have:=fb_val bs 16 (by omega);rw[List.take_of_length_le (by omega)] at this;exact this
  have e2:=val_take 65536 (fbL bs) 15 (by rw[fbL_len];decide);rw[List.take_of_length_le (by rw[fbL_len];decide),e1] at e2;have dg:Dig 65536 ((fbL bs).take 15):=fun z hz=>dig_of_get hd z (List.mem_of_mem_take hz)
  have b0:=val_nonneg (B:=65536) (by decide) dg;have b1:=val_lt (B:=65536) (by decide) dg;rw[List.length_take,fbL_len,show min 15 16=15 from rfl] at b1;have e3:(65536:Int)^15=1766847064778384329583297500742918515827483896875618958121606201292619776:=by decide
  have e4:fp+19=57896044618658097711785492504343953926634992332820282019728792003956564819968:=by decide
  rw[val_set _ _ _ _ (by rw[fbL_len];decide),e1,e3,e4];rw[e3] at e2 b1;exact fb_top _ _ _ e2 b0 b1 (hd 15).1 (hd 15).2
def GFb (B:Nat) (u:Value) (b0 off n cap k:Nat) (x y:Int) (zs:List Int):Nat→(Nat→Bool)→World→Value→Prop
 |0,_,_,v=>v=u
 |1,_,_,v=>v=(.slice (some ⟨b0,off,none⟩) n cap)
 |2,_,_,v=>v=(.int .i64 k)
 |3,_,_,v=>v=(.int .i64 ((2*k:Nat):Int))
 |4,_,_,v=>v=(.pointer (some ⟨b0,off+2*k,none⟩))
 |5,_,_,v=>v=(.int .u8 x)
 |6,_,_,v=>v=(.int .i64 x)
 |7,_,_,v=>v=(.slice (some ⟨b0,off,none⟩) n cap)
 |8,_,_,v=>v=(.int .i64 k)
 |9,_,_,v=>v=(.int .i64 ((2*k:Nat):Int))
 |10,_,_,v=>v=(.int .i64 ((2*k+1:Nat):Int))
 |11,_,_,v=>v=(.pointer (some ⟨b0,off+(2*k+1),none⟩))
 |12,_,_,v=>v=(.int .u8 y)
 |13,_,_,v=>v=(.int .i64 y)
 |14,_,_,v=>v=(.int .i64 (256*y))
 |15,_,_,v=>v=(.int .i64 (x+256*y))
 |16,L,w,v=>L 17=false→∃ g',v=.slice (some ⟨g',0,none⟩) 1 1∧g'<w.heap.size∧w.cell? ⟨g',0,none⟩=some (.int .i64 (x+256*y))
 |17,_,w,v=>OwnI w B v (zs++[x+256*y])
 |_,_,_,_=>True
theorem GFb_stab (B:Nat) (u:Value) (b0 off n cap k:Nat) (x y:Int) (zs:List Int) (j:Nat) (L:Nat→Bool) (w w':World) (i:Nat) (v:Value) (hm:i≠17→Below w.heap.size w w') (hij:i≠j) (hL:L i=false) (h:GFb B u b0 off n cap k x y zs j L w v) :
  GFb B u b0 off n cap k x y zs j (updK L i) w' v:=by
 unfold GFb at *;split at h<;>try exact h
 ·intro h14;have hi:i≠17:=fun e=>by subst e;simp[updK] at h14
  have hL14:L 17=false:=by simpa[updK,Ne.symm hi] using h14
  obtain⟨g',e,hg,c0⟩:=h hL14;have hb:=hm hi;exact⟨g',e,by have:=hb.size;omega,by rw[hb.cell (p:=⟨g',0,none⟩) hg];exact c0⟩
 ·exact h.grow (hm (fun e=>hij e))
set_option maxHeartbeats 2000000 in
theorem fromBytes_any (a:Option Addr) (n cap:Nat) (bs:List Int) (w:World) (hn:bs.length=n) (h32:32≤n) (hmx:n≤32) (ha:At .u8 w a bs) (hb:Byte bs) :
  Calls Tryz.prog 89 #[.slice a n cap] w (LsP w (val 256 bs%(fp+19))):=by
 obtain⟨b0,off,rfl,hb0,hc⟩:=ha.get (by omega);have HC:Hid (∀ i,i<32→w.cell? ⟨b0,off+i,none⟩=some (.int .u8 (bs.getD i 0))):=fun i hi=>hc i (by omega)
 have HBY:Hid (Byte bs):=hb;have HALL:Hid (((fbL bs).set 15 ((fbL bs).getD 15 0%32768)).length=16∧(∀ i,0≤((fbL bs).set 15 ((fbL bs).getD 15 0%32768)).getD i 0∧((fbL bs).set 15 ((fbL bs).getD 15 0%32768)).getD i 0<65536)∧val 65536 ((fbL bs).set 15 ((fbL bs).getD 15 0%32768))=val 256 bs%(fp+19)):=fb_all bs (by omega) hb;have H15:Hid (0≤(fbL bs).getD 15 0∧(fbL bs).getD 15 0<65536):=by
  show _∧_
  rw[show(fbL bs).getD 15 0=_ from rget _ 15 (by decide)];have:=hb.get (2*15);have:=hb.get (2*15+1);omega
 clear hc ha hb hn;go_enter Tryz.func89,Tryz.ntmps89;go_wp2
 go_loopw [3,4] (fun v i wr=>∃ k:Nat,k≤16∧i=.int .i64 k∧OwnI wr w.heap.size v ((fbL bs).take k)∧Below w.heap.size w wr) (fun _ i _=>16-(intOf i).toNat)
 case atStart=>exact⟨0,by decide,rfl,OwnK.empty _ _ (Nat.le_refl _),(Below.refl _ _).alloc (Nat.le_refl _) _⟩
 case round=>
  obtain⟨k,hk,rfl,hown,hbel⟩:=hrel;by_cases hlt:k<16
  ·have hlt':(k:Int)<16:=by omega
   have HO:Hid (OwnI wr w.heap.size u3 ((fbL bs).take k)):=hown;have HBE:Hid (Below w.heap.size w wr):=hbel;obtain⟨x0,x1⟩:=HBY.out.get (2*k);obtain⟨y0,y1⟩:=HBY.out.get (2*k+1);have HTK:Hid ((fbL bs).take (k+1)=(fbL bs).take k++[bs.getD (2*k) 0+256*bs.getD (2*k+1) 0]):=by
    show _=_
    have e:(fbL bs).getD k 0=bs.getD (2*k) 0+256*bs.getD (2*k+1) 0:=rget _ k hlt;rw[←e,List.take_succ_eq_append_getElem (by rw[fbL_len];exact hlt),List.getD_eq_getElem?_getD,List.getElem?_eq_getElem (by rw[fbL_len];exact hlt)];rfl
   have HTL:Hid (((fbL bs).take k).length=k):=by show _=_;rw[List.length_take,fbL_len];omega
   have HCX:Hid (w.cell? ⟨b0,off+2*k,none⟩=some (.int .u8 (bs.getD (2*k) 0))):=HC.out _ (by omega);have HCY:Hid (w.cell? ⟨b0,off+(2*k+1),none⟩=some (.int .u8 (bs.getD (2*k+1) 0))):=HC.out _ (by omega);have hsz:=hbel.size;clear hown hbel;generalize (fbL bs).take k=zs at *;generalize bs.getD (2*k) 0=x at *;generalize bs.getD (2*k+1) 0=y at *;have hm1:IntKind.i64.wrap x=x:=by rw[IntKind.wrap_i64];omega
   have hm2:IntKind.i64.wrap y=y:=by rw[IntKind.wrap_i64];omega
   have hm3:IntKind.i64.wrap (256*y)=256*y:=by rw[IntKind.wrap_i64];omega
   have hm4:IntKind.i64.wrap (x+256*y)=x+256*y:=by rw[IntKind.wrap_i64];omega
   have hm5:IntKind.i64.wrap (2*(k:Int))=2*(k:Int):=by rw[IntKind.wrap_i64];omega
   have hm6:IntKind.i64.wrap (2*(k:Int)+1)=2*(k:Int)+1:=by rw[IntKind.wrap_i64];omega
   have hp1:0≤2*(k:Int):=by omega
   have hp2:0≤2*(k:Int)+1:=by omega
   have ht1:(2*(k:Int)).toNat=2*k:=by omega
   have ht2:(2*(k:Int)+1).toNat=2*k+1:=by omega
   have hi1:2*(k:Int)<(n:Int):=by omega
   have hi2:2*(k:Int)+1<(n:Int):=by omega
   have hi3:((2*k:Nat):Int)<(n:Int):=by omega
   have hi4:((2*k+1:Nat):Int)<(n:Int):=by omega
   go_wp2;refine wp_region_any (by kernel_rfl) ?_;refine wpAny_slotsK 18 (fun i w w'=>i≠17→Below w.heap.size w w') (frame:=(fun (a b c d e f g h i j k l m n o p q:Value)=>fun (t:Nat→Value)=>({ tmps:=List.toArray [a,b,c,d,e,f,g,h,i,j,t 0,t 1,t 2,t 3,t 4,t 5,t 6,t 7,t 8,t 9,t 10,t 11,t 12,t 13,t 14,t 15,t 16,t 17,k,l,m,n,o,p,q],defers:=[] }:Act)) _ _ _ _ _ _ _ _ _ _ _ _ _ _ _ _ _)
    (Ext:=fun L w'=>(L 17=false→Below wr.heap.size wr w')∧Below w.heap.size w w'∧wr.heap.size≤w'.heap.size)
    (Good:=GFb w.heap.size u3 b0 off n cap k x y zs) (by rfl) (by kernel_rfl) (GFb_stab _ _ _ _ _ _ _ _ _ _) (by kernel_rfl) (by kernel_rfl) ?hop ?hend _ _ ((fun (x0 x1 x2 x3 x4 x5 x6 x7 x8 x9 x10 x11 x12 x13 x14 x15 x16 x17:Value)=>fun (i:Nat)=>if i=0 then x0 else if i=1 then x1 else if i=2 then x2 else if i=3 then x3 else if i=4 then x4 else if i=5 then x5 else if i=6 then x6 else if i=7 then x7 else if i=8 then x8 else if i=9 then x9 else if i=10 then x10 else if i=11 then x11 else if i=12 then x12 else if i=13 then x13 else if i=14 then x14 else if i=15 then x15 else if i=16 then x16 else if i=17 then x17 else undef) _ _ _ _ _ _ _ _ _ _ _ _ _ _ _ _ _ _) _ (by simp) (by simp) ?ext ?start (by simp)
   case start=>intro i hi h;exact absurd h (by rw[Array.getD_eq_getD_getElem?,Array.getElem?_replicate];split<;>simp)
   case ext=>exact⟨fun _=>(Below.refl _ _).drew,⟨HBE.out.os,HBE.out.tape,HBE.out.output,HBE.out.size,HBE.out.block⟩,Nat.le_refl _⟩
   case hop=>
    intro i o L t w' hil ho hLi hx hdep K hK;obtain⟨hx14,hxB,hxS⟩:=hx;have cX:w'.cell? ⟨b0,off+2*k,none⟩=some (.int .u8 x):=by rw[hxB.cell (p:=⟨b0,off+2*k,none⟩) hb0];exact HCX.out
    have cY:w'.cell? ⟨b0,off+(2*k+1),none⟩=some (.int .u8 y):=by rw[hxB.cell (p:=⟨b0,off+(2*k+1),none⟩) hb0];exact HCY.out
    have RX:Hid (∀ j,j≠17→∀ ww,Below w'.heap.size w' ww→((updK L j 17=false→Below wr.heap.size wr ww)∧Below w.heap.size w ww∧wr.heap.size≤ww.heap.size)):=fun j hj ww hb=>
     ⟨fun hL=>(hx14 (by simpa[updK,Ne.symm hj] using hL)).trans (hb.mono hxS),hxB.trans (hb.mono hxB.size),by have:=hb.size;omega⟩
    have RR:Hid (∀ j,j≠17→((updK L j 17=false→Below wr.heap.size wr w')∧Below w.heap.size w w'∧wr.heap.size≤w'.heap.size)):=fun j hj=>RX.out j hj w' (Below.refl _ _)
    have RM:Hid (∀ j:Nat,j≠17→Below w'.heap.size w' w'):=fun _ _=>Below.refl _ _
    have H14:Hid (L 17=false→Below wr.heap.size wr w'):=hx14;have HXB:Hid (Below w.heap.size w w'):=hxB;clear hx14 hxB;obtain rfl|rfl|rfl|rfl|rfl|rfl|rfl|rfl|rfl|rfl|rfl|rfl|rfl|rfl|rfl|rfl|rfl|rfl:i=0∨i=1∨i=2∨i=3∨i=4∨i=5∨i=6∨i=7∨i=8∨i=9∨i=10∨i=11∨i=12∨i=13∨i=14∨i=15∨i=16∨i=17:=by omega
    all_goals(simp at ho;subst ho)
    ·clear hdep;go_simp;exact hK w' u3 rfl (RR.out 0 (by decide)) (RM.out 0)
    ·clear hdep;go_simp;exact hK w' (.slice (some ⟨b0,off,none⟩) n cap) rfl (RR.out 1 (by decide)) (RM.out 1)
    ·clear hdep;go_simp;exact hK w' (.int .i64 k) rfl (RR.out 2 (by decide)) (RM.out 2)
    ·have d2:t 2=(.int .i64 k):=hdep ⟨2,.data⟩ (by simp) rfl;clear hdep;have hK':=hK w' (.int .i64 ((2*k:Nat):Int)) rfl (RR.out 3 (by decide)) (RM.out 3);clear hK;go_simp;simpa[upd,d2,hm1,hm2,hm3,hm4,hm5,hm6,hp1,hp2,ht1,ht2] using hK'
    ·have d1:t 1=(.slice (some ⟨b0,off,none⟩) n cap):=hdep ⟨1,.data⟩ (by simp) rfl;have d3:t 3=(.int .i64 ((2*k:Nat):Int)):=hdep ⟨3,.data⟩ (by simp) rfl;clear hdep;have hK':=hK w' (.pointer (some ⟨b0,off+2*k,none⟩)) rfl (RR.out 4 (by decide)) (RM.out 4);clear hK;go_simp;simpa[upd,d1,d3,hm1,hm2,hm3,hm4,hm5,hm6,hp1,hp2,ht1,ht2] using hK'
    ·have d4:t 4=(.pointer (some ⟨b0,off+2*k,none⟩)):=hdep ⟨4,.data⟩ (by simp) rfl;clear hdep;have hK':=hK w' (.int .u8 x) rfl (RR.out 5 (by decide)) (RM.out 5);clear hK;go_simp;simpa[upd,d4,hm1,hm2,hm3,hm4,hm5,hm6,hp1,hp2,ht1,ht2] using hK'
    ·have d5:t 5=(.int .u8 x):=hdep ⟨5,.data⟩ (by simp) rfl;clear hdep;have hK':=hK w' (.int .i64 x) rfl (RR.out 6 (by decide)) (RM.out 6);clear hK;go_simp;simpa[upd,d5,hm1,hm2,hm3,hm4,hm5,hm6,hp1,hp2,ht1,ht2] using hK'
    ·clear hdep;go_simp;exact hK w' (.slice (some ⟨b0,off,none⟩) n cap) rfl (RR.out 7 (by decide)) (RM.out 7)
    ·clear hdep;go_simp;exact hK w' (.int .i64 k) rfl (RR.out 8 (by decide)) (RM.out 8)
    ·have d8:t 8=(.int .i64 k):=hdep ⟨8,.data⟩ (by simp) rfl;clear hdep;have hK':=hK w' (.int .i64 ((2*k:Nat):Int)) rfl (RR.out 9 (by decide)) (RM.out 9);clear hK;go_simp;simpa[upd,d8,hm1,hm2,hm3,hm4,hm5,hm6,hp1,hp2,ht1,ht2] using hK'
    ·have d9:t 9=(.int .i64 ((2*k:Nat):Int)):=hdep ⟨9,.data⟩ (by simp) rfl;clear hdep;have hK':=hK w' (.int .i64 ((2*k+1:Nat):Int)) rfl (RR.out 10 (by decide)) (RM.out 10);clear hK;go_simp;simpa[upd,d9,hm1,hm2,hm3,hm4,hm5,hm6,hp1,hp2,ht1,ht2] using hK'
    ·have d7:t 7=(.slice (some ⟨b0,off,none⟩) n cap):=hdep ⟨7,.data⟩ (by simp) rfl;have d10:t 10=(.int .i64 ((2*k+1:Nat):Int)):=hdep ⟨10,.data⟩ (by simp) rfl;clear hdep;have hK':=hK w' (.pointer (some ⟨b0,off+(2*k+1),none⟩)) rfl (RR.out 11 (by decide)) (RM.out 11);clear hK;go_simp;simpa[upd,d7,d10,hm1,hm2,hm3,hm4,hm5,hm6,hp1,hp2,ht1,ht2] using hK'
    ·have d11:t 11=(.pointer (some ⟨b0,off+(2*k+1),none⟩)):=hdep ⟨11,.data⟩ (by simp) rfl;clear hdep;have hK':=hK w' (.int .u8 y) rfl (RR.out 12 (by decide)) (RM.out 12);clear hK;go_simp;simpa[upd,d11,hm1,hm2,hm3,hm4,hm5,hm6,hp1,hp2,ht1,ht2] using hK'
    ·have d12:t 12=(.int .u8 y):=hdep ⟨12,.data⟩ (by simp) rfl;clear hdep;have hK':=hK w' (.int .i64 y) rfl (RR.out 13 (by decide)) (RM.out 13);clear hK;go_simp;simpa[upd,d12,hm1,hm2,hm3,hm4,hm5,hm6,hp1,hp2,ht1,ht2] using hK'
    ·have d13:t 13=(.int .i64 y):=hdep ⟨13,.data⟩ (by simp) rfl;clear hdep;have hK':=hK w' (.int .i64 (256*y)) rfl (RR.out 14 (by decide)) (RM.out 14);clear hK;go_simp;simpa[upd,d13,hm1,hm2,hm3,hm4,hm5,hm6,hp1,hp2,ht1,ht2] using hK'
    ·have d6:t 6=(.int .i64 x):=hdep ⟨6,.data⟩ (by simp) rfl;have d14:t 14=(.int .i64 (256*y)):=hdep ⟨14,.data⟩ (by simp) rfl;clear hdep;have hK':=hK w' (.int .i64 (x+256*y)) rfl (RR.out 15 (by decide)) (RM.out 15);clear hK;go_simp;simpa[upd,d6,d14,hm1,hm2,hm3,hm4,hm5,hm6,hp1,hp2,ht1,ht2] using hK'
    ·have d15:t 15=(.int .i64 (x+256*y)):=hdep ⟨15,.data⟩ (by simp) rfl;clear hdep;have hK':=hK (w'.alloc (.cells #[.int .i64 (x+256*y)] 2)) (.slice (some ⟨w'.heap.size,0,none⟩) 1 1) (fun _=>⟨w'.heap.size,rfl,by simp,cell_of_row _ _ _ _ _ _ (heap_alloc_new _ _)⟩) (RX.out 16 (by decide) _ (below_new3 _ _)) (fun _=>below_new3 _ _);clear hK;go_simp;simpa[upd,d15] using hK'
    ·have d0:t 0=_:=hdep ⟨0,.data⟩ (by simp) rfl;have d10:=hdep ⟨16,.data⟩ (by simp) rfl;obtain⟨g',e10,hg',cc0⟩:=d10 hLi;clear hdep d10;have hO:=HO.out.grow (H14.out hLi);refine wp_appI (a:=_) _ ktI _ _ rfl w.heap.size _ zs (by first|exact d0|(simp[d0];done)) hO ⟨g',0,none⟩ 1 1 [x+256*y] (by first|exact e10|(simp[e10];done)) rfl ?_ ?_ ?_ ?_
     ·intro j hj;obtain rfl:j=0:=by omega
      rw[Addr.add_lit];exact cc0
     ·rw[HTL.out];omega
     ·exact HXB.out.size
     ·intro v' w9 hown' hbel';exact hK w9 v' hown' ⟨fun h=>by simp[updK] at h,HXB.out.trans hbel',by have:=hbel'.size;have:=HXB.out.size;omega⟩ (fun h=>absurd rfl h)
   case hend=>
    intro o L t w' ho hx hg K hK;simp at ho;subst ho;obtain⟨hx14,hxB,hxS⟩:=hx;have O14:OwnI w' w.heap.size (t 17) (zs++[x+256*y]):=hg 17 (by decide);have HXB:Hid (Below w.heap.size w w'):=hxB;have HO14:Hid (OwnI w' w.heap.size (t 17) ((fbL bs).take (k+1))):=by rw[HTK.out];exact O14
    clear hg O14 hx14 hxB hxS hm1 hm2 hm3 hm4 hm5 hm6 hp1 hp2 ht1 ht2 hi1 hi2 hi3 hi4;go_simp;refine hK _ _ ?_;go_wp2;go_roundw
    case rel=>exact⟨k+1,by omega,by go_num,HO14.out,HXB.out⟩
    case measure=>simp[intOf];omega
  ·have hk16:k=16:=by omega
   have ho:OwnI wr w.heap.size u3 (fbL bs):=by rw[hk16,List.take_of_length_le (by rw[fbL_len];decide)] at hown;exact hown
   obtain⟨g,c,rfl,hg,hg',hA⟩:=ho.at_;rw[fbL_len] at ho ⊢;obtain⟨c15,f15,o15⟩:=ho.set (fbL_len bs) 15 ((fbL bs).getD 15 0%32768) (by decide);have HOW:Hid (OwnI (wr.setCell ⟨g,15,none⟩ (.int .i64 ((fbL bs).getD 15 0%32768))) w.heap.size (.slice (some ⟨g,0,none⟩) 16 c) ((fbL bs).set 15 ((fbL bs).getD 15 0%32768))):=o15;have HBE:Hid (Below w.heap.size w (wr.setCell ⟨g,15,none⟩ (.int .i64 ((fbL bs).getD 15 0%32768)))):=hbel.setCell (by simpa using hg) _;obtain⟨q0,q1⟩:=H15.out;have hlt':¬ (k:Int)<16:=by omega
   clear ho hown o15 hA hk16 hbel;generalize hdd:(fbL bs).getD 15 0=d at *;clear hdd;have htm:d.tmod 32768=d%32768:=Int.tmod_eq_emod_of_nonneg q0;go_wp2
   go_ret
   obtain⟨hA1,z1,z2⟩:=HOW.out.atS;exact⟨g,c,rfl,z1,z2,⟨_,hA1,HALL.out.1,HALL.out.2.1,HALL.out.2.2⟩,HBE.out⟩
def baseY:Int:=46316835694926478169428394003475163141307993866256225615783033603165251855960
theorem base_evalN:4*pwN 5 11 5 254 255%fpN=46316835694926478169428394003475163141307993866256225615783033603165251855960:=by decide +kernel
theorem base_eval:(4%fp)*pwF (5%fp) 11 5 254 255%fp=baseY:=by
 have e:(5%fp:Int)=((5:Nat):Int):=by decide
 have e4:(4%fp:Int)=((4:Nat):Int):=by decide
 rw[e,e4,pwF_N,fp_fpN,←Int.natCast_mul,←Int.natCast_emod,base_evalN];rfl
theorem pair_valb (bs:List Int) (d:Int) (k:Nat) (h:bs.length=2*k):val 256 (bs++[d%256,d/256])=val 256 bs+d*65536^k:=by
 rw[val_append,h];have e:(256:Int)^(2*k)=65536^k:=by rw[Int.pow_mul,show(256:Int)^2=65536 from by decide]
 rw[e];simp only[val];have:d%256+256*(d/256)=d:=Int.emod_add_mul_ediv _ _;have e2:d%256+256*(d/256+256*0)=d:=by omega
 rw[e2,Int.mul_comm]
structure BYSb (w w5:World) (zs:List Int) (k:Nat) (v:Value) (wr:World):Prop where
 st:∃ bs:List Int,Own wr w5.heap.size v bs∧bs.length=2*k∧Byte bs∧val 256 bs=val 65536 (zs.take k)
 below:Below w5.heap.size w5 wr
def CodePb (w:World) (x:Int) (e:Ending) (w':World):Prop:=
 ∃ v bs,e=.returned v∧Own w' w.heap.size v bs∧Byte bs∧bs.length=32∧val 256 bs=x∧Below w.heap.size w w'
theorem Own.lower3b {w:World} {B B':Nat} {v:Value} {zs:List Int} (h:Own w B' v zs) (hB:B≤B'):Own w B v zs:=by
 obtain⟨⟨h1,h2⟩,h3⟩:=h;refine⟨⟨h1,?_⟩,h3⟩;rcases h2 with h|⟨g,c,cur,h4,h5,h6⟩
 ·exact .inl h
 ·exact .inr ⟨g,c,cur,h4,by omega,h6⟩
set_option maxHeartbeats 1000000 in
theorem sbas_any (w:World):Calls Tryz.prog 73 #[] w (CodePb w baseY):=by
 go_enter Tryz.func73,Tryz.ntmps73;go_wp2_with fail;refine(small_any 4 _ (by decide) (by decide)).mono ?_;rintro e w1 ⟨g1,c1,rfl,hg1,hg1',hf1,hb1⟩;have HF1:Hid (FeA w1 (some ⟨g1,0,none⟩) (4%fp)):=hf1;clear hf1;go_wp2_with fail;refine(small_any 5 _ (by decide) (by decide)).mono ?_;rintro e w2 ⟨g2,c2,rfl,hg2,hg2',hf2,hb2⟩;have HF2:Hid (FeA w2 (some ⟨g2,0,none⟩) (5%fp)):=hf2;clear hf2;go_wp2_with fail;refine(pow0_any _ c2 (5%fp) _ HF2.out).mono ?_;rintro e w3 ⟨g3,c3,rfl,hg3,hg3',hf3,hb3⟩;have HF3:Hid (FeA w3 (some ⟨g3,0,none⟩) (pwF (5%fp) 11 5 254 255)):=hf3;have HF13:Hid (FeA w3 (some ⟨g1,0,none⟩) (4%fp)):=(HF1.out.below hb2).below hb3;clear hf3 HF1 HF2;go_wp2_with fail;refine(fmul_any _ _ c1 c3 (4%fp) (pwF (5%fp) 11 5 254 255) _ HF13.out HF3.out).mono ?_;rintro e w4 ⟨g4,c4,rfl,hg4,hg4',hf4,hb4⟩;rw[base_eval] at hf4;have HF4:Hid (FeA w4 (some ⟨g4,0,none⟩) baseY):=hf4;clear hf4 HF3 HF13;go_wp2_with fail;refine(least_any _ c4 baseY _ HF4.out).mono ?_;rintro e w5 ⟨gy,cyy,rfl,hgy,hgy',⟨zs,hzA,hzl,hzd,hzv⟩,hb5⟩;have HB5:Hid (Below w.heap.size w w5):=hb1.trans ((hb2.trans ((hb3.trans ((hb4.trans (hb5.mono hb4.size)).mono hb3.size)).mono hb2.size)).mono hb1.size);have HYC:Hid (∀ i,i<16→w5.cell? ⟨gy,i,none⟩=some (.int .i64 (zs.getD i 0))):=fun i hi=>by
  obtain⟨_,_,e,_,hc⟩:=hzA.get (by omega);cases e;have:=hc i (by omega)
  rwa [Nat.zero_add] at this
 have HZL:Hid (zs.length=16):=hzl;have HZD:Hid (∀ i,0≤zs.getD i 0∧zs.getD i 0<65536):=hzd;have HZV:Hid (val 65536 zs=baseY):=hzv;have HS:Hid (BYSb w w5 zs 0 (.slice (some ⟨w5.heap.size,0,none⟩) 0 0) (w5.alloc (.cells #[] 5))):=⟨⟨[],Own.empty _ _ (Nat.le_refl _),rfl,by simp[Byte],by simp[val]⟩,below_new3 _ _⟩
 clear HF4 hb1 hb2 hb3 hb4 hb5 hzA hzl hzd hzv;go_wp2
 go_loopw [2,3] (fun v i wr=>∃ k:Nat,k≤16∧i=.int .i64 k∧BYSb w w5 zs k v wr) (fun _ i _=>16-(intOf i).toNat)
 case atStart=>exact⟨0,by decide,rfl,HS.out⟩
 case round=>
  clear HS;obtain⟨k,hk,rfl,⟨bs,hO,hbl,hbb,hbv⟩,hbel⟩:=hrel;by_cases hlt:k<16
  ·have hlt':(k:Int)<16:=by omega
   have hd:=HZD.out k;have vt:=val_take 65536 zs k (by have:=HZL.out;omega);have c0:wr.cell? ⟨gy,k,none⟩=some (.int .i64 (zs.getD k 0)):=by
    rw[hbel.cell (p:=⟨gy,k,none⟩) hgy'];exact HYC.out k hlt
   generalize hdd:zs.getD k 0=d at *;clear hdd;have HGN:Hid (¬ some gy=u2.ownBlock):=by
    obtain⟨g,c,rfl,hg,_,_⟩:=hO.base;intro h;simp[Value.ownBlock] at h;omega
   have HBL:Hid (bs.length≤32):=by show _≤_;omega
   have HN:Hid (val 256 (bs++[d%256,d/256])=val 65536 (zs.take (k+1))∧(bs++[d%256,d/256]).length=2*(k+1)∧Byte (bs++[d%256,d/256])):=by
    refine⟨by rw[pair_valb bs d k hbl,hbv,vt],by simp[hbl];omega,?_⟩;intro z hz;simp at hz;rcases hz with h|h|h
    ·exact hbb z h
    ·omega
    ·omega
   have HO:Hid (Own wr w5.heap.size u2 bs):=hO;have HBE:Hid (Below w5.heap.size w5 wr):=hbel;have hwr:=hbel.size;obtain⟨hd0,hd1⟩:=hd;clear hO hbel vt hbv hbb hbl HYC HZV HZD;go_wp2_with fail;have hm1:d.tmod 256=d%256:=Int.tmod_eq_emod_of_nonneg hd0;have hm2:d.tdiv 256=d/256:=Int.tdiv_eq_ediv_of_nonneg hd0;have hm3:IntKind.u8.wrap (d/256)=d/256:=by rw[IntKind.wrap_u8];omega
   have hm4:IntKind.u8.wrap (d%256)=d%256:=by rw[IntKind.wrap_u8];omega
   have hm5:IntKind.i64.wrap (d/256)=d/256:=by rw[IntKind.wrap_i64];omega
   refine wp_region_any (by kernel_rfl) ?_;refine wpAny_slotsK 15 (fun i w w'=>i≠14→Below w.heap.size w w') (frame:=(fun (a b c d e f g h i j k l m n o:Value)=>fun (t:Nat→Value)=>({ tmps:=List.toArray [a,b,c,d,e,f,g,h,i,j,k,l,m,n,t 0,t 1,t 2,t 3,t 4,t 5,t 6,t 7,t 8,t 9,t 10,t 11,t 12,t 13,t 14,o],defers:=[] }:Act)) _ _ _ _ _ _ _ _ _ _ _ _ _ _ _)
    (Ext:=fun L w'=>(L 14=false→Below wr.heap.size wr w')∧Below w5.heap.size w5 w'∧(∀ i,i<16→w'.cell? ⟨gy,i,none⟩=wr.cell? ⟨gy,i,none⟩)∧wr.heap.size≤w'.heap.size)
    (Good:=GBy w5.heap.size u2 gy cyy k d bs) (by rfl) (by kernel_rfl) (GBy_stab _ _ _ _ _ _ _) (by kernel_rfl) (by kernel_rfl) ?hop ?hend _ _ ((fun (x0 x1 x2 x3 x4 x5 x6 x7 x8 x9 x10 x11 x12 x13 x14:Value)=>fun (i:Nat)=>if i=0 then x0 else if i=1 then x1 else if i=2 then x2 else if i=3 then x3 else if i=4 then x4 else if i=5 then x5 else if i=6 then x6 else if i=7 then x7 else if i=8 then x8 else if i=9 then x9 else if i=10 then x10 else if i=11 then x11 else if i=12 then x12 else if i=13 then x13 else if i=14 then x14 else undef) _ _ _ _ _ _ _ _ _ _ _ _ _ _ _) _ (by simp) (by simp) ?ext ?start (by simp)
   case start=>intro i hi h;exact absurd h (by rw[Array.getD_eq_getD_getElem?,Array.getElem?_replicate];split<;>simp)
   case ext=>exact⟨fun _=>(Below.refl _ _).drew,⟨HBE.out.os,HBE.out.tape,HBE.out.output,HBE.out.size,HBE.out.block⟩,fun _ _=>rfl,Nat.le_refl _⟩
   case hop=>
    intro i o L t w' hil ho hLi hx hdep K hK;obtain⟨hx14,hxB,hxY,hxS⟩:=hx;have cY:w'.cell? ⟨gy,k,none⟩=some (.int .i64 d):=by rw[hxY k (by omega)];exact c0
    have RX:Hid (∀ j,j≠14→∀ ww,Below w'.heap.size w' ww→((updK L j 14=false→Below wr.heap.size wr ww)∧Below w5.heap.size w5 ww∧(∀ i,i<16→ww.cell? ⟨gy,i,none⟩=wr.cell? ⟨gy,i,none⟩)∧wr.heap.size≤ww.heap.size)):=fun j hj ww hb=>
     ⟨fun hL=>(hx14 (by simpa[updK,Ne.symm hj] using hL)).trans (hb.mono hxS),hxB.trans (hb.mono hxB.size),fun i hi=>by rw[hb.cell (p:=⟨gy,i,none⟩) (by show gy<w'.heap.size;omega)];exact hxY i hi,by have:=hb.size;omega⟩
    have RR:Hid (∀ j,j≠14→((updK L j 14=false→Below wr.heap.size wr w')∧Below w5.heap.size w5 w'∧(∀ i,i<16→w'.cell? ⟨gy,i,none⟩=wr.cell? ⟨gy,i,none⟩)∧wr.heap.size≤w'.heap.size)):=fun j hj=>RX.out j hj w' (Below.refl _ _)
    have RM:Hid (∀ j:Nat,j≠14→Below w'.heap.size w' w'):=fun _ _=>Below.refl _ _
    have H14:Hid (L 14=false→Below wr.heap.size wr w'):=hx14;have HXB:Hid (Below w5.heap.size w5 w'):=hxB;have HXY:Hid (∀ i,i<16→w'.cell? ⟨gy,i,none⟩=wr.cell? ⟨gy,i,none⟩):=hxY;clear hx14 hxB hxY;obtain rfl|rfl|rfl|rfl|rfl|rfl|rfl|rfl|rfl|rfl|rfl|rfl|rfl|rfl|rfl:i=0∨i=1∨i=2∨i=3∨i=4∨i=5∨i=6∨i=7∨i=8∨i=9∨i=10∨i=11∨i=12∨i=13∨i=14:=by omega
    all_goals(simp at ho;subst ho)
    ·clear hdep;go_simp;exact hK w' u2 rfl (RR.out 0 (by decide)) (RM.out 0)
    ·clear hdep;go_simp;exact hK w' (.slice (some ⟨gy,0,none⟩) 16 cyy) rfl (RR.out 1 (by decide)) (RM.out 1)
    ·clear hdep;go_simp;exact hK w' (.int .i64 k) rfl (RR.out 2 (by decide)) (RM.out 2)
    ·have d1:t 1=_:=hdep ⟨1,.data⟩ (by simp) rfl;have d2:t 2=_:=hdep ⟨2,.data⟩ (by simp) rfl;clear hdep;go_simp;simpa[upd,d1,d2] using hK w' (.pointer (some ⟨gy,k,none⟩)) rfl (RR.out 3 (by decide)) (RM.out 3)
    ·have d3:t 3=_:=hdep ⟨3,.data⟩ (by simp) rfl;clear hdep;go_simp;simpa[upd,d3] using hK w' (.int .i64 d) rfl (RR.out 4 (by decide)) (RM.out 4)
    ·have d4:t 4=_:=hdep ⟨4,.data⟩ (by simp) rfl;clear hdep;go_simp;simpa[upd,d4,hm1,hm2,hm3,hm4,hm5] using hK w' (.int .i64 (d%256)) rfl (RR.out 5 (by decide)) (RM.out 5)
    ·have d5:t 5=_:=hdep ⟨5,.data⟩ (by simp) rfl;clear hdep;go_simp;simpa[upd,d5,hm1,hm2,hm3,hm4,hm5] using hK w' (.int .u8 (d%256)) rfl (RR.out 6 (by decide)) (RM.out 6)
    ·clear hdep;go_simp;exact hK w' (.slice (some ⟨gy,0,none⟩) 16 cyy) rfl (RR.out 7 (by decide)) (RM.out 7)
    ·clear hdep;go_simp;exact hK w' (.int .i64 k) rfl (RR.out 8 (by decide)) (RM.out 8)
    ·have d7:t 7=_:=hdep ⟨7,.data⟩ (by simp) rfl;have d8:t 8=_:=hdep ⟨8,.data⟩ (by simp) rfl;clear hdep;go_simp;simpa[upd,d7,d8] using hK w' (.pointer (some ⟨gy,k,none⟩)) rfl (RR.out 9 (by decide)) (RM.out 9)
    ·have d9:t 9=_:=hdep ⟨9,.data⟩ (by simp) rfl;clear hdep;go_simp;simpa[upd,d9] using hK w' (.int .i64 d) rfl (RR.out 10 (by decide)) (RM.out 10)
    ·have d10:t 10=_:=hdep ⟨10,.data⟩ (by simp) rfl;clear hdep;go_simp;simpa[upd,d10,hm1,hm2,hm3,hm4,hm5] using hK w' (.int .i64 (d/256)) rfl (RR.out 11 (by decide)) (RM.out 11)
    ·have d11:t 11=_:=hdep ⟨11,.data⟩ (by simp) rfl;clear hdep;go_simp;simpa[upd,d11,hm1,hm2,hm3,hm4,hm5] using hK w' (.int .u8 (d/256)) rfl (RR.out 12 (by decide)) (RM.out 12)
    ·have d6:t 6=_:=hdep ⟨6,.data⟩ (by simp) rfl;have d12:t 12=_:=hdep ⟨12,.data⟩ (by simp) rfl;clear hdep;have hK':=hK (w'.alloc (.cells #[.int .u8 (d%256),.int .u8 (d/256)] 5)) (.slice (some ⟨w'.heap.size,0,none⟩) 2 2) (fun _=>⟨w'.heap.size,rfl,by simp,cell_of_row _ _ _ _ _ _ (heap_alloc_new _ _),cell_of_row _ _ _ _ _ _ (heap_alloc_new _ _)⟩) (RX.out 13 (by decide) _ (below_new3 _ _)) (fun _=>below_new3 _ _);clear hK;go_simp;simpa[upd,d6,d12] using hK'
    ·have d0:t 0=_:=hdep ⟨0,.data⟩ (by simp) rfl;have d13:=hdep ⟨13,.data⟩ (by simp) rfl;obtain⟨g',e13,hg',cc0,cc1⟩:=d13 hLi;clear hdep d13;have hO:=HO.out.grow2 (H14.out hLi);refine wp_app (a:=_) _ _ _ rfl w5.heap.size _ bs (by first|exact d0|(simp[d0];done)) hO ⟨g',0,none⟩ 2 2 [d%256,d/256] (by first|exact e13|(simp[e13];done)) rfl ?_ ?_ ?_ ?_
     ·intro j hj;rcases (show j=0∨j=1 by omega) with rfl|rfl
      ·rw[Addr.add_lit];exact cc0
      ·rw[Addr.add_lit];exact cc1
     ·have:=HBL.out;omega
     ·exact HXB.out.size
     ·intro v' w9 hown' hbel' hgr;have hs9:=hgr.size;have hyY:∀ i,i<16→w9.cell? ⟨gy,i,none⟩=wr.cell? ⟨gy,i,none⟩:=fun i hi=>by
       rw[World.cell?_of_block (a:=⟨gy,i,none⟩) (w:=w') (hgr.block gy (by omega) HGN.out)];exact HXY.out i hi
      exact hK w9 v' hown' ⟨fun h=>by simp[updK] at h,HXB.out.trans hbel',hyY,by omega⟩ (fun h=>absurd rfl h)
   case hend=>
    intro o L t w' ho hx hg K hK;simp at ho;subst ho;obtain⟨hx14,hxB,hxY,hxS⟩:=hx;have O14:Own w' w5.heap.size (t 14) (bs++[d%256,d/256]):=hg 14 (by decide);have HXB:Hid (Below w5.heap.size w5 w'):=hxB;have HXY:Hid (∀ i,i<16→w'.cell? ⟨gy,i,none⟩=wr.cell? ⟨gy,i,none⟩):=hxY;have HSZ:Hid (wr.heap.size≤w'.heap.size):=hxS;have HO14:Hid (Own w' w5.heap.size (t 14) (bs++[d%256,d/256])):=O14;clear hg O14 hx14 hxB hxY hxS;go_simp;refine hK _ _ ?_;have hHB:Below w5.heap.size w5 w':=HXB.out;have HP:Hid (BYSb w w5 zs (k+1) (t 14) w'):=⟨⟨_,HO14.out,HN.out.2.1,HN.out.2.2,HN.out.1⟩,hHB⟩
    clear hHB HXB HXY HO14 HSZ HN HO HBE HGN hK c0;generalize t 14=v14 at *;go_wp2;go_roundw
    case rel=>exact⟨k+1,by omega,by go_num,HP.out⟩
    case measure=>simp[intOf];omega
  ·have hk16:k=16:=by omega
   rw[hk16,List.take_of_length_le (by have:=HZL.out;omega),HZV.out] at hbv;have HP:Hid (CodePb w baseY (.returned u2) wr):=⟨u2,bs,rfl,hO.lower3b HB5.out.size,hbb,by omega,hbv,HB5.out.trans (hbel.mono HB5.out.size)⟩
   clear hbv hO hbb hbl hbel hk16 HZV HZD HYC;go_wp2
   go_ret
   exact HP.out
structure FrG (g:Nat) (w w':World):Prop where
 os:w'.os=w.os
 tape:w'.tape=w.tape
 output:w'.output=w.output
 size:w.heap.size≤w'.heap.size
 block:∀ k,k<w.heap.size→k≠g→w'.heap[k]?=w.heap[k]?
theorem FrG.trans {g:Nat} {a b c:World} (h:FrG g a b) (k:FrG g b c):FrG g a c:=
 ⟨k.os.trans h.os,k.tape.trans h.tape,k.output.trans h.output,Nat.le_trans h.size k.size,fun i hi hg=>(k.block i (Nat.lt_of_lt_of_le hi h.size) hg).trans (h.block i hi hg)⟩
theorem Wr.frg {g:Nat} {w w':World} (h:Wr g w w'):FrG g w w':=⟨h.os,h.tape,h.output,by rw[h.size];exact Nat.le_refl _,fun k _ hg=>h.block k hg⟩
theorem frg_below {g:Nat} {w w':World} (h:Below w.heap.size w w'):FrG g w w':=⟨h.os,h.tape,h.output,h.size,fun k hk _=>h.block k hk⟩
theorem FrG.below {g B:Nat} {w w':World} (h:FrG g w w') (hB:B≤g) (hw:B≤w.heap.size):Below B w w':=⟨h.os,h.tape,h.output,h.size,fun k hk=>h.block k (by omega) (by omega)⟩
theorem FrG.row {g q:Nat} {w w':World} {e:TypeId} {zs:List Int} (h:FrG g w w') (hr:Row w q e zs) (hq:q≠g):Row w' q e zs:=by unfold Row;rw[h.block q hr.lt hq];exact hr
def rnd (v:List Int) (x:Int):List Int:=
 [IntKind.u64.wrap (rt1 (v.getD 0 0) (v.getD 1 0) (v.getD 2 0) (v.getD 3 0) (v.getD 4 0) (v.getD 5 0) (v.getD 6 0) (v.getD 7 0) x+rt2 (v.getD 0 0) (v.getD 1 0) (v.getD 2 0)),v.getD 0 0,v.getD 1 0,v.getD 2 0,
  IntKind.u64.wrap (v.getD 3 0+rt1 (v.getD 0 0) (v.getD 1 0) (v.getD 2 0) (v.getD 3 0) (v.getD 4 0) (v.getD 5 0) (v.getD 6 0) (v.getD 7 0) x),v.getD 4 0,v.getD 5 0,v.getD 6 0]
def W8 (v:List Int):Prop:=v.length=8∧∀ i,U64 (v.getD i 0)
theorem W8.eight {v:List Int} (h:W8 v):v=[v.getD 0 0,v.getD 1 0,v.getD 2 0,v.getD 3 0,v.getD 4 0,v.getD 5 0,v.getD 6 0,v.getD 7 0]:=by
 obtain⟨hl,_⟩:=h
 match v,hl with
 |[a,b,c,d,e,f,q,z],_=>rfl
theorem u64_zero:U64 0:=⟨by decide,by decide⟩
theorem w8_of {a b c d e f q z:Int} (ha:U64 a) (hb:U64 b) (hc:U64 c) (hd:U64 d) (he:U64 e) (hf:U64 f) (hq:U64 q) (hz:U64 z):W8 [a,b,c,d,e,f,q,z]:=
 ⟨rfl,fun i=>by
  match i with
  |0=>exact ha
  |1=>exact hb
  |2=>exact hc
  |3=>exact hd
  |4=>exact he
  |5=>exact hf
  |6=>exact hq
  |7=>exact hz
  |n+8=>exact u64_zero⟩
theorem rnd_w8 {v:List Int} (h:W8 v) (x:Int):W8 (rnd v x):=w8_of (u64_wrap _) (h.2 0) (h.2 1) (h.2 2) (u64_wrap _) (h.2 4) (h.2 5) (h.2 6)
theorem roundL_any (g:Nat) (ty:TypeId) (v:List Int) (x:Int) (w:World) (hr:RowW w g ty v) (hv:W8 v) (hx:U64 x) :
  Calls Tryz.prog 158 #[.pointer (some ⟨g,0,none⟩),.int .u64 x] w fun en w'=>en=.returned (.tuple #[])∧RowW w' g ty (rnd v x)∧Wr g w w':=by
 have e:=hv.eight;refine round_any g ty (v.getD 0 0) (v.getD 1 0) (v.getD 2 0) (v.getD 3 0) (v.getD 4 0) (v.getD 5 0) (v.getD 6 0) (v.getD 7 0) x w ?_ (hv.2 0) (hv.2 1) (hv.2 2) (hv.2 3) (hv.2 4) (hv.2 5) (hv.2 6) (hv.2 7) hx;have h2:=hr;unfold RowW at h2;rw[e] at h2;exact h2
def kt (t:Nat):Int:=((tab.getD t 0:Nat):Int)
theorem kt_u64 (t:Nat):U64 (kt t):=by
 unfold kt;rw[tab_get];have:=Nat.mod_lt (rts.getD t 0) (show 0<18446744073709551616 by decide);exact⟨by omega,by omega⟩
def rnds (hs bs:List Int):Nat→List Int
 |0=>hs
 |t+1=>rnd (rnds hs bs t) (IntKind.u64.wrap (kt t+wd bs t))
theorem rnds_w8 {hs:List Int} (h:W8 hs) (bs:List Int) (t:Nat):W8 (rnds hs bs t):=by
 induction t with
 |zero=>exact h
 |succ t ih=>exact rnd_w8 ih _
def mixA (hs vs:List Int) (k:Nat):List Int:=(List.range 8).map fun i=>if i<k then IntKind.u64.wrap (hs.getD i 0+vs.getD i 0) else hs.getD i 0
theorem mixA_len (hs vs:List Int) (k:Nat):(mixA hs vs k).length=8:=by simp[mixA]
theorem mixA_get (hs vs:List Int) (k i:Nat) (h:i<8):(mixA hs vs k).getD i 0=if i<k then IntKind.u64.wrap (hs.getD i 0+vs.getD i 0) else hs.getD i 0:=by unfold mixA;simp[List.getD,h]
theorem mixA_zero {hs:List Int} (h:W8 hs) (vs:List Int):mixA hs vs 0=hs:=by
 rw[h.eight];rfl
theorem mixA_set (hs vs:List Int) (k:Nat) (h:k<8):(mixA hs vs k).set k (IntKind.u64.wrap (hs.getD k 0+vs.getD k 0))=mixA hs vs (k+1):=by
 apply List.ext_getElem?;intro i;rw[List.getElem?_set];unfold mixA;by_cases h1:k=i
 ·subst h1;simp[h]
 ·rw[if_neg h1];by_cases h2:i<8
  ·have e:(i<k+1)=(i<k):=by apply propext;omega
   simp[h2,e]
  ·simp[h2]
def mixL (hs bs:List Int):List Int:=mixA hs (rnds hs bs 80) 8
theorem mixL_w8 (hs bs:List Int):W8 (mixL hs bs):=⟨mixA_len _ _ _,fun i=>by
 unfold mixL;by_cases h:i<8
 ·rw[mixA_get _ _ _ _ h,if_pos h];exact u64_wrap _
 ·rw[List.getD_eq_getElem?_getD,List.getElem?_eq_none (by rw[mixA_len];omega)];exact u64_zero⟩
theorem idx80 (w:World) (vs:List Int) (hl:vs.length=80) (k:Nat) (hk:k<80):(Instr.index 211 (.agg (vs.map (Value.int .u64)).toArray) (.int .i64 (k:Int))).run Tryz.prog w=.ok (.int .u64 (vs.getD k 0)) w:=by
 have h2:k<vs.length:=by omega
 simp[Instr.index,run_underlying Tryz.underlying211,asIntOf,part,go_sem,h2];omega
theorem idx8 (w:World) (vs:List Int) (hl:vs.length=8) (k:Nat) (hk:k<8):(Instr.index 173 (.agg (vs.map (Value.int .u64)).toArray) (.int .i64 (k:Int))).run Tryz.prog w=.ok (.int .u64 (vs.getD k 0)) w:=by
 have h2:k<vs.length:=by omega
 simp[Instr.index,run_underlying Tryz.underlying173,asIntOf,part,go_sem,h2];omega
theorem TabIn.frg {w w':World} (h:TabIn w) (hw:∀ k,k<w.heap.size→k=1→w'.heap[k]?=w.heap[k]?):TabIn w':=fun i hi=>by
 have hc:=h i hi;have hz:1<w.heap.size:=block_lt_of_cell (a:=⟨1,0,none⟩) (h 0 (by decide));rw[←hc];exact World.cell?_of_block (hw 1 hz rfl)
structure MX (w:World) (g gB:Nat) (hs vs bs:List Int) (y:World):Prop where
 tur:RowW y w.heap.size 173 vs
 wds:RowW y g 173 hs
 tab:TabIn y
 fr:FrG g w y
theorem MX.call {w:World} {g gB:Nat} {hs vs vs' bs:List Int} {y y':World} (h:MX w g gB hs vs bs y) (hg:g<w.heap.size) (h0:1<w.heap.size) (hr:RowW y' w.heap.size 173 vs') (hw:Wr w.heap.size y y'):MX w g gB hs vs' bs y':=
 ⟨hr,hw.rowW h.wds (by omega),h.tab.frg (fun k _ e=>hw.block k (by omega)),⟨hw.os.trans h.fr.os,hw.tape.trans h.fr.tape,hw.output.trans h.fr.output,by rw[hw.size];exact h.fr.size,fun k hk hkg=>(hw.block k (by omega)).trans (h.fr.block k hk hkg)⟩⟩
theorem MX.set {w:World} {g gB:Nat} {hs vs bs:List Int} {y:World} (h:MX w g gB hs vs bs y) (hg:g<w.heap.size) (h0:g≠1) (k:Nat) (x:Int):MX w g gB (hs.set k x) vs bs ((y.setCell ⟨g,k,none⟩ (.int .u64 x)).drew):=by
 have hw:Wr g y ((y.setCell ⟨g,k,none⟩ (.int .u64 x)).drew):=((Wr.refl _ _).setCell k _).drew;exact⟨hw.rowW h.tur (by omega),h.wds.set k x,h.tab.frg (fun k _ e=>hw.block k (by omega)),h.fr.trans hw.frg⟩
set_option maxRecDepth 100000 in
set_option maxHeartbeats 4000000 in
theorem mix_any (g gB:Nat) (hs bs:List Int) (w:World) (hr:RowW w g 173 hs) (hw8:W8 hs) (hb:Row w gB 176 bs) (hl:bs.length=128) (hz:Byte bs) (hT:TabIn w) (hg0:g≠1) :
  Calls Tryz.prog 134 #[.pointer (some ⟨g,0,none⟩),.pointer (some ⟨gB,0,none⟩)] w fun e w'=>e=.returned (.tuple #[])∧RowW w' g 173 (mixL hs bs)∧FrG g w w':=by
 have hgl:=hr.lt;have hbl:=hb.lt;have h0:1<w.heap.size:=block_lt_of_cell (a:=⟨1,0,none⟩) (hT 0 (by decide));have H8:=hid_ofS hw8;have HU:=hid_ofS (fun t=>wd_u64 hz hl t);have HR:=hid_ofS hr;have HZN:Hid (RowW (w.alloc (.cells #[.int .u64 0,.int .u64 0,.int .u64 0,.int .u64 0,.int .u64 0,.int .u64 0,.int .u64 0,.int .u64 0] 173)) w.heap.size 173 [0,0,0,0,0,0,0,0]):=heap_alloc_new w _;have HAL:Hid (Below w.heap.size w (w.alloc (.cells #[.int .u64 0,.int .u64 0,.int .u64 0,.int .u64 0,.int .u64 0,.int .u64 0,.int .u64 0,.int .u64 0] 173))):=(Below.refl _ _).alloc (Nat.le_refl _) _;have HB:=hid_ofS (And.intro hb (And.intro hl hz));have HT:=hid_ofS hT;clear hr hw8 hb hl hz hT;go_enter Tryz.func134,Tryz.ntmps134;go_wp2_with (first
  |(refine wpList_loadW rfl (.tmp 10) rfl Tryz.underlying173 Tryz.sizeWds g hs rfl H8.out.1 HR.out ?_)
  |(refine wpList_storeW rfl (.tmp 4) (.tmp 11) rfl Tryz.sizeWds w.heap.size hs [0,0,0,0,0,0,0,0] rfl rfl H8.out.1 rfl HZN.out ?_)
  |fail)
 intro w1 hr1 hw1;have FR1:FrG g w w1:=⟨hw1.os.trans HAL.out.os,hw1.tape.trans HAL.out.tape,hw1.output.trans HAL.out.output,by rw[hw1.size];exact HAL.out.size,fun k hk _=>(hw1.block k (by omega)).trans (HAL.out.block k hk)⟩
 have HM:MX w g gB hs hs bs w1:=⟨hr1,hw1.rowW (HR.out.below HAL.out hgl) (by omega),(HT.out.frg (fun k hk _=>HAL.out.block k hk)).frg (fun k _ e=>hw1.block k (by omega)),FR1⟩
 have A:=hid_ofS (sched_any gB bs w1 (by unfold Row;rw[hw1.block gB (by omega),HAL.out.block gB hbl];exact HB.out.1) HB.out.2.1 HB.out.2.2);have HM1:=hid_ofS HM;clear HM FR1 hr1 hw1 HZN HAL HR HT HB;go_wp2_with fail;refine A.out.mono ?_;rintro e w2 ⟨rfl,b2⟩;have HM2:Hid (MX w g gB hs (rnds hs bs 0) bs w2):=⟨HM1.out.tur.below b2 HM1.out.tur.lt,HM1.out.wds.below b2 HM1.out.wds.lt,HM1.out.tab.frg (fun k hk _=>b2.block k hk),HM1.out.fr.trans (frg_below b2)⟩
 clear b2 HM1 A;have hix:=hid_ofS (fun w k hk=>idx80 w (schA bs 80) (schA_len _ _) k hk);obtain⟨AV,hAV⟩:∃ AV,AV=((schA bs 80).map (Value.int .u64)).toArray:=⟨_,rfl⟩
 rw[←hAV] at hix ⊢;clear hAV;go_wp2
 go_loopw [14] (fun i wr=>∃ k:Nat,k≤80∧i=.int .i64 k∧MX w g gB hs (rnds hs bs k) bs wr) (fun i _=>80-(intOf i).toNat)
 case atStart=>exact⟨0,by omega,rfl,HM2.out⟩
 case round=>
  clear HM2;obtain⟨k,hk,rfl,hm⟩:=hrel;by_cases hlt:k<80
  ·have hlt':(k:Int)<80:=by omega
   have hx:=fun w=>hix.out w k hlt
   rw[schA_get _ _ _ hlt,if_pos hlt] at hx;have hu:=HU.out k;have hc:=hm.tab k (by omega);have hku:=kt_u64 k;have HMk:=hid_ofS hm;have hkt:kt k=((tab.getD k 0:Nat):Int):=rfl;rw[←hkt] at hc;have A:=hid_ofS (roundL_any w.heap.size 173 (rnds hs bs k) (IntKind.u64.wrap (kt k+wd bs k)) wr hm.tur (rnds_w8 H8.out bs k) (u64_wrap _));have HN:Hid (rnds hs bs (k+1)=rnd (rnds hs bs k) (IntKind.u64.wrap (kt k+wd bs k))):=rfl;clear hm hkt;obtain⟨v,hv⟩:∃ v,v=wd bs k:=⟨_,rfl⟩
   obtain⟨c,hcc⟩:∃ c,c=kt k:=⟨_,rfl⟩
   rw[←hv] at hx hu A HN;rw[←hcc] at hc hku A HN;clear hv hcc;obtain⟨hu0,hu1⟩:=hu;obtain⟨hk0,hk1⟩:=hku;go_wp2_with fail;refine A.out.mono ?_;rintro e w3 ⟨rfl,r3,b3⟩;have HM3:Hid (MX w g gB hs (rnds hs bs (k+1)) bs w3):=by rw[HN.out];exact HMk.out.call hgl h0 r3 b3
   clear r3 b3 A HMk HN hc hx;go_wp2;go_roundw
   case rel=>exact⟨k+1,by omega,by go_num,HM3.out⟩
   case measure=>simp[intOf];omega
  ·obtain rfl:k=80:=by omega
   have hVS:=rnds_w8 H8.out bs 80;have HVL:=hid_ofS hVS;have HMF:Hid (mixL hs bs=mixA hs (rnds hs bs 80) 8):=rfl;obtain⟨vs,hvs⟩:∃ vs,vs=rnds hs bs 80:=⟨_,rfl⟩
   rw[←hvs] at hm HVL HMF;clear hVS hvs;have HM3:=hid_ofS hm;have HMZ:Hid (MX w g gB (mixA hs vs 0) vs bs wr):=by rw[mixA_zero H8.out];exact hm
   clear hm hix;go_wp2_with (first
    |(refine wpList_loadW rfl (.tmp 4) rfl Tryz.underlying173 Tryz.sizeWds w.heap.size vs rfl HVL.out.1 HM3.out.tur ?_)
    |fail)
   have hix:=hid_ofS (fun w k hk=>idx8 w vs HVL.out.1 k hk);obtain⟨BV,hBV⟩:∃ BV,BV=(vs.map (Value.int .u64)).toArray:=⟨_,rfl⟩
   rw[←hBV] at hix ⊢;clear hBV HM3;go_wp2
   go_loopw [26] (fun i wr=>∃ k:Nat,k≤8∧i=.int .i64 k∧MX w g gB (mixA hs vs k) vs bs wr) (fun i _=>8-(intOf i).toNat)
   case atStart=>exact⟨0,by omega,rfl,HMZ.out⟩
   case round=>
    rename_i wq _
    obtain⟨k,hk,rfl,hm⟩:=hrel;by_cases hlt:k<8
    ·have hlt':(k:Int)<8:=by omega
     have hx:=fun w=>hix.out w k hlt
     have hu:=HVL.out.2 k;have hh:=H8.out.2 k;have hc:=hm.wds.cell k (by rw[mixA_len];exact hlt);rw[mixA_get _ _ _ _ hlt,if_neg (by omega)] at hc;have hf:=hm.wds.frozen k;have hn:=hm.set hgl hg0 k (IntKind.u64.wrap (hs.getD k 0+vs.getD k 0));rw[mixA_set _ _ _ hlt] at hn;have HN:=hid_ofS hn;clear hn hm;obtain⟨v,hv⟩:∃ v,v=vs.getD k 0:=⟨_,rfl⟩
     obtain⟨c,hcc⟩:∃ c,c=hs.getD k 0:=⟨_,rfl⟩
     rw[←hv] at hx hu HN;rw[←hcc] at hc hh HN;clear hv hcc;obtain⟨hu0,hu1⟩:=hu;obtain⟨hh0,hh1⟩:=hh;go_wp2
     go_region
     go_wp2;go_roundw
     case rel=>exact⟨k+1,by omega,by go_num,HN.out⟩
     case measure=>simp[intOf];omega
    ·obtain rfl:k=8:=by omega
     have HN:=hid_ofS hm;clear hm;go_wp2
     go_end0
     rw[HMF.out];exact⟨rfl,HN.out.wds,HN.out.fr⟩
def blkOf (zs:List Int):List Int:=zs.take 128++List.replicate (128-zs.length) 0
theorem blkOf_len (zs:List Int):(blkOf zs).length=128:=by unfold blkOf;simp;omega
theorem blkOf_byte {zs:List Int} (h:Byte zs):Byte (blkOf zs):=fun z hz=>by
 unfold blkOf at hz;rcases List.mem_append.1 hz with h'|h'
 ·exact h z (List.mem_of_mem_take h')
 ·rw[(List.mem_replicate.1 h').2];exact⟨by decide,by decide⟩
theorem Tryz.sizeU8:(Tryz.prog.info? 5).map (·.size)=some 1:=by kernel_rfl
theorem splice_blk (zs:List Int):splice ((List.replicate 128 (0:Int)).map (Value.int .u8)) 0 ((zs.take 128).map (Value.int .u8))=(blkOf zs).map (Value.int .u8):=by
 unfold splice blkOf;rw[List.take_zero,List.nil_append,List.map_append,←List.map_drop,List.drop_replicate,Nat.zero_add,List.length_map,List.length_take,show 128-min 128 zs.length=128-zs.length by omega]
theorem run_sliceAll (w:World) (g:Nat):(Instr.sliceAt 176 (.pointer (some ⟨g,0,none⟩)) none none none).run Tryz.prog w=.ok (.slice (some ⟨g,0,none⟩) 128 128) w:=by
 unfold Instr.sliceAt;simp[run_underlying Tryz.underlying176,go_sem,Instr.sliceBounds,Addr.add]
set_option maxRecDepth 100000 in
set_option maxHeartbeats 1000000 in
theorem blk_any (a:Option Addr) (n cap:Nat) (zs:List Int) (w:World) (hn:zs.length=n) (ha:At .u8 w a zs) (hm:n≤2097152) :
  Calls Tryz.prog 133 #[.slice a n cap] w fun e w'=>e=.returned (.agg ((blkOf zs).map (Value.int .u8)).toArray)∧Below w.heap.size w w':=by
 have z1:=zvBlk;have z2:=zsBlk;have z3:=znBlk;have hsl:=fun w=>run_sliceAll w
 obtain⟨w2,hw2⟩:∃ w2,w2=(w.alloc (.cells zBlk 176)).alloc (.cells zBlk 176):=⟨_,rfl⟩
 have HB:Hid (Below w.heap.size w w2):=by rw[hw2];exact((Below.refl _ _).alloc (Nat.le_refl _) _).alloc (by simp) _
 have HR0:Hid (Row w2 w.heap.size 176 (List.replicate 128 0)):=by show _=_;rw[hw2,heap_alloc2_old,zcBlk]
 have HR1:Hid (Row w2 (w.heap.size+1) 176 (List.replicate 128 0)):=by show _=_;rw[hw2,heap_alloc2_new,zcBlk]
 have HA:=hid_ofS ha;have HN:=hid_ofS hn;have HW:=hid_ofS hw2;obtain⟨zz,hzz⟩:∃ zz,zz=(List.replicate 128 (0:Int)).map (Value.int .u8):=⟨_,rfl⟩
 have HSP:Hid (splice zz 0 ((zs.take 128).map (Value.int .u8))=(blkOf zs).map (Value.int .u8)):=by show _=_;rw[hzz];exact splice_blk zs
 have HR1:Hid (w2.heap[w.heap.size+1]?=some (.cells zz.toArray 176 (0,0))):=by rw[hzz];exact HR1
 have HLn:Hid (((zs.take 128).map (Value.int .u8)).length=Nat.min n 128):=by show _=_;rw[List.length_map,List.length_take,hn];exact Nat.min_comm _ _
 have HLm:Hid (0+((zs.take 128).map (Value.int .u8)).length≤zz.length):=by show _≤_;rw[hzz,List.length_map,List.length_take,List.length_map,List.length_replicate];omega
 clear hzz;have HP:Hid (0<((zs.take 128).map (Value.int .u8)).length→some (⟨w.heap.size+1,0,none⟩:Addr)=some ⟨w.heap.size+1,0,none⟩∧∃ ad,a=some ad∧∀ j v,((zs.take 128).map (Value.int .u8))[j]?=some v→w2.cell? (ad.add j)=some v):=by
  intro hp;refine⟨rfl,?_⟩;rw[List.length_map,List.length_take] at hp;obtain⟨b,o,rfl,hb,hc⟩:=(HA.out.below HB.out).get (by omega);refine⟨_,rfl,fun j v hv=>?_⟩;have hj:j<128∧j<zs.length:=by have:=(List.getElem?_eq_some_iff.1 hv).1;rw[List.length_map,List.length_take] at this;omega
  rw[Addr.add_lit,hc j hj.2];rw[List.getElem?_map,List.getElem?_take_of_lt hj.1] at hv;simp[hj.2] at hv ⊢;exact hv
 clear ha hn hw2;go_enter Tryz.func133,Tryz.ntmps133
 go_upto_region 2 with fail
 rw[←HW.out];go_wp2_with (first
  |(refine wpList_copy_splice rfl (.tmp 4) (.tmp 5) 26 26 rfl 5 Tryz.underlying26 Tryz.sizeU8 (some ⟨w.heap.size+1,0,none⟩) a 128 128 n cap rfl rfl (w.heap.size+1) 0 zz 176 HR1.out ((zs.take 128).map (Value.int .u8)) HLn.out HP.out HLm.out (ints_oneCell _ _) (w.heap.size+1) w2 (Below.refl _ _) (Nat.le_refl _) ?_)
  |fail)
 rw[←List.map_take,HSP.out];intro w3 hr3 hb3;have HR3:Hid (Row w3 (w.heap.size+1) 176 (blkOf zs)):=hr3;have HR03:Hid (Row w3 w.heap.size 176 (List.replicate 128 0)):=HR0.out.below hb3 (by omega);have HB3:Hid (Below w.heap.size w w3):=HB.out.trans (hb3.mono (by omega));have HL:=hid_ofS (blkOf_len zs);clear hr3 hb3 HR0 HR1 HB HA HN HW z1 z2 z3 hsl;go_wp2_with (first
  |(refine wpList_loadB rfl (.tmp 3) rfl Tryz.underlying176 Tryz.sizeBlk (w.heap.size+1) (blkOf zs) rfl HL.out HR3.out ?_)
  |(refine wpList_storeB rfl (.tmp 2) (.tmp 7) rfl Tryz.sizeBlk w.heap.size (blkOf zs) (List.replicate 128 0) rfl rfl HL.out (by simp) HR03.out ?_)
  |fail)
 intro w4 hr4 hw4;have HB4:Hid (Below w.heap.size w w4):=HB3.out.trans (hw4.below (Nat.le_refl _));have HR4:=hid_ofS hr4;clear hr4 hw4;go_wp2;exact bodyPost_ret (v:=.agg ((blkOf zs).map (Value.int .u8)).toArray) (results_cell_row rfl _ _ w.heap.size 176 _ (0,0) _ rfl HR4.out Tryz.underlying176 rfl (by rw[Tryz.sizeBlk];simp[HL.out])) rfl ⟨rfl,HB4.out⟩
def ivL:List Int:=(List.range 8).map fun i=>kt (80+i)
theorem ivL_get (i:Nat) (h:i<8):ivL.getD i 0=kt (80+i):=by unfold ivL;simp[List.getD,h]
theorem ivL_w8:W8 ivL:=⟨by simp[ivL],fun i=>by
 by_cases h:i<8
 ·rw[ivL_get i h];exact kt_u64 _
 ·rw[List.getD_eq_getElem?_getD,List.getElem?_eq_none (by unfold ivL;simp;omega)];exact u64_zero⟩
def ivK (k:Nat):List Int:=(List.range 8).map fun i=>if i<k then kt (80+i) else 0
theorem ivK_len (k:Nat):(ivK k).length=8:=by simp[ivK]
theorem ivK_set (k:Nat) (h:k<8):(ivK k).set k (kt (80+k))=ivK (k+1):=by
 apply List.ext_getElem?;intro i;rw[List.getElem?_set];unfold ivK;by_cases h1:k=i
 ·subst h1;simp[h]
 ·rw[if_neg h1];by_cases h2:i<8
  ·have e:(i<k+1)=(i<k):=by apply propext;omega
   simp[h2,e]
  ·simp[h2]
theorem ivK_8:ivK 8=ivL:=by
 unfold ivK ivL;apply List.map_congr_left;intro i hi;rw[if_pos (List.mem_range.1 hi)]
structure IV (w:World) (k:Nat) (y:World):Prop where
 res:RowW y w.heap.size 173 [0,0,0,0,0,0,0,0]
 row:RowW y (w.heap.size+1) 173 (ivK k)
 below:Below w.heap.size w y
set_option maxHeartbeats 1000000 in
theorem first_any (w:World) (hT:TabIn w) (hz:1<w.heap.size) :
  Calls Tryz.prog 132 #[] w fun e w'=>e=.returned (.agg (ivL.map (Value.int .u64)).toArray)∧Below w.heap.size w w':=by
 have HT:=hid_ofS hT;have HS:Hid (IV w 0 ((w.alloc (.cells #[.int .u64 0,.int .u64 0,.int .u64 0,.int .u64 0,.int .u64 0,.int .u64 0,.int .u64 0,.int .u64 0] 173)).alloc (.cells #[.int .u64 0,.int .u64 0,.int .u64 0,.int .u64 0,.int .u64 0,.int .u64 0,.int .u64 0,.int .u64 0] 173))):=
  ⟨heap_alloc2_old _ _ _,heap_alloc2_new _ _ _,((Below.refl _ _).alloc (Nat.le_refl _) _).alloc (by simp) _⟩
 clear hT;go_enter Tryz.func132,Tryz.ntmps132;go_wp2
 go_loopw [3] (fun i wr=>∃ k:Nat,k≤8∧i=.int .i64 k∧IV w k wr) (fun i _=>8-(intOf i).toNat)
 case atStart=>exact⟨0,by omega,rfl,HS.out⟩
 case round=>
  clear HS;obtain⟨k,hk,rfl,hs⟩:=hrel;by_cases hlt:k<8
  ·have hlt':(k:Int)<8:=by omega
   have hc:wr.cell? ⟨1,80+k,none⟩=some (.int .u64 (kt (80+k))):=by
    rw[World.cell?_of_block (w:=w) (hs.below.block 1 hz)];exact HT.out (80+k) (by omega)
   have hc2:=hs.row.cell k (by rw[ivK_len];exact hlt);have hf:=hs.row.frozen k;have hN:Hid (IV w (k+1) (wr.setCell ⟨w.heap.size+1,k,none⟩ (.int .u64 (kt (80+k))))):=
    ⟨((Wr.refl _ _).setCell k _).rowW hs.res (by omega),by rw[←ivK_set k hlt];exact hs.row.set k _,hs.below.setCell (by simp) _⟩
   have he:((80:Int)+(k:Int)).toNat=80+k:=by omega
   clear hs;generalize kt (80+k)=c at *;go_wp2;go_roundw
   case rel=>exact⟨k+1,by omega,by go_num,hN.out⟩
   case measure=>simp[intOf];omega
  ·obtain rfl:k=8:=by omega
   have H1:=hid_ofS hs.row;rw[ivK_8] at H1;have H2:=hid_ofS hs.res;have H3:=hid_ofS hs.below;have HL:=hid_ofS ivL_w8.1;clear hs;go_wp2_with (first
    |(refine wpList_loadW rfl (.tmp 1) rfl Tryz.underlying173 Tryz.sizeWds (w.heap.size+1) ivL rfl HL.out H1.out ?_)
    |(refine wpList_storeW rfl (.tmp 0) (.tmp 13) rfl Tryz.sizeWds w.heap.size ivL [0,0,0,0,0,0,0,0] rfl rfl HL.out rfl H2.out ?_)
    |fail)
   intro w3 hr3 hw3;have HB3:Hid (Below w.heap.size w w3):=H3.out.trans (hw3.below (Nat.le_refl _));have HR3:=hid_ofS hr3;clear hr3 hw3 H1 H2 H3;go_wp2;exact bodyPost_ret (v:=.agg (ivL.map (Value.int .u64)).toArray) (results_cell_row rfl _ _ w.heap.size 173 _ (0,0) _ rfl HR3.out Tryz.underlying173 rfl (by rw[Tryz.sizeWds];simp[HL.out])) rfl ⟨rfl,HB3.out⟩
end Go.Proofs.YtjdhhgaelgemcaaGreatDoor
