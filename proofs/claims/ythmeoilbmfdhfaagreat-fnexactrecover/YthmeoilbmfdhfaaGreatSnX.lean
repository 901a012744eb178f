import Derived.Test.YthmeoilbmfdhfaaGreatMSnU
import Derived.Test.YthmeoilbmfdhfaaGreatMDevMark
open Go.Value renaming slice->UD,int->UE,pointer->UM
open Go.IntKind renaming i64->UO,u32->UG,u8->UH
open Go.Obj renaming cells->UP
open Go.Ground renaming data->UR
open Option renaming some->UI,none->UJ
open Go renaming Value->UL
namespace Go.Proofs.YthmeoilbmfdhfaaGreat
set_option maxHeartbeats 8000000
set_option maxRecDepth 100000
open Go.ChangeShapes Go.WideShapes Go.ChangeAt Go.RowKit
set_option linter.unusedVariables false
structure EN (w wr:World) (zs:List Int):Prop where
 below:Below w.heap.size w wr
 rb:wr.heap[w.heap.size]?=UI (UP Tryz.zeroCells124 124 (0,0))
 row:DP wr (w.heap.size+1) 124 zs
theorem EN.low {w wr w':World} {zs:List Int} (h:EN w wr zs) (b:Below wr.heap.size wr w'):EN w w' zs:=
 ⟨h.below.trans (b.mono h.below.size),by rw[b.block _ (AQ.1 h.rb).1];exact h.rb,h.row.low b h.row.lt⟩
theorem EN.wr {w wr w':World} {zs zs':List Int} (h:EN w wr zs) (hw:Wr (w.heap.size+1) wr w') (hr:DP w' (w.heap.size+1) 124 zs'):EN w w' zs':=
 ⟨h.below.trans (hw.below AK),by rw[hw.block _ AK];exact h.rb,hr⟩
theorem EN.drew {w wr:World} {zs:List Int} (h:EN w wr zs):EN w wr.drew zs:=⟨⟨h.below.os,h.below.tape,h.below.output,h.below.size,h.below.block⟩,h.rb,h.row⟩
theorem EN.set {w wr:World} {zs zs':List Int} (h:EN w wr zs) {o:Nat} {x:Int} (e:zs.set o x=zs'):EN w (wr.setCell ⟨w.heap.size+1,o,UJ⟩ (UE UH x)) zs':=
 h.wr ((Wr.refl _ _).setCell _ _) (e ▸ h.row.set o x)
theorem EN.oth {w wr w':World} {zs:List Int} {q:Nat} (h:EN w wr zs) (hw:Wr q wr w') (h1:q≠w.heap.size+1) (h2:q≠w.heap.size) (h3:w.heap.size<=q):EN w w' zs:=
 ⟨h.below.trans (hw.below h3),by rw[hw.block _ (Bs h2)];exact h.rb,hw.row h.row (Bs h1)⟩
theorem Ky (f:Nat):Cz [] f 8=List.replicate 16 0:=by simp[Cz,Fx,show List.range 8=[0,1,2,3,4,5,6,7] from rfl]
theorem MZ (D:List Int) (f i:Nat) (h:i<f\/f+8<=i):Cz (D.take (i+1)) f 8=Cz (D.take i) f 8:=by
 unfold Cz;congr 1;refine List.map_congr_left λq hq=>?_
 have hq8:q<8:=by simpa using hq
 unfold Fx;simp only[List.length_take];by_cases h1:f+q<min i D.length
 ·have h2:f+q<min (i+1) D.length:=AK
  simp only[h1,h2,if_true];simp[List.getD,show f+q<i by omega,show f+q<i+1 by omega]
 ·have h2:¬ f+q<min (i+1) D.length:=AK
  simp only[h1,h2,if_false]
theorem Tu:Tryz.zeroCells124=((List.replicate 128 (0:Int)).map (Value.int UH)).toArray:=AN
theorem EN.start (w:World):EN w ((w.alloc (UP Tryz.zeroCells124 124)).alloc (UP Tryz.zeroCells124 124)) (Dx (List.replicate 4 0) [0,0] [0,0] (List.replicate 4 0) (List.replicate 32 0) (List.replicate 16 0) (List.replicate 4 0) (List.replicate 4 0) [0,0] [0,0] (List.replicate 16 0) (List.replicate 32 0) (List.replicate 4 0) (List.replicate 4 0)):=by
 refine⟨(Cs.alloc Cw _).alloc AM _,?_,?_⟩
 ·rw[BH _ _ w.heap.size AM];exact AV w _
 ·have:=AV (w.alloc (UP Tryz.zeroCells124 124)) (UP Tryz.zeroCells124 124);rw[show(w.alloc (UP Tryz.zeroCells124 124)).heap.size=w.heap.size+1 by simp] at this;unfold DP;rw[this,<-PB,<-Tu]
def Tk (gn:Int):Nat->List Int
 |0=>Dx (List.replicate 4 0) [0,0] [0,0] (List.replicate 4 0) (List.replicate 32 0) (List.replicate 16 0) (List.replicate 4 0) (List.replicate 4 0) [0,0] [0,0] (List.replicate 16 0) (List.replicate 32 0) (List.replicate 4 0) (List.replicate 4 0)
 |1=>Dx (four gn) [83,49] [0,0] (List.replicate 4 0) (List.replicate 32 0) (List.replicate 16 0) (four gn) (List.replicate 4 0) [0,0] [0,0] (List.replicate 16 0) (List.replicate 32 0) (List.replicate 4 0) (List.replicate 4 0)
 |_=>Dx (four gn) [83,49] [0,0] (List.replicate 4 0) (List.replicate 32 0) (List.replicate 16 0) (four gn) (four gn) [83,50] [0,0] (List.replicate 16 0) (List.replicate 32 0) (List.replicate 4 0) (four gn)
theorem Kz (h:Nat) (gn tl:Int) (aD aU:Option Addr) (nD cD nU cU:Nat) (D U:List Int) (w:World) (hh:h<w.heap.size) (c0:w.cell? ⟨h,0,UJ⟩=UI (UE UG gn)) (c1:w.cell? ⟨h,1,UJ⟩=UI (UE UG tl)) (c2:w.cell? ⟨h,2,UJ⟩=UI (UD aD nD cD)) (c3:w.cell? ⟨h,3,UJ⟩=UI (UD aU nU cU))
  (hD:D.length=nD) (hU:U.length=nU) (mD:nD<=1048576) (mU:nU<=1048576) (haD:At UO w aD D) (haU:At UO w aU U) (ug:D8 gn) (ut:D8 tl) (hs:Jb gn tl D U) :
  Calls Tryz.prog 106 #[UM (UI ⟨h,0,UJ⟩)] w λe w'=>e=.returned (.agg ((Gz gn tl D U).map (Value.int UH)).toArray)/\Below w.heap.size w w':=by
 have HC:AP (h<w.heap.size/\w.cell? ⟨h,0,UJ⟩=UI (UE UG gn)/\w.cell? ⟨h,1,UJ⟩=UI (UE UG tl)/\w.cell? ⟨h,2,UJ⟩=UI (UD aD nD cD)/\w.cell? ⟨h,3,UJ⟩=UI (UD aU nU cU)):=⟨hh,c0,c1,c2,c3⟩
 have HA:AP (At UO w aD D/\At UO w aU U):=⟨haD,haU⟩
 have HL:AP (D.length=nD/\U.length=nU):=⟨hD,hU⟩
 have HU:AP (D8 gn/\D8 tl):=⟨ug,ut⟩
 have HP:AP (Jb gn tl D U):=hs;have HE0:=DQ (EN.start w);have hnd:(nD:Int)%256=nD:=AG hs.2.2.2.2.1
 clear haD haU hD hU hs ug ut hh c0 c1 c2 c3;go_enter Tryz.func106,Tryz.ntmps106;go_wp2_with fail;generalize ((w.alloc (UP Tryz.zeroCells124 124)).alloc (UP Tryz.zeroCells124 124))=w0 at *
 go_loopw [10] (λi wr=>∃ k:Nat,k<=2/\i=UE UO k/\AP (EN w wr (Tk gn k))) (λi _=>2-(intOf i).toNat)
 case atStart=>exact⟨0,AL,rfl,HE0.o⟩
 case round=>
  obtain⟨k,hk,rfl,hrel⟩:=hrel;clear HE0;obtain rfl|rfl|rfl:k=0\/k=1\/k=2:=AK
  ·have HE:AP (EN w wr (Dx (List.replicate 4 0) [0,0] [0,0] (List.replicate 4 0) (List.replicate 32 0) (List.replicate 16 0) (List.replicate 4 0) (List.replicate 4 0) [0,0] [0,0] (List.replicate 16 0) (List.replicate 32 0) (List.replicate 4 0) (List.replicate 4 0))):=hrel;clear hrel;go_wp2_with fail;refine Ae AN ?_;refine C3 (λ_ _ _=>True) (frame:=(λ(a b c d e f g h i j k l m n o p q r s u v w x y z A B C D E F G H I J K L M N O P Q R S T U V W X Y Z a0 a1 a2 a3 a4 a5 a6 a7 a8 a9 b0 b1 b2 b3 b4 b5 b6 b7 b8 b9 c0 c1 c2 c3 c4 c5 c6 c7 c8 c9 d0:UL)=>λ(t:Nat->UL)=>({ tmps:=List.toArray [a,b,c,d,e,f,g,h,i,j,k,l,m,t 0,t 1,t 2,t 3,t 4,t 5,t 6,n,o,p,q,r,s,u,v,w,x,y,z,A,B,C,D,E,F,G,H,I,J,K,L,M,N,O,P,Q,R,S,T,U,V,W,X,Y,Z,a0,a1,a2,a3,a4,a5,a6,a7,a8,a9,b0,b1,b2,b3,b4,b5,b6,b7,b8,b9,c0,c1,c2,c3,c4,c5,c6,c7,c8,c9,d0],defers:=[] }:Act)) _ _ _ _ _ _ _ _ _ _ _ _ _ _ _ _ _ _ _ _ _ _ _ _ _ _ _ _ _ _ _ _ _ _ _ _ _ _ _ _ _ _ _ _ _ _ _ _ _ _ _ _ _ _ _ _ _ _ _ _ _ _ _ _ _ _ _ _ _ _ _ _ _ _ _ _ _ _ _ _ _ _)
    (Ext:=λL u w'=>if L 6=true then EN w w' (Dx (four gn) [0,0] [0,0] (List.replicate 4 0) (List.replicate 32 0) (List.replicate 16 0) (List.replicate 4 0) (List.replicate 4 0) [0,0] [0,0] (List.replicate 16 0) (List.replicate 32 0) (List.replicate 4 0) (List.replicate 4 0)) else EN w w' (Dx (List.replicate 4 0) [0,0] [0,0] (List.replicate 4 0) (List.replicate 32 0) (List.replicate 16 0) (List.replicate 4 0) (List.replicate 4 0) [0,0] [0,0] (List.replicate 16 0) (List.replicate 32 0) (List.replicate 4 0) (List.replicate 4 0))) (Good:=λi L w' v=>if i=0 then v=UE UO 0 else if i=1 then v=UM (UI ⟨w.heap.size+1,0,UJ⟩) else if i=2 then v=UM (UI ⟨h,0,UJ⟩) else if i=3 then v=UM (UI ⟨h,0,UJ⟩) else if i=4 then v=UM (UI ⟨h,0,UJ⟩) else if i=5 then v=UE UG gn else if i=6 then L 6=true else True) ?hstab AN ?hop ?hdone _ _ ((λ(x0 x1 x2 x3 x4 x5 x6:UL)=>λ(i:Nat)=>if i=0 then x0 else if i=1 then x1 else if i=2 then x2 else if i=3 then x3 else if i=4 then x4 else if i=5 then x5 else if i=6 then x6 else undef) _ _ _ _ _ _ _) _ AM ?ext ?start AM
   case start=>intro i hi h;exact absurd h E0
   case ext=>
    rw[AS (by show ¬ (Array.getD _ _ _=true);rw[A7,BR];split<;>simp)];exact HE.o.drew
   case hstab=>
    intro j L w9 w' i v hM hij hLi h;by_cases hl:j=6
    ·subst hl;simp at h |-;unfold Ct;simp[h]
    ·simp only[if_neg hl] at h |-;exact h
   case hop=>
    intro i o L t w' ho hLi hx hdep K hK;have hi:i<7:=(AQ.1 ho).1;obtain rfl|rfl|rfl|rfl|rfl|rfl|rfl:i=0\/i=1\/i=2\/i=3\/i=4\/i=5\/i=6:=AK
    all_goals(simp at ho;subst ho)
    ·clear hdep;have hK':=hK w' (UE UO 0) AM (by simpa[Ct] using hx) trivial;clear hK;rw[AR AO];go_simp;simpa[Cr] using hK'
    ·have d0:t 0=UE UO 0:=by simpa using(hdep ⟨0,UR⟩ AM rfl).2
     clear hdep;have hK':=hK w' (UM (UI ⟨w.heap.size+1,0,UJ⟩)) AM (by simpa[Ct] using hx) trivial;clear hK;rw[AR AO];go_simp;simpa[Cr,d0] using hK'
    ·clear hdep;have hK':=hK w' (UM (UI ⟨h,0,UJ⟩)) AM (by simpa[Ct] using hx) trivial;clear hK;rw[AR AO];go_simp;simpa[Cr] using hK'
    ·have d2:t 2=UM (UI ⟨h,0,UJ⟩):=by simpa using(hdep ⟨2,UR⟩ AM rfl).2
     clear hdep;have hK':=hK w' (UM (UI ⟨h,0,UJ⟩)) AM (by simpa[Ct] using hx) trivial;clear hK;rw[AR AO];go_simp;simpa[Cr,d2] using hK'
    ·have d3:t 3=UM (UI ⟨h,0,UJ⟩):=by simpa using(hdep ⟨3,UR⟩ AM rfl).2
     clear hdep;have hK':=hK w' (UM (UI ⟨h,0,UJ⟩)) AM (by simpa[Ct] using hx) trivial;clear hK;rw[AR AO];go_simp;simpa[Cr,d3] using hK'
    ·have d4:t 4=UM (UI ⟨h,0,UJ⟩):=by simpa using(hdep ⟨4,UR⟩ AM rfl).2
     clear hdep;have hbb:Below w.heap.size w w':=by split at hx<;>exact hx.below
     have cc:w'.cell? ⟨h,0,UJ⟩=UI (UE UG gn):=(hbb.cell (p:=⟨h,0,UJ⟩) HC.o.1).trans HC.o.2.1;clear hbb;have hK':=hK w' (UE UG gn) AM (by simpa[Ct] using hx) trivial;clear hK;rw[AR AO];go_simp;simpa[Cr,d4] using hK'
    ·have d1:t 1=UM (UI ⟨w.heap.size+1,0,UJ⟩):=by simpa using(hdep ⟨1,UR⟩ AM rfl).2
     have d5:t 5=UE UG gn:=by simpa using(hdep ⟨5,UR⟩ AM rfl).2
     clear hdep;rw[hLi,AS AL] at hx;have hL:Dn (List.replicate 4 0) [0,0] [0,0] (List.replicate 4 0) (List.replicate 32 0) (List.replicate 16 0) (List.replicate 4 0) (List.replicate 4 0) [0,0] [0,0] (List.replicate 16 0) (List.replicate 32 0) (List.replicate 4 0) (List.replicate 4 0):=by constructor<;>simp
     have A:=FT (w.heap.size+1) 0 124 0 gn _ w' hx.row (by rw[hL.len];decide) AL HU.o.1;rw[show 0+0=0 from rfl,(hL.put0 gn HU.o.1).1] at A;have hK':∀ ww,DP ww (w.heap.size+1) 124 (Dx (four gn) [0,0] [0,0] (List.replicate 4 0) (List.replicate 32 0) (List.replicate 16 0) (List.replicate 4 0) (List.replicate 4 0) [0,0] [0,0] (List.replicate 16 0) (List.replicate 32 0) (List.replicate 4 0) (List.replicate 4 0))->Wr (w.heap.size+1) w' ww->K _ ww:=λww h1 h2=>hK ww (.tuple #[]) (by simp[Ct]) (by rw[AR (by simp[Ct])];exact hx.wr h2 h1) trivial
     clear hK hx hL;rw[AR AO];go_simp;try simp only[d1,d5]
     refine A.mono ?_;rintro e w9 ⟨rfl,hr9,hw9⟩;have hK2:=hK' w9 hr9 hw9;clear hK' A hr9 hw9;go_simp;simpa[Cr,d1,d5] using hK2
   case hdone=>
    intro L t w2 hx hg;have hlast:L 6=true:=by simpa using hg 6 AL
    rw[AR hlast] at hx;clear hg hlast;have HE2:AP (EN w w2 (Dx (four gn) [0,0] [0,0] (List.replicate 4 0) (List.replicate 32 0) (List.replicate 16 0) (List.replicate 4 0) (List.replicate 4 0) [0,0] [0,0] (List.replicate 16 0) (List.replicate 32 0) (List.replicate 4 0) (List.replicate 4 0))):=hx;clear hx;have hL1:Dn (four gn) [0,0] [0,0] (List.replicate 4 0) (List.replicate 32 0) (List.replicate 16 0) (List.replicate 4 0) (List.replicate 4 0) [0,0] [0,0] (List.replicate 16 0) (List.replicate 32 0) (List.replicate 4 0) (List.replicate 4 0):=by constructor<;>simp[four]
    have hL2:Dn (four gn) [83,0] [0,0] (List.replicate 4 0) (List.replicate 32 0) (List.replicate 16 0) (List.replicate 4 0) (List.replicate 4 0) [0,0] [0,0] (List.replicate 16 0) (List.replicate 32 0) (List.replicate 4 0) (List.replicate 4 0):=by constructor<;>simp[four]
    have cc4:=HE2.o.row.cell 4 (by rw[hL1.len];decide);have cf4:=HE2.o.row.frozen 4;have HE3:AP (EN w (w2.setCell ⟨w.heap.size+1,4,UJ⟩ (UE UH 83)) (Dx (four gn) [83,0] [0,0] (List.replicate 4 0) (List.replicate 32 0) (List.replicate 16 0) (List.replicate 4 0) (List.replicate 4 0) [0,0] [0,0] (List.replicate 16 0) (List.replicate 32 0) (List.replicate 4 0) (List.replicate 4 0))):=HE2.o.set (hL1.setM 0 AL 83).1;have cc5:=HE3.o.row.cell 5 (by rw[hL2.len];decide);have cf5:=HE3.o.row.frozen 5;have HE5:AP (EN w ((w2.setCell ⟨w.heap.size+1,4,UJ⟩ (UE UH 83)).setCell ⟨w.heap.size+1,5,UJ⟩ (UE UH 49)) (Dx (four gn) [83,49] [0,0] (List.replicate 4 0) (List.replicate 32 0) (List.replicate 16 0) (List.replicate 4 0) (List.replicate 4 0) [0,0] [0,0] (List.replicate 16 0) (List.replicate 32 0) (List.replicate 4 0) (List.replicate 4 0))):=HE3.o.set (hL2.setM 1 AL 49).1;clear hL1 hL2;go_wp2_with fail;clear cc4 cf4 cc5 cf5 HE2 HE3;generalize ((w2.setCell ⟨w.heap.size+1,4,UJ⟩ (UE UH 83)).setCell ⟨w.heap.size+1,5,UJ⟩ (UE UH 49))=w5 at *;refine Ae AN ?_;refine C3 (λ_ _ _=>True) (frame:=(λ(a b c d e f g h i j k l m n o p q r s u v w x y z A B C D E F G H I J K L M N O P Q R S T U V W X Y Z a0 a1 a2 a3 a4 a5 a6 a7 a8 a9 b0 b1 b2 b3 b4 b5 b6 b7 b8 b9 c0 c1 c2 c3 c4 c5 c6 c7 c8 c9 d0:UL)=>λ(t:Nat->UL)=>({ tmps:=List.toArray [a,b,c,d,e,f,g,h,i,j,k,l,m,n,o,p,q,r,s,u,v,w,x,y,z,A,B,C,D,t 0,t 1,t 2,t 3,t 4,t 5,t 6,E,F,G,H,I,J,K,L,M,N,O,P,Q,R,S,T,U,V,W,X,Y,Z,a0,a1,a2,a3,a4,a5,a6,a7,a8,a9,b0,b1,b2,b3,b4,b5,b6,b7,b8,b9,c0,c1,c2,c3,c4,c5,c6,c7,c8,c9,d0],defers:=[] }:Act)) _ _ _ _ _ _ _ _ _ _ _ _ _ _ _ _ _ _ _ _ _ _ _ _ _ _ _ _ _ _ _ _ _ _ _ _ _ _ _ _ _ _ _ _ _ _ _ _ _ _ _ _ _ _ _ _ _ _ _ _ _ _ _ _ _ _ _ _ _ _ _ _ _ _ _ _ _ _ _ _ _ _)
     (Ext:=λL u w'=>if L 6=true then EN w w' (Dx (four gn) [83,49] [0,0] (List.replicate 4 0) (List.replicate 32 0) (List.replicate 16 0) (four gn) (List.replicate 4 0) [0,0] [0,0] (List.replicate 16 0) (List.replicate 32 0) (List.replicate 4 0) (List.replicate 4 0)) else EN w w' (Dx (four gn) [83,49] [0,0] (List.replicate 4 0) (List.replicate 32 0) (List.replicate 16 0) (List.replicate 4 0) (List.replicate 4 0) [0,0] [0,0] (List.replicate 16 0) (List.replicate 32 0) (List.replicate 4 0) (List.replicate 4 0))) (Good:=λi L w' v=>if i=0 then v=UE UO 0 else if i=1 then v=UM (UI ⟨w.heap.size+1,0,UJ⟩) else if i=2 then v=UM (UI ⟨h,0,UJ⟩) else if i=3 then v=UM (UI ⟨h,0,UJ⟩) else if i=4 then v=UM (UI ⟨h,0,UJ⟩) else if i=5 then v=UE UG gn else if i=6 then L 6=true else True) ?hstab AN ?hop ?hdone _ _ ((λ(x0 x1 x2 x3 x4 x5 x6:UL)=>λ(i:Nat)=>if i=0 then x0 else if i=1 then x1 else if i=2 then x2 else if i=3 then x3 else if i=4 then x4 else if i=5 then x5 else if i=6 then x6 else undef) _ _ _ _ _ _ _) _ AM ?ext ?start AM
    case start=>intro i hi h;exact absurd h E0
    case ext=>
     rw[AS (by show ¬ (Array.getD _ _ _=true);rw[A7,BR];split<;>simp)];exact HE5.o.drew
    case hstab=>
     intro j L w9 w' i v hM hij hLi h;by_cases hl:j=6
     ·subst hl;simp at h |-;unfold Ct;simp[h]
     ·simp only[if_neg hl] at h |-;exact h
    case hop=>
     intro i o L t w' ho hLi hx hdep K hK;have hi:i<7:=(AQ.1 ho).1;obtain rfl|rfl|rfl|rfl|rfl|rfl|rfl:i=0\/i=1\/i=2\/i=3\/i=4\/i=5\/i=6:=AK
     all_goals(simp at ho;subst ho)
     ·clear hdep;have hK':=hK w' (UE UO 0) AM (by simpa[Ct] using hx) trivial;clear hK;rw[AR AO];go_simp;simpa[Cr] using hK'
     ·have d0:t 0=UE UO 0:=by simpa using(hdep ⟨0,UR⟩ AM rfl).2
      clear hdep;have hK':=hK w' (UM (UI ⟨w.heap.size+1,0,UJ⟩)) AM (by simpa[Ct] using hx) trivial;clear hK;rw[AR AO];go_simp;simpa[Cr,d0] using hK'
     ·clear hdep;have hK':=hK w' (UM (UI ⟨h,0,UJ⟩)) AM (by simpa[Ct] using hx) trivial;clear hK;rw[AR AO];go_simp;simpa[Cr] using hK'
     ·have d2:t 2=UM (UI ⟨h,0,UJ⟩):=by simpa using(hdep ⟨2,UR⟩ AM rfl).2
      clear hdep;have hK':=hK w' (UM (UI ⟨h,0,UJ⟩)) AM (by simpa[Ct] using hx) trivial;clear hK;rw[AR AO];go_simp;simpa[Cr,d2] using hK'
     ·have d3:t 3=UM (UI ⟨h,0,UJ⟩):=by simpa using(hdep ⟨3,UR⟩ AM rfl).2
      clear hdep;have hK':=hK w' (UM (UI ⟨h,0,UJ⟩)) AM (by simpa[Ct] using hx) trivial;clear hK;rw[AR AO];go_simp;simpa[Cr,d3] using hK'
     ·have d4:t 4=UM (UI ⟨h,0,UJ⟩):=by simpa using(hdep ⟨4,UR⟩ AM rfl).2
      clear hdep;have hbb:Below w.heap.size w w':=by split at hx<;>exact hx.below
      have cc:w'.cell? ⟨h,0,UJ⟩=UI (UE UG gn):=(hbb.cell (p:=⟨h,0,UJ⟩) HC.o.1).trans HC.o.2.1;clear hbb;have hK':=hK w' (UE UG gn) AM (by simpa[Ct] using hx) trivial;clear hK;rw[AR AO];go_simp;simpa[Cr,d4] using hK'
     ·have d1:t 1=UM (UI ⟨w.heap.size+1,0,UJ⟩):=by simpa using(hdep ⟨1,UR⟩ AM rfl).2
      have d5:t 5=UE UG gn:=by simpa using(hdep ⟨5,UR⟩ AM rfl).2
      clear hdep;rw[hLi,AS AL] at hx;have hL:Dn (four gn) [83,49] [0,0] (List.replicate 4 0) (List.replicate 32 0) (List.replicate 16 0) (List.replicate 4 0) (List.replicate 4 0) [0,0] [0,0] (List.replicate 16 0) (List.replicate 32 0) (List.replicate 4 0) (List.replicate 4 0):=by constructor<;>simp[four]
      have A:=FT (w.heap.size+1) 0 124 60 gn _ w' hx.row (by rw[hL.len];decide) AL HU.o.1;rw[show 0+60=60 from rfl,(hL.put60 gn HU.o.1).1] at A;have hK':∀ ww,DP ww (w.heap.size+1) 124 (Dx (four gn) [83,49] [0,0] (List.replicate 4 0) (List.replicate 32 0) (List.replicate 16 0) (four gn) (List.replicate 4 0) [0,0] [0,0] (List.replicate 16 0) (List.replicate 32 0) (List.replicate 4 0) (List.replicate 4 0))->Wr (w.heap.size+1) w' ww->K _ ww:=λww h1 h2=>hK ww (.tuple #[]) (by simp[Ct]) (by rw[AR (by simp[Ct])];exact hx.wr h2 h1) trivial
      clear hK hx hL;rw[AR AO];go_simp;try simp only[d1,d5]
      refine A.mono ?_;rintro e w9 ⟨rfl,hr9,hw9⟩;have hK2:=hK' w9 hr9 hw9;clear hK' A hr9 hw9;go_simp;simpa[Cr,d1,d5] using hK2
    case hdone=>
     intro L t w4 hx hg;have hlast:L 6=true:=by simpa using hg 6 AL
     rw[AR hlast] at hx;clear hg hlast;have HE4:=DQ hx;clear hx;go_wp2_with fail;go_roundw
     case rel=>exact⟨1,AL,by go_num,HE4.o⟩
     case measure=>simp[intOf]
  ·have HE:AP (EN w wr (Dx (four gn) [83,49] [0,0] (List.replicate 4 0) (List.replicate 32 0) (List.replicate 16 0) (four gn) (List.replicate 4 0) [0,0] [0,0] (List.replicate 16 0) (List.replicate 32 0) (List.replicate 4 0) (List.replicate 4 0))):=hrel;clear hrel;go_wp2_with fail;refine Ae AN ?_;refine C3 (λ_ _ _=>True) (frame:=(λ(a b c d e f g h i j k l m n o p q r s u v w x y z A B C D E F G H I J K L M N O P Q R S T U V W X Y Z a0 a1 a2 a3 a4 a5 a6 a7 a8 a9 b0 b1 b2 b3 b4 b5 b6 b7 b8 b9 c0 c1 c2 c3 c4 c5 c6 c7 c8 c9 d0:UL)=>λ(t:Nat->UL)=>({ tmps:=List.toArray [a,b,c,d,e,f,g,h,i,j,k,l,m,t 0,t 1,t 2,t 3,t 4,t 5,t 6,n,o,p,q,r,s,u,v,w,x,y,z,A,B,C,D,E,F,G,H,I,J,K,L,M,N,O,P,Q,R,S,T,U,V,W,X,Y,Z,a0,a1,a2,a3,a4,a5,a6,a7,a8,a9,b0,b1,b2,b3,b4,b5,b6,b7,b8,b9,c0,c1,c2,c3,c4,c5,c6,c7,c8,c9,d0],defers:=[] }:Act)) _ _ _ _ _ _ _ _ _ _ _ _ _ _ _ _ _ _ _ _ _ _ _ _ _ _ _ _ _ _ _ _ _ _ _ _ _ _ _ _ _ _ _ _ _ _ _ _ _ _ _ _ _ _ _ _ _ _ _ _ _ _ _ _ _ _ _ _ _ _ _ _ _ _ _ _ _ _ _ _ _ _)
    (Ext:=λL u w'=>if L 6=true then EN w w' (Dx (four gn) [83,49] [0,0] (List.replicate 4 0) (List.replicate 32 0) (List.replicate 16 0) (four gn) (four gn) [0,0] [0,0] (List.replicate 16 0) (List.replicate 32 0) (List.replicate 4 0) (List.replicate 4 0)) else EN w w' (Dx (four gn) [83,49] [0,0] (List.replicate 4 0) (List.replicate 32 0) (List.replicate 16 0) (four gn) (List.replicate 4 0) [0,0] [0,0] (List.replicate 16 0) (List.replicate 32 0) (List.replicate 4 0) (List.replicate 4 0))) (Good:=λi L w' v=>if i=0 then v=UE UO 1 else if i=1 then v=UM (UI ⟨w.heap.size+1,64,UJ⟩) else if i=2 then v=UM (UI ⟨h,0,UJ⟩) else if i=3 then v=UM (UI ⟨h,0,UJ⟩) else if i=4 then v=UM (UI ⟨h,0,UJ⟩) else if i=5 then v=UE UG gn else if i=6 then L 6=true else True) ?hstab AN ?hop ?hdone _ _ ((λ(x0 x1 x2 x3 x4 x5 x6:UL)=>λ(i:Nat)=>if i=0 then x0 else if i=1 then x1 else if i=2 then x2 else if i=3 then x3 else if i=4 then x4 else if i=5 then x5 else if i=6 then x6 else undef) _ _ _ _ _ _ _) _ AM ?ext ?start AM
   case start=>intro i hi h;exact absurd h E0
   case ext=>
    rw[AS (by show ¬ (Array.getD _ _ _=true);rw[A7,BR];split<;>simp)];exact HE.o.drew
   case hstab=>
    intro j L w9 w' i v hM hij hLi h;by_cases hl:j=6
    ·subst hl;simp at h |-;unfold Ct;simp[h]
    ·simp only[if_neg hl] at h |-;exact h
   case hop=>
    intro i o L t w' ho hLi hx hdep K hK;have hi:i<7:=(AQ.1 ho).1;obtain rfl|rfl|rfl|rfl|rfl|rfl|rfl:i=0\/i=1\/i=2\/i=3\/i=4\/i=5\/i=6:=AK
    all_goals(simp at ho;subst ho)
    ·clear hdep;have hK':=hK w' (UE UO 1) AM (by simpa[Ct] using hx) trivial;clear hK;rw[AR AO];go_simp;simpa[Cr] using hK'
    ·have d0:t 0=UE UO 1:=by simpa using(hdep ⟨0,UR⟩ AM rfl).2
     clear hdep;have hK':=hK w' (UM (UI ⟨w.heap.size+1,64,UJ⟩)) AM (by simpa[Ct] using hx) trivial;clear hK;rw[AR AO];go_simp;simpa[Cr,d0] using hK'
    ·clear hdep;have hK':=hK w' (UM (UI ⟨h,0,UJ⟩)) AM (by simpa[Ct] using hx) trivial;clear hK;rw[AR AO];go_simp;simpa[Cr] using hK'
    ·have d2:t 2=UM (UI ⟨h,0,UJ⟩):=by simpa using(hdep ⟨2,UR⟩ AM rfl).2
     clear hdep;have hK':=hK w' (UM (UI ⟨h,0,UJ⟩)) AM (by simpa[Ct] using hx) trivial;clear hK;rw[AR AO];go_simp;simpa[Cr,d2] using hK'
    ·have d3:t 3=UM (UI ⟨h,0,UJ⟩):=by simpa using(hdep ⟨3,UR⟩ AM rfl).2
     clear hdep;have hK':=hK w' (UM (UI ⟨h,0,UJ⟩)) AM (by simpa[Ct] using hx) trivial;clear hK;rw[AR AO];go_simp;simpa[Cr,d3] using hK'
    ·have d4:t 4=UM (UI ⟨h,0,UJ⟩):=by simpa using(hdep ⟨4,UR⟩ AM rfl).2
     clear hdep;have hbb:Below w.heap.size w w':=by split at hx<;>exact hx.below
     have cc:w'.cell? ⟨h,0,UJ⟩=UI (UE UG gn):=(hbb.cell (p:=⟨h,0,UJ⟩) HC.o.1).trans HC.o.2.1;clear hbb;have hK':=hK w' (UE UG gn) AM (by simpa[Ct] using hx) trivial;clear hK;rw[AR AO];go_simp;simpa[Cr,d4] using hK'
    ·have d1:t 1=UM (UI ⟨w.heap.size+1,64,UJ⟩):=by simpa using(hdep ⟨1,UR⟩ AM rfl).2
     have d5:t 5=UE UG gn:=by simpa using(hdep ⟨5,UR⟩ AM rfl).2
     clear hdep;rw[hLi,AS AL] at hx;have hL:Dn (four gn) [83,49] [0,0] (List.replicate 4 0) (List.replicate 32 0) (List.replicate 16 0) (four gn) (List.replicate 4 0) [0,0] [0,0] (List.replicate 16 0) (List.replicate 32 0) (List.replicate 4 0) (List.replicate 4 0):=by constructor<;>simp[four]
     have A:=FT (w.heap.size+1) 64 124 0 gn _ w' hx.row (by rw[hL.len];decide) AL HU.o.1;rw[show 64+0=64 from rfl,(hL.put64 gn HU.o.1).1] at A;have hK':∀ ww,DP ww (w.heap.size+1) 124 (Dx (four gn) [83,49] [0,0] (List.replicate 4 0) (List.replicate 32 0) (List.replicate 16 0) (four gn) (four gn) [0,0] [0,0] (List.replicate 16 0) (List.replicate 32 0) (List.replicate 4 0) (List.replicate 4 0))->Wr (w.heap.size+1) w' ww->K _ ww:=λww h1 h2=>hK ww (.tuple #[]) (by simp[Ct]) (by rw[AR (by simp[Ct])];exact hx.wr h2 h1) trivial
     clear hK hx hL;rw[AR AO];go_simp;try simp only[d1,d5]
     refine A.mono ?_;rintro e w9 ⟨rfl,hr9,hw9⟩;have hK2:=hK' w9 hr9 hw9;clear hK' A hr9 hw9;go_simp;simpa[Cr,d1,d5] using hK2
   case hdone=>
    intro L t w2 hx hg;have hlast:L 6=true:=by simpa using hg 6 AL
    rw[AR hlast] at hx;clear hg hlast;have HE2:AP (EN w w2 (Dx (four gn) [83,49] [0,0] (List.replicate 4 0) (List.replicate 32 0) (List.replicate 16 0) (four gn) (four gn) [0,0] [0,0] (List.replicate 16 0) (List.replicate 32 0) (List.replicate 4 0) (List.replicate 4 0))):=hx;clear hx;have hL1:Dn (four gn) [83,49] [0,0] (List.replicate 4 0) (List.replicate 32 0) (List.replicate 16 0) (four gn) (four gn) [0,0] [0,0] (List.replicate 16 0) (List.replicate 32 0) (List.replicate 4 0) (List.replicate 4 0):=by constructor<;>simp[four]
    have hL2:Dn (four gn) [83,49] [0,0] (List.replicate 4 0) (List.replicate 32 0) (List.replicate 16 0) (four gn) (four gn) [83,0] [0,0] (List.replicate 16 0) (List.replicate 32 0) (List.replicate 4 0) (List.replicate 4 0):=by constructor<;>simp[four]
    have cc4:=HE2.o.row.cell 68 (by rw[hL1.len];decide);have cf4:=HE2.o.row.frozen 68;have HE3:AP (EN w (w2.setCell ⟨w.heap.size+1,68,UJ⟩ (UE UH 83)) (Dx (four gn) [83,49] [0,0] (List.replicate 4 0) (List.replicate 32 0) (List.replicate 16 0) (four gn) (four gn) [83,0] [0,0] (List.replicate 16 0) (List.replicate 32 0) (List.replicate 4 0) (List.replicate 4 0))):=HE2.o.set (hL1.setM' 0 AL 83).1;have cc5:=HE3.o.row.cell 69 (by rw[hL2.len];decide);have cf5:=HE3.o.row.frozen 69;have HE5:AP (EN w ((w2.setCell ⟨w.heap.size+1,68,UJ⟩ (UE UH 83)).setCell ⟨w.heap.size+1,69,UJ⟩ (UE UH 50)) (Dx (four gn) [83,49] [0,0] (List.replicate 4 0) (List.replicate 32 0) (List.replicate 16 0) (four gn) (four gn) [83,50] [0,0] (List.replicate 16 0) (List.replicate 32 0) (List.replicate 4 0) (List.replicate 4 0))):=HE3.o.set (hL2.setM' 1 AL 50).1;clear hL1 hL2;go_wp2_with fail;clear cc4 cf4 cc5 cf5 HE2 HE3;generalize ((w2.setCell ⟨w.heap.size+1,68,UJ⟩ (UE UH 83)).setCell ⟨w.heap.size+1,69,UJ⟩ (UE UH 50))=w5 at *;refine Ae AN ?_;refine C3 (λ_ _ _=>True) (frame:=(λ(a b c d e f g h i j k l m n o p q r s u v w x y z A B C D E F G H I J K L M N O P Q R S T U V W X Y Z a0 a1 a2 a3 a4 a5 a6 a7 a8 a9 b0 b1 b2 b3 b4 b5 b6 b7 b8 b9 c0 c1 c2 c3 c4 c5 c6 c7 c8 c9 d0:UL)=>λ(t:Nat->UL)=>({ tmps:=List.toArray [a,b,c,d,e,f,g,h,i,j,k,l,m,n,o,p,q,r,s,u,v,w,x,y,z,A,B,C,D,t 0,t 1,t 2,t 3,t 4,t 5,t 6,E,F,G,H,I,J,K,L,M,N,O,P,Q,R,S,T,U,V,W,X,Y,Z,a0,a1,a2,a3,a4,a5,a6,a7,a8,a9,b0,b1,b2,b3,b4,b5,b6,b7,b8,b9,c0,c1,c2,c3,c4,c5,c6,c7,c8,c9,d0],defers:=[] }:Act)) _ _ _ _ _ _ _ _ _ _ _ _ _ _ _ _ _ _ _ _ _ _ _ _ _ _ _ _ _ _ _ _ _ _ _ _ _ _ _ _ _ _ _ _ _ _ _ _ _ _ _ _ _ _ _ _ _ _ _ _ _ _ _ _ _ _ _ _ _ _ _ _ _ _ _ _ _ _ _ _ _ _)
     (Ext:=λL u w'=>if L 6=true then EN w w' (Dx (four gn) [83,49] [0,0] (List.replicate 4 0) (List.replicate 32 0) (List.replicate 16 0) (four gn) (four gn) [83,50] [0,0] (List.replicate 16 0) (List.replicate 32 0) (List.replicate 4 0) (four gn)) else EN w w' (Dx (four gn) [83,49] [0,0] (List.replicate 4 0) (List.replicate 32 0) (List.replicate 16 0) (four gn) (four gn) [83,50] [0,0] (List.replicate 16 0) (List.replicate 32 0) (List.replicate 4 0) (List.replicate 4 0))) (Good:=λi L w' v=>if i=0 then v=UE UO 1 else if i=1 then v=UM (UI ⟨w.heap.size+1,64,UJ⟩) else if i=2 then v=UM (UI ⟨h,0,UJ⟩) else if i=3 then v=UM (UI ⟨h,0,UJ⟩) else if i=4 then v=UM (UI ⟨h,0,UJ⟩) else if i=5 then v=UE UG gn else if i=6 then L 6=true else True) ?hstab AN ?hop ?hdone _ _ ((λ(x0 x1 x2 x3 x4 x5 x6:UL)=>λ(i:Nat)=>if i=0 then x0 else if i=1 then x1 else if i=2 then x2 else if i=3 then x3 else if i=4 then x4 else if i=5 then x5 else if i=6 then x6 else undef) _ _ _ _ _ _ _) _ AM ?ext ?start AM
    case start=>intro i hi h;exact absurd h E0
    case ext=>
     rw[AS (by show ¬ (Array.getD _ _ _=true);rw[A7,BR];split<;>simp)];exact HE5.o.drew
    case hstab=>
     intro j L w9 w' i v hM hij hLi h;by_cases hl:j=6
     ·subst hl;simp at h |-;unfold Ct;simp[h]
     ·simp only[if_neg hl] at h |-;exact h
    case hop=>
     intro i o L t w' ho hLi hx hdep K hK;have hi:i<7:=(AQ.1 ho).1;obtain rfl|rfl|rfl|rfl|rfl|rfl|rfl:i=0\/i=1\/i=2\/i=3\/i=4\/i=5\/i=6:=AK
     all_goals(simp at ho;subst ho)
     ·clear hdep;have hK':=hK w' (UE UO 1) AM (by simpa[Ct] using hx) trivial;clear hK;rw[AR AO];go_simp;simpa[Cr] using hK'
     ·have d0:t 0=UE UO 1:=by simpa using(hdep ⟨0,UR⟩ AM rfl).2
      clear hdep;have hK':=hK w' (UM (UI ⟨w.heap.size+1,64,UJ⟩)) AM (by simpa[Ct] using hx) trivial;clear hK;rw[AR AO];go_simp;simpa[Cr,d0] using hK'
     ·clear hdep;have hK':=hK w' (UM (UI ⟨h,0,UJ⟩)) AM (by simpa[Ct] using hx) trivial;clear hK;rw[AR AO];go_simp;simpa[Cr] using hK'
     ·have d2:t 2=UM (UI ⟨h,0,UJ⟩):=by simpa using(hdep ⟨2,UR⟩ AM rfl).2
      clear hdep;have hK':=hK w' (UM (UI ⟨h,0,UJ⟩)) AM (by simpa[Ct] using hx) trivial;clear hK;rw[AR AO];go_simp;simpa[Cr,d2] using hK'
     ·have d3:t 3=UM (UI ⟨h,0,UJ⟩):=by simpa using(hdep ⟨3,UR⟩ AM rfl).2
      clear hdep;have hK':=hK w' (UM (UI ⟨h,0,UJ⟩)) AM (by simpa[Ct] using hx) trivial;clear hK;rw[AR AO];go_simp;simpa[Cr,d3] using hK'
     ·have d4:t 4=UM (UI ⟨h,0,UJ⟩):=by simpa using(hdep ⟨4,UR⟩ AM rfl).2
      clear hdep;have hbb:Below w.heap.size w w':=by split at hx<;>exact hx.below
      have cc:w'.cell? ⟨h,0,UJ⟩=UI (UE UG gn):=(hbb.cell (p:=⟨h,0,UJ⟩) HC.o.1).trans HC.o.2.1;clear hbb;have hK':=hK w' (UE UG gn) AM (by simpa[Ct] using hx) trivial;clear hK;rw[AR AO];go_simp;simpa[Cr,d4] using hK'
     ·have d1:t 1=UM (UI ⟨w.heap.size+1,64,UJ⟩):=by simpa using(hdep ⟨1,UR⟩ AM rfl).2
      have d5:t 5=UE UG gn:=by simpa using(hdep ⟨5,UR⟩ AM rfl).2
      clear hdep;rw[hLi,AS AL] at hx;have hL:Dn (four gn) [83,49] [0,0] (List.replicate 4 0) (List.replicate 32 0) (List.replicate 16 0) (four gn) (four gn) [83,50] [0,0] (List.replicate 16 0) (List.replicate 32 0) (List.replicate 4 0) (List.replicate 4 0):=by constructor<;>simp[four]
      have A:=FT (w.heap.size+1) 64 124 60 gn _ w' hx.row (by rw[hL.len];decide) AL HU.o.1;rw[show 64+60=124 from rfl,(hL.put124 gn HU.o.1).1] at A;have hK':∀ ww,DP ww (w.heap.size+1) 124 (Dx (four gn) [83,49] [0,0] (List.replicate 4 0) (List.replicate 32 0) (List.replicate 16 0) (four gn) (four gn) [83,50] [0,0] (List.replicate 16 0) (List.replicate 32 0) (List.replicate 4 0) (four gn))->Wr (w.heap.size+1) w' ww->K _ ww:=λww h1 h2=>hK ww (.tuple #[]) (by simp[Ct]) (by rw[AR (by simp[Ct])];exact hx.wr h2 h1) trivial
      clear hK hx hL;rw[AR AO];go_simp;try simp only[d1,d5]
      refine A.mono ?_;rintro e w9 ⟨rfl,hr9,hw9⟩;have hK2:=hK' w9 hr9 hw9;clear hK' A hr9 hw9;go_simp;simpa[Cr,d1,d5] using hK2
    case hdone=>
     intro L t w4 hx hg;have hlast:L 6=true:=by simpa using hg 6 AL
     rw[AR hlast] at hx;clear hg hlast;have HE4:=DQ hx;clear hx;go_wp2_with fail;go_roundw
     case rel=>exact⟨2,AL,by go_num,HE4.o⟩
     case measure=>simp[intOf]
  ·have HE:AP (EN w wr (Dx (four gn) [83,49] [0,0] (List.replicate 4 0) (List.replicate 32 0) (List.replicate 16 0) (four gn) (four gn) [83,50] [0,0] (List.replicate 16 0) (List.replicate 32 0) (List.replicate 4 0) (four gn))):=hrel;clear hrel;have hL2:Dn (four gn) [83,49] [0,0] (List.replicate 4 0) (List.replicate 32 0) (List.replicate 16 0) (four gn) (four gn) [83,50] [0,0] (List.replicate 16 0) (List.replicate 32 0) (List.replicate 4 0) (four gn):=by constructor<;>simp[four]
   have k2:wr.cell? ⟨h,2,UJ⟩=UI (UD aD nD cD):=(HE.o.below.cell (p:=⟨h,2,UJ⟩) HC.o.1).trans HC.o.2.2.2.1;have cc6:=HE.o.row.cell 6 (by rw[hL2.len];decide);have cf6:=HE.o.row.frozen 6;have HE6:AP (EN w (wr.setCell ⟨w.heap.size+1,6,UJ⟩ (UE UH (nD:Int))) (Dx (four gn) [83,49] [(nD:Int),0] (List.replicate 4 0) (List.replicate 32 0) (List.replicate 16 0) (four gn) (four gn) [83,50] [0,0] (List.replicate 16 0) (List.replicate 32 0) (List.replicate 4 0) (four gn))):=HE.o.set (hL2.setC 0 AL (nD:Int)).1;clear hL2;have k1:(wr.setCell ⟨w.heap.size+1,6,UJ⟩ (UE UH (nD:Int))).cell? ⟨h,1,UJ⟩=UI (UE UG tl):=(HE6.o.below.cell (p:=⟨h,1,UJ⟩) HC.o.1).trans HC.o.2.2.1;go_wp2_with fail;clear cc6 cf6 k2 k1 HE;generalize (wr.setCell ⟨w.heap.size+1,6,UJ⟩ (UE UH (nD:Int)))=w6 at *;have hL3:Dn (four gn) [83,49] [(nD:Int),0] (List.replicate 4 0) (List.replicate 32 0) (List.replicate 16 0) (four gn) (four gn) [83,50] [0,0] (List.replicate 16 0) (List.replicate 32 0) (List.replicate 4 0) (four gn):=by constructor<;>simp[four]
   have A:=FT (w.heap.size+1) 0 124 8 tl _ w6 HE6.o.row (by rw[hL3.len];decide) AL HU.o.2;rw[show 0+8=8 from rfl,(hL3.put8 tl HU.o.2).1] at A;refine A.mono ?_;rintro e w7 ⟨rfl,hr7,hw7⟩;have HE7:AP (EN w w7 (Dx (four gn) [83,49] [(nD:Int),0] (four tl) (List.replicate 32 0) (List.replicate 16 0) (four gn) (four gn) [83,50] [0,0] (List.replicate 16 0) (List.replicate 32 0) (List.replicate 4 0) (four gn))):=HE6.o.wr hw7 hr7;clear A hr7 hw7 HE6 hL3;have k3:w7.cell? ⟨h,3,UJ⟩=UI (UD aU nU cU):=(HE7.o.below.cell (p:=⟨h,3,UJ⟩) HC.o.1).trans HC.o.2.2.2.2;go_wp2_with fail;clear k3;refine(II aU nU cU U w7 HL.o.2 mU (HA.o.2.below HE7.o.below)).mono ?_;rintro e w8 ⟨bs,rfl,hbl,hbb,hset,hb8⟩;obtain rfl:=PA bs U (hset HP.o.2.2.2.2.2);have HE8:AP (EN w w8 (Dx (four gn) [83,49] [(nD:Int),0] (four tl) (List.replicate 32 0) (List.replicate 16 0) (four gn) (four gn) [83,50] [0,0] (List.replicate 16 0) (List.replicate 32 0) (List.replicate 4 0) (four gn))):=HE7.o.low hb8;clear hset hb8 HE7;have HN:AP ((w8.alloc (UP Ck 75)).heap[w8.heap.size]?=UI (UP Ck 75 (0,0))):=AV w8 _;have HB:AP ((DE U 32).length=32/\Cu (DE U 32)):=⟨hbl,hbb⟩
   clear hbl hbb;generalize hbq:DE U 32=bq at HB;have HBQ:=DQ hbq;clear hbq;have HSZ:AP ((Tryz.prog.info? 75).map (·.size)=UI (bq.map (Value.int UH)).toArray.size):=by show _=_;rw[BX,BI,HB.o.1];kernel_rfl
   have HEQ:AP ((Ck:Array UL).size=(bq.map (Value.int UH)).toArray.size):=by show _=_;rw[show(bq.map (Value.int UH)).toArray.size=32 by rw[BX,BI];exact HB.o.1];rfl
   have HOK:AP ((bq.map (Value.int UH)).toArray.all (λx=>x.oneCell')=true):=by show _=_;simp[Value.oneCell']
   go_upto_region 13 with (first
    |(refine AC 75 (.tmp 5) (.tmp 57) w8.heap.size (bq.map (Value.int UH)).toArray 75 HN.o HSZ.o HEQ.o HOK.o ?_)
    |fail)
   have HX9:AP (EN w ((w8.alloc (UP Ck 75)).setRow w8.heap.size (bq.map (Value.int UH)).toArray) (Dx (four gn) [83,49] [(nD:Int),0] (four tl) (List.replicate 32 0) (List.replicate 16 0) (four gn) (four gn) [83,50] [0,0] (List.replicate 16 0) (List.replicate 32 0) (List.replicate 4 0) (four gn))/\DP ((w8.alloc (UP Ck 75)).setRow w8.heap.size (bq.map (Value.int UH)).toArray) w8.heap.size 75 bq):=⟨(HE8.o.low (Cv w8 _)).oth (Wr.setRow _ _ _) (Nat.ne_of_gt HE8.o.row.lt) (AG HE8.o.row.lt) (AG HE8.o.row.lt),AB HN.o⟩
   clear HN HSZ HEQ HOK HE8;generalize ((w8.alloc (UP Ck 75)).setRow w8.heap.size (bq.map (Value.int UH)).toArray)=w10 at *;generalize w8.heap.size=q at *;refine Ae AN ?_;refine C3 (λ_ _ _=>True) (frame:=(λ(a b c d e f g h i j k l m n o p q r s u v w x y z A B C D E F G H I J K L M N O P Q R S T U V W X Y Z a0 a1 a2 a3 a4 a5 a6 a7 a8 a9 b0 b1 b2 b3 b4 b5 b6 b7 b8 b9 c0 c1 c2 c3 c4 c5 c6 c7 c8 c9 d0 d1 d2 d3:UL)=>λ(t:Nat->UL)=>({ tmps:=List.toArray [a,b,c,d,e,f,g,h,i,j,k,l,m,n,o,p,q,r,s,u,v,w,x,y,z,A,B,C,D,E,F,G,H,I,J,K,L,M,N,O,P,Q,R,S,T,U,V,W,X,Y,Z,a0,a1,a2,a3,a4,a5,a6,a7,t 0,t 1,t 2,t 3,a8,a9,b0,b1,b2,b3,b4,b5,b6,b7,b8,b9,c0,c1,c2,c3,c4,c5,c6,c7,c8,c9,d0,d1,d2,d3],defers:=[] }:Act)) _ _ _ _ _ _ _ _ _ _ _ _ _ _ _ _ _ _ _ _ _ _ _ _ _ _ _ _ _ _ _ _ _ _ _ _ _ _ _ _ _ _ _ _ _ _ _ _ _ _ _ _ _ _ _ _ _ _ _ _ _ _ _ _ _ _ _ _ _ _ _ _ _ _ _ _ _ _ _ _ _ _ _ _ _)
    (Ext:=λL u w'=>if L 3=true then EN w w' (Dx (four gn) [83,49] [(nD:Int),0] (four tl) bq (List.replicate 16 0) (four gn) (four gn) [83,50] [0,0] (List.replicate 16 0) (List.replicate 32 0) (List.replicate 4 0) (four gn)) else EN w w' (Dx (four gn) [83,49] [(nD:Int),0] (four tl) (List.replicate 32 0) (List.replicate 16 0) (four gn) (four gn) [83,50] [0,0] (List.replicate 16 0) (List.replicate 32 0) (List.replicate 4 0) (four gn))/\DP w' q 75 bq) (Good:=λi L w' v=>if i=0 then v=UM (UI ⟨w.heap.size+1,0,UJ⟩) else if i=1 then v=UD (UI ⟨w.heap.size+1,12,UJ⟩) 52 52 else if i=2 then v=UD (UI ⟨q,0,UJ⟩) 32 32 else if i=3 then L 3=true else True) ?hstab AN ?hop ?hdone _ _ ((λ(x0 x1 x2 x3:UL)=>λ(i:Nat)=>if i=0 then x0 else if i=1 then x1 else if i=2 then x2 else if i=3 then x3 else undef) _ _ _ _) _ AM ?ext ?start AM
   case start=>intro i hi h;exact absurd h E0
   case ext=>
    rw[AS (by show ¬ (Array.getD _ _ _=true);rw[A7,BR];split<;>simp)];exact⟨HX9.o.1.drew,HX9.o.2⟩
   case hstab=>
    intro j L w9 w' i v hM hij hLi h;by_cases hl:j=3
    ·subst hl;simp at h |-;unfold Ct;simp[h]
    ·simp only[if_neg hl] at h |-;exact h
   case hop=>
    intro i o L t w' ho hLi hx hdep K hK;have hi:i<4:=(AQ.1 ho).1;obtain rfl|rfl|rfl|rfl:i=0\/i=1\/i=2\/i=3:=AK
    all_goals(simp at ho;subst ho)
    ·clear hdep;have hK':=hK w' (UM (UI ⟨w.heap.size+1,0,UJ⟩)) AM (by simpa[Ct] using hx) trivial;clear hK;rw[AR AO];go_simp;simpa[Cr] using hK'
    ·have d0:t 0=UM (UI ⟨w.heap.size+1,0,UJ⟩):=by simpa using(hdep ⟨0,UR⟩ AM rfl).2
     clear hdep;have hK':=hK w' (UD (UI ⟨w.heap.size+1,12,UJ⟩) 52 52) AM (by simpa[Ct] using hx) trivial;clear hK;rw[AR AO];go_simp;simpa[Cr,d0] using hK'
    ·clear hdep;have hK':=hK w' (UD (UI ⟨q,0,UJ⟩) 32 32) AM (by simpa[Ct] using hx) trivial;clear hK;rw[AR AO];go_simp;simpa[Cr] using hK'
    ·have d1:t 1=UD (UI ⟨w.heap.size+1,12,UJ⟩) 52 52:=by simpa using(hdep ⟨1,UR⟩ AM rfl).2
     have d2:t 2=UD (UI ⟨q,0,UJ⟩) 32 32:=by simpa using(hdep ⟨2,UR⟩ AM rfl).2
     clear hdep;rw[hLi,AS AL] at hx;have hL:Dn (four gn) [83,49] [(nD:Int),0] (four tl) (List.replicate 32 0) (List.replicate 16 0) (four gn) (four gn) [83,50] [0,0] (List.replicate 16 0) (List.replicate 32 0) (List.replicate 4 0) (four gn):=by constructor<;>simp[four]
     rw[AR AO];refine Ix (.tmp 60) (.tmp 61) rfl (UI ⟨w.heap.size+1,12,UJ⟩) (UI ⟨q,0,UJ⟩) (w.heap.size+1) 12 52 52 32 32 d1 d2 _ 124 hx.1.row bq (by rw[HB.o.1];rfl) (λ_=>⟨rfl,_,rfl,λj hj=>?_⟩) (by rw[HB.o.1,BX,BI,hL.len];decide) ?_
     ·rw[Ay,Ak,DP.cell hx.2 j hj]
     ·intro w2 h2 hw2;have hrow:DP w2 (w.heap.size+1) 124 (Dx (four gn) [83,49] [(nD:Int),0] (four tl) bq (List.replicate 16 0) (four gn) (four gn) [83,50] [0,0] (List.replicate 16 0) (List.replicate 32 0) (List.replicate 4 0) (four gn)):=by
       unfold DP;rw[h2,HB.o.1,<-(hL.putB bq HB.o.1).1];simp[List.map_take,List.map_drop]
      exact hK w2 _ (by simp[Ct]) (by rw[AR (by simp[Ct])];exact hx.1.wr hw2 hrow) trivial
   case hdone=>
    intro L t w13 hx hg;have hlast:L 3=true:=by simpa using hg 3 AL
    rw[AR hlast] at hx;clear hg hlast;have HE13:=DQ hx;clear hx HX9;have hdn:AP (EN w w13 (Dx (four gn) [83,49] [(nD:Int),0] (four tl) bq (Cz (D.take 0) 0 8) (four gn) (four gn) [83,50] [0,0] (Cz (D.take 0) 8 8) (List.replicate 32 0) (List.replicate 4 0) (four gn))):=by show EN _ _ _;rw[List.take_zero,Ky,Ky];exact HE13.o
    have k2:w13.cell? ⟨h,2,UJ⟩=UI (UD aD nD cD):=(HE13.o.below.cell (p:=⟨h,2,UJ⟩) HC.o.1).trans HC.o.2.2.2.1;clear HE13;go_wp2_with fail;clear k2
    go_loopw [68] (λi wz=>∃ k:Nat,k<=nD/\i=UE UO k/\AP (EN w wz (Dx (four gn) [83,49] [(nD:Int),0] (four tl) bq (Cz (D.take k) 0 8) (four gn) (four gn) [83,50] [0,0] (Cz (D.take k) 8 8) (List.replicate 32 0) (List.replicate 4 0) (four gn)))) (λi _=>nD-(intOf i).toNat)
    case atStart=>exact⟨0,Aj _,rfl,hdn⟩
    case round=>
     obtain⟨k,hk,rfl,HK⟩:=hrel;clear hdn;by_cases hlt:k<nD
     ·obtain h0|⟨b,off,rfl,hbl,hcl⟩:=HA.o.1.below HK.o.below
      ·exfalso;have:=HL.o.1;rw[h0] at this;simp at this;omega
      have hck:=hcl k (by rw[HL.o.1];exact hlt);clear hcl hbl;obtain⟨x,hxd⟩:∃ x,x=D.getD k 0:=⟨_,rfl⟩
      rw[<-hxd] at hck;have HXD:AP (x=D.getD k 0/\(D.getD k 0%256=D.getD k 0/\D.getD k 0/256%256=0)):=by
       have h1:=HP.o.2.2.2.1 k (by rw[HL.o.1];exact hlt);unfold QL at h1;exact⟨hxd,AK,AK⟩
      clear hxd;have hk16:k<16:=AI HP.o.2.2.2.2.1 HL.o.1
      go_wp2_with fail;clear hck;refine(Jc (w.heap.size+1) k _ hk16).mono ?_;rintro e w9 ⟨c,rfl,hw9⟩;subst w9;have hL:Dn (four gn) [83,49] [(nD:Int),0] (four tl) bq (Cz (D.take k) 0 8) (four gn) (four gn) [83,50] [0,0] (Cz (D.take k) 8 8) (List.replicate 32 0) (List.replicate 4 0) (four gn):=by constructor<;>simp[four,HB.o.1,FA]
      by_cases h8:k<8
      ·rw[AR h8];have cc0:=HK.o.row.cell (44+2*k) (by rw[hL.len];omega);have cf0:=HK.o.row.frozen (44+2*k);have H1:=hL.setD (2*k) AK (x%256);have HE1:=HK.o.set H1.1;have cc1:=HE1.row.cell (44+2*k+1) (by rw[H1.2.len];omega);have cf1:=HE1.row.frozen (44+2*k+1);have H2:=H1.2.setD (2*k+1) AK (x/256%256);have HE2:=DQ (HE1.set (o:=44+2*k+1) H2.1);have hdp:=MY D 0 k (by rw[HL.o.1];exact hlt) (Aj _) AK HXD.o.2;rw[Nat.sub_zero,<-HXD.o.1] at hdp;rw[hdp,<-MZ D 8 k AK] at HE2;clear hdp H1 H2 HE1 hL HXD HK;go_wp2_with fail;clear cc0 cf0 cc1 cf1;go_roundw
       case rel=>exact⟨k+1,AK,by go_num,HE2.o⟩
       case measure=>simp[intOf];omega
      ·rw[AS h8];have hpe:56+2*k=72+2*(k-8):=AK
       have cc0:=HK.o.row.cell (56+2*k) (by rw[hL.len];omega);have cf0:=HK.o.row.frozen (56+2*k);have H1:=hL.setD' (2*(k-8)) AK (x%256);rw[<-hpe] at H1;have HE1:=HK.o.set H1.1;have cc1:=HE1.row.cell (56+2*k+1) (by rw[H1.2.len];omega);have cf1:=HE1.row.frozen (56+2*k+1);have H2:=H1.2.setD' (2*(k-8)+1) AK (x/256%256);rw[<-Ap,<-hpe] at H2;have HE2:=DQ (HE1.set (o:=56+2*k+1) H2.1);have hdp:=MY D 8 k (by rw[HL.o.1];exact hlt) AK AK HXD.o.2;rw[<-HXD.o.1] at hdp;rw[hdp,<-MZ D 0 k AK] at HE2;clear hdp H1 H2 HE1 hL HXD HK hpe;go_wp2_with fail;clear cc0 cf0 cc1 cf1;go_roundw
       case rel=>exact⟨k+1,AK,by go_num,HE2.o⟩
       case measure=>simp[intOf];omega
     ·have hke:k=nD:=AK
      subst hke;have HZ:AP (EN w wr (Dx (four gn) [83,49] [(k:Int),0] (four tl) bq (Cz D 0 8) (four gn) (four gn) [83,50] [0,0] (Cz D 8 8) (List.replicate 32 0) (List.replicate 4 0) (four gn))):=by
       have:=HK.o;rw[show D.take k=D from An (by rw[HL.o.1];omega)] at this;exact this
      clear HK;have hL:Dn (four gn) [83,49] [(k:Int),0] (four tl) bq (Cz D 0 8) (four gn) (four gn) [83,50] [0,0] (Cz D 8 8) (List.replicate 32 0) (List.replicate 4 0) (four gn):=by constructor<;>simp[four,HB.o.1,FA]
      have hdr:∀ z∈D,0<=z/\z<256:=λz hz=>by
       obtain⟨i,hi,rfl⟩:=CP hz;have:=HP.o.2.2.2.1 i hi;unfold QL at this;rw[show D.getD i 0=D[i] by simp[List.getD,hi]] at this;exact⟨this.1,this.2.1⟩
      have hz32:Cu (List.replicate 32 0):=λz hz=>by simp at hz;omega
      have hz4:Cu (List.replicate 4 0):=λz hz=>by simp at hz;omega
      have hk16:k<=16:=AI HP.o.2.2.2.2.1 HL.o.1
      have HBY:AP (Cu (Dx (four gn) [83,49] [(k:Int),0] (four tl) bq (Cz D 0 8) (four gn) (four gn) [83,50] [0,0] (Cz D 8 8) (List.replicate 32 0) (List.replicate 4 0) (four gn))):=(Dl gn HU.o.1).app ((Hs AL AL).app ((Hs AK AL).app ((Dl tl HU.o.2).app (HB.o.2.app ((Hr D 0 8 hdr).app ((Dl gn HU.o.1).app ((Dl gn HU.o.1).app ((Hs AL AL).app ((Hs AL AL).app ((Hr D 8 8 hdr).app (hz32.app (hz4.app (Dl gn HU.o.1)))))))))))));clear hdr hz32 hz4 hk16;have A:=DQ (Ow (w.heap.size+1) _ wr HZ.o.row hL.len HBY.o);obtain⟨cr,hcr⟩:∃ cr,cr=Gl ((Dx (four gn) [83,49] [(k:Int),0] (four tl) bq (Cz D 0 8) (four gn) (four gn) [83,50] [0,0] (Cz D 8 8) (List.replicate 32 0) (List.replicate 4 0) (four gn)).take 120):=⟨_,rfl⟩
      have HS:AP (Dx (four gn) [83,49] [(k:Int),0] (four tl) bq (Cz D 0 8) (four gn) (four gn) [83,50] [0,0] (Cz D 8 8) (List.replicate 32 0) (four cr) (four gn)=Gz gn tl D U):=by
       show _=_
       rw[hcr,<-HBQ.o,<-HL.o.1];exact Qn gn tl D U _
      have HU2:AP (D8 cr):=by show D8 cr;rw[hcr];exact IE _
      rw[<-hcr] at A;have HL6:=DQ hL;clear hcr hL HBY HBQ;go_wp2_with fail;refine A.o.mono ?_;rintro e w20 ⟨rfl,hb20⟩;have HE20:AP (EN w w20 (Dx (four gn) [83,49] [(k:Int),0] (four tl) bq (Cz D 0 8) (four gn) (four gn) [83,50] [0,0] (Cz D 8 8) (List.replicate 32 0) (List.replicate 4 0) (four gn))):=HZ.o.low hb20;clear A HZ hb20;go_wp2_with fail;have A:=FT (w.heap.size+1) 64 124 56 cr _ w20 HE20.o.row (by rw[HL6.o.len];decide) AL HU2.o;rw[show 64+56=120 from rfl,(HL6.o.put120 cr HU2.o).1] at A;refine A.mono ?_;rintro e w21 ⟨rfl,hr21,hw21⟩;have HE21:AP (EN w w21 (Dx (four gn) [83,49] [(k:Int),0] (four tl) bq (Cz D 0 8) (four gn) (four gn) [83,50] [0,0] (Cz D 8 8) (List.replicate 32 0) (four cr) (four gn))/\(Dx (four gn) [83,49] [(k:Int),0] (four tl) bq (Cz D 0 8) (four gn) (four gn) [83,50] [0,0] (Cz D 8 8) (List.replicate 32 0) (four cr) (four gn)).length=128):=⟨HE20.o.wr hw21 hr21,(HL6.o.put120 cr HU2.o).2.len⟩
      clear A hr21 hw21 HE20 HL6 HU2;generalize hzz:Dx (four gn) [83,49] [(k:Int),0] (four tl) bq (Cz D 0 8) (four gn) (four gn) [83,50] [0,0] (Cz D 8 8) (List.replicate 32 0) (four cr) (four gn)=zz at HE21 HS;clear hzz;have HRW:AP (w21.heap[w.heap.size+1]?=UI (UP (zz.map (Value.int UH)).toArray 124 (0,0))):=HE21.o.1.row;have HRB:AP (w21.heap[w.heap.size]?=UI (UP Tryz.zeroCells124 124 (0,0))):=HE21.o.1.rb;have hsz:(zz.map (Value.int UH)).toArray.size=128:=by rw[BX,BI];exact HE21.o.2
      have HSZ:AP ((Tryz.prog.info? 124).map (·.size)=UI (zz.map (Value.int UH)).toArray.size):=by show _=_;rw[hsz];kernel_rfl
      have HEQ:AP ((Tryz.zeroCells124).size=(zz.map (Value.int UH)).toArray.size):=by show _=_;rw[hsz];kernel_rfl
      have HOK:AP ((zz.map (Value.int UH)).toArray.all (λx=>x.oneCell')=true):=by show _=_;simp[Value.oneCell']
      have HF:AP (Below w.heap.size w (w21.setRow w.heap.size (zz.map (Value.int UH)).toArray)):=HE21.o.1.below.trans ((Wr.setRow _ _ _).below Cw);clear hsz HE21;go_wp2_with (first
       |(refine Ab rfl 124 (.tmp 3) rfl (w.heap.size+1) rfl 124 _ (0,0) _ HRW.o Tryz.underlying124 rfl HSZ.o ?_)
       |(refine AC 124 (.tmp 2) (.tmp 88) w.heap.size (zz.map (Value.int UH)).toArray 124 HRB.o HSZ.o HEQ.o HOK.o ?_)
       |fail)
      exact AZ (v:=.agg (zz.map (Value.int UH)).toArray) (AW rfl _ _ w.heap.size 124 _ (0,0) _ rfl (AB HRB.o) Tryz.underlying124 rfl HSZ.o) rfl ⟨by rw[HS.o],HF.o⟩
end Go.Proofs.YthmeoilbmfdhfaaGreat
