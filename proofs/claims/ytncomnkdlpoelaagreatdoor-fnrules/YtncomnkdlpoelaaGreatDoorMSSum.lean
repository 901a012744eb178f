import Derived.Test.YtncomnkdlpoelaaGreatDoorMISt
import Derived.Test.YtncomnkdlpoelaaGreatDoorMReg
import Derived.Test.YtncomnkdlpoelaaGreatDoorMSAd
import Derived.Test.YtncomnkdlpoelaaGreatDoorMCatZ
namespace Go.Proofs.YtncomnkdlpoelaaGreatDoor
open Go.ChangeShapes Go.WideShapes Go.ChangeAt Go.RowKit
set_option linter.unusedVariables false
def FG (w:World) (v:Value) (x:Int):Prop:=∃ g c,v=.slice (some ⟨g,0,none⟩) 16 c∧FeA w (some ⟨g,0,none⟩) x
theorem FG.below {w w':World} {v:Value} {x:Int} (h:FG w v x) (b:Below w.heap.size w w'):FG w' v x:=by
 obtain⟨g,c,e,f⟩:=h;exact⟨g,c,e,f.below b⟩
theorem FG.get {w:World} {v:Value} {x:Int} (h:FG w v x):∃ g c,v=.slice (some ⟨g,0,none⟩) 16 c∧FeA w (some ⟨g,0,none⟩) x:=h
theorem FG.elim_ {w:World} {v:Value} {x:Int} {C:Prop} (h:FG w v x) (k:∀ g c,v=.slice (some ⟨g,0,none⟩) 16 c→FeA w (some ⟨g,0,none⟩) x→C):C:=by
 obtain⟨g,c,e,f⟩:=h;exact k g c e f
theorem PtW.c0 {w:World} {g:Nat} {s0 s1 s2 s3:Value} (h:PtW w g #[s0,s1,s2,s3]):w.cell? ⟨g,0,none⟩=some s0:=by rw[cell_of_row w g 0 _ _ _ h];rfl
theorem PtW.c1 {w:World} {g:Nat} {s0 s1 s2 s3:Value} (h:PtW w g #[s0,s1,s2,s3]):w.cell? ⟨g,1,none⟩=some s1:=by rw[cell_of_row w g 1 _ _ _ h];rfl
theorem PtW.c2 {w:World} {g:Nat} {s0 s1 s2 s3:Value} (h:PtW w g #[s0,s1,s2,s3]):w.cell? ⟨g,2,none⟩=some s2:=by rw[cell_of_row w g 2 _ _ _ h];rfl
theorem PtW.c3 {w:World} {g:Nat} {s0 s1 s2 s3:Value} (h:PtW w g #[s0,s1,s2,s3]):w.cell? ⟨g,3,none⟩=some s3:=by rw[cell_of_row w g 3 _ _ _ h];rfl
def smA (X1 Y1 X2 Y2:Int):Int:=((Y1-X1)%fp)*((Y2-X2)%fp)%fp
def smB (X1 Y1 X2 Y2:Int):Int:=((Y1+X1)%fp)*((Y2+X2)%fp)%fp
def smC (D T1 T2:Int):Int:=(((D+D)%fp)*T1%fp)*T2%fp
def smG (Z1 Z2:Int):Int:=((Z1+Z1)%fp)*Z2%fp
theorem SR.more {w wr w':World} {L:List (Option Addr×Int)} {a:Option Addr} {x:Int} (h:SR w wr L) (b:Below wr.heap.size wr w') (hf:FeA w' a x):SR w w' (L++[(a,x)]):=
 ⟨h.below.trans (b.mono h.below.size),fun e he=>by
  rcases List.mem_append.1 he with h'|h'
  ·exact(h.fe e h').below b
  ·simp only[List.mem_cons,List.not_mem_nil,or_false] at h';subst h';exact hf⟩
def SumP (w:World) (A B C G:Int) (e:Ending) (w':World):Prop:=
 ∃ g1 k1 g2 k2 g3 k3 g4 k4,e=.returned (.agg #[.slice (some ⟨g1,0,none⟩) 16 k1,.slice (some ⟨g2,0,none⟩) 16 k2,.slice (some ⟨g3,0,none⟩) 16 k3,.slice (some ⟨g4,0,none⟩) 16 k4])∧
  FeA w' (some ⟨g1,0,none⟩) ((B-A)%fp*((G-C)%fp)%fp)∧FeA w' (some ⟨g2,0,none⟩) ((G+C)%fp*((B+A)%fp)%fp)∧
  FeA w' (some ⟨g3,0,none⟩) ((G-C)%fp*((G+C)%fp)%fp)∧FeA w' (some ⟨g4,0,none⟩) ((B-A)%fp*((B+A)%fp)%fp)∧Below w.heap.size w w'∧(w.heap.size≤g1∧w.heap.size≤g2∧w.heap.size≤g3∧w.heap.size≤g4)
set_option maxRecDepth 100000 in
set_option maxHeartbeats 8000000 in
theorem sum_any (a0 a1 a2 a3 b0 b1 b2 b3 ad:Option Addr) (c0 c1 c2 c3 e0 e1 e2 e3 cd:Nat) (X1 Y1 Z1 T1 X2 Y2 Z2 T2 D:Int) (w:World) (hs:∀ e∈[(a0,X1),(a1,Y1),(a2,Z1),(a3,T1),(b0,X2),(b1,Y2),(b2,Z2),(b3,T2),(ad,D)],FeA w e.1 e.2) :
  Calls Tryz.prog 60 #[.agg #[.slice a0 16 c0,.slice a1 16 c1,.slice a2 16 c2,.slice a3 16 c3],.agg #[.slice b0 16 e0,.slice b1 16 e1,.slice b2 16 e2,.slice b3 16 e3],.slice ad 16 cd] w (SumP w (smA X1 Y1 X2 Y2) (smB X1 Y1 X2 Y2) (smC D T1 T2) (smG Z1 Z2)):=by
 have bb:Below w.heap.size w (((w.alloc (.cells #[.slice a0 16 c0,.slice a1 16 c1,.slice a2 16 c2,.slice a3 16 c3] 79)).alloc (.cells #[.slice b0 16 e0,.slice b1 16 e1,.slice b2 16 e2,.slice b3 16 e3] 79)).alloc (.cells #[.slice none 0 0,.slice none 0 0,.slice none 0 0,.slice none 0 0] 79)):=(((Below.refl _ _).alloc (Nat.le_refl _) _).alloc (by simp) _).alloc (by simp;omega) _;have HP:Hid (PtW (((w.alloc (.cells #[.slice a0 16 c0,.slice a1 16 c1,.slice a2 16 c2,.slice a3 16 c3] 79)).alloc (.cells #[.slice b0 16 e0,.slice b1 16 e1,.slice b2 16 e2,.slice b3 16 e3] 79)).alloc (.cells #[.slice none 0 0,.slice none 0 0,.slice none 0 0,.slice none 0 0] 79)) w.heap.size #[.slice a0 16 c0,.slice a1 16 c1,.slice a2 16 c2,.slice a3 16 c3]):=by
  show _=_
  rw[Below.heap_alloc _ _ w.heap.size (by simp;omega),Below.heap_alloc _ _ w.heap.size (by simp)];exact heap_alloc_new w _
 have HQ:Hid (PtW (((w.alloc (.cells #[.slice a0 16 c0,.slice a1 16 c1,.slice a2 16 c2,.slice a3 16 c3] 79)).alloc (.cells #[.slice b0 16 e0,.slice b1 16 e1,.slice b2 16 e2,.slice b3 16 e3] 79)).alloc (.cells #[.slice none 0 0,.slice none 0 0,.slice none 0 0,.slice none 0 0] 79)) (w.heap.size+1) #[.slice b0 16 e0,.slice b1 16 e1,.slice b2 16 e2,.slice b3 16 e3]):=by
  show _=_
  rw[Below.heap_alloc _ _ (w.heap.size+1) (by simp)];have:=heap_alloc_new (w.alloc (.cells #[.slice a0 16 c0,.slice a1 16 c1,.slice a2 16 c2,.slice a3 16 c3] 79)) (.cells #[.slice b0 16 e0,.slice b1 16 e1,.slice b2 16 e2,.slice b3 16 e3] 79);simpa using this
 have HZ:Hid (PtW (((w.alloc (.cells #[.slice a0 16 c0,.slice a1 16 c1,.slice a2 16 c2,.slice a3 16 c3] 79)).alloc (.cells #[.slice b0 16 e0,.slice b1 16 e1,.slice b2 16 e2,.slice b3 16 e3] 79)).alloc (.cells #[.slice none 0 0,.slice none 0 0,.slice none 0 0,.slice none 0 0] 79)) (w.heap.size+1+1) #[.slice none 0 0,.slice none 0 0,.slice none 0 0,.slice none 0 0]):=by
  show _=_
  have:=heap_alloc_new ((w.alloc (.cells #[.slice a0 16 c0,.slice a1 16 c1,.slice a2 16 c2,.slice a3 16 c3] 79)).alloc (.cells #[.slice b0 16 e0,.slice b1 16 e1,.slice b2 16 e2,.slice b3 16 e3] 79)) (.cells #[.slice none 0 0,.slice none 0 0,.slice none 0 0,.slice none 0 0] 79);simpa using this
 have SRK:Hid (SR w (((w.alloc (.cells #[.slice a0 16 c0,.slice a1 16 c1,.slice a2 16 c2,.slice a3 16 c3] 79)).alloc (.cells #[.slice b0 16 e0,.slice b1 16 e1,.slice b2 16 e2,.slice b3 16 e3] 79)).alloc (.cells #[.slice none 0 0,.slice none 0 0,.slice none 0 0,.slice none 0 0] 79)) [(a0,X1),(a1,Y1),(a2,Z1),(a3,T1),(b0,X2),(b1,Y2),(b2,Z2),(b3,T2),(ad,D)]):=⟨bb,fun e he=>(hs e he).below bb⟩
 go_enter Tryz.func60,Tryz.ntmps60;go_wp2_with fail;generalize (((w.alloc (.cells #[.slice a0 16 c0,.slice a1 16 c1,.slice a2 16 c2,.slice a3 16 c3] 79)).alloc (.cells #[.slice b0 16 e0,.slice b1 16 e1,.slice b2 16 e2,.slice b3 16 e3] 79)).alloc (.cells #[.slice none 0 0,.slice none 0 0,.slice none 0 0,.slice none 0 0] 79))=w0 at *;refine wp_region_any (by kernel_rfl) ?_;refine wpAny_slotsG (fun _ w w'=>Below w.heap.size w w') (frame:=(fun (a b c d e f g h i j k l m n o p q r s u v w x y z A B C D E F G H I J K L M N O P Q R S T U V W X Y Z a0 a1 a2 a3 a4 a5 a6 a7 a8 a9 b0 b1 b2 b3 b4 b5:Value)=>fun (t:Nat→Value)=>({ tmps:=List.toArray [a,b,c,d,e,f,g,t 11,h,i,j,k,l,m,n,t 0,t 1,t 2,t 3,t 4,t 5,t 6,t 7,t 8,t 9,t 10,o,p,q,r,s,u,v,w,x,y,z,A,B,C,D,E,F,G,H,I,J,K,L,M,N,O,P,Q,R,S,T,U,V,W,X,Y,Z,a0,a1,a2,a3,a4,a5,a6,a7,a8,a9,b0,b1,b2,b3,b4,b5],defers:=[] }:Act)) _ _ _ _ _ _ _ _ _ _ _ _ _ _ _ _ _ _ _ _ _ _ _ _ _ _ _ _ _ _ _ _ _ _ _ _ _ _ _ _ _ _ _ _ _ _ _ _ _ _ _ _ _ _ _ _ _ _ _ _ _ _ _ _ _ _ _)
  (Ext:=fun L w'=>Below w0.heap.size w0 w') (Good:=fun i L w' v=>if i=0 then v=.pointer (some ⟨w.heap.size,1,none⟩) else if i=1 then v=.slice a1 16 c1 else if i=2 then v=.pointer (some ⟨w.heap.size,0,none⟩) else if i=3 then v=.slice a0 16 c0 else if i=4 then FG w' v ((Y1-X1)%fp) else if i=5 then v=.pointer (some ⟨(w.heap.size+1),1,none⟩) else if i=6 then v=.slice b1 16 e1 else if i=7 then v=.pointer (some ⟨(w.heap.size+1),0,none⟩) else if i=8 then v=.slice b0 16 e0 else if i=9 then FG w' v ((Y2-X2)%fp) else if i=10 then FG w' v (((Y1-X1)%fp)*((Y2-X2)%fp)%fp) else if i=11 then FG w' v (((Y1-X1)%fp)*((Y2-X2)%fp)%fp) else True) ?hstab (by kernel_rfl) ?hop ?hdone _ _ ((fun (x0 x1 x2 x3 x4 x5 x6 x7 x8 x9 x10 x11:Value)=>fun (i:Nat)=>if i=0 then x0 else if i=1 then x1 else if i=2 then x2 else if i=3 then x3 else if i=4 then x4 else if i=5 then x5 else if i=6 then x6 else if i=7 then x7 else if i=8 then x8 else if i=9 then x9 else if i=10 then x10 else if i=11 then x11 else undef) _ _ _ _ _ _ _ _ _ _ _ _) _ (by simp) ?ext ?start (by simp)
 case start=>intro i hi h;exact absurd h (by rw[Array.getD_eq_getD_getElem?,Array.getElem?_replicate];split<;>simp)
 case ext=>exact⟨rfl,rfl,rfl,Nat.le_refl _,fun _ _=>rfl⟩
 case hstab=>
  intro j L w9 w' i v hM _ _ h;by_cases h4:j=4
  ·subst h4;simp at h ⊢;exact h.below hM
  by_cases h9:j=9
  ·subst h9;simp at h ⊢;exact h.below hM
  by_cases h10:j=10
  ·subst h10;simp at h ⊢;exact h.below hM
  by_cases h11:j=11
  ·subst h11;simp at h ⊢;exact h.below hM
  simp only[if_neg h4,if_neg h9,if_neg h10,if_neg h11] at h ⊢;exact h
 case hop=>
  intro i o L t w' ho hLi hx hdep K hK;have hi:i<12:=(Array.getElem?_eq_some_iff.1 ho).1;obtain rfl|rfl|rfl|rfl|rfl|rfl|rfl|rfl|rfl|rfl|rfl|rfl:i=0∨i=1∨i=2∨i=3∨i=4∨i=5∨i=6∨i=7∨i=8∨i=9∨i=10∨i=11:=by omega
  all_goals(simp at ho;subst ho)
  all_goals try(have hK':=hK w' _ rfl hx (Below.refl _ _);clear hK;simp[Region.binds] at hdep;rw[if_pos (by rfl)];go_simp;simpa[upd,hdep] using hK';done)
  ·have d0:t 0=.pointer (some ⟨w.heap.size,1,none⟩):=by simpa using hdep ⟨0,.data⟩ (by simp) rfl
   have cc:=(HP.out.below hx HP.out.lt).c1;have hK':=hK w' (.slice a1 16 c1) (by simp) hx (Below.refl _ _);rw[if_pos (by rfl)];go_simp;simpa[upd,d0] using hK'
  ·have d2:t 2=.pointer (some ⟨w.heap.size,0,none⟩):=by simpa using hdep ⟨2,.data⟩ (by simp) rfl
   have cc:=(HP.out.below hx HP.out.lt).c0;have hK':=hK w' (.slice a0 16 c0) (by simp) hx (Below.refl _ _);rw[if_pos (by rfl)];go_simp;simpa[upd,d2] using hK'
  ·have d1:t 1=.slice a1 16 c1:=by simpa using hdep ⟨1,.data⟩ (by simp) rfl
   have d3:t 3=.slice a0 16 c0:=by simpa using hdep ⟨3,.data⟩ (by simp) rfl
   have A:=fsub_any a1 a0 c1 c0 Y1 X1 w' ((SRK.out.at 1 _ _ rfl).below hx) ((SRK.out.at 0 _ _ rfl).below hx);have hK':∀ ww v,FG ww v ((Y1-X1)%fp)→Below w'.heap.size w' ww→K _ ww:=fun ww v hg hb=>hK ww v (by simpa using hg) (hx.trans (hb.mono hx.size)) hb
   rw[if_pos (by rfl)];go_simp;try simp only[d1,d3]
   refine A.mono ?_;rintro e w9 ⟨g',c',rfl,_,_,hf,hb⟩;have hK2:=hK' w9 _ ⟨g',c',rfl,hf⟩ hb;go_simp;simpa[upd,d1,d3] using hK2
  ·have d5:t 5=.pointer (some ⟨(w.heap.size+1),1,none⟩):=by simpa using hdep ⟨5,.data⟩ (by simp) rfl
   have cc:=(HQ.out.below hx HQ.out.lt).c1;have hK':=hK w' (.slice b1 16 e1) (by simp) hx (Below.refl _ _);rw[if_pos (by rfl)];go_simp;simpa[upd,d5] using hK'
  ·have d7:t 7=.pointer (some ⟨(w.heap.size+1),0,none⟩):=by simpa using hdep ⟨7,.data⟩ (by simp) rfl
   have cc:=(HQ.out.below hx HQ.out.lt).c0;have hK':=hK w' (.slice b0 16 e0) (by simp) hx (Below.refl _ _);rw[if_pos (by rfl)];go_simp;simpa[upd,d7] using hK'
  ·have d6:t 6=.slice b1 16 e1:=by simpa using hdep ⟨6,.data⟩ (by simp) rfl
   have d8:t 8=.slice b0 16 e0:=by simpa using hdep ⟨8,.data⟩ (by simp) rfl
   have A:=fsub_any b1 b0 e1 e0 Y2 X2 w' ((SRK.out.at 5 _ _ rfl).below hx) ((SRK.out.at 4 _ _ rfl).below hx);have hK':∀ ww v,FG ww v ((Y2-X2)%fp)→Below w'.heap.size w' ww→K _ ww:=fun ww v hg hb=>hK ww v (by simpa using hg) (hx.trans (hb.mono hx.size)) hb
   rw[if_pos (by rfl)];go_simp;try simp only[d6,d8]
   refine A.mono ?_;rintro e w9 ⟨g',c',rfl,_,_,hf,hb⟩;have hK2:=hK' w9 _ ⟨g',c',rfl,hf⟩ hb;go_simp;simpa[upd,d6,d8] using hK2
  ·have h4:FG w' (t 4) ((Y1-X1)%fp):=by simpa using hdep ⟨4,.data⟩ (by simp) rfl
   refine h4.elim_ fun g4 c4 d4 f4=>?_
   have h9:FG w' (t 9) ((Y2-X2)%fp):=by simpa using hdep ⟨9,.data⟩ (by simp) rfl
   refine h9.elim_ fun g9 c9 d9 f9=>?_
   have A:=fmul_any (some ⟨g4,0,none⟩) (some ⟨g9,0,none⟩) c4 c9 _ _ w' f4 f9;have hK':∀ ww v,FG ww v (((Y1-X1)%fp)*((Y2-X2)%fp)%fp)→Below w'.heap.size w' ww→K _ ww:=fun ww v hg hb=>hK ww v (by simpa using hg) (hx.trans (hb.mono hx.size)) hb
   rw[if_pos (by rfl)];go_simp;try simp only[d4,d9]
   refine A.mono ?_;rintro e w9 ⟨g',c',rfl,_,_,hf,hb⟩;have hK2:=hK' w9 _ ⟨g',c',rfl,hf⟩ hb;go_simp;simpa[upd,d4,d9] using hK2
  ·have h10:FG w' (t 10) (((Y1-X1)%fp)*((Y2-X2)%fp)%fp):=by simpa using hdep ⟨10,.data⟩ (by simp) rfl
   refine h10.elim_ fun g10 c10 d10 f10=>?_
   have hK':=hK w' (.slice (some ⟨g10,0,none⟩) 16 c10) (by simpa using⟨g10,c10,rfl,f10⟩) hx (Below.refl _ _);rw[if_pos (by rfl)];go_simp;simpa[upd,d10] using hK'
 case hdone=>
  intro L t1 w1 hx hg;have f11:FG w1 (t1 11) (((Y1-X1)%fp)*((Y2-X2)%fp)%fp):=by simpa using hg 11 (by decide)
  obtain⟨ggA,ccA,eA,ff⟩:=f11.get;have HP1:=hdI <| HP.out.below hx HP.out.lt
  have HQ1:=hdI <| HQ.out.below hx HQ.out.lt
  have HZ1:=hdI <| HZ.out.below hx HZ.out.lt
  have SRK1:=hdI <| SRK.out.more hx ff
  simp only[eA];go_wp2_with fail;refine wp_region_any (by kernel_rfl) ?_;refine wpAny_slotsG (fun _ w w'=>Below w.heap.size w w') (frame:=(fun (a b c d e f g h i j k l m n o p q r s u v w x y z A B C D E F G H I J K L M N O P Q R S T U V W X Y Z a0 a1 a2 a3 a4 a5 a6 a7 a8 a9 b0 b1 b2 b3 b4 b5:Value)=>fun (t:Nat→Value)=>({ tmps:=List.toArray [a,b,c,d,e,f,g,h,t 11,i,j,k,l,m,n,o,p,q,r,s,u,v,w,x,y,z,t 0,t 1,t 2,t 3,t 4,t 5,t 6,t 7,t 8,t 9,t 10,A,B,C,D,E,F,G,H,I,J,K,L,M,N,O,P,Q,R,S,T,U,V,W,X,Y,Z,a0,a1,a2,a3,a4,a5,a6,a7,a8,a9,b0,b1,b2,b3,b4,b5],defers:=[] }:Act)) _ _ _ _ _ _ _ _ _ _ _ _ _ _ _ _ _ _ _ _ _ _ _ _ _ _ _ _ _ _ _ _ _ _ _ _ _ _ _ _ _ _ _ _ _ _ _ _ _ _ _ _ _ _ _ _ _ _ _ _ _ _ _ _ _ _ _)
   (Ext:=fun L w'=>Below w1.heap.size w1 w') (Good:=fun i L w' v=>if i=0 then v=.pointer (some ⟨w.heap.size,1,none⟩) else if i=1 then v=.slice a1 16 c1 else if i=2 then v=.pointer (some ⟨w.heap.size,0,none⟩) else if i=3 then v=.slice a0 16 c0 else if i=4 then FG w' v ((Y1+X1)%fp) else if i=5 then v=.pointer (some ⟨(w.heap.size+1),1,none⟩) else if i=6 then v=.slice b1 16 e1 else if i=7 then v=.pointer (some ⟨(w.heap.size+1),0,none⟩) else if i=8 then v=.slice b0 16 e0 else if i=9 then FG w' v ((Y2+X2)%fp) else if i=10 then FG w' v (((Y1+X1)%fp)*((Y2+X2)%fp)%fp) else if i=11 then FG w' v (((Y1+X1)%fp)*((Y2+X2)%fp)%fp) else True) ?hstab (by kernel_rfl) ?hop ?hdone _ _ ((fun (x0 x1 x2 x3 x4 x5 x6 x7 x8 x9 x10 x11:Value)=>fun (i:Nat)=>if i=0 then x0 else if i=1 then x1 else if i=2 then x2 else if i=3 then x3 else if i=4 then x4 else if i=5 then x5 else if i=6 then x6 else if i=7 then x7 else if i=8 then x8 else if i=9 then x9 else if i=10 then x10 else if i=11 then x11 else undef) _ _ _ _ _ _ _ _ _ _ _ _) _ (by simp) ?ext ?start (by simp)
  case start=>intro i hi h;exact absurd h (by rw[Array.getD_eq_getD_getElem?,Array.getElem?_replicate];split<;>simp)
  case ext=>exact⟨rfl,rfl,rfl,Nat.le_refl _,fun _ _=>rfl⟩
  case hstab=>
   intro j L w9 w' i v hM _ _ h;by_cases h4:j=4
   ·subst h4;simp at h ⊢;exact h.below hM
   by_cases h9:j=9
   ·subst h9;simp at h ⊢;exact h.below hM
   by_cases h10:j=10
   ·subst h10;simp at h ⊢;exact h.below hM
   by_cases h11:j=11
   ·subst h11;simp at h ⊢;exact h.below hM
   simp only[if_neg h4,if_neg h9,if_neg h10,if_neg h11] at h ⊢;exact h
  case hop=>
   intro i o L t w' ho hLi hx hdep K hK;have hi:i<12:=(Array.getElem?_eq_some_iff.1 ho).1;obtain rfl|rfl|rfl|rfl|rfl|rfl|rfl|rfl|rfl|rfl|rfl|rfl:i=0∨i=1∨i=2∨i=3∨i=4∨i=5∨i=6∨i=7∨i=8∨i=9∨i=10∨i=11:=by omega
   all_goals(simp at ho;subst ho)
   all_goals try(have hK':=hK w' _ rfl hx (Below.refl _ _);clear hK;simp[Region.binds] at hdep;rw[if_pos (by rfl)];go_simp;simpa[upd,hdep] using hK';done)
   ·have d0:t 0=.pointer (some ⟨w.heap.size,1,none⟩):=by simpa using hdep ⟨0,.data⟩ (by simp) rfl
    have cc:=(HP1.out.below hx HP1.out.lt).c1;have hK':=hK w' (.slice a1 16 c1) (by simp) hx (Below.refl _ _);rw[if_pos (by rfl)];go_simp;simpa[upd,d0] using hK'
   ·have d2:t 2=.pointer (some ⟨w.heap.size,0,none⟩):=by simpa using hdep ⟨2,.data⟩ (by simp) rfl
    have cc:=(HP1.out.below hx HP1.out.lt).c0;have hK':=hK w' (.slice a0 16 c0) (by simp) hx (Below.refl _ _);rw[if_pos (by rfl)];go_simp;simpa[upd,d2] using hK'
   ·have d1:t 1=.slice a1 16 c1:=by simpa using hdep ⟨1,.data⟩ (by simp) rfl
    have d3:t 3=.slice a0 16 c0:=by simpa using hdep ⟨3,.data⟩ (by simp) rfl
    have A:=fadd_any a1 a0 c1 c0 Y1 X1 w' ((SRK1.out.at 1 _ _ rfl).below hx) ((SRK1.out.at 0 _ _ rfl).below hx);have hK':∀ ww v,FG ww v ((Y1+X1)%fp)→Below w'.heap.size w' ww→K _ ww:=fun ww v hg hb=>hK ww v (by simpa using hg) (hx.trans (hb.mono hx.size)) hb
    rw[if_pos (by rfl)];go_simp;try simp only[d1,d3]
    refine A.mono ?_;rintro e w9 ⟨g',c',rfl,_,_,hf,hb⟩;have hK2:=hK' w9 _ ⟨g',c',rfl,hf⟩ hb;go_simp;simpa[upd,d1,d3] using hK2
   ·have d5:t 5=.pointer (some ⟨(w.heap.size+1),1,none⟩):=by simpa using hdep ⟨5,.data⟩ (by simp) rfl
    have cc:=(HQ1.out.below hx HQ1.out.lt).c1;have hK':=hK w' (.slice b1 16 e1) (by simp) hx (Below.refl _ _);rw[if_pos (by rfl)];go_simp;simpa[upd,d5] using hK'
   ·have d7:t 7=.pointer (some ⟨(w.heap.size+1),0,none⟩):=by simpa using hdep ⟨7,.data⟩ (by simp) rfl
    have cc:=(HQ1.out.below hx HQ1.out.lt).c0;have hK':=hK w' (.slice b0 16 e0) (by simp) hx (Below.refl _ _);rw[if_pos (by rfl)];go_simp;simpa[upd,d7] using hK'
   ·have d6:t 6=.slice b1 16 e1:=by simpa using hdep ⟨6,.data⟩ (by simp) rfl
    have d8:t 8=.slice b0 16 e0:=by simpa using hdep ⟨8,.data⟩ (by simp) rfl
    have A:=fadd_any b1 b0 e1 e0 Y2 X2 w' ((SRK1.out.at 5 _ _ rfl).below hx) ((SRK1.out.at 4 _ _ rfl).below hx);have hK':∀ ww v,FG ww v ((Y2+X2)%fp)→Below w'.heap.size w' ww→K _ ww:=fun ww v hg hb=>hK ww v (by simpa using hg) (hx.trans (hb.mono hx.size)) hb
    rw[if_pos (by rfl)];go_simp;try simp only[d6,d8]
    refine A.mono ?_;rintro e w9 ⟨g',c',rfl,_,_,hf,hb⟩;have hK2:=hK' w9 _ ⟨g',c',rfl,hf⟩ hb;go_simp;simpa[upd,d6,d8] using hK2
   ·have h4:FG w' (t 4) ((Y1+X1)%fp):=by simpa using hdep ⟨4,.data⟩ (by simp) rfl
    refine h4.elim_ fun g4 c4 d4 f4=>?_
    have h9:FG w' (t 9) ((Y2+X2)%fp):=by simpa using hdep ⟨9,.data⟩ (by simp) rfl
    refine h9.elim_ fun g9 c9 d9 f9=>?_
    have A:=fmul_any (some ⟨g4,0,none⟩) (some ⟨g9,0,none⟩) c4 c9 _ _ w' f4 f9;have hK':∀ ww v,FG ww v (((Y1+X1)%fp)*((Y2+X2)%fp)%fp)→Below w'.heap.size w' ww→K _ ww:=fun ww v hg hb=>hK ww v (by simpa using hg) (hx.trans (hb.mono hx.size)) hb
    rw[if_pos (by rfl)];go_simp;try simp only[d4,d9]
    refine A.mono ?_;rintro e w9 ⟨g',c',rfl,_,_,hf,hb⟩;have hK2:=hK' w9 _ ⟨g',c',rfl,hf⟩ hb;go_simp;simpa[upd,d4,d9] using hK2
   ·have h10:FG w' (t 10) (((Y1+X1)%fp)*((Y2+X2)%fp)%fp):=by simpa using hdep ⟨10,.data⟩ (by simp) rfl
    refine h10.elim_ fun g10 c10 d10 f10=>?_
    have hK':=hK w' (.slice (some ⟨g10,0,none⟩) 16 c10) (by simpa using⟨g10,c10,rfl,f10⟩) hx (Below.refl _ _);rw[if_pos (by rfl)];go_simp;simpa[upd,d10] using hK'
  case hdone=>
   intro L t2 w2 hx hg;have f11:FG w2 (t2 11) (((Y1+X1)%fp)*((Y2+X2)%fp)%fp):=by simpa using hg 11 (by decide)
   obtain⟨ggB,ccB,eB,ff⟩:=f11.get;have HP2:=hdI <| HP1.out.below hx HP1.out.lt
   have HQ2:=hdI <| HQ1.out.below hx HQ1.out.lt
   have HZ2:=hdI <| HZ1.out.below hx HZ1.out.lt
   have SRK2:=hdI <| SRK1.out.more hx ff
   simp only[eB];go_wp2_with fail;refine wp_region_any (by kernel_rfl) ?_;refine wpAny_slotsG (fun _ w w'=>Below w.heap.size w w') (frame:=(fun (a b c d e f g h i j k l m n o p q r s u v w x y z A B C D E F G H I J K L M N O P Q R S T U V W X Y Z a0 a1 a2 a3 a4 a5 a6 a7 a8 a9 b0 b1 b2 b3 b4 b5 b6 b7:Value)=>fun (t:Nat→Value)=>({ tmps:=List.toArray [a,b,c,d,e,f,g,h,i,t 9,j,k,l,m,n,o,p,q,r,s,u,v,w,x,y,z,A,B,C,D,E,F,G,H,I,J,K,t 0,t 1,t 2,t 3,t 4,t 5,t 6,t 7,t 8,L,M,N,O,P,Q,R,S,T,U,V,W,X,Y,Z,a0,a1,a2,a3,a4,a5,a6,a7,a8,a9,b0,b1,b2,b3,b4,b5,b6,b7],defers:=[] }:Act)) _ _ _ _ _ _ _ _ _ _ _ _ _ _ _ _ _ _ _ _ _ _ _ _ _ _ _ _ _ _ _ _ _ _ _ _ _ _ _ _ _ _ _ _ _ _ _ _ _ _ _ _ _ _ _ _ _ _ _ _ _ _ _ _ _ _ _ _ _)
    (Ext:=fun L w'=>Below w2.heap.size w2 w') (Good:=fun i L w' v=>if i=0 then v=.slice ad 16 cd else if i=1 then v=.slice ad 16 cd else if i=2 then FG w' v ((D+D)%fp) else if i=3 then v=.pointer (some ⟨w.heap.size,3,none⟩) else if i=4 then v=.slice a3 16 c3 else if i=5 then FG w' v (((D+D)%fp)*T1%fp) else if i=6 then v=.pointer (some ⟨(w.heap.size+1),3,none⟩) else if i=7 then v=.slice b3 16 e3 else if i=8 then FG w' v ((((D+D)%fp)*T1%fp)*T2%fp) else if i=9 then FG w' v ((((D+D)%fp)*T1%fp)*T2%fp) else True) ?hstab (by kernel_rfl) ?hop ?hdone _ _ ((fun (x0 x1 x2 x3 x4 x5 x6 x7 x8 x9:Value)=>fun (i:Nat)=>if i=0 then x0 else if i=1 then x1 else if i=2 then x2 else if i=3 then x3 else if i=4 then x4 else if i=5 then x5 else if i=6 then x6 else if i=7 then x7 else if i=8 then x8 else if i=9 then x9 else undef) _ _ _ _ _ _ _ _ _ _) _ (by simp) ?ext ?start (by simp)
   case start=>intro i hi h;exact absurd h (by rw[Array.getD_eq_getD_getElem?,Array.getElem?_replicate];split<;>simp)
   case ext=>exact⟨rfl,rfl,rfl,Nat.le_refl _,fun _ _=>rfl⟩
   case hstab=>
    intro j L w9 w' i v hM _ _ h;by_cases h2:j=2
    ·subst h2;simp at h ⊢;exact h.below hM
    by_cases h5:j=5
    ·subst h5;simp at h ⊢;exact h.below hM
    by_cases h8:j=8
    ·subst h8;simp at h ⊢;exact h.below hM
    by_cases h9:j=9
    ·subst h9;simp at h ⊢;exact h.below hM
    simp only[if_neg h2,if_neg h5,if_neg h8,if_neg h9] at h ⊢;exact h
   case hop=>
    intro i o L t w' ho hLi hx hdep K hK;have hi:i<10:=(Array.getElem?_eq_some_iff.1 ho).1;obtain rfl|rfl|rfl|rfl|rfl|rfl|rfl|rfl|rfl|rfl:i=0∨i=1∨i=2∨i=3∨i=4∨i=5∨i=6∨i=7∨i=8∨i=9:=by omega
    all_goals(simp at ho;subst ho)
    all_goals try(have hK':=hK w' _ rfl hx (Below.refl _ _);clear hK;simp[Region.binds] at hdep;rw[if_pos (by rfl)];go_simp;simpa[upd,hdep] using hK';done)
    ·have d0:t 0=.slice ad 16 cd:=by simpa using hdep ⟨0,.data⟩ (by simp) rfl
     have d1:t 1=.slice ad 16 cd:=by simpa using hdep ⟨1,.data⟩ (by simp) rfl
     have A:=fadd_any ad ad cd cd D D w' ((SRK2.out.at 8 _ _ rfl).below hx) ((SRK2.out.at 8 _ _ rfl).below hx);have hK':∀ ww v,FG ww v ((D+D)%fp)→Below w'.heap.size w' ww→K _ ww:=fun ww v hg hb=>hK ww v (by simpa using hg) (hx.trans (hb.mono hx.size)) hb
     rw[if_pos (by rfl)];go_simp;try simp only[d0,d1]
     refine A.mono ?_;rintro e w9 ⟨g',c',rfl,_,_,hf,hb⟩;have hK2:=hK' w9 _ ⟨g',c',rfl,hf⟩ hb;go_simp;simpa[upd,d0,d1] using hK2
    ·have d3:t 3=.pointer (some ⟨w.heap.size,3,none⟩):=by simpa using hdep ⟨3,.data⟩ (by simp) rfl
     have cc:=(HP2.out.below hx HP2.out.lt).c3;have hK':=hK w' (.slice a3 16 c3) (by simp) hx (Below.refl _ _);rw[if_pos (by rfl)];go_simp;simpa[upd,d3] using hK'
    ·have h2:FG w' (t 2) ((D+D)%fp):=by simpa using hdep ⟨2,.data⟩ (by simp) rfl
     refine h2.elim_ fun g2 c2 d2 f2=>?_
     have d4:t 4=.slice a3 16 c3:=by simpa using hdep ⟨4,.data⟩ (by simp) rfl
     have A:=fmul_any (some ⟨g2,0,none⟩) a3 c2 c3 _ T1 w' f2 ((SRK2.out.at 3 _ _ rfl).below hx);have hK':∀ ww v,FG ww v (((D+D)%fp)*T1%fp)→Below w'.heap.size w' ww→K _ ww:=fun ww v hg hb=>hK ww v (by simpa using hg) (hx.trans (hb.mono hx.size)) hb
     rw[if_pos (by rfl)];go_simp;try simp only[d2,d4]
     refine A.mono ?_;rintro e w9 ⟨g',c',rfl,_,_,hf,hb⟩;have hK2:=hK' w9 _ ⟨g',c',rfl,hf⟩ hb;go_simp;simpa[upd,d2,d4] using hK2
    ·have d6:t 6=.pointer (some ⟨(w.heap.size+1),3,none⟩):=by simpa using hdep ⟨6,.data⟩ (by simp) rfl
     have cc:=(HQ2.out.below hx HQ2.out.lt).c3;have hK':=hK w' (.slice b3 16 e3) (by simp) hx (Below.refl _ _);rw[if_pos (by rfl)];go_simp;simpa[upd,d6] using hK'
    ·have h5:FG w' (t 5) (((D+D)%fp)*T1%fp):=by simpa using hdep ⟨5,.data⟩ (by simp) rfl
     refine h5.elim_ fun g5 c5 d5 f5=>?_
     have d7:t 7=.slice b3 16 e3:=by simpa using hdep ⟨7,.data⟩ (by simp) rfl
     have A:=fmul_any (some ⟨g5,0,none⟩) b3 c5 e3 _ T2 w' f5 ((SRK2.out.at 7 _ _ rfl).below hx);have hK':∀ ww v,FG ww v ((((D+D)%fp)*T1%fp)*T2%fp)→Below w'.heap.size w' ww→K _ ww:=fun ww v hg hb=>hK ww v (by simpa using hg) (hx.trans (hb.mono hx.size)) hb
     rw[if_pos (by rfl)];go_simp;try simp only[d5,d7]
     refine A.mono ?_;rintro e w9 ⟨g',c',rfl,_,_,hf,hb⟩;have hK2:=hK' w9 _ ⟨g',c',rfl,hf⟩ hb;go_simp;simpa[upd,d5,d7] using hK2
    ·have h8:FG w' (t 8) ((((D+D)%fp)*T1%fp)*T2%fp):=by simpa using hdep ⟨8,.data⟩ (by simp) rfl
     refine h8.elim_ fun g8 c8 d8 f8=>?_
     have hK':=hK w' (.slice (some ⟨g8,0,none⟩) 16 c8) (by simpa using⟨g8,c8,rfl,f8⟩) hx (Below.refl _ _);rw[if_pos (by rfl)];go_simp;simpa[upd,d8] using hK'
   case hdone=>
    intro L t3 w3 hx hg;have f9:FG w3 (t3 9) ((((D+D)%fp)*T1%fp)*T2%fp):=by simpa using hg 9 (by decide)
    obtain⟨ggC,ccC,eC,ff⟩:=f9.get;have HP3:=hdI <| HP2.out.below hx HP2.out.lt
    have HQ3:=hdI <| HQ2.out.below hx HQ2.out.lt
    have HZ3:=hdI <| HZ2.out.below hx HZ2.out.lt
    have SRK3:=hdI <| SRK2.out.more hx ff
    simp only[eC];go_wp2_with fail;refine wp_region_any (by kernel_rfl) ?_;refine wpAny_slotsG (fun _ w w'=>Below w.heap.size w w') (frame:=(fun (a b c d e f g h i j k l m n o p q r s u v w x y z A B C D E F G H I J K L M N O P Q R S T U V W X Y Z a0 a1 a2 a3 a4 a5 a6 a7 a8 a9 b0 b1 b2 b3 b4 b5 b6 b7 b8:Value)=>fun (t:Nat→Value)=>({ tmps:=List.toArray [a,b,c,d,e,f,g,h,i,j,t 8,k,l,m,n,o,p,q,r,s,u,v,w,x,y,z,A,B,C,D,E,F,G,H,I,J,K,L,M,N,O,P,Q,R,S,T,t 0,t 1,t 2,t 3,t 4,t 5,t 6,t 7,U,V,W,X,Y,Z,a0,a1,a2,a3,a4,a5,a6,a7,a8,a9,b0,b1,b2,b3,b4,b5,b6,b7,b8],defers:=[] }:Act)) _ _ _ _ _ _ _ _ _ _ _ _ _ _ _ _ _ _ _ _ _ _ _ _ _ _ _ _ _ _ _ _ _ _ _ _ _ _ _ _ _ _ _ _ _ _ _ _ _ _ _ _ _ _ _ _ _ _ _ _ _ _ _ _ _ _ _ _ _ _)
     (Ext:=fun L w'=>Below w3.heap.size w3 w') (Good:=fun i L w' v=>if i=0 then v=.pointer (some ⟨w.heap.size,2,none⟩) else if i=1 then v=.slice a2 16 c2 else if i=2 then v=.pointer (some ⟨w.heap.size,2,none⟩) else if i=3 then v=.slice a2 16 c2 else if i=4 then FG w' v ((Z1+Z1)%fp) else if i=5 then v=.pointer (some ⟨(w.heap.size+1),2,none⟩) else if i=6 then v=.slice b2 16 e2 else if i=7 then FG w' v (((Z1+Z1)%fp)*Z2%fp) else if i=8 then FG w' v (((Z1+Z1)%fp)*Z2%fp) else True) ?hstab (by kernel_rfl) ?hop ?hdone _ _ ((fun (x0 x1 x2 x3 x4 x5 x6 x7 x8:Value)=>fun (i:Nat)=>if i=0 then x0 else if i=1 then x1 else if i=2 then x2 else if i=3 then x3 else if i=4 then x4 else if i=5 then x5 else if i=6 then x6 else if i=7 then x7 else if i=8 then x8 else undef) _ _ _ _ _ _ _ _ _) _ (by simp) ?ext ?start (by simp)
    case start=>intro i hi h;exact absurd h (by rw[Array.getD_eq_getD_getElem?,Array.getElem?_replicate];split<;>simp)
    case ext=>exact⟨rfl,rfl,rfl,Nat.le_refl _,fun _ _=>rfl⟩
    case hstab=>
     intro j L w9 w' i v hM _ _ h;by_cases h4:j=4
     ·subst h4;simp at h ⊢;exact h.below hM
     by_cases h7:j=7
     ·subst h7;simp at h ⊢;exact h.below hM
     by_cases h8:j=8
     ·subst h8;simp at h ⊢;exact h.below hM
     simp only[if_neg h4,if_neg h7,if_neg h8] at h ⊢;exact h
    case hop=>
     intro i o L t w' ho hLi hx hdep K hK;have hi:i<9:=(Array.getElem?_eq_some_iff.1 ho).1;obtain rfl|rfl|rfl|rfl|rfl|rfl|rfl|rfl|rfl:i=0∨i=1∨i=2∨i=3∨i=4∨i=5∨i=6∨i=7∨i=8:=by omega
     all_goals(simp at ho;subst ho)
     all_goals try(have hK':=hK w' _ rfl hx (Below.refl _ _);clear hK;simp[Region.binds] at hdep;rw[if_pos (by rfl)];go_simp;simpa[upd,hdep] using hK';done)
     ·have d0:t 0=.pointer (some ⟨w.heap.size,2,none⟩):=by simpa using hdep ⟨0,.data⟩ (by simp) rfl
      have cc:=(HP3.out.below hx HP3.out.lt).c2;have hK':=hK w' (.slice a2 16 c2) (by simp) hx (Below.refl _ _);rw[if_pos (by rfl)];go_simp;simpa[upd,d0] using hK'
     ·have d2:t 2=.pointer (some ⟨w.heap.size,2,none⟩):=by simpa using hdep ⟨2,.data⟩ (by simp) rfl
      have cc:=(HP3.out.below hx HP3.out.lt).c2;have hK':=hK w' (.slice a2 16 c2) (by simp) hx (Below.refl _ _);rw[if_pos (by rfl)];go_simp;simpa[upd,d2] using hK'
     ·have d1:t 1=.slice a2 16 c2:=by simpa using hdep ⟨1,.data⟩ (by simp) rfl
      have d3:t 3=.slice a2 16 c2:=by simpa using hdep ⟨3,.data⟩ (by simp) rfl
      have A:=fadd_any a2 a2 c2 c2 Z1 Z1 w' ((SRK3.out.at 2 _ _ rfl).below hx) ((SRK3.out.at 2 _ _ rfl).below hx);have hK':∀ ww v,FG ww v ((Z1+Z1)%fp)→Below w'.heap.size w' ww→K _ ww:=fun ww v hg hb=>hK ww v (by simpa using hg) (hx.trans (hb.mono hx.size)) hb
      rw[if_pos (by rfl)];go_simp;try simp only[d1,d3]
      refine A.mono ?_;rintro e w9 ⟨g',c',rfl,_,_,hf,hb⟩;have hK2:=hK' w9 _ ⟨g',c',rfl,hf⟩ hb;go_simp;simpa[upd,d1,d3] using hK2
     ·have d5:t 5=.pointer (some ⟨(w.heap.size+1),2,none⟩):=by simpa using hdep ⟨5,.data⟩ (by simp) rfl
      have cc:=(HQ3.out.below hx HQ3.out.lt).c2;have hK':=hK w' (.slice b2 16 e2) (by simp) hx (Below.refl _ _);rw[if_pos (by rfl)];go_simp;simpa[upd,d5] using hK'
     ·have h4:FG w' (t 4) ((Z1+Z1)%fp):=by simpa using hdep ⟨4,.data⟩ (by simp) rfl
      refine h4.elim_ fun g4 c4 d4 f4=>?_
      have d6:t 6=.slice b2 16 e2:=by simpa using hdep ⟨6,.data⟩ (by simp) rfl
      have A:=fmul_any (some ⟨g4,0,none⟩) b2 c4 e2 _ Z2 w' f4 ((SRK3.out.at 6 _ _ rfl).below hx);have hK':∀ ww v,FG ww v (((Z1+Z1)%fp)*Z2%fp)→Below w'.heap.size w' ww→K _ ww:=fun ww v hg hb=>hK ww v (by simpa using hg) (hx.trans (hb.mono hx.size)) hb
      rw[if_pos (by rfl)];go_simp;try simp only[d4,d6]
      refine A.mono ?_;rintro e w9 ⟨g',c',rfl,_,_,hf,hb⟩;have hK2:=hK' w9 _ ⟨g',c',rfl,hf⟩ hb;go_simp;simpa[upd,d4,d6] using hK2
     ·have h7:FG w' (t 7) (((Z1+Z1)%fp)*Z2%fp):=by simpa using hdep ⟨7,.data⟩ (by simp) rfl
      refine h7.elim_ fun g7 c7 d7 f7=>?_
      have hK':=hK w' (.slice (some ⟨g7,0,none⟩) 16 c7) (by simpa using⟨g7,c7,rfl,f7⟩) hx (Below.refl _ _);rw[if_pos (by rfl)];go_simp;simpa[upd,d7] using hK'
    case hdone=>
     intro L t4 w4 hx hg;have f8:FG w4 (t4 8) (((Z1+Z1)%fp)*Z2%fp):=by simpa using hg 8 (by decide)
     obtain⟨ggG,ccG,eG,ff⟩:=f8.get;have HP4:=hdI <| HP3.out.below hx HP3.out.lt
     have HQ4:=hdI <| HQ3.out.below hx HQ3.out.lt
     have HZ4:=hdI <| HZ3.out.below hx HZ3.out.lt
     have SRK4:=hdI <| SRK3.out.more hx ff
     simp only[eG];go_wp2_with fail;refine(fsub_any _ _ ccB ccA _ _ _ (SRK4.out.at 10 _ _ rfl) (SRK4.out.at 9 _ _ rfl)).mono ?_;rintro e w5 ⟨gE,kE,rfl,hk1,hl1,hf,hb⟩;have HZ5:=hdI <| HZ4.out.below hb HZ4.out.lt
     have SRK5:=hdI <| SRK4.out.more hb hf
     have hgE:w.heap.size+1+1<gE:=by have:=HZ4.out.lt;omega
     go_wp2_with fail;refine(fsub_any _ _ ccG ccC _ _ _ (SRK5.out.at 12 _ _ rfl) (SRK5.out.at 11 _ _ rfl)).mono ?_;rintro e w6 ⟨gF,kF,rfl,hk1,hl1,hf,hb⟩;have HZ6:=hdI <| HZ5.out.below hb HZ5.out.lt
     have SRK6:=hdI <| SRK5.out.more hb hf
     have hgF:w.heap.size+1+1<gF:=by have:=HZ5.out.lt;omega
     go_wp2_with fail;refine(fadd_any _ _ ccG ccC _ _ _ (SRK6.out.at 12 _ _ rfl) (SRK6.out.at 11 _ _ rfl)).mono ?_;rintro e w7 ⟨gH,kH,rfl,hk1,hl1,hf,hb⟩;have HZ7:=hdI <| HZ6.out.below hb HZ6.out.lt
     have SRK7:=hdI <| SRK6.out.more hb hf
     have hgH:w.heap.size+1+1<gH:=by have:=HZ6.out.lt;omega
     go_wp2_with fail;refine(fadd_any _ _ ccB ccA _ _ _ (SRK7.out.at 10 _ _ rfl) (SRK7.out.at 9 _ _ rfl)).mono ?_;rintro e w8 ⟨gK,kK,rfl,hk1,hl1,hf,hb⟩;have HZ8:=hdI <| HZ7.out.below hb HZ7.out.lt
     have SRK8:=hdI <| SRK7.out.more hb hf
     have hgK:w.heap.size+1+1<gK:=by have:=HZ7.out.lt;omega
     go_wp2_with fail;refine(fmul_any _ _ kE kF _ _ _ (SRK8.out.at 13 _ _ rfl) (SRK8.out.at 14 _ _ rfl)).mono ?_;rintro e w9 ⟨gX,kX,rfl,hk1,hl1,hf,hb⟩;have HZ9:=hdI <| HZ8.out.below hb HZ8.out.lt
     have SRK9:=hdI <| SRK8.out.more hb hf
     have hgX:w.heap.size+1+1<gX:=by have:=HZ8.out.lt;omega
     go_wp2_with fail;refine(fmul_any _ _ kH kK _ _ _ (SRK9.out.at 15 _ _ rfl) (SRK9.out.at 16 _ _ rfl)).mono ?_;rintro e w10 ⟨gY,kY,rfl,hk1,hl1,hf,hb⟩;have HZ10:=hdI <| HZ9.out.below hb HZ9.out.lt
     have SRK10:=hdI <| SRK9.out.more hb hf
     have hgY:w.heap.size+1+1<gY:=by have:=HZ9.out.lt;omega
     go_wp2_with fail;refine(fmul_any _ _ kF kH _ _ _ (SRK10.out.at 14 _ _ rfl) (SRK10.out.at 15 _ _ rfl)).mono ?_;rintro e w11 ⟨gZ,kZ,rfl,hk1,hl1,hf,hb⟩;have HZ11:=hdI <| HZ10.out.below hb HZ10.out.lt
     have SRK11:=hdI <| SRK10.out.more hb hf
     have hgZ:w.heap.size+1+1<gZ:=by have:=HZ10.out.lt;omega
     go_wp2_with fail;refine(fmul_any _ _ kE kK _ _ _ (SRK11.out.at 13 _ _ rfl) (SRK11.out.at 16 _ _ rfl)).mono ?_;rintro e w12 ⟨gT,kT,rfl,hk1,hl1,hf,hb⟩;have HZ12:=hdI <| HZ11.out.below hb HZ11.out.lt
     have SRK12:=hdI <| SRK11.out.more hb hf
     have hgT:w.heap.size+1+1<gT:=by have:=HZ11.out.lt;omega
     go_wp2_with (first
      |(refine wpList_storePt rfl (.tmp 6) (.tmp 78) rfl (w.heap.size+1+1) _ _ _ _ _ rfl rfl rfl rfl rfl rfl rfl HZ12.out ?_)
      |fail)
     intro w13 hp3 hw3;have HP3:=hdI <| hp3
     have HF:Hid (FeA w13 (some ⟨gX,0,none⟩) ((smB X1 Y1 X2 Y2-smA X1 Y1 X2 Y2)%fp*((smG Z1 Z2-smC D T1 T2)%fp)%fp)∧FeA w13 (some ⟨gY,0,none⟩) ((smG Z1 Z2+smC D T1 T2)%fp*((smB X1 Y1 X2 Y2+smA X1 Y1 X2 Y2)%fp)%fp)∧FeA w13 (some ⟨gZ,0,none⟩) ((smG Z1 Z2-smC D T1 T2)%fp*((smG Z1 Z2+smC D T1 T2)%fp)%fp)∧FeA w13 (some ⟨gT,0,none⟩) ((smB X1 Y1 X2 Y2-smA X1 Y1 X2 Y2)%fp*((smB X1 Y1 X2 Y2+smA X1 Y1 X2 Y2)%fp)%fp)∧Below w.heap.size w w13):=
      ⟨(SRK12.out.at 17 _ _ rfl).wr hw3 (by omega),(SRK12.out.at 18 _ _ rfl).wr hw3 (by omega),(SRK12.out.at 19 _ _ rfl).wr hw3 (by omega),(SRK12.out.at 20 _ _ rfl).wr hw3 (by omega),SRK12.out.below.trans (hw3.below (by omega))⟩
     go_wp2;exact bodyPost_ret (v:=.agg #[.slice (some ⟨gX,0,none⟩) 16 kX,.slice (some ⟨gY,0,none⟩) 16 kY,.slice (some ⟨gZ,0,none⟩) 16 kZ,.slice (some ⟨gT,0,none⟩) 16 kT]) (results_cell_row rfl _ _ (w.heap.size+1+1) 79 _ (0,0) _ rfl HP3.out Tryz.underlying79 rfl Tryz.sizePt) rfl ⟨gX,kX,gY,kY,gZ,kZ,gT,kT,rfl,HF.out.1,HF.out.2.1,HF.out.2.2.1,HF.out.2.2.2.1,HF.out.2.2.2.2,by omega,by omega,by omega,by omega⟩
def top255:Int:=57896044618658097711785492504343953926634992332820282019728792003956564819968
def cdV (X Y Z:Int):Int:=Y*inv0 Z%fp+top255*(X*inv0 Z%fp%2)
theorem pair_val (bs:List Int) (d:Int) (k:Nat) (h:bs.length=2*k):val 256 (bs++[d%256,d/256])=val 256 bs+d*65536^k:=by
 rw[val_append,h];have e:(256:Int)^(2*k)=65536^k:=by rw[Int.pow_mul,show(256:Int)^2=65536 from by decide]
 rw[e];simp only[val];have:d%256+256*(d/256)=d:=Int.emod_add_mul_ediv _ _;have e2:d%256+256*(d/256+256*0)=d:=by omega
 rw[e2,Int.mul_comm]
structure BYS (w w5:World) (zs:List Int) (k:Nat) (v:Value) (wr:World):Prop where
 st:∃ bs:List Int,Own wr w5.heap.size v bs∧bs.length=2*k∧Byte bs∧val 256 bs=val 65536 (zs.take k)
 below:Below w5.heap.size w5 wr
def CodeP (w:World) (x:Int) (e:Ending) (w':World):Prop:=
 ∃ v bs,e=.returned v∧Own w' w.heap.size v bs∧Byte bs∧bs.length=32∧val 256 bs=x∧Below w.heap.size w w'
theorem Own.lower3 {w:World} {B B':Nat} {v:Value} {zs:List Int} (h:Own w B' v zs) (hB:B≤B'):Own w B v zs:=by
 obtain⟨⟨h1,h2⟩,h3⟩:=h;refine⟨⟨h1,?_⟩,h3⟩;rcases h2 with h|⟨g,c,cur,h4,h5,h6⟩
 ·exact .inl h
 ·exact .inr ⟨g,c,cur,h4,by omega,h6⟩
theorem code_set (bs:List Int) (hl:bs.length=32) (hb:Byte bs) (V p:Int) (hv:val 256 bs=V) (hV:V<top255) (hp:p=0∨p=1) :
  0≤bs.getD 31 0∧bs.getD 31 0<128∧val 256 (bs.set 31 (bs.getD 31 0+128*p))=V+top255*p∧Byte (bs.set 31 (bs.getD 31 0+128*p)):=by
 have h31:=hb.get 31;have hd:=val_digit (B:=256) (by decide) (fun z hz=>hb z hz) 31;rw[hv] at hd;have hV0:0≤V:=by rw[←hv];exact val_nonneg (by decide) (fun z hz=>hb z hz)
 have e31:(256:Int)^31=452312848583266388373324160190187140051835877600158453279131187530910662656:=by decide
 have hlt:bs.getD 31 0<128:=by
  rw[←hd,e31];unfold top255 at hV;omega
 refine⟨h31.1,hlt,?_,?_⟩
 ·rw[val_set 256 bs 31 _ (by omega),hv,e31];unfold top255;rcases hp with rfl|rfl<;>omega
 ·intro z hz;rcases List.mem_or_eq_of_mem_set hz with h|h
  ·exact hb z h
  ·omega
set_option maxRecDepth 100000 in
set_option maxHeartbeats 4000000 in
theorem code_any (a0 a1 a2 a3:Option Addr) (c0 c1 c2 c3:Nat) (X Y Z:Int) (w:World) (hx:FeA w a0 X) (hy:FeA w a1 Y) (hz:FeA w a2 Z) :
  Calls Tryz.prog 35 #[.agg #[.slice a0 16 c0,.slice a1 16 c1,.slice a2 16 c2,.slice a3 16 c3]] w (CodeP w (cdV X Y Z)):=by
 have bb:Below w.heap.size w (w.alloc (.cells #[.slice a0 16 c0,.slice a1 16 c1,.slice a2 16 c2,.slice a3 16 c3] 79)):=below_new3 _ _;have HP:Hid (PtW (w.alloc (.cells #[.slice a0 16 c0,.slice a1 16 c1,.slice a2 16 c2,.slice a3 16 c3] 79)) w.heap.size #[.slice a0 16 c0,.slice a1 16 c1,.slice a2 16 c2,.slice a3 16 c3]):=heap_alloc_new w _;have SRK:Hid (SR w (w.alloc (.cells #[.slice a0 16 c0,.slice a1 16 c1,.slice a2 16 c2,.slice a3 16 c3] 79)) [(a0,X),(a1,Y),(a2,Z)]):=⟨bb,fun e he=>by
  simp only[List.mem_cons,List.not_mem_nil,or_false] at he;rcases he with rfl|rfl|rfl
  ·exact hx.below bb
  ·exact hy.below bb
  ·exact hz.below bb⟩
 have k2:=HP.out.c2;go_enter Tryz.func35,Tryz.ntmps35;go_wp2_with fail;generalize (w.alloc (.cells #[.slice a0 16 c0,.slice a1 16 c1,.slice a2 16 c2,.slice a3 16 c3] 79))=w0 at *;refine(pow0_any _ c2 Z _ (SRK.out.at 2 _ _ rfl)).mono ?_;rintro e w1 ⟨g1,k1,rfl,hk1,hl1,hf,hb⟩;have HP1:=hdI <| HP.out.below hb HP.out.lt
 have SRK1:=hdI <| SRK.out.more hb hf
 have k0:=HP1.out.c0;go_wp2_with fail;refine(fmul_any _ _ c0 k1 _ _ _ (SRK1.out.at 0 _ _ rfl) (SRK1.out.at 3 _ _ rfl)).mono ?_;rintro e w2 ⟨g2,kk2,rfl,hk1,hl1,hf,hb⟩;have HP2:=hdI <| HP1.out.below hb HP1.out.lt
 have SRK2:=hdI <| SRK1.out.more hb hf
 go_wp2_with fail;refine(least_any _ kk2 _ _ (SRK2.out.at 4 _ _ rfl)).mono ?_;rintro e w3 ⟨gx,cx,rfl,hgx,hgx',hlx,hb⟩;have HP3:=hdI <| HP2.out.below hb HP2.out.lt
 have SRK3:=hdI <| SRK2.out.low hb
 have HLX:=hdI <| hlx
 have k1':=HP3.out.c1;go_wp2_with fail;refine(fmul_any _ _ c1 k1 _ _ _ (SRK3.out.at 1 _ _ rfl) (SRK3.out.at 3 _ _ rfl)).mono ?_;rintro e w4 ⟨g4,k4,rfl,hk1,hl1,hf,hb⟩;have HLX4:Hid (LsA w4 (some ⟨gx,0,none⟩) (X*inv0 Z%fp)):=HLX.out.below hb;have HS4:Hid (Below w.heap.size w w4):=SRK3.out.below.trans (hb.mono SRK3.out.below.size);have HF4:Hid (FeA w4 (some ⟨g4,0,none⟩) (Y*inv0 Z%fp)):=hf;have hgx4:gx<w4.heap.size:=by have:=hb.size;omega
 go_wp2_with fail;refine(least_any _ k4 _ _ HF4.out).mono ?_;rintro e w5 ⟨gy,cyy,rfl,hgy,hgy',⟨zs,hzA,hzl,hzd,hzv⟩,hb5⟩;have HB5:Hid (Below w.heap.size w w5):=HS4.out.trans (hb5.mono HS4.out.size);obtain⟨xs,hxA,hxl,hxd,hxv⟩:=HLX4.out.below hb5;have hgx5:gx<w5.heap.size:=by have:=hb5.size;omega
 have HYC:Hid (∀ i,i<16→w5.cell? ⟨gy,i,none⟩=some (.int .i64 (zs.getD i 0))):=fun i hi=>by
  obtain⟨_,_,e,_,hc⟩:=hzA.get (by omega);cases e;have:=hc i (by omega)
  rwa [Nat.zero_add] at this
 have HXC:Hid (w5.cell? ⟨gx,0,none⟩=some (.int .i64 (xs.getD 0 0))):=by
  obtain⟨_,_,e,_,hc⟩:=hxA.get (by omega);cases e;exact hc 0 (by omega)
 have HXP:Hid (xs.getD 0 0%2=X*inv0 Z%fp%2∧0≤xs.getD 0 0∧xs.getD 0 0<65536):=⟨by rw[←val_par xs hxl,hxv],hxd 0⟩
 have HZL:=hdI <| hzl
 have HZD:=hdI <| hzd
 have HZV:=hdI <| hzv
 have HS:Hid (BYS w w5 zs 0 (.slice (some ⟨w5.heap.size,0,none⟩) 0 0) (w5.alloc (.cells #[] 5))):=⟨⟨[],Own.empty _ _ (Nat.le_refl _),rfl,by simp[Byte],by simp[val]⟩,below_new3 _ _⟩
 generalize xs.getD 0 0=x at *;go_wp2
 go_loopw [6,7] (fun v i wr=>∃ k:Nat,k≤16∧i=.int .i64 k∧BYS w w5 zs k v wr) (fun _ i _=>16-(intOf i).toNat)
 case atStart=>exact⟨0,by decide,rfl,HS.out⟩
 case round=>
  obtain⟨k,hk,rfl,⟨bs,hO,hbl,hbb,hbv⟩,hbel⟩:=hrel;by_cases hlt:k<16
  ·have hlt':(k:Int)<16:=by omega
   have hd:=HZD.out k;have vt:=val_take 65536 zs k (by have:=HZL.out;omega);have c0:wr.cell? ⟨gy,k,none⟩=some (.int .i64 (zs.getD k 0)):=by
    rw[hbel.cell (p:=⟨gy,k,none⟩) hgy'];exact HYC.out k hlt
   generalize hdd:zs.getD k 0=d at *;have HGN:Hid (¬ some gy=u6.ownBlock):=by
    obtain⟨g,c,rfl,hg,_,_⟩:=hO.base;intro h;simp[Value.ownBlock] at h;omega
   have HBL:Hid (bs.length≤32):=by show _≤_;omega
   have HN:Hid (val 256 (bs++[d%256,d/256])=val 65536 (zs.take (k+1))∧(bs++[d%256,d/256]).length=2*(k+1)∧Byte (bs++[d%256,d/256])):=by
    refine⟨by rw[pair_val bs d k hbl,hbv,vt],by simp[hbl];omega,?_⟩;intro z hz;simp at hz;rcases hz with h|h|h
    ·exact hbb z h
    ·omega
    ·omega
   have HO:=hdI <| hO
   have HBE:=hdI <| hbel
   have hwr:=hbel.size;obtain⟨hd0,hd1⟩:=hd;go_wp2_with fail;have hm1:d.tmod 256=d%256:=Int.tmod_eq_emod_of_nonneg hd0;have hm2:d.tdiv 256=d/256:=Int.tdiv_eq_ediv_of_nonneg hd0;have hm3:IntKind.u8.wrap (d/256)=d/256:=by rw[IntKind.wrap_u8];omega
   have hm4:IntKind.u8.wrap (d%256)=d%256:=by rw[IntKind.wrap_u8];omega
   have hm5:IntKind.i64.wrap (d/256)=d/256:=by rw[IntKind.wrap_i64];omega
   refine wp_region_any (by kernel_rfl) ?_;refine wpAny_slotsK 15 (fun i w w'=>i≠14→Below w.heap.size w w') (frame:=(fun (a b c d e f g h i j k l m n o p q r s u v w x y z A B C D E F G H I J K L M N:Value)=>fun (t:Nat→Value)=>({ tmps:=List.toArray [a,b,c,d,e,f,g,h,i,j,k,l,m,n,o,p,q,r,s,u,v,w,x,y,z,A,t 0,t 1,t 2,t 3,t 4,t 5,t 6,t 7,t 8,t 9,t 10,t 11,t 12,t 13,t 14,B,C,D,E,F,G,H,I,J,K,L,M,N],defers:=[] }:Act)) _ _ _ _ _ _ _ _ _ _ _ _ _ _ _ _ _ _ _ _ _ _ _ _ _ _ _ _ _ _ _ _ _ _ _ _ _ _ _)
    (Ext:=fun L w'=>(L 14=false→Below wr.heap.size wr w')∧Below w5.heap.size w5 w'∧(∀ i,i<16→w'.cell? ⟨gy,i,none⟩=wr.cell? ⟨gy,i,none⟩)∧wr.heap.size≤w'.heap.size)
    (Good:=GBy w5.heap.size u6 gy cyy k d bs) (by rfl) (by kernel_rfl) (GBy_stab _ _ _ _ _ _ _) (by kernel_rfl) (by kernel_rfl) ?hop ?hend _ _ ((fun (x0 x1 x2 x3 x4 x5 x6 x7 x8 x9 x10 x11 x12 x13 x14:Value)=>fun (i:Nat)=>if i=0 then x0 else if i=1 then x1 else if i=2 then x2 else if i=3 then x3 else if i=4 then x4 else if i=5 then x5 else if i=6 then x6 else if i=7 then x7 else if i=8 then x8 else if i=9 then x9 else if i=10 then x10 else if i=11 then x11 else if i=12 then x12 else if i=13 then x13 else if i=14 then x14 else undef) _ _ _ _ _ _ _ _ _ _ _ _ _ _ _) _ (by simp) (by simp) ?ext ?start (by simp)
   case start=>intro i hi h;exact absurd h (by rw[Array.getD_eq_getD_getElem?,Array.getElem?_replicate];split<;>simp)
   case ext=>exact⟨fun _=>(Below.refl _ _).drew,⟨HBE.out.os,HBE.out.tape,HBE.out.output,HBE.out.size,HBE.out.block⟩,fun _ _=>rfl,Nat.le_refl _⟩
   case hop=>
    intro i o L t w' hil ho hLi hx hdep K hK;obtain⟨hx14,hxB,hxY,hxS⟩:=hx;have cY:w'.cell? ⟨gy,k,none⟩=some (.int .i64 d):=by rw[hxY k (by omega)];exact c0
    have RX:Hid (∀ j,j≠14→∀ ww,Below w'.heap.size w' ww→((updK L j 14=false→Below wr.heap.size wr ww)∧Below w5.heap.size w5 ww∧(∀ i,i<16→ww.cell? ⟨gy,i,none⟩=wr.cell? ⟨gy,i,none⟩)∧wr.heap.size≤ww.heap.size)):=fun j hj ww hb=>
     ⟨fun hL=>(hx14 (by simpa[updK,Ne.symm hj] using hL)).trans (hb.mono hxS),hxB.trans (hb.mono hxB.size),fun i hi=>by rw[hb.cell (p:=⟨gy,i,none⟩) (by show gy<w'.heap.size;omega)];exact hxY i hi,by have:=hb.size;omega⟩
    have RR:Hid (∀ j,j≠14→((updK L j 14=false→Below wr.heap.size wr w')∧Below w5.heap.size w5 w'∧(∀ i,i<16→w'.cell? ⟨gy,i,none⟩=wr.cell? ⟨gy,i,none⟩)∧wr.heap.size≤w'.heap.size)):=fun j hj=>RX.out j hj w' (Below.refl _ _)
    have RM:Hid (∀ j:Nat,j≠14→Below w'.heap.size w' w'):=fun _ _=>Below.refl _ _
    have H14:=hdI <| hx14
    have HXB:=hdI <| hxB
    have HXY:=hdI <| hxY
    obtain rfl|rfl|rfl|rfl|rfl|rfl|rfl|rfl|rfl|rfl|rfl|rfl|rfl|rfl|rfl:i=0∨i=1∨i=2∨i=3∨i=4∨i=5∨i=6∨i=7∨i=8∨i=9∨i=10∨i=11∨i=12∨i=13∨i=14:=by omega
    all_goals(simp at ho;subst ho)
    ·clear hdep;go_simp;exact hK w' u6 rfl (RR.out 0 (by decide)) (RM.out 0)
    ·clear hdep;go_simp;exact hK w' (.slice (some ⟨gy,0,none⟩) 16 cyy) rfl (RR.out 1 (by decide)) (RM.out 1)
    ·clear hdep;go_simp;exact hK w' (.int .i64 k) rfl (RR.out 2 (by decide)) (RM.out 2)
    ·have d1:t 1=_:=hdep ⟨1,.data⟩ (by simp) rfl;have d2:t 2=_:=hdep ⟨2,.data⟩ (by simp) rfl;go_simp;simpa[upd,d1,d2] using hK w' (.pointer (some ⟨gy,k,none⟩)) rfl (RR.out 3 (by decide)) (RM.out 3)
    ·have d3:t 3=_:=hdep ⟨3,.data⟩ (by simp) rfl;go_simp;simpa[upd,d3] using hK w' (.int .i64 d) rfl (RR.out 4 (by decide)) (RM.out 4)
    ·have d4:t 4=_:=hdep ⟨4,.data⟩ (by simp) rfl;go_simp;simpa[upd,d4,hm1,hm2,hm3,hm4,hm5] using hK w' (.int .i64 (d%256)) rfl (RR.out 5 (by decide)) (RM.out 5)
    ·have d5:t 5=_:=hdep ⟨5,.data⟩ (by simp) rfl;go_simp;simpa[upd,d5,hm1,hm2,hm3,hm4,hm5] using hK w' (.int .u8 (d%256)) rfl (RR.out 6 (by decide)) (RM.out 6)
    ·clear hdep;go_simp;exact hK w' (.slice (some ⟨gy,0,none⟩) 16 cyy) rfl (RR.out 7 (by decide)) (RM.out 7)
    ·clear hdep;go_simp;exact hK w' (.int .i64 k) rfl (RR.out 8 (by decide)) (RM.out 8)
    ·have d7:t 7=_:=hdep ⟨7,.data⟩ (by simp) rfl;have d8:t 8=_:=hdep ⟨8,.data⟩ (by simp) rfl;go_simp;simpa[upd,d7,d8] using hK w' (.pointer (some ⟨gy,k,none⟩)) rfl (RR.out 9 (by decide)) (RM.out 9)
    ·have d9:t 9=_:=hdep ⟨9,.data⟩ (by simp) rfl;go_simp;simpa[upd,d9] using hK w' (.int .i64 d) rfl (RR.out 10 (by decide)) (RM.out 10)
    ·have d10:t 10=_:=hdep ⟨10,.data⟩ (by simp) rfl;go_simp;simpa[upd,d10,hm1,hm2,hm3,hm4,hm5] using hK w' (.int .i64 (d/256)) rfl (RR.out 11 (by decide)) (RM.out 11)
    ·have d11:t 11=_:=hdep ⟨11,.data⟩ (by simp) rfl;go_simp;simpa[upd,d11,hm1,hm2,hm3,hm4,hm5] using hK w' (.int .u8 (d/256)) rfl (RR.out 12 (by decide)) (RM.out 12)
    ·have d6:t 6=_:=hdep ⟨6,.data⟩ (by simp) rfl;have d12:t 12=_:=hdep ⟨12,.data⟩ (by simp) rfl;have hK':=hK (w'.alloc (.cells #[.int .u8 (d%256),.int .u8 (d/256)] 5)) (.slice (some ⟨w'.heap.size,0,none⟩) 2 2) (fun _=>⟨w'.heap.size,rfl,by simp,cell_of_row _ _ _ _ _ _ (heap_alloc_new _ _),cell_of_row _ _ _ _ _ _ (heap_alloc_new _ _)⟩) (RX.out 13 (by decide) _ (below_new3 _ _)) (fun _=>below_new3 _ _);go_simp;simpa[upd,d6,d12] using hK'
    ·have d0:=hdep ⟨0,.data⟩ (by simp) rfl;have d13:=hdep ⟨13,.data⟩ (by simp) rfl;obtain⟨g',e13,hg',cc0,cc1⟩:=d13 hLi;have hO:=HO.out.grow2 (H14.out hLi);refine wp_app (a:=_) _ _ _ rfl w5.heap.size _ bs (by first|exact d0|(simp[d0];done)) hO ⟨g',0,none⟩ 2 2 [d%256,d/256] (by first|exact e13|(simp[e13];done)) rfl ?_ ?_ ?_ ?_
     ·intro j hj;rcases (show j=0∨j=1 by omega) with rfl|rfl
      ·rw[Addr.add_lit];exact cc0
      ·rw[Addr.add_lit];exact cc1
     ·have:=HBL.out;omega
     ·exact HXB.out.size
     ·intro v' w9 hown' hbel' hgr;have hs9:=hgr.size;have hyY:∀ i,i<16→w9.cell? ⟨gy,i,none⟩=wr.cell? ⟨gy,i,none⟩:=fun i hi=>by
       rw[World.cell?_of_block (a:=⟨gy,i,none⟩) (w:=w') (hgr.block gy (by omega) HGN.out)];exact HXY.out i hi
      exact hK w9 v' hown' ⟨fun h=>by simp[updK] at h,HXB.out.trans hbel',hyY,by omega⟩ (fun h=>absurd rfl h)
   case hend=>
    intro o L t w' ho hx hg K hK;simp at ho;subst ho;obtain⟨hx14,hxB,hxY,hxS⟩:=hx;have O14:=hg 14 (by decide);have HXB:=hdI <| hxB
    have HXY:=hdI <| hxY
    have HSZ:=hdI <| hxS
    have HO14:=hdI <| O14
    go_simp;refine hK _ _ ?_;have hHB:=HXB.out;have HP:Hid (BYS w w5 zs (k+1) (t 14) w'):=⟨⟨_,HO14.out,HN.out.2.1,HN.out.2.2,HN.out.1⟩,hHB⟩
    generalize t 14=v14 at *;go_wp2;go_roundw
    case rel=>exact⟨k+1,by omega,by go_num,HP.out⟩
    case measure=>simp[intOf];omega
  ·have hk16:k=16:=by omega
   rw[hk16,List.take_of_length_le (by have:=HZL.out;omega),HZV.out] at hbv;obtain⟨g,c,hu,hg0,hg1,hc0⟩:=hO.base;have hl32:bs.length=32:=by omega
   rw[hl32] at hu hc0;subst hu;have hlt:¬ ((k:Int)<16):=by omega
   have hV:Y*inv0 Z%fp<top255:=by
    have:=Int.emod_lt_of_pos (Y*inv0 Z) (show(0:Int)<fp by decide);have e:fp<top255:=by decide
    omega
   obtain⟨hp,hx0,hx1⟩:=HXP.out;obtain⟨s1,s2,s3,s4⟩:=code_set bs hl32 hbb _ (x%2) hbv hV (by omega);have hset:=OwnK.set (k:=.u8) (t:=5) hl32 hO 31 (bs.getD 31 0+128*(x%2)) (by omega);obtain⟨cB,fB,hO'⟩:=hset;have cX:wr.cell? ⟨gx,0,none⟩=some (.int .i64 x):=by rw[hbel.cell (p:=⟨gx,0,none⟩) hgx5];exact HXC.out
   have BB:Below w.heap.size w (wr.setCell ⟨g,31,none⟩ (.int .u8 (bs.getD 31 0+128*(x%2)))):=HB5.out.trans ((hbel.trans ((Below.refl _ _).setCell (by show w5.heap.size≤g;omega) _)).mono HB5.out.size);have HP9:∀ q,Hid (CodeP w (cdV X Y Z) (.returned (.slice (some ⟨g,0,none⟩) 32 c)) ((wr.drewN q).setCell ⟨g,31,none⟩ (.int .u8 (bs.getD 31 0+128*(x%2))))):=fun q=>
    ⟨_,bs.set 31 (bs.getD 31 0+128*(x%2)),rfl,(show Own _ w5.heap.size _ _ from(show Own (wr.setCell ⟨g,31,none⟩ (.int .u8 (bs.getD 31 0+128*(x%2)))) w5.heap.size (.slice (some ⟨g,0,none⟩) 32 c) _ from hO')).lower3 HB5.out.size,s4,by rw[List.length_set];exact hl32,by rw[s3,hp];rfl,
     ⟨BB.os,BB.tape,BB.output,BB.size,BB.block⟩⟩
   have hm1:x.tmod 2=x%2:=Int.tmod_eq_emod_of_nonneg hx0;have hm2:IntKind.i64.wrap (128*(x%2))=128*(x%2):=by rw[IntKind.wrap_i64];omega
   have hm3:IntKind.u8.wrap (128*(x%2))=128*(x%2):=by rw[IntKind.wrap_u8];omega
   have hm4:IntKind.u8.wrap (bs.getD 31 0+128*(x%2))=bs.getD 31 0+128*(x%2):=by rw[IntKind.wrap_u8];omega
   clear BB hbv hO hbb hbl hbel hk16 HZV HZD HYC HXC HXP hO' s3 s4 hV hp hl32;generalize bs.getD 31 0=b at *;go_wp2_with fail;refine wp_region_any (by kernel_rfl) ?_;refine wpAny_slotsL 12 (fun w w'=>True) (frame:=(fun (a b c d e f g h i j k l m n o p q r s u v w x y z A B C D E F G H I J K L M N O P Q:Value)=>fun (t:Nat→Value)=>({ tmps:=List.toArray [a,b,c,d,e,f,g,h,i,j,k,l,m,n,o,p,q,r,s,u,v,w,x,y,z,A,B,C,D,E,F,G,H,I,J,K,L,M,N,O,P,t 0,t 1,t 2,t 3,t 4,t 5,t 6,t 7,t 8,t 9,t 10,t 11,Q],defers:=[] }:Act)) _ _ _ _ _ _ _ _ _ _ _ _ _ _ _ _ _ _ _ _ _ _ _ _ _ _ _ _ _ _ _ _ _ _ _ _ _ _ _ _ _ _)
    (Ext:=fun w'=>∃ q,w'=wr.drewN q) (Good:=fun i _ v=>if i=0 then v=.slice (some ⟨g,0,none⟩) 32 c else if i=1 then v=.slice (some ⟨g,0,none⟩) 32 c else if i=2 then v=.pointer (some ⟨g,31,none⟩) else if i=3 then v=.int .u8 b else if i=4 then v=.slice (some ⟨gx,0,none⟩) 16 cx else if i=5 then v=.pointer (some ⟨gx,0,none⟩) else if i=6 then v=.int .i64 x else if i=7 then v=.int .i64 (x%2) else if i=8 then v=.int .i64 (128*(x%2)) else if i=9 then v=.int .u8 (128*(x%2)) else if i=10 then v=.int .u8 (b+128*(x%2)) else if i=11 then v=.pointer (some ⟨g,31,none⟩) else True) (by rfl) (by kernel_rfl) (fun i w w' v _ h=>h) (by kernel_rfl) (by kernel_rfl) ?hop ?hend _ _ ((fun (x0 x1 x2 x3 x4 x5 x6 x7 x8 x9 x10 x11:Value)=>fun (i:Nat)=>if i=0 then x0 else if i=1 then x1 else if i=2 then x2 else if i=3 then x3 else if i=4 then x4 else if i=5 then x5 else if i=6 then x6 else if i=7 then x7 else if i=8 then x8 else if i=9 then x9 else if i=10 then x10 else if i=11 then x11 else undef) _ _ _ _ _ _ _ _ _ _ _ _) _ (by simp) (by simp) ?ext ?start (by simp)
   case start=>intro i hi h;exact absurd h (by rw[Array.getD_eq_getD_getElem?,Array.getElem?_replicate];split<;>simp)
   case ext=>exact⟨1,rfl⟩
   case hop=>
    intro i o t w' hil ho hx hdep K hK;obtain⟨q,rfl⟩:=hx;obtain rfl|rfl|rfl|rfl|rfl|rfl|rfl|rfl|rfl|rfl|rfl|rfl:i=0∨i=1∨i=2∨i=3∨i=4∨i=5∨i=6∨i=7∨i=8∨i=9∨i=10∨i=11:=by omega
    all_goals(simp at ho;subst ho)
    ·clear hdep;have hK':=hK (wr.drewN q) (.slice (some ⟨g,0,none⟩) 32 c) (by simp) ⟨q,rfl⟩ trivial;clear hK;go_simp;simpa[upd,hm1,hm2,hm3,hm4] using hK'
    ·clear hdep;have hK':=hK (wr.drewN q) (.slice (some ⟨g,0,none⟩) 32 c) (by simp) ⟨q,rfl⟩ trivial;clear hK;go_simp;simpa[upd,hm1,hm2,hm3,hm4] using hK'
    ·have d1:t 1=.slice (some ⟨g,0,none⟩) 32 c:=by simpa using hdep ⟨1,.data⟩ (by simp) rfl
     clear hdep;have hK':=hK (wr.drewN q) (.pointer (some ⟨g,31,none⟩)) (by simp) ⟨q,rfl⟩ trivial;clear hK;go_simp;simpa[upd,d1,hm1,hm2,hm3,hm4] using hK'
    ·have d2:t 2=.pointer (some ⟨g,31,none⟩):=by simpa using hdep ⟨2,.data⟩ (by simp) rfl
     clear hdep;have hK':=hK (wr.drewN q) (.int .u8 b) (by simp) ⟨q,rfl⟩ trivial;clear hK;go_simp;simpa[upd,d2,hm1,hm2,hm3,hm4] using hK'
    ·clear hdep;have hK':=hK (wr.drewN q) (.slice (some ⟨gx,0,none⟩) 16 cx) (by simp) ⟨q,rfl⟩ trivial;clear hK;go_simp;simpa[upd,hm1,hm2,hm3,hm4] using hK'
    ·have d4:t 4=.slice (some ⟨gx,0,none⟩) 16 cx:=by simpa using hdep ⟨4,.data⟩ (by simp) rfl
     clear hdep;have hK':=hK (wr.drewN q) (.pointer (some ⟨gx,0,none⟩)) (by simp) ⟨q,rfl⟩ trivial;clear hK;go_simp;simpa[upd,d4,hm1,hm2,hm3,hm4] using hK'
    ·have d5:t 5=.pointer (some ⟨gx,0,none⟩):=by simpa using hdep ⟨5,.data⟩ (by simp) rfl
     clear hdep;have hK':=hK (wr.drewN q) (.int .i64 x) (by simp) ⟨q,rfl⟩ trivial;clear hK;go_simp;simpa[upd,d5,hm1,hm2,hm3,hm4] using hK'
    ·have d6:t 6=.int .i64 x:=by simpa using hdep ⟨6,.data⟩ (by simp) rfl
     clear hdep;have hK':=hK (wr.drewN q) (.int .i64 (x%2)) (by simp) ⟨q,rfl⟩ trivial;clear hK;go_simp;simpa[upd,d6,hm1,hm2,hm3,hm4] using hK'
    ·have d7:t 7=.int .i64 (x%2):=by simpa using hdep ⟨7,.data⟩ (by simp) rfl
     clear hdep;have hK':=hK (wr.drewN q) (.int .i64 (128*(x%2))) (by simp) ⟨q,rfl⟩ trivial;clear hK;go_simp;simpa[upd,d7,hm1,hm2,hm3,hm4] using hK'
    ·have d8:t 8=.int .i64 (128*(x%2)):=by simpa using hdep ⟨8,.data⟩ (by simp) rfl
     clear hdep;have hK':=hK (wr.drewN q) (.int .u8 (128*(x%2))) (by simp) ⟨q,rfl⟩ trivial;clear hK;go_simp;simpa[upd,d8,hm1,hm2,hm3,hm4] using hK'
    ·have d3:t 3=.int .u8 b:=by simpa using hdep ⟨3,.data⟩ (by simp) rfl
     have d9:t 9=.int .u8 (128*(x%2)):=by simpa using hdep ⟨9,.data⟩ (by simp) rfl
     clear hdep;have hK':=hK (wr.drewN q) (.int .u8 (b+128*(x%2))) (by simp) ⟨q,rfl⟩ trivial;clear hK;go_simp;simpa[upd,d3,d9,hm1,hm2,hm3,hm4] using hK'
    ·have d0:t 0=.slice (some ⟨g,0,none⟩) 32 c:=by simpa using hdep ⟨0,.data⟩ (by simp) rfl
     clear hdep;have hK':=hK (wr.drewN q) (.pointer (some ⟨g,31,none⟩)) (by simp) ⟨q,rfl⟩ trivial;clear hK;go_simp;simpa[upd,d0,hm1,hm2,hm3,hm4] using hK'
   case hend=>
    intro o t w' ho hx hg K hK;obtain⟨q,rfl⟩:=hx;simp at ho;subst ho;have d0:t 0=.slice (some ⟨g,0,none⟩) 32 c:=by simpa using hg 0 (by decide)
    have d1:t 1=.slice (some ⟨g,0,none⟩) 32 c:=by simpa using hg 1 (by decide)
    have d2:t 2=.pointer (some ⟨g,31,none⟩):=by simpa using hg 2 (by decide)
    have d3:t 3=.int .u8 b:=by simpa using hg 3 (by decide)
    have d4:t 4=.slice (some ⟨gx,0,none⟩) 16 cx:=by simpa using hg 4 (by decide)
    have d5:t 5=.pointer (some ⟨gx,0,none⟩):=by simpa using hg 5 (by decide)
    have d6:t 6=.int .i64 x:=by simpa using hg 6 (by decide)
    have d7:t 7=.int .i64 (x%2):=by simpa using hg 7 (by decide)
    have d8:t 8=.int .i64 (128*(x%2)):=by simpa using hg 8 (by decide)
    have d9:t 9=.int .u8 (128*(x%2)):=by simpa using hg 9 (by decide)
    have d10:t 10=.int .u8 (b+128*(x%2)):=by simpa using hg 10 (by decide)
    have d11:t 11=.pointer (some ⟨g,31,none⟩):=by simpa using hg 11 (by decide)
    clear hg;have h9:=HP9 q;clear HP9;go_simp;refine hK _ _ ?_;clear hK;generalize (wr.drewN q).setCell ⟨g,31,none⟩ (.int .u8 (b+128*(x%2)))=w9 at *;go_wp2
    go_ret
    exact h9.out
def restAt (V:Int) (j:Nat):Int:=V/2^j%bigL
theorem restAt_bd (V:Int) (j:Nat):0≤restAt V j∧restAt V j<bigL:=by
 unfold restAt bigL;omega
theorem restAt_zero (V:Int):restAt V 0=V%bigL:=by simp[restAt]
def bitAt (V:Int) (j:Nat):Int:=V/2^j%2
theorem bitAt_bd (V:Int) (j:Nat):bitAt V j=0∨bitAt V j=1:=by unfold bitAt;omega
theorem restAt_step (V:Int) (j:Nat):restAt V j=if bigL≤2*restAt V (j+1)+bitAt V j then 2*restAt V (j+1)+bitAt V j-bigL else 2*restAt V (j+1)+bitAt V j:=by
 unfold restAt bitAt bigL;have e:V/2^(j+1)=V/2^j/2:=by rw[Int.pow_succ,Int.ediv_ediv_of_nonneg (Int.pow_nonneg (by decide))]
 rw[e];generalize V/2^j=q;split<;>omega
theorem restAt_top (V:Int) (j:Nat) (h0:0≤V) (h:V<2^j):restAt V j=0:=by
 unfold restAt;rw[Int.ediv_eq_zero_of_lt h0 h];rfl
theorem pow256r (n:Nat):(256:Int)^n=2^(8*n):=by rw[show(256:Int)=2^8 from rfl,←Int.pow_mul]
theorem bitAt_byte (zs:List Int) (j:Nat) (hz:Byte zs):bitAt (val 256 zs) j=zs.getD (j/8) 0/2^(j%8)%2:=by
 induction zs generalizing j with
 |nil=>simp[val,bitAt]
 |cons z zs ih=>
  obtain⟨h0,h1⟩:=Dig.head (B:=256) hz;by_cases hj:j<8
  ·have e1:j/8=0:=by omega
   have e2:j%8=j:=by omega
   rw[e1,e2];simp only[val,bitAt,List.getD_cons_zero];have:j=0∨j=1∨j=2∨j=3∨j=4∨j=5∨j=6∨j=7:=by omega
   rcases this with rfl|rfl|rfl|rfl|rfl|rfl|rfl|rfl<;>simp only[Int.pow_succ,Int.pow_zero]<;>omega
  ·obtain⟨i,rfl⟩:∃ i,j=i+8:=⟨j-8,by omega⟩
   have e1:(i+8)/8=i/8+1:=by omega
   have e2:(i+8)%8=i%8:=by omega
   rw[e1,e2,List.getD_cons_succ,←ih i (Dig.tail (B:=256) hz)];simp only[val,bitAt];have e3:(2:Int)^(i+8)=256*2^i:=by rw[Int.pow_add,Int.mul_comm];rfl
   rw[e3,←Int.ediv_ediv_of_nonneg (by decide)];have e4:(z+256*val 256 zs)/256=val 256 zs:=by omega
   rw[e4]
theorem twice_step (p s P d c b t:Int) (h:s+c*P=2*p+b):(s+(2*d+c)%256*P)+(2*d+c)/256*(P*256)=2*(p+d*P)+b:=by
 have:=val_carry 256 P (2*d) s (2*p+b) c (2*d*P) h rfl
 grind
theorem Own.grow2r {w w':World} {B:Nat} {v:Value} {zs:List Int} (h:Own w B v zs) (hb:Below w.heap.size w w'):Own w' B v zs:=by
 refine⟨⟨h.1.1,?_⟩,h.2⟩;rcases h.1.2 with h'|⟨g,c,cur,h1,h2,h3,h4⟩
 ·exact .inl h'
 ·exact .inr ⟨g,c,cur,h1,h2,by rw[hb.block g (Array.getElem?_eq_some_iff.1 h3).1];exact h3,h4⟩
theorem Own.lower2 {w:World} {B B':Nat} {v:Value} {zs:List Int} (h:Own w B' v zs) (hB:B≤B'):Own w B v zs:=by
 obtain⟨⟨h1,h2⟩,h3⟩:=h;refine⟨⟨h1,?_⟩,h3⟩;rcases h2 with h|⟨g,c,cur,h4,h5,h6⟩
 ·exact .inl h
 ·exact .inr ⟨g,c,cur,h4,by omega,h6⟩
theorem Own.at_ {w:World} {B:Nat} {v:Value} {zs:List Int} (h:Own w B v zs):∃ g c,v=.slice (some ⟨g,0,none⟩) zs.length c∧B≤g∧g<w.heap.size∧At .u8 w (some ⟨g,0,none⟩) zs:=by
 obtain⟨g,c,rfl,hb,hg,hc⟩:=h.base;exact⟨g,c,rfl,hb,hg,.inr ⟨g,0,rfl,hg,fun i hi=>by rw[Nat.zero_add,h.1.cellAt i (by omega)];simp[hi]⟩⟩
theorem shr_bit {x b:Int} {r:Nat} (h0:0≤x) (h1:x<256) (h:b=x/2^r%2):(wrap64 (x/2^r)).tmod 2=b:=by
 have hp:(0:Int)<2^r:=Int.pow_pos (by decide);have a0:0≤x/2^r:=Int.ediv_nonneg h0 (by omega);have a1:x/2^r≤x:=Int.ediv_le_self _ h0;generalize x/2^r=y at *;have:wrap64 y=y:=by unfold wrap64;omega
 rw[this,Int.tmod_eq_emod_of_nonneg a0,h]
theorem red_end {V m z:Int} {j:Nat} (hm:m=2*restAt V (j+1)+bitAt V j) (h:bigL≤m→z=m-bigL):(bigL≤m→z=restAt V j)∧(¬ bigL≤m→m=restAt V j):=by
 have:=restAt_step V j;rw[←hm] at this;refine⟨fun hh=>?_,fun hh=>?_⟩
 ·rw[this,if_pos hh,h hh]
 ·rw[this,if_neg hh]
set_option maxHeartbeats 1000000 in
theorem sred_any (a:Option Addr) (n cap:Nat) (zs:List Int) (w:World) (hn:zs.length=n) (hm:n≤64) (ha:At .u8 w a zs) (hz:Byte zs) :
  Calls Tryz.prog 87 #[.slice a n cap] w fun e w'=>∃ v rs,e=.returned v∧Own w' w.heap.size v rs∧Byte rs∧rs.length=32∧val 256 rs=val 256 zs%bigL∧Below w.heap.size w w':=by
 have hm':¬ ((64:Int)<(n:Int)):=by omega
 go_enter Tryz.func87,Tryz.ntmps87;go_wp2
 go_loopw [3,4] (fun v i wr=>∃ k:Nat,k≤32∧i=.int .i64 k∧Own wr w.heap.size v (List.replicate k 0)∧Below w.heap.size w wr) (fun _ i _=>32-(intOf i).toNat)
 case atStart=>exact⟨0,Nat.zero_le _,rfl,Own.empty _ _ (Nat.le_refl _),(Below.refl _ _).alloc (Nat.le_refl _) _⟩
 case round=>
  obtain⟨k,hk,rfl,hown,hbel⟩:=hrel;by_cases hlt:k<32
  ·have hsz:=hbel.size;go_wp2_with (at_builtin;refine wpList_app _ rfl _ _ rfl w.heap.size _ _ rfl (hown.alloc _) ⟨wr.heap.size,0,none⟩ 1 1 [0] rfl rfl ?c1 ?c2 ?c3 ?_);all_goals first|(intro j hj;obtain rfl:j=0:=by omega
                                                                                                                                                                                         simp[Addr.add];done)|skip
   case c2=>simp;omega
   case c3=>first|omega|(rw[World.size_alloc];omega)
   intro v' w1 hown' hbel' _;have HO:Hid (Own w1 w.heap.size v' (List.replicate (k+1) 0)):=by rw[List.replicate_succ'];exact hown'
   have HB:=hdI <| (hbel.alloc (by omega) _).trans hbel'
   clear hown hown' hbel hbel';go_wp2;go_roundw
   case rel=>exact⟨k+1,by omega,by go_num,HO.out,HB.out⟩
   case measure=>simp[intOf];omega
  ·have hkn:k=32:=by omega
   subst hkn;rw[show((32:Nat):Int)=32 from rfl];have HO:=hdI <| hown
   have hV0:=val_nonneg (by decide) hz;have hV1:val 256 zs<2^(8*n):=by rw[←pow256r,←hn];exact val_lt (by decide) hz
   have HT:=hdI <| restAt_top _ _ hV0 hV1
   clear hown hV0 hV1;go_wp2
   go_loopw [3,5] (fun v i wr=>∃(j:Nat) (rs:List Int),j≤8*n∧i=.int .i64 ((j:Int)-1)∧rs.length=32∧Byte rs∧val 256 rs=restAt (val 256 zs) j∧Own wr w.heap.size v rs∧Below w.heap.size w wr) (fun _ i _=>(intOf i+1).toNat)
   case atStart=>
    refine⟨8*n,_,Nat.le_refl _,by go_num,?_,?_,?_,HO.out,hbel⟩
    ·simp
    ·intro z hz;rw[List.mem_replicate] at hz;omega
    ·rw[HT.out];decide
   case round=>
    clear HT HO hbel;obtain⟨j,rs,hj,rfl,hrl,hrb,hrv,hown,hbel⟩:=hrel;by_cases hj0:0<j
    ·obtain⟨j,rfl⟩:∃ i,j=i+1:=⟨j-1,by omega⟩
     have hsz:=hbel.size;have ei:((j+1:Nat):Int)-1=(j:Int):=by omega
     rw[ei];clear ei;obtain⟨b0,off,rfl,hb0,hc⟩:=(ha.below hbel).get (by omega);have c0:=hc (j/8) (by omega);have hb:=bitAt_byte zs j hz;have hx:=hz.get (j/8);generalize zs.getD (j/8) 0=x at *;obtain⟨hx0,hx1⟩:=hx;go_wp2;rw[shr_bit hx0 hx1 hb];generalize wrap64 (x/2^(j%8))=y41;generalize x/2^(j%8)=y40;have hbb:=bitAt_bd (val 256 zs) j;have HR:Hid (2*restAt (val 256 zs) (j+1)+bitAt (val 256 zs) j<256^32):=by
      have:=(restAt_bd (val 256 zs) (j+1)).2;show 2*restAt (val 256 zs) (j+1)+bitAt (val 256 zs) j<256^32
      unfold bigL at this;omega
     have HBB:=hdI <| hbb
     have HRV:=hdI <| hrv
     obtain⟨g3,c3,rfl,hg3,hg3',A3⟩:=hown.at_;rw[hrl];clear hb hbb hc c0 hrv hown;generalize hbj:bitAt (val 256 zs) j=bj at *;have HBJ:=hdI <| hbj
     clear hbj;obtain⟨w5,hw5⟩:∃ x,x=wr:=⟨_,rfl⟩
     subst hw5
     go_loopw [6,7,8] (fun c v i wq=>∃(k:Nat) (ts:List Int) (b:Int),k≤32∧i=.int .i64 k∧c=.int .i64 b∧(0≤b∧b≤1)∧ts.length=k∧Byte ts∧val 256 ts+b*256^k=2*val 256 (rs.take k)+bj∧Own wq w5.heap.size v ts∧Below w5.heap.size w5 wq) (fun _ _ i _=>32-(intOf i).toNat)
     case atStart=>exact⟨0,[],bj,Nat.zero_le _,rfl,rfl,by rcases HBB.out with h|h<;>omega,rfl,by simp[Byte],by simp[val],Own.empty _ _ (Nat.le_refl _),(Below.refl _ _).alloc (Nat.le_refl _) _⟩
     case round=>
      obtain⟨k,ts,b,hk,rfl,rfl,⟨hb0',hb1'⟩,htl,htb,hv,hot,hbt⟩:=hrel;by_cases hlt:k<32
      ·have hst:=hbt.size;have vr:=val_take 256 rs k (by omega);obtain⟨b3,o3,he3,hb3,hc3⟩:=A3.get (by omega);cases he3;have c1:wr.cell? ⟨g3,0+k,none⟩=some (.int .u8 (rs.getD k 0)):=by rw[hbt.cell (p:=⟨g3,0+k,none⟩) hb3];exact hc3 k (by omega)
       rw[Nat.zero_add] at c1;clear hc3;have hd:=hrb.get k;have hstep:=twice_step _ _ _ (rs.getD k 0) _ _ 0 hv;rw[←vr,show(256:Int)^k*256=256^(k+1) from(Int.pow_succ _ _).symm,←htl,←val_snoc,htl] at hstep;generalize rs.getD k 0=d at *;obtain⟨hd0,hd1⟩:=hd;have hq0:0≤(2*d+b)/256:=by omega
       have hq1:(2*d+b)/256≤1:=by omega
       have hr0:0≤(2*d+b)%256:=by omega
       have hr1:(2*d+b)%256<256:=by omega
       have HBy:=hdI <| Dig.snoc (B:=256) htb hr0 hr1
       have HS:=hdI <| hstep
       have HTL:=hdI <| htl
       clear hstep hv vr htb htl A3;have hcov:(2*d+b).tmod 256=(2*d+b)%256:=Int.tmod_eq_emod_of_nonneg (by omega);have hcod:(2*d+b).tdiv 256=(2*d+b)/256:=Int.tdiv_eq_ediv_of_nonneg (by omega);go_wp2_with (at_builtin;refine wpList_app _ rfl _ _ rfl w5.heap.size _ _ rfl (hot.alloc _) ⟨wr.heap.size,0,none⟩ 1 1 [(2*d+b)%256] rfl rfl ?d1 ?d2 ?d3 ?_);all_goals first|(intro j hj;obtain rfl:j=0:=by omega
                                                                                                                                                                                                                                                                                                                                                                            simp[Addr.add];done)|skip
       case d2=>rw[HTL.out];omega
       case d3=>first|omega|(rw[World.size_alloc];omega)
       intro v' w3 hown' hbel' _;have HO:=hdI <| hown'
       have HB:=hdI <| (hbt.alloc (by omega) _).trans hbel'
       clear hot hown' hbt hbel';go_wp2;go_roundw
       case rel=>exact⟨k+1,ts++[(2*d+b)%256],(2*d+b)/256,by omega,by go_num,rfl,⟨hq0,hq1⟩,by rw[List.length_append,HTL.out];rfl,HBy.out,HS.out,HO.out,HB.out⟩
       case measure=>simp[intOf];omega
      ·have hkn:k=32:=by omega
       subst hkn;rw[List.take_of_length_le (by omega),HRV.out] at hv;have t0:=val_nonneg (by decide) htb;have hb00:b=0:=by
        have:=HR.out;have:(0:Int)<256^32:=by decide
        rcases (show b=0∨b=1 by omega) with h|h
        ·exact h
        ·exfalso;subst h;omega
       subst hb00;have HV:Hid (val 256 ts=2*restAt (val 256 zs) (j+1)+bj):=by show val 256 ts=_;omega
       obtain⟨g4,c4,rfl,hg4,hg4',A4⟩:=hot.at_;rw[htl] at hot ⊢;have hst:=hbt.size;clear hv t0;go_wp2_with fail;refine(l4L_any _).mono ?_;rintro e w6 ⟨v6,rfl,O6,B6⟩;obtain⟨g6,c6,rfl,hg6,hg6',A6⟩:=O6.at_;have A46:=A4.below B6;have O46:=hot.grow2r B6;have HO46:=hdI <| O46
       clear O46 O6 hot A4;go_wp2_with fail;refine(lessS_any _ _ 32 _ _ ts lB _ htl rfl (by decide) A46 A6 htb lB_byte).mono ?_;rintro e w7 ⟨v7,ds,rfl,O7,hdb,hdl,hdv,B7⟩;rw[lB_val] at hdv ⊢;obtain⟨q1,q2⟩:=red_end (V:=val 256 zs) (j:=j) (show val 256 ts=_ by rw[HBJ.out];exact HV.out) hdv;have s6:=B6.size;have s7:=B7.size;have B57:=hbt.trans ((B6.trans (B7.mono B6.size)).mono hst);have HB7:=hdI <| hbel.trans (B57.mono hsz)
       have HOT:=hdI <| (HO46.out.grow2r B7).lower2 hsz
       have HOD:Hid (Own w7 w.heap.size v7 ds):=O7.lower2 (by omega);clear HO46 O7 B57 B6 B7 hbt hbel A46 A6;by_cases hL:bigL≤val 256 ts
       ·have hL':decide (bigL≤val 256 ts)=true:=by simpa using hL
        rw[hL'];have HQ:Hid (val 256 ds=restAt (val 256 zs) j):=q1 hL;have HDL:Hid (ds.length=32):=by rw[hdl];exact htl
        clear q1 q2 hdv hL' hL hdl;go_wp2;go_roundw
        case rel=>exact⟨j,ds,by omega,rfl,HDL.out,hdb,HQ.out,HOD.out,HB7.out⟩
        case measure=>first|(simp[intOf];done)|(simp[intOf];omega)
       ·have hL':decide (bigL≤val 256 ts)=false:=by simpa using hL
        rw[hL'];have HQ:=hdI <| q2 hL
        have HDL:=hdI <| htl
        clear q1 q2 hdv hL' hL hdl htl;go_wp2;go_roundw
        case rel=>exact⟨j,ts,by omega,rfl,HDL.out,htb,HQ.out,HOT.out,HB7.out⟩
        case measure=>first|(simp[intOf];done)|(simp[intOf];omega)
    ·obtain rfl:j=0:=by omega
     have HV:Hid (val 256 rs=val 256 zs%bigL):=by rw[←restAt_zero];exact hrv
     have HO:=hdI <| hown
     have HL:=hdI <| hrl
     clear hrv hown hrl;go_wp2
     go_ret
     exact⟨_,rs,rfl,HO.out,hrb,HL.out,HV.out,hbel⟩
set_option maxHeartbeats 400000 in
theorem sok_any (a:Option Addr) (n cap:Nat) (zs:List Int) (w:World) (hn:zs.length=n) (ha:At .u8 w a zs) (hz:Byte zs) :
  Calls Tryz.prog 90 #[.slice a n cap] w fun e w'=>e=.returned (.bool (decide (n=32∧val 256 zs<bigL)))∧Below w.heap.size w w':=by
 by_cases h:n=32
 ·subst h;go_enter Tryz.func90,Tryz.ntmps90;go_wp2_with fail;refine(l4L_any _).mono ?_;rintro e w6 ⟨v6,rfl,O6,B6⟩;obtain⟨g6,c6,rfl,hg6,hg6',A6⟩:=O6.at_;have A1:=ha.below B6;clear O6;go_wp2_with fail;refine(lessS_any _ _ 32 _ _ zs lB _ hn rfl (by decide) A1 A6 hz lB_byte).mono ?_;rintro e w7 ⟨v7,ds,rfl,O7,hdb,hdl,hdv,B7⟩;rw[lB_val] at *;have B:=B6.trans (B7.mono B6.size);have HB:=hdI <| B
  have e:(!decide (bigL≤val 256 zs))=decide (32=32∧val 256 zs<bigL):=by
   by_cases h:bigL≤val 256 zs
   ·have:¬ val 256 zs<bigL:=by omega
    simp[h,this]
   ·have:val 256 zs<bigL:=by omega
    simp[h,this]
  generalize decide (bigL≤val 256 zs)=q at *;have HE:=hdI <| e
  clear e;clear B O7 A1 A6 hdv B6 B7 ha;go_wp2
  go_ret
  refine⟨?_,HB.out⟩;show Ending.returned (.bool (!q))=_
  rw[HE.out]
 ·have e:decide (n=32∧val 256 zs<bigL)=false:=by simp[h]
  rw[e];have h':((n:Int) != 32)=true:=by simp;omega
  go_enter Tryz.func90,Tryz.ntmps90;go_wp2
  go_ret
  exact⟨rfl,Below.refl _ _⟩
end Go.Proofs.YtncomnkdlpoelaaGreatDoor
