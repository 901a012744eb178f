import Derived.Test.YtncomnkdlpoelaaGreatDoorMISt
open Go.Proofs.Tryz
open Go.Value renaming slice->aM,int->aO,pointer->aY,agg->af
open Go.IntKind renaming i64->aZ,u8->aP
open Go.Obj renaming cells->aa
open Go.Ending renaming returned->aQ
open Go.Ground renaming data->ag
open Option renaming some->aR,none->aS
open Go renaming World->aV,Value->aX
set_option maxHeartbeats 8000000
set_option maxRecDepth 100000
namespace Go.Proofs.YtncomnkdlpoelaaGreatDoor
open Go.ChangeShapes Go.WideShapes Go.ChangeAt Go.RowKit
set_option linter.unusedVariables false
def FG (w:aV) (v:aX) (x:Int):Prop:=∃ g c,v=aM (aR ⟨g,0,aS⟩) 16 c/\Cy w (aR ⟨g,0,aS⟩) x
theorem FG.below {w w':aV} {v:aX} {x:Int} (h:FG w v x) (b:Below w.heap.size w w'):FG w' v x:=by
 obtain⟨g,c,e,f⟩:=h;exact⟨g,c,e,f.below b⟩
theorem FG.get {w:aV} {v:aX} {x:Int} (h:FG w v x):∃ g c,v=aM (aR ⟨g,0,aS⟩) 16 c/\Cy w (aR ⟨g,0,aS⟩) x:=h
theorem FG.elim_ {w:aV} {v:aX} {x:Int} {C:Prop} (h:FG w v x) (k:∀ g c,v=aM (aR ⟨g,0,aS⟩) 16 c->Cy w (aR ⟨g,0,aS⟩) x->C):C:=by
 obtain⟨g,c,e,f⟩:=h;exact k g c e f
theorem EM.c0 {w:aV} {g:Nat} {s0 s1 s2 s3:aX} (h:EM w g #[s0,s1,s2,s3]):w.cell? ⟨g,0,aS⟩=aR s0:=by rw[AA h 0];rfl
theorem EM.c1 {w:aV} {g:Nat} {s0 s1 s2 s3:aX} (h:EM w g #[s0,s1,s2,s3]):w.cell? ⟨g,1,aS⟩=aR s1:=by rw[AA h 1];rfl
theorem EM.c2 {w:aV} {g:Nat} {s0 s1 s2 s3:aX} (h:EM w g #[s0,s1,s2,s3]):w.cell? ⟨g,2,aS⟩=aR s2:=by rw[AA h 2];rfl
theorem EM.c3 {w:aV} {g:Nat} {s0 s1 s2 s3:aX} (h:EM w g #[s0,s1,s2,s3]):w.cell? ⟨g,3,aS⟩=aR s3:=by rw[AA h 3];rfl
def Lt (X1 Y1 X2 Y2:Int):Int:=((Y1-X1)%fp)*((Y2-X2)%fp)%fp
def Lu (X1 Y1 X2 Y2:Int):Int:=((Y1+X1)%fp)*((Y2+X2)%fp)%fp
def KZ (D T1 T2:Int):Int:=(((D+D)%fp)*T1%fp)*T2%fp
def Kj (Z1 Z2:Int):Int:=((Z1+Z1)%fp)*Z2%fp
theorem SR.more {w wr w':aV} {L:List (Option Addr×Int)} {a:Option Addr} {x:Int} (h:SR w wr L) (b:Below wr.heap.size wr w') (hf:Cy w' a x):SR w w' (L++[(a,x)]):=
 ⟨h.below.trans (b.mono h.below.size),λe he=>by
  rcases Bi.1 he with h'|h'
  ·exact(h.fe e h').below b
  ·simp only[List.mem_cons,List.not_mem_nil,or_false] at h';subst h';exact hf⟩
def YQ (w:aV) (A B C G:Int) (e:Ending) (w':aV):Prop:=
 ∃ g1 k1 g2 k2 g3 k3 g4 k4,e=aQ (af #[aM (aR ⟨g1,0,aS⟩) 16 k1,aM (aR ⟨g2,0,aS⟩) 16 k2,aM (aR ⟨g3,0,aS⟩) 16 k3,aM (aR ⟨g4,0,aS⟩) 16 k4])/\
  Cy w' (aR ⟨g1,0,aS⟩) ((B-A)%fp*((G-C)%fp)%fp)/\Cy w' (aR ⟨g2,0,aS⟩) ((G+C)%fp*((B+A)%fp)%fp)/\
  Cy w' (aR ⟨g3,0,aS⟩) ((G-C)%fp*((G+C)%fp)%fp)/\Cy w' (aR ⟨g4,0,aS⟩) ((B-A)%fp*((B+A)%fp)%fp)/\Below w.heap.size w w'/\(w.heap.size<=g1/\w.heap.size<=g2/\w.heap.size<=g3/\w.heap.size<=g4)
theorem Gc (a0 a1 a2 a3 b0 b1 b2 b3 ad:Option Addr) (c0 c1 c2 c3 e0 e1 e2 e3 cd:Nat) (X1 Y1 Z1 T1 X2 Y2 Z2 T2 D:Int) (w:aV) (hs:∀ e∈[(a0,X1),(a1,Y1),(a2,Z1),(a3,T1),(b0,X2),(b1,Y2),(b2,Z2),(b3,T2),(ad,D)],Cy w e.1 e.2) :
  Calls Tryz.prog 60 #[af #[aM a0 16 c0,aM a1 16 c1,aM a2 16 c2,aM a3 16 c3],af #[aM b0 16 e0,aM b1 16 e1,aM b2 16 e2,aM b3 16 e3],aM ad 16 cd] w (YQ w (Lt X1 Y1 X2 Y2) (Lu X1 Y1 X2 Y2) (KZ D T1 T2) (Kj Z1 Z2)):=by
 have bb:Below w.heap.size w (((w.alloc (aa #[aM a0 16 c0,aM a1 16 c1,aM a2 16 c2,aM a3 16 c3] 79)).alloc (aa #[aM b0 16 e0,aM b1 16 e1,aM b2 16 e2,aM b3 16 e3] 79)).alloc (aa CO 79)):=((Cf.alloc Ch _).alloc AL _).alloc (by simp;omega) _;have HP:AO (EM (((w.alloc (aa #[aM a0 16 c0,aM a1 16 c1,aM a2 16 c2,aM a3 16 c3] 79)).alloc (aa #[aM b0 16 e0,aM b1 16 e1,aM b2 16 e2,aM b3 16 e3] 79)).alloc (aa CO 79)) w.heap.size #[aM a0 16 c0,aM a1 16 c1,aM a2 16 c2,aM a3 16 c3]):=by
  show _=_
  rw[BD _ _ w.heap.size (by simp;omega),BD _ _ w.heap.size AL];exact AS w _
 have HQ:AO (EM (((w.alloc (aa #[aM a0 16 c0,aM a1 16 c1,aM a2 16 c2,aM a3 16 c3] 79)).alloc (aa #[aM b0 16 e0,aM b1 16 e1,aM b2 16 e2,aM b3 16 e3] 79)).alloc (aa CO 79)) (w.heap.size+1) #[aM b0 16 e0,aM b1 16 e1,aM b2 16 e2,aM b3 16 e3]):=by
  show _=_
  rw[BD _ _ (w.heap.size+1) AL];have:=AS (w.alloc (aa #[aM a0 16 c0,aM a1 16 c1,aM a2 16 c2,aM a3 16 c3] 79)) (aa #[aM b0 16 e0,aM b1 16 e1,aM b2 16 e2,aM b3 16 e3] 79);simpa using this
 have HZ:AO (EM (((w.alloc (aa #[aM a0 16 c0,aM a1 16 c1,aM a2 16 c2,aM a3 16 c3] 79)).alloc (aa #[aM b0 16 e0,aM b1 16 e1,aM b2 16 e2,aM b3 16 e3] 79)).alloc (aa CO 79)) (w.heap.size+1+1) CO):=by
  show _=_
  have:=AS ((w.alloc (aa #[aM a0 16 c0,aM a1 16 c1,aM a2 16 c2,aM a3 16 c3] 79)).alloc (aa #[aM b0 16 e0,aM b1 16 e1,aM b2 16 e2,aM b3 16 e3] 79)) (aa CO 79);simpa using this
 have SRK:AO (SR w (((w.alloc (aa #[aM a0 16 c0,aM a1 16 c1,aM a2 16 c2,aM a3 16 c3] 79)).alloc (aa #[aM b0 16 e0,aM b1 16 e1,aM b2 16 e2,aM b3 16 e3] 79)).alloc (aa CO 79)) [(a0,X1),(a1,Y1),(a2,Z1),(a3,T1),(b0,X2),(b1,Y2),(b2,Z2),(b3,T2),(ad,D)]):=⟨bb,λe he=>(hs e he).below bb⟩
 go_enter func60,ntmps60;go_wp2_with fail;generalize (((w.alloc (aa #[aM a0 16 c0,aM a1 16 c1,aM a2 16 c2,aM a3 16 c3] 79)).alloc (aa #[aM b0 16 e0,aM b1 16 e1,aM b2 16 e2,aM b3 16 e3] 79)).alloc (aa CO 79))=w0 at *;refine Ag AM ?_;refine DH (λ_ w w'=>Below w.heap.size w w') (frame:=(λ(a b c d e f g h i j k l m n o p q r s u v w x y z A B C D E F G H I J K L M N O P Q R S T U V W X Y Z a0 a1 a2 a3 a4 a5 a6 a7 a8 a9 b0 b1 b2 b3 b4 b5:aX)=>λ(t:Nat->aX)=>({ tmps:=List.toArray [a,b,c,d,e,f,g,t 11,h,i,j,k,l,m,n,t 0,t 1,t 2,t 3,t 4,t 5,t 6,t 7,t 8,t 9,t 10,o,p,q,r,s,u,v,w,x,y,z,A,B,C,D,E,F,G,H,I,J,K,L,M,N,O,P,Q,R,S,T,U,V,W,X,Y,Z,a0,a1,a2,a3,a4,a5,a6,a7,a8,a9,b0,b1,b2,b3,b4,b5],defers:=[] }:Act)) _ _ _ _ _ _ _ _ _ _ _ _ _ _ _ _ _ _ _ _ _ _ _ _ _ _ _ _ _ _ _ _ _ _ _ _ _ _ _ _ _ _ _ _ _ _ _ _ _ _ _ _ _ _ _ _ _ _ _ _ _ _ _ _ _ _ _)
  (Ext:=λL w'=>Below w0.heap.size w0 w') (Good:=λi L w' v=>if i=0 then v=aY (aR ⟨w.heap.size,1,aS⟩) else if i=1 then v=aM a1 16 c1 else if i=2 then v=aY (aR ⟨w.heap.size,0,aS⟩) else if i=3 then v=aM a0 16 c0 else if i=4 then FG w' v ((Y1-X1)%fp) else if i=5 then v=aY (aR ⟨(w.heap.size+1),1,aS⟩) else if i=6 then v=aM b1 16 e1 else if i=7 then v=aY (aR ⟨(w.heap.size+1),0,aS⟩) else if i=8 then v=aM b0 16 e0 else if i=9 then FG w' v ((Y2-X2)%fp) else if i=10 then FG w' v (((Y1-X1)%fp)*((Y2-X2)%fp)%fp) else if i=11 then FG w' v (((Y1-X1)%fp)*((Y2-X2)%fp)%fp) else True) ?hstab AM ?hop ?hdone _ _ ((λ(x0 x1 x2 x3 x4 x5 x6 x7 x8 x9 x10 x11:aX)=>λ(i:Nat)=>if i=0 then x0 else if i=1 then x1 else if i=2 then x2 else if i=3 then x3 else if i=4 then x4 else if i=5 then x5 else if i=6 then x6 else if i=7 then x7 else if i=8 then x8 else if i=9 then x9 else if i=10 then x10 else if i=11 then x11 else undef) _ _ _ _ _ _ _ _ _ _ _ _) _ AL ?ext ?start AL
 case start=>intro i hi h;exact absurd h Ef
 case ext=>exact⟨rfl,rfl,rfl,Aa _,λ_ _=>rfl⟩
 case hstab=>
  intro j L w9 w' i v hM _ _ h;by_cases h4:j=4
  ·subst h4;simp at h |-;exact h.below hM
  by_cases h9:j=9
  ·subst h9;simp at h |-;exact h.below hM
  by_cases h10:j=10
  ·subst h10;simp at h |-;exact h.below hM
  by_cases h11:j=11
  ·subst h11;simp at h |-;exact h.below hM
  simp only[if_neg h4,if_neg h9,if_neg h10,if_neg h11] at h |-;exact h
 case hop=>
  intro i o L t w' ho hLi hx hdep K hK;have hi:i<12:=(AR.1 ho).1;obtain rfl|rfl|rfl|rfl|rfl|rfl|rfl|rfl|rfl|rfl|rfl|rfl:i=0\/i=1\/i=2\/i=3\/i=4\/i=5\/i=6\/i=7\/i=8\/i=9\/i=10\/i=11:=AJ
  all_goals(simp at ho;subst ho)
  all_goals try(have hK':=hK w' _ rfl hx Cf;clear hK;simp[Region.binds] at hdep;rw[AP AN];go_simp;simpa[Ca,hdep] using hK';done)
  ·have d0:t 0=aY (aR ⟨w.heap.size,1,aS⟩):=by simpa using hdep ⟨0,ag⟩ AL rfl
   have cc:=(HP.o.below hx HP.o.lt).c1;have hK':=hK w' (aM a1 16 c1) AL hx Cf;rw[AP AN];go_simp;simpa[Ca,d0] using hK'
  ·have d2:t 2=aY (aR ⟨w.heap.size,0,aS⟩):=by simpa using hdep ⟨2,ag⟩ AL rfl
   have cc:=(HP.o.below hx HP.o.lt).c0;have hK':=hK w' (aM a0 16 c0) AL hx Cf;rw[AP AN];go_simp;simpa[Ca,d2] using hK'
  ·have d1:t 1=aM a1 16 c1:=by simpa using hdep ⟨1,ag⟩ AL rfl
   have d3:t 3=aM a0 16 c0:=by simpa using hdep ⟨3,ag⟩ AL rfl
   have A:=Fs a1 a0 c1 c0 Y1 X1 w' ((SRK.o.at 1 _ _ rfl).below hx) ((SRK.o.at 0 _ _ rfl).below hx);have hK':∀ ww v,FG ww v ((Y1-X1)%fp)->Below w'.heap.size w' ww->K _ ww:=λww v hg hb=>hK ww v (by simpa using hg) (hx.trans (hb.mono hx.size)) hb
   rw[AP AN];go_simp;try simp only[d1,d3]
   refine A.mono ?_;rintro e w9 ⟨g',c',rfl,_,_,hf,hb⟩;have hK2:=hK' w9 _ ⟨g',c',rfl,hf⟩ hb;go_simp;simpa[Ca,d1,d3] using hK2
  ·have d5:t 5=aY (aR ⟨(w.heap.size+1),1,aS⟩):=by simpa using hdep ⟨5,ag⟩ AL rfl
   have cc:=(HQ.o.below hx HQ.o.lt).c1;have hK':=hK w' (aM b1 16 e1) AL hx Cf;rw[AP AN];go_simp;simpa[Ca,d5] using hK'
  ·have d7:t 7=aY (aR ⟨(w.heap.size+1),0,aS⟩):=by simpa using hdep ⟨7,ag⟩ AL rfl
   have cc:=(HQ.o.below hx HQ.o.lt).c0;have hK':=hK w' (aM b0 16 e0) AL hx Cf;rw[AP AN];go_simp;simpa[Ca,d7] using hK'
  ·have d6:t 6=aM b1 16 e1:=by simpa using hdep ⟨6,ag⟩ AL rfl
   have d8:t 8=aM b0 16 e0:=by simpa using hdep ⟨8,ag⟩ AL rfl
   have A:=Fs b1 b0 e1 e0 Y2 X2 w' ((SRK.o.at 5 _ _ rfl).below hx) ((SRK.o.at 4 _ _ rfl).below hx);have hK':∀ ww v,FG ww v ((Y2-X2)%fp)->Below w'.heap.size w' ww->K _ ww:=λww v hg hb=>hK ww v (by simpa using hg) (hx.trans (hb.mono hx.size)) hb
   rw[AP AN];go_simp;try simp only[d6,d8]
   refine A.mono ?_;rintro e w9 ⟨g',c',rfl,_,_,hf,hb⟩;have hK2:=hK' w9 _ ⟨g',c',rfl,hf⟩ hb;go_simp;simpa[Ca,d6,d8] using hK2
  ·have h4:FG w' (t 4) ((Y1-X1)%fp):=by simpa using hdep ⟨4,ag⟩ AL rfl
   refine h4.elim_ λg4 c4 d4 f4=>?_
   have h9:FG w' (t 9) ((Y2-X2)%fp):=by simpa using hdep ⟨9,ag⟩ AL rfl
   refine h9.elim_ λg9 c9 d9 f9=>?_
   have A:=Cs (aR ⟨g4,0,aS⟩) (aR ⟨g9,0,aS⟩) c4 c9 _ _ w' f4 f9;have hK':∀ ww v,FG ww v (((Y1-X1)%fp)*((Y2-X2)%fp)%fp)->Below w'.heap.size w' ww->K _ ww:=λww v hg hb=>hK ww v (by simpa using hg) (hx.trans (hb.mono hx.size)) hb
   rw[AP AN];go_simp;try simp only[d4,d9]
   refine A.mono ?_;rintro e w9 ⟨g',c',rfl,_,_,hf,hb⟩;have hK2:=hK' w9 _ ⟨g',c',rfl,hf⟩ hb;go_simp;simpa[Ca,d4,d9] using hK2
  ·have h10:FG w' (t 10) (((Y1-X1)%fp)*((Y2-X2)%fp)%fp):=by simpa using hdep ⟨10,ag⟩ AL rfl
   refine h10.elim_ λg10 c10 d10 f10=>?_
   have hK':=hK w' (aM (aR ⟨g10,0,aS⟩) 16 c10) (by simpa using⟨g10,c10,rfl,f10⟩) hx Cf;rw[AP AN];go_simp;simpa[Ca,d10] using hK'
 case hdone=>
  intro L t1 w1 hx hg;have f11:FG w1 (t1 11) (((Y1-X1)%fp)*((Y2-X2)%fp)%fp):=by simpa using hg 11 AK
  obtain⟨ggA,ccA,eA,ff⟩:=f11.get;have HP1:=CY <| HP.o.below hx HP.o.lt
  have HQ1:=CY <| HQ.o.below hx HQ.o.lt
  have HZ1:=CY <| HZ.o.below hx HZ.o.lt
  have SRK1:=CY <| SRK.o.more hx ff
  simp only[eA];go_wp2_with fail;refine Ag AM ?_;refine DH (λ_ w w'=>Below w.heap.size w w') (frame:=(λ(a b c d e f g h i j k l m n o p q r s u v w x y z A B C D E F G H I J K L M N O P Q R S T U V W X Y Z a0 a1 a2 a3 a4 a5 a6 a7 a8 a9 b0 b1 b2 b3 b4 b5:aX)=>λ(t:Nat->aX)=>({ tmps:=List.toArray [a,b,c,d,e,f,g,h,t 11,i,j,k,l,m,n,o,p,q,r,s,u,v,w,x,y,z,t 0,t 1,t 2,t 3,t 4,t 5,t 6,t 7,t 8,t 9,t 10,A,B,C,D,E,F,G,H,I,J,K,L,M,N,O,P,Q,R,S,T,U,V,W,X,Y,Z,a0,a1,a2,a3,a4,a5,a6,a7,a8,a9,b0,b1,b2,b3,b4,b5],defers:=[] }:Act)) _ _ _ _ _ _ _ _ _ _ _ _ _ _ _ _ _ _ _ _ _ _ _ _ _ _ _ _ _ _ _ _ _ _ _ _ _ _ _ _ _ _ _ _ _ _ _ _ _ _ _ _ _ _ _ _ _ _ _ _ _ _ _ _ _ _ _)
   (Ext:=λL w'=>Below w1.heap.size w1 w') (Good:=λi L w' v=>if i=0 then v=aY (aR ⟨w.heap.size,1,aS⟩) else if i=1 then v=aM a1 16 c1 else if i=2 then v=aY (aR ⟨w.heap.size,0,aS⟩) else if i=3 then v=aM a0 16 c0 else if i=4 then FG w' v ((Y1+X1)%fp) else if i=5 then v=aY (aR ⟨(w.heap.size+1),1,aS⟩) else if i=6 then v=aM b1 16 e1 else if i=7 then v=aY (aR ⟨(w.heap.size+1),0,aS⟩) else if i=8 then v=aM b0 16 e0 else if i=9 then FG w' v ((Y2+X2)%fp) else if i=10 then FG w' v (((Y1+X1)%fp)*((Y2+X2)%fp)%fp) else if i=11 then FG w' v (((Y1+X1)%fp)*((Y2+X2)%fp)%fp) else True) ?hstab AM ?hop ?hdone _ _ ((λ(x0 x1 x2 x3 x4 x5 x6 x7 x8 x9 x10 x11:aX)=>λ(i:Nat)=>if i=0 then x0 else if i=1 then x1 else if i=2 then x2 else if i=3 then x3 else if i=4 then x4 else if i=5 then x5 else if i=6 then x6 else if i=7 then x7 else if i=8 then x8 else if i=9 then x9 else if i=10 then x10 else if i=11 then x11 else undef) _ _ _ _ _ _ _ _ _ _ _ _) _ AL ?ext ?start AL
  case start=>intro i hi h;exact absurd h Ef
  case ext=>exact⟨rfl,rfl,rfl,Aa _,λ_ _=>rfl⟩
  case hstab=>
   intro j L w9 w' i v hM _ _ h;by_cases h4:j=4
   ·subst h4;simp at h |-;exact h.below hM
   by_cases h9:j=9
   ·subst h9;simp at h |-;exact h.below hM
   by_cases h10:j=10
   ·subst h10;simp at h |-;exact h.below hM
   by_cases h11:j=11
   ·subst h11;simp at h |-;exact h.below hM
   simp only[if_neg h4,if_neg h9,if_neg h10,if_neg h11] at h |-;exact h
  case hop=>
   intro i o L t w' ho hLi hx hdep K hK;have hi:i<12:=(AR.1 ho).1;obtain rfl|rfl|rfl|rfl|rfl|rfl|rfl|rfl|rfl|rfl|rfl|rfl:i=0\/i=1\/i=2\/i=3\/i=4\/i=5\/i=6\/i=7\/i=8\/i=9\/i=10\/i=11:=AJ
   all_goals(simp at ho;subst ho)
   all_goals try(have hK':=hK w' _ rfl hx Cf;clear hK;simp[Region.binds] at hdep;rw[AP AN];go_simp;simpa[Ca,hdep] using hK';done)
   ·have d0:t 0=aY (aR ⟨w.heap.size,1,aS⟩):=by simpa using hdep ⟨0,ag⟩ AL rfl
    have cc:=(HP1.o.below hx HP1.o.lt).c1;have hK':=hK w' (aM a1 16 c1) AL hx Cf;rw[AP AN];go_simp;simpa[Ca,d0] using hK'
   ·have d2:t 2=aY (aR ⟨w.heap.size,0,aS⟩):=by simpa using hdep ⟨2,ag⟩ AL rfl
    have cc:=(HP1.o.below hx HP1.o.lt).c0;have hK':=hK w' (aM a0 16 c0) AL hx Cf;rw[AP AN];go_simp;simpa[Ca,d2] using hK'
   ·have d1:t 1=aM a1 16 c1:=by simpa using hdep ⟨1,ag⟩ AL rfl
    have d3:t 3=aM a0 16 c0:=by simpa using hdep ⟨3,ag⟩ AL rfl
    have A:=Fr a1 a0 c1 c0 Y1 X1 w' ((SRK1.o.at 1 _ _ rfl).below hx) ((SRK1.o.at 0 _ _ rfl).below hx);have hK':∀ ww v,FG ww v ((Y1+X1)%fp)->Below w'.heap.size w' ww->K _ ww:=λww v hg hb=>hK ww v (by simpa using hg) (hx.trans (hb.mono hx.size)) hb
    rw[AP AN];go_simp;try simp only[d1,d3]
    refine A.mono ?_;rintro e w9 ⟨g',c',rfl,_,_,hf,hb⟩;have hK2:=hK' w9 _ ⟨g',c',rfl,hf⟩ hb;go_simp;simpa[Ca,d1,d3] using hK2
   ·have d5:t 5=aY (aR ⟨(w.heap.size+1),1,aS⟩):=by simpa using hdep ⟨5,ag⟩ AL rfl
    have cc:=(HQ1.o.below hx HQ1.o.lt).c1;have hK':=hK w' (aM b1 16 e1) AL hx Cf;rw[AP AN];go_simp;simpa[Ca,d5] using hK'
   ·have d7:t 7=aY (aR ⟨(w.heap.size+1),0,aS⟩):=by simpa using hdep ⟨7,ag⟩ AL rfl
    have cc:=(HQ1.o.below hx HQ1.o.lt).c0;have hK':=hK w' (aM b0 16 e0) AL hx Cf;rw[AP AN];go_simp;simpa[Ca,d7] using hK'
   ·have d6:t 6=aM b1 16 e1:=by simpa using hdep ⟨6,ag⟩ AL rfl
    have d8:t 8=aM b0 16 e0:=by simpa using hdep ⟨8,ag⟩ AL rfl
    have A:=Fr b1 b0 e1 e0 Y2 X2 w' ((SRK1.o.at 5 _ _ rfl).below hx) ((SRK1.o.at 4 _ _ rfl).below hx);have hK':∀ ww v,FG ww v ((Y2+X2)%fp)->Below w'.heap.size w' ww->K _ ww:=λww v hg hb=>hK ww v (by simpa using hg) (hx.trans (hb.mono hx.size)) hb
    rw[AP AN];go_simp;try simp only[d6,d8]
    refine A.mono ?_;rintro e w9 ⟨g',c',rfl,_,_,hf,hb⟩;have hK2:=hK' w9 _ ⟨g',c',rfl,hf⟩ hb;go_simp;simpa[Ca,d6,d8] using hK2
   ·have h4:FG w' (t 4) ((Y1+X1)%fp):=by simpa using hdep ⟨4,ag⟩ AL rfl
    refine h4.elim_ λg4 c4 d4 f4=>?_
    have h9:FG w' (t 9) ((Y2+X2)%fp):=by simpa using hdep ⟨9,ag⟩ AL rfl
    refine h9.elim_ λg9 c9 d9 f9=>?_
    have A:=Cs (aR ⟨g4,0,aS⟩) (aR ⟨g9,0,aS⟩) c4 c9 _ _ w' f4 f9;have hK':∀ ww v,FG ww v (((Y1+X1)%fp)*((Y2+X2)%fp)%fp)->Below w'.heap.size w' ww->K _ ww:=λww v hg hb=>hK ww v (by simpa using hg) (hx.trans (hb.mono hx.size)) hb
    rw[AP AN];go_simp;try simp only[d4,d9]
    refine A.mono ?_;rintro e w9 ⟨g',c',rfl,_,_,hf,hb⟩;have hK2:=hK' w9 _ ⟨g',c',rfl,hf⟩ hb;go_simp;simpa[Ca,d4,d9] using hK2
   ·have h10:FG w' (t 10) (((Y1+X1)%fp)*((Y2+X2)%fp)%fp):=by simpa using hdep ⟨10,ag⟩ AL rfl
    refine h10.elim_ λg10 c10 d10 f10=>?_
    have hK':=hK w' (aM (aR ⟨g10,0,aS⟩) 16 c10) (by simpa using⟨g10,c10,rfl,f10⟩) hx Cf;rw[AP AN];go_simp;simpa[Ca,d10] using hK'
  case hdone=>
   intro L t2 w2 hx hg;have f11:FG w2 (t2 11) (((Y1+X1)%fp)*((Y2+X2)%fp)%fp):=by simpa using hg 11 AK
   obtain⟨ggB,ccB,eB,ff⟩:=f11.get;have HP2:=CY <| HP1.o.below hx HP1.o.lt
   have HQ2:=CY <| HQ1.o.below hx HQ1.o.lt
   have HZ2:=CY <| HZ1.o.below hx HZ1.o.lt
   have SRK2:=CY <| SRK1.o.more hx ff
   simp only[eB];go_wp2_with fail;refine Ag AM ?_;refine DH (λ_ w w'=>Below w.heap.size w w') (frame:=(λ(a b c d e f g h i j k l m n o p q r s u v w x y z A B C D E F G H I J K L M N O P Q R S T U V W X Y Z a0 a1 a2 a3 a4 a5 a6 a7 a8 a9 b0 b1 b2 b3 b4 b5 b6 b7:aX)=>λ(t:Nat->aX)=>({ tmps:=List.toArray [a,b,c,d,e,f,g,h,i,t 9,j,k,l,m,n,o,p,q,r,s,u,v,w,x,y,z,A,B,C,D,E,F,G,H,I,J,K,t 0,t 1,t 2,t 3,t 4,t 5,t 6,t 7,t 8,L,M,N,O,P,Q,R,S,T,U,V,W,X,Y,Z,a0,a1,a2,a3,a4,a5,a6,a7,a8,a9,b0,b1,b2,b3,b4,b5,b6,b7],defers:=[] }:Act)) _ _ _ _ _ _ _ _ _ _ _ _ _ _ _ _ _ _ _ _ _ _ _ _ _ _ _ _ _ _ _ _ _ _ _ _ _ _ _ _ _ _ _ _ _ _ _ _ _ _ _ _ _ _ _ _ _ _ _ _ _ _ _ _ _ _ _ _ _)
    (Ext:=λL w'=>Below w2.heap.size w2 w') (Good:=λi L w' v=>if i=0 then v=aM ad 16 cd else if i=1 then v=aM ad 16 cd else if i=2 then FG w' v ((D+D)%fp) else if i=3 then v=aY (aR ⟨w.heap.size,3,aS⟩) else if i=4 then v=aM a3 16 c3 else if i=5 then FG w' v (((D+D)%fp)*T1%fp) else if i=6 then v=aY (aR ⟨(w.heap.size+1),3,aS⟩) else if i=7 then v=aM b3 16 e3 else if i=8 then FG w' v ((((D+D)%fp)*T1%fp)*T2%fp) else if i=9 then FG w' v ((((D+D)%fp)*T1%fp)*T2%fp) else True) ?hstab AM ?hop ?hdone _ _ ((λ(x0 x1 x2 x3 x4 x5 x6 x7 x8 x9:aX)=>λ(i:Nat)=>if i=0 then x0 else if i=1 then x1 else if i=2 then x2 else if i=3 then x3 else if i=4 then x4 else if i=5 then x5 else if i=6 then x6 else if i=7 then x7 else if i=8 then x8 else if i=9 then x9 else undef) _ _ _ _ _ _ _ _ _ _) _ AL ?ext ?start AL
   case start=>intro i hi h;exact absurd h Ef
   case ext=>exact⟨rfl,rfl,rfl,Aa _,λ_ _=>rfl⟩
   case hstab=>
    intro j L w9 w' i v hM _ _ h;by_cases h2:j=2
    ·subst h2;simp at h |-;exact h.below hM
    by_cases h5:j=5
    ·subst h5;simp at h |-;exact h.below hM
    by_cases h8:j=8
    ·subst h8;simp at h |-;exact h.below hM
    by_cases h9:j=9
    ·subst h9;simp at h |-;exact h.below hM
    simp only[if_neg h2,if_neg h5,if_neg h8,if_neg h9] at h |-;exact h
   case hop=>
    intro i o L t w' ho hLi hx hdep K hK;have hi:i<10:=(AR.1 ho).1;obtain rfl|rfl|rfl|rfl|rfl|rfl|rfl|rfl|rfl|rfl:i=0\/i=1\/i=2\/i=3\/i=4\/i=5\/i=6\/i=7\/i=8\/i=9:=AJ
    all_goals(simp at ho;subst ho)
    all_goals try(have hK':=hK w' _ rfl hx Cf;clear hK;simp[Region.binds] at hdep;rw[AP AN];go_simp;simpa[Ca,hdep] using hK';done)
    ·have d0:t 0=aM ad 16 cd:=by simpa using hdep ⟨0,ag⟩ AL rfl
     have d1:t 1=aM ad 16 cd:=by simpa using hdep ⟨1,ag⟩ AL rfl
     have A:=Fr ad ad cd cd D D w' ((SRK2.o.at 8 _ _ rfl).below hx) ((SRK2.o.at 8 _ _ rfl).below hx);have hK':∀ ww v,FG ww v ((D+D)%fp)->Below w'.heap.size w' ww->K _ ww:=λww v hg hb=>hK ww v (by simpa using hg) (hx.trans (hb.mono hx.size)) hb
     rw[AP AN];go_simp;try simp only[d0,d1]
     refine A.mono ?_;rintro e w9 ⟨g',c',rfl,_,_,hf,hb⟩;have hK2:=hK' w9 _ ⟨g',c',rfl,hf⟩ hb;go_simp;simpa[Ca,d0,d1] using hK2
    ·have d3:t 3=aY (aR ⟨w.heap.size,3,aS⟩):=by simpa using hdep ⟨3,ag⟩ AL rfl
     have cc:=(HP2.o.below hx HP2.o.lt).c3;have hK':=hK w' (aM a3 16 c3) AL hx Cf;rw[AP AN];go_simp;simpa[Ca,d3] using hK'
    ·have h2:FG w' (t 2) ((D+D)%fp):=by simpa using hdep ⟨2,ag⟩ AL rfl
     refine h2.elim_ λg2 c2 d2 f2=>?_
     have d4:t 4=aM a3 16 c3:=by simpa using hdep ⟨4,ag⟩ AL rfl
     have A:=Cs (aR ⟨g2,0,aS⟩) a3 c2 c3 _ T1 w' f2 ((SRK2.o.at 3 _ _ rfl).below hx);have hK':∀ ww v,FG ww v (((D+D)%fp)*T1%fp)->Below w'.heap.size w' ww->K _ ww:=λww v hg hb=>hK ww v (by simpa using hg) (hx.trans (hb.mono hx.size)) hb
     rw[AP AN];go_simp;try simp only[d2,d4]
     refine A.mono ?_;rintro e w9 ⟨g',c',rfl,_,_,hf,hb⟩;have hK2:=hK' w9 _ ⟨g',c',rfl,hf⟩ hb;go_simp;simpa[Ca,d2,d4] using hK2
    ·have d6:t 6=aY (aR ⟨(w.heap.size+1),3,aS⟩):=by simpa using hdep ⟨6,ag⟩ AL rfl
     have cc:=(HQ2.o.below hx HQ2.o.lt).c3;have hK':=hK w' (aM b3 16 e3) AL hx Cf;rw[AP AN];go_simp;simpa[Ca,d6] using hK'
    ·have h5:FG w' (t 5) (((D+D)%fp)*T1%fp):=by simpa using hdep ⟨5,ag⟩ AL rfl
     refine h5.elim_ λg5 c5 d5 f5=>?_
     have d7:t 7=aM b3 16 e3:=by simpa using hdep ⟨7,ag⟩ AL rfl
     have A:=Cs (aR ⟨g5,0,aS⟩) b3 c5 e3 _ T2 w' f5 ((SRK2.o.at 7 _ _ rfl).below hx);have hK':∀ ww v,FG ww v ((((D+D)%fp)*T1%fp)*T2%fp)->Below w'.heap.size w' ww->K _ ww:=λww v hg hb=>hK ww v (by simpa using hg) (hx.trans (hb.mono hx.size)) hb
     rw[AP AN];go_simp;try simp only[d5,d7]
     refine A.mono ?_;rintro e w9 ⟨g',c',rfl,_,_,hf,hb⟩;have hK2:=hK' w9 _ ⟨g',c',rfl,hf⟩ hb;go_simp;simpa[Ca,d5,d7] using hK2
    ·have h8:FG w' (t 8) ((((D+D)%fp)*T1%fp)*T2%fp):=by simpa using hdep ⟨8,ag⟩ AL rfl
     refine h8.elim_ λg8 c8 d8 f8=>?_
     have hK':=hK w' (aM (aR ⟨g8,0,aS⟩) 16 c8) (by simpa using⟨g8,c8,rfl,f8⟩) hx Cf;rw[AP AN];go_simp;simpa[Ca,d8] using hK'
   case hdone=>
    intro L t3 w3 hx hg;have f9:FG w3 (t3 9) ((((D+D)%fp)*T1%fp)*T2%fp):=by simpa using hg 9 AK
    obtain⟨ggC,ccC,eC,ff⟩:=f9.get;have HP3:=CY <| HP2.o.below hx HP2.o.lt
    have HQ3:=CY <| HQ2.o.below hx HQ2.o.lt
    have HZ3:=CY <| HZ2.o.below hx HZ2.o.lt
    have SRK3:=CY <| SRK2.o.more hx ff
    simp only[eC];go_wp2_with fail;refine Ag AM ?_;refine DH (λ_ w w'=>Below w.heap.size w w') (frame:=(λ(a b c d e f g h i j k l m n o p q r s u v w x y z A B C D E F G H I J K L M N O P Q R S T U V W X Y Z a0 a1 a2 a3 a4 a5 a6 a7 a8 a9 b0 b1 b2 b3 b4 b5 b6 b7 b8:aX)=>λ(t:Nat->aX)=>({ tmps:=List.toArray [a,b,c,d,e,f,g,h,i,j,t 8,k,l,m,n,o,p,q,r,s,u,v,w,x,y,z,A,B,C,D,E,F,G,H,I,J,K,L,M,N,O,P,Q,R,S,T,t 0,t 1,t 2,t 3,t 4,t 5,t 6,t 7,U,V,W,X,Y,Z,a0,a1,a2,a3,a4,a5,a6,a7,a8,a9,b0,b1,b2,b3,b4,b5,b6,b7,b8],defers:=[] }:Act)) _ _ _ _ _ _ _ _ _ _ _ _ _ _ _ _ _ _ _ _ _ _ _ _ _ _ _ _ _ _ _ _ _ _ _ _ _ _ _ _ _ _ _ _ _ _ _ _ _ _ _ _ _ _ _ _ _ _ _ _ _ _ _ _ _ _ _ _ _ _)
     (Ext:=λL w'=>Below w3.heap.size w3 w') (Good:=λi L w' v=>if i=0 then v=aY (aR ⟨w.heap.size,2,aS⟩) else if i=1 then v=aM a2 16 c2 else if i=2 then v=aY (aR ⟨w.heap.size,2,aS⟩) else if i=3 then v=aM a2 16 c2 else if i=4 then FG w' v ((Z1+Z1)%fp) else if i=5 then v=aY (aR ⟨(w.heap.size+1),2,aS⟩) else if i=6 then v=aM b2 16 e2 else if i=7 then FG w' v (((Z1+Z1)%fp)*Z2%fp) else if i=8 then FG w' v (((Z1+Z1)%fp)*Z2%fp) else True) ?hstab AM ?hop ?hdone _ _ ((λ(x0 x1 x2 x3 x4 x5 x6 x7 x8:aX)=>λ(i:Nat)=>if i=0 then x0 else if i=1 then x1 else if i=2 then x2 else if i=3 then x3 else if i=4 then x4 else if i=5 then x5 else if i=6 then x6 else if i=7 then x7 else if i=8 then x8 else undef) _ _ _ _ _ _ _ _ _) _ AL ?ext ?start AL
    case start=>intro i hi h;exact absurd h Ef
    case ext=>exact⟨rfl,rfl,rfl,Aa _,λ_ _=>rfl⟩
    case hstab=>
     intro j L w9 w' i v hM _ _ h;by_cases h4:j=4
     ·subst h4;simp at h |-;exact h.below hM
     by_cases h7:j=7
     ·subst h7;simp at h |-;exact h.below hM
     by_cases h8:j=8
     ·subst h8;simp at h |-;exact h.below hM
     simp only[if_neg h4,if_neg h7,if_neg h8] at h |-;exact h
    case hop=>
     intro i o L t w' ho hLi hx hdep K hK;have hi:i<9:=(AR.1 ho).1;obtain rfl|rfl|rfl|rfl|rfl|rfl|rfl|rfl|rfl:i=0\/i=1\/i=2\/i=3\/i=4\/i=5\/i=6\/i=7\/i=8:=AJ
     all_goals(simp at ho;subst ho)
     all_goals try(have hK':=hK w' _ rfl hx Cf;clear hK;simp[Region.binds] at hdep;rw[AP AN];go_simp;simpa[Ca,hdep] using hK';done)
     ·have d0:t 0=aY (aR ⟨w.heap.size,2,aS⟩):=by simpa using hdep ⟨0,ag⟩ AL rfl
      have cc:=(HP3.o.below hx HP3.o.lt).c2;have hK':=hK w' (aM a2 16 c2) AL hx Cf;rw[AP AN];go_simp;simpa[Ca,d0] using hK'
     ·have d2:t 2=aY (aR ⟨w.heap.size,2,aS⟩):=by simpa using hdep ⟨2,ag⟩ AL rfl
      have cc:=(HP3.o.below hx HP3.o.lt).c2;have hK':=hK w' (aM a2 16 c2) AL hx Cf;rw[AP AN];go_simp;simpa[Ca,d2] using hK'
     ·have d1:t 1=aM a2 16 c2:=by simpa using hdep ⟨1,ag⟩ AL rfl
      have d3:t 3=aM a2 16 c2:=by simpa using hdep ⟨3,ag⟩ AL rfl
      have A:=Fr a2 a2 c2 c2 Z1 Z1 w' ((SRK3.o.at 2 _ _ rfl).below hx) ((SRK3.o.at 2 _ _ rfl).below hx);have hK':∀ ww v,FG ww v ((Z1+Z1)%fp)->Below w'.heap.size w' ww->K _ ww:=λww v hg hb=>hK ww v (by simpa using hg) (hx.trans (hb.mono hx.size)) hb
      rw[AP AN];go_simp;try simp only[d1,d3]
      refine A.mono ?_;rintro e w9 ⟨g',c',rfl,_,_,hf,hb⟩;have hK2:=hK' w9 _ ⟨g',c',rfl,hf⟩ hb;go_simp;simpa[Ca,d1,d3] using hK2
     ·have d5:t 5=aY (aR ⟨(w.heap.size+1),2,aS⟩):=by simpa using hdep ⟨5,ag⟩ AL rfl
      have cc:=(HQ3.o.below hx HQ3.o.lt).c2;have hK':=hK w' (aM b2 16 e2) AL hx Cf;rw[AP AN];go_simp;simpa[Ca,d5] using hK'
     ·have h4:FG w' (t 4) ((Z1+Z1)%fp):=by simpa using hdep ⟨4,ag⟩ AL rfl
      refine h4.elim_ λg4 c4 d4 f4=>?_
      have d6:t 6=aM b2 16 e2:=by simpa using hdep ⟨6,ag⟩ AL rfl
      have A:=Cs (aR ⟨g4,0,aS⟩) b2 c4 e2 _ Z2 w' f4 ((SRK3.o.at 6 _ _ rfl).below hx);have hK':∀ ww v,FG ww v (((Z1+Z1)%fp)*Z2%fp)->Below w'.heap.size w' ww->K _ ww:=λww v hg hb=>hK ww v (by simpa using hg) (hx.trans (hb.mono hx.size)) hb
      rw[AP AN];go_simp;try simp only[d4,d6]
      refine A.mono ?_;rintro e w9 ⟨g',c',rfl,_,_,hf,hb⟩;have hK2:=hK' w9 _ ⟨g',c',rfl,hf⟩ hb;go_simp;simpa[Ca,d4,d6] using hK2
     ·have h7:FG w' (t 7) (((Z1+Z1)%fp)*Z2%fp):=by simpa using hdep ⟨7,ag⟩ AL rfl
      refine h7.elim_ λg7 c7 d7 f7=>?_
      have hK':=hK w' (aM (aR ⟨g7,0,aS⟩) 16 c7) (by simpa using⟨g7,c7,rfl,f7⟩) hx Cf;rw[AP AN];go_simp;simpa[Ca,d7] using hK'
    case hdone=>
     intro L t4 w4 hx hg;have f8:FG w4 (t4 8) (((Z1+Z1)%fp)*Z2%fp):=by simpa using hg 8 AK
     obtain⟨ggG,ccG,eG,ff⟩:=f8.get;have HP4:=CY <| HP3.o.below hx HP3.o.lt
     have HQ4:=CY <| HQ3.o.below hx HQ3.o.lt
     have HZ4:=CY <| HZ3.o.below hx HZ3.o.lt
     have SRK4:=CY <| SRK3.o.more hx ff
     simp only[eG];go_wp2_with fail;refine(Fs _ _ ccB ccA _ _ _ (SRK4.o.at 10 _ _ rfl) (SRK4.o.at 9 _ _ rfl)).mono ?_;rintro e w5 ⟨gE,kE,rfl,hk1,hl1,hf,hb⟩;have HZ5:=CY <| HZ4.o.below hb HZ4.o.lt
     have SRK5:=CY <| SRK4.o.more hb hf
     have hgE:w.heap.size+1+1<gE:=AG HZ4.o.lt
     go_wp2_with fail;refine(Fs _ _ ccG ccC _ _ _ (SRK5.o.at 12 _ _ rfl) (SRK5.o.at 11 _ _ rfl)).mono ?_;rintro e w6 ⟨gF,kF,rfl,hk1,hl1,hf,hb⟩;have HZ6:=CY <| HZ5.o.below hb HZ5.o.lt
     have SRK6:=CY <| SRK5.o.more hb hf
     have hgF:w.heap.size+1+1<gF:=AG HZ5.o.lt
     go_wp2_with fail;refine(Fr _ _ ccG ccC _ _ _ (SRK6.o.at 12 _ _ rfl) (SRK6.o.at 11 _ _ rfl)).mono ?_;rintro e w7 ⟨gH,kH,rfl,hk1,hl1,hf,hb⟩;have HZ7:=CY <| HZ6.o.below hb HZ6.o.lt
     have SRK7:=CY <| SRK6.o.more hb hf
     have hgH:w.heap.size+1+1<gH:=AG HZ6.o.lt
     go_wp2_with fail;refine(Fr _ _ ccB ccA _ _ _ (SRK7.o.at 10 _ _ rfl) (SRK7.o.at 9 _ _ rfl)).mono ?_;rintro e w8 ⟨gK,kK,rfl,hk1,hl1,hf,hb⟩;have HZ8:=CY <| HZ7.o.below hb HZ7.o.lt
     have SRK8:=CY <| SRK7.o.more hb hf
     have hgK:w.heap.size+1+1<gK:=AG HZ7.o.lt
     go_wp2_with fail;refine(Cs _ _ kE kF _ _ _ (SRK8.o.at 13 _ _ rfl) (SRK8.o.at 14 _ _ rfl)).mono ?_;rintro e w9 ⟨gX,kX,rfl,hk1,hl1,hf,hb⟩;have HZ9:=CY <| HZ8.o.below hb HZ8.o.lt
     have SRK9:=CY <| SRK8.o.more hb hf
     have hgX:w.heap.size+1+1<gX:=AG HZ8.o.lt
     go_wp2_with fail;refine(Cs _ _ kH kK _ _ _ (SRK9.o.at 15 _ _ rfl) (SRK9.o.at 16 _ _ rfl)).mono ?_;rintro e w10 ⟨gY,kY,rfl,hk1,hl1,hf,hb⟩;have HZ10:=CY <| HZ9.o.below hb HZ9.o.lt
     have SRK10:=CY <| SRK9.o.more hb hf
     have hgY:w.heap.size+1+1<gY:=AG HZ9.o.lt
     go_wp2_with fail;refine(Cs _ _ kF kH _ _ _ (SRK10.o.at 14 _ _ rfl) (SRK10.o.at 15 _ _ rfl)).mono ?_;rintro e w11 ⟨gZ,kZ,rfl,hk1,hl1,hf,hb⟩;have HZ11:=CY <| HZ10.o.below hb HZ10.o.lt
     have SRK11:=CY <| SRK10.o.more hb hf
     have hgZ:w.heap.size+1+1<gZ:=AG HZ10.o.lt
     go_wp2_with fail;refine(Cs _ _ kE kK _ _ _ (SRK11.o.at 13 _ _ rfl) (SRK11.o.at 16 _ _ rfl)).mono ?_;rintro e w12 ⟨gT,kT,rfl,hk1,hl1,hf,hb⟩;have HZ12:=CY <| HZ11.o.below hb HZ11.o.lt
     have SRK12:=CY <| SRK11.o.more hb hf
     have hgT:w.heap.size+1+1<gT:=AG HZ11.o.lt
     go_wp2_with (first
      |(refine Cc rfl (.tmp 6) (.tmp 78) rfl (w.heap.size+1+1) _ _ _ _ _ rfl rfl rfl rfl rfl rfl rfl HZ12.o ?_)
      |fail)
     intro w13 hp3 hw3;have HP3:=CY <| hp3
     have HF:AO (Cy w13 (aR ⟨gX,0,aS⟩) ((Lu X1 Y1 X2 Y2-Lt X1 Y1 X2 Y2)%fp*((Kj Z1 Z2-KZ D T1 T2)%fp)%fp)/\Cy w13 (aR ⟨gY,0,aS⟩) ((Kj Z1 Z2+KZ D T1 T2)%fp*((Lu X1 Y1 X2 Y2+Lt X1 Y1 X2 Y2)%fp)%fp)/\Cy w13 (aR ⟨gZ,0,aS⟩) ((Kj Z1 Z2-KZ D T1 T2)%fp*((Kj Z1 Z2+KZ D T1 T2)%fp)%fp)/\Cy w13 (aR ⟨gT,0,aS⟩) ((Lu X1 Y1 X2 Y2-Lt X1 Y1 X2 Y2)%fp*((Lu X1 Y1 X2 Y2+Lt X1 Y1 X2 Y2)%fp)%fp)/\Below w.heap.size w w13):=
      ⟨(SRK12.o.at 17 _ _ rfl).wr hw3 AJ,(SRK12.o.at 18 _ _ rfl).wr hw3 AJ,(SRK12.o.at 19 _ _ rfl).wr hw3 AJ,(SRK12.o.at 20 _ _ rfl).wr hw3 AJ,SRK12.o.below.trans (hw3.below AJ)⟩
     go_wp2;exact AU (v:=af #[aM (aR ⟨gX,0,aS⟩) 16 kX,aM (aR ⟨gY,0,aS⟩) 16 kY,aM (aR ⟨gZ,0,aS⟩) 16 kZ,aM (aR ⟨gT,0,aS⟩) 16 kT]) (AY rfl _ _ (w.heap.size+1+1) 79 _ (0,0) _ rfl HP3.o underlying79 rfl Tryz.sizePt) rfl ⟨gX,kX,gY,kY,gZ,kZ,gT,kT,rfl,HF.o.1,HF.o.2.1,HF.o.2.2.1,HF.o.2.2.2.1,HF.o.2.2.2.2,AJ,AJ,AJ,AJ⟩
def Hb:Int:=57896044618658097711785492504343953926634992332820282019728792003956564819968
def OB (X Y Z:Int):Int:=Y*Ft Z%fp+Hb*(X*Ft Z%fp%2)
theorem SZ (bs:List Int) (d:Int) (k:Nat) (h:bs.length=2*k):val 256 (bs++[d%256,d/256])=val 256 bs+d*65536^k:=by
 rw[ID,h];have e:(256:Int)^(2*k)=65536^k:=by rw[Int.pow_mul,show(256:Int)^2=65536 from by decide]
 rw[e];simp only[val];have:d%256+256*(d/256)=d:=Int.emod_add_mul_ediv _ _;have e2:d%256+256*(d/256+256*0)=d:=AJ
 rw[e2,Int.mul_comm]
structure ZV (w w5:aV) (zs:List Int) (k:Nat) (v:aX) (wr:aV):Prop where
 st:∃ bs:List Int,DB wr w5.heap.size v bs/\bs.length=2*k/\Cb bs/\val 256 bs=val 65536 (zs.take k)
 below:Below w5.heap.size w5 wr
def Vz (w:aV) (x:Int) (e:Ending) (w':aV):Prop:=
 ∃ v bs,e=aQ v/\DB w' w.heap.size v bs/\Cb bs/\bs.length=32/\val 256 bs=x/\Below w.heap.size w w'
theorem DB.lower3 {w:aV} {B B':Nat} {v:aX} {zs:List Int} (h:DB w B' v zs) (hB:B<=B'):DB w B v zs:=by
 obtain⟨⟨h1,h2⟩,h3⟩:=h;refine⟨⟨h1,?_⟩,h3⟩;rcases h2 with h|⟨g,c,cur,h4,h5,h6⟩
 ·exact .inl h
 ·exact .inr ⟨g,c,cur,h4,AJ,h6⟩
theorem Sb (bs:List Int) (hl:bs.length=32) (hb:Cb bs) (V p:Int) (hv:val 256 bs=V) (hV:V<Hb) (hp:p=0\/p=1) :
  0<=bs.getD 31 0/\bs.getD 31 0<128/\val 256 (bs.set 31 (bs.getD 31 0+128*p))=V+Hb*p/\Cb (bs.set 31 (bs.getD 31 0+128*p)):=by
 have h31:=hb.get 31;have hd:=Es (B:=256) AK (λz hz=>hb z hz) 31;rw[hv] at hd;have hV0:0<=V:=by rw[<-hv];exact C0 AK (λz hz=>hb z hz)
 have e31:(256:Int)^31=452312848583266388373324160190187140051835877600158453279131187530910662656:=AK
 have hlt:bs.getD 31 0<128:=by
  rw[<-hd,e31];unfold Hb at hV;omega
 refine⟨h31.1,hlt,?_,?_⟩
 ·rw[FV 256 bs 31 _ AJ,hv,e31];unfold Hb;rcases hp with rfl|rfl<;>omega
 ·intro z hz;rcases List.mem_or_eq_of_mem_set hz with h|h
  {exact hb z h};{omega}
theorem KH (a0 a1 a2 a3:Option Addr) (c0 c1 c2 c3:Nat) (X Y Z:Int) (w:aV) (hx:Cy w a0 X) (hy:Cy w a1 Y) (hz:Cy w a2 Z) :
  Calls Tryz.prog 35 #[af #[aM a0 16 c0,aM a1 16 c1,aM a2 16 c2,aM a3 16 c3]] w (Vz w (OB X Y Z)):=by
 have bb:Below w.heap.size w (w.alloc (aa #[aM a0 16 c0,aM a1 16 c1,aM a2 16 c2,aM a3 16 c3] 79)):=Ce _ _;have HP:AO (EM (w.alloc (aa #[aM a0 16 c0,aM a1 16 c1,aM a2 16 c2,aM a3 16 c3] 79)) w.heap.size #[aM a0 16 c0,aM a1 16 c1,aM a2 16 c2,aM a3 16 c3]):=AS w _;have SRK:AO (SR w (w.alloc (aa #[aM a0 16 c0,aM a1 16 c1,aM a2 16 c2,aM a3 16 c3] 79)) [(a0,X),(a1,Y),(a2,Z)]):=⟨bb,λe he=>by
  simp only[List.mem_cons,List.not_mem_nil,or_false] at he;rcases he with rfl|rfl|rfl
  {exact hx.below bb};{exact hy.below bb}
  ·exact hz.below bb⟩
 have k2:=HP.o.c2;go_enter func35,ntmps35;go_wp2_with fail;generalize (w.alloc (aa #[aM a0 16 c0,aM a1 16 c1,aM a2 16 c2,aM a3 16 c3] 79))=w0 at *;refine(If _ c2 Z _ (SRK.o.at 2 _ _ rfl)).mono ?_;rintro e w1 ⟨g1,k1,rfl,hk1,hl1,hf,hb⟩;have HP1:=CY <| HP.o.below hb HP.o.lt
 have SRK1:=CY <| SRK.o.more hb hf
 have k0:=HP1.o.c0;go_wp2_with fail;refine(Cs _ _ c0 k1 _ _ _ (SRK1.o.at 0 _ _ rfl) (SRK1.o.at 3 _ _ rfl)).mono ?_;rintro e w2 ⟨g2,kk2,rfl,hk1,hl1,hf,hb⟩;have HP2:=CY <| HP1.o.below hb HP1.o.lt
 have SRK2:=CY <| SRK1.o.more hb hf
 go_wp2_with fail;refine(Eb _ kk2 _ _ (SRK2.o.at 4 _ _ rfl)).mono ?_;rintro e w3 ⟨gx,cx,rfl,hgx,hgx',hlx,hb⟩;have HP3:=CY <| HP2.o.below hb HP2.o.lt
 have SRK3:=CY <| SRK2.o.low hb
 have HLX:=CY <| hlx
 have k1':=HP3.o.c1;go_wp2_with fail;refine(Cs _ _ c1 k1 _ _ _ (SRK3.o.at 1 _ _ rfl) (SRK3.o.at 3 _ _ rfl)).mono ?_;rintro e w4 ⟨g4,k4,rfl,hk1,hl1,hf,hb⟩;have HLX4:AO (Vu w4 (aR ⟨gx,0,aS⟩) (X*Ft Z%fp)):=HLX.o.below hb;have HS4:AO (Below w.heap.size w w4):=SRK3.o.below.trans (hb.mono SRK3.o.below.size);have HF4:AO (Cy w4 (aR ⟨g4,0,aS⟩) (Y*Ft Z%fp)):=hf;have hgx4:gx<w4.heap.size:=AG hb.size
 go_wp2_with fail;refine(Eb _ k4 _ _ HF4.o).mono ?_;rintro e w5 ⟨gy,cyy,rfl,hgy,hgy',⟨zs,hzA,hzl,hzd,hzv⟩,hb5⟩;have HB5:AO (Below w.heap.size w w5):=HS4.o.trans (hb5.mono HS4.o.size);obtain⟨xs,hxA,hxl,hxd,hxv⟩:=HLX4.o.below hb5;have hgx5:gx<w5.heap.size:=AG hb5.size
 have HYC:AO (∀ i,i<16->w5.cell? ⟨gy,i,aS⟩=aR (aO aZ (zs.getD i 0))):=λi hi=>by
  obtain⟨_,_,e,_,hc⟩:=hzA.get AJ;cases e;have:=hc i AJ
  rwa [Ar] at this
 have HXC:AO (w5.cell? ⟨gx,0,aS⟩=aR (aO aZ (xs.getD 0 0))):=by
  obtain⟨_,_,e,_,hc⟩:=hxA.get AJ;cases e;exact hc 0 AJ
 have HXP:AO (xs.getD 0 0%2=X*Ft Z%fp%2/\0<=xs.getD 0 0/\xs.getD 0 0<65536):=⟨by rw[<-Lm xs hxl,hxv],hxd 0⟩
 have HZL:=CY <| hzl
 have HZD:=CY <| hzd
 have HZV:=CY <| hzv
 have HS:AO (ZV w w5 zs 0 (aM (aR ⟨w5.heap.size,0,aS⟩) 0 0) (w5.alloc (aa #[] 5))):=⟨⟨[],DB.empty _ _ Ch,rfl,by simp[Cb],by simp[val]⟩,Ce _ _⟩
 generalize xs.getD 0 0=x at *;go_wp2
 go_loopw [6,7] (λv i wr=>∃ k:Nat,k<=16/\i=aO aZ k/\ZV w w5 zs k v wr) (λ_ i _=>16-(intOf i).toNat)
 case atStart=>exact⟨0,AK,rfl,HS.o⟩
 case round=>
  obtain⟨k,hk,rfl,⟨bs,hO,hbl,hbb,hbv⟩,hbel⟩:=hrel;by_cases hlt:k<16
  ·have hlt':(k:Int)<16:=AJ
   have hd:=HZD.o k;have vt:=DN 65536 zs k (AG HZL.o);have c0:wr.cell? ⟨gy,k,aS⟩=aR (aO aZ (zs.getD k 0)):=by
    rw[hbel.cell (p:=⟨gy,k,aS⟩) hgy'];exact HYC.o k hlt
   generalize hdd:zs.getD k 0=d at *;have HGN:AO (¬ aR gy=u6.ownBlock):=by
    obtain⟨g,c,rfl,hg,_,_⟩:=hO.base;intro h;simp[Value.ownBlock] at h;omega
   have HBL:AO (bs.length<=32):=by show _<=_;omega
   have HN:AO (val 256 (bs++[d%256,d/256])=val 65536 (zs.take (k+1))/\(bs++[d%256,d/256]).length=2*(k+1)/\Cb (bs++[d%256,d/256])):=by
    refine⟨by rw[SZ bs d k hbl,hbv,vt],by simp[hbl];omega,?_⟩;intro z hz;simp at hz;rcases hz with h|h|h
    {exact hbb z h};{omega};{omega}
   have HO:=CY <| hO
   have HBE:=CY <| hbel
   have hwr:=hbel.size;obtain⟨hd0,hd1⟩:=hd;go_wp2_with fail;have hm1:d.tmod 256=d%256:=Ah hd0;have hm2:d.tdiv 256=d/256:=Int.tdiv_eq_ediv_of_nonneg hd0;have hm3:IntKind.u8.wrap (d/256)=d/256:=by rw[IntKind.wrap_u8];omega
   have hm4:IntKind.u8.wrap (d%256)=d%256:=by rw[IntKind.wrap_u8];omega
   have hm5:IntKind.i64.wrap (d/256)=d/256:=by rw[Ak];omega
   refine Ag AM ?_;refine Ei 15 (λi w w'=>i≠14->Below w.heap.size w w') (frame:=(λ(a b c d e f g h i j k l m n o p q r s u v w x y z A B C D E F G H I J K L M N:aX)=>λ(t:Nat->aX)=>({ tmps:=List.toArray [a,b,c,d,e,f,g,h,i,j,k,l,m,n,o,p,q,r,s,u,v,w,x,y,z,A,t 0,t 1,t 2,t 3,t 4,t 5,t 6,t 7,t 8,t 9,t 10,t 11,t 12,t 13,t 14,B,C,D,E,F,G,H,I,J,K,L,M,N],defers:=[] }:Act)) _ _ _ _ _ _ _ _ _ _ _ _ _ _ _ _ _ _ _ _ _ _ _ _ _ _ _ _ _ _ _ _ _ _ _ _ _ _ _)
    (Ext:=λL w'=>(L 14=false->Below wr.heap.size wr w')/\Below w5.heap.size w5 w'/\(∀ i,i<16->w'.cell? ⟨gy,i,aS⟩=wr.cell? ⟨gy,i,aS⟩)/\wr.heap.size<=w'.heap.size)
    (Good:=Xr w5.heap.size u6 gy cyy k d bs) AN AM (MK _ _ _ _ _ _ _) AM AM ?hop ?hend _ _ ((λ(x0 x1 x2 x3 x4 x5 x6 x7 x8 x9 x10 x11 x12 x13 x14:aX)=>λ(i:Nat)=>if i=0 then x0 else if i=1 then x1 else if i=2 then x2 else if i=3 then x3 else if i=4 then x4 else if i=5 then x5 else if i=6 then x6 else if i=7 then x7 else if i=8 then x8 else if i=9 then x9 else if i=10 then x10 else if i=11 then x11 else if i=12 then x12 else if i=13 then x13 else if i=14 then x14 else undef) _ _ _ _ _ _ _ _ _ _ _ _ _ _ _) _ AL AL ?ext ?start AL
   case start=>intro i hi h;exact absurd h Ef
   case ext=>exact⟨λ_=>Cf.drew,⟨HBE.o.os,HBE.o.tape,HBE.o.output,HBE.o.size,HBE.o.block⟩,λ_ _=>rfl,Aa _⟩
   case hop=>
    intro i o L t w' hil ho hLi hx hdep K hK;obtain⟨hx14,hxB,hxY,hxS⟩:=hx;have cY:w'.cell? ⟨gy,k,aS⟩=aR (aO aZ d):=by rw[hxY k AJ];exact c0
    have RX:AO (∀ j,j≠14->∀ ww,Below w'.heap.size w' ww->((CZ L j 14=false->Below wr.heap.size wr ww)/\Below w5.heap.size w5 ww/\(∀ i,i<16->ww.cell? ⟨gy,i,aS⟩=wr.cell? ⟨gy,i,aS⟩)/\wr.heap.size<=ww.heap.size)):=λj hj ww hb=>
     ⟨λhL=>(hx14 (by simpa[CZ,Ne.symm hj] using hL)).trans (hb.mono hxS),hxB.trans (hb.mono hxB.size),λi hi=>by rw[hb.cell (p:=⟨gy,i,aS⟩) (by show gy<w'.heap.size;omega)];exact hxY i hi,AG hb.size⟩
    have RR:AO (∀ j,j≠14->((CZ L j 14=false->Below wr.heap.size wr w')/\Below w5.heap.size w5 w'/\(∀ i,i<16->w'.cell? ⟨gy,i,aS⟩=wr.cell? ⟨gy,i,aS⟩)/\wr.heap.size<=w'.heap.size)):=λj hj=>RX.o j hj w' Cf
    have RM:AO (∀ j:Nat,j≠14->Below w'.heap.size w' w'):=λ_ _=>A8 _ _
    have H14:=CY <| hx14
    have HXB:=CY <| hxB
    have HXY:=CY <| hxY
    obtain rfl|rfl|rfl|rfl|rfl|rfl|rfl|rfl|rfl|rfl|rfl|rfl|rfl|rfl|rfl:i=0\/i=1\/i=2\/i=3\/i=4\/i=5\/i=6\/i=7\/i=8\/i=9\/i=10\/i=11\/i=12\/i=13\/i=14:=AJ
    all_goals(simp at ho;subst ho)
    {clear hdep;go_simp;exact hK w' u6 rfl (RR.o 0 AK) (RM.o 0)};{clear hdep;go_simp;exact hK w' (aM (aR ⟨gy,0,aS⟩) 16 cyy) rfl (RR.o 1 AK) (RM.o 1)};{clear hdep;go_simp;exact hK w' (aO aZ k) rfl (RR.o 2 AK) (RM.o 2)};{have d1:t 1=_:=hdep ⟨1,ag⟩ AL rfl;have d2:t 2=_:=hdep ⟨2,ag⟩ AL rfl;go_simp;simpa[Ca,d1,d2] using hK w' (aY (aR ⟨gy,k,aS⟩)) rfl (RR.o 3 AK) (RM.o 3)};{have d3:t 3=_:=hdep ⟨3,ag⟩ AL rfl;go_simp;simpa[Ca,d3] using hK w' (aO aZ d) rfl (RR.o 4 AK) (RM.o 4)};{have d4:t 4=_:=hdep ⟨4,ag⟩ AL rfl;go_simp;simpa[Ca,d4,hm1,hm2,hm3,hm4,hm5] using hK w' (aO aZ (d%256)) rfl (RR.o 5 AK) (RM.o 5)};{have d5:t 5=_:=hdep ⟨5,ag⟩ AL rfl;go_simp;simpa[Ca,d5,hm1,hm2,hm3,hm4,hm5] using hK w' (aO aP (d%256)) rfl (RR.o 6 AK) (RM.o 6)};{clear hdep;go_simp;exact hK w' (aM (aR ⟨gy,0,aS⟩) 16 cyy) rfl (RR.o 7 AK) (RM.o 7)};{clear hdep;go_simp;exact hK w' (aO aZ k) rfl (RR.o 8 AK) (RM.o 8)};{have d7:t 7=_:=hdep ⟨7,ag⟩ AL rfl;have d8:t 8=_:=hdep ⟨8,ag⟩ AL rfl;go_simp;simpa[Ca,d7,d8] using hK w' (aY (aR ⟨gy,k,aS⟩)) rfl (RR.o 9 AK) (RM.o 9)};{have d9:t 9=_:=hdep ⟨9,ag⟩ AL rfl;go_simp;simpa[Ca,d9] using hK w' (aO aZ d) rfl (RR.o 10 AK) (RM.o 10)};{have d10:t 10=_:=hdep ⟨10,ag⟩ AL rfl;go_simp;simpa[Ca,d10,hm1,hm2,hm3,hm4,hm5] using hK w' (aO aZ (d/256)) rfl (RR.o 11 AK) (RM.o 11)};{have d11:t 11=_:=hdep ⟨11,ag⟩ AL rfl;go_simp;simpa[Ca,d11,hm1,hm2,hm3,hm4,hm5] using hK w' (aO aP (d/256)) rfl (RR.o 12 AK) (RM.o 12)};{have d6:t 6=_:=hdep ⟨6,ag⟩ AL rfl;have d12:t 12=_:=hdep ⟨12,ag⟩ AL rfl;have hK':=hK (w'.alloc (aa #[aO aP (d%256),aO aP (d/256)] 5)) (aM (aR ⟨w'.heap.size,0,aS⟩) 2 2) (λ_=>⟨w'.heap.size,rfl,AL,AA (AS _ _) _,AA (AS _ _) _⟩) (RX.o 13 AK _ (Ce _ _)) (λ_=>Ce _ _);go_simp;simpa[Ca,d6,d12] using hK'}
    ·have d0:=hdep ⟨0,ag⟩ AL rfl;have d13:=hdep ⟨13,ag⟩ AL rfl;obtain⟨g',e13,hg',cc0,cc1⟩:=d13 hLi;have hO:=HO.o.grow2 (H14.o hLi);refine RZ (a:=_) _ _ _ rfl w5.heap.size _ bs (by first|exact d0|(simp[d0];done)) hO ⟨g',0,aS⟩ 2 2 [d%256,d/256] (by first|exact e13|(simp[e13];done)) rfl ?_ ?_ ?_ ?_
     ·intro j hj;rcases (show j=0\/j=1 by omega) with rfl|rfl
      {rw[A0];exact cc0};{rw[A0];exact cc1}
     {have:=HBL.o;omega};{exact HXB.o.size}
     ·intro v' w9 hown' hbel' hgr;have hs9:=hgr.size;have hyY:∀ i,i<16->w9.cell? ⟨gy,i,aS⟩=wr.cell? ⟨gy,i,aS⟩:=λi hi=>by
       rw[Af (a:=⟨gy,i,aS⟩) (w:=w') (hgr.block gy AJ HGN.o)];exact HXY.o i hi
      exact hK w9 v' hown' ⟨λh=>by simp[CZ] at h,HXB.o.trans hbel',hyY,AJ⟩ (λh=>absurd rfl h)
   case hend=>
    intro o L t w' ho hx hg K hK;simp at ho;subst ho;obtain⟨hx14,hxB,hxY,hxS⟩:=hx;have O14:=hg 14 AK;have HXB:=CY <| hxB
    have HXY:=CY <| hxY
    have HSZ:=CY <| hxS
    have HO14:=CY <| O14
    go_simp;refine hK _ _ ?_;have hHB:=HXB.o;have HP:AO (ZV w w5 zs (k+1) (t 14) w'):=⟨⟨_,HO14.o,HN.o.2.1,HN.o.2.2,HN.o.1⟩,hHB⟩
    generalize t 14=v14 at *;go_wp2;go_roundw
    case rel=>exact⟨k+1,AJ,by go_num,HP.o⟩
    case measure=>simp[intOf];omega
  ·have hk16:k=16:=AJ
   rw[hk16,Ad (AG HZL.o),HZV.o] at hbv;obtain⟨g,c,hu,hg0,hg1,hc0⟩:=hO.base;have hl32:bs.length=32:=AJ
   rw[hl32] at hu hc0;subst hu;have hlt:¬ ((k:Int)<16):=AJ
   have hV:Y*Ft Z%fp<Hb:=by
    have:=Int.emod_lt_of_pos (Y*Ft Z) (show(0:Int)<fp by decide);have e:fp<Hb:=AK
    omega
   obtain⟨hp,hx0,hx1⟩:=HXP.o;obtain⟨s1,s2,s3,s4⟩:=Sb bs hl32 hbb _ (x%2) hbv hV AJ;have hset:=DQ.set (k:=aP) (t:=5) hl32 hO 31 (bs.getD 31 0+128*(x%2)) AJ;obtain⟨cB,fB,hO'⟩:=hset;have cX:wr.cell? ⟨gx,0,aS⟩=aR (aO aZ x):=by rw[hbel.cell (p:=⟨gx,0,aS⟩) hgx5];exact HXC.o
   have BB:Below w.heap.size w (wr.setCell ⟨g,31,aS⟩ (aO aP (bs.getD 31 0+128*(x%2)))):=HB5.o.trans ((hbel.trans (Cf.setCell (by show w5.heap.size<=g;omega) _)).mono HB5.o.size);have HP9:∀ q,AO (Vz w (OB X Y Z) (aQ (aM (aR ⟨g,0,aS⟩) 32 c)) ((wr.drewN q).setCell ⟨g,31,aS⟩ (aO aP (bs.getD 31 0+128*(x%2))))):=λq=>
    ⟨_,bs.set 31 (bs.getD 31 0+128*(x%2)),rfl,(show DB _ w5.heap.size _ _ from(show DB (wr.setCell ⟨g,31,aS⟩ (aO aP (bs.getD 31 0+128*(x%2)))) w5.heap.size (aM (aR ⟨g,0,aS⟩) 32 c) _ from hO')).lower3 HB5.o.size,s4,by rw[List.length_set];exact hl32,by rw[s3,hp];rfl,
     ⟨BB.os,BB.tape,BB.output,BB.size,BB.block⟩⟩
   have hm1:x.tmod 2=x%2:=Ah hx0;have hm2:IntKind.i64.wrap (128*(x%2))=128*(x%2):=by rw[Ak];omega
   have hm3:IntKind.u8.wrap (128*(x%2))=128*(x%2):=by rw[IntKind.wrap_u8];omega
   have hm4:IntKind.u8.wrap (bs.getD 31 0+128*(x%2))=bs.getD 31 0+128*(x%2):=by rw[IntKind.wrap_u8];omega
   clear BB hbv hO hbb hbl hbel hk16 HZV HZD HYC HXC HXP hO' s3 s4 hV hp hl32;generalize bs.getD 31 0=b at *;go_wp2_with fail;refine Ag AM ?_;refine GR 12 (λw w'=>True) (frame:=(λ(a b c d e f g h i j k l m n o p q r s u v w x y z A B C D E F G H I J K L M N O P Q:aX)=>λ(t:Nat->aX)=>({ tmps:=List.toArray [a,b,c,d,e,f,g,h,i,j,k,l,m,n,o,p,q,r,s,u,v,w,x,y,z,A,B,C,D,E,F,G,H,I,J,K,L,M,N,O,P,t 0,t 1,t 2,t 3,t 4,t 5,t 6,t 7,t 8,t 9,t 10,t 11,Q],defers:=[] }:Act)) _ _ _ _ _ _ _ _ _ _ _ _ _ _ _ _ _ _ _ _ _ _ _ _ _ _ _ _ _ _ _ _ _ _ _ _ _ _ _ _ _ _)
    (Ext:=λw'=>∃ q,w'=wr.drewN q) (Good:=λi _ v=>if i=0 then v=aM (aR ⟨g,0,aS⟩) 32 c else if i=1 then v=aM (aR ⟨g,0,aS⟩) 32 c else if i=2 then v=aY (aR ⟨g,31,aS⟩) else if i=3 then v=aO aP b else if i=4 then v=aM (aR ⟨gx,0,aS⟩) 16 cx else if i=5 then v=aY (aR ⟨gx,0,aS⟩) else if i=6 then v=aO aZ x else if i=7 then v=aO aZ (x%2) else if i=8 then v=aO aZ (128*(x%2)) else if i=9 then v=aO aP (128*(x%2)) else if i=10 then v=aO aP (b+128*(x%2)) else if i=11 then v=aY (aR ⟨g,31,aS⟩) else True) AN AM (λi w w' v _ h=>h) AM AM ?hop ?hend _ _ ((λ(x0 x1 x2 x3 x4 x5 x6 x7 x8 x9 x10 x11:aX)=>λ(i:Nat)=>if i=0 then x0 else if i=1 then x1 else if i=2 then x2 else if i=3 then x3 else if i=4 then x4 else if i=5 then x5 else if i=6 then x6 else if i=7 then x7 else if i=8 then x8 else if i=9 then x9 else if i=10 then x10 else if i=11 then x11 else undef) _ _ _ _ _ _ _ _ _ _ _ _) _ AL AL ?ext ?start AL
   case start=>intro i hi h;exact absurd h Ef
   case ext=>exact⟨1,rfl⟩
   case hop=>
    intro i o t w' hil ho hx hdep K hK;obtain⟨q,rfl⟩:=hx;obtain rfl|rfl|rfl|rfl|rfl|rfl|rfl|rfl|rfl|rfl|rfl|rfl:i=0\/i=1\/i=2\/i=3\/i=4\/i=5\/i=6\/i=7\/i=8\/i=9\/i=10\/i=11:=AJ
    all_goals(simp at ho;subst ho)
    {clear hdep;have hK':=hK (wr.drewN q) (aM (aR ⟨g,0,aS⟩) 32 c) AL ⟨q,rfl⟩ trivial;clear hK;go_simp;simpa[Ca,hm1,hm2,hm3,hm4] using hK'};{clear hdep;have hK':=hK (wr.drewN q) (aM (aR ⟨g,0,aS⟩) 32 c) AL ⟨q,rfl⟩ trivial;clear hK;go_simp;simpa[Ca,hm1,hm2,hm3,hm4] using hK'}
    ·have d1:t 1=aM (aR ⟨g,0,aS⟩) 32 c:=by simpa using hdep ⟨1,ag⟩ AL rfl
     clear hdep;have hK':=hK (wr.drewN q) (aY (aR ⟨g,31,aS⟩)) AL ⟨q,rfl⟩ trivial;clear hK;go_simp;simpa[Ca,d1,hm1,hm2,hm3,hm4] using hK'
    ·have d2:t 2=aY (aR ⟨g,31,aS⟩):=by simpa using hdep ⟨2,ag⟩ AL rfl
     clear hdep;have hK':=hK (wr.drewN q) (aO aP b) AL ⟨q,rfl⟩ trivial;clear hK;go_simp;simpa[Ca,d2,hm1,hm2,hm3,hm4] using hK'
    ·clear hdep;have hK':=hK (wr.drewN q) (aM (aR ⟨gx,0,aS⟩) 16 cx) AL ⟨q,rfl⟩ trivial;clear hK;go_simp;simpa[Ca,hm1,hm2,hm3,hm4] using hK'
    ·have d4:t 4=aM (aR ⟨gx,0,aS⟩) 16 cx:=by simpa using hdep ⟨4,ag⟩ AL rfl
     clear hdep;have hK':=hK (wr.drewN q) (aY (aR ⟨gx,0,aS⟩)) AL ⟨q,rfl⟩ trivial;clear hK;go_simp;simpa[Ca,d4,hm1,hm2,hm3,hm4] using hK'
    ·have d5:t 5=aY (aR ⟨gx,0,aS⟩):=by simpa using hdep ⟨5,ag⟩ AL rfl
     clear hdep;have hK':=hK (wr.drewN q) (aO aZ x) AL ⟨q,rfl⟩ trivial;clear hK;go_simp;simpa[Ca,d5,hm1,hm2,hm3,hm4] using hK'
    ·have d6:t 6=aO aZ x:=by simpa using hdep ⟨6,ag⟩ AL rfl
     clear hdep;have hK':=hK (wr.drewN q) (aO aZ (x%2)) AL ⟨q,rfl⟩ trivial;clear hK;go_simp;simpa[Ca,d6,hm1,hm2,hm3,hm4] using hK'
    ·have d7:t 7=aO aZ (x%2):=by simpa using hdep ⟨7,ag⟩ AL rfl
     clear hdep;have hK':=hK (wr.drewN q) (aO aZ (128*(x%2))) AL ⟨q,rfl⟩ trivial;clear hK;go_simp;simpa[Ca,d7,hm1,hm2,hm3,hm4] using hK'
    ·have d8:t 8=aO aZ (128*(x%2)):=by simpa using hdep ⟨8,ag⟩ AL rfl
     clear hdep;have hK':=hK (wr.drewN q) (aO aP (128*(x%2))) AL ⟨q,rfl⟩ trivial;clear hK;go_simp;simpa[Ca,d8,hm1,hm2,hm3,hm4] using hK'
    ·have d3:t 3=aO aP b:=by simpa using hdep ⟨3,ag⟩ AL rfl
     have d9:t 9=aO aP (128*(x%2)):=by simpa using hdep ⟨9,ag⟩ AL rfl
     clear hdep;have hK':=hK (wr.drewN q) (aO aP (b+128*(x%2))) AL ⟨q,rfl⟩ trivial;clear hK;go_simp;simpa[Ca,d3,d9,hm1,hm2,hm3,hm4] using hK'
    ·have d0:t 0=aM (aR ⟨g,0,aS⟩) 32 c:=by simpa using hdep ⟨0,ag⟩ AL rfl
     clear hdep;have hK':=hK (wr.drewN q) (aY (aR ⟨g,31,aS⟩)) AL ⟨q,rfl⟩ trivial;clear hK;go_simp;simpa[Ca,d0,hm1,hm2,hm3,hm4] using hK'
   case hend=>
    intro o t w' ho hx hg K hK;obtain⟨q,rfl⟩:=hx;simp at ho;subst ho;have d0:t 0=aM (aR ⟨g,0,aS⟩) 32 c:=by simpa using hg 0 AK
    have d1:t 1=aM (aR ⟨g,0,aS⟩) 32 c:=by simpa using hg 1 AK
    have d2:t 2=aY (aR ⟨g,31,aS⟩):=by simpa using hg 2 AK
    have d3:t 3=aO aP b:=by simpa using hg 3 AK
    have d4:t 4=aM (aR ⟨gx,0,aS⟩) 16 cx:=by simpa using hg 4 AK
    have d5:t 5=aY (aR ⟨gx,0,aS⟩):=by simpa using hg 5 AK
    have d6:t 6=aO aZ x:=by simpa using hg 6 AK
    have d7:t 7=aO aZ (x%2):=by simpa using hg 7 AK
    have d8:t 8=aO aZ (128*(x%2)):=by simpa using hg 8 AK
    have d9:t 9=aO aP (128*(x%2)):=by simpa using hg 9 AK
    have d10:t 10=aO aP (b+128*(x%2)):=by simpa using hg 10 AK
    have d11:t 11=aY (aR ⟨g,31,aS⟩):=by simpa using hg 11 AK
    clear hg;have h9:=HP9 q;clear HP9;go_simp;refine hK _ _ ?_;clear hK;generalize (wr.drewN q).setCell ⟨g,31,aS⟩ (aO aP (b+128*(x%2)))=w9 at *;go_wp2
    go_ret
    exact h9.o
def Dk (V:Int) (j:Nat):Int:=V/2^j%DZ
theorem K6 (V:Int) (j:Nat):0<=Dk V j/\Dk V j<DZ:=by
 unfold Dk DZ;omega
theorem JM (V:Int):Dk V 0=V%DZ:=by simp[Dk]
def FT (V:Int) (j:Nat):Int:=V/2^j%2
theorem Mt (V:Int) (j:Nat):FT V j=0\/FT V j=1:=by unfold FT;omega
theorem JN (V:Int) (j:Nat):Dk V j=if DZ<=2*Dk V (j+1)+FT V j then 2*Dk V (j+1)+FT V j-DZ else 2*Dk V (j+1)+FT V j:=by
 unfold Dk FT DZ;have e:V/2^(j+1)=V/2^j/2:=by rw[Int.pow_succ,BY (Int.pow_nonneg AK)]
 rw[e];generalize V/2^j=q;split<;>omega
theorem KI (V:Int) (j:Nat) (h0:0<=V) (h:V<2^j):Dk V j=0:=by
 unfold Dk;rw[Int.ediv_eq_zero_of_lt h0 h];rfl
theorem PO (n:Nat):(256:Int)^n=2^(8*n):=by rw[show(256:Int)=2^8 from rfl,<-Int.pow_mul]
theorem KJ (zs:List Int) (j:Nat) (hz:Cb zs):FT (val 256 zs) j=zs.getD (j/8) 0/2^(j%8)%2:=by
 induction zs generalizing j with
 |nil=>simp[val,FT]
 |cons z zs ih=>
  obtain⟨h0,h1⟩:=KW.head (B:=256) hz;by_cases hj:j<8
  ·have e1:j/8=0:=AJ
   have e2:j%8=j:=AJ
   rw[e1,e2];simp only[val,FT,List.getD_cons_zero];have:j=0\/j=1\/j=2\/j=3\/j=4\/j=5\/j=6\/j=7:=AJ
   rcases this with rfl|rfl|rfl|rfl|rfl|rfl|rfl|rfl<;>simp only[Int.pow_succ,Int.pow_zero]<;>omega
  ·obtain⟨i,rfl⟩:∃ i,j=i+8:=⟨j-8,AJ⟩
   have e1:(i+8)/8=i/8+1:=AJ
   have e2:(i+8)%8=i%8:=AJ
   rw[e1,e2,List.getD_cons_succ,<-ih i (KW.tail (B:=256) hz)];simp only[val,FT];have e3:(2:Int)^(i+8)=256*2^i:=by rw[Int.pow_add,Int.mul_comm];rfl
   rw[e3,<-BY AK];have e4:(z+256*val 256 zs)/256=val 256 zs:=AJ
   rw[e4]
theorem OC (p s P d c b t:Int) (h:s+c*P=2*p+b):(s+(2*d+c)%256*P)+(2*d+c)/256*(P*256)=2*(p+d*P)+b:=by
 have:=Ps 256 P (2*d) s (2*p+b) c (2*d*P) h rfl
 grind
theorem DB.grow2r {w w':aV} {B:Nat} {v:aX} {zs:List Int} (h:DB w B v zs) (hb:Below w.heap.size w w'):DB w' B v zs:=by
 refine⟨⟨h.1.1,?_⟩,h.2⟩;rcases h.1.2 with h'|⟨g,c,cur,h1,h2,h3,h4⟩
 ·exact .inl h'
 ·exact .inr ⟨g,c,cur,h1,h2,by rw[hb.block g (AR.1 h3).1];exact h3,h4⟩
theorem DB.lower2 {w:aV} {B B':Nat} {v:aX} {zs:List Int} (h:DB w B' v zs) (hB:B<=B'):DB w B v zs:=by
 obtain⟨⟨h1,h2⟩,h3⟩:=h;refine⟨⟨h1,?_⟩,h3⟩;rcases h2 with h|⟨g,c,cur,h4,h5,h6⟩
 ·exact .inl h
 ·exact .inr ⟨g,c,cur,h4,AJ,h6⟩
theorem DB.at_ {w:aV} {B:Nat} {v:aX} {zs:List Int} (h:DB w B v zs):∃ g c,v=aM (aR ⟨g,0,aS⟩) zs.length c/\B<=g/\g<w.heap.size/\At aP w (aR ⟨g,0,aS⟩) zs:=by
 obtain⟨g,c,rfl,hb,hg,hc⟩:=h.base;exact⟨g,c,rfl,hb,hg,.inr ⟨g,0,rfl,hg,λi hi=>by rw[Ar,h.1.cellAt i AJ];simp[hi]⟩⟩
theorem Up {x b:Int} {r:Nat} (h0:0<=x) (h1:x<256) (h:b=x/2^r%2):(wrap64 (x/2^r)).tmod 2=b:=by
 have hp:(0:Int)<2^r:=Int.pow_pos AK;have a0:0<=x/2^r:=Int.ediv_nonneg h0 AJ;have a1:x/2^r<=x:=Int.ediv_le_self _ h0;generalize x/2^r=y at *;have:wrap64 y=y:=by unfold wrap64;omega
 rw[this,Ah a0,h]
theorem Uq {V m z:Int} {j:Nat} (hm:m=2*Dk V (j+1)+FT V j) (h:DZ<=m->z=m-DZ):(DZ<=m->z=Dk V j)/\(¬ DZ<=m->m=Dk V j):=by
 have:=JN V j;rw[<-hm] at this;refine⟨λhh=>?_,λhh=>?_⟩
 ·rw[this,AP hh,h hh]
 ·rw[this,AQ hh]
theorem KK (a:Option Addr) (n cap:Nat) (zs:List Int) (w:aV) (hn:zs.length=n) (hm:n<=64) (ha:At aP w a zs) (hz:Cb zs) :
  Calls Tryz.prog 87 #[aM a n cap] w λe w'=>∃ v rs,e=aQ v/\DB w' w.heap.size v rs/\Cb rs/\rs.length=32/\val 256 rs=val 256 zs%DZ/\Below w.heap.size w w':=by
 have hm':¬ ((64:Int)<(n:Int)):=AJ
 go_enter func87,ntmps87;go_wp2
 go_loopw [3,4] (λv i wr=>∃ k:Nat,k<=32/\i=aO aZ k/\DB wr w.heap.size v (List.replicate k 0)/\Below w.heap.size w wr) (λ_ i _=>32-(intOf i).toNat)
 case atStart=>exact⟨0,Aw _,rfl,DB.empty _ _ Ch,Cf.alloc Ch _⟩
 case round=>
  obtain⟨k,hk,rfl,hown,hbel⟩:=hrel;by_cases hlt:k<32
  ·have hsz:=hbel.size;go_wp2_with (at_builtin;refine Cv _ rfl _ _ rfl w.heap.size _ _ rfl (hown.alloc _) ⟨wr.heap.size,0,aS⟩ 1 1 [0] rfl rfl ?c1 ?c2 ?c3 ?_);all_goals first|(intro j hj;obtain rfl:j=0:=AJ
                                                                                                                                                                               simp[Addr.add];done)|skip
   case c2=>simp;omega
   case c3=>first|omega|(rw[Ay];omega)
   intro v' w1 hown' hbel' _;have HO:AO (DB w1 w.heap.size v' (List.replicate (k+1) 0)):=by rw[List.replicate_succ'];exact hown'
   have HB:=CY <| (hbel.alloc AJ _).trans hbel'
   go_wp2;go_roundw
   case rel=>exact⟨k+1,AJ,by go_num,HO.o,HB.o⟩
   case measure=>simp[intOf];omega
  ·have hkn:k=32:=AJ
   subst hkn;rw[show((32:Nat):Int)=32 from rfl];have HO:=CY <| hown
   have hV0:=C0 AK hz;have hV1:val 256 zs<2^(8*n):=by rw[<-PO,<-hn];exact Eg AK hz
   have HT:=CY <| KI _ _ hV0 hV1
   go_wp2
   go_loopw [3,5] (λv i wr=>∃(j:Nat) (rs:List Int),j<=8*n/\i=aO aZ ((j:Int)-1)/\rs.length=32/\Cb rs/\val 256 rs=Dk (val 256 zs) j/\DB wr w.heap.size v rs/\Below w.heap.size w wr) (λ_ i _=>(intOf i+1).toNat)
   case atStart=>
    refine⟨8*n,_,Aa _,by go_num,?_,?_,?_,HO.o,hbel⟩
    {simp};{intro z hz;rw[List.mem_replicate] at hz;omega};{rw[HT.o];decide}
   case round=>
    obtain⟨j,rs,hj,rfl,hrl,hrb,hrv,hown,hbel⟩:=hrel;by_cases hj0:0<j
    ·obtain⟨j,rfl⟩:∃ i,j=i+1:=⟨j-1,AJ⟩
     have hsz:=hbel.size;have ei:((j+1:Nat):Int)-1=(j:Int):=AJ
     rw[ei];obtain⟨b0,off,rfl,hb0,hc⟩:=(ha.below hbel).get AJ;have c0:=hc (j/8) AJ;have hb:=KJ zs j hz;have hx:=hz.get (j/8);generalize zs.getD (j/8) 0=x at *;obtain⟨hx0,hx1⟩:=hx;go_wp2;rw[Up hx0 hx1 hb];generalize wrap64 (x/2^(j%8))=y41;generalize x/2^(j%8)=y40;have hbb:=Mt (val 256 zs) j;have HR:AO (2*Dk (val 256 zs) (j+1)+FT (val 256 zs) j<256^32):=by
      have:=(K6 (val 256 zs) (j+1)).2;show 2*Dk (val 256 zs) (j+1)+FT (val 256 zs) j<256^32
      unfold DZ at this;omega
     have HBB:=CY <| hbb
     have HRV:=CY <| hrv
     obtain⟨g3,c3,rfl,hg3,hg3',A3⟩:=hown.at_;rw[hrl];clear hb hbb hc c0 hrv hown;generalize hbj:FT (val 256 zs) j=bj at *;have HBJ:=CY <| hbj
     clear hbj;obtain⟨w5,hw5⟩:∃ x,x=wr:=⟨_,rfl⟩
     subst hw5
     go_loopw [6,7,8] (λc v i wq=>∃(k:Nat) (ts:List Int) (b:Int),k<=32/\i=aO aZ k/\c=aO aZ b/\(0<=b/\b<=1)/\ts.length=k/\Cb ts/\val 256 ts+b*256^k=2*val 256 (rs.take k)+bj/\DB wq w5.heap.size v ts/\Below w5.heap.size w5 wq) (λ_ _ i _=>32-(intOf i).toNat)
     case atStart=>exact⟨0,[],bj,Aw _,rfl,rfl,by rcases HBB.o with h|h<;>omega,rfl,by simp[Cb],by simp[val],DB.empty _ _ Ch,Cf.alloc Ch _⟩
     case round=>
      obtain⟨k,ts,b,hk,rfl,rfl,⟨hb0',hb1'⟩,htl,htb,hv,hot,hbt⟩:=hrel;by_cases hlt:k<32
      ·have hst:=hbt.size;have vr:=DN 256 rs k AJ;obtain⟨b3,o3,he3,hb3,hc3⟩:=A3.get AJ;cases he3;have c1:wr.cell? ⟨g3,0+k,aS⟩=aR (aO aP (rs.getD k 0)):=by rw[hbt.cell (p:=⟨g3,0+k,aS⟩) hb3];exact hc3 k AJ
       rw[Ar] at c1;clear hc3;have hd:=hrb.get k;have hstep:=OC _ _ _ (rs.getD k 0) _ _ 0 hv;rw[<-vr,show(256:Int)^k*256=256^(k+1) from(Int.pow_succ _ _).symm,<-htl,<-GF,htl] at hstep;generalize rs.getD k 0=d at *;obtain⟨hd0,hd1⟩:=hd;have hq0:0<=(2*d+b)/256:=AJ
       have hq1:(2*d+b)/256<=1:=AJ
       have hr0:0<=(2*d+b)%256:=AJ
       have hr1:(2*d+b)%256<256:=AJ
       have HBy:=CY <| KW.snoc (B:=256) htb hr0 hr1
       have HS:=CY <| hstep
       have HTL:=CY <| htl
       clear hstep hv vr htb htl A3;have hcov:(2*d+b).tmod 256=(2*d+b)%256:=Ah AJ;have hcod:(2*d+b).tdiv 256=(2*d+b)/256:=Int.tdiv_eq_ediv_of_nonneg AJ;go_wp2_with (at_builtin;refine Cv _ rfl _ _ rfl w5.heap.size _ _ rfl (hot.alloc _) ⟨wr.heap.size,0,aS⟩ 1 1 [(2*d+b)%256] rfl rfl ?d1 ?d2 ?d3 ?_);all_goals first|(intro j hj;obtain rfl:j=0:=AJ
                                                                                                                                                                                                                                                                                                                          simp[Addr.add];done)|skip
       case d2=>rw[HTL.o];omega
       case d3=>first|omega|(rw[Ay];omega)
       intro v' w3 hown' hbel' _;have HO:=CY <| hown'
       have HB:=CY <| (hbt.alloc AJ _).trans hbel'
       clear hot hown' hbt hbel';go_wp2;go_roundw
       case rel=>exact⟨k+1,ts++[(2*d+b)%256],(2*d+b)/256,AJ,by go_num,rfl,⟨hq0,hq1⟩,by rw[Ae,HTL.o];rfl,HBy.o,HS.o,HO.o,HB.o⟩
       case measure=>simp[intOf];omega
      ·have hkn:k=32:=AJ
       subst hkn;rw[Ad AJ,HRV.o] at hv;have t0:=C0 AK htb;have hb00:b=0:=by
        have:=HR.o;have:(0:Int)<256^32:=AK
        rcases (show b=0\/b=1 by omega) with h|h
        {exact h};{exfalso;subst h;omega}
       subst hb00;have HV:AO (val 256 ts=2*Dk (val 256 zs) (j+1)+bj):=by show val 256 ts=_;omega
       obtain⟨g4,c4,rfl,hg4,hg4',A4⟩:=hot.at_;rw[htl] at hot |-;have hst:=hbt.size;go_wp2_with fail;refine(O0 _).mono ?_;rintro e w6 ⟨v6,rfl,O6,B6⟩;obtain⟨g6,c6,rfl,hg6,hg6',A6⟩:=O6.at_;have A46:=A4.below B6;have O46:=hot.grow2r B6;have HO46:=CY <| O46
       go_wp2_with fail;refine(Ku _ _ 32 _ _ ts lB _ htl rfl AK A46 A6 htb Oz).mono ?_;rintro e w7 ⟨v7,ds,rfl,O7,hdb,hdl,hdv,B7⟩;rw[Rj] at hdv |-;obtain⟨q1,q2⟩:=Uq (V:=val 256 zs) (j:=j) (show val 256 ts=_ by rw[HBJ.o];exact HV.o) hdv;have s6:=B6.size;have s7:=B7.size;have B57:=hbt.trans ((B6.trans (B7.mono B6.size)).mono hst);have HB7:=CY <| hbel.trans (B57.mono hsz)
       have HOT:=CY <| (HO46.o.grow2r B7).lower2 hsz
       have HOD:AO (DB w7 w.heap.size v7 ds):=O7.lower2 AJ;by_cases hL:DZ<=val 256 ts
       ·have hL':decide (DZ<=val 256 ts)=true:=by simpa using hL
        rw[hL'];have HQ:AO (val 256 ds=Dk (val 256 zs) j):=q1 hL;have HDL:AO (ds.length=32):=by rw[hdl];exact htl
        go_wp2;go_roundw
        case rel=>exact⟨j,ds,AJ,rfl,HDL.o,hdb,HQ.o,HOD.o,HB7.o⟩
        case measure=>first|(simp[intOf];done)|(simp[intOf];omega)
       ·have hL':decide (DZ<=val 256 ts)=false:=by simpa using hL
        rw[hL'];have HQ:=CY <| q2 hL
        have HDL:=CY <| htl
        go_wp2;go_roundw
        case rel=>exact⟨j,ts,AJ,rfl,HDL.o,htb,HQ.o,HOT.o,HB7.o⟩
        case measure=>first|(simp[intOf];done)|(simp[intOf];omega)
    ·obtain rfl:j=0:=AJ
     have HV:AO (val 256 rs=val 256 zs%DZ):=by rw[<-JM];exact hrv
     have HO:=CY <| hown
     have HL:=CY <| hrl
     go_wp2
     go_ret
     exact⟨_,rs,rfl,HO.o,hrb,HL.o,HV.o,hbel⟩
theorem Ur (a:Option Addr) (n cap:Nat) (zs:List Int) (w:aV) (hn:zs.length=n) (ha:At aP w a zs) (hz:Cb zs) :
  Calls Tryz.prog 90 #[aM a n cap] w λe w'=>e=aQ (.bool (decide (n=32/\val 256 zs<DZ)))/\Below w.heap.size w w':=by
 by_cases h:n=32
 ·subst h;go_enter func90,ntmps90;go_wp2_with fail;refine(O0 _).mono ?_;rintro e w6 ⟨v6,rfl,O6,B6⟩;obtain⟨g6,c6,rfl,hg6,hg6',A6⟩:=O6.at_;have A1:=ha.below B6;go_wp2_with fail;refine(Ku _ _ 32 _ _ zs lB _ hn rfl AK A1 A6 hz Oz).mono ?_;rintro e w7 ⟨v7,ds,rfl,O7,hdb,hdl,hdv,B7⟩;rw[Rj] at *;have B:=B6.trans (B7.mono B6.size);have HB:=CY <| B
  have e:(!decide (DZ<=val 256 zs))=decide (32=32/\val 256 zs<DZ):=by
   by_cases h:DZ<=val 256 zs
   ·have:¬ val 256 zs<DZ:=AJ
    simp[h,this]
   ·have:val 256 zs<DZ:=AJ
    simp[h,this]
  generalize decide (DZ<=val 256 zs)=q at *;have HE:=CY <| e
  clear e;clear B O7 A1 A6 hdv B6 B7 ha;go_wp2
  go_ret
  refine⟨?_,HB.o⟩;show aQ (.bool (!q))=_
  rw[HE.o]
 ·have e:decide (n=32/\val 256 zs<DZ)=false:=by simp[h]
  rw[e];have h':((n:Int) != 32)=true:=by simp;omega
  go_enter func90,ntmps90;go_wp2
  go_ret
  exact⟨rfl,A8 _ _⟩
end Go.Proofs.YtncomnkdlpoelaaGreatDoor
