import Derived.Test.YthmeoilbmfdhfaaGreatMSnS
import Derived.Test.YthmeoilbmfdhfaaGreatSnB
open Go.Value renaming slice->UD,int->UE,pointer->UM
open Go.IntKind renaming u32->UG,u8->UH
open Go.Obj renaming cells->UP
open Go.Ending renaming returned->UQ
open Go.Ground renaming data->UR
open Option renaming some->UI,none->UJ
open Go renaming World->UK,Value->UL
namespace Go.Proofs.YthmeoilbmfdhfaaGreat
set_option maxHeartbeats 8000000
set_option maxRecDepth 100000
open Go.ChangeShapes Go.WideShapes Go.ChangeAt Go.RowKit
set_option linter.unusedVariables false
def S6 (lo:Nat) (w:UK) (v:UL) (x y:Int):Prop:=∃ g fr,v=UD (UI ⟨g,0,UJ⟩) 2 2/\lo<=g/\w.heap[g]?=UI (UP #[UE UH x,UE UH y] 5 fr)
theorem S6.mono {lo:Nat} {w w':UK} {v:UL} {x y:Int} (h:S6 lo w v x y) (hm:DJ w w'):S6 lo w' v x y:=by
 obtain⟨g,fr,e,h1,h2⟩:=h;obtain⟨fr',h3⟩:=hm.block g _ _ _ h2;exact⟨g,fr',e,h1,h3⟩
def O1 (w:UK) (v:UL) (zss:List (List Int)):Prop:=∃ g vs,v=UD (UI ⟨g,0,UJ⟩) zss.length zss.length/\g<w.heap.size/\∀ i,i<zss.length->w.cell? ⟨g,i,UJ⟩=UI (List.getD vs i undef)/\Cy w (List.getD vs i undef) (zss.getD i [])
theorem O1.mono {w w':UK} {v:UL} {zss:List (List Int)} (h:O1 w v zss) (hm:DJ w w'):O1 w' v zss:=by
 obtain⟨g,vs,e,h1,h2⟩:=h;exact⟨g,vs,e,AG hm.size,λi hi=>⟨by rw[hm.cell ⟨g,i,UJ⟩ h1];exact(h2 i hi).1,(h2 i hi).2.mono hm⟩⟩
theorem O1.new (w:UK) (T:TypeId) (ps:List (UL×List Int)) (h:∀ p∈ps,Cy w p.1 p.2):O1 (w.alloc (UP (ps.map (·.1)).toArray T)) (UD (UI ⟨w.heap.size,0,UJ⟩) ps.length ps.length) (ps.map (·.2)):=by
 refine⟨w.heap.size,ps.map (·.1),AM,AM,λi hi=>?_⟩;have hi':i<ps.length:=by simpa using hi
 refine⟨by rw[AA (AV w _) _];simp[hi'],?_⟩;have:=(h ps[i] (Ba hi')).mono (DJ.of_below (Cv w (UP (ps.map (·.1)).toArray T)));simpa[hi'] using this
structure XM (w:UK) (sc:Array UL) (W w':UK):Prop where
 below:Below W.heap.size W w'
 mono:DJ W w'
 ww:Below w.heap.size w W
 bx:W.heap[w.heap.size]?=UI (UP sc 30 (0,0))
section
variable {w W w' w'':UK} {sc:Array UL}
theorem XM.all (h:XM w sc W w'):Below w.heap.size w w':=h.ww.trans (h.below.mono h.ww.size)
theorem XM.drew (h:XM w sc W w'):XM w sc W w'.drew:=⟨⟨h.below.os,h.below.tape,h.below.output,h.below.size,h.below.block⟩,⟨h.mono.size,h.mono.cell,h.mono.block⟩,h.ww,h.bx⟩
theorem XM.step (h:XM w sc W w') (hb:Below W.heap.size w' w'') (hm:DJ w' w''):XM w sc W w'':=
 ⟨h.below.trans hb,⟨BC h.mono.size hm.size,λa ha=>(hm.cell a (Ax ha h.mono.size)).trans (h.mono.cell a ha),λb cs t fr hh=>by obtain⟨fr',h1⟩:=h.mono.block b cs t fr hh;exact hm.block b cs t fr' h1⟩,h.ww,h.bx⟩
theorem XM.grow (h:XM w sc W w') (hb:Below w'.heap.size w' w''):XM w sc W w'':=h.step (hb.mono h.below.size) (DJ.of_below hb)
theorem XM.cellX (h:XM w sc W w') (i:Nat):w'.cell? ⟨w.heap.size,i,UJ⟩=sc[i]?:=by
 have hl:w.heap.size<W.heap.size:=(AQ.1 h.bx).1;rw[h.mono.cell ⟨w.heap.size,i,UJ⟩ hl,AA h.bx i]
end
theorem O2 {gn:Int} {D:List Int}:([four gn,[83,50],[0,0],Cz D 8 8,List.replicate 32 0]:List (List Int)).flatten.length=56:=by simp[four,FA]
theorem Gh {gn tl:Int} {D U:List Int} {nD:Nat}:(([([four gn,[83,49],[(nD:Int),0],four tl,DE U 32,Cz D 0 8,four gn]).flatten,([four gn,[83,50],[0,0],Cz D 8 8,List.replicate 32 0]:List (List Int)).flatten]:List (List Int)).flatten).length=120:=by simp[four,Fy,FA]
theorem NR (xs:List Int):Cu (DE xs 32):=λz hz=>by
 unfold DE at hz;obtain⟨i,_,rfl⟩:=List.mem_map.1 hz;have:=Oy xs i 8;exact⟨this.1,AG this.2⟩
theorem Hr (xs:List Int) (f k:Nat) (h:∀ z∈xs,0<=z/\z<256):Cu (Cz xs f k):=λz hz=>by
 unfold Cz at hz;obtain⟨l,hl,hz⟩:=List.mem_flatten.1 hz;obtain⟨i,_,rfl⟩:=List.mem_map.1 hl;unfold Fx at hz;split at hz
 ·rename_i hi
  simp only[List.mem_cons,List.not_mem_nil,or_false] at hz;rcases hz with rfl|rfl
  ·exact h _ (Iu hi)
  ·omega
 ·simp at hz;omega
theorem Cu.app {xs ys:List Int} (h1:Cu xs) (h2:Cu ys):Cu (xs++ys):=λz hz=>by
 rcases CV.1 hz with h|h
 ·exact h1 z h
 ·exact h2 z h
theorem Cu.nil:Cu []:=λz hz=>by simp at hz
theorem Hs {x y:Int} (h1:0<=x/\x<256) (h2:0<=y/\y<256):Cu [x,y]:=λz hz=>by
 simp at hz;rcases hz with rfl|rfl
 ·exact h1
 ·exact h2
theorem Je {gn tl:Int} {D U:List Int} {nD:Nat} (ug:D8 gn) (ut:D8 tl) (h:∀ z∈D,0<=z/\z<256) (hn:nD<=16):Cu (([([four gn,[83,49],[(nD:Int),0],four tl,DE U 32,Cz D 0 8,four gn]).flatten,([four gn,[83,50],[0,0],Cz D 8 8,List.replicate 32 0]:List (List Int)).flatten]:List (List Int)).flatten):=by
 have hz:Cu (List.replicate 32 0):=λz hz=>by simp at hz;omega
 simp only[List.flatten_cons,List.flatten_nil,List.append_nil];exact((Dl gn ug).app ((Hs AL AL).app ((Hs AK AL).app ((Dl tl ut).app ((NR U).app ((Hr D 0 8 h).app (Dl gn ug))))))).app ((Dl gn ug).app ((Hs AL AL).app ((Hs AL AL).app ((Hr D 8 8 h).app hz))))
theorem Gr {gn tl cr:Int} {D U:List Int} {nD:Nat}:(([([([four gn,[83,49],[(nD:Int),0],four tl,DE U 32,Cz D 0 8,four gn]).flatten,([four gn,[83,50],[0,0],Cz D 8 8,List.replicate 32 0]:List (List Int)).flatten]:List (List Int)).flatten,four cr,four gn]:List (List Int)).flatten).length=128:=by simp[four,Fy,FA]
theorem DQ {p:Prop} (h:p):AP p:=h
noncomputable def Gz (gn tl:Int) (D U:List Int):List Int:=([([([four gn,[83,49],[(D.length:Int),0],four tl,DE U 32,Cz D 0 8,four gn]).flatten,([four gn,[83,50],[0,0],Cz D 8 8,List.replicate 32 0]:List (List Int)).flatten]:List (List Int)).flatten,four (Gl (([([four gn,[83,49],[(D.length:Int),0],four tl,DE U 32,Cz D 0 8,four gn]).flatten,([four gn,[83,50],[0,0],Cz D 8 8,List.replicate 32 0]:List (List Int)).flatten]:List (List Int)).flatten)),four gn]:List (List Int)).flatten
theorem Lx {gn tl:Int} {D U:List Int} {nD:Nat} (h:D.length=nD):([four gn,[83,49],[(nD:Int),0],four tl,DE U 32,Cz D 0 8,four gn]).flatten.length=64:=by simp[four,Fy,FA]
theorem Kx (gn tl:Int) (aD aU:Option Addr) (nD cD nU cU:Nat) (D U:List Int) (w:UK) (hD:D.length=nD) (hU:U.length=nU) (mD:nD<=1048576) (mU:nU<=1048576) (haD:At .i64 w aD D) (haU:At .i64 w aU U) (ug:D8 gn) (ut:D8 tl) (hs:Jb gn tl D U) :
  Calls Tryz.prog 52 #[.agg #[UE UG gn,UE UG tl,UD aD nD cD,UD aU nU cU]] w λe w'=>∃ v,e=UQ v/\DT w' w.heap.size v (Gz gn tl D U)/\Below w.heap.size w w':=by
 have b0:Below w.heap.size w (w.alloc (UP #[UE UG gn,UE UG tl,UD aD nD cD,UD aU nU cU] 30)):=Cs.alloc Cw _;have HC:=MW gn tl aD aU nD cD nU cU D U (w.alloc (UP #[UE UG gn,UE UG tl,UD aD nD cD,UD aU nU cU] 30)) hD hU mD mU (haD.below b0) (haU.below b0);rw[Fi hs] at HC;have HO0:AP (OE w 30 #[UE UG gn,UE UG tl,UD aD nD cD,UD aU nU cU] (w.alloc (UP #[UE UG gn,UE UG tl,UD aD nD cD,UD aU nU cU] 30))):=OE.start _ _ _;have HA:AP (At .i64 w aD D/\At .i64 w aU U):=⟨haD,haU⟩
 have HL:AP (D.length=nD/\U.length=nU):=⟨hD,hU⟩
 have HU:AP (D8 gn/\D8 tl):=⟨ug,ut⟩
 have HDR:AP (∀ z∈D,0<=z/\z<256):=λz hz=>by
  obtain⟨i,hi,rfl⟩:=CP hz;have:=hs.2.2.2.1 i hi;unfold QL at this;rw[show D.getD i 0=D[i] by simp[List.getD,hi]] at this;exact⟨this.1,this.2.1⟩
 have hn16:nD<=16:=AG hs.2.2.2.2.1
 have hnd:(nD:Int)%256=nD:=AK
 clear haD haU hD hU b0 hs ug ut;go_enter Tryz.func52,Tryz.ntmps52;go_wp2_with fail;generalize (w.alloc (UP #[UE UG gn,UE UG tl,UD aD nD cD,UD aU nU cU] 30))=w0 at *;refine HC.mono ?_;rintro e w1 ⟨rfl,hb1⟩;have HO1:AP (OE w 30 #[UE UG gn,UE UG tl,UD aD nD cD,UD aU nU cU] w1):=HO0.o.call hb1;have x0:w1.cell? ⟨w.heap.size,0,UJ⟩=UI (UE UG gn):=by rw[AA HO1.o.b0 0];rfl
 clear HC HO0 hb1;go_wp2_with fail;refine(E8 gn _ HU.o.1).mono ?_;rintro e w2 ⟨rfl,hw2⟩;have HO2:AP (OE w 30 #[UE UG gn,UE UG tl,UD aD nD cD,UD aU nU cU] w2):=by show OE _ _ _ _;rw[hw2];exact HO1.o.call (Cv w1 _)
 have HGP:AP (Cy w2 (UD (UI ⟨w1.heap.size,0,UJ⟩) 4 4) (four gn)):=by show Cy _ _ _;rw[hw2];exact ED w1 #[UE UH (gn%256),UE UH (gn/256%256),UE UH (gn/65536%256),UE UH (gn/16777216)] (four gn) _ rfl _ rfl _
 have HXM:AP (XM w #[UE UG gn,UE UG tl,UD aD nD cD,UD aU nU cU] w2 w2):=⟨Ad _ _,DJ.refl _,HO2.o.below,HO2.o.b0⟩
 clear x0 hw2 HO1;generalize w1.heap.size=G at *;go_wp2_with fail;refine Ae AN ?_;refine C3 (λ_ a b=>DJ a b) (frame:=(λ(a b c d e f g h i j k l m n o p q r s u v w x y z A B C D E F G H I:UL)=>λ(t:Nat->UL)=>({ tmps:=List.toArray [a,b,c,d,t 20,e,f,g,h,i,j,k,l,m,t 0,t 1,t 2,t 3,t 4,t 5,t 6,t 7,t 8,t 9,t 10,t 11,t 12,t 13,t 14,t 15,t 16,t 17,t 18,t 19,n,o,p,q,r,s,u,v,w,x,y,z,A,B,C,D,E,F,G,H,I],defers:=[] }:Act)) _ _ _ _ _ _ _ _ _ _ _ _ _ _ _ _ _ _ _ _ _ _ _ _ _ _ _ _ _ _ _ _ _ _)
  (Ext:=λL u w'=>XM w #[UE UG gn,UE UG tl,UD aD nD cD,UD aU nU cU] w2 w') (Good:=λi L w' v=>if i=0 then v=UD (UI ⟨G,0,UJ⟩) 4 4 else if i=1 then S6 w2.heap.size w' v 83 49 else if i=2 then Cy w' v [83,49] else if i=3 then v=UM (UI ⟨w.heap.size,2,UJ⟩) else if i=4 then v=UD aD nD cD else if i=5 then v=UE .i64 nD else if i=6 then v=UE UH (nD:Int) else if i=7 then Cy w' v [(nD:Int),0] else if i=8 then v=UM (UI ⟨w.heap.size,1,UJ⟩) else if i=9 then v=UE UG tl else if i=10 then Cy w' v (four tl) else if i=11 then v=UM (UI ⟨w.heap.size,3,UJ⟩) else if i=12 then v=UD aU nU cU else if i=13 then Cy w' v (DE U 32) else if i=14 then v=UM (UI ⟨w.heap.size,2,UJ⟩) else if i=15 then v=UD aD nD cD else if i=16 then Cy w' v (Cz D 0 8) else if i=17 then v=UD (UI ⟨G,0,UJ⟩) 4 4 else if i=18 then O1 w' v [four gn,[83,49],[(nD:Int),0],four tl,DE U 32,Cz D 0 8,four gn] else if i=19 then Cy w' v ([four gn,[83,49],[(nD:Int),0],four tl,DE U 32,Cz D 0 8,four gn]).flatten else if i=20 then Cy w' v ([four gn,[83,49],[(nD:Int),0],four tl,DE U 32,Cz D 0 8,four gn]).flatten else True) ?hstab AN ?hop ?hdone _ _ ((λ(x0 x1 x2 x3 x4 x5 x6 x7 x8 x9 x10 x11 x12 x13 x14 x15 x16 x17 x18 x19 x20:UL)=>λ(i:Nat)=>if i=0 then x0 else if i=1 then x1 else if i=2 then x2 else if i=3 then x3 else if i=4 then x4 else if i=5 then x5 else if i=6 then x6 else if i=7 then x7 else if i=8 then x8 else if i=9 then x9 else if i=10 then x10 else if i=11 then x11 else if i=12 then x12 else if i=13 then x13 else if i=14 then x14 else if i=15 then x15 else if i=16 then x16 else if i=17 then x17 else if i=18 then x18 else if i=19 then x19 else if i=20 then x20 else undef) _ _ _ _ _ _ _ _ _ _ _ _ _ _ _ _ _ _ _ _ _) _ AM ?ext ?start AM
 case start=>intro i hi h;exact absurd h E0
 case ext=>exact HXM.o.drew
 case hstab=>
  intro j L w9 w' i v hM _ _ h;by_cases h1:j=1
  ·subst h1;simp at h |-;exact h.mono hM
  by_cases h2:j=2
  ·subst h2;simp at h |-;exact h.mono hM
  by_cases h7:j=7
  ·subst h7;simp at h |-;exact h.mono hM
  by_cases h10:j=10
  ·subst h10;simp at h |-;exact h.mono hM
  by_cases h13:j=13
  ·subst h13;simp at h |-;exact h.mono hM
  by_cases h16:j=16
  ·subst h16;simp at h |-;exact h.mono hM
  by_cases h18:j=18
  ·subst h18;simp at h |-;exact h.mono hM
  by_cases h19:j=19
  ·subst h19;simp at h |-;exact h.mono hM
  by_cases h20:j=20
  ·subst h20;simp at h |-;exact h.mono hM
  simp only[if_neg h1,if_neg h2,if_neg h7,if_neg h10,if_neg h13,if_neg h16,if_neg h18,if_neg h19,if_neg h20] at h |-;exact h
 case hop=>
  intro i o L t w' ho hLi hx hdep K hK;have hi:i<21:=(AQ.1 ho).1;obtain rfl|rfl|rfl|rfl|rfl|rfl|rfl|rfl|rfl|rfl|rfl|rfl|rfl|rfl|rfl|rfl|rfl|rfl|rfl|rfl|rfl:i=0\/i=1\/i=2\/i=3\/i=4\/i=5\/i=6\/i=7\/i=8\/i=9\/i=10\/i=11\/i=12\/i=13\/i=14\/i=15\/i=16\/i=17\/i=18\/i=19\/i=20:=AK
  all_goals(simp at ho;subst ho)
  ·clear hdep;have hK':=hK w' (UD (UI ⟨G,0,UJ⟩) 4 4) AM hx (DJ.refl _);clear hK;rw[AR AO];go_simp;simpa[Cr] using hK'
  ·clear hdep;have bb:=Cv w' (UP #[UE UH 83,UE UH 49] 5);have hK':=hK (w'.alloc (UP #[UE UH 83,UE UH 49] 5)) (UD (UI ⟨w'.heap.size,0,UJ⟩) 2 2) (by simpa using⟨w'.heap.size,(0,0),rfl,hx.below.size,AV w' _⟩) (hx.grow bb) (DJ.of_below bb);clear hK bb;rw[AR AO];go_simp;simpa[Cr] using hK'
  ·have f1:S6 w2.heap.size w' (t 1) 83 49:=by simpa using(hdep ⟨1,UR⟩ AM rfl).2
   clear hdep;obtain⟨g,fr,d1,hBg,hh⟩:=f1;have hcv:=En w' g _ 2 2 fr hh;have hm:=Ge w' g 2;have hgl:g<w'.heap.size:=(AQ.1 hh).1;have hp:Cy w' (UD (UI ⟨g,0,UJ⟩) 2 2) [83,49]:=⟨g,0,2,rfl,hgl,λi hi=>by
    rw[Bg _ _ (0+i) _ _ fr hh];have:i=0\/i=1:=by simp at hi;omega
    rcases this with rfl|rfl<;>rfl⟩
   have hK':=hK (w'.freeze ⟨g,2,UJ⟩ 1) (UD (UI ⟨g,0,UJ⟩) 2 2) (by simpa using hp.mono hm) (hx.step (GB w' g 2 _ AK) hm) hm;clear hK hp hm;rw[AR AO];go_simp;simpa[Cr,d1] using hK'
  ·clear hdep;have hK':=hK w' (UM (UI ⟨w.heap.size,2,UJ⟩)) AM hx (DJ.refl _);clear hK;rw[AR AO];go_simp;simpa[Cr] using hK'
  ·have d3:t 3=UM (UI ⟨w.heap.size,2,UJ⟩):=by simpa using(hdep ⟨3,UR⟩ AM rfl).2
   clear hdep;have cc:w'.cell? ⟨w.heap.size,2,UJ⟩=UI (UD aD nD cD):=by rw[hx.cellX 2];rfl
   have hK':=hK w' (UD aD nD cD) AM hx (DJ.refl _);clear hK;rw[AR AO];go_simp;simpa[Cr,d3] using hK'
  ·have d4:t 4=UD aD nD cD:=by simpa using(hdep ⟨4,UR⟩ AM rfl).2
   clear hdep;have hK':=hK w' (UE .i64 nD) AM hx (DJ.refl _);clear hK;rw[AR AO];go_simp;simpa[Cr,d4] using hK'
  ·have d5:t 5=UE .i64 nD:=by simpa using(hdep ⟨5,UR⟩ AM rfl).2
   clear hdep;have hK':=hK w' (UE UH (nD:Int)) AM hx (DJ.refl _);clear hK;rw[AR AO];go_simp;simpa[Cr,d5,IntKind.wrap_u8,hnd] using hK'
  ·have d6:t 6=UE UH (nD:Int):=by simpa using(hdep ⟨6,UR⟩ AM rfl).2
   clear hdep;have bb:=Cv w' (UP #[UE UH (nD:Int),UE UH 0] 5);have hK':=hK (w'.alloc (UP #[UE UH (nD:Int),UE UH 0] 5)) (UD (UI ⟨w'.heap.size,0,UJ⟩) 2 2) (by simpa using ED w' #[UE UH (nD:Int),UE UH 0] [(nD:Int),0] 5 rfl 2 rfl 2) (hx.grow bb) (DJ.of_below bb);clear hK bb;rw[AR AO];go_simp;simpa[Cr,d6] using hK'
  ·clear hdep;have hK':=hK w' (UM (UI ⟨w.heap.size,1,UJ⟩)) AM hx (DJ.refl _);clear hK;rw[AR AO];go_simp;simpa[Cr] using hK'
  ·have d8:t 8=UM (UI ⟨w.heap.size,1,UJ⟩):=by simpa using(hdep ⟨8,UR⟩ AM rfl).2
   clear hdep;have cc:w'.cell? ⟨w.heap.size,1,UJ⟩=UI (UE UG tl):=by rw[hx.cellX 1];rfl
   have hK':=hK w' (UE UG tl) AM hx (DJ.refl _);clear hK;rw[AR AO];go_simp;simpa[Cr,d8] using hK'
  ·have d9:t 9=UE UG tl:=by simpa using(hdep ⟨9,UR⟩ AM rfl).2
   clear hdep;have A:=E8 tl w' HU.o.2;have hK':∀ ww v,Cy ww v (four tl)->Below w'.heap.size w' ww->K _ ww:=λww v hv hb=>hK ww v (by simpa using hv) (hx.grow hb) (DJ.of_below hb)
   clear hK;rw[AR AO];go_simp;try simp only[d9]
   refine A.mono ?_;rintro e w9 ⟨rfl,rfl⟩;have hK2:=hK' (w'.alloc (UP #[UE UH (tl%256),UE UH (tl/256%256),UE UH (tl/65536%256),UE UH (tl/16777216)] 5)) (UD (UI ⟨w'.heap.size,0,UJ⟩) 4 4) (ED w' #[UE UH (tl%256),UE UH (tl/256%256),UE UH (tl/65536%256),UE UH (tl/16777216)] (four tl) 5 rfl 4 rfl 4) (Cv w' (UP #[UE UH (tl%256),UE UH (tl/256%256),UE UH (tl/65536%256),UE UH (tl/16777216)] 5));clear hK' A;go_simp;simpa[Cr,d9] using hK2
  ·clear hdep;have hK':=hK w' (UM (UI ⟨w.heap.size,3,UJ⟩)) AM hx (DJ.refl _);clear hK;rw[AR AO];go_simp;simpa[Cr] using hK'
  ·have d11:t 11=UM (UI ⟨w.heap.size,3,UJ⟩):=by simpa using(hdep ⟨11,UR⟩ AM rfl).2
   clear hdep;have cc:w'.cell? ⟨w.heap.size,3,UJ⟩=UI (UD aU nU cU):=by rw[hx.cellX 3];rfl
   have hK':=hK w' (UD aU nU cU) AM hx (DJ.refl _);clear hK;rw[AR AO];go_simp;simpa[Cr,d11] using hK'
  ·have d12:t 12=UD aU nU cU:=by simpa using(hdep ⟨12,UR⟩ AM rfl).2
   clear hdep;have A:=Oz aU nU cU U w' HL.o.2 mU (HA.o.2.below hx.all);have hK':∀ ww v,Cy ww v (DE U 32)->Below w'.heap.size w' ww->K _ ww:=λww v hv hb=>hK ww v (by simpa using hv) (hx.grow hb) (DJ.of_below hb)
   clear hK;rw[AR AO];go_simp;try simp only[d12]
   refine A.mono ?_;rintro e w9 ⟨v9,rfl,ho9,hb9⟩;have hK2:=hK' _ _ ho9.part hb9;clear hK' A;go_simp;simpa[Cr,d12] using hK2
  ·clear hdep;have hK':=hK w' (UM (UI ⟨w.heap.size,2,UJ⟩)) AM hx (DJ.refl _);clear hK;rw[AR AO];go_simp;simpa[Cr] using hK'
  ·have d14:t 14=UM (UI ⟨w.heap.size,2,UJ⟩):=by simpa using(hdep ⟨14,UR⟩ AM rfl).2
   clear hdep;have cc:w'.cell? ⟨w.heap.size,2,UJ⟩=UI (UD aD nD cD):=by rw[hx.cellX 2];rfl
   have hK':=hK w' (UD aD nD cD) AM hx (DJ.refl _);clear hK;rw[AR AO];go_simp;simpa[Cr,d14] using hK'
  ·have d15:t 15=UD aD nD cD:=by simpa using(hdep ⟨15,UR⟩ AM rfl).2
   clear hdep;have A:=MX aD nD cD D 0 8 w' HL.o.1 mD (HA.o.1.below hx.all) HDR.o AL;have hK':∀ ww v,Cy ww v (Cz D 0 8)->Below w'.heap.size w' ww->K _ ww:=λww v hv hb=>hK ww v (by simpa using hv) (hx.grow hb) (DJ.of_below hb)
   clear hK;rw[AR AO];go_simp;try simp only[d15]
   refine A.mono ?_;rintro e w9 ⟨v9,rfl,ho9,hb9⟩;have hK2:=hK' _ _ ho9.part hb9;clear hK' A;go_simp;simpa[Cr,d15] using hK2
  ·clear hdep;have hK':=hK w' (UD (UI ⟨G,0,UJ⟩) 4 4) AM hx (DJ.refl _);clear hK;rw[AR AO];go_simp;simpa[Cr] using hK'
  ·have d0:t 0=UD (UI ⟨G,0,UJ⟩) 4 4:=by simpa using(hdep ⟨0,UR⟩ AM rfl).2
   have f2:Cy w' (t 2) [83,49]:=by simpa using(hdep ⟨2,UR⟩ AM rfl).2
   have f7:Cy w' (t 7) [(nD:Int),0]:=by simpa using(hdep ⟨7,UR⟩ AM rfl).2
   have f10:Cy w' (t 10) (four tl):=by simpa using(hdep ⟨10,UR⟩ AM rfl).2
   have f13:Cy w' (t 13) (DE U 32):=by simpa using(hdep ⟨13,UR⟩ AM rfl).2
   have f16:Cy w' (t 16) (Cz D 0 8):=by simpa using(hdep ⟨16,UR⟩ AM rfl).2
   have d17:t 17=UD (UI ⟨G,0,UJ⟩) 4 4:=by simpa using(hdep ⟨17,UR⟩ AM rfl).2
   clear hdep;have p0:Cy w' (UD (UI ⟨G,0,UJ⟩) 4 4) (four gn):=HGP.o.mono hx.mono;have q:=O1.new w' 22 [(UD (UI ⟨G,0,UJ⟩) 4 4,four gn),(t 2,[83,49]),(t 7,[(nD:Int),0]),(t 10,four tl),(t 13,DE U 32),(t 16,Cz D 0 8),(UD (UI ⟨G,0,UJ⟩) 4 4,four gn)] (by
    intro p hp;simp at hp;rcases hp with rfl|rfl|rfl|rfl|rfl|rfl|rfl
    ·exact p0
    ·exact f2
    ·exact f7
    ·exact f10
    ·exact f13
    ·exact f16
    ·exact p0)
   obtain⟨b2,o2,c2,e2,_⟩:=f2;obtain⟨b7,o7,c7,e7,_⟩:=f7;obtain⟨b10,o10,c10,e10,_⟩:=f10;obtain⟨b13,o13,c13,e13,_⟩:=f13;obtain⟨b16,o16,c16,e16,_⟩:=f16;have bb:=Cv w' (UP #[UD (UI ⟨G,0,UJ⟩) 4 4,t 2,t 7,t 10,t 13,t 16,UD (UI ⟨G,0,UJ⟩) 4 4] 22);have hK':=hK (w'.alloc (UP #[UD (UI ⟨G,0,UJ⟩) 4 4,t 2,t 7,t 10,t 13,t 16,UD (UI ⟨G,0,UJ⟩) 4 4] 22)) (UD (UI ⟨w'.heap.size,0,UJ⟩) 7 7) (by simpa using q) (hx.grow bb) (DJ.of_below bb);clear hK bb p0 q;rw[AR AO];go_simp;simpa[Cr,d0,d17,e2,e7,e10,e13,e16] using hK'
  ·have f18:O1 w' (t 18) [four gn,[83,49],[(nD:Int),0],four tl,DE U 32,Cz D 0 8,four gn]:=by simpa using(hdep ⟨18,UR⟩ AM rfl).2
   clear hdep;obtain⟨g,vs,d18,hg,hc⟩:=f18;have A:=F4 g 7 7 vs [four gn,[83,49],[(nD:Int),0],four tl,DE U 32,Cz D 0 8,four gn] w' rfl hg (λi hi=>(hc i (by simpa using hi)).1) (λi hi=>(hc i (by simpa using hi)).2) (by rw[Lx HL.o.1];decide) AL;have hK':∀ ww v,Cy ww v ([four gn,[83,49],[(nD:Int),0],four tl,DE U 32,Cz D 0 8,four gn]).flatten->Below w'.heap.size w' ww->K _ ww:=λww v hv hb=>hK ww v (by simpa using hv) (hx.grow hb) (DJ.of_below hb)
   clear hK hc;rw[AR AO];go_simp;try simp only[d18]
   refine A.mono ?_;rintro e w9 ⟨v9,rfl,ho9,hb9⟩;have hK2:=hK' w9 v9 ho9.part hb9;clear hK' A;go_simp;simpa[Cr,d18] using hK2
  ·have f19:Cy w' (t 19) ([four gn,[83,49],[(nD:Int),0],four tl,DE U 32,Cz D 0 8,four gn]).flatten:=by simpa using(hdep ⟨19,UR⟩ AM rfl).2
   clear hdep;have hK':=hK w' (t 19) (by simpa using f19) hx (DJ.refl _);clear hK;rw[AR AO];go_simp;simpa[Cr] using hK'
 case hdone=>
  intro L t wA hx hg;have f20:Cy wA (t 20) ([four gn,[83,49],[(nD:Int),0],four tl,DE U 32,Cz D 0 8,four gn]).flatten:=by simpa using hg 20 AL
  clear hg;obtain⟨b1,o1,c1,e1,hl1,hc1⟩:=f20;have P1A:Cy wA (t 20) ([four gn,[83,49],[(nD:Int),0],four tl,DE U 32,Cz D 0 8,four gn]).flatten:=⟨b1,o1,c1,e1,hl1,hc1⟩
  rw[e1] at P1A;generalize hv1:UD (UI ⟨b1,o1,UJ⟩) ([four gn,[83,49],[(nD:Int),0],four tl,DE U 32,Cz D 0 8,four gn]).flatten.length c1=v1 at P1A e1;have e1':t 20=UD (UI ⟨b1,o1,UJ⟩) 64 c1:=by rw[e1,<-hv1,Lx HL.o.1]
  have P1:AP (Cy wA (UD (UI ⟨b1,o1,UJ⟩) 64 c1) ([four gn,[83,49],[(nD:Int),0],four tl,DE U 32,Cz D 0 8,four gn]).flatten):=by show Cy _ _ _;rw[<-Lx (gn:=gn) (tl:=tl) (U:=U) HL.o.1,hv1];exact P1A
  simp only[e1'];clear e1 e1' hv1 P1A hl1 hc1;have hh1:=AV wA (UP #[UE UH 83,UE UH 50] 5);have hcv:(convert 22 22 (UD (UI ⟨wA.heap.size,0,UJ⟩) 2 2)).run Tryz.prog (wA.alloc (UP #[UE UH 83,UE UH 50] 5))=.ok (UD (UI ⟨wA.heap.size,0,UJ⟩) 2 2) ((wA.alloc (UP #[UE UH 83,UE UH 50] 5)).freeze ⟨wA.heap.size,2,UJ⟩ 1):=En (wA.alloc (UP #[UE UH 83,UE UH 50] 5)) wA.heap.size _ 2 2 (0,0) hh1;have hfs:((wA.alloc (UP #[UE UH 83,UE UH 50] 5)).freeze ⟨wA.heap.size,2,UJ⟩ 1).heap.size=wA.heap.size+1:=by rw[Gc];simp
  have bA1:=Cv wA (UP #[UE UH 83,UE UH 50] 5);have hmF:=Ge (wA.alloc (UP #[UE UH 83,UE UH 50] 5)) wA.heap.size 2;have bB:=Cv ((wA.alloc (UP #[UE UH 83,UE UH 50] 5)).freeze ⟨wA.heap.size,2,UJ⟩ 1) (UP #[UE UH 0,UE UH 0] 5);have HXB:AP (XM w #[UE UG gn,UE UG tl,UD aD nD cD,UD aU nU cU] w2 (((wA.alloc (UP #[UE UH 83,UE UH 50] 5)).freeze ⟨wA.heap.size,2,UJ⟩ 1).alloc (UP #[UE UH 0,UE UH 0] 5))):=((hx.grow bA1).step (GB (wA.alloc (UP #[UE UH 83,UE UH 50] 5)) wA.heap.size 2 _ hx.below.size) hmF).grow bB;have HPB:AP (Cy (((wA.alloc (UP #[UE UH 83,UE UH 50] 5)).freeze ⟨wA.heap.size,2,UJ⟩ 1).alloc (UP #[UE UH 0,UE UH 0] 5)) (UD (UI ⟨b1,o1,UJ⟩) 64 c1) ([four gn,[83,49],[(nD:Int),0],four tl,DE U 32,Cz D 0 8,four gn]).flatten/\Cy (((wA.alloc (UP #[UE UH 83,UE UH 50] 5)).freeze ⟨wA.heap.size,2,UJ⟩ 1).alloc (UP #[UE UH 0,UE UH 0] 5)) (UD (UI ⟨wA.heap.size,0,UJ⟩) 2 2) [83,50]/\Cy (((wA.alloc (UP #[UE UH 83,UE UH 50] 5)).freeze ⟨wA.heap.size,2,UJ⟩ 1).alloc (UP #[UE UH 0,UE UH 0] 5)) (UD (UI ⟨wA.heap.size+1,0,UJ⟩) 2 2) [0,0]/\Cy (((wA.alloc (UP #[UE UH 83,UE UH 50] 5)).freeze ⟨wA.heap.size,2,UJ⟩ 1).alloc (UP #[UE UH 0,UE UH 0] 5)) (UD (UI ⟨G,0,UJ⟩) 4 4) (four gn)):=
   ⟨((P1.o.mono (DJ.of_below bA1)).mono hmF).mono (DJ.of_below bB),((ED wA #[UE UH 83,UE UH 50] [83,50] 5 rfl 2 rfl 2).mono hmF).mono (DJ.of_below bB),hfs ▸ ED ((wA.alloc (UP #[UE UH 83,UE UH 50] 5)).freeze ⟨wA.heap.size,2,UJ⟩ 1) #[UE UH 0,UE UH 0] [0,0] 5 rfl 2 rfl 2,HGP.o.mono HXB.o.mono⟩
  have zc:(((wA.alloc (UP #[UE UH 83,UE UH 50] 5)).freeze ⟨wA.heap.size,2,UJ⟩ 1).alloc (UP #[UE UH 0,UE UH 0] 5)).cell? ⟨w.heap.size,2,UJ⟩=UI (UD aD nD cD):=by rw[HXB.o.cellX 2];rfl
  clear bA1 hmF bB hx hh1 P1;go_wp2_with fail;clear hcv hfs zc;generalize (((wA.alloc (UP #[UE UH 83,UE UH 50] 5)).freeze ⟨wA.heap.size,2,UJ⟩ 1).alloc (UP #[UE UH 0,UE UH 0] 5))=wB at *;generalize wA.heap.size=q0 at *;refine(MX aD nD cD D 8 8 wB HL.o.1 mD (HA.o.1.below HXB.o.all) HDR.o AL).mono ?_;rintro e wC ⟨v4,rfl,ho4,hb4⟩;obtain⟨b4,o4,c4,e4,_⟩:=ho4.part;rw[FA] at e4;have P4:Cy wC (UD (UI ⟨b4,o4,UJ⟩) 16 c4) (Cz D 8 8):=by rw[<-e4];exact ho4.part
  subst e4;have HXC:AP (XM w #[UE UG gn,UE UG tl,UD aD nD cD,UD aU nU cU] w2 wC):=HXB.o.grow hb4;have HPC:AP (Cy wC (UD (UI ⟨b1,o1,UJ⟩) 64 c1) ([four gn,[83,49],[(nD:Int),0],four tl,DE U 32,Cz D 0 8,four gn]).flatten/\Cy wC (UD (UI ⟨q0,0,UJ⟩) 2 2) [83,50]/\Cy wC (UD (UI ⟨q0+1,0,UJ⟩) 2 2) [0,0]/\Cy wC (UD (UI ⟨G,0,UJ⟩) 4 4) (four gn)/\Cy wC (UD (UI ⟨b4,o4,UJ⟩) 16 c4) (Cz D 8 8)):=⟨HPB.o.1.below hb4,HPB.o.2.1.below hb4,HPB.o.2.2.1.below hb4,HPB.o.2.2.2.below hb4,P4⟩
  clear ho4 hb4 P4 HPB HXB;go_wp2_with fail;refine(JO 32 wC AL AL).mono ?_;rintro e wD ⟨v5,rfl,ho5,hb5⟩;have HXD:AP (XM w #[UE UG gn,UE UG tl,UD aD nD cD,UD aU nU cU] w2 wD):=HXC.o.grow hb5;obtain⟨b5,o5,c5,e5,_⟩:=ho5.part;rw[List.length_replicate,show(32:Int).toNat=32 from rfl] at e5;have P5:Cy wD (UD (UI ⟨b5,o5,UJ⟩) 32 c5) (List.replicate 32 0):=by rw[<-e5];exact ho5.part
  subst e5;have HPD:AP (Cy wD (UD (UI ⟨b1,o1,UJ⟩) 64 c1) (([four gn,[83,49],[(nD:Int),0],four tl,DE U 32,Cz D 0 8,four gn]).flatten)/\Cy wD (UD (UI ⟨q0,0,UJ⟩) 2 2) ([83,50])/\Cy wD (UD (UI ⟨q0+1,0,UJ⟩) 2 2) ([0,0])/\Cy wD (UD (UI ⟨G,0,UJ⟩) 4 4) (four gn)/\Cy wD (UD (UI ⟨b4,o4,UJ⟩) 16 c4) (Cz D 8 8)/\Cy wD (UD (UI ⟨b5,o5,UJ⟩) 32 c5) (List.replicate 32 0)):=⟨HPC.o.1.below hb5,HPC.o.2.1.below hb5,HPC.o.2.2.1.below hb5,HPC.o.2.2.2.1.below hb5,HPC.o.2.2.2.2.below hb5,P5⟩
  clear ho5 hb5 P5 HXC HPC;have AE:Calls Tryz.prog 70 #[UD (UI ⟨wD.heap.size,0,UJ⟩) 5 5] (wD.alloc (UP #[UD (UI ⟨G,0,UJ⟩) 4 4,UD (UI ⟨q0,0,UJ⟩) 2 2,UD (UI ⟨q0+1,0,UJ⟩) 2 2,UD (UI ⟨b4,o4,UJ⟩) 16 c4,UD (UI ⟨b5,o5,UJ⟩) 32 c5] 22)) λe w'=>∃ v,e=UQ v/\DT w' (wD.alloc (UP #[UD (UI ⟨G,0,UJ⟩) 4 4,UD (UI ⟨q0,0,UJ⟩) 2 2,UD (UI ⟨q0+1,0,UJ⟩) 2 2,UD (UI ⟨b4,o4,UJ⟩) 16 c4,UD (UI ⟨b5,o5,UJ⟩) 32 c5] 22)).heap.size v ([four gn,[83,50],[0,0],Cz D 8 8,List.replicate 32 0]:List (List Int)).flatten/\Below (wD.alloc (UP #[UD (UI ⟨G,0,UJ⟩) 4 4,UD (UI ⟨q0,0,UJ⟩) 2 2,UD (UI ⟨q0+1,0,UJ⟩) 2 2,UD (UI ⟨b4,o4,UJ⟩) 16 c4,UD (UI ⟨b5,o5,UJ⟩) 32 c5] 22)).heap.size (wD.alloc (UP #[UD (UI ⟨G,0,UJ⟩) 4 4,UD (UI ⟨q0,0,UJ⟩) 2 2,UD (UI ⟨q0+1,0,UJ⟩) 2 2,UD (UI ⟨b4,o4,UJ⟩) 16 c4,UD (UI ⟨b5,o5,UJ⟩) 32 c5] 22)) w':=by
   have q:=O1.new wD 22 [(UD (UI ⟨G,0,UJ⟩) 4 4,four gn),(UD (UI ⟨q0,0,UJ⟩) 2 2,[83,50]),(UD (UI ⟨q0+1,0,UJ⟩) 2 2,[0,0]),(UD (UI ⟨b4,o4,UJ⟩) 16 c4,Cz D 8 8),(UD (UI ⟨b5,o5,UJ⟩) 32 c5,List.replicate 32 0)] (by
    intro p hp;simp only[List.mem_cons,List.not_mem_nil,or_false] at hp;rcases hp with rfl|rfl|rfl|rfl|rfl
    ·exact HPD.o.2.2.2.1
    ·exact HPD.o.2.1
    ·exact HPD.o.2.2.1
    ·exact HPD.o.2.2.2.2.1
    ·exact HPD.o.2.2.2.2.2)
   obtain⟨g,vs,d,hg,hc⟩:=q;simp only[Value.slice.injEq,Option.some.injEq,Addr.mk.injEq] at d;obtain⟨⟨d,_⟩,_⟩:=d;subst d;exact F4 _ 5 5 vs [four gn,[83,50],[0,0],Cz D 8 8,List.replicate 32 0] _ rfl hg (λi hi=>(hc i (by simpa using hi)).1) (λi hi=>(hc i (by simpa using hi)).2) (by rw[O2];decide) AL
  have bb:=DQ (Cv wD (UP #[UD (UI ⟨G,0,UJ⟩) 4 4,UD (UI ⟨q0,0,UJ⟩) 2 2,UD (UI ⟨q0+1,0,UJ⟩) 2 2,UD (UI ⟨b4,o4,UJ⟩) 16 c4,UD (UI ⟨b5,o5,UJ⟩) 32 c5] 22));have AE:=DQ AE;go_wp2_with fail;have bb:=bb.o;refine AE.o.mono ?_;rintro e wE ⟨v6,rfl,ho6,hb6⟩;have hbb:Below wD.heap.size wD wE:=bb.trans (hb6.mono bb.size);have HXE:AP (XM w #[UE UG gn,UE UG tl,UD aD nD cD,UD aU nU cU] w2 wE):=HXD.o.grow hbb;obtain⟨b6,o6,c6,e6,_⟩:=ho6.part;rw[O2] at e6;have P6:Cy wE (UD (UI ⟨b6,o6,UJ⟩) 56 c6) (([four gn,[83,50],[0,0],Cz D 8 8,List.replicate 32 0]:List (List Int)).flatten):=by rw[<-e6];exact ho6.part
  subst e6;have HPE:AP (Cy wE (UD (UI ⟨b1,o1,UJ⟩) 64 c1) (([four gn,[83,49],[(nD:Int),0],four tl,DE U 32,Cz D 0 8,four gn]).flatten)/\Cy wE (UD (UI ⟨q0,0,UJ⟩) 2 2) ([83,50])/\Cy wE (UD (UI ⟨q0+1,0,UJ⟩) 2 2) ([0,0])/\Cy wE (UD (UI ⟨G,0,UJ⟩) 4 4) (four gn)/\Cy wE (UD (UI ⟨b4,o4,UJ⟩) 16 c4) (Cz D 8 8)/\Cy wE (UD (UI ⟨b5,o5,UJ⟩) 32 c5) (List.replicate 32 0)/\Cy wE (UD (UI ⟨b6,o6,UJ⟩) 56 c6) (([four gn,[83,50],[0,0],Cz D 8 8,List.replicate 32 0]:List (List Int)).flatten)):=⟨HPD.o.1.below hbb,HPD.o.2.1.below hbb,HPD.o.2.2.1.below hbb,HPD.o.2.2.2.1.below hbb,HPD.o.2.2.2.2.1.below hbb,HPD.o.2.2.2.2.2.below hbb,P6⟩
  clear ho6 hb6 bb hbb P6 AE HXD HPD;have AF:Calls Tryz.prog 70 #[UD (UI ⟨wE.heap.size,0,UJ⟩) 2 2] (wE.alloc (UP #[UD (UI ⟨b1,o1,UJ⟩) 64 c1,UD (UI ⟨b6,o6,UJ⟩) 56 c6] 22)) λe w'=>∃ v,e=UQ v/\DT w' (wE.alloc (UP #[UD (UI ⟨b1,o1,UJ⟩) 64 c1,UD (UI ⟨b6,o6,UJ⟩) 56 c6] 22)).heap.size v ([([four gn,[83,49],[(nD:Int),0],four tl,DE U 32,Cz D 0 8,four gn]).flatten,([four gn,[83,50],[0,0],Cz D 8 8,List.replicate 32 0]:List (List Int)).flatten]:List (List Int)).flatten/\Below (wE.alloc (UP #[UD (UI ⟨b1,o1,UJ⟩) 64 c1,UD (UI ⟨b6,o6,UJ⟩) 56 c6] 22)).heap.size (wE.alloc (UP #[UD (UI ⟨b1,o1,UJ⟩) 64 c1,UD (UI ⟨b6,o6,UJ⟩) 56 c6] 22)) w':=by
   have q:=O1.new wE 22 [(UD (UI ⟨b1,o1,UJ⟩) 64 c1,([four gn,[83,49],[(nD:Int),0],four tl,DE U 32,Cz D 0 8,four gn]).flatten),(UD (UI ⟨b6,o6,UJ⟩) 56 c6,([four gn,[83,50],[0,0],Cz D 8 8,List.replicate 32 0]:List (List Int)).flatten)] (by
    intro p hp;simp only[List.mem_cons,List.not_mem_nil,or_false] at hp;rcases hp with rfl|rfl
    ·exact HPE.o.1
    ·exact HPE.o.2.2.2.2.2.2)
   obtain⟨g,vs,d,hg,hc⟩:=q;simp only[Value.slice.injEq,Option.some.injEq,Addr.mk.injEq] at d;obtain⟨⟨d,_⟩,_⟩:=d;subst d;exact F4 _ 2 2 vs [([four gn,[83,49],[(nD:Int),0],four tl,DE U 32,Cz D 0 8,four gn]).flatten,([four gn,[83,50],[0,0],Cz D 8 8,List.replicate 32 0]:List (List Int)).flatten] _ rfl hg (λi hi=>(hc i (by simpa using hi)).1) (λi hi=>(hc i (by simpa using hi)).2) (by rw[Gh];decide) AL
  have bb:=DQ (Cv wE (UP #[UD (UI ⟨b1,o1,UJ⟩) 64 c1,UD (UI ⟨b6,o6,UJ⟩) 56 c6] 22));have AF:=DQ AF;go_wp2_with fail;have bb:=bb.o;refine AF.o.mono ?_;rintro e wF ⟨v7,rfl,ho7,hb7⟩;have hbb:Below wE.heap.size wE wF:=bb.trans (hb7.mono bb.size);have HXF:AP (XM w #[UE UG gn,UE UG tl,UD aD nD cD,UD aU nU cU] w2 wF):=HXE.o.grow hbb;obtain⟨b7,o7,c7,e7,_⟩:=ho7.part;rw[Gh] at e7;have P7:Cy wF (UD (UI ⟨b7,o7,UJ⟩) 120 c7) (([([four gn,[83,49],[(nD:Int),0],four tl,DE U 32,Cz D 0 8,four gn]).flatten,([four gn,[83,50],[0,0],Cz D 8 8,List.replicate 32 0]:List (List Int)).flatten]:List (List Int)).flatten):=by rw[<-e7];exact ho7.part
  subst e7;have HPF:AP (Cy wF (UD (UI ⟨b1,o1,UJ⟩) 64 c1) (([four gn,[83,49],[(nD:Int),0],four tl,DE U 32,Cz D 0 8,four gn]).flatten)/\Cy wF (UD (UI ⟨q0,0,UJ⟩) 2 2) ([83,50])/\Cy wF (UD (UI ⟨q0+1,0,UJ⟩) 2 2) ([0,0])/\Cy wF (UD (UI ⟨G,0,UJ⟩) 4 4) (four gn)/\Cy wF (UD (UI ⟨b4,o4,UJ⟩) 16 c4) (Cz D 8 8)/\Cy wF (UD (UI ⟨b5,o5,UJ⟩) 32 c5) (List.replicate 32 0)/\Cy wF (UD (UI ⟨b6,o6,UJ⟩) 56 c6) (([four gn,[83,50],[0,0],Cz D 8 8,List.replicate 32 0]:List (List Int)).flatten)/\Cy wF (UD (UI ⟨b7,o7,UJ⟩) 120 c7) (([([four gn,[83,49],[(nD:Int),0],four tl,DE U 32,Cz D 0 8,four gn]).flatten,([four gn,[83,50],[0,0],Cz D 8 8,List.replicate 32 0]:List (List Int)).flatten]:List (List Int)).flatten)):=⟨HPE.o.1.below hbb,HPE.o.2.1.below hbb,HPE.o.2.2.1.below hbb,HPE.o.2.2.2.1.below hbb,HPE.o.2.2.2.2.1.below hbb,HPE.o.2.2.2.2.2.1.below hbb,HPE.o.2.2.2.2.2.2.below hbb,P7⟩
  clear ho7 hb7 bb hbb P7 AF HXE HPE;have hAt:At UH wF (UI ⟨b7,o7,UJ⟩) (([([four gn,[83,49],[(nD:Int),0],four tl,DE U 32,Cz D 0 8,four gn]).flatten,([four gn,[83,50],[0,0],Cz D 8 8,List.replicate 32 0]:List (List Int)).flatten]:List (List Int)).flatten):=by
   obtain⟨b,o,c,e,hl,hc⟩:=HPF.o.2.2.2.2.2.2.2;rw[Gh] at e;simp only[Value.slice.injEq,Option.some.injEq,Addr.mk.injEq] at e;obtain⟨⟨rfl,rfl,_⟩,_⟩:=e;exact .inr ⟨b7,o7,rfl,hl,hc⟩
  have CC:=KR (UI ⟨b7,o7,UJ⟩) 120 c7 (([([four gn,[83,49],[(nD:Int),0],four tl,DE U 32,Cz D 0 8,four gn]).flatten,([four gn,[83,50],[0,0],Cz D 8 8,List.replicate 32 0]:List (List Int)).flatten]:List (List Int)).flatten) wF Gh AL hAt (Je HU.o.1 HU.o.2 HDR.o hn16);clear hAt;obtain⟨cr,hcr⟩:∃ cr,cr=Gl (([([four gn,[83,49],[(nD:Int),0],four tl,DE U 32,Cz D 0 8,four gn]).flatten,([four gn,[83,50],[0,0],Cz D 8 8,List.replicate 32 0]:List (List Int)).flatten]:List (List Int)).flatten):=⟨_,rfl⟩
  rw[<-hcr] at CC;have HU2:AP (D8 cr):=by show D8 cr;rw[hcr];exact IE _
  have HCR:=DQ hcr;clear hcr;have CC:=DQ CC;go_wp2_with fail;refine CC.o.mono ?_;rintro e w9 ⟨rfl,h9⟩;subst w9;clear CC;go_wp2_with fail;refine(E8 cr _ HU2.o).mono ?_;rintro e wG ⟨rfl,hwG⟩;have hbG:Below wF.heap.size wF wG:=by rw[hwG];exact Cv wF _
  have HXG:AP (XM w #[UE UG gn,UE UG tl,UD aD nD cD,UD aU nU cU] w2 wG):=HXF.o.grow hbG;have P8:Cy wG (UD (UI ⟨wF.heap.size,0,UJ⟩) 4 4) (four cr):=by rw[hwG];exact ED wF #[UE UH (cr%256),UE UH (cr/256%256),UE UH (cr/65536%256),UE UH (cr/16777216)] (four cr) 5 rfl 4 rfl 4
  have HPG:AP (Cy wG (UD (UI ⟨b1,o1,UJ⟩) 64 c1) (([four gn,[83,49],[(nD:Int),0],four tl,DE U 32,Cz D 0 8,four gn]).flatten)/\Cy wG (UD (UI ⟨q0,0,UJ⟩) 2 2) ([83,50])/\Cy wG (UD (UI ⟨q0+1,0,UJ⟩) 2 2) ([0,0])/\Cy wG (UD (UI ⟨G,0,UJ⟩) 4 4) (four gn)/\Cy wG (UD (UI ⟨b4,o4,UJ⟩) 16 c4) (Cz D 8 8)/\Cy wG (UD (UI ⟨b5,o5,UJ⟩) 32 c5) (List.replicate 32 0)/\Cy wG (UD (UI ⟨b6,o6,UJ⟩) 56 c6) (([four gn,[83,50],[0,0],Cz D 8 8,List.replicate 32 0]:List (List Int)).flatten)/\Cy wG (UD (UI ⟨b7,o7,UJ⟩) 120 c7) (([([four gn,[83,49],[(nD:Int),0],four tl,DE U 32,Cz D 0 8,four gn]).flatten,([four gn,[83,50],[0,0],Cz D 8 8,List.replicate 32 0]:List (List Int)).flatten]:List (List Int)).flatten)/\Cy wG (UD (UI ⟨wF.heap.size,0,UJ⟩) 4 4) (four cr)):=⟨HPF.o.1.below hbG,HPF.o.2.1.below hbG,HPF.o.2.2.1.below hbG,HPF.o.2.2.2.1.below hbG,HPF.o.2.2.2.2.1.below hbG,HPF.o.2.2.2.2.2.1.below hbG,HPF.o.2.2.2.2.2.2.1.below hbG,HPF.o.2.2.2.2.2.2.2.below hbG,P8⟩
  clear hbG hwG P8 HXF HPF HU2;generalize wF.heap.size=q8 at *;have AH:Calls Tryz.prog 70 #[UD (UI ⟨wG.heap.size,0,UJ⟩) 3 3] (wG.alloc (UP #[UD (UI ⟨b7,o7,UJ⟩) 120 c7,UD (UI ⟨q8,0,UJ⟩) 4 4,UD (UI ⟨G,0,UJ⟩) 4 4] 22)) λe w'=>∃ v,e=UQ v/\DT w' (wG.alloc (UP #[UD (UI ⟨b7,o7,UJ⟩) 120 c7,UD (UI ⟨q8,0,UJ⟩) 4 4,UD (UI ⟨G,0,UJ⟩) 4 4] 22)).heap.size v ([([([four gn,[83,49],[(nD:Int),0],four tl,DE U 32,Cz D 0 8,four gn]).flatten,([four gn,[83,50],[0,0],Cz D 8 8,List.replicate 32 0]:List (List Int)).flatten]:List (List Int)).flatten,four cr,four gn]:List (List Int)).flatten/\Below (wG.alloc (UP #[UD (UI ⟨b7,o7,UJ⟩) 120 c7,UD (UI ⟨q8,0,UJ⟩) 4 4,UD (UI ⟨G,0,UJ⟩) 4 4] 22)).heap.size (wG.alloc (UP #[UD (UI ⟨b7,o7,UJ⟩) 120 c7,UD (UI ⟨q8,0,UJ⟩) 4 4,UD (UI ⟨G,0,UJ⟩) 4 4] 22)) w':=by
   have q:=O1.new wG 22 [(UD (UI ⟨b7,o7,UJ⟩) 120 c7,([([four gn,[83,49],[(nD:Int),0],four tl,DE U 32,Cz D 0 8,four gn]).flatten,([four gn,[83,50],[0,0],Cz D 8 8,List.replicate 32 0]:List (List Int)).flatten]:List (List Int)).flatten),(UD (UI ⟨q8,0,UJ⟩) 4 4,four cr),(UD (UI ⟨G,0,UJ⟩) 4 4,four gn)] (by
    intro p hp;simp only[List.mem_cons,List.not_mem_nil,or_false] at hp;rcases hp with rfl|rfl|rfl
    ·exact HPG.o.2.2.2.2.2.2.2.1
    ·exact HPG.o.2.2.2.2.2.2.2.2
    ·exact HPG.o.2.2.2.1)
   obtain⟨g,vs,d,hg,hc⟩:=q;simp only[Value.slice.injEq,Option.some.injEq,Addr.mk.injEq] at d;obtain⟨⟨d,_⟩,_⟩:=d;subst d;exact F4 _ 3 3 vs [([([four gn,[83,49],[(nD:Int),0],four tl,DE U 32,Cz D 0 8,four gn]).flatten,([four gn,[83,50],[0,0],Cz D 8 8,List.replicate 32 0]:List (List Int)).flatten]:List (List Int)).flatten,four cr,four gn] _ rfl hg (λi hi=>(hc i (by simpa using hi)).1) (λi hi=>(hc i (by simpa using hi)).2) (by rw[Gr];decide) AL
  have bb:=DQ (Cv wG (UP #[UD (UI ⟨b7,o7,UJ⟩) 120 c7,UD (UI ⟨q8,0,UJ⟩) 4 4,UD (UI ⟨G,0,UJ⟩) 4 4] 22));have AH:=DQ AH;go_wp2_with fail;have bb:=bb.o;refine AH.o.mono ?_;rintro e wH ⟨v8,rfl,ho8,hb8⟩;have hbb:Below wG.heap.size wG wH:=bb.trans (hb8.mono bb.size);have HXH:AP (XM w #[UE UG gn,UE UG tl,UD aD nD cD,UD aU nU cU] w2 wH):=HXG.o.grow hbb;have HO8:=DQ (ho8.lower (B':=w.heap.size) (BC HXG.o.all.size bb.size));clear ho8 hb8 bb hbb AH HXG HPG;go_wp2_with fail
  go_ret
  refine⟨_,rfl,?_,HXH.o.all⟩;unfold Gz;rw[HL.o.1,<-HCR.o];exact HO8.o
theorem Ql (gn tl:Int) (aD aU:Option Addr) (nD cD nU cU:Nat) (D U:List Int) (w:UK) (hD:D.length=nD) (hU:U.length=nU) (mD:nD<=1048576) (mU:nU<=1048576) (haD:At .i64 w aD D) (haU:At .i64 w aU U) (hs:Ih gn tl D U=false) :
  Calls Tryz.prog 52 #[.agg #[UE UG gn,UE UG tl,UD aD nD cD,UD aU nU cU]] w λe w'=>∃ v,e=UQ v/\DT w' w.heap.size v []/\Below w.heap.size w w':=by
 have b0:Below w.heap.size w (w.alloc (UP #[UE UG gn,UE UG tl,UD aD nD cD,UD aU nU cU] 30)):=Cs.alloc Cw _;have HC:=MW gn tl aD aU nD cD nU cU D U (w.alloc (UP #[UE UG gn,UE UG tl,UD aD nD cD,UD aU nU cU] 30)) hD hU mD mU (haD.below b0) (haU.below b0);rw[hs] at HC;have HB:=DQ b0;clear haD haU hD hU b0 hs;go_enter Tryz.func52,Tryz.ntmps52;go_wp2_with fail;refine HC.mono ?_;rintro e w1 ⟨rfl,hb1⟩;have HB1:=DQ (HB.o.trans (hb1.mono HB.o.size));clear HC hb1 HB;go_wp2
 go_ret
 exact⟨_,rfl,DT.empty _ _ HB1.o.size,HB1.o.alloc HB1.o.size _⟩
noncomputable def O5 (gn tl:Int) (D U:List Int):List Int:=bif Ih gn tl D U then Gz gn tl D U else []
theorem Qm (gn tl:Int) (aD aU:Option Addr) (nD cD nU cU:Nat) (D U:List Int) (w:UK) (hD:D.length=nD) (hU:U.length=nU) (mD:nD<=1048576) (mU:nU<=1048576) (haD:At .i64 w aD D) (haU:At .i64 w aU U) (ug:D8 gn) (ut:D8 tl) :
  Calls Tryz.prog 52 #[.agg #[UE UG gn,UE UG tl,UD aD nD cD,UD aU nU cU]] w λe w'=>∃ v,e=UQ v/\DT w' w.heap.size v (O5 gn tl D U)/\Below w.heap.size w w':=by
 by_cases hs:Jb gn tl D U
 ·have:=Kx gn tl aD aU nD cD nU cU D U w hD hU mD mU haD haU ug ut hs;unfold O5;rw[Fi hs];exact this
 ·have hf:Ih gn tl D U=false:=by unfold Ih;simp[hs]
  have:=Ql gn tl aD aU nD cD nU cU D U w hD hU mD mU haD haU hf;unfold O5;rw[hf];exact this
theorem S7 (n:Nat) (x y:Int) (hx:0<=x/\x<2^n) (hy:0<=y/\y<2^n) (h:∀ j:Nat,j<n->(x/2^j%2=1↔y/2^j%2=1)):x=y:=by
 induction n generalizing x y with
 |zero=>simp at hx hy;omega
 |succ n ih=>
  have h0:=h 0 AK;simp at h0;rw[Int.pow_succ] at hx hy;have he:=ih (x/2) (y/2) AK AK λj hj=>by
   have:=h (j+1) AK
   rwa [Int.pow_succ,Int.mul_comm (2^j) 2,<-Int.ediv_ediv_of_nonneg AL,<-Int.ediv_ediv_of_nonneg AL] at this
  omega
theorem O6 (v:Int) (xs:List Int):E9 v xs=true↔v∈xs:=by unfold E9;simp
theorem SC (xs:List Int) (k n j:Nat) (hj:j<n) (hn:n<=8):bv xs k n/2^j%2=1↔(8*(k:Int)+(7-((n-1-j:Nat):Int)))∈xs:=by
 induction n generalizing j with
 |zero=>omega
 |succ n ih=>
  unfold bv;cases j with
  |zero=>
   rw[show n+1-1-0=n by omega,<-O6];by_cases h:E9 (8*(k:Int)+(7-(n:Int))) xs=true
   ·simp only[h,if_true];constructor
    ·intro _;trivial
    ·intro _;omega
   ·simp only[h];constructor
    ·intro h';exfalso;simp at h'
    ·intro h';simp at h'
  |succ j=>
   rw[show n+1-1-(j+1)=n-1-j by omega,<-ih j AK AK];have hd:(2*bv xs k n+(if E9 (8*(k:Int)+(7-(n:Int))) xs=true then 1 else 0))/2^(j+1)=bv xs k n/2^j:=by
    rw[Int.pow_succ,Int.mul_comm (2^j) 2,<-Int.ediv_ediv_of_nonneg AL]
    congr 1
    split<;>omega
   rw[hd]
theorem PA (bs xs:List Int) (h:DV bs (λv=>(v:Int)∈xs)):bs=DE xs 32:=by
 obtain⟨hl,hb,hv⟩:=h;refine List.ext_getElem (by rw[hl,Fy]) λi h1 h2=>?_
 have hi:i<32:=AK
 have e1:(DE xs 32)[i]=bv xs i 8:=by simp[DE]
 refine Eq.trans ?_ e1.symm;refine S7 8 _ _ (hb _ (Ba h1)) (Oy xs i 8) λj hj=>?_
 have:=hv (8*i+j) AK;rw[show(8*i+j)/8=i by omega,show(8*i+j)%8=j by omega,show bs.getD i 0=bs[i] by simp[List.getD,h1]] at this;rw[this,SC xs i 8 j hj Cw];show((8*i+j:Nat):Int)∈xs↔_
 rw[show((8*i+j:Nat):Int)=8*(i:Int)+(7-((8-1-j:Nat):Int)) by omega]
theorem C2 (A L:List Int) (p:Nat) (v:Int) (k:Nat) (h:A.length<=p):Dv (A++L) p v k=A++Dv L (p-A.length) v k:=by
 induction k with
 |zero=>rfl
 |succ k ih=>
  show(Dv (A++L) p v k).set (p+k) _=A++(Dv L (p-A.length) v k).set (p-A.length+k) _
  rw[ih,B6 (p+k) _ AK,show p+k-A.length=p-A.length+k by omega]
theorem FU (X L:List Int) (v:Int) (hX:X.length=4) (hv:D8 v):Dv (X++L) 0 v 4=four v++L:=by
 match X,hX with
 |[a,b,c,d],_=>
  obtain⟨h0,h1⟩:=hv;simp[Dv,four];omega
def Dx (a m c t b d e a' m' c' d' y s e':List Int):List Int:=a++(m++(c++(t++(b++(d++(e++(a'++(m'++(c'++(d'++(y++(s++e'))))))))))))
structure Dn (a m c t b d e a' m' c' d' y s e':List Int):Prop where
 la:a.length=4
 lm:m.length=2
 lc:c.length=2
 lt:t.length=4
 lb:b.length=32
 ld:d.length=16
 le:e.length=4
 la':a'.length=4
 lm':m'.length=2
 lc':c'.length=2
 ld':d'.length=16
 ly:y.length=32
 ls:s.length=4
 le':e'.length=4
section
variable {a m c t b d e a' m' c' d' y s e':List Int}
theorem Dn.len (h:Dn a m c t b d e a' m' c' d' y s e'):(Dx a m c t b d e a' m' c' d' y s e').length=128:=by
 obtain⟨h1,h2,h3,h4,h5,h6,h7,h8,h9,h10,h11,h12,h13,h14⟩:=h;simp[Dx,h1,h2,h3,h4,h5,h6,h7,h8,h9,h10,h11,h12,h13,h14]
theorem PB:(List.replicate 128 0:List Int)=Dx (List.replicate 4 0) [0,0] [0,0] (List.replicate 4 0) (List.replicate 32 0) (List.replicate 16 0) (List.replicate 4 0) (List.replicate 4 0) [0,0] [0,0] (List.replicate 16 0) (List.replicate 32 0) (List.replicate 4 0) (List.replicate 4 0):=AO
theorem Fz (v:Int):(four v).length=4:=rfl
theorem Dn.put0 (h:Dn a m c t b d e a' m' c' d' y s e') (v:Int) (hv:D8 v):Dv (Dx a m c t b d e a' m' c' d' y s e') 0 v 4=Dx (four v) m c t b d e a' m' c' d' y s e'/\Dn (four v) m c t b d e a' m' c' d' y s e':=by
 obtain⟨h1,h2,h3,h4,h5,h6,h7,h8,h9,h10,h11,h12,h13,h14⟩:=h;refine⟨?_,⟨Fz v,h2,h3,h4,h5,h6,h7,h8,h9,h10,h11,h12,h13,h14⟩⟩;unfold Dx;rw[FU _ _ _ h1 hv]
theorem Dn.put8 (h:Dn a m c t b d e a' m' c' d' y s e') (v:Int) (hv:D8 v):Dv (Dx a m c t b d e a' m' c' d' y s e') 8 v 4=Dx a m c (four v) b d e a' m' c' d' y s e'/\Dn a m c (four v) b d e a' m' c' d' y s e':=by
 obtain⟨h1,h2,h3,h4,h5,h6,h7,h8,h9,h10,h11,h12,h13,h14⟩:=h;refine⟨?_,⟨h1,h2,h3,Fz v,h5,h6,h7,h8,h9,h10,h11,h12,h13,h14⟩⟩;unfold Dx;rw[C2 a _ _ _ _ AK,h1,C2 m _ _ _ _ AK,h2,C2 c _ _ _ _ AK,h3,FU _ _ _ h4 hv]
theorem Dn.put60 (h:Dn a m c t b d e a' m' c' d' y s e') (v:Int) (hv:D8 v):Dv (Dx a m c t b d e a' m' c' d' y s e') 60 v 4=Dx a m c t b d (four v) a' m' c' d' y s e'/\Dn a m c t b d (four v) a' m' c' d' y s e':=by
 obtain⟨h1,h2,h3,h4,h5,h6,h7,h8,h9,h10,h11,h12,h13,h14⟩:=h;refine⟨?_,⟨h1,h2,h3,h4,h5,h6,Fz v,h8,h9,h10,h11,h12,h13,h14⟩⟩;unfold Dx;rw[C2 a _ _ _ _ AK,h1,C2 m _ _ _ _ AK,h2,C2 c _ _ _ _ AK,h3,C2 t _ _ _ _ AK,h4,C2 b _ _ _ _ AK,h5,C2 d _ _ _ _ AK,h6,FU _ _ _ h7 hv]
theorem Dn.put64 (h:Dn a m c t b d e a' m' c' d' y s e') (v:Int) (hv:D8 v):Dv (Dx a m c t b d e a' m' c' d' y s e') 64 v 4=Dx a m c t b d e (four v) m' c' d' y s e'/\Dn a m c t b d e (four v) m' c' d' y s e':=by
 obtain⟨h1,h2,h3,h4,h5,h6,h7,h8,h9,h10,h11,h12,h13,h14⟩:=h;refine⟨?_,⟨h1,h2,h3,h4,h5,h6,h7,Fz v,h9,h10,h11,h12,h13,h14⟩⟩;unfold Dx;rw[C2 a _ _ _ _ AK,h1,C2 m _ _ _ _ AK,h2,C2 c _ _ _ _ AK,h3,C2 t _ _ _ _ AK,h4,C2 b _ _ _ _ AK,h5,C2 d _ _ _ _ AK,h6,C2 e _ _ _ _ AK,h7,FU _ _ _ h8 hv]
theorem Dn.put120 (h:Dn a m c t b d e a' m' c' d' y s e') (v:Int) (hv:D8 v):Dv (Dx a m c t b d e a' m' c' d' y s e') 120 v 4=Dx a m c t b d e a' m' c' d' y (four v) e'/\Dn a m c t b d e a' m' c' d' y (four v) e':=by
 obtain⟨h1,h2,h3,h4,h5,h6,h7,h8,h9,h10,h11,h12,h13,h14⟩:=h;refine⟨?_,⟨h1,h2,h3,h4,h5,h6,h7,h8,h9,h10,h11,h12,Fz v,h14⟩⟩;unfold Dx;rw[C2 a _ _ _ _ AK,h1,C2 m _ _ _ _ AK,h2,C2 c _ _ _ _ AK,h3,C2 t _ _ _ _ AK,h4,C2 b _ _ _ _ AK,h5,C2 d _ _ _ _ AK,h6,C2 e _ _ _ _ AK,h7,C2 a' _ _ _ _ AK,h8,C2 m' _ _ _ _ AK,h9,C2 c' _ _ _ _ AK,h10,C2 d' _ _ _ _ AK,h11,C2 y _ _ _ _ AK,h12,FU _ _ _ h13 hv]
theorem Dn.put124 (h:Dn a m c t b d e a' m' c' d' y s e') (v:Int) (hv:D8 v):Dv (Dx a m c t b d e a' m' c' d' y s e') 124 v 4=Dx a m c t b d e a' m' c' d' y s (four v)/\Dn a m c t b d e a' m' c' d' y s (four v):=by
 obtain⟨h1,h2,h3,h4,h5,h6,h7,h8,h9,h10,h11,h12,h13,h14⟩:=h;refine⟨?_,⟨h1,h2,h3,h4,h5,h6,h7,h8,h9,h10,h11,h12,h13,Fz v⟩⟩;unfold Dx;have:=FU e' [] v h14 hv;rw[Bq,Bq] at this;rw[C2 a _ _ _ _ AK,h1,C2 m _ _ _ _ AK,h2,C2 c _ _ _ _ AK,h3,C2 t _ _ _ _ AK,h4,C2 b _ _ _ _ AK,h5,C2 d _ _ _ _ AK,h6,C2 e _ _ _ _ AK,h7,C2 a' _ _ _ _ AK,h8,C2 m' _ _ _ _ AK,h9,C2 c' _ _ _ _ AK,h10,C2 d' _ _ _ _ AK,h11,C2 y _ _ _ _ AK,h12,C2 s _ _ _ _ AK,h13,this]
theorem DL (A L:List Int) (p:Nat) (x:Int) (h:A.length<=p):(A++L).set p x=A++L.set (p-A.length) x:=B6 p x h
theorem Iz (A L:List Int) (p:Nat) (x:Int) (h:p<A.length):(A++L).set p x=A.set p x++L:=List.set_append_left p x h
theorem Dn.setM (h:Dn a m c t b d e a' m' c' d' y s e') (j:Nat) (hj:j<2) (x:Int):(Dx a m c t b d e a' m' c' d' y s e').set (4+j) x=Dx a (m.set j x) c t b d e a' m' c' d' y s e'/\Dn a (m.set j x) c t b d e a' m' c' d' y s e':=by
 obtain⟨h1,h2,h3,h4,h5,h6,h7,h8,h9,h10,h11,h12,h13,h14⟩:=h;refine⟨?_,⟨h1,by simpa using h2,h3,h4,h5,h6,h7,h8,h9,h10,h11,h12,h13,h14⟩⟩;unfold Dx;rw[DL a _ _ _ AK,h1,show 4+j-4=j by omega,Iz _ _ _ _ AK]
theorem Dn.setC (h:Dn a m c t b d e a' m' c' d' y s e') (j:Nat) (hj:j<2) (x:Int):(Dx a m c t b d e a' m' c' d' y s e').set (6+j) x=Dx a m (c.set j x) t b d e a' m' c' d' y s e'/\Dn a m (c.set j x) t b d e a' m' c' d' y s e':=by
 obtain⟨h1,h2,h3,h4,h5,h6,h7,h8,h9,h10,h11,h12,h13,h14⟩:=h;refine⟨?_,⟨h1,h2,by simpa using h3,h4,h5,h6,h7,h8,h9,h10,h11,h12,h13,h14⟩⟩;unfold Dx;rw[DL a _ _ _ AK,h1,DL m _ _ _ AK,h2,show 6+j-4-2=j by omega,Iz _ _ _ _ AK]
theorem Dn.setD (h:Dn a m c t b d e a' m' c' d' y s e') (j:Nat) (hj:j<16) (x:Int):(Dx a m c t b d e a' m' c' d' y s e').set (44+j) x=Dx a m c t b (d.set j x) e a' m' c' d' y s e'/\Dn a m c t b (d.set j x) e a' m' c' d' y s e':=by
 obtain⟨h1,h2,h3,h4,h5,h6,h7,h8,h9,h10,h11,h12,h13,h14⟩:=h;refine⟨?_,⟨h1,h2,h3,h4,h5,by simpa using h6,h7,h8,h9,h10,h11,h12,h13,h14⟩⟩;unfold Dx;rw[DL a _ _ _ AK,h1,DL m _ _ _ AK,h2,DL c _ _ _ AK,h3,DL t _ _ _ AK,h4,DL b _ _ _ AK,h5,show 44+j-4-2-2-4-32=j by omega,Iz _ _ _ _ AK]
theorem Dn.setM' (h:Dn a m c t b d e a' m' c' d' y s e') (j:Nat) (hj:j<2) (x:Int):(Dx a m c t b d e a' m' c' d' y s e').set (68+j) x=Dx a m c t b d e a' (m'.set j x) c' d' y s e'/\Dn a m c t b d e a' (m'.set j x) c' d' y s e':=by
 obtain⟨h1,h2,h3,h4,h5,h6,h7,h8,h9,h10,h11,h12,h13,h14⟩:=h;refine⟨?_,⟨h1,h2,h3,h4,h5,h6,h7,h8,by simpa using h9,h10,h11,h12,h13,h14⟩⟩;unfold Dx;rw[DL a _ _ _ AK,h1,DL m _ _ _ AK,h2,DL c _ _ _ AK,h3,DL t _ _ _ AK,h4,DL b _ _ _ AK,h5,DL d _ _ _ AK,h6,DL e _ _ _ AK,h7,DL a' _ _ _ AK,h8,show 68+j-4-2-2-4-32-16-4-4=j by omega,Iz _ _ _ _ AK]
theorem Dn.setD' (h:Dn a m c t b d e a' m' c' d' y s e') (j:Nat) (hj:j<16) (x:Int):(Dx a m c t b d e a' m' c' d' y s e').set (72+j) x=Dx a m c t b d e a' m' c' (d'.set j x) y s e'/\Dn a m c t b d e a' m' c' (d'.set j x) y s e':=by
 obtain⟨h1,h2,h3,h4,h5,h6,h7,h8,h9,h10,h11,h12,h13,h14⟩:=h;refine⟨?_,⟨h1,h2,h3,h4,h5,h6,h7,h8,h9,h10,by simpa using h11,h12,h13,h14⟩⟩;unfold Dx;rw[DL a _ _ _ AK,h1,DL m _ _ _ AK,h2,DL c _ _ _ AK,h3,DL t _ _ _ AK,h4,DL b _ _ _ AK,h5,DL d _ _ _ AK,h6,DL e _ _ _ AK,h7,DL a' _ _ _ AK,h8,DL m' _ _ _ AK,h9,DL c' _ _ _ AK,h10,show 72+j-4-2-2-4-32-16-4-4-2-2=j by omega,Iz _ _ _ _ AK]
theorem Dn.putB (h:Dn a m c t b d e a' m' c' d' y s e') (bs:List Int) (hb:bs.length=32):(Dx a m c t b d e a' m' c' d' y s e').take 12++(bs++(Dx a m c t b d e a' m' c' d' y s e').drop 44)=Dx a m c t bs d e a' m' c' d' y s e'/\Dn a m c t bs d e a' m' c' d' y s e':=by
 obtain⟨h1,h2,h3,h4,h5,h6,h7,h8,h9,h10,h11,h12,h13,h14⟩:=h;refine⟨?_,⟨h1,h2,h3,h4,hb,h6,h7,h8,h9,h10,h11,h12,h13,h14⟩⟩;unfold Dx;simp[List.take_append,List.drop_append,h1,h2,h3,h4,h5];rw[An (by omega:a.length<=12),An (by omega:m.length<=8),An (by omega:c.length<=6),Bz (by omega:a.length<=44),Bz (by omega:m.length<=40),Bz (by omega:c.length<=38),Bz (by omega:t.length<=36)];simp
end
theorem MY (D:List Int) (f i:Nat) (hi:i<D.length) (hf:f<=i) (hf8:i<f+8) (hd:D.getD i 0%256=D.getD i 0/\D.getD i 0/256%256=0) :
  ((Cz (D.take i) f 8).set (2*(i-f)) (D.getD i 0%256)).set (2*(i-f)+1) (D.getD i 0/256%256)=Cz (D.take (i+1)) f 8:=by
 rw[hd.1,hd.2];obtain⟨j,rfl⟩:∃ j,i=f+j:=⟨i-f,AK⟩
 have hg:∀ q,q<=j->j<q+8->True:=λ_ _ _=>trivial
 have hj:j<8:=AK
 have hx:∀ q,Fx (D.take (f+j+1)) (f+q)=if q=j then [D.getD (f+j) 0,0] else Fx (D.take (f+j)) (f+q):=by
  intro q;unfold Fx;by_cases hq:q=j
  ·subst hq;have:f+q<(D.take (f+q+1)).length:=by simp;omega
   simp only[this,if_true];simp[List.getD]
  ·simp only[hq,if_false,List.length_take];by_cases h1:f+q<min (f+j) D.length
   ·have h2:f+q<min (f+j+1) D.length:=AK
    simp only[h1,h2,if_true];simp[List.getD,show f+q<f+j by omega,show f+q<f+j+1 by omega]
   ·have h2:¬ f+q<min (f+j+1) D.length:=AK
    simp only[h1,h2,if_false]
 have ho:Fx (D.take (f+j)) (f+j)=[0,0]:=by unfold Fx;rw[AS (by simp;omega)]
 have hE:Cz (D.take (f+j+1)) f 8=((List.range 8).map (λq=>if q=j then [D.getD (f+j) 0,0] else Fx (D.take (f+j)) (f+q))).flatten:=by
  unfold Cz;congr 1;exact List.map_congr_left λq _=>hx q
 rw[hE,show f+j-f=j by omega];unfold Cz;have l2:∀ q,∃ x y,Fx (D.take (f+j)) (f+q)=[x,y]:=λq=>by unfold Fx;split<;>exact⟨_,_,rfl⟩
 obtain⟨x0,y0,e0⟩:=l2 0;obtain⟨x1,y1,e1⟩:=l2 1;obtain⟨x2,y2,e2⟩:=l2 2;obtain⟨x3,y3,e3⟩:=l2 3;obtain⟨x4,y4,e4⟩:=l2 4;obtain⟨x5,y5,e5⟩:=l2 5;obtain⟨x6,y6,e6⟩:=l2 6;obtain⟨x7,y7,e7⟩:=l2 7;simp only[show List.range 8=[0,1,2,3,4,5,6,7] from rfl,List.map_cons,List.map_nil,e0,e1,e2,e3,e4,e5,e6,e7];obtain rfl|rfl|rfl|rfl|rfl|rfl|rfl|rfl:j=0\/j=1\/j=2\/j=3\/j=4\/j=5\/j=6\/j=7:=AK
 all_goals simp
theorem Qn (gn tl:Int) (D U:List Int) (s:List Int) :
  (Dx (four gn) [83,49] [(D.length:Int),0] (four tl) (DE U 32) (Cz D 0 8) (four gn) (four gn) [83,50] [0,0] (Cz D 8 8) (List.replicate 32 0) (four (Gl ((Dx (four gn) [83,49] [(D.length:Int),0] (four tl) (DE U 32) (Cz D 0 8) (four gn) (four gn) [83,50] [0,0] (Cz D 8 8) (List.replicate 32 0) s (four gn)).take 120))) (four gn))=Gz gn tl D U:=by
 have hb:(Dx (four gn) [83,49] [(D.length:Int),0] (four tl) (DE U 32) (Cz D 0 8) (four gn) (four gn) [83,50] [0,0] (Cz D 8 8) (List.replicate 32 0) s (four gn)).take 120=([([four gn,[83,49],[(D.length:Int),0],four tl,DE U 32,Cz D 0 8,four gn]).flatten,([four gn,[83,50],[0,0],Cz D 8 8,List.replicate 32 0]:List (List Int)).flatten]:List (List Int)).flatten:=by
  have hl:=Gh (gn:=gn) (tl:=tl) (D:=D) (U:=U) (nD:=D.length);rw[<-hl];refine Eq.trans (congrArg (List.take _) (a₂:=(([([four gn,[83,49],[(D.length:Int),0],four tl,DE U 32,Cz D 0 8,four gn]).flatten,([four gn,[83,50],[0,0],Cz D 8 8,List.replicate 32 0]:List (List Int)).flatten]:List (List Int)).flatten++(s++four gn))) ?_) (List.take_left ..);unfold Dx;simp only[List.flatten_cons,List.flatten_nil,List.append_nil,List.append_assoc]
 rw[hb];unfold Gz Dx;simp only[List.flatten_cons,List.flatten_nil,List.append_nil,List.append_assoc]
end Go.Proofs.YthmeoilbmfdhfaaGreat
