import Derived.Test.YthmeoilbmfdhfaaGreatMOpn
open Go.Value renaming slice->UD,int->UE,pointer->UM,bool->UF,agg->UN
open Go.IntKind renaming u32->UG,u8->UH
open Go.Obj renaming cells->UP
open Go.Ground renaming data->UR
open Option renaming some->UI,none->UJ
open Go renaming World->UK,Value->UL
namespace Go.Proofs.YthmeoilbmfdhfaaGreat
set_option maxHeartbeats 4000000
set_option maxRecDepth 100000
open Go.ChangeShapes Go.WideShapes Go.ChangeAt Go.RowKit
set_option linter.unusedVariables false
theorem Tryz.sizeU8:(Tryz.prog.info? 5).map (·.size)=UI 1:=AN
theorem Tryz.sizeSec:(Tryz.prog.info? 122).map (·.size)=UI 64:=AN
theorem Jv {w:UK} {ops:Array Oper} {rest:List Oper} {o:Oper} {a:Act} {Q:Exit->Act->UK->Prop} (hgd:o.guard=UJ) (d s:Operand)
  (ho:o.op=.call { callee:=.builtin .copy,args:=#[d,s],argTypes:=#[22,22] }) (g off dLen dCap:Nat) (sp:Option Addr) (sLen sCap:Nat)
  (hd:a.eval d=UD (UI ⟨g,off,UJ⟩) dLen dCap) (hs:a.eval s=UD sp sLen sCap) (t:TypeId) (ds zs:List Int) (hr:DP w g t ds) (hz:zs.length=sLen) (ha:At UH w sp zs)
  (m:Nat) (hmn:Nat.min sLen dLen=m) (hfit:off+m<=ds.length)
  (h:∀ w',DP w' g t (ds.take off++(zs.take m++ds.drop (off+m)))->Wr g w w'->wpList Tryz.prog ops Q rest (a.put o.dst (goInt m)) w') :
  wpList Tryz.prog ops Q (o::rest) a w:=by
 have hle:m<=sLen:=hmn ▸ Nat.min_le_left _ _;by_cases h0:m=0
 ·refine wpList_copy_nothing hgd d s 22 22 ho 5 Tryz.underlying22 Tryz.sizeU8 _ _ _ _ _ _ hd hs (hmn.trans h0) ?_;have:=h w (by rw[h0];simp;exact hr) (Wr.refl _ _);rw[h0] at this;exact this
 ·have hpos:0<zs.length:=AK
  obtain⟨b,o2,rfl,hb,hc⟩:=ha.get hpos;have hlen:((zs.take m).map (Value.int UH)).length=m:=by simp;omega
  refine wpList_copy_own hgd d s 22 22 ho 5 Tryz.underlying22 Tryz.sizeU8 g off dLen dCap _ sLen sCap hd hs _ t hr ((zs.take m).map (Value.int UH)) (hlen.trans hmn.symm) ?_ ?_ (Bb _ _) ?_
  ·intro j v hv;have hj:j<m:=by have:=(Af.1 hv).1;rw[hlen] at this;exact this
   rw[Ay,hc j AK];simp[hj,show j<zs.length by omega] at hv;simp[hv,show j<zs.length by omega]
  ·rw[hlen];simpa using hfit
  ·rw[hlen];refine h _ ?_ (Wr.setRow _ _ _);unfold DP;rw[AB hr];simp[List.map_append,List.map_take,List.map_drop]
theorem FL (a:Option Addr) (n cap:Nat) (zs:List Int) (w:UK) (hn:zs.length=n) (hm:64<=n) (ha:At UH w a zs) :
  Calls Tryz.prog 131 #[UD a n cap] w λe w'=>e=.returned (UN ((zs.take 64).map (Value.int UH)).toArray)/\Below w.heap.size w w':=by
 have hmin:Nat.min n 64=64:=Nat.min_eq_right hm;go_enter Tryz.func131,Tryz.ntmps131;go_wp2_with (refine Jv rfl (.tmp 4) (.tmp 5) rfl (w.heap.size+1) 0 64 64 a n cap rfl rfl 122 (List.replicate 64 0) zs (heap_alloc2_new _ _ _) hn (ha.below ((Cs.alloc Cw _).alloc AM _)) 64 hmin AM ?_);intro w3 hrow hwr;have hr1:DP w3 (w.heap.size+1) 122 (zs.take 64):=by simpa using hrow
 have hr0:DP w3 w.heap.size 122 (List.replicate 64 0):=hwr.row (heap_alloc2_old _ _ _) AK;have hbel:Below w.heap.size w w3:=((Cs.alloc Cw _).alloc AM _).trans (hwr.below AK);clear hrow hwr;have hl:(zs.take 64).length=64:=by simp;omega
 generalize hz:zs.take 64=z at *;have HZ:AP (zs.take 64=z):=hz;have hs1:(Tryz.prog.info? 122).map (·.size)=UI ((z.map (Value.int UH)).toArray).size:=by rw[Tryz.sizeSec];simp[hl]
 have HS1:AP _:=hs1;have HR0:AP _:=hr0;have HR1:AP _:=hr1;have HB:AP _:=hbel;clear hs1 hr0 hr1 hbel hz ha hmin;go_wp2_with (first
  |(refine Ab rfl 122 _ rfl (w.heap.size+1) rfl 122 _ (0,0) _ HR1.o Tryz.underlying122 rfl HS1.o ?_)
  |(refine AC 122 (.tmp 2) (.tmp 7) w.heap.size ((z.map (Value.int UH)).toArray) 122 HR0.o HS1.o (by simp[hl]) (all_oneCell_toArray (Bb _ _)) ?_))
 refine AZ (v:=UN (z.map (Value.int UH)).toArray) (AW rfl _ _ w.heap.size 122 _ (0,0) _ rfl (AB HR0.o) Tryz.underlying122 rfl HS1.o) rfl ⟨by rw[HZ.o],?_⟩;exact HB.o.trans ((Wr.setRow _ _ _).below Cw)
def four (x:Int):List Int:=[x%256,x/256%256,x/65536%256,x/16777216]
theorem E8 (x:Int) (w:UK) (hx:D8 x) :
  Calls Tryz.prog 97 #[UE UG x] w λe w'=>e=.returned (UD (UI ⟨w.heap.size,0,UJ⟩) 4 4)/\
   w'=w.alloc (UP #[UE UH (x%256),UE UH (x/256%256),UE UH (x/65536%256),UE UH (x/16777216)] 5):=by
 obtain⟨h0,h1⟩:=hx;go_enter Tryz.func97,Tryz.ntmps97;go_wp2
 go_ret
 exact⟨rfl,rfl⟩
theorem Ee (w:UK) (g k j:Nat):(w.freeze ⟨g,k,UJ⟩ 1).heap[j]?=if j=g then(w.heap[j]?).map (fun|UP c elem (lo,hi)=>UP c elem (if lo == hi then(k,k+1) else(min lo k,max hi (k+1)))|o=>o) else w.heap[j]?:=by
 unfold World.freeze;rw[AS AL];simp only[Array.getElem?_modify];by_cases h:g=j
 ·subst h;simp;rfl
 ·rw[AS h,AS (Bs h)]
theorem Gc (w:UK) (a:Addr) (n:Nat):(w.freeze a n).heap.size=w.heap.size:=by
 unfold World.freeze;split<;>simp
theorem GB (w:UK) (g k B:Nat) (hB:B<=g):Below B w (w.freeze ⟨g,k,UJ⟩ 1):=
 ⟨rfl,rfl,rfl,by rw[Gc];exact AY _,λj hj=>by rw[Ee,AS AK]⟩
theorem Ge (w:UK) (g k:Nat):DJ w (w.freeze ⟨g,k,UJ⟩ 1):=by
 refine⟨by rw[Gc];exact AY _,λa ha=>?_,λb cs t fr hb=>?_⟩
 ·by_cases h:a.block=g
  ·subst h;cases hh:w.heap[a.block]? with
   |none=>simp[World.cell?,Ee,hh]
   |some o=>cases o<;>simp[World.cell?,Ee,hh]
  ·simp[World.cell?,Ee,h]
 ·by_cases h:b=g
  ·subst h;rw[Ee,AR rfl,hb];exact⟨_,rfl⟩
  ·rw[Ee,AS h];exact⟨fr,hb⟩
theorem En (w:UK) (g:Nat) (C:Array UL) (n c:Nat) (fr:Nat×Nat) (hg:w.heap[g]?=UI (UP C 5 fr)) :
  (convert 22 22 (UD (UI ⟨g,0,UJ⟩) n c)).run Tryz.prog w=.ok (UD (UI ⟨g,0,UJ⟩) n c) (w.freeze ⟨g,C.size,UJ⟩ 1):=by
 have hsh:w.shape? g=UI (5,C.size):=by unfold World.shape?;rw[hg]
 simp[convert,run_underlying Tryz.underlying22,run_underlying Tryz.underlying5,markStringish,hsh]
theorem Cy.mono {w w':UK} {v:UL} {zs:List Int} (h:Cy w v zs) (hm:DJ w w'):Cy w' v zs:=by
 obtain⟨b,o,c,rfl,hl,hc⟩:=h;exact⟨b,o,c,rfl,AG hm.size,λi hi=>by rw[hm.cell ⟨b,o+i,UJ⟩ hl];exact hc i hi⟩
theorem ED (w:UK) (cs:Array UL) (zs:List Int) (t:TypeId) (h:cs=(zs.map (Value.int UH)).toArray) (n:Nat) (hn:n=zs.length) (c:Nat):Cy (w.alloc (UP cs t)) (UD (UI ⟨w.heap.size,0,UJ⟩) n c) zs:=by
 subst h;subst hn;refine⟨w.heap.size,0,c,rfl,AM,λi hi=>?_⟩;rw[Bg _ _ (0+i) _ t (0,0) (AV w _)];simp[hi]
theorem Cv (w:UK) (o:Obj):Below w.heap.size w (w.alloc o):=Cs.alloc Cw _
theorem Dl (x:Int) (h:D8 x):Cu (four x):=by
 obtain⟨h0,h1⟩:=h;intro z hz;simp[four] at hz;rcases hz with rfl|rfl|rfl|rfl<;>omega
theorem DT.grow {w w':UK} {B:Nat} {v:UL} {zs:List Int} (h:DT w B v zs) (hb:Below w.heap.size w w'):DT w' B v zs:=by
 refine⟨⟨h.1.1,?_⟩,h.2⟩;rcases h.1.2 with h'|⟨g',c',cur,h',hBg,hh,r⟩
 ·exact .inl h'
 ·exact .inr ⟨g',c',cur,h',hBg,by rw[hb.block _ (AQ.1 hh).1];exact hh,r⟩
theorem DT.lower {w:UK} {B B':Nat} {v:UL} {zs:List Int} (h:DT w B v zs) (hB:B'<=B):DT w B' v zs:=by
 refine⟨⟨h.1.1,?_⟩,h.2⟩;rcases h.1.2 with h'|⟨g',c',cur,h',hBg,hh,r⟩
 ·exact .inl h'
 ·exact .inr ⟨g',c',cur,h',AK,hh,r⟩
def G9 (s k a b:Int):List (List Int):=[four s,[74,49],[k%256,0],four a,four b,List.replicate 40 0]
def Di (s k a b:Int):List Int:=(G9 s k a b).flatten
def G3 (B:Nat) (s k a b:Int):Nat->UK->UL->Prop
 |0,_,v=>v=UM (UI ⟨B,0,UJ⟩)
 |1,_,v=>v=UE UG s
 |2,w,v=>Cy w v (four s)
 |3,w,v=>∃ g fr,v=UD (UI ⟨g,0,UJ⟩) 2 2/\B<g/\w.heap[g]?=UI (UP #[UE UH 74,UE UH 49] 5 fr)
 |4,w,v=>Cy w v [74,49]
 |5,_,v=>v=UM (UI ⟨B,1,UJ⟩)
 |6,_,v=>v=UE .i64 k
 |7,_,v=>v=UE UH (k%256)
 |8,w,v=>Cy w v [k%256,0]
 |9,_,v=>v=UM (UI ⟨B,2,UJ⟩)
 |10,_,v=>v=UE UG a
 |11,w,v=>Cy w v (four a)
 |12,_,v=>v=UM (UI ⟨B,3,UJ⟩)
 |13,_,v=>v=UE UG b
 |14,w,v=>Cy w v (four b)
 |15,w,v=>Cy w v (List.replicate 40 0)
 |16,w,v=>∃(g:Nat) (vs:List UL),v=UD (UI ⟨g,0,UJ⟩) 6 6/\g<w.heap.size/\∀ i,i<6->w.cell? ⟨g,i,UJ⟩=UI (vs.getD i undef)/\Cy w (vs.getD i undef) ((G9 s k a b).getD i [])
 |_,w,v=>Cy w v (Di s k a b)
theorem QU (B:Nat) (s k a b:Int) (i:Nat) (w w':UK) (v:UL) (hm:DJ w w') (h:G3 B s k a b i w v):G3 B s k a b i w' v:=by
 unfold G3 at *;split at h<;>first
  |exact h
  |exact h.mono hm
  |(obtain⟨g,fr,h1,h2,h3⟩:=h;obtain⟨fr',h4⟩:=hm.block g _ _ _ h3;exact⟨g,fr',h1,h2,h4⟩)
  |(obtain⟨g,vs,h1,h2,h3⟩:=h;exact⟨g,vs,h1,AG hm.size,λi hi=>⟨by rw[hm.cell ⟨g,i,UJ⟩ h2];exact(h3 i hi).1,(h3 i hi).2.mono hm⟩⟩)
structure X3 (w w':UK) (s k a b:Int):Prop where
 below:Below w.heap.size w w'
 lt:w.heap.size<w'.heap.size
 c0:w'.cell? ⟨w.heap.size,0,UJ⟩=UI (UE UG s)
 c1:w'.cell? ⟨w.heap.size,1,UJ⟩=UI (UE .i64 k)
 c2:w'.cell? ⟨w.heap.size,2,UJ⟩=UI (UE UG a)
 c3:w'.cell? ⟨w.heap.size,3,UJ⟩=UI (UE UG b)
theorem X3.step {w w' w'':UK} {s k a b:Int} (h:X3 w w' s k a b) (hb:Below w.heap.size w' w'') (hm:DJ w' w''):X3 w w'' s k a b:=
 ⟨h.below.trans hb,AI hm.size h.lt,(hm.cell _ h.lt).trans h.c0,(hm.cell _ h.lt).trans h.c1,(hm.cell _ h.lt).trans h.c2,(hm.cell _ h.lt).trans h.c3⟩
theorem X3.grow {w w' w'':UK} {s k a b:Int} (h:X3 w w' s k a b) (hb:Below w'.heap.size w' w''):X3 w w'' s k a b:=
 h.step (hb.mono (AG h.lt)) (DJ.of_below hb)
def IM (s k a b:Int):List (List Int):=[Di s k a b,four (Gl (Di s k a b)),four s]
def Hm (s k a b:Int):List Int:=(IM s k a b).flatten
theorem IN (s k a b:Int):(Di s k a b).length=56:=by simp[Di,G9,four]
theorem Ll (s k a b:Int) (us:D8 s) (ua:D8 a) (ub:D8 b):Cu (Di s k a b):=by
 intro z hz;simp only[Di,G9,List.flatten_cons,List.flatten_nil,List.mem_append,List.append_nil] at hz;rcases hz with h|h|h|h|h|h
 ·exact Dl s us z h
 ·simp at h;omega
 ·simp at h;omega
 ·exact Dl a ua z h
 ·exact Dl b ub z h
 ·simp at h;omega
def G4 (B:Nat) (s k a b:Int):Nat->UK->UL->Prop
 |0,w,v=>Cy w v (Di s k a b)
 |1,w,v=>Cy w v (Di s k a b)
 |2,_,v=>v=UE UG (Gl (Di s k a b))
 |3,w,v=>Cy w v (four (Gl (Di s k a b)))
 |4,_,v=>v=UM (UI ⟨B,0,UJ⟩)
 |5,_,v=>v=UE UG s
 |6,w,v=>Cy w v (four s)
 |7,w,v=>∃(g:Nat) (vs:List UL),v=UD (UI ⟨g,0,UJ⟩) 3 3/\g<w.heap.size/\∀ i,i<3->w.cell? ⟨g,i,UJ⟩=UI (vs.getD i undef)/\Cy w (vs.getD i undef) ((IM s k a b).getD i [])
 |_,w,v=>DT w B v (Hm s k a b)
theorem QV (B:Nat) (s k a b:Int) (i:Nat) (w w':UK) (v:UL) (hb:Below w.heap.size w w') (h:G4 B s k a b i w v):G4 B s k a b i w' v:=by
 have hm:=DJ.of_below hb;unfold G4 at *;split at h<;>first
  |exact h
  |exact h.mono hm
  |exact DT.grow h hb
  |(obtain⟨g,vs,h1,h2,h3⟩:=h;exact⟨g,vs,h1,AG hm.size,λi hi=>⟨by rw[hm.cell ⟨g,i,UJ⟩ h2];exact(h3 i hi).1,(h3 i hi).2.mono hm⟩⟩)
structure X4 (w w':UK) (s k a b:Int) (v:UL):Prop where
 x:X3 w w' s k a b
 p:Cy w' v (Di s k a b)
theorem X4.grow {w w' w'':UK} {s k a b:Int} {v:UL} (h:X4 w w' s k a b v) (hb:Below w'.heap.size w' w''):X4 w w'' s k a b v:=⟨h.x.grow hb,h.p.below hb⟩
theorem OS (s k a b:Int) (w:UK) (us:D8 s) (ua:D8 a) (ub:D8 b) (hk:1<=k) (hk':k<=3) :
  Calls Tryz.prog 121 #[UN #[UE UG s,UE .i64 k,UE UG a,UE UG b]] w λe w'=>∃ v,e=.returned v/\DT w' w.heap.size v (Hm s k a b)/\Below w.heap.size w w':=by
 have hk1:¬ k<1:=AK
 have hk3:¬ 3<k:=AK
 go_enter Tryz.func121,Tryz.ntmps121;go_wp2_with fail;refine Ae AN ?_
 refine GU (frame:=λu=>{ tmps:=#[UN #[UE UG s,UE .i64 k,UE UG a,UE UG b],UM (UI ⟨w.heap.size,0,UJ⟩),UD UJ 0 0,u 18,UM (UI ⟨w.heap.size,1,UJ⟩),UE .i64 k,UF false,UF false,UM (UI ⟨w.heap.size,1,UJ⟩),UE .i64 k,UF false,UF false,undef,
   u 0,u 1,u 2,u 3,u 4,u 5,u 6,u 7,u 8,u 9,u 10,u 11,u 12,u 13,u 14,u 15,u 16,u 17,undef,undef,undef,undef,undef,undef,undef,undef,undef],defers:=[] })
  (Ext:=λw'=>X3 w w' s k a b) (Good:=G3 w.heap.size s k a b) (QU _ _ _ _ _) AN AN ?hop ?hdone _ _ (λ_=>undef) _ AM ?ext ?start AM
 case start=>intro i hi h;exact absurd h E0
 case ext=>
  have hb:Below w.heap.size w (w.alloc (UP #[UE UG s,UE .i64 k,UE UG a,UE UG b] 112)):=Cv _ _;refine⟨⟨hb.os,hb.tape,hb.output,hb.size,hb.block⟩,AM,?_,?_,?_,?_⟩;all_goals exact Bg _ _ _ _ _ (0,0) (AV w _)
 case hdone=>
  intro u w' hx hg;have h18:Cy w' (u 18) (Di s k a b):=hg 18 AL;clear hg;have hl:(Di s k a b).length=56:=IN s k a b;have hby:=Ll s k a b us ua ub;have ucrc:=IE (Di s k a b);go_wp2;refine Ae AN ?_
  refine Hd (λw w'=>Below w.heap.size w w') (frame:=λt=>{ tmps:=#[UN #[UE UG s,UE .i64 k,UE UG a,UE UG b],UM (UI ⟨w.heap.size,0,UJ⟩),t 9,u 18,UM (UI ⟨w.heap.size,1,UJ⟩),UE .i64 k,UF false,UF false,UM (UI ⟨w.heap.size,1,UJ⟩),UE .i64 k,UF false,UF false,undef,
    u 0,u 1,u 2,u 3,u 4,u 5,u 6,u 7,u 8,u 9,u 10,u 11,u 12,u 13,u 14,u 15,u 16,u 17,t 0,t 1,t 2,t 3,t 4,t 5,t 6,t 7,t 8],defers:=[] })
   (Ext:=λw1=>X4 w w1 s k a b (u 18)) (Good:=G4 w.heap.size s k a b) (QV _ _ _ _ _) AN AN ?hop4 ?hdone4 _ _ (λi=>if i=9 then UD UJ 0 0 else undef) _ AM ?ext4 ?start4 AM
  case start4=>intro i hi h;exact absurd h E0
  case ext4=>
   have hb:Below w'.heap.size w' w'.drew:=Cs.drew;exact⟨⟨hx.below.drew,hx.lt,hx.c0,hx.c1,hx.c2,hx.c3⟩,h18.below hb⟩
  case hdone4=>
   intro t w1 hx1 hg;have h9:DT w1 w.heap.size (t 9) (Hm s k a b):=hg 9 AL;have HX:AP (Below w.heap.size w w1):=hx1.x.below;have HP:AP _:=h9;clear hg hx1 h18 h9 hx;go_wp2
   go_ret
   exact⟨_,rfl,HP.o,HX.o⟩
  case hop4=>
   intro i o t w1 ho hx1 hdep K hK;have hi:i<10:=(AQ.1 ho).1;have c0:=hx1.x.c0;have hlt:=hx1.x.lt;clear hx h18;obtain rfl|rfl|rfl|rfl|rfl|rfl|rfl|rfl|rfl|rfl:i=0\/i=1\/i=2\/i=3\/i=4\/i=5\/i=6\/i=7\/i=8\/i=9:=AK
   all_goals(simp at ho;subst ho)
   ·have hp:=hx1.p;clear hdep;go_simp;exact hK w1 (u 18) hp hx1 Cs
   ·have hp:=hx1.p;clear hdep;go_simp;exact hK w1 (u 18) hp hx1 Cs
   ·obtain⟨bb,oo,cc,d,ll,ee⟩:=hdep ⟨1,UR⟩ AM rfl;have hat:At UH w1 (UI ⟨bb,oo,UJ⟩) (Di s k a b):=.inr ⟨bb,oo,rfl,ll,ee⟩;rw[hl] at d;clear hdep ee;go_simp;refine(KR _ 56 _ (Di s k a b) _ hl AL hat hby).mono ?_;rintro e w2 ⟨rfl,rfl⟩;go_simp;simpa[Cr,d] using hK w2 (UE UG (Gl (Di s k a b))) rfl hx1 Cs
   ·have d:t 2=_:=hdep ⟨2,UR⟩ AM rfl;clear hdep;go_simp;refine(E8 (Gl (Di s k a b)) _ ucrc).mono ?_;rintro e w2 ⟨rfl,rfl⟩;have hb:=Cv w1 (UP #[UE UH ((Gl (Di s k a b))%256),UE UH ((Gl (Di s k a b))/256%256),UE UH ((Gl (Di s k a b))/65536%256),UE UH ((Gl (Di s k a b))/16777216)] 5);go_simp;simpa[Cr,d] using hK (w1.alloc (UP #[UE UH ((Gl (Di s k a b))%256),UE UH ((Gl (Di s k a b))/256%256),UE UH ((Gl (Di s k a b))/65536%256),UE UH ((Gl (Di s k a b))/16777216)] 5)) (UD (UI ⟨w1.heap.size,0,UJ⟩) 4 4) (ED _ #[UE UH ((Gl (Di s k a b))%256),UE UH ((Gl (Di s k a b))/256%256),UE UH ((Gl (Di s k a b))/65536%256),UE UH ((Gl (Di s k a b))/16777216)] (four (Gl (Di s k a b))) _ rfl _ rfl _) (hx1.grow hb) hb
   ·clear hdep;go_simp;exact hK w1 _ rfl hx1 Cs
   ·have d:t 4=_:=hdep ⟨4,UR⟩ AM rfl;clear hdep;go_simp;simpa[Cr,d] using hK w1 (UE UG s) rfl hx1 Cs
   ·have d:t 5=_:=hdep ⟨5,UR⟩ AM rfl;clear hdep;go_simp;refine(E8 s _ us).mono ?_;rintro e w2 ⟨rfl,rfl⟩;have hb:=Cv w1 (UP #[UE UH (s%256),UE UH (s/256%256),UE UH (s/65536%256),UE UH (s/16777216)] 5);go_simp;simpa[Cr,d] using hK (w1.alloc (UP #[UE UH (s%256),UE UH (s/256%256),UE UH (s/65536%256),UE UH (s/16777216)] 5)) (UD (UI ⟨w1.heap.size,0,UJ⟩) 4 4) (ED _ #[UE UH (s%256),UE UH (s/256%256),UE UH (s/65536%256),UE UH (s/16777216)] (four s) _ rfl _ rfl _) (hx1.grow hb) hb
   ·obtain⟨b2,o2,p2,d2,l2,e2⟩:=hdep ⟨0,UR⟩ AM rfl;obtain⟨b4,o4,p4,d4,l4,e4⟩:=hdep ⟨3,UR⟩ AM rfl;obtain⟨b8,o8,p8,d8,l8,e8⟩:=hdep ⟨6,UR⟩ AM rfl;clear hdep;rw[hl] at d2;have hb:=Cv w1 (UP #[UD (UI ⟨b2,o2,UJ⟩) 56 p2,UD (UI ⟨b4,o4,UJ⟩) 4 p4,UD (UI ⟨b8,o8,UJ⟩) 4 p8] 22);have hm:=DJ.of_below hb;have q2:Cy w1 (UD (UI ⟨b2,o2,UJ⟩) 56 p2) (Di s k a b):=⟨b2,o2,p2,by rw[hl],l2,e2⟩
    have q4:Cy w1 (UD (UI ⟨b4,o4,UJ⟩) 4 p4) (four (Gl (Di s k a b))):=⟨b4,o4,p4,rfl,l4,e4⟩
    have q8:Cy w1 (UD (UI ⟨b8,o8,UJ⟩) 4 p8) (four s):=⟨b8,o8,p8,rfl,l8,e8⟩
    have hd2:t 0=UD (UI ⟨b2,o2,UJ⟩) 56 p2:=d2;have hd4:t 3=UD (UI ⟨b4,o4,UJ⟩) 4 p4:=d4;have hd8:t 6=UD (UI ⟨b8,o8,UJ⟩) 4 p8:=d8;have HG:AP (G4 w.heap.size s k a b 7 (w1.alloc (UP #[UD (UI ⟨b2,o2,UJ⟩) 56 p2,UD (UI ⟨b4,o4,UJ⟩) 4 p4,UD (UI ⟨b8,o8,UJ⟩) 4 p8] 22)) (UD (UI ⟨w1.heap.size,0,UJ⟩) 3 3)):=by
     refine⟨w1.heap.size,[UD (UI ⟨b2,o2,UJ⟩) 56 p2,UD (UI ⟨b4,o4,UJ⟩) 4 p4,UD (UI ⟨b8,o8,UJ⟩) 4 p8],rfl,AM,λi hi=>?_⟩;rw[Bg _ _ i _ _ (0,0) (AV w1 _)];obtain rfl|rfl|rfl:i=0\/i=1\/i=2:=AK
     ·exact⟨rfl,q2.mono hm⟩
     ·exact⟨rfl,q4.mono hm⟩
     ·exact⟨rfl,q8.mono hm⟩
    clear e2 e4 e8 d2 d4 d8 q2 q4 q8;go_simp;simpa[Cr,hd2,hd4,hd8] using hK _ _ HG.o (hx1.grow hb) hb
   ·obtain⟨g,vs,d,hgl,hcell⟩:=hdep ⟨7,UR⟩ AM rfl;have hc:=λi hi=>(hcell i hi).1
    have hp:=λi hi=>(hcell i hi).2
    clear hdep hcell;have HC:AP _:=hc;have HP:AP _:=hp;clear hc hp;go_simp;refine(F4 g 3 3 vs (IM s k a b) _ rfl hgl HC.o HP.o (by simp[IM,four,hl]) AL).mono ?_;rintro e w2 ⟨v,rfl,hown,hb⟩;go_simp;simpa[Cr,d] using hK w2 v (hown.lower AK) (hx1.grow hb) hb
   ·have d:=hdep ⟨8,UR⟩ AM rfl;clear hdep;go_simp;exact hK w1 (t 8) d hx1 Cs
 case hop=>
  intro i o u w' ho hx hdep K hK;have hi:i<19:=(AQ.1 ho).1;have c0:=hx.c0;have c1:=hx.c1;have c2:=hx.c2;have c3:=hx.c3;have hlt:=hx.lt;obtain rfl|rfl|rfl|rfl|rfl|rfl|rfl|rfl|rfl|rfl|rfl|rfl|rfl|rfl|rfl|rfl|rfl|rfl|rfl:i=0\/i=1\/i=2\/i=3\/i=4\/i=5\/i=6\/i=7\/i=8\/i=9\/i=10\/i=11\/i=12\/i=13\/i=14\/i=15\/i=16\/i=17\/i=18:=AK
  all_goals(simp at ho;subst ho)
  ·go_simp;exact hK w' _ rfl hx (DJ.refl _)
  ·have d:u 0=_:=hdep ⟨0,UR⟩ AM rfl;go_simp;simpa[Cr,d] using hK w' (UE UG s) rfl hx (DJ.refl _)
  ·have d:u 1=_:=hdep ⟨1,UR⟩ AM rfl;go_simp;refine(E8 s _ us).mono ?_;rintro e w1 ⟨rfl,rfl⟩;have hb:=Cv w' (UP #[UE UH (s%256),UE UH (s/256%256),UE UH (s/65536%256),UE UH (s/16777216)] 5);go_simp;simpa[Cr,d] using hK (w'.alloc (UP #[UE UH (s%256),UE UH (s/256%256),UE UH (s/65536%256),UE UH (s/16777216)] 5)) (UD (UI ⟨w'.heap.size,0,UJ⟩) 4 4) (ED _ #[UE UH (s%256),UE UH (s/256%256),UE UH (s/65536%256),UE UH (s/16777216)] (four s) _ rfl _ rfl _) (hx.grow hb) (DJ.of_below hb)
  ·have hb:=Cv w' (UP #[UE UH 74,UE UH 49] 5);go_simp;exact hK _ _ ⟨w'.heap.size,(0,0),rfl,hlt,AV w' _⟩ (hx.grow hb) (DJ.of_below hb)
  ·obtain⟨g,fr,d,hBg,hh⟩:=hdep ⟨3,UR⟩ AM rfl;have hcv:=En w' g _ 2 2 fr hh;have hm:=Ge w' g 2;have hgl:g<w'.heap.size:=(AQ.1 hh).1;have hp:Cy w' (UD (UI ⟨g,0,UJ⟩) 2 2) [74,49]:=⟨g,0,2,rfl,hgl,λi hi=>by
    rw[Bg _ _ (0+i) _ _ fr hh];have:i=0\/i=1:=by simp at hi;omega
    rcases this with rfl|rfl<;>rfl⟩
   clear hdep;go_simp;simpa[Cr,d] using hK (w'.freeze ⟨g,2,UJ⟩ 1) (UD (UI ⟨g,0,UJ⟩) 2 2) (hp.mono hm) (hx.step (GB w' g 2 _ AK) hm) hm
  ·go_simp;exact hK w' _ rfl hx (DJ.refl _)
  ·have d:u 5=_:=hdep ⟨5,UR⟩ AM rfl;go_simp;simpa[Cr,d] using hK w' (UE .i64 k) rfl hx (DJ.refl _)
  ·have d:u 6=_:=hdep ⟨6,UR⟩ AM rfl;go_simp;simpa[Cr,d,IntKind.wrap_u8] using hK w' (UE UH (k%256)) rfl hx (DJ.refl _)
  ·have d:u 7=_:=hdep ⟨7,UR⟩ AM rfl;have hb:=Cv w' (UP #[UE UH (k%256),UE UH 0] 5);go_simp;simpa[Cr,d] using hK _ (UD (UI ⟨w'.heap.size,0,UJ⟩) 2 2) (ED _ _ [k%256,0] _ rfl _ rfl _) (hx.grow hb) (DJ.of_below hb)
  ·go_simp;exact hK w' _ rfl hx (DJ.refl _)
  ·have d:u 9=_:=hdep ⟨9,UR⟩ AM rfl;go_simp;simpa[Cr,d] using hK w' (UE UG a) rfl hx (DJ.refl _)
  ·have d:u 10=_:=hdep ⟨10,UR⟩ AM rfl;go_simp;refine(E8 a _ ua).mono ?_;rintro e w1 ⟨rfl,rfl⟩;have hb:=Cv w' (UP #[UE UH (a%256),UE UH (a/256%256),UE UH (a/65536%256),UE UH (a/16777216)] 5);go_simp;simpa[Cr,d] using hK (w'.alloc (UP #[UE UH (a%256),UE UH (a/256%256),UE UH (a/65536%256),UE UH (a/16777216)] 5)) (UD (UI ⟨w'.heap.size,0,UJ⟩) 4 4) (ED _ #[UE UH (a%256),UE UH (a/256%256),UE UH (a/65536%256),UE UH (a/16777216)] (four a) _ rfl _ rfl _) (hx.grow hb) (DJ.of_below hb)
  ·go_simp;exact hK w' _ rfl hx (DJ.refl _)
  ·have d:u 12=_:=hdep ⟨12,UR⟩ AM rfl;go_simp;simpa[Cr,d] using hK w' (UE UG b) rfl hx (DJ.refl _)
  ·have d:u 13=_:=hdep ⟨13,UR⟩ AM rfl;go_simp;refine(E8 b _ ub).mono ?_;rintro e w1 ⟨rfl,rfl⟩;have hb:=Cv w' (UP #[UE UH (b%256),UE UH (b/256%256),UE UH (b/65536%256),UE UH (b/16777216)] 5);go_simp;simpa[Cr,d] using hK (w'.alloc (UP #[UE UH (b%256),UE UH (b/256%256),UE UH (b/65536%256),UE UH (b/16777216)] 5)) (UD (UI ⟨w'.heap.size,0,UJ⟩) 4 4) (ED _ #[UE UH (b%256),UE UH (b/256%256),UE UH (b/65536%256),UE UH (b/16777216)] (four b) _ rfl _ rfl _) (hx.grow hb) (DJ.of_below hb)
  ·go_simp;refine(JO 40 _ AL AL).mono ?_;rintro e w1 ⟨v,rfl,hown,hb⟩;go_simp;exact hK w1 v hown.part (hx.grow hb) (DJ.of_below hb)
  ·obtain⟨b2,o2,p2,d2,l2,e2⟩:=hdep ⟨2,UR⟩ AM rfl;obtain⟨b4,o4,p4,d4,l4,e4⟩:=hdep ⟨4,UR⟩ AM rfl;obtain⟨b8,o8,p8,d8,l8,e8⟩:=hdep ⟨8,UR⟩ AM rfl;obtain⟨b11,o11,p11,d11,l11,e11⟩:=hdep ⟨11,UR⟩ AM rfl;obtain⟨b14,o14,p14,d14,l14,e14⟩:=hdep ⟨14,UR⟩ AM rfl;obtain⟨b15,o15,p15,d15,l15,e15⟩:=hdep ⟨15,UR⟩ AM rfl;clear hdep;have hb:=Cv w' (UP #[UD (UI ⟨b2,o2,UJ⟩) 4 p2,UD (UI ⟨b4,o4,UJ⟩) 2 p4,UD (UI ⟨b8,o8,UJ⟩) 2 p8,UD (UI ⟨b11,o11,UJ⟩) 4 p11,UD (UI ⟨b14,o14,UJ⟩) 4 p14,UD (UI ⟨b15,o15,UJ⟩) 40 p15] 22);have hm:=DJ.of_below hb;have q2:Cy w' (UD (UI ⟨b2,o2,UJ⟩) 4 p2) (four s):=⟨b2,o2,p2,rfl,l2,e2⟩
   have q4:Cy w' (UD (UI ⟨b4,o4,UJ⟩) 2 p4) [74,49]:=⟨b4,o4,p4,rfl,l4,e4⟩
   have q8:Cy w' (UD (UI ⟨b8,o8,UJ⟩) 2 p8) [k%256,0]:=⟨b8,o8,p8,rfl,l8,e8⟩
   have q11:Cy w' (UD (UI ⟨b11,o11,UJ⟩) 4 p11) (four a):=⟨b11,o11,p11,rfl,l11,e11⟩
   have q14:Cy w' (UD (UI ⟨b14,o14,UJ⟩) 4 p14) (four b):=⟨b14,o14,p14,rfl,l14,e14⟩
   have q15:Cy w' (UD (UI ⟨b15,o15,UJ⟩) 40 p15) (List.replicate 40 0):=⟨b15,o15,p15,rfl,l15,e15⟩
   have hd2:u 2=UD (UI ⟨b2,o2,UJ⟩) 4 p2:=d2;have hd4:u 4=UD (UI ⟨b4,o4,UJ⟩) 2 p4:=d4;have hd8:u 8=UD (UI ⟨b8,o8,UJ⟩) 2 p8:=d8;have hd11:u 11=UD (UI ⟨b11,o11,UJ⟩) 4 p11:=d11;have hd14:u 14=UD (UI ⟨b14,o14,UJ⟩) 4 p14:=d14;have hd15:u 15=UD (UI ⟨b15,o15,UJ⟩) 40 p15:=d15;have HG:AP (G3 w.heap.size s k a b 16 (w'.alloc (UP #[UD (UI ⟨b2,o2,UJ⟩) 4 p2,UD (UI ⟨b4,o4,UJ⟩) 2 p4,UD (UI ⟨b8,o8,UJ⟩) 2 p8,UD (UI ⟨b11,o11,UJ⟩) 4 p11,UD (UI ⟨b14,o14,UJ⟩) 4 p14,UD (UI ⟨b15,o15,UJ⟩) 40 p15] 22)) (UD (UI ⟨w'.heap.size,0,UJ⟩) 6 6)):=by
    refine⟨w'.heap.size,[UD (UI ⟨b2,o2,UJ⟩) 4 p2,UD (UI ⟨b4,o4,UJ⟩) 2 p4,UD (UI ⟨b8,o8,UJ⟩) 2 p8,UD (UI ⟨b11,o11,UJ⟩) 4 p11,UD (UI ⟨b14,o14,UJ⟩) 4 p14,UD (UI ⟨b15,o15,UJ⟩) 40 p15],rfl,AM,λi hi=>?_⟩;rw[Bg _ _ i _ _ (0,0) (AV w' _)];obtain rfl|rfl|rfl|rfl|rfl|rfl:i=0\/i=1\/i=2\/i=3\/i=4\/i=5:=AK
    ·exact⟨rfl,q2.mono hm⟩
    ·exact⟨rfl,q4.mono hm⟩
    ·exact⟨rfl,q8.mono hm⟩
    ·exact⟨rfl,q11.mono hm⟩
    ·exact⟨rfl,q14.mono hm⟩
    ·exact⟨rfl,q15.mono hm⟩
   clear e2 e4 e8 e11 e14 e15 d2 d4 d8 d11 d14 d15 q2 q4 q8 q11 q14 q15;go_simp;simpa[Cr,hd2,hd4,hd8,hd11,hd14,hd15] using hK _ _ HG.o (hx.grow hb) hm
  ·obtain⟨g,vs,d,hgl,hcell⟩:=hdep ⟨16,UR⟩ AM rfl;have hc:=λi hi=>(hcell i hi).1
   have hp:=λi hi=>(hcell i hi).2
   clear hdep hcell;have HC:AP _:=hc;have HP:AP _:=hp;clear hc hp;go_simp;refine(F4 g 6 6 vs (G9 s k a b) _ rfl hgl HC.o HP.o (by simp[G9,four]) AL).mono ?_;rintro e w1 ⟨v,rfl,hown,hb⟩;go_simp;simpa[Cr,d] using hK w1 v hown.part (hx.grow hb) (DJ.of_below hb)
  ·have d:=hdep ⟨17,UR⟩ AM rfl;clear hdep;go_simp;exact hK w' (u 17) d hx (DJ.refl _)
theorem QW (s k a b:Int) (w:UK) (hk:k<1\/3<k) :
  Calls Tryz.prog 121 #[UN #[UE UG s,UE .i64 k,UE UG a,UE UG b]] w λe w'=>∃ v,e=.returned v/\Cy w' v []/\Below w.heap.size w w':=by
 by_cases h1:k<1
 ·have h1':decide (k<1)=true:=by simpa using h1
  go_enter Tryz.func121,Tryz.ntmps121;go_wp2
  go_ret
  exact⟨_,rfl,⟨_,0,0,rfl,AM,λi hi=>by simp at hi⟩,(Cs.alloc Cw _).alloc AM _⟩
 ·have h3:3<k:=AK
  go_enter Tryz.func121,Tryz.ntmps121;go_wp2
  go_ret
  exact⟨_,rfl,⟨_,0,0,rfl,AM,λi hi=>by simp at hi⟩,(Cs.alloc Cw _).alloc AM _⟩
end Go.Proofs.YthmeoilbmfdhfaaGreat
