import Derived.Test.YthmeoilbmfdhfaaGreatSnA
import Derived.Test.YthmeoilbmfdhfaaGreatMFrE
open Go.Value renaming slice->UD,pointer->UM
open Option renaming some->UI,none->UJ
open Go renaming World->UK
namespace Go.Proofs.YthmeoilbmfdhfaaGreat
set_option maxHeartbeats 2000000
set_option maxRecDepth 100000
open Go.ChangeShapes Go.WideShapes Go.ChangeAt Go.RowKit
set_option linter.unusedVariables false
def JL (lo:Nat) (w:UK) (v:Value) (zs:List Int):Prop:=∃ B,lo<=B/\DT w B v zs
theorem DT.keepB {B:Nat} {w w':UK} {v:Value} {zs:List Int} (h:DT w B v zs) (b:Below w.heap.size w w'):DT w' B v zs:=by
 refine⟨⟨h.1.1,?_⟩,h.2⟩;rcases h.1.2 with h'|⟨g,c,cur,h1,h2,h3,h4⟩
 ·exact .inl h'
 ·exact .inr ⟨g,c,cur,h1,h2,by rw[b.block g (AQ.1 h3).1];exact h3,h4⟩
theorem JL.below {lo:Nat} {w w':UK} {v:Value} {zs:List Int} (h:JL lo w v zs) (b:Below w.heap.size w w'):JL lo w' v zs:=by
 obtain⟨B,hB,h⟩:=h;exact⟨B,hB,h.keepB b⟩
def Ou (lo g:Nat) (w:UK) (v:Value):Prop:=∃ q,v=UD (UI ⟨q,0,UJ⟩) 2 2/\lo<=q/\w.heap[q]?=UI (.cells #[UD (UI ⟨g,0,UJ⟩) 64 64,UD (UI ⟨g,64,UJ⟩) 64 64] 22 (0,0))
theorem Ou.below {lo g:Nat} {w w':UK} {v:Value} (h:Ou lo g w v) (b:Below w.heap.size w w'):Ou lo g w' v:=by
 obtain⟨q,e,h1,h2⟩:=h;exact⟨q,e,h1,by rw[b.block q (AQ.1 h2).1];exact h2⟩
theorem DP.part0 {w:UK} {g:Nat} {t:TypeId} {zs:List Int} (h:DP w g t zs) (hl:zs.length=128):Cy w (UD (UI ⟨g,0,UJ⟩) 64 64) (zs.take 64):=
 ⟨g,0,64,by rw[Az,hl];rfl,h.lt,λi hi=>by
  rw[Az] at hi;rw[Ak,h.cell i AK];simp[List.getD,show i<64 by omega]⟩
theorem DP.part1 {w:UK} {g:Nat} {t:TypeId} {zs:List Int} (h:DP w g t zs) (hl:zs.length=128):Cy w (UD (UI ⟨g,64,UJ⟩) 64 64) (zs.drop 64):=
 ⟨g,64,64,by rw[Bj,hl],h.lt,λi hi=>by
  rw[Bj] at hi;rw[h.cell (64+i) AK];simp[List.getD]⟩
theorem Ov (g:Nat) (zs:List Int) (w:UK) (hr:DP w g 124 zs) (hl:zs.length=128) :
  Calls Tryz.prog 162 #[UM (UI ⟨g,0,UJ⟩)] w λe w'=>∃ v,e=.returned v/\JL w.heap.size w' v zs/\Below w.heap.size w w':=by
 have HRW:AP (g<w.heap.size/\w.heap[g]?=UI (.cells (zs.map (Value.int .u8)).toArray 124 (0,0))):=⟨hr.lt,hr⟩
 have HLZ:AP (zs.length=128):=hl;have HFL:AP ([zs.take 64,zs.drop 64].flatten=zs):=by show _=_;simp
 clear hr hl;go_enter Tryz.func162,Tryz.ntmps162;go_wp2_with fail;refine Ae AN ?_;refine C3 (λ_ a b=>Below a.heap.size a b) (frame:=(λ(a b:Value)=>λ(t:Nat->Value)=>({ tmps:=List.toArray [a,b,t 10,t 0,t 1,t 2,t 3,t 4,t 5,t 6,t 7,t 8,t 9],defers:=[] }:Act)) _ _)
  (Ext:=λL u w'=>IV w [] L u w') (Good:=λi L w' v=>if i=0 then v=UM (UI ⟨g,0,UJ⟩) else if i=1 then v=UM (UI ⟨g,0,UJ⟩) else if i=2 then v=UM (UI ⟨g,0,UJ⟩) else if i=3 then v=UD (UI ⟨g,0,UJ⟩) 64 64 else if i=4 then v=UM (UI ⟨g,0,UJ⟩) else if i=5 then v=UM (UI ⟨g,0,UJ⟩) else if i=6 then v=UM (UI ⟨g,64,UJ⟩) else if i=7 then v=UD (UI ⟨g,64,UJ⟩) 64 64 else if i=8 then Ou w.heap.size g w' v else if i=9 then JL w.heap.size w' v zs else if i=10 then JL w.heap.size w' v zs else True) ?hstab AN ?hop ?hdone _ _ ((λ(x0 x1 x2 x3 x4 x5 x6 x7 x8 x9 x10:Value)=>λ(i:Nat)=>if i=0 then x0 else if i=1 then x1 else if i=2 then x2 else if i=3 then x3 else if i=4 then x4 else if i=5 then x5 else if i=6 then x6 else if i=7 then x7 else if i=8 then x8 else if i=9 then x9 else if i=10 then x10 else undef) _ _ _ _ _ _ _ _ _ _ _) _ AM ?ext ?start AM
 case start=>intro i hi h;exact absurd h E0
 case ext=>exact(IV.start w [] _ _ (λ_=>FJ)).drew
 case hstab=>
  intro j L w9 w' i v hM _ _ h;by_cases h8:j=8
  ·subst h8;simp at h |-;exact h.below hM
  by_cases h9:j=9
  ·subst h9;simp at h |-;exact h.below hM
  by_cases h10:j=10
  ·subst h10;simp at h |-;exact h.below hM
  simp only[if_neg h8,if_neg h9,if_neg h10] at h |-;exact h
 case hop=>
  intro i o L t w' ho hLi hx hdep K hK;have hi:i<11:=(AQ.1 ho).1;obtain rfl|rfl|rfl|rfl|rfl|rfl|rfl|rfl|rfl|rfl|rfl:i=0\/i=1\/i=2\/i=3\/i=4\/i=5\/i=6\/i=7\/i=8\/i=9\/i=10:=AK
  all_goals(simp at ho;subst ho)
  ·clear hdep;have hK':=hK w' (UM (UI ⟨g,0,UJ⟩)) AM (hx.step 0 _ Cs C7) Cs;clear hK;rw[AR AO];go_simp;simpa[Cr] using hK'
  ·have d0:t 0=UM (UI ⟨g,0,UJ⟩):=by simpa using(hdep ⟨0,.data⟩ AM rfl).2
   clear hdep;have hK':=hK w' (UM (UI ⟨g,0,UJ⟩)) AM (hx.step 1 _ Cs C7) Cs;clear hK;rw[AR AO];go_simp;simpa[Cr,d0] using hK'
  ·have d1:t 1=UM (UI ⟨g,0,UJ⟩):=by simpa using(hdep ⟨1,.data⟩ AM rfl).2
   clear hdep;have hK':=hK w' (UM (UI ⟨g,0,UJ⟩)) AM (hx.step 2 _ Cs C7) Cs;clear hK;rw[AR AO];go_simp;simpa[Cr,d1] using hK'
  ·have d2:t 2=UM (UI ⟨g,0,UJ⟩):=by simpa using(hdep ⟨2,.data⟩ AM rfl).2
   clear hdep;have hK':=hK w' (UD (UI ⟨g,0,UJ⟩) 64 64) AM (hx.step 3 _ Cs C7) Cs;clear hK;rw[AR AO];go_simp;simpa[Cr,d2] using hK'
  ·clear hdep;have hK':=hK w' (UM (UI ⟨g,0,UJ⟩)) AM (hx.step 4 _ Cs C7) Cs;clear hK;rw[AR AO];go_simp;simpa[Cr] using hK'
  ·have d4:t 4=UM (UI ⟨g,0,UJ⟩):=by simpa using(hdep ⟨4,.data⟩ AM rfl).2
   clear hdep;have hK':=hK w' (UM (UI ⟨g,0,UJ⟩)) AM (hx.step 5 _ Cs C7) Cs;clear hK;rw[AR AO];go_simp;simpa[Cr,d4] using hK'
  ·have d5:t 5=UM (UI ⟨g,0,UJ⟩):=by simpa using(hdep ⟨5,.data⟩ AM rfl).2
   clear hdep;have hK':=hK w' (UM (UI ⟨g,64,UJ⟩)) AM (hx.step 6 _ Cs C7) Cs;clear hK;rw[AR AO];go_simp;simpa[Cr,d5] using hK'
  ·have d6:t 6=UM (UI ⟨g,64,UJ⟩):=by simpa using(hdep ⟨6,.data⟩ AM rfl).2
   clear hdep;have hK':=hK w' (UD (UI ⟨g,64,UJ⟩) 64 64) AM (hx.step 7 _ Cs C7) Cs;clear hK;rw[AR AO];go_simp;simpa[Cr,d6] using hK'
  ·have d3:t 3=UD (UI ⟨g,0,UJ⟩) 64 64:=by simpa using(hdep ⟨3,.data⟩ AM rfl).2
   have d7:t 7=UD (UI ⟨g,64,UJ⟩) 64 64:=by simpa using(hdep ⟨7,.data⟩ AM rfl).2
   clear hdep;have hsz:w.heap.size<=w'.heap.size:=hx.below.size;have bb:Below w'.heap.size w' (w'.alloc (.cells #[UD (UI ⟨g,0,UJ⟩) 64 64,UD (UI ⟨g,64,UJ⟩) 64 64] 22)):=Cs.alloc Cw _;have hK':=hK (w'.alloc (.cells #[UD (UI ⟨g,0,UJ⟩) 64 64,UD (UI ⟨g,64,UJ⟩) 64 64] 22)) (UD (UI ⟨w'.heap.size,0,UJ⟩) 2 2) (by simpa using⟨w'.heap.size,rfl,hsz,AV w' _⟩) (hx.step 8 _ bb C7) bb;clear hK bb;rw[AR AO];go_simp;simpa[Cr,d3,d7] using hK'
  ·have f8:Ou w.heap.size g w' (t 8):=by simpa using(hdep ⟨8,.data⟩ AM rfl).2
   clear hdep;obtain⟨q,d8,hq,hrow⟩:=f8;have hrg:DP w' g 124 zs:=by unfold DP;rw[hx.below.block _ HRW.o.1];exact HRW.o.2
   have hsz:w.heap.size<=w'.heap.size:=hx.below.size;have A:=Of q 2 2 [UD (UI ⟨g,0,UJ⟩) 64 64,UD (UI ⟨g,64,UJ⟩) 64 64] [zs.take 64,zs.drop 64] w' rfl (AQ.1 hrow).1 (λi hi=>by
    rw[AA hrow i];have:i=0\/i=1:=AK
    rcases this with rfl|rfl<;>rfl) (λi hi=>by
    have:i=0\/i=1:=AK
    rcases this with rfl|rfl
    ·exact hrg.part0 HLZ.o
    ·exact hrg.part1 HLZ.o) (by rw[HFL.o,HLZ.o];decide) (by rw[HFL.o,HLZ.o];decide) AL
   rw[HFL.o] at A;have hK':∀ ww v,JL w.heap.size ww v zs->Below w'.heap.size w' ww->K _ ww:=λww v hv hb=>hK ww v (by simpa using hv) (hx.step 9 v hb C7) hb
   clear hK hrg hrow;rw[AR AO];go_simp;try simp only[d8]
   refine A.mono ?_;rintro e w9 ⟨v9,rfl,hv9,hb9⟩;have hK2:=hK' w9 v9 ⟨w'.heap.size,hsz,hv9⟩ hb9;clear hK' A hv9 hb9;go_simp;simpa[Cr,d8] using hK2
  ·have f9:JL w.heap.size w' (t 9) zs:=by simpa using(hdep ⟨9,.data⟩ AM rfl).2
   clear hdep;have hK':=hK w' (t 9) (by simpa using f9) (hx.step 10 _ Cs C7) Cs;clear hK;rw[AR AO];go_simp;simpa[Cr] using hK'
 case hdone=>
  intro L t w' hx hg;have f10:JL w.heap.size w' (t 10) zs:=by simpa using hg 10 AL
  clear hg;have HF:AP (JL w.heap.size w' (t 10) zs/\Below w.heap.size w w'):=⟨f10,hx.below⟩
  clear f10 hx;go_wp2
  go_ret
  exact⟨t 10,rfl,HF.o.1,HF.o.2⟩
theorem Ow (g:Nat) (zs:List Int) (w:UK) (hr:DP w g 124 zs) (hl:zs.length=128) (hb:Cu zs) :
  Calls Tryz.prog 148 #[UM (UI ⟨g,0,UJ⟩)] w λe w'=>e=.returned (.int .u32 (Gl (zs.take 120)))/\Below w.heap.size w w':=by
 have HT:=Ov g zs w hr hl;have HLZ:AP (zs.length=128/\Cu zs):=⟨hl,hb⟩
 clear hr hl hb;go_enter Tryz.func148,Tryz.ntmps148;go_wp2_with fail;refine HT.mono ?_;rintro e w1 ⟨v1,rfl,⟨B,hB,ho⟩,hb1⟩;obtain⟨q,c,e1,hq,hql,hqc⟩:=ho.base;have hc128:128<=c:=AG HLZ.o.1
 rw[HLZ.o.1] at e1;subst e1;have HA:AP (At .u8 w1 (UI ⟨q,0,UJ⟩) (zs.take 120)):=.inr ⟨q,0,rfl,hql,λi hi=>by
  obtain⟨b,o,c',e2,hb',hcell⟩:=ho.part;injection e2 with e3
  injection e3 with e3
  injection e3 with e4 e5
  subst e4 e5;rw[Az] at hi;rw[hcell i AK];simp[List.getD,show i<120 by omega]⟩
 have HB1:AP (Below w.heap.size w w1):=hb1;have HC:AP (∀ cap,Calls Tryz.prog 157 #[UD (UI ⟨q,0,UJ⟩) 120 cap] w1 λe w'=>e=.returned (.int .u32 (Gl (zs.take 120)))/\w'=w1):=λcap=>KQ _ 120 cap (zs.take 120) w1 (by rw[Az,HLZ.o.1];rfl) AL HA.o (λz hz=>HLZ.o.2 z (Bi hz))
 clear ho hb1 HT hB hq hql hqc;go_wp2_with fail;refine(HC.o _).mono ?_;rintro e w2 ⟨rfl,rfl⟩;clear HC HA;generalize hz:Gl (zs.take 120)=z at *;have HZ:AP (Gl (zs.take 120)=z):=hz;clear hz;go_wp2
 go_ret
 exact⟨DW HZ.o.symm,HB1.o⟩
theorem Jc (g i:Nat) (w:UK) (hi:i<16) :
  Calls Tryz.prog 147 #[UM (UI ⟨g,0,UJ⟩),.int .i64 i] w λe w'=>∃ c,e=.returned (UD (UI ⟨g,if i<8 then 44+2*i else 56+2*i,UJ⟩) 2 c)/\w'=w:=by
 obtain rfl|rfl|rfl|rfl|rfl|rfl|rfl|rfl|rfl|rfl|rfl|rfl|rfl|rfl|rfl|rfl:i=0\/i=1\/i=2\/i=3\/i=4\/i=5\/i=6\/i=7\/i=8\/i=9\/i=10\/i=11\/i=12\/i=13\/i=14\/i=15:=AK
 all_goals
  go_enter Tryz.func147,Tryz.ntmps147;go_wp2
  go_ret
  first|exact⟨_,rfl,rfl⟩|exact⟨⟨_,rfl⟩,rfl⟩
end Go.Proofs.YthmeoilbmfdhfaaGreat
