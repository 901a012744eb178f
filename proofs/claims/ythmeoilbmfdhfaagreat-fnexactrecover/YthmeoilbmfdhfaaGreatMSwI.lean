import Derived.Test.YthmeoilbmfdhfaaGreatMDevMark
import Derived.Test.YthmeoilbmfdhfaaGreatMDevValI
open Go.Value renaming slice->UD,int->UE,pointer->UM,agg->UN
open Go.Obj renaming cells->UP
open Go.Ground renaming data->UR
open Option renaming some->UI,none->UJ
open Go renaming World->UK,Value->UL
namespace Go.Proofs.YthmeoilbmfdhfaaGreat
set_option maxHeartbeats 4000000
set_option maxRecDepth 100000
open Go.ChangeShapes Go.WideShapes Go.ChangeAt Go.RowKit
set_option linter.unusedVariables false
theorem Iow.mono {B B':Nat} {w:UK} {v:UL} {xs:List Int} (h:Iow B' w v xs) (hB:B<=B'):Iow B w v xs:=by
 refine⟨h.1,?_⟩;rcases h.2 with h'|⟨g,c,cur,h1,h2,h3⟩
 ·exact .inl h'
 ·exact .inr ⟨g,c,cur,h1,AK,h3⟩
theorem Iow.fresh {w w':UK} {v:UL} {xs:List Int} (h:Iow w.heap.size w' v xs):Kf w w' v:=λk hk=>by
 rcases h.2 with⟨h',_⟩|⟨g,c,cur,h',hb,hh,_⟩
 ·rw[h'] at hk;simp[Value.ownBlock] at hk
 ·rw[h'] at hk;simp[Value.ownBlock] at hk;have:=(AQ.1 hh).1;omega
theorem Iow.form {B:Nat} {w:UK} {v:UL} {xs:List Int} (h:Iow B w v xs):∃ a n c,v=UD a n c:=by
 rcases h.2 with⟨h',_⟩|⟨g,c,cur,h',_⟩
 ·exact⟨_,_,_,h'⟩
 ·exact⟨_,_,_,h'⟩
theorem Iow.keep {B:Nat} {w w':UK} {v:UL} {xs:List Int} (h:Iow B w v xs) (hb:∀ k,B<=k->k<w.heap.size->w'.heap[k]?=w.heap[k]?):Iow B w' v xs:=by
 refine⟨h.1,?_⟩;rcases h.2 with h'|⟨g,c,cur,h1,h2,h3,h4⟩
 ·exact .inl h'
 ·exact .inr ⟨g,c,cur,h1,h2,by rw[hb g h2 (AQ.1 h3).1];exact h3,h4⟩
theorem Iow.below {B:Nat} {w w':UK} {v:UL} {xs:List Int} (h:Iow B w v xs) (b:Below w.heap.size w w'):Iow B w' v xs:=h.keep (λk _ hk=>b.block k hk)
theorem Iow.wr {B R:Nat} {w w':UK} {v:UL} {xs:List Int} (h:Iow B w v xs) (hw:Wr R w w') (hR:R<B):Iow B w' v xs:=h.keep (λk hk _=>hw.block k AK)
def Kv (lo:Nat) (k:Int) (aT:Option Addr) (nT cT:Nat) (X Y:List Int) (w:UK) (cs:Array UL):Prop:=
 ∃ aD nD cD aU nU cU,cs=#[UD aD nD cD,UD aU nU cU,UE .i64 k,UD aT nT cT]/\Iow lo w (UD aD nD cD) X/\Iow lo w (UD aU nU cU) Y/\Se (UD aD nD cD) (UD aU nU cU)
theorem Kv.below {lo:Nat} {k:Int} {aT:Option Addr} {nT cT:Nat} {X Y:List Int} {w w':UK} {cs:Array UL} (h:Kv lo k aT nT cT X Y w cs) (b:Below w.heap.size w w'):Kv lo k aT nT cT X Y w' cs:=by
 obtain⟨aD,nD,cD,aU,nU,cU,e,h1,h2,h3⟩:=h;exact⟨aD,nD,cD,aU,nU,cU,e,h1.below b,h2.below b,h3⟩
def Kw (lo:Nat) (k:Int) (aT:Option Addr) (nT cT:Nat) (X Y:List Int) (w:UK) (v:UL):Prop:=∃ cs,v=UN cs/\Kv lo k aT nT cT X Y w cs
theorem Kw.below {lo:Nat} {k:Int} {aT:Option Addr} {nT cT:Nat} {X Y:List Int} {w w':UK} {v:UL} (h:Kw lo k aT nT cT X Y w v) (b:Below w.heap.size w w'):Kw lo k aT nT cT X Y w' v:=by
 obtain⟨cs,e,h⟩:=h;exact⟨cs,e,h.below b⟩
theorem Kw.wr {lo R:Nat} {k:Int} {aT:Option Addr} {nT cT:Nat} {X Y:List Int} {w w':UK} {v:UL} (h:Kw lo k aT nT cT X Y w v) (hw:Wr R w w') (hR:R<lo):Kw lo k aT nT cT X Y w' v:=by
 obtain⟨cs,e,aD,nD,cD,aU,nU,cU,e2,h1,h2,h3⟩:=h;exact⟨cs,e,aD,nD,cD,aU,nU,cU,e2,h1.wr hw hR,h2.wr hw hR,h3⟩
theorem Ja {w:UK} {g:Nat} {d u:List Int} {k:Int} (aT:Option Addr) (nT cT:Nat) (P Q:Nat->Bool) (hb:Bk w g d u k (UD aT nT cT)) (hd:DV d (λv=>P v=true)) (hu:DV u (λv=>Q v=true)) :
  Calls Tryz.prog 40 #[UM (UI ⟨g,0,UJ⟩)] w λe w'=>∃ aD nD cD aU nU cU,e=.returned (UN #[UD aD nD cD,UD aU nU cU,UE .i64 k,UD aT nT cT])/\Iow w.heap.size w' (UD aD nD cD) (Dg P 256)/\Iow w.heap.size w' (UD aU nU cU) (Dg Q 256)/\Se (UD aD nD cD) (UD aU nU cU)/\Below w.heap.size w w':=by
 have HBK:AP (Bk w g d u k (UD aT nT cT)):=hb;have HGL:AP (g<w.heap.size):=hb.lt;have HSD:AP (DV d (λv=>P v=true)):=hd;have HSU:AP (DV u (λv=>Q v=true)):=hu;have HSZ:AP ((Tryz.prog.info? 34).map (·.size)=UI 4):=by show _=_;kernel_rfl
 have HW0:AP (Below w.heap.size w (w.alloc (UP Cf 34)).drew):=by
  have h1:Below w.heap.size w (w.alloc (UP Cf 34)):=Cs.alloc Cw _;exact⟨h1.os,h1.tape,h1.output,h1.size,h1.block⟩
 have HR0:AP ((w.alloc (UP Cf 34)).drew.heap[w.heap.size]?=UI (UP Cf 34 (0,0))):=AV w _;clear hb hd hu;go_enter Tryz.func40,Tryz.ntmps40;go_wp2_with fail;refine Ae AN ?_;refine C3 (λi a b=>if i=17 then Wr (w.heap.size) a b else Below a.heap.size a b) (frame:=(λ(a b c:UL)=>λ(t:Nat->UL)=>({ tmps:=List.toArray [a,b,c,t 0,t 1,t 2,t 3,t 4,t 5,t 6,t 7,t 8,t 9,t 10,t 11,t 12,t 13,t 14,t 15,t 16],defers:=[] }:Act)) _ _ _)
  (Ext:=λL u w'=>LZ w (w.heap.size) 17 34 Cf (Kv (w.heap.size+1) k aT nT cT (Dg P 256) (Dg Q 256)) [3,7] L u w') (Good:=λi L w' v=>if i=0 then v=UM (UI ⟨g,0,UJ⟩) else if i=1 then v=UM (UI ⟨g,0,UJ⟩) else if i=2 then v=UM (UI ⟨g,0,UJ⟩) else if i=3 then Iow (w.heap.size+1) w' v (Dg P 256) else if i=4 then v=UM (UI ⟨g,0,UJ⟩) else if i=5 then v=UM (UI ⟨g,0,UJ⟩) else if i=6 then v=UM (UI ⟨g,32,UJ⟩) else if i=7 then Iow (w.heap.size+1) w' v (Dg Q 256) else if i=8 then v=UM (UI ⟨g,0,UJ⟩) else if i=9 then v=UM (UI ⟨g,0,UJ⟩) else if i=10 then v=UM (UI ⟨g,64,UJ⟩) else if i=11 then v=UE .i64 k else if i=12 then v=UM (UI ⟨g,0,UJ⟩) else if i=13 then v=UM (UI ⟨g,0,UJ⟩) else if i=14 then v=UM (UI ⟨g,65,UJ⟩) else if i=15 then v=UD aT nT cT else if i=16 then Kw (w.heap.size+1) k aT nT cT (Dg P 256) (Dg Q 256) w' v else if i=17 then L 17=true else True) ?hstab AN ?hop ?hdone _ _ ((λ(x0 x1 x2 x3 x4 x5 x6 x7 x8 x9 x10 x11 x12 x13 x14 x15 x16:UL)=>λ(i:Nat)=>if i=0 then x0 else if i=1 then x1 else if i=2 then x2 else if i=3 then x3 else if i=4 then x4 else if i=5 then x5 else if i=6 then x6 else if i=7 then x7 else if i=8 then x8 else if i=9 then x9 else if i=10 then x10 else if i=11 then x11 else if i=12 then x12 else if i=13 then x13 else if i=14 then x14 else if i=15 then x15 else if i=16 then x16 else undef) _ _ _ _ _ _ _ _ _ _ _ _ _ _ _ _ _) _ AM ?ext ?start AM
 case start=>intro i hi h;exact absurd h E0
 case ext=>exact LZ.start ⟨HW0.o,λp _ hp=>absurd hp E0,λp _ q _ _ hp=>absurd hp E0⟩ (λ_=>FJ) HR0.o
 case hstab=>
  intro j L w9 w' i v hM hij hLi h;by_cases h3:j=3
  ·subst h3;by_cases hl:i=17
   ·subst hl;simp at h hM |-;exact h.wr hM AK
   ·rw[AS hl] at hM;simp at h |-;exact h.below hM
  by_cases h7:j=7
  ·subst h7;by_cases hl:i=17
   ·subst hl;simp at h hM |-;exact h.wr hM AK
   ·rw[AS hl] at hM;simp at h |-;exact h.below hM
  by_cases h16:j=16
  ·subst h16;by_cases hl:i=17
   ·subst hl;simp at h hM |-;exact h.wr hM AK
   ·rw[AS hl] at hM;simp at h |-;exact h.below hM
  by_cases hl:j=17
  ·subst hl;simp at h |-;unfold Ct;simp[h]
  simp only[if_neg h3,if_neg h7,if_neg h16,if_neg hl] at h |-;exact h
 case hop=>
  intro i o L t w' ho hLi hx hdep K hK;have hi:i<18:=(AQ.1 ho).1;obtain rfl|rfl|rfl|rfl|rfl|rfl|rfl|rfl|rfl|rfl|rfl|rfl|rfl|rfl|rfl|rfl|rfl|rfl:i=0\/i=1\/i=2\/i=3\/i=4\/i=5\/i=6\/i=7\/i=8\/i=9\/i=10\/i=11\/i=12\/i=13\/i=14\/i=15\/i=16\/i=17:=AK
  all_goals(simp at ho;subst ho)
  ·clear hdep;have hK':=hK w' (UM (UI ⟨g,0,UJ⟩)) AM (hx.step (λ_ _ _ b h=>h.below b) 0 AL _ Cs C7) (by rw[AS AL];exact Cs);clear hK;rw[AR AO];go_simp;simpa[Cr] using hK'
  ·have d0:t 0=UM (UI ⟨g,0,UJ⟩):=by simpa using(hdep ⟨0,UR⟩ AM rfl).2
   clear hdep;have hK':=hK w' (UM (UI ⟨g,0,UJ⟩)) AM (hx.step (λ_ _ _ b h=>h.below b) 1 AL _ Cs C7) (by rw[AS AL];exact Cs);clear hK;rw[AR AO];go_simp;simpa[Cr,d0] using hK'
  ·have d1:t 1=UM (UI ⟨g,0,UJ⟩):=by simpa using(hdep ⟨1,UR⟩ AM rfl).2
   clear hdep;have hK':=hK w' (UM (UI ⟨g,0,UJ⟩)) AM (hx.step (λ_ _ _ b h=>h.below b) 2 AL _ Cs C7) (by rw[AS AL];exact Cs);clear hK;rw[AR AO];go_simp;simpa[Cr,d1] using hK'
  ·have d2:t 2=UM (UI ⟨g,0,UJ⟩):=by simpa using(hdep ⟨2,UR⟩ AM rfl).2
   clear hdep;have hsz:w.heap.size+1<=w'.heap.size:=hx.lt;have bw:Below w.heap.size w w':=hx.ax.below;have A:=Iv g 0 d P w' (λww hb=>(HBK.o.below (bw.trans (hb.mono bw.size)) HGL.o).batd) HSD.o;have hK':∀ ww v,Iow (w.heap.size+1) ww v (Dg P 256)->Kf w' ww v->Below w'.heap.size w' ww->K _ ww:=λww v hv hf hb=>hK ww v (by simpa using hv) (hx.step (λ_ _ _ b h=>h.below b) 3 AL v hb (λ_=>hf)) (by rw[AS AL];exact hb)
   clear hK;rw[AR AO];go_simp;try simp only[d2]
   refine A.mono ?_;rintro e w9 ⟨v9,rfl,hv9,hb9⟩;have hK2:=hK' w9 v9 (hv9.mono hsz) hv9.fresh hb9;clear hK' A hv9 bw hb9;go_simp;simpa[Cr,d2] using hK2
  ·clear hdep;have hK':=hK w' (UM (UI ⟨g,0,UJ⟩)) AM (hx.step (λ_ _ _ b h=>h.below b) 4 AL _ Cs C7) (by rw[AS AL];exact Cs);clear hK;rw[AR AO];go_simp;simpa[Cr] using hK'
  ·have d4:t 4=UM (UI ⟨g,0,UJ⟩):=by simpa using(hdep ⟨4,UR⟩ AM rfl).2
   clear hdep;have hK':=hK w' (UM (UI ⟨g,0,UJ⟩)) AM (hx.step (λ_ _ _ b h=>h.below b) 5 AL _ Cs C7) (by rw[AS AL];exact Cs);clear hK;rw[AR AO];go_simp;simpa[Cr,d4] using hK'
  ·have d5:t 5=UM (UI ⟨g,0,UJ⟩):=by simpa using(hdep ⟨5,UR⟩ AM rfl).2
   clear hdep;have hK':=hK w' (UM (UI ⟨g,32,UJ⟩)) AM (hx.step (λ_ _ _ b h=>h.below b) 6 AL _ Cs C7) (by rw[AS AL];exact Cs);clear hK;rw[AR AO];go_simp;simpa[Cr,d5] using hK'
  ·have d6:t 6=UM (UI ⟨g,32,UJ⟩):=by simpa using(hdep ⟨6,UR⟩ AM rfl).2
   clear hdep;have hsz:w.heap.size+1<=w'.heap.size:=hx.lt;have bw:Below w.heap.size w w':=hx.ax.below;have A:=Iv g 32 u Q w' (λww hb=>(HBK.o.below (bw.trans (hb.mono bw.size)) HGL.o).batu) HSU.o;have hK':∀ ww v,Iow (w.heap.size+1) ww v (Dg Q 256)->Kf w' ww v->Below w'.heap.size w' ww->K _ ww:=λww v hv hf hb=>hK ww v (by simpa using hv) (hx.step (λ_ _ _ b h=>h.below b) 7 AL v hb (λ_=>hf)) (by rw[AS AL];exact hb)
   clear hK;rw[AR AO];go_simp;try simp only[d6]
   refine A.mono ?_;rintro e w9 ⟨v9,rfl,hv9,hb9⟩;have hK2:=hK' w9 v9 (hv9.mono hsz) hv9.fresh hb9;clear hK' A hv9 bw hb9;go_simp;simpa[Cr,d6] using hK2
  ·clear hdep;have hK':=hK w' (UM (UI ⟨g,0,UJ⟩)) AM (hx.step (λ_ _ _ b h=>h.below b) 8 AL _ Cs C7) (by rw[AS AL];exact Cs);clear hK;rw[AR AO];go_simp;simpa[Cr] using hK'
  ·have d8:t 8=UM (UI ⟨g,0,UJ⟩):=by simpa using(hdep ⟨8,UR⟩ AM rfl).2
   clear hdep;have hK':=hK w' (UM (UI ⟨g,0,UJ⟩)) AM (hx.step (λ_ _ _ b h=>h.below b) 9 AL _ Cs C7) (by rw[AS AL];exact Cs);clear hK;rw[AR AO];go_simp;simpa[Cr,d8] using hK'
  ·have d9:t 9=UM (UI ⟨g,0,UJ⟩):=by simpa using(hdep ⟨9,UR⟩ AM rfl).2
   clear hdep;have hK':=hK w' (UM (UI ⟨g,64,UJ⟩)) AM (hx.step (λ_ _ _ b h=>h.below b) 10 AL _ Cs C7) (by rw[AS AL];exact Cs);clear hK;rw[AR AO];go_simp;simpa[Cr,d9] using hK'
  ·have d10:t 10=UM (UI ⟨g,64,UJ⟩):=by simpa using(hdep ⟨10,UR⟩ AM rfl).2
   clear hdep;have cc:w'.cell? ⟨g,64,UJ⟩=UI (UE .i64 k):=(HBK.o.below hx.ax.below HGL.o).ck;have hK':=hK w' (UE .i64 k) AM (hx.step (λ_ _ _ b h=>h.below b) 11 AL _ Cs C7) (by rw[AS AL];exact Cs);clear hK;rw[AR AO];go_simp;simpa[Cr,d10] using hK'
  ·clear hdep;have hK':=hK w' (UM (UI ⟨g,0,UJ⟩)) AM (hx.step (λ_ _ _ b h=>h.below b) 12 AL _ Cs C7) (by rw[AS AL];exact Cs);clear hK;rw[AR AO];go_simp;simpa[Cr] using hK'
  ·have d12:t 12=UM (UI ⟨g,0,UJ⟩):=by simpa using(hdep ⟨12,UR⟩ AM rfl).2
   clear hdep;have hK':=hK w' (UM (UI ⟨g,0,UJ⟩)) AM (hx.step (λ_ _ _ b h=>h.below b) 13 AL _ Cs C7) (by rw[AS AL];exact Cs);clear hK;rw[AR AO];go_simp;simpa[Cr,d12] using hK'
  ·have d13:t 13=UM (UI ⟨g,0,UJ⟩):=by simpa using(hdep ⟨13,UR⟩ AM rfl).2
   clear hdep;have hK':=hK w' (UM (UI ⟨g,65,UJ⟩)) AM (hx.step (λ_ _ _ b h=>h.below b) 14 AL _ Cs C7) (by rw[AS AL];exact Cs);clear hK;rw[AR AO];go_simp;simpa[Cr,d13] using hK'
  ·have d14:t 14=UM (UI ⟨g,65,UJ⟩):=by simpa using(hdep ⟨14,UR⟩ AM rfl).2
   clear hdep;have cc:w'.cell? ⟨g,65,UJ⟩=UI (UD aT nT cT):=(HBK.o.below hx.ax.below HGL.o).cv;have hK':=hK w' (UD aT nT cT) AM (hx.step (λ_ _ _ b h=>h.below b) 15 AL _ Cs C7) (by rw[AS AL];exact Cs);clear hK;rw[AR AO];go_simp;simpa[Cr,d14] using hK'
  ·have l3:L 3=true:=(hdep ⟨3,UR⟩ AM rfl).1;have f3:Iow (w.heap.size+1) w' (t 3) (Dg P 256):=by simpa using(hdep ⟨3,UR⟩ AM rfl).2
   have l7:L 7=true:=(hdep ⟨7,UR⟩ AM rfl).1;have f7:Iow (w.heap.size+1) w' (t 7) (Dg Q 256):=by simpa using(hdep ⟨7,UR⟩ AM rfl).2
   have d11:t 11=UE .i64 k:=by simpa using(hdep ⟨11,UR⟩ AM rfl).2
   have d15:t 15=UD aT nT cT:=by simpa using(hdep ⟨15,UR⟩ AM rfl).2
   clear hdep;obtain⟨aD,nD,cD,d3⟩:=f3.form;obtain⟨aU,nU,cU,d7⟩:=f7.form;have hap:=hx.ax.ap 3 AL 7 AL AL l3 l7;rw[d3] at f3 hap;rw[d7] at f7 hap;have hK':=hK w' (UN #[UD aD nD cD,UD aU nU cU,UE .i64 k,UD aT nT cT]) (by simpa using⟨_,rfl,aD,nD,cD,aU,nU,cU,rfl,f3,f7,hap⟩) (hx.step (λ_ _ _ b h=>h.below b) 16 AL _ Cs C7) (by rw[AS AL];exact Cs);clear hK f3 f7 hap;rw[AR AO];go_simp;simpa[Cr,d3,d7,d11,d15] using hK'
  ·have f16:Kw (w.heap.size+1) k aT nT cT (Dg P 256) (Dg Q 256) w' (t 16):=by simpa using(hdep ⟨16,UR⟩ AM rfl).2
   clear hdep;obtain⟨cs,e9,aD,nD,cD,aU,nU,cU,rfl,f3,f7,hap⟩:=f16;have hrs:=hx.pre hLi;have hK':∀ ww,Wr w.heap.size w' ww->ww.heap[w.heap.size]?=UI (UP #[UD aD nD cD,UD aU nU cU,UE .i64 k,UD aT nT cT] 34 (0,0))->K _ ww:=λww hw hr=>hK ww undef (by simp[Ct]) (hx.put Cw AL _ hw hr ⟨aD,nD,cD,aU,nU,cU,rfl,f3.wr hw AK,f7.wr hw AK,hap⟩) (by rw[AR rfl];exact hw)
   clear hK f3 f7 hap;rw[AR AO];refine A8 34 (.tmp 2) (.tmp 19) rfl w.heap.size _ rfl e9 34 _ hrs HSZ.o rfl (by simp[Value.oneCell']) ?_;have hK2:=hK' _ (Wr.setRow _ _ _) (AB hrs);clear hK';simpa[Cr,Act.put] using hK2
 case hdone=>
  intro L t w' hx hg;have l17:L 17=true:=by simpa using hg 17 AL
  clear hg;obtain⟨cs,hr,aD,nD,cD,aU,nU,cU,rfl,h1,h2,h3⟩:=hx.fin l17;have HR9:AP (w'.heap[w.heap.size]?=UI (UP #[UD aD nD cD,UD aU nU cU,UE .i64 k,UD aT nT cT] 34 (0,0))):=hr;have HF:AP (Iow w.heap.size w' (UD aD nD cD) (Dg P 256)/\Iow w.heap.size w' (UD aU nU cU) (Dg Q 256)/\Se (UD aD nD cD) (UD aU nU cU)/\Below w.heap.size w w'):=⟨h1.mono AK,h2.mono AK,h3,hx.ax.below⟩
  clear hx hr h1 h2 h3;go_wp2_with fail;exact AZ (v:=UN #[UD aD nD cD,UD aU nU cU,UE .i64 k,UD aT nT cT]) (AW rfl _ _ w.heap.size 34 _ (0,0) _ rfl HR9.o Tryz.underlying34 rfl HSZ.o) rfl ⟨aD,nD,cD,aU,nU,cU,rfl,HF.o.1,HF.o.2.1,HF.o.2.2.1,HF.o.2.2.2⟩
theorem Gg (g:Nat) (a x:Option Addr) (L c m cx:Nat) (f:Int) (s:Nat) (d:Bool) (zs:List Int) (ps:List PD) (w:UK) (h:w.heap[g]?=UI (UP #[UD a L c,UD x m cx,UE .i64 f,.bool d] 40 (0,0))) (hL:L<=1048576) (hc:L<=c) (hl:zs.length=L) (hm:ps.length=m) (hm2:m<=1048576) (hs:s*64+64<=L) (hA:At .u8 w a zs) (hP:FY w x ps) (hok:∀ i,i<m->(ps.getD i (0,[])).2.length=64) :
  Calls Tryz.prog 80 #[UM (UI ⟨g,0,UJ⟩),UE .i64 s] w λe w'=>e=.returned (IZ (Dw zs ps s))/\Below w.heap.size w w':=by
 have c1:=AA h 1;simp at c1;have hg:g<w.heap.size:=(AQ.1 h).1;have hrv:Dw zs ps s=(Ev ps s m).getD ((zs.drop (s*64)).take 64):=by unfold Dw;rw[hm];simp
 have HRV:AP _:=hrv;clear hrv;have HH:AP _:=h;clear h;go_enter Tryz.func80,Tryz.ntmps80;go_wp2;have hb1:=(Ad w.heap.size w).alloc Cw (UP (List.replicate 64 (UE .u8 0)).toArray 122);have hN:DP (w.alloc (UP (List.replicate 64 (UE .u8 0)).toArray 122)) w.heap.size 122 (List.replicate 64 0):=AV w _;obtain⟨w1,hw1⟩:∃ w1,w.alloc (UP (List.replicate 64 (UE .u8 0)).toArray 122)=w1:=⟨_,rfl⟩
 rw[hw1] at hb1 hN;refine OY (hw1.symm.trans rfl) ?_;have hz1:w.heap.size<w1.heap.size:=hN.lt;have k1:w1.cell? ⟨g,1,UJ⟩=UI (UD x m cx):=by rw[hb1.cell (p:=⟨g,1,UJ⟩) hg];exact c1
 have HA1:AP _:=hA.below hb1;have HP1:AP _:=hP.below hb1;have HB1:AP _:=hb1;have HN1:AP _:=hN;have HH1:AP (w1.heap[g]?=UI (UP #[UD a L c,UD x m cx,UE .i64 f,.bool d] 40 (0,0))):=by unfold AP;rw[hb1.block g hg];exact HH.o
 have hg1:g<w1.heap.size:=AK
 clear hw1 hA hP hb1 hN c1 HH;have hend:∀(z:List Int) (w2:UK),z.length=64->Below w1.heap.size w1 w2->DP w2 w.heap.size 122 (List.replicate 64 0)/\Below w.heap.size w w2:=λz w2 hz hb=>
  ⟨by unfold DP;rw[hb.block _ hz1];exact HN1.o,HB1.o.trans (hb.mono AK)⟩
 have HEND:AP _:=hend;clear hend HN1 HB1
 go_loop [5] (λi=>∃ k:Nat,k<=m/\i=UE .i64 ((k:Int)-1)/\Ev ps s m=Ev ps s k) (λi=>(intOf i+1).toNat)
 case atStart=>exact⟨m,AY _,rfl,rfl⟩
 case round=>
  obtain⟨k,hk,rfl,hf⟩:=hrel;cases k with
  |zero=>
   have hres:Dw zs ps s=(zs.drop (s*64)).take 64:=by rw[HRV.o,hf];simp[Ev]
   have HF:AP _:=hres;clear hf hres;go_wp2_with fail;refine(Qb g a x L c m cx f s d zs w1 HH1.o hL hc hl hs HA1.o).mono ?_;rintro e w2 ⟨rfl,hb2⟩;have hz:((zs.drop (s*64)).take 64).length=64:=by simp;omega
   obtain⟨hr,hB⟩:=HEND.o _ w2 hz hb2;have HZ:AP _:=hz;have HR:AP _:=hr;have HB:AP _:=hB;clear hz hr hB hb2;have e0:=HF.o;generalize (zs.drop (s*64)).take 64=z at *;have HE:AP _:=e0;have hs1:(Tryz.prog.info? 122).map (·.size)=UI ((z.map (Value.int .u8)).toArray).size:=by rw[Tryz.sizeSec];simp[HZ.o]
   have HS1:AP _:=hs1;clear hs1 e0 HF;go_wp2_with (refine AC 122 (.tmp 4) (.tmp 37) w.heap.size ((z.map (Value.int .u8)).toArray) 122 HR.o HS1.o (by simp[HZ.o]) (all_oneCell_toArray (Bb _ _)) ?_);refine AZ (v:=UN (z.map (Value.int .u8)).toArray) (AW rfl _ _ w.heap.size 122 _ (0,0) _ rfl (AB HR.o) Tryz.underlying122 rfl HS1.o) rfl ⟨by rw[HE.o];rfl,?_⟩;exact HB.o.trans ((Wr.setRow _ _ _).below Cw)
  |succ k=>
   obtain⟨b,off,rfl,hbl,hc⟩:=FY.get HP1.o AK;obtain⟨y,cy,g1,g2,g3⟩:=hc k AK;have hlz:=hok k AK;have hfk:Ev ps s (k+1)=if(ps.getD k (0,[])).1=s then UI (ps.getD k (0,[])).2 else Ev ps s k:=rfl
   rw[<-hf] at hfk;have ek:((k+1:Nat):Int)-1=k:=AK
   rw[ek];generalize (ps.getD k (0,[])).1=t at *;generalize (ps.getD k (0,[])).2=z at *;generalize hzl:z.length=zl at *;have HF:AP _:=hfk;have HG3:AP _:=g3;have HLZ:AP _:=hzl;have HL64:AP _:=hlz;clear hf hfk g3 hlz hc hzl;by_cases ht:t=(s:Int)
   ·subst ht;have e1:((s:Int) == (s:Int))=true:=AM
    go_wp2_with fail;refine(FL y zl cy z w1 HLZ.o (AG HL64.o) HG3.o).mono ?_;rintro e w2 ⟨rfl,hb2⟩;have hz:z.length=64:=HLZ.o.trans HL64.o;have htk:z.take 64=z:=An AK;rw[htk];obtain⟨hr,hB⟩:=HEND.o _ w2 hz hb2;have HZ:AP _:=hz;have HR:AP _:=hr;have HB:AP _:=hB;clear hz hr hB hb2 htk;have e0:Dw zs ps s=z:=by rw[HRV.o,HF.o];simp
    have HE:AP _:=e0;have hs1:(Tryz.prog.info? 122).map (·.size)=UI ((z.map (Value.int .u8)).toArray).size:=by rw[Tryz.sizeSec];simp[HZ.o]
    have HS1:AP _:=hs1;clear hs1 e0 HF;go_wp2_with (refine AC 122 (.tmp 4) (.tmp 34) w.heap.size ((z.map (Value.int .u8)).toArray) 122 HR.o HS1.o (by simp[HZ.o]) (all_oneCell_toArray (Bb _ _)) ?_);refine AZ (v:=UN (z.map (Value.int .u8)).toArray) (AW rfl _ _ w.heap.size 122 _ (0,0) _ rfl (AB HR.o) Tryz.underlying122 rfl HS1.o) rfl ⟨by rw[HE.o];rfl,?_⟩;exact HB.o.trans ((Wr.setRow _ _ _).below Cw)
   ·have e1:(t == (s:Int))=false:=by simpa using ht
    have hfk:=HF.o;rw[AS ht] at hfk;have HF2:AP _:=hfk;clear hfk HF;go_wp2
    go_round
    case rel=>exact⟨k,AK,rfl,HF2.o⟩
    case measure=>simp[intOf]
def Dd (w:UK) (B:Nat) (v:UL) (zs:List Int):Prop:=(v=UD UJ 0 0/\zs=[])\/DT w B v zs
theorem GE (w:UK) (a:Option Addr) (n c:Nat):(binOp .eql 22 (UD a n c) (UD UJ 0 0)).run Tryz.prog w=.ok (.bool a.isNone) w:=by
 have h:∀ d,(Op.equalIn (d+1) 22 (UD a n c) (UD UJ 0 0)).run Tryz.prog w=.ok a.isNone w:=λd=>by
  cases a<;>simp[Op.equalIn,run_underlying Tryz.underlying22]
 have h':(Op.equal 22 (UD a n c) (UD UJ 0 0)).run Tryz.prog w=.ok a.isNone w:=h 9999;simp only[binOp];simp[h']
theorem NQ (a:Option Addr) (n cap:Nat) (zs:List Int) (w:UK) (hn:zs.length=n) (hm:n<=1048576) (ha:At .u8 w a zs) (hnil:a=UJ->n=0/\cap=0) :
  Calls Tryz.prog 110 #[UD a n cap] w λe w'=>∃ v,e=.returned v/\Dd w' w.heap.size v zs/\Below w.heap.size w w':=by
 cases a with
 |none=>
  obtain⟨rfl,rfl⟩:=hnil rfl;have E:=GE w UJ 0 0;go_enter Tryz.func110,Tryz.ntmps110;go_wp2
  go_ret
  exact⟨_,rfl,.inl ⟨rfl,Aq hn⟩,Ad _ _⟩
 |some ad=>
  obtain⟨b,off,sp⟩:=ad;have hN:∀ j,j<n->(w.alloc (UP #[] 5)).cell? ((⟨b,off,sp⟩:Addr).add j)=UI (UE .u8 (zs.getD j 0)):=by
   intro j hj;obtain⟨b1,o1,e1,hb1,hc1⟩:=ha.get AK;cases e1;rw[Ay,((Ad w.heap.size w).alloc Cw _).cell (p:=⟨b,off+j,UJ⟩) hb1];exact hc1 j AK
  have HN:AP _:=hN;clear hN ha;have E:=GE w (UI ⟨b,off,sp⟩) n cap;go_enter Tryz.func110,Tryz.ntmps110;go_wp2_with (at_builtin;refine Dh _ rfl _ _ rfl w.heap.size _ _ rfl (DT.empty w w.heap.size Cw) ⟨b,off,sp⟩ n cap zs rfl hn HN.o ?c2 ?c3 ?_)
  (try(case c2=>first|omega|(simp;omega)))
  (try(case c3=>first|omega|(simp;try omega)))
  intro v' w3 hown' hbel' _;have HO:AP (DT w3 w.heap.size v' zs):=by unfold AP;simpa using hown'
  have HB:AP (Below w.heap.size w w3):=(Cs.alloc Cw _).trans hbel';clear hown' hbel';go_wp2
  go_ret
  exact⟨_,rfl,.inr HO.o,HB.o⟩
theorem MV {u:Nat->UL} {i j:Nat} {v:UL} (h:i≠j):Cr u i v j=u j:=by unfold Cr;rw[AS (Bs h)]
end Go.Proofs.YthmeoilbmfdhfaaGreat
