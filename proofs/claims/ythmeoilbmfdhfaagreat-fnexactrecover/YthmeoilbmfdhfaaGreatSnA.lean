import Derived.Test.YthmeoilbmfdhfaaGreatMCpA
open Go.Value renaming slice->UD,int->UE,pointer->UM,agg->UN
open Option renaming some->UI,none->UJ
namespace Go.Proofs.YthmeoilbmfdhfaaGreat
set_option maxHeartbeats 2000000
set_option maxRecDepth 100000
open Go.ChangeShapes Go.WideShapes Go.ChangeAt Go.RowKit
set_option linter.unusedVariables false
theorem FT (g o:Nat) (t:TypeId) (p:Nat) (v:Int) (zs:List Int) (w:World) (hr:DP w g t zs) (hl:o+64<=zs.length) (hp:p<=60) (hv:D8 v) :
  Calls Tryz.prog 146 #[UM (UI ⟨g,o,UJ⟩),UE .i64 p,UE .u32 v] w λe w'=>e=.returned (.tuple #[])/\DP w' g t (Dv zs (o+p) v 4)/\Wr g w w':=by
 obtain⟨hv0,hv1⟩:=hv;go_enter Tryz.func146,Tryz.ntmps146;go_wp2
 go_loopw [7] (λi wr=>∃ k:Nat,k<=4/\i=UE .i64 k/\DP wr g t (Dv zs (o+p) v k)/\Wr g w wr) (λi _=>4-(intOf i).toNat)
 case atStart=>exact⟨0,AK,rfl,hr,Wr.refl _ _⟩
 case round=>
  obtain⟨k,hk,rfl,hrow,hwr⟩:=hrel;by_cases hlt:k<4
  ·have hlen:=Em zs (o+p) v k;have hc:=hrow.cell (o+p+k) AK;have hf:=hrow.frozen (o+p+k);have hc':wr.cell? ⟨g,o+(p+k),UJ⟩=UI (UE .u8 ((Dv zs (o+p) v k).getD (o+p+k) 0)):=by rw[<-Ap];exact hc
   have hf':wr.frozen? ⟨g,o+(p+k),UJ⟩=false:=by rw[<-Ap];exact hf
   have HN:AP (∀ x,DP (wr.setCell ⟨g,o+(p+k),UJ⟩ (UE .u8 x)) g t ((Dv zs (o+p) v k).set (o+p+k) x)/\Wr g w (wr.setCell ⟨g,o+(p+k),UJ⟩ (UE .u8 x))):=λx=>by rw[<-Ap];exact⟨hrow.set _ _,hwr.setCell _ _⟩
   clear hc hf;go_wp2
   go_region
   go_wp2;go_roundw
   case rel=>exact⟨k+1,AK,by go_num,(HN.o _).1.drew,(HN.o _).2.drew⟩
   case measure=>simp[intOf];omega
  ·have hk4:k=4:=AK
   subst hk4;go_wp2
   go_end0
   exact⟨rfl,hrow,hwr⟩
theorem Or {p:Prop} (h:p):AP p:=h
theorem IP (h o:Nat) (aD aU:Option Addr) (nD cD nU cU:Nat) (w:World) (hh:h<w.heap.size) (c2:w.cell? ⟨h,o+2,UJ⟩=UI (UD aD nD cD)) (c3:w.cell? ⟨h,o+3,UJ⟩=UI (UD aU nU cU)) :
  Calls Tryz.prog 38 #[UM (UI ⟨h,o,UJ⟩)] w λe w'=>e=.returned (UN #[UD aD nD cD,UD aU nU cU,UE .i64 nU,UD UJ 0 0])/\Below w.heap.size w w':=by
 have HSZ:AP ((Tryz.prog.info? 34).map (·.size)=UI 4):=by show _=_;kernel_rfl
 have HO0:AP (OE w 34 Cf (w.alloc (.cells Cf 34))):=OE.start _ _ _;have bl:=HO0.o.below.block h hh;have HC:AP (h<(w.alloc (.cells Cf 34)).heap.size/\(w.alloc (.cells Cf 34)).cell? ⟨h,o+2,UJ⟩=UI (UD aD nD cD)/\(w.alloc (.cells Cf 34)).cell? ⟨h,o+3,UJ⟩=UI (UD aU nU cU)):=⟨Ax hh HO0.o.below.size,by rw[Aa (a:=⟨h,o+2,UJ⟩) (w:=w) bl];exact c2,by rw[Aa (a:=⟨h,o+3,UJ⟩) (w:=w) bl];exact c3⟩
 clear hh c2 c3 bl;go_enter Tryz.func38,Tryz.ntmps38;go_wp2_with fail;generalize w.alloc (.cells Cf 34)=w1 at *;refine Ae AN ?_;refine DF 14 (λ_ a b=>Below a.heap.size a b) (frame:=(λ(a b c:Value)=>λ(t:Nat->Value)=>({ tmps:=List.toArray [a,b,c,t 0,t 1,t 2,t 3,t 4,t 5,t 6,t 7,t 8,t 9,t 10,t 11,t 12,t 13],defers:=[] }:Act)) _ _ _)
  (Ext:=λL u w'=>Fo w1 [] L u w') (Good:=λi L w' v=>if i=0 then v=UM (UI ⟨h,o,UJ⟩) else if i=1 then v=UM (UI ⟨h,o,UJ⟩) else if i=2 then v=UM (UI ⟨h,o+2,UJ⟩) else if i=3 then v=UD aD nD cD else if i=4 then v=UM (UI ⟨h,o,UJ⟩) else if i=5 then v=UM (UI ⟨h,o,UJ⟩) else if i=6 then v=UM (UI ⟨h,o+3,UJ⟩) else if i=7 then v=UD aU nU cU else if i=8 then v=UM (UI ⟨h,o,UJ⟩) else if i=9 then v=UM (UI ⟨h,o,UJ⟩) else if i=10 then v=UM (UI ⟨h,o+3,UJ⟩) else if i=11 then v=UD aU nU cU else if i=12 then v=UE .i64 nU else if i=13 then v=UN #[UD aD nD cD,UD aU nU cU,UE .i64 nU,UD UJ 0 0] else True) (Fin:=λ_ ww=>ww.heap[w.heap.size]?=UI (.cells #[UD aD nD cD,UD aU nU cU,UE .i64 nU,UD UJ 0 0] 34 (0,0))/\Below w.heap.size w ww) rfl AN ?hstab AN ?hop ?hend ?hdone _ _ ((λ(x0 x1 x2 x3 x4 x5 x6 x7 x8 x9 x10 x11 x12 x13:Value)=>λ(i:Nat)=>if i=0 then x0 else if i=1 then x1 else if i=2 then x2 else if i=3 then x3 else if i=4 then x4 else if i=5 then x5 else if i=6 then x6 else if i=7 then x7 else if i=8 then x8 else if i=9 then x9 else if i=10 then x10 else if i=11 then x11 else if i=12 then x12 else if i=13 then x13 else undef) _ _ _ _ _ _ _ _ _ _ _ _ _ _) _ AM ?none ?ext AM
 case none=>exact λ_=>FJ
 case ext=>exact Fo.start w1 [] _ _ (λ_=>FJ) ⟨rfl,rfl,rfl,AY _,λ_ _=>rfl⟩
 case hstab=>
  intro j L w9 w' i v _ hM _ _ h;exact h
 case hop=>
  intro i oo L t w' hi ho hLi hx hdep K hK;have k2:w'.cell? ⟨h,o+2,UJ⟩=UI (UD aD nD cD):=by rw[Aa (a:=⟨h,o+2,UJ⟩) (w:=w1) (hx.below.block _ HC.o.1)];exact HC.o.2.1
  have k3:w'.cell? ⟨h,o+3,UJ⟩=UI (UD aU nU cU):=by rw[Aa (a:=⟨h,o+3,UJ⟩) (w:=w1) (hx.below.block _ HC.o.1)];exact HC.o.2.2
  obtain rfl|rfl|rfl|rfl|rfl|rfl|rfl|rfl|rfl|rfl|rfl|rfl|rfl|rfl:i=0\/i=1\/i=2\/i=3\/i=4\/i=5\/i=6\/i=7\/i=8\/i=9\/i=10\/i=11\/i=12\/i=13:=AK
  all_goals(simp at ho;subst ho)
  all_goals try(have hK':=hK w' _ rfl (hx.step _ _ Cs C7) Cs;clear hK;simp[Region.binds] at hdep;rw[AR AO];go_simp;simpa[Cr,hdep] using hK')
 case hend=>
  intro oo L t w' ho hx hg K hK;simp at ho;subst ho;have d13:t 13=UN #[UD aD nD cD,UD aU nU cU,UE .i64 nU,UD UJ 0 0]:=by simpa using(hg 13 AL).2
  clear hg;have hrs:=(hx.below.block _ (AQ.1 HO0.o.b0).1).trans HO0.o.b0;have hK':∀ ww,Wr w.heap.size w' ww->ww.heap[w.heap.size]?=UI (.cells #[UD aD nD cD,UD aU nU cU,UE .i64 nU,UD UJ 0 0] 34 (0,0))->K _ ww:=λww hw hr=>hK ww undef ⟨hr,(HO0.o.below.trans (hx.below.mono HO0.o.below.size)).trans (hw.below Cw)⟩
  clear hK;rw[AR AO];refine A8 34 (.tmp 2) (.tmp 16) rfl w.heap.size #[UD aD nD cD,UD aU nU cU,UE .i64 nU,UD UJ 0 0] rfl d13 34 _ hrs HSZ.o rfl (by simp[Value.oneCell']) ?_;have hK2:=hK' _ (Wr.setRow _ _ _) (AB hrs);clear hK';simpa[Cr,Act.put] using hK2
 case hdone=>
  intro t w9 hf;have HF:=Or hf;clear hf;go_wp2_with fail;exact AZ (v:=UN #[UD aD nD cD,UD aU nU cU,UE .i64 nU,UD UJ 0 0]) (AW rfl _ _ w.heap.size 34 _ (0,0) _ rfl HF.o.1 Tryz.underlying34 rfl HSZ.o) rfl ⟨rfl,HF.o.2⟩
theorem Ot (h:Nat) (aD aU:Option Addr) (nD cD nU cU:Nat) (w:World) (hh:h<w.heap.size) (c2:w.cell? ⟨h,2,UJ⟩=UI (UD aD nD cD)) (c3:w.cell? ⟨h,3,UJ⟩=UI (UD aU nU cU)) :
  Calls Tryz.prog 38 #[UM (UI ⟨h,0,UJ⟩)] w λe w'=>e=.returned (UN #[UD aD nD cD,UD aU nU cU,UE .i64 nU,UD UJ 0 0])/\Below w.heap.size w w':=IP h 0 aD aU nD cD nU cU w hh (by simpa using c2) (by simpa using c3)
def Jb (gn tl:Int) (D U:List Int):Prop:=gn<=4000000000/\1<=tl/\tl<=4000000000/\Dj D/\D.length<=16/\Dj U
open Classical in
noncomputable def Ih (gn tl:Int) (D U:List Int):Bool:=decide (Jb gn tl D U)
theorem Eo {gn tl:Int} {D U:List Int} (h:¬ Jb gn tl D U):Ih gn tl D U=false:=by unfold Ih;simp[h]
theorem Fi {gn tl:Int} {D U:List Int} (h:Jb gn tl D U):Ih gn tl D U=true:=by unfold Ih;simp[h]
theorem SB {gn tl:Int} {D U:List Int} {nU:Nat} (hU:U.length=nU) (h1:gn<=4000000000) (h2:1<=tl) (h3:tl<=4000000000):GI D U nU [] 0=Ih gn tl D U:=by
 by_cases h:JE D U nU [] 0
 ·rw[Ho h,Fi ⟨h1,h2,h3,h.1,h.2.1,h.2.2.1⟩]
 ·rw[ES h,Eo (λq=>h ⟨q.2.2.2.1,q.2.2.2.2.1,q.2.2.2.2.2,AK,by rw[hU];omega,λi hi=>AK⟩)]
theorem Qj (h:Nat) (gn tl:Int) (aD aU:Option Addr) (nD cD nU cU:Nat) (D U:List Int) (w:World) (hh:h<w.heap.size) (c0:w.cell? ⟨h,0,UJ⟩=UI (UE .u32 gn)) (c1:w.cell? ⟨h,1,UJ⟩=UI (UE .u32 tl)) (c2:w.cell? ⟨h,2,UJ⟩=UI (UD aD nD cD)) (c3:w.cell? ⟨h,3,UJ⟩=UI (UD aU nU cU))
  (hD:D.length=nD) (hU:U.length=nU) (mD:nD<=1048576) (mU:nU<=1048576) (haD:At .i64 w aD D) (haU:At .i64 w aU U) :
  Calls Tryz.prog 130 #[UM (UI ⟨h,0,UJ⟩)] w λe w'=>e=.returned (.bool (Ih gn tl D U))/\Below w.heap.size w w':=by
 by_cases h1:gn<=4000000000
 ·by_cases h2:1<=tl
  ·by_cases h3:tl<=4000000000
   ·have HE:AP (GI D U nU [] 0=Ih gn tl D U):=SB hU h1 h2 h3;have HC1:=Ot h aD aU nD cD nU cU w hh c2 c3;have HC2:AP (∀ w',Below w.heap.size w w'->Calls Tryz.prog 156 #[UN #[UD aD nD cD,UD aU nU cU,UE .i64 nU,UD UJ 0 0]] w' λe w''=>e=.returned (.bool (GI D U nU [] 0))/\Below w'.heap.size w' w''):=λw' b=>Qa aD aU UJ nD cD nU cU 0 0 D U nU [] w' hD hU rfl mD mU AK (haD.below b) (haU.below b) (.inl rfl) (λ_=>⟨rfl,rfl⟩) AK AK
    have h2':tl≥1:=h2;clear haD haU hD hU;go_enter Tryz.func130,Tryz.ntmps130;go_wp2_with fail;refine HC1.mono ?_;rintro e w1 ⟨rfl,hb1⟩;have HC:=HC2.o w1 hb1;have HB1:AP (Below w.heap.size w w1):=hb1;clear HC1 HC2 hb1;go_wp2_with fail;refine HC.mono ?_;rintro e w2 ⟨rfl,hb2⟩;have HF:AP (Below w.heap.size w w2):=HB1.o.trans (hb2.mono HB1.o.size);rw[HE.o];clear HC HB1 hb2;generalize hq:Ih gn tl D U=q at *;have HQ:AP (Ih gn tl D U=q):=hq;clear hq;go_wp2
    go_ret
    exact⟨by rw[HQ.o];rfl,HF.o⟩
   ·have HE:AP (Ih gn tl D U=false):=Eo (λq=>h3 q.2.2.1);have h2':tl≥1:=h2;clear haD haU hD hU;go_enter Tryz.func130,Tryz.ntmps130;go_wp2
    go_ret
    exact⟨by rw[HE.o];rfl,Ad _ _⟩
  ·have HE:AP (Ih gn tl D U=false):=Eo (λq=>h2 q.2.1);have h2':¬ (tl≥1):=h2;clear haD haU hD hU;go_enter Tryz.func130,Tryz.ntmps130;go_wp2
   go_ret
   exact⟨by rw[HE.o];rfl,Ad _ _⟩
 ·have HE:AP (Ih gn tl D U=false):=Eo (λq=>h1 q.1);clear haD haU hD hU;go_enter Tryz.func130,Tryz.ntmps130;go_wp2
  go_ret
  exact⟨by rw[HE.o];rfl,Ad _ _⟩
end Go.Proofs.YthmeoilbmfdhfaaGreat
