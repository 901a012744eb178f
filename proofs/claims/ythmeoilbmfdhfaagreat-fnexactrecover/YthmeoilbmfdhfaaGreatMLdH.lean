import Derived.Test.YthmeoilbmfdhfaaGreatMDkJ
open Go.Value renaming slice->UD,int->UE,pointer->UM,bool->UF,agg->UN
open Go.IntKind renaming i64->UO,u32->UG,u8->UH
open Go.Obj renaming cells->UP
open Go.Ending renaming returned->UQ
open Go.Ground renaming data->UR
open Go.Operand renaming tmp->UT
open Option renaming some->UI,none->UJ
open Go renaming World->UK,Value->UL
namespace Go.Proofs.YthmeoilbmfdhfaaGreat
set_option maxHeartbeats 4000000
set_option maxRecDepth 100000
open Go.ChangeShapes Go.WideShapes Go.ChangeAt Go.RowKit
set_option linter.unusedVariables false
def KN (zs:List Int) (ps:List PD) (J q:Nat):List Int:=Dw zs ps (4+q%J:Nat)
def Sh (z:List Int):List Int:=[DD z 0,z.getD 6 0,DD z 8,DD z 12]
def I3 (zs:List Int) (ps:List PD) (J q:Nat):Bool:=Gy (KN zs ps J q) && decide (DD (KN zs ps J q) 0=(q:Int))
def Fa (zs:List Int) (ps:List PD) (J:Nat):Nat->Nat->List Int
 |_,0=>[]
 |q,n+1=>if q<4000000000/\I3 zs ps J q=true then Sh (KN zs ps J q)++Fa zs ps J (q+1) n else []
theorem IS {zs:List Int} {ps:List PD} {J q n:Nat} (h:n=0\/¬ q<4000000000\/I3 zs ps J q=false):Fa zs ps J q n=[]:=by
 cases n with
 |zero=>rfl
 |succ n=>
  show(if _ then _ else _)=_
  rw[AS];rintro⟨h1,h2⟩;rcases h with h|h|h
  ·omega
  ·exact h h1
  ·rw[h] at h2;cases h2
theorem J9 {zs:List Int} {ps:List PD} {J q n:Nat} (h1:q<4000000000) (h2:I3 zs ps J q=true):Fa zs ps J q (n+1)=Sh (KN zs ps J q)++Fa zs ps J (q+1) n:=by
 show(if _ then _ else _)=_
 rw[AR ⟨h1,h2⟩]
theorem GG (z:List Int):(Sh z).length=4:=rfl
theorem Gw (zs:List Int) (ps:List PD) (J:Nat):∀ n q,∃ k,k<=n/\(Fa zs ps J q n).length=k*4
 |0,q=>⟨0,AY _,rfl⟩
 |n+1,q=>by
  unfold Fa;split
  ·obtain⟨k,hk,e⟩:=Gw zs ps J n (q+1);exact⟨k+1,AK,by rw[Al,e,GG];omega⟩
  ·exact⟨0,AK,rfl⟩
theorem JF.jr {L c m:Nat} {f:Int} {zs:List Int} {ps:List PD} (h:JF L c m f zs ps) (q:Nat):(KN zs ps (L/64-4) q).length=64/\Cu (KN zs ps (L/64-4) q):=by
 obtain⟨b1,b2,b3,b4⟩:=h.base;have:=Nat.mod_lt q (show 0<L/64-4 by omega);exact h.rd _ AK
def FO (B:Nat) (w:UK) (v:UL) (F:List Int) (n:Nat):Prop:=w.ownsRow B 112 4 v n (fC F).toList
theorem Es (F:List Int):(fC F).toList=(List.range F.length).map (λi=>UE (kF i) (F.getD i 0)):=by simp[fC]
theorem SI {F:List Int} (k:Nat) (hl:F.length=k*4) (s m x y:Int):(fC (F++[s,m,x,y])).toList=(fC F).toList++[UE UG s,UE UO m,UE UG x,UE UG y]:=by
 apply List.ext_getElem?;intro i;rw[Es,Es];by_cases h:i<F.length
 ·rw[A0 (by simpa using h)];simp[h,show i<F.length+4 by omega,List.getD]
 ·rw[Am (by simp;omega)];by_cases h4:i<F.length+4
  ·obtain⟨j,rfl⟩:∃ j,i=F.length+j:=⟨i-F.length,AK⟩
   have hj:j<4:=AK
   have e:(List.map (λi=>UE (kF i) ((F++[s,m,x,y]).getD i 0)) (List.range (F++[s,m,x,y]).length))[F.length+j]?=UI (UE (kF (k*4+j)) (([s,m,x,y]:List Int).getD j 0)):=by
    rw[CM,List.getElem?_range (by simp;omega)];simp only[Option.map_some,List.getD];rw[Am AK,Bt,hl]
   rw[e];simp only[List.length_map,List.length_range,Nat.add_sub_cancel_left];obtain rfl|rfl|rfl|rfl:j=0\/j=1\/j=2\/j=3:=AK
   ·rw[Nat.add_zero,Te];rfl
   ·rw[Tf];rfl
   ·rw[Tg];rfl
   ·rw[Th];rfl
  ·rw[B5 (by simp;omega),B5 (by simp;omega)]
theorem FO.alloc {B:Nat} {w:UK} {v:UL} {F:List Int} {n:Nat} (h:FO B w v F n) (o:Obj):FO B (w.alloc o) v F n:=World.ownsRow.alloc h _
theorem FO.keep {B:Nat} {w w':UK} {v:UL} {F:List Int} {n:Nat} (h:FO B w v F n) (hb:∀ k,B<=k->k<w.heap.size->w'.heap[k]?=w.heap[k]?):FO B w' v F n:=by
 refine⟨h.1,?_⟩;rcases h.2 with h'|⟨g,c,cur,h1,h2,h3,h4⟩
 ·exact .inl h'
 ·exact .inr ⟨g,c,cur,h1,h2,by rw[hb g h2 (AQ.1 h3).1];exact h3,h4⟩
theorem FO.below {B:Nat} {w w':UK} {v:UL} {F:List Int} {n:Nat} (h:FO B w v F n) (b:Below w.heap.size w w'):FO B w' v F n:=h.keep (λk _ hk=>b.block k hk)
theorem FO.ownBlock {B:Nat} {w:UK} {v:UL} {F:List Int} {n:Nat} (h:FO B w v F n):∀ k,v.ownBlock=UI k->B<=k:=λk hk=>by
 rcases h.2 with⟨h',_⟩|⟨g,c,cur,h',hb,_⟩
 ·rw[h'] at hk;simp[Value.ownBlock] at hk
 ·rw[h'] at hk;simp[Value.ownBlock] at hk;omega
theorem FO.len {B:Nat} {w:UK} {v:UL} {F:List Int} {n:Nat} (h:FO B w v F n):F.length=n*4:=by
 have:=h.1;rw[Es] at this;simpa using this
theorem FO.form {B:Nat} {w:UK} {v:UL} {F:List Int} {n:Nat} (h:FO B w v F n):∃ a c,v=UD a n c/\FC w a F/\n<=c/\De B w a:=by
 have hl:=h.len;rcases h.2 with⟨rfl,rfl⟩|⟨g,c,cur,rfl,hb,hg,hc,_,hs,ht⟩
 ·exact⟨UJ,0,rfl,.inl (Aq AK),AY _,λ_ e=>(by cases e)⟩
 ·have hlt:=(AQ.1 hg).1;refine⟨_,c,rfl,.inr ⟨g,0,rfl,hlt,λi hi=>?_⟩,hc,λad e=>(by cases e;exact⟨hb,hlt⟩)⟩;rw[Ak,AA hg i];have e:(cur.toList.take (n*4))[i]?=(fC F).toList[i]?:=by rw[ht]
  rw[BS AK,Es] at e;rw[CM,List.getElem?_range hi] at e;rw[<-Array.getElem?_toList,e];rfl
theorem LD (w:UK) {ops:Array Oper} {rest:List Oper} {o:Oper} {a:Act} {Q:Exit->Act->UK->Prop} (hg:o.guard=UJ) (sx x:Operand)
  (hop:o.op=Op.call { callee:=Callee.builtin Builtin.append,args:=#[sx,x],argTypes:=#[31,31] }) (B:Nat) (v:UL) (F:List Int) (n:Nat) (hs:a.eval sx=v) (hown:FO B w v F n)
  (wb:UK) (s m p y:Int) (hw:w=wb.alloc (UP #[UE UG s,UE UO m,UE UG p,UE UG y] 112)) (hx:a.eval x=UD (UI ⟨wb.heap.size,0,UJ⟩) 1 1) (hm:n<=1048576) (hB:B<=w.heap.size)
  (hK:∀ v' w',FO B w' v' (F++[s,m,p,y]) (n+1)->Below B w w'->wpList Tryz.prog ops Q rest (a.put o.dst v') w') :
  wpList Tryz.prog ops Q (o::rest) a w:=by
 obtain⟨i0,hi,hz0,hz1,hz2⟩:=Be Tryz.infoFr;have hl:=hown.len;refine wpList_append_own_at w hg sx x 31 hop B 112 i0 (UN Co) 4 24 Tryz.underlying31 hi hz0 hz1 hz2 rfl AL v n _ hs hown ⟨wb.heap.size,0,UJ⟩ 1 1 [UE UG s,UE UO m,UE UG p,UE UG y] hx rfl ?_ (by simp[Value.oneCell']) (by unfold maxLen;omega) AK hB ?_
 ·intro j z hz;have hj:j<4:=by have:=(Af.1 hz).1;simpa using this
  rw[Ay,hw,AA (AV wb _) _,Ak];obtain rfl|rfl|rfl|rfl:j=0\/j=1\/j=2\/j=3:=AK
  all_goals simpa using hz
 intro v' w' h1 h2 _ h5;refine hK v' w' ?_ (Cs.grown h2 hB hown.ownBlock);unfold FO;rw[SI n hl];exact h1
theorem L9 (w:UK) (g:Nat):(Instr.sliceAt 122 (UM (UI ⟨g,0,UJ⟩)) UJ UJ UJ).run Tryz.prog w=.ok (UD (UI ⟨g,0,UJ⟩) 64 64) w:=by
 unfold Instr.sliceAt;simp[run_underlying Tryz.underlying122,go_sem,Instr.sliceBounds,Addr.add]
structure JX (w:UK) (zs:List Int) (ps:List PD) (J tl k:Nat) (v:UL) (wr:UK):Prop where
 bel:Below w.heap.size w wr
 fo:∃ F,FO w.heap.size wr v F k/\F++Fa zs ps J (tl+k) (J-k)=Fa zs ps J tl J
theorem LE {w:UK} {g:Nat} {a x:Option Addr} {L c m cx:Nat} {f:Int} {d:Bool} {zs:List Int} {ps:List PD} (h:Md w g a x L c m cx f d zs ps) (F:JF L c m f zs ps) (tl:Nat) (ht:tl<=4000000000) :
  Calls Tryz.prog 36 #[UM (UI ⟨g,0,UJ⟩),UE UG (tl:Int)] w λe w'=>∃ v n,e=UQ v/\FO w.heap.size w' v (Fa zs ps (L/64-4) tl (L/64-4)) n/\Below w.heap.size w w':=by
 have HD:=Cp h;have hJ1:4<=L/64-4:=AG F.base
 have hJ2:L/64-4<=252:=AG F.base
 have HJS:=Cp (λww (hi:Md ww g a x L c m cx f d zs ps)=>I1 hi F);have HFS:=Cp (λww (hi:Md ww g a x L c m cx f d zs ps) q hq=>PN hi F q hq);have HRD:=Cp (λww (hi:Md ww g a x L c m cx f d zs ps) q (hq:q<L/64-4)=>Gg g a x L c m cx f (4+q) d zs ps ww hi.row (AG F.base) F.hc F.hl F.hm (AG F.base) (AG F.base) hi.at_ hi.pat (λi hi=>F.len i hi));have HTX:=Cp (λq=>F.jr q);have HSR:AP ((Tryz.prog.info? 114).map (·.size)=UI 5):=by show _=_;kernel_rfl
 have HSF:AP ((Tryz.prog.info? 112).map (·.size)=UI 4):=by show _=_;kernel_rfl
 have hsl:=λw=>L9 w
 clear h F;generalize L/64-4=J at *;have hJ3:(J:Int)<=252:=AK
 obtain⟨ti,hti⟩:∃ t:Int,(tl:Int)=t:=⟨_,rfl⟩
 have ht0:0<=ti:=AK
 have ht1:ti<=4000000000:=AK
 rw[hti];have HTI:=Cp hti;clear hti ht;go_enter Tryz.func36,Tryz.ntmps36;go_wp2
 go_step3
 go_wp2
 go_step3
 go_wp2
 go_loopw [5,6] (λv i wr=>∃(k:Nat) (qi:Int),k<=J/\qi=ti+k/\i=UE UG qi/\JX w zs ps J tl k v wr) (λ_ i _=>4294967296-(intOf i).toNat)
 case atStart=>exact⟨0,ti,Aj _,AM,rfl,Ad _ _,[],⟨rfl,.inl ⟨rfl,rfl⟩⟩,rfl⟩
 case round=>
  obtain⟨k,qi,hk,hqi,rfl,hX⟩:=hrel;have HX:=Cp hX;have hq0:0<=qi:=AK
  have hq1:qi<=4000000252:=AK
  have hsub:(qi-ti)%4294967296=(k:Int):=AK
  have HQN:AP (((tl+k:Nat):Int)=qi):=by show _=_;have:=HTI.o;omega
  have HQI:=Cp hqi;clear hX hqi;have HD1:=Cp (HD.o.below HX.o.bel);by_cases hlt':qi<4000000000
  ·have HLT:AP (tl+k<4000000000):=by show _<_;have:=HQN.o;omega
   go_wp2_with fail;refine(HJS.o _ HD1.o).mono ?_;rintro e w9 ⟨rfl,h9⟩;obtain rfl:wr=w9:=h9.symm;by_cases hkJ:k<J
   ·have hkJ':(k:Int)<(J:Int):=AK
    go_wp2_with fail;obtain⟨sN,hsN⟩:∃ s:Nat,4+(tl+k)%J=s:=⟨_,rfl⟩
    have B:=Cp (HFS.o _ HD1.o (tl+k) (AG HLT.o));have A:=Cp (HRD.o _ HD1.o ((tl+k)%J) (Nat.mod_lt _ AK));rw[HQN.o,hsN] at B;rw[hsN] at A;have HSN:=Cp hsN;clear hsN;refine B.o.mono ?_;rintro e w9 ⟨rfl,h9⟩;obtain rfl:wr=w9:=h9.symm;clear B;go_wp2_with fail;refine A.o.mono ?_;rintro e w1 ⟨rfl,b1⟩;have HTK:=Cp (HTX.o (tl+k));have HE:AP (Dw zs ps (sN:Nat)=KN zs ps J (tl+k)):=by show _=_;rw[<-HSN.o];rfl
    rw[HE.o];have HYS:=Cp (λ(h1:Gy (KN zs ps J (tl+k))=true) (h2:DD (KN zs ps J (tl+k)) 0=qi)=>J9 (n:=J-(k+1)) HLT.o (show I3 zs ps J (tl+k)=true by unfold I3;rw[h1,HQN.o,BJ h2];rfl));have HNO:=Cp (λ(h1:Gy (KN zs ps J (tl+k))=false\/¬ DD (KN zs ps J (tl+k)) 0=qi)=>IS (n:=J-k) (.inr (.inr (show I3 zs ps J (tl+k)=false by unfold I3;rw[HQN.o];rcases h1 with h|h<;>simp[h]))));have HXF:=Cp (Ac (HX.o.bel.trans (b1.mono HX.o.bel.size)) HX.o.fo);have HB1:=Cp b1;clear A b1 HE HX;generalize KN zs ps J (tl+k)=z at *;have hsz:(z.map (Value.int UH)).toArray.size=64:=by rw[BX,BI];exact HTK.o.1
    have HSS:AP ((Tryz.prog.info? 122).map (·.size)=UI (z.map (Value.int UH)).toArray.size):=by show _=_;rw[hsz];kernel_rfl
    have HOK:AP ((z.map (Value.int UH)).toArray.all (λx=>x.oneCell')=true):=by show _=_;simp[Value.oneCell']
    have HB2:AP (Below w1.heap.size w1 (w1.alloc (UP (z.map (Value.int UH)).toArray 122))):=Cs.alloc Cw _;have HR2:AP ((w1.alloc (UP (z.map (Value.int UH)).toArray 122)).heap[w1.heap.size]?=UI (UP (z.map (Value.int UH)).toArray 122 (0,0))):=AV w1 _;unfold IZ;clear hsz;go_wp2_with (first
     |(refine AC 122 (UT 7) (UT 26) w1.heap.size ((z.map (Value.int UH)).toArray) 122 (AV w1 _) HSS.o (by simp[HTK.o.1]) HOK.o ?_)
     |fail)
    rw[World.setRow_alloc_new];have HB3:=Cp (HB1.o.trans (HB2.o.mono HB1.o.size));have HX3:=Cp (Ac (HXF.o.1.trans (HB2.o.mono HXF.o.1.size)) HXF.o.2);clear HB1 HB2 HXF HSS HOK;generalize w1.alloc (UP (z.map (Value.int UH)).toArray 122)=w2 at *;have hlt2:=(AQ.1 HR2.o).1;have A:=Cp (Qx (UI ⟨w1.heap.size,0,UJ⟩) 64 z w2 HTK.o.1 HTK.o.2 (.inr ⟨w1.heap.size,0,rfl,hlt2,λi hi=>by rw[Ak,AA HR2.o i];simp[hi]⟩));clear HR2 hlt2;go_wp2_with fail;refine A.o.mono ?_;rintro e w3 ⟨rfl,b3⟩;have HB4:=Cp (HB3.o.trans (b3.mono HB3.o.size));have HX4:=Cp (Ac (HX3.o.1.trans (b3.mono HX3.o.1.size)) HX3.o.2);clear A b3 HB3 HX3 HTX HFS HRD HJS;cases hdec:Gy z with
    |false=>
     rw[Gv hdec];unfold Nb;have HN:=Cp (HNO.o (.inl hdec));clear HYS HNO;have HB5:AP (Below w3.heap.size w3 ((w3.alloc (UP Cl 114)).setRow w3.heap.size Cl)):=(Cs.alloc Cw _).trans ((Wr.setRow _ _ _).below Cw);have HR5:AP (((w3.alloc (UP Cl 114)).setRow w3.heap.size Cl).heap[w3.heap.size]?=UI (UP Cl 114 (0,0))):=AB (AV w3 _)
     go_upto_region 8 with (first
      |(refine AC 114 (UT 8) (UT 28) w3.heap.size Cl 114 (AV w3 _) HSR.o rfl (J7 _ _ _ _ _) ?_)
      |fail)
     have HX5:=Cp (Ac (HX4.o.1.trans (HB5.o.mono HX4.o.1.size)) HX4.o.2);have HB6:=Cp (HB4.o.trans (HB5.o.mono HB4.o.size));clear HX4 HB4 HB5;generalize (w3.alloc (UP Cl 114)).setRow w3.heap.size Cl=w4 at *;generalize w3.heap.size=Q at *;have c0:=AA HR5.o 0;simp at c0;obtain⟨G,hG,hE⟩:=HX5.o.2;rw[HN.o,Bq] at hE;have HF:AP (FO w.heap.size w4 u5 (Fa zs ps J tl J) k/\Below w.heap.size w w4):=by rw[<-hE];exact⟨hG.below HB6.o,HX5.o.1⟩
     clear hG hE HX5 HN HR5 HB6;go_wp2;try rw[Exit.noGoto_ret]
     go_ret
     exact⟨_,_,rfl,HF.o.1,HF.o.2⟩
    |true=>
     rw[Hv hdec];unfold Qt;have u0:=Dp z HTK.o.2 0;have HFR:AP (Sh z=[DD z 0,z.getD 6 0,DD z 8,DD z 12]):=rfl;have HYS2:=Cp (HYS.o hdec);have HNO2:=Cp (λh=>HNO.o (.inr h));clear HYS HNO hdec;rw[HFR.o] at HYS2;generalize DD z 0=s at *;generalize z.getD 6 0=kd at *;generalize DD z 8=p at *;generalize DD z 12=y at *;clear HTK HFR;have HB5:AP (Below w3.heap.size w3 ((w3.alloc (UP Cl 114)).setRow w3.heap.size #[UF true,UE UG s,UE UO kd,UE UG p,UE UG y])):=(Cs.alloc Cw _).trans ((Wr.setRow _ _ _).below Cw);have HR5:AP (((w3.alloc (UP Cl 114)).setRow w3.heap.size #[UF true,UE UG s,UE UO kd,UE UG p,UE UG y]).heap[w3.heap.size]?=UI (UP #[UF true,UE UG s,UE UO kd,UE UG p,UE UG y] 114 (0,0))):=AB (AV w3 _)
     go_upto_region 8 with (first
      |(refine AC 114 (UT 8) (UT 28) w3.heap.size #[UF true,UE UG s,UE UO kd,UE UG p,UE UG y] 114 (AV w3 _) HSR.o rfl (J7 _ _ _ _ _) ?_)
      |fail)
     have HX5:=Cp (Ac (HX4.o.1.trans (HB5.o.mono HX4.o.1.size)) HX4.o.2);have HB6:=Cp (HB4.o.trans (HB5.o.mono HB4.o.size));clear HX4 HB4 HB5;generalize (w3.alloc (UP Cl 114)).setRow w3.heap.size #[UF true,UE UG s,UE UO kd,UE UG p,UE UG y]=w4 at *;generalize w3.heap.size=Q at *;have c0:=AA HR5.o 0;have c1:=AA HR5.o 1;have c2:=AA HR5.o 2;have c3:=AA HR5.o 3;have c4:=AA HR5.o 4;simp at c0 c1 c2 c3 c4;by_cases hs:s=qi
     ·have hs':(s != qi)=false:=by simp[hs]
      obtain⟨G,hG,hE⟩:=HX5.o.2;have HQ:AP ((G++[s,kd,p,y])++Fa zs ps J (tl+(k+1)) (J-(k+1))=Fa zs ps J tl J):=by
       show _=_
       have e:=HYS2.o hs;rw[show J-(k+1)+1=J-k by omega] at e;rw[<-hE,e,By];rfl
      have hGO:=hG.below HB6.o;have hsz6:=HX5.o.1.size;have HA:=Cp (hGO.alloc (UP #[UE UG s,UE UO kd,UE UG p,UE UG y] 112));have HBF:=Cp HX5.o.1;clear hG hE hGO HYS2 HNO2 HX5 HB6;subst hs;clear hs';have hs':(s != s)=false:=AM
      go_wp2_with (at_builtin;refine LD _ rfl _ _ rfl w.heap.size _ G k rfl HA.o w4 s kd p y rfl rfl ?f1 ?f2 ?_)
      case f1=>omega
      case f2=>rw[Bl];omega
      intro v' w5 hO5 hB5;have HJ:AP (JX w zs ps J tl (k+1) v' w5):=⟨(HBF.o.alloc hsz6 _).trans hB5,_,hO5,HQ.o⟩
      clear hO5 hB5 HA HBF HQ HR5 c0 c1 c2 c3 c4;go_wp2;go_roundw
      case rel=>exact⟨k+1,s+1,AK,AG HQI.o,by go_num,HJ.o⟩
      case measure=>simp[intOf];omega
     ·have hs':(s != qi)=true:=by simp[hs]
      have HN:=Cp (HNO2.o hs);clear HYS2 HNO2;obtain⟨G,hG,hE⟩:=HX5.o.2;rw[HN.o,Bq] at hE;have HF:AP (FO w.heap.size w4 u5 (Fa zs ps J tl J) k/\Below w.heap.size w w4):=by rw[<-hE];exact⟨hG.below HB6.o,HX5.o.1⟩
      clear hG hE HX5 HN HR5 HB6;go_wp2;try rw[Exit.noGoto_ret]
      go_ret
      exact⟨_,_,rfl,HF.o.1,HF.o.2⟩
   ·have hkJ':¬ (k:Int)<(J:Int):=AK
    obtain rfl:k=J:=AK
    obtain⟨G,hG,hE⟩:=HX.o.fo;rw[Nat.sub_self,IS (.inl rfl),Bq] at hE;have HF:AP (FO w.heap.size wr u5 (Fa zs ps k tl k) k/\Below w.heap.size w wr):=by rw[<-hE];exact⟨hG,HX.o.bel⟩
    clear hG hE HX HJS HFS HRD HTX;go_wp2;try rw[Exit.noGoto_ret]
    go_ret
    exact⟨_,_,rfl,HF.o.1,HF.o.2⟩
  ·have HNL:AP (Fa zs ps J (tl+k) (J-k)=[]):=IS (.inr (.inl (AG HQN.o)));obtain⟨G,hG,hE⟩:=HX.o.fo;rw[HNL.o,Bq] at hE;have HF:AP (FO w.heap.size wr u5 (Fa zs ps J tl J) k/\Below w.heap.size w wr):=by rw[<-hE];exact⟨hG,HX.o.bel⟩
   clear hG hE HX HJS HFS HRD HTX HNL;go_wp2;try rw[Exit.noGoto_ret]
   go_ret
   exact⟨_,_,rfl,HF.o.1,HF.o.2⟩
structure TA (lo:Nat) (w:UK) (sc:Array UL) (wr:UK):Prop where
 below:Below lo w wr
 box:wr.heap[w.heap.size]?=UI (UP sc 30 (0,0))
theorem TA.wro {lo:Nat} {w wr w':UK} {sc:Array UL} (h:TA lo w sc wr) {a:Option Addr} (hl:De lo w a) (hw:Hb a wr w'):TA lo w sc w':=
 ⟨h.below.trans (hw.below lo (λad e=>(hl ad e).1)),by rw[hw.block _ (λad e=>AG (hl ad e))];exact h.box⟩
section
variable (ok:Bool) (gn tl:Int) (aD aU:Option Addr) (nD cD nU cU:Nat) (k:Int) (w:UK)
theorem Nh (lo:Nat) (hlo:lo<=w.heap.size) (oD:Df w aD nD) (oU:Df w aU nU) (lD:De lo w aD) (lU:De lo w aU) (dU:Ej aD aU) (hk:0<=k) (hk':k+nD+nU<=1099511627776) :
  Calls Tryz.prog 46 #[UN #[UE UG gn,UE UG tl,UD aD nD cD,UD aU nU cU],UE UO k] w λe w'=>e=UQ (UE UO (k+nD+nU))/\At UO w' aD (Fd k nD)/\At UO w' aU (Fd (k+nD) nU)/\Below lo w w'/\∀ j,j<w.heap.size->DG j aD->DG j aU->w'.heap[j]?=w.heap[j]?:=by
 have b1:=Cv w (UP #[UE UG gn,UE UG tl,UD aD nD cD,UD aU nU cU] 30);have HM1:AP (TA lo w #[UE UG gn,UE UG tl,UD aD nD cD,UD aU nU cU] (w.alloc (UP #[UE UG gn,UE UG tl,UD aD nD cD,UD aU nU cU] 30))):=⟨b1.mono hlo,AV w _⟩
 have HO:AP (Df (w.alloc (UP #[UE UG gn,UE UG tl,UD aD nD cD,UD aU nU cU] 30)) aD nD/\Df (w.alloc (UP #[UE UG gn,UE UG tl,UD aD nD cD,UD aU nU cU] 30)) aU nU):=⟨oD.below b1,oU.below b1⟩
 have HL:AP (De lo w aD/\De lo w aU):=⟨lD,lU⟩
 have HP:AP (Ej aD aU):=dU;have HN1:AP (∀ j,j<w.heap.size->(w.alloc (UP #[UE UG gn,UE UG tl,UD aD nD cD,UD aU nU cU] 30)).heap[j]?=w.heap[j]?):=λj hj=>b1.block j hj
 clear oD oU lD lU dU b1;go_enter Tryz.func46,Tryz.ntmps46;go_wp2_with fail;refine(Gs aD nD cD k _ HO.o.1 hk AK).mono ?_;rintro e w2 ⟨rfl,hA,hw⟩;generalize w.alloc (UP #[UE UG gn,UE UG tl,UD aD nD cD,UD aU nU cU] 30)=w1 at *;have HM2:AP (TA lo w #[UE UG gn,UE UG tl,UD aD nD cD,UD aU nU cU] w2):=HM1.o.wro HL.o.1 hw;have HO2:AP (Df w2 aU nU):=HO.o.2.keepT (by rw[hw.size];exact AY _) (hw.kept HP.o);have HA2:AP (At UO w2 aD (Fd k nD)):=hA;have HN2:AP (∀ j,j<w.heap.size->DG j aD->w2.heap[j]?=w.heap[j]?):=λj hj h1=>(hw.block j (λad e=>h1 ad e)).trans (HN1.o j hj)
 have x3:w2.cell? ⟨w.heap.size,3,UJ⟩=UI (UD aU nU cU):=by rw[AA HM2.o.box 3];rfl
 clear hA hw HM1 HO;go_wp2_with fail;refine(Gs aU nU cU (k+nD) _ HO2.o AK AK).mono ?_;rintro e w3 ⟨rfl,hA,hw⟩;have HM3:AP (Below lo w w3):=(HM2.o.wro HL.o.2 hw).below;have HA3:AP (At UO w3 aD (Fd k nD)/\At UO w3 aU (Fd (k+nD) nU)):=⟨HA2.o.keepT (by rw[hw.size];exact AY _) (hw.kept (λx y hx hy=>(HP.o y x hy hx).symm)),hA⟩
 have HN3:AP (∀ j,j<w.heap.size->DG j aD->DG j aU->w3.heap[j]?=w.heap[j]?):=λj hj h1 h2=>(hw.block j (λad e=>h2 ad e)).trans (HN2.o j hj h1)
 clear hA hw HM2 HO2 HA2 x3;go_wp2
 go_ret
 exact⟨rfl,HA3.o.1,HA3.o.2,HM3.o,HN3.o⟩
theorem Ni (hD:At UO w aD (Fd k nD)) (hU:At UO w aU (Fd (k+nD) nU)) (hk:0<=k) (hk':k+nD+nU<=1099511627776) :
  Calls Tryz.prog 49 #[UN #[UE UG gn,UE UG tl,UD aD nD cD,UD aU nU cU],UE UO k] w λe w'=>e=UQ (UE UO (k+nD+nU))/\Below w.heap.size w w':=by
 have b1:=Cv w (UP #[UE UG gn,UE UG tl,UD aD nD cD,UD aU nU cU] 30);have HB:AP (Below w.heap.size w (w.alloc (UP #[UE UG gn,UE UG tl,UD aD nD cD,UD aU nU cU] 30))):=b1;have HA:AP (At UO (w.alloc (UP #[UE UG gn,UE UG tl,UD aD nD cD,UD aU nU cU] 30)) aD (Fd k nD)/\At UO (w.alloc (UP #[UE UG gn,UE UG tl,UD aD nD cD,UD aU nU cU] 30)) aU (Fd (k+nD) nU)):=⟨hD.below b1,hU.below b1⟩
 have g1:¬ (k+(nD:Int)<0):=AK
 have g2:¬ (k+(nD:Int)+nU<0):=AK
 clear hD hU b1;go_enter Tryz.func49,Tryz.ntmps49;go_wp2_with fail;refine(Gt aD nD cD k _ HA.o.1 hk AK).mono ?_;rintro e w2 ⟨rfl,rfl⟩;go_wp2_with fail;refine(Gt aU nU cU (k+nD) _ HA.o.2 AK AK).mono ?_;rintro e w3 ⟨rfl,rfl⟩;go_wp2
 go_ret
 exact⟨rfl,HB.o⟩
end
theorem EM (a a':Option Addr) (l l' c c':Nat) (f:Int) (d:Bool):(#[UD a l c,UD a' l' c',UE UO f,UF d].all (λv=>v.oneCell'))=true:=by simp[Value.oneCell']
theorem Tryz.sizeDv:(Tryz.prog.info? 40).map (·.size)=UI 4:=AN
theorem Dq.entry {B U:Nat} {w:UK} {a:Option Addr} {ps:List PD} (h:Dq B U w a ps) {i:Nat} (hi:i<ps.length) (hz:0<(ps.getD i (0,[])).2.length) :
  ∃ b off b' off' c,a=UI ⟨b,off,UJ⟩/\b<w.heap.size/\w.cell? ⟨b,off+i*2,UJ⟩=UI (UE UO (ps.getD i (0,[])).1)/\
   w.cell? ⟨b,off+i*2+1,UJ⟩=UI (UD (UI ⟨b',off',UJ⟩) (ps.getD i (0,[])).2.length c)/\(ps.getD i (0,[])).2.length<=c/\At UH w (UI ⟨b',off',UJ⟩) (ps.getD i (0,[])).2:=by
 rcases h with h|⟨g,o,X,C,ha,hB,hg,hU,h1,h2⟩
 ·subst h;simp at hi
 ·obtain⟨p1,p2,p3,p4,p5,p6,p7⟩:=h1 i hi;obtain⟨b',off',e,_,_⟩:=p4.get hz;rw[e] at p3 p4;exact⟨g,o,b',off',C i,ha,AK,p1,p3,p7,p4⟩
def GS (D g n c s S B:Nat) (zs z:List Int):Nat->UK->(Nat->UL)->Prop
 |0,_,u=>u 0=UM (UI ⟨D,0,UJ⟩)
 |1,_,u=>u 1=UM (UI ⟨D,0,UJ⟩)
 |2,_,u=>u 2=UM (UI ⟨D,0,UJ⟩)
 |3,_,u=>u 3=UD (UI ⟨g,0,UJ⟩) n c
 |4,_,u=>u 4=UE UO s
 |5,_,u=>u 5=UE UO ((s*64:Nat):Int)
 |6,_,u=>u 6=UD (UI ⟨g,s*64,UJ⟩) (n-s*64) (c-s*64)
 |7,_,u=>u 7=UD (UI ⟨S,0,UJ⟩) 64 64
 |_,w,_=>DT w B (UD (UI ⟨g,0,UJ⟩) n c) (Dc zs s z)
structure XS (w w':UK) (g n c s B:Nat) (zs z:List Int):Prop where
 ch:Ch g (g+1) w w'
 own:∃ y,DT w' B (UD (UI ⟨g,0,UJ⟩) n c) y/\y.length=n/\y.take (s*64)=zs.take (s*64)/\y.drop (s*64+64)=zs.drop (s*64+64)
 z:DP w' w.heap.size 122 z
theorem Nj (D:Nat) (g n c:Nat) (x:Option Addr) (m cx:Nat) (f:Int) (dd:Bool) (s:Nat) (B:Nat) (zs z:List Int) (w:UK) {X:List UL} {T:TypeId} (hD:w.heap[D]?=UI (UP (List.toArray (UD (UI ⟨g,0,UJ⟩) n c::UD x m cx::UE UO f::UF dd::X)) T (0,0)))
  (hO:DT w B (UD (UI ⟨g,0,UJ⟩) n c) zs) (hn:zs.length=n) (hn2:n<=1048576) (hz:z.length=64) (hs:s*64+64<=n) (hT:T≠5:=by decide) :
  Calls Tryz.prog 150 #[UM (UI ⟨D,0,UJ⟩),UE UO s,IZ z] w λe w'=>e=UQ (.tuple #[])/\DT w' B (UD (UI ⟨g,0,UJ⟩) n c) (Dc zs s z)/\Ch g (g+1) w w':=by
 have c0:w.cell? ⟨D,0,UJ⟩=UI (UD (UI ⟨g,0,UJ⟩) n c):=by rw[AA hD 0];rfl
 have hDl:D<w.heap.size:=(AQ.1 hD).1;obtain⟨gg,cc,ee,hBg,hgl,hnc⟩:=hO.base;rw[hn] at ee hnc;cases ee;have hDg:D≠g:=by
  intro e;subst e;obtain⟨h1,⟨h2,_⟩|⟨g',cap,cur,hv,hb,hh,_⟩⟩:=hO.1
  ·cases h2
  ·cases hv;rw[hD] at hh;simp at hh;exact hT hh.2
 have HO:AP _:=hO;have HZ:AP _:=hz;have HN:AP _:=hn;have hcs:¬ (c=s*64):=AK
 clear hD hO hz hn;unfold IZ;have t1:(s:Int)*64<=n:=AK
 go_enter Tryz.func150,Tryz.ntmps150;go_wp2_with fail;have hb1:=(Ad w.heap.size w).alloc Cw (UP (z.map (Value.int UH)).toArray 122);have st0:XS w (w.alloc (UP (z.map (Value.int UH)).toArray 122)) g n c s B zs z:=⟨Ch.of_below hb1,⟨zs,(show DT _ _ _ _ from HO.o).alloc _,HN.o,rfl,rfl⟩,AV w _⟩
 clear hb1;generalize (w.alloc (UP (z.map (Value.int UH)).toArray 122))=w1 at *;refine Ae AN ?_;refine EO (frame:=λt=>{ tmps:=#[UM (UI { block:=D,off:=0 }),UE UO ↑s,UN (List.map (UE UH) z).toArray,undef,undef,UM (UI { block:=w.heap.size,off:=0 }),t 0,t 1,t 2,t 3,t 4,t 5,t 6,t 7,t 8],defers:=[] })
  (Ext:=λw'=>XS w w' g n c s B zs z) (Good:=GS D g n c s w.heap.size B zs z) (M:=λi w w'=>i≠8->w'=w) ?hstab AN ?hop ?hdone _ _ (λ_=>undef) _ AM ?ext ?start ?clo AM
 case start=>intro i hi h;exact absurd h E0
 case clo=>intro i o ho h;exact absurd h E0
 case ext=>exact⟨⟨st0.ch.os,st0.ch.tape,st0.ch.output,st0.ch.size,st0.ch.block⟩,st0.own,st0.z⟩
 case hstab=>
  intro j o w1 w2 u i v ho hM hij _ hg;have hj:j<9:=(AQ.1 ho).1;obtain rfl|rfl|rfl|rfl|rfl|rfl|rfl|rfl|rfl:j=0\/j=1\/j=2\/j=3\/j=4\/j=5\/j=6\/j=7\/j=8:=AK
  all_goals simp only[GS] at hg |-
  all_goals first
   |(rw[MV hij];exact hg)
   |(rw[hM hij];exact hg)
 case hdone=>
  intro t w2 hx hg;have h8:DT w2 B (UD (UI ⟨g,0,UJ⟩) n c) (Dc zs s z):=hg 8 AL;have H8:AP _:=h8;have HC:AP _:=hx.ch;clear hg hx h8;go_wp2
  go_end0
  exact⟨rfl,H8.o,HC.o⟩
 case hop=>
  intro i o t w' ho hx hdep K hK;have hi:i<9:=(AQ.1 ho).1;have k0:w'.cell? ⟨D,0,UJ⟩=UI (UD (UI ⟨g,0,UJ⟩) n c):=by
   rw[Aa (a:=⟨D,0,UJ⟩) (w:=w) (hx.ch.block D hDl AK)];exact c0
  obtain rfl|rfl|rfl|rfl|rfl|rfl|rfl|rfl|rfl:i=0\/i=1\/i=2\/i=3\/i=4\/i=5\/i=6\/i=7\/i=8:=AK
  all_goals(simp at ho;subst ho)
  ·clear hdep;go_simp;exact hK w' _ rfl hx (λ_=>rfl)
  ·have d:t 0=_:=hdep ⟨0,UR⟩ AM rfl;clear hdep;go_simp;simpa[Cr,d] using hK w' (UM (UI ⟨D,0,UJ⟩)) rfl hx (λ_=>rfl)
  ·have d:t 1=_:=hdep ⟨1,UR⟩ AM rfl;clear hdep;go_simp;simpa[Cr,d] using hK w' (UM (UI ⟨D,0,UJ⟩)) rfl hx (λ_=>rfl)
  ·have d:t 2=_:=hdep ⟨2,UR⟩ AM rfl;clear hdep;go_simp;simpa[Cr,d] using hK w' (UD (UI ⟨g,0,UJ⟩) n c) rfl hx (λ_=>rfl)
  ·clear hdep;go_simp;exact hK w' _ rfl hx (λ_=>rfl)
  ·have d:t 4=_:=hdep ⟨4,UR⟩ AM rfl;clear hdep;have hwr:IntKind.i64.wrap ((s:Int)*64)=(s:Int)*64:=by rw[As];omega
   go_simp;simpa[Cr,d] using hK w' (UE UO ((s*64:Nat):Int)) rfl hx (λ_=>rfl)
  ·have d3:t 3=_:=hdep ⟨3,UR⟩ AM rfl;have d5:t 5=_:=hdep ⟨5,UR⟩ AM rfl;clear hdep;have hnc':(n:Int)<=c:=AK
   have hsn':((s*64:Nat):Int)<=n:=AK
   have hfin:=hK w' (UD (UI ⟨g,s*64,UJ⟩) (n-s*64) (c-s*64)) rfl hx (λ_=>rfl);clear hK hx k0 st0;generalize s*64=s64 at *;go_simp;simpa[Cr,d3,d5,hcs] using hfin
  ·clear hdep;go_simp;exact hK w' _ rfl hx (λ_=>rfl)
  ·have d6:t 6=_:=hdep ⟨6,UR⟩ AM rfl;have d7:t 7=_:=hdep ⟨7,UR⟩ AM rfl;obtain⟨y,hy,hyl,hyt,hyd⟩:=hx.own;have hzl:=HZ.o;obtain⟨cur,hcur,hcs2⟩:∃ cur,w'.heap[g]?=UI (UP cur 5 (0,0))/\cur.size=c:=by
    obtain⟨h1,⟨h2,_⟩|⟨g',cap,cur,hv,hb,hh,_,_,hcz,_⟩⟩:=hy.1
    ·cases h2
    ·cases hv;exact⟨cur,hh,AK⟩
   rw[AR AO];refine Ix (UT 12) (UT 13) rfl (UI ⟨g,s*64,UJ⟩) (UI ⟨w.heap.size,0,UJ⟩) g (s*64) (n-s*64) (c-s*64) 64 64 d6 d7 cur 5 hcur z (by rw[hzl];exact(Nat.min_eq_left AK).symm) (λ_=>⟨rfl,_,rfl,λj hj=>?_⟩) (by rw[hzl];omega) ?_
   ·rw[Ay,Ak,DP.cell hx.z j hj]
   ·intro w2 h2 hw2;have hnew:=hy.splice (s*64) AK hcur h2;rw[hzl] at hnew;have he:y.take (s*64)++(z++y.drop (s*64+64))=Dc zs s z:=by unfold Dc;rw[hyt,hyd,hzl]
    rw[he] at hnew;have hsl:w.heap.size≠g:=AK
    refine hK w2 _ hnew ⟨hx.ch.trans ⟨hw2.os,hw2.tape,hw2.output,by rw[hw2.size];exact AY _,λj _ hj=>hw2.block j AK⟩,⟨_,hnew,by rw[Eh zs s z (AG HN.o)];exact HN.o,?_,?_⟩,hw2.row hx.z hsl⟩ (λh=>absurd rfl h)
    ·have hn:=HN.o;unfold Dc;rw[List.take_append_of_le_length (by simp;omega),List.take_take,Nat.min_self]
    ·have hn:=HN.o;unfold Dc;rw[hzl,<-By,List.drop_append_of_le_length (by simp;omega),Bz (by simp;omega)];simp
theorem EJ {ops:Array Oper} {rest:List Oper} {o:Oper} {a:Act} {w:UK} {Q:Exit->Act->UK->Prop} (hgd:o.guard=UJ) (ty:TypeId) (x y:Operand) (ho:o.op=.store ty x y)
  (g:Nat) (cells:Array UL) (hx:a.eval x=UM (UI ⟨g,0,UJ⟩)) (hy:a.eval y=UN cells)
  (t:TypeId) (old:Array UL) (hg:w.heap[g]?=UI (UP old t (0,0))) (hi:(Tryz.prog.info? ty).map (·.size)=UI cells.size)
  (hold:old.size=cells.size) (h1:cells.all (·.oneCell')=true)
  (h:∀ w',w'.heap[g]?=UI (UP cells t (0,0))->Wr g w w'->wpList Tryz.prog ops Q rest (a.put o.dst undef) w'):wpList Tryz.prog ops Q (o::rest) a w:=
 wpList_store_row hgd ty x y ho g cells hx hy t old hg hi hold h1 (h _ (AB hg) (Wr.setRow _ _ _))
theorem Ru (s:Int) (a:Option Addr) (l c:Nat):(#[UE UO s,UD a l c].all (λv=>v.oneCell'))=true:=by simp[Value.oneCell']
theorem Tryz.sizePd:(Tryz.prog.info? 106).map (·.size)=UI 2:=AN
theorem TB {w:UK} {g:Nat} {t:TypeId} {a0 a1:UL} (h:w.heap[g]?=UI (UP #[a0,a1] t (0,0))) :
  w.cell? ⟨g,0,UJ⟩=UI a0/\w.cell? ⟨g,1,UJ⟩=UI a1:=
 ⟨AA h _,AA h _⟩
theorem FY.entry {w:UK} {a:Option Addr} {ps:List PD} (h:FY w a ps) {i:Nat} (hi:i<ps.length) (hz:0<(ps.getD i (0,[])).2.length) :
  ∃ b off b' off' c,a=UI ⟨b,off,UJ⟩/\b<w.heap.size/\w.cell? ⟨b,off+i*2,UJ⟩=UI (UE UO (ps.getD i (0,[])).1)/\
   w.cell? ⟨b,off+i*2+1,UJ⟩=UI (UD (UI ⟨b',off',UJ⟩) (ps.getD i (0,[])).2.length c)/\At UH w (UI ⟨b',off',UJ⟩) (ps.getD i (0,[])).2:=by
 obtain⟨b,off,ha,hl,hc⟩:=h.get AK;obtain⟨x,c,h1,h2,h3⟩:=hc i hi;obtain⟨b',off',e,_,_⟩:=h3.get hz;rw[e] at h2 h3;exact⟨b,off,b',off',c,ha,hl,h1,h2,h3⟩
theorem At.none_nil {w:UK} {zs:List Int} (h:At UH w UJ zs):zs=[]:=by
 rcases h with h|⟨b,off,e,_⟩
 ·exact h
 ·cases e
theorem GH (a:Option Addr) (n cap:Nat) (zs:List Int) (w:UK) (hn:zs.length=n) (hm:n<=1048576) (ha:At UH w a zs) :
  Calls Tryz.prog 110 #[UD a n cap] w λe w'=>∃ v,e=UQ v/\Dd w' w.heap.size v zs/\Below w.heap.size w w':=by
 cases a with
 |none=>
  have h0:=ha.none_nil;have E:=GE w UJ n cap;go_enter Tryz.func110,Tryz.ntmps110;go_wp2
  go_ret
  exact⟨_,rfl,.inl ⟨rfl,h0⟩,Ad _ _⟩
 |some ad=>exact NQ (UI ad) n cap zs w hn hm ha (λh=>by cases h)
theorem Dk.snoc2 {w1 w':UK} {B S:Nat} {v v':UL} {qs:List Q1} {q:Q1} (h:Dk w1 B v qs) (hlt:∀(i:Nat) (p:Q1) (k:Nat),qs[i]?=UI p->p.v.ownBlock=UI k->k<S) (hq:L7 w1 S q) (hB:B<=S)
  (hr:w'.ownsRow B 106 2 v' (qs.length+1) (FF qs++[UE UO q.s,UD q.a q.z.length q.c])) (hg:w1.grownBy w' v.ownBlock):Dk w' B v' (qs++[q]):=by
 have hne:∀ k cur t,w1.heap[k]?=UI (UP cur t (0,0))->t≠106->UI k≠v.ownBlock:=λk cur t hh ht e=>by
  obtain⟨_,h2,cur',h3⟩:=DI h.row k e.symm;rw[h3] at hh;simp at hh;exact ht hh.2.symm
 have hkp:∀ {C:Nat} {p:Q1},L7 w1 C p->L7 w' C p:=fun {C p} hp=>hp.keep (λk e=>by obtain⟨_,h3,cur,t,h4,h5,_⟩:=hp.lt k e;exact hg.block k h3 (hne k cur t h4 h5))
 refine⟨by rw[Al,LB];exact hr,λi p hp=>?_,λi j p p' k k' hp hp' hij hk hk'=>?_⟩
 ·by_cases hi:i<qs.length
  ·rw[A0 hi] at hp;exact hkp (h.each i p hp)
  ·rw[Am AK] at hp;have:i-qs.length=0:=by
    have:=(Af.1 hp).1;simp at this;omega
   rw[this] at hp;simp at hp;subst hp;exact(hkp hq).mono hB
 ·have hi:i<qs.length:=by have:=(Af.1 hp').1;simp at this;omega
  rw[A0 hi] at hp;by_cases hj:j<qs.length
  ·rw[A0 hj] at hp';exact h.ord i j p p' k k' hp hp' hij hk hk'
  ·rw[Am AK] at hp';have:j-qs.length=0:=by
    have:=(Af.1 hp').1;simp at this;omega
   rw[this] at hp';simp at hp';subst hp';have:=(hq.lt k' hk').1;have:=hlt i p k hp hk;omega
theorem Qz {p:Prop} (h:p):AP p:=h
structure CS (w wr:UK) (C1:Array UL) (A E:Nat) (dv cv:UL) (zs:List Int) (f:Int) (d:Bool) (qs:List Q1):Prop where
 below:Below w.heap.size w wr
 b0:wr.heap[w.heap.size]?=UI (UP C1 40 (0,0))
 b1:wr.heap[w.heap.size+1]?=UI (UP Cd 40 (0,0))
 aft:wr.heap[A]?=UI (UP #[dv,cv,UE UO f,UF d] 40 (0,0))
 own:Dd wr (w.heap.size+2) dv zs
 pow:Dk wr E cv qs
 hE:w.heap.size+2<=A/\A<E/\E<=wr.heap.size
 hdv:∀ k,dv.ownBlock=UI k->k<E/\k≠A
theorem CS.grow {w wr w':UK} {C1:Array UL} {A E:Nat} {dv cv:UL} {zs:List Int} {f:Int} {d:Bool} {qs:List Q1} (h:CS w wr C1 A E dv cv zs f d qs) (hb:Below wr.heap.size wr w'):CS w w' C1 A E dv cv zs f d qs:=by
 have hE:=h.hE;have hs:=hb.size;exact⟨h.below.trans (hb.mono h.below.size),by rw[hb.block _ AK];exact h.b0,by rw[hb.block _ AK];exact h.b1,by rw[hb.block _ AK];exact h.aft,h.own.keep (λk hk=>hb.block k (h.own.lt k hk).2.1),h.pow.below hb,⟨hE.1,hE.2.1,AK⟩,h.hdv⟩
theorem CS.turn {w wr w':UK} {C1:Array UL} {A E:Nat} {dv cv cv':UL} {zs:List Int} {f:Int} {d:Bool} {qs qs':List Q1} (h:CS w wr C1 A E dv cv zs f d qs) (ho:w'.os=wr.os) (ht:w'.tape=wr.tape) (hu:w'.output=wr.output) (hs:wr.heap.size<=w'.heap.size)
  (hk:∀ k,k<E->k≠A->w'.heap[k]?=wr.heap[k]?) (ha:w'.heap[A]?=UI (UP #[dv,cv',UE UO f,UF d] 40 (0,0))) (hp:Dk w' E cv' qs'):CS w w' C1 A E dv cv' zs f d qs':=by
 have hE:=h.hE;exact⟨h.below.trans ⟨ho,ht,hu,hs,λk hk'=>hk k AK AK⟩,by rw[hk _ AK AK];exact h.b0,by rw[hk _ AK AK];exact h.b1,ha,h.own.keep (λk e=>hk k (h.hdv k e).1 (h.hdv k e).2),hp,⟨hE.1,hE.2.1,AK⟩,h.hdv⟩
def DR (w:UK) (B:Nat) (r:UL) (zs:List Int) (ps:List PD) (f:Int) (d:Bool):Prop:=∃ dv cv qs E,r=UN #[dv,cv,UE UO f,UF d]/\Dd w B dv zs/\Dk w E cv qs/\Fr qs=ps/\B<=E/\E<=w.heap.size/\∀ k,dv.ownBlock=UI k->k<E
theorem DR.mine {w:UK} {B:Nat} {r:UL} {zs:List Int} {ps:List PD} {f:Int} {d:Bool} (h:DR w B r zs ps f d):FH B w.heap.size w r zs ps f d:=by
 obtain⟨dv,cv,qs,E,rfl,hO,hP,rfl,hBE,hEw,hdv⟩:=h;obtain⟨ca,cc,rfl,hPm⟩:=hP.mine;have hq:(Fr qs).length=qs.length:=by simp[Fr]
 rcases hO with⟨rfl,rfl⟩|hO
 ·exact⟨UJ,0,ca,cc,E,by rw[hq];rfl,.inl rfl,.inl rfl,(λad e=>by cases e),hBE,hEw,AY _,hPm,AY _⟩
 ·obtain⟨g,c,rfl,hb,hg,hc,hA,hOp⟩:=hO.at_;exact⟨_,c,ca,cc,E,by rw[hq],hA,hOp,λad e=>by cases e;exact⟨hb,hdv g rfl⟩,hBE,hEw,AY _,hPm,hc⟩
theorem DR.keep {w w':UK} {B:Nat} {r:UL} {zs:List Int} {ps:List PD} {f:Int} {d:Bool} (h:DR w B r zs ps f d) (hk:∀ k cur t,B<=k->w.heap[k]?=UI (UP cur t (0,0))->t≠40->w'.heap[k]?=w.heap[k]?) (hs:w.heap.size<=w'.heap.size):DR w' B r zs ps f d:=by
 obtain⟨dv,cv,qs,E,hr,hO,hP,hq,hBE,hEw,hdv⟩:=h;refine⟨dv,cv,qs,E,hr,hO.keep (λk e=>?_),⟨Ep hP.row (λk e=>?_),λi q hi=>(hP.each i q hi).keep (λk e=>?_),hP.ord⟩,hq,hBE,AK,hdv⟩
 ·obtain⟨h1,_,cur,h2⟩:=hO.lt k e;exact hk k cur _ h1 h2 AL
 ·obtain⟨h1,_,cur,h2⟩:=DI hP.row k e;exact hk k cur _ AK h2 AL
 ·obtain⟨h1,_,cur,t,h2,_,h3⟩:=(hP.each i q hi).lt k e;exact hk k cur t AK h2 h3
theorem DR.grow {w w':UK} {B:Nat} {r:UL} {zs:List Int} {ps:List PD} {f:Int} {d:Bool} (h:DR w B r zs ps f d) (hb:Below w.heap.size w w'):DR w' B r zs ps f d:=
 h.keep (λk cur t _ h2 _=>hb.block k (AQ.1 h2).1) hb.size
theorem DR.mono {w:UK} {B B':Nat} {r:UL} {zs:List Int} {ps:List PD} {f:Int} {d:Bool} (h:DR w B r zs ps f d) (hB:B'<=B):DR w B' r zs ps f d:=by
 obtain⟨dv,cv,qs,E,hr,hO,hP,hq,hBE,hEw,hdv⟩:=h;exact⟨dv,cv,qs,E,hr,hO.mono hB,hP,hq,AK,hEw,hdv⟩
theorem DR.refit {w:UK} {B:Nat} {a b:UL} {zs:List Int} {ps:List PD} {f:Int} {d:Bool} (h:DR w B (UN #[a,b,UE UO f,UF d]) zs ps f d) (f':Int) (d':Bool):DR w B (UN #[a,b,UE UO f',UF d']) zs ps f' d':=by
 obtain⟨dv,cv,qs,E,hr,h⟩:=h;simp at hr;obtain⟨rfl,rfl⟩:=hr;exact⟨_,_,qs,E,rfl,h⟩
theorem CS.typed {w wr:UK} {C1:Array UL} {A E:Nat} {dv cv:UL} {zs:List Int} {f:Int} {d:Bool} {qs:List Q1} (h:CS w wr C1 A E dv cv zs f d qs):DR wr (w.heap.size+2) (UN #[dv,cv,UE UO f,UF d]) zs (Fr qs) f d:=
 ⟨dv,cv,qs,E,rfl,h.own,h.pow,rfl,AG h.hE,h.hE.2.2,λk e=>(h.hdv k e).1⟩
def GA (S D L cap:Nat) (a:Option Addr) (zs:List Int) (f:Int) (d:Bool):Nat->UK->UL->Prop
 |0,_,v=>v=UM (UI ⟨D,0,UJ⟩)
 |1,_,v=>v=UD a L cap
 |2,w,v=>Dd w S v zs
 |3,_,v=>v=UM (UI ⟨D,2,UJ⟩)
 |4,_,v=>v=UE UO f
 |5,_,v=>v=UM (UI ⟨D,3,UJ⟩)
 |6,_,v=>v=UF d
 |7,w,v=>∃ dv,v=UN #[dv,UD UJ 0 0,UE UO f,UF d]/\Dd w S dv zs
 |_,w,v=>∃ A,v=UM (UI ⟨A,0,UJ⟩)/\S<=A/\w.heap[A]?=UI (UP Cd 40 (0,0))
theorem Dd.grow {w w':UK} {B:Nat} {v:UL} {zs:List Int} (h:Dd w B v zs) (hb:Below w.heap.size w w'):Dd w' B v zs:=h.keep (λk hk=>hb.block k (h.lt k hk).2.1)
theorem Q0 (S D L cap:Nat) (a:Option Addr) (zs:List Int) (f:Int) (d:Bool) (i:Nat) (w w':UK) (v:UL) (hm:Below w.heap.size w w') (h:GA S D L cap a zs f d i w v):GA S D L cap a zs f d i w' v:=by
 unfold GA at *;split at h;all_goals first
  |exact h
  |exact h.grow hm
  |(obtain⟨dv,e,h⟩:=h;exact⟨dv,e,h.grow hm⟩)
  |(obtain⟨W,e,h1,h2⟩:=h;exact⟨W,e,h1,by rw[hm.block _ (AQ.1 h2).1];exact h2⟩)
theorem Dd.sl' {w:UK} {B:Nat} {v:UL} {z:List Int} (h:Dd w B v z):∃ a c,v=UD a z.length c:=by
 rcases h with⟨rfl,rfl⟩|h
 ·exact⟨UJ,0,rfl⟩
 ·obtain⟨g,c,rfl,_⟩:=h.base;exact⟨_,c,rfl⟩
def GQ (A P S E:Nat) (cv:UL) (qs:List Q1) (s:Int) (xa:Option Addr) (c:Nat) (z:List Int):Nat->(Nat->Bool)->UK->UL->Prop
 |0,_,_,v=>v=UM (UI ⟨A,1,UJ⟩)
 |1,_,_,v=>v=cv
 |2,_,_,v=>v=UM (UI ⟨P,0,UJ⟩)
 |3,_,_,v=>v=UE UO s
 |4,_,_,v=>v=UM (UI ⟨P,1,UJ⟩)
 |5,_,_,v=>v=UD xa z.length c
 |6,_,w,v=>Dd w S v z
 |7,_,w,v=>∃ a c',v=UN #[UE UO s,UD a z.length c']/\Dd w S (UD a z.length c') z
 |8,_,w,v=>∃ K a c',v=UD (UI ⟨K,0,UJ⟩) 1 1/\S<=K/\w.heap[K]?=UI (UP #[UE UO s,UD a z.length c'] 106 (0,0))/\Dd w S (UD a z.length c') z
 |9,_,w,v=>∃ q:Q1,q.s=s/\q.z=z/\Dk w E v (qs++[q])
 |_,_,_,v=>v=UM (UI ⟨A,1,UJ⟩)
theorem Cx {w w':UK} {r:Option Nat} (h:Below w.heap.size w w'):w.grownBy w' r:=⟨h.os,h.tape,h.output,h.size,λk hk _=>h.block k hk⟩
theorem Dr {w w' w'':UK} {r:Option Nat} (h:w.grownBy w' r) (k:w'.grownBy w'' r):w.grownBy w'' r:=
 ⟨k.os.trans h.os,k.tape.trans h.tape,k.output.trans h.output,BC h.size k.size,λi hi hr=>(k.block i (AG h.size) hr).trans (h.block i hi hr)⟩
theorem Dd.grown {w w':UK} {S:Nat} {v:UL} {z:List Int} {r:Option Nat} (h:Dd w S v z) (hg:w.grownBy w' r) (hr:∀ k,r=UI k->k<S):Dd w' S v z:=
 h.keep (λk e=>hg.block k (h.lt k e).2.1 (λer=>AI (hr k er.symm) (h.lt k e).1))
theorem Q2 (A P S E:Nat) (cv:UL) (qs:List Q1) (s:Int) (xa:Option Addr) (c:Nat) (z:List Int) (hr:∀ k,cv.ownBlock=UI k->k<S) (j:Nat) (L:Nat->Bool) (w w':UK) (i:Nat) (v:UL)
  (hM:(i≠9->Below w.heap.size w w')/\w.grownBy w' cv.ownBlock) (hij:i≠j) (hL:L i=false) (h:GQ A P S E cv qs s xa c z j L w v):GQ A P S E cv qs s xa c z j (Ct L i) w' v:=by
 have hg:=hM.2;unfold GQ at *;split at h;all_goals first
  |exact h
  |exact Dd.grown h hg hr
  |(obtain⟨a,c',e,h⟩:=h;exact⟨a,c',e,Dd.grown h hg hr⟩)
  |(obtain⟨K,a,c',e,h1,h2,h⟩:=h;exact⟨K,a,c',e,h1,by rw[hg.block _ (AQ.1 h2).1 (λer=>AG (hr K er.symm))];exact h2,Dd.grown h hg hr⟩)
  |(obtain⟨q,e1,e2,h⟩:=h;exact⟨q,e1,e2,h.below (hM.1 hij)⟩)
theorem Tryz.infoPend':(Tryz.prog.info? 106).map (λi=>(i.zero,i.size,i.bytes))=UI (UI (UN #[UE UO 0,UD UJ 0 0]),2,32):=AN
theorem Ij (w:UK) {o:Oper} {a:Act} {K:Act->UK->Prop} {Q:Exit->Act->UK->Prop} (s x:Operand) (hop:o.op=Op.call { callee:=Callee.builtin Builtin.append,args:=#[s,x],argTypes:=#[38,38] })
  (E S:Nat) (cv:UL) (qs:List Q1) (q:Q1) (hs:a.eval s=cv) (hP:Dk w E cv qs) (hlt:∀(i:Nat) (p:Q1) (k:Nat),qs[i]?=UI p->p.v.ownBlock=UI k->k<S) (B:Nat) (hx:a.eval x=UD (UI ⟨B,0,UJ⟩) 1 1)
  (hB:w.heap[B]?=UI (UP #[UE UO q.s,UD q.a q.z.length q.c] 106 (0,0))) (hq:L7 w S q) (hES:E<=S) (hSw:E<=w.heap.size) (hb:qs.length<=1048576)
  (h:∀ v' w',Dk w' E v' (qs++[q])->w.grownBy w' cv.ownBlock->K (a.put o.dst v') w'):o.wp Tryz.prog a w K Q:=by
 obtain⟨i0,hi,hz0,hz1,hz2⟩:=Be Tryz.infoPend';refine wp_append_own w s x 38 hop E 106 i0 (UN #[UE UO 0,UD UJ 0 0]) 2 32 Tryz.underlying38 hi hz0 hz1 hz2 rfl AL cv qs.length _ hs hP.row ⟨B,0,UJ⟩ 1 1 [UE UO q.s,UD q.a q.z.length q.c] hx rfl ?_ (by simp[Value.oneCell']) (by unfold maxLen;omega) AK hSw ?_
 ·intro j u hu;rw[Ay,AA hB (0+j),Ak];simpa using hu
 ·intro v' w' h1 h2 _;exact h v' w' (hP.snoc2 hlt hq hES h1 h2) h2
structure B2 (w wr:UK) (C1:Array UL):Prop where
 below:Below w.heap.size w wr
 b0:wr.heap[w.heap.size]?=UI (UP C1 40 (0,0))
 b1:wr.heap[w.heap.size+1]?=UI (UP Cd 40 (0,0))
theorem B2.grow {w wr w':UK} {C1:Array UL} (h:B2 w wr C1) (hb:Below wr.heap.size wr w'):B2 w w' C1:=
 ⟨h.below.trans (hb.mono h.below.size),by rw[hb.block _ (AQ.1 h.b0).1];exact h.b0,by rw[hb.block _ (AQ.1 h.b1).1];exact h.b1⟩
theorem B2.start (w:UK) (C1:Array UL):B2 w ((w.alloc (UP C1 40)).alloc (UP Cd 40)) C1:=by
 have h2:=(Ad _ (w.alloc (UP C1 40))).alloc Cw (UP Cd 40);refine⟨((Ad w.heap.size w).alloc Cw (UP C1 40)).alloc AM (UP Cd 40),?_,?_⟩
 ·rw[h2.block _ AM];exact AV w _
 ·have:=AV (w.alloc (UP C1 40)) (UP Cd 40);simpa using this
theorem LF (v:UL) (zs:List Int) (ps:List PD) (f:Int) (d:Bool) (w:UK) (h:Ei w v zs ps f d) (hz:zs.length<=1048576) (hn:ps.length<=1048576) (hps:∀ i,(ps.getD i (0,[])).2.length<=1048576) :
  Calls Tryz.prog 109 #[v] w λe w'=>∃ r,e=UQ r/\DR w' w.heap.size r zs ps f d/\Below w.heap.size w w'/\(ps=[]->∃ dv,r=UN #[dv,UD UJ 0 0,UE UO f,UF d]):=by
 have HSD:AP _:=Tryz.sizeDv;have HSP:AP _:=Tryz.sizePd;obtain⟨a,cap,x,cx,rfl,hA,hP,hcap⟩:=h;have HCL:AP (∀ ww:UK,Below w.heap.size w ww->Calls Tryz.prog 110 #[UD a zs.length cap] ww λe w'=>∃ v,e=UQ v/\Dd w' ww.heap.size v zs/\Below ww.heap.size ww w'):=λww hb=>GH a zs.length cap zs ww rfl hz (hA.below hb)
 have HP:AP (FY w x ps):=hP;have HPS:AP (∀ i,(ps.getD i (0,[])).2.length<=1048576):=hps;obtain⟨L,hL⟩:∃ L,zs.length=L:=⟨_,rfl⟩
 obtain⟨m,hm⟩:∃ m,ps.length=m:=⟨_,rfl⟩
 rw[hL] at HCL |-;rw[hm] at hn |-;have HHM:AP (ps.length=m):=hm;clear hL hm hA hP hcap hps hz;have HS0:AP (B2 w _ #[UD a L cap,UD x m cx,UE UO f,UF d]):=B2.start w #[UD a L cap,UD x m cx,UE UO f,UF d];go_enter Tryz.func109,Tryz.ntmps109;go_wp2_with fail;have st1:=HS0.o;clear HS0;generalize ((w.alloc (UP #[UD a L cap,UD x m cx,UE UO f,UF d] 40)).alloc (UP Cd 40))=w1 at *;have HS1:AP (B2 w w1 #[UD a L cap,UD x m cx,UE UO f,UF d]):=st1;have hs1:w.heap.size+1<w1.heap.size:=(AQ.1 st1.b1).1;clear st1;refine Ae AN ?_;refine F2 9 (λw w'=>Below w.heap.size w w') (frame:=(λ(a b c d e f g h i j k l m n o p q r s u v w x y z:UL)=>λ(t:Nat->UL)=>({ tmps:=List.toArray [a,b,c,t 8,d,e,t 0,t 1,t 2,t 3,t 4,t 5,t 6,t 7,f,g,h,i,j,k,l,m,n,o,p,q,r,s,u,v,w,x,y,z],defers:=[] }:Act)) _ _ _ _ _ _ _ _ _ _ _ _ _ _ _ _ _ _ _ _ _ _ _ _ _)
  (Ext:=λw'=>B2 w w' #[UD a L cap,UD x m cx,UE UO f,UF d]/\Below w1.heap.size w1 w') (Good:=GA w1.heap.size w.heap.size L cap a zs f d) AO AN (Q0 _ _ _ _ _ _ _ _) AN AN ?hop ?hend _ _ ((λ(x0 x1 x2 x3 x4 x5 x6 x7 x8:UL)=>λ(i:Nat)=>if i=0 then x0 else if i=1 then x1 else if i=2 then x2 else if i=3 then x3 else if i=4 then x4 else if i=5 then x5 else if i=6 then x6 else if i=7 then x7 else if i=8 then x8 else undef) _ _ _ _ _ _ _ _ _) _ AM AM ?ext ?start AM
 case start=>intro i hi h;exact absurd h E0
 case ext=>exact⟨B2.grow HS1.o Cs.drew,Cs.drew⟩
 case hop=>
  intro i o t w' hil ho hx hdep K hK;obtain⟨hx,hxb⟩:=hx;obtain⟨c0,c1,c2,c3⟩:=Ek hx.b0;obtain rfl|rfl|rfl|rfl|rfl|rfl|rfl|rfl|rfl:i=0\/i=1\/i=2\/i=3\/i=4\/i=5\/i=6\/i=7\/i=8:=AK
  all_goals(simp at ho;subst ho)
  ·clear hdep;go_simp;exact hK w' (UM (UI ⟨w.heap.size,0,UJ⟩)) rfl ⟨hx,hxb⟩ Cs
  ·have d0:t 0=_:=hdep ⟨0,UR⟩ AM rfl;clear hdep;go_simp;simpa[Cr,d0] using hK w' (UD a L cap) rfl ⟨hx,hxb⟩ Cs
  ·have d1:t 1=_:=hdep ⟨1,UR⟩ AM rfl;clear hdep;go_simp;refine(HCL.o w' hx.below).mono ?_;rintro e w9 ⟨v9,rfl,O9,hb9⟩;have O9':=O9.mono hxb.size;clear O9;go_simp;simpa[Cr,d1] using hK w9 v9 O9' ⟨hx.grow hb9,hxb.trans (hb9.mono hxb.size)⟩ hb9
  ·clear hdep;go_simp;exact hK w' (UM (UI ⟨w.heap.size,2,UJ⟩)) rfl ⟨hx,hxb⟩ Cs
  ·have d3:t 3=_:=hdep ⟨3,UR⟩ AM rfl;clear hdep;go_simp;simpa[Cr,d3] using hK w' (UE UO f) rfl ⟨hx,hxb⟩ Cs
  ·clear hdep;go_simp;exact hK w' (UM (UI ⟨w.heap.size,3,UJ⟩)) rfl ⟨hx,hxb⟩ Cs
  ·have d5:t 5=_:=hdep ⟨5,UR⟩ AM rfl;clear hdep;go_simp;simpa[Cr,d5] using hK w' (UF d) rfl ⟨hx,hxb⟩ Cs
  ·have d2:Dd w' w1.heap.size (t 2) zs:=hdep ⟨2,UR⟩ AM rfl;have d4:t 4=_:=hdep ⟨4,UR⟩ AM rfl;have d6:t 6=_:=hdep ⟨6,UR⟩ AM rfl;clear hdep;obtain⟨da,dc,e2⟩:=d2.sl';rw[e2] at d2;have hK':=hK w' (UN #[UD da zs.length dc,UD UJ 0 0,UE UO f,UF d]) ⟨_,rfl,d2⟩ ⟨hx,hxb⟩ Cs;clear d2 hK;go_simp;simpa[Cr,e2,d4,d6] using hK'
  ·clear hdep;have hb9:=(Ad w'.heap.size w').alloc Cw (UP Cd 40);have hK':=hK (w'.alloc (UP Cd 40)) (UM (UI ⟨w'.heap.size,0,UJ⟩)) ⟨w'.heap.size,rfl,hxb.size,AV w' _⟩ ⟨hx.grow hb9,hxb.trans (hb9.mono hxb.size)⟩ hb9;clear hK;go_simp;simpa[Cr] using hK'
 case hend=>
  intro o t w' ho hx hg K hK;simp at ho;subst ho;obtain⟨hx,hxb⟩:=hx;obtain⟨dv,h7,O7⟩:=hg 7 AL;obtain⟨A,h8,hA1,hbA⟩:=hg 8 AL;clear hg;obtain⟨da,dc,rfl⟩:=O7.sl';have hAl:=(AQ.1 hbA).1;refine A8 40 (UT 3) (UT 13) rfl A #[UD da zs.length dc,UD UJ 0 0,UE UO f,UF d] h8 h7 40 _ hbA HSD.o rfl (EM _ _ _ _ _ _ _ _) ?_;apply hK;have hwr:=Wr.setRow A w' #[UD da zs.length dc,UD UJ 0 0,UE UO f,UF d];have hrow:(w'.setRow A #[UD da zs.length dc,UD UJ 0 0,UE UO f,UF d]).heap[A]?=UI (UP #[UD da zs.length dc,UD UJ 0 0,UE UO f,UF d] 40 (0,0)):=AB hbA;have hne:∀ k,(UD da zs.length dc).ownBlock=UI k->k≠A:=λk e ek=>by
   obtain⟨_,_,cur,h3⟩:=O7.lt k e;rw[ek,hbA] at h3;simp at h3
  have hsx:=hxb.size;have st3:CS w (w'.setRow A #[UD da zs.length dc,UD UJ 0 0,UE UO f,UF d]) #[UD a L cap,UD x m cx,UE UO f,UF d] A w'.heap.size (UD da zs.length dc) (UD UJ 0 0) zs f d []:=
   ⟨hx.below.trans (hwr.below AK),by rw[hwr.block _ AK];exact hx.b0,by rw[hwr.block _ AK];exact hx.b1,hrow,(O7.keep (λk e=>hwr.block k (hne k e))).mono AK,Dk.nil _ _,⟨AK,hAl,by rw[hwr.size];exact AY _⟩,λk e=>⟨(O7.lt k e).2.1,hne k e⟩⟩
  clear hwr hrow O7 hx hxb hbA h7 hK hne hsx hA1 hAl;generalize (w'.setRow A #[UD da zs.length dc,UD UJ 0 0,UE UO f,UF d])=w3 at *;generalize w'.heap.size=E at *;obtain⟨c0,c1,c2,c3⟩:=Ek st3.b0;have HS3:AP (CS w w3 #[UD a L cap,UD x m cx,UE UO f,UF d] A E (UD da zs.length dc) (UD UJ 0 0) zs f d []):=st3;clear st3 HS1;go_wp2;clear h8;have st3:=HS3.o;clear HS3 c0 c1 c2 c3
  go_loopw [17] (λi wr=>∃(k:Nat) (cv:UL) (qs:List Q1),k<=m/\i=UE UO k/\Fr qs=ps.take k/\CS w wr #[UD a L cap,UD x m cx,UE UO f,UF d] A E (UD da zs.length dc) cv zs f d qs/\(k=0->cv=UD UJ 0 0)) (λi _=>m-(intOf i).toNat)
  case atStart=>exact⟨0,_,[],Aj _,rfl,rfl,st3,λ_=>rfl⟩
  case round=>
   obtain⟨k,cv,qs,hk,rfl,hqs,st,hnil⟩:=hrel;have HNI:=Qz hnil;clear st3 hnil;by_cases hlt:k<m
   ·clear HNI;obtain⟨b5,o5,rfl,hb5,hc5⟩:=FY.get HP.o (by rw[HHM.o];omega);obtain⟨xa,xc,q1,q2,q4⟩:=hc5 k (by rw[HHM.o];exact hlt);have hzl:=HPS.o k;have hnew:ps.take (k+1)=ps.take k++[((ps.getD k (0,[])).1,(ps.getD k (0,[])).2)]:=by
     have hk':k<ps.length:=by rw[HHM.o];exact hlt
     have e:ps.getD k (0,[])=ps[k]:=by simp[List.getD,hk']
     rw[e];exact BO hk'
    have hql:qs.length=k:=by
     have h1:(Fr qs).length=(ps.take k).length:=by rw[hqs]
     have h2:ps.length=m:=HHM.o;simp[Fr] at h1;omega
    rw[<-hqs] at hnew;have HNEW:AP (ps.take (k+1)=Fr qs++[((ps.getD k (0,[])).1,(ps.getD k (0,[])).2)]):=hnew;clear hnew hqs hc5;generalize (ps.getD k (0,[])).1=s at *;generalize (ps.getD k (0,[])).2=z at *;rw[<-st.below.cell (p:=⟨b5,o5+k*2,UJ⟩) hb5] at q1;rw[<-st.below.cell (p:=⟨b5,o5+k*2+1,UJ⟩) hb5] at q2;have hlt':(k:Int)<m:=AK
    have HST:AP (CS w wr #[UD a L cap,UD (UI ⟨b5,o5,UJ⟩) m cx,UE UO f,UF d] A E (UD da zs.length dc) cv zs f d qs):=st;have HQ4:AP (At UH w xa z):=q4;clear st q4;go_wp2_with (refine EJ rfl 106 (UT 5) (UT 20) rfl wr.heap.size #[UE UO s,UD xa z.length xc] rfl rfl 106 _ (AV wr _) HSP.o rfl (Ru _ _ _ _) ?_);intro w3' hr3 hw3;have hb3:Below wr.heap.size wr w3':=(Cs.alloc Cw _).trans (hw3.below Cw);have hPl:wr.heap.size<w3'.heap.size:=(AQ.1 hr3).1;have HS3:AP (CS w w3' #[UD a L cap,UD (UI ⟨b5,o5,UJ⟩) m cx,UE UO f,UF d] A E (UD da zs.length dc) cv zs f d qs):=CS.grow HST.o hb3;have HR3:AP (w3'.heap[wr.heap.size]?=UI (UP #[UE UO s,UD xa z.length xc] 106 (0,0))):=hr3;have HCB:AP (∀ j,cv.ownBlock=UI j->E<=j/\j<wr.heap.size):=λj e=>⟨(DI (CS.pow HST.o).row j e).1,(DI (CS.pow HST.o).row j e).2.1⟩
    have hEw:=(CS.hE HST.o)
    clear hr3 hw3 hb3 HST q1 q2 hb5;generalize wr.heap.size=P at *;have HLT:AP (∀(i:Nat) (p:Q1) (k:Nat),qs[i]?=UI p->p.v.ownBlock=UI k->k<w3'.heap.size):=λi p k hp e=>((CS.pow HS3.o).each i p hp).lt k e |>.2.1
    have hcS:∀ k,cv.ownBlock=UI k->k<w3'.heap.size:=λj e=>AG (HCB.o j e)
    go_wp2_with fail;refine Ae AN ?_;refine F3 11 (λi w w'=>(i≠9->Below w.heap.size w w')/\w.grownBy w' cv.ownBlock) (frame:=(λ(a b c d e f g h i j k l m n o p q r s u v w x:UL)=>λ(t:Nat->UL)=>({ tmps:=List.toArray [a,b,c,d,e,f,g,h,i,j,k,l,m,n,o,p,q,r,s,u,v,t 0,t 1,t 2,t 3,t 4,t 5,t 6,t 7,t 8,t 9,t 10,w,x],defers:=[] }:Act)) _ _ _ _ _ _ _ _ _ _ _ _ _ _ _ _ _ _ _ _ _ _ _)
     (Ext:=λLs w'=>w3'.grownBy w' cv.ownBlock/\(Ls 9=false->Below w3'.heap.size w3' w')) (Good:=GQ A P w3'.heap.size E cv qs s xa xc z) AO AN (Q2 _ _ _ _ _ _ _ _ _ _ hcS) AN AN ?hop ?hend _ _ ((λ(x0 x1 x2 x3 x4 x5 x6 x7 x8 x9 x10:UL)=>λ(i:Nat)=>if i=0 then x0 else if i=1 then x1 else if i=2 then x2 else if i=3 then x3 else if i=4 then x4 else if i=5 then x5 else if i=6 then x6 else if i=7 then x7 else if i=8 then x8 else if i=9 then x9 else if i=10 then x10 else undef) _ _ _ _ _ _ _ _ _ _ _) _ AM AM ?ext ?start AM
    case start=>intro i hi h;exact absurd h E0
    case ext=>exact⟨Cx Cs.drew,λ_=>Cs.drew⟩
    case hop=>
     intro i o Ls t w' hil ho hLi hx hdep K hK;obtain⟨hxg,hx9⟩:=hx;have hgr:∀ ww:UK,Below w'.heap.size w' ww->w3'.grownBy ww cv.ownBlock:=λww hb=>Dr hxg (Cx hb)
     have h9:∀(j:Nat) (ww:UK),j≠9->Below w'.heap.size w' ww->Ct Ls j 9=false->Below w3'.heap.size w3' ww:=λj ww hj hb hL=>by
      have hL':Ls 9=false:=by simpa[Ct,Ne.symm hj] using hL
      exact(hx9 hL').trans (hb.mono hxg.size)
     have hE3:=hEw;have haf:w'.heap[A]?=UI (UP #[UD da zs.length dc,cv,UE UO f,UF d] 40 (0,0)):=by
      rw[hxg.block A AK (λe=>AG (HCB.o A e.symm))];exact CS.aft HS3.o
     have hpb:w'.heap[P]?=UI (UP #[UE UO s,UD xa z.length xc] 106 (0,0)):=by
      rw[hxg.block P hPl (λe=>AG (HCB.o P e.symm))];exact HR3.o
     obtain⟨a0,a1,a2,a3⟩:=Ek haf;obtain⟨p0,p1⟩:=TB hpb;have hbw:Below w.heap.size w w':=by
      have hb0:=CS.below HS3.o;have hsz:=hb0.size;exact hb0.trans ⟨hxg.os,hxg.tape,hxg.output,hxg.size,λk hk=>hxg.block k AK (λe=>AG (HCB.o k e.symm))⟩
     have REF:AP (∀ j,j≠9->(w3'.grownBy w' cv.ownBlock/\(Ct Ls j 9=false->Below w3'.heap.size w3' w'))):=λj hj=>⟨hxg,h9 j w' hj Cs⟩
     have RM:AP (∀ j,(j≠9->Below w'.heap.size w' w')/\w'.grownBy w' cv.ownBlock):=λj=>⟨λ_=>Ad _ _,Cx Cs⟩
     have H9:AP _:=h9;have HGR:AP _:=hgr;have HX9:AP _:=hx9;have HXG:AP _:=hxg;clear h9 hgr hx9 hxg haf hpb;obtain rfl|rfl|rfl|rfl|rfl|rfl|rfl|rfl|rfl|rfl|rfl:i=0\/i=1\/i=2\/i=3\/i=4\/i=5\/i=6\/i=7\/i=8\/i=9\/i=10:=AK
     all_goals(simp at ho;subst ho)
     ·clear hdep;go_simp;exact hK w' (UM (UI ⟨A,1,UJ⟩)) rfl (REF.o 0 AL) (RM.o 0)
     ·have d0:t 0=_:=hdep ⟨0,UR⟩ AM rfl;clear hdep;go_simp;simpa[Cr,d0] using hK w' cv rfl (REF.o 1 AL) (RM.o 1)
     ·clear hdep;go_simp;exact hK w' (UM (UI ⟨P,0,UJ⟩)) rfl (REF.o 2 AL) (RM.o 2)
     ·have d2:t 2=_:=hdep ⟨2,UR⟩ AM rfl;clear hdep;go_simp;simpa[Cr,d2] using hK w' (UE UO s) rfl (REF.o 3 AL) (RM.o 3)
     ·clear hdep;go_simp;exact hK w' (UM (UI ⟨P,1,UJ⟩)) rfl (REF.o 4 AL) (RM.o 4)
     ·have d4:t 4=_:=hdep ⟨4,UR⟩ AM rfl;clear hdep;go_simp;simpa[Cr,d4] using hK w' (UD xa z.length xc) rfl (REF.o 5 AL) (RM.o 5)
     ·have d5:t 5=_:=hdep ⟨5,UR⟩ AM rfl;clear hdep;have e:=GH xa z.length xc z w' rfl hzl (At.below HQ4.o hbw);go_simp;refine e.mono ?_;rintro e w9 ⟨v9,rfl,O9,hb9⟩;have hs9:=(show w3'.grownBy w' cv.ownBlock from HXG.o).size;have O9':=O9.mono hs9;clear O9;have hK':=hK w9 v9 O9' ⟨HGR.o w9 hb9,H9.o 6 w9 AL hb9⟩ ⟨λ_=>hb9,Cx hb9⟩;clear hK;go_simp;simpa[Cr,d5] using hK'
     ·have d3:t 3=_:=hdep ⟨3,UR⟩ AM rfl;have d6:Dd w' w3'.heap.size (t 6) z:=hdep ⟨6,UR⟩ AM rfl;clear hdep;obtain⟨ea,ec,e6⟩:=d6.sl';rw[e6] at d6;have hK':=hK w' (UN #[UE UO s,UD ea z.length ec]) ⟨ea,ec,rfl,d6⟩ (REF.o 7 AL) (RM.o 7);clear d6 hK;go_simp;simpa[Cr,e6,d3] using hK'
     ·obtain⟨ea,ec,e7,O7⟩:=hdep ⟨7,UR⟩ AM rfl;clear hdep;have hb9:=(Ad w'.heap.size w').alloc Cw (UP #[UE UO s,UD ea z.length ec] 106);have hs9:=(show w3'.grownBy w' cv.ownBlock from HXG.o).size;have hK':=hK (w'.alloc (UP #[UE UO s,UD ea z.length ec] 106)) (UD (UI ⟨w'.heap.size,0,UJ⟩) 1 1) ⟨w'.heap.size,ea,ec,rfl,hs9,AV w' _,O7.grow hb9⟩ ⟨HGR.o _ hb9,H9.o 8 _ AL hb9⟩ ⟨λ_=>hb9,Cx hb9⟩;clear hK O7 hb9;go_simp;simpa[Cr,e7] using hK'
     ·have d1:t 1=_:=hdep ⟨1,UR⟩ AM rfl;obtain⟨B,ea,ec,e8,hB,hbB,O8⟩:=hdep ⟨8,UR⟩ AM rfl;clear hdep;have hP9:=(CS.pow HS3.o).below (HX9.o hLi);have hsz9:=(show w3'.grownBy w' cv.ownBlock from HXG.o).size;refine Ij w' (UT 22) (UT 29) rfl E w3'.heap.size cv qs ⟨s,ea,ec,z⟩ d1 hP9 HLT.o B e8 hbB (.inl O8) AK AK AK ?_;intro v9 w9 hP9' hg9;exact hK w9 v9 ⟨_,rfl,rfl,hP9'⟩ ⟨Dr HXG.o hg9,λh=>by simp[Ct] at h⟩ ⟨λh=>absurd rfl h,hg9⟩
     ·clear hdep;go_simp;exact hK w' (UM (UI ⟨A,1,UJ⟩)) rfl (REF.o 10 AL) (RM.o 10)
    case hend=>
     intro o Ls t w' ho hx hg K hK;simp at ho;subst ho;obtain⟨hxg,_⟩:=hx;obtain⟨q',hq1,hq2,hP9⟩:=hg 9 AL;have h10:t 10=_:=hg 10 AL;clear hg;obtain⟨na,nc,e9,_⟩:=hP9.mine;obtain⟨n9,hn9⟩:∃ n9,(qs++[q']).length=n9:=⟨_,rfl⟩
     rw[hn9] at e9;clear hn9;rw[e9] at hP9;have haf:w'.heap[A]?=UI (UP #[UD da zs.length dc,cv,UE UO f,UF d] 40 (0,0)):=by
      rw[hxg.block A AK (λe=>AG (HCB.o A e.symm))];exact CS.aft HS3.o
     obtain⟨a0,a1,a2,a3⟩:=Ek haf;have f1:=Ag w' A 1 _ _ haf;have hA9:=Du (i:=1) (UD na n9 nc) haf rfl;have hoth:∀ j,j≠A->(w'.setCell ⟨A,1,UJ⟩ (UD na n9 nc)).heap[j]?=w'.heap[j]?:=λj hj=>Ah w' ⟨A,1,UJ⟩ j (UD na n9 nc) (by simpa using hj)
     have hsz:(w'.setCell ⟨A,1,UJ⟩ (UD na n9 nc)).heap.size=w'.heap.size:=by simp[World.setCell]
     have hPn:Dk (w'.setCell ⟨A,1,UJ⟩ (UD na n9 nc)) E (UD na n9 nc) (qs++[q']):=hP9.keep (λj hj _=>hoth j AK);have st':CS w (w'.setCell ⟨A,1,UJ⟩ (UD na n9 nc)) #[UD a L cap,UD (UI ⟨b5,o5,UJ⟩) m cx,UE UO f,UF d] A E (UD da zs.length dc) (UD na n9 nc) zs f d (qs++[q']):=
      CS.turn HS3.o hxg.os hxg.tape hxg.output (by rw[hsz];exact hxg.size) (λj hj hjA=>(hoth j hjA).trans (hxg.block j AK (λe=>AG (HCB.o j e.symm)))) hA9 hPn
     have hqn:Fr (qs++[q'])=ps.take (k+1):=by rw[HNEW.o];simp[Fr,hq1,hq2]
     have HS':AP (CS w (w'.setCell ⟨A,1,UJ⟩ (UD na n9 nc)) #[UD a L cap,UD (UI ⟨b5,o5,UJ⟩) m cx,UE UO f,UF d] A E (UD da zs.length dc) (UD na n9 nc) zs f d (qs++[q'])):=st';have HQN:AP (Fr (qs++[q'])=ps.take (k+1)):=hqn;clear st' hqn hPn hsz hoth hA9 haf hP9 hxg a0 a2 a3;go_simp;apply hK;clear e9 h10;go_wp2;go_roundw
     case rel=>exact⟨k+1,UD na n9 nc,qs++[q'],AK,by go_num,HQN.o,HS'.o,λh=>absurd h AK⟩
     case measure=>simp[intOf];omega
   ·have hkm:k=m:=AK
    subst hkm;have hall:Fr qs=ps:=by rw[hqs,<-HHM.o,List.take_length]
    have hlt':¬ (k:Int)<k:=AK
    obtain⟨a0,a1,a2,a3⟩:=Ek st.aft;obtain⟨ca,cc,rfl,_⟩:=st.pow.mine;have hM:=st.typed;have hE:=st.hE;have HM:AP (DR wr (w.heap.size+2) (UN #[UD da zs.length dc,UD ca qs.length cc,UE UO f,UF d]) zs (Fr qs) f d):=hM;have HB1:AP (wr.heap[w.heap.size+1]?=UI (UP Cd 40 (0,0))):=st.b1;have HBL:AP (Below w.heap.size w wr):=st.below;have HALL:AP (Fr qs=ps):=hall;have HNC:AP (ps=[]->UD ca qs.length cc=UD UJ 0 0):=λh=>HNI.o (by rw[<-HHM.o,h];rfl)
    clear st hM hall hqs HNI;generalize qs.length=n9 at *;go_wp2_with (refine AC 40 (UT 2) (UT 33) (w.heap.size+1) #[UD da zs.length dc,UD ca n9 cc,UE UO f,UF d] 40 HB1.o HSD.o rfl (EM _ _ _ _ _ _ _ _) ?_)
    (try simp only[Exit.inBlock,Exit.then])
    refine AZ (v:=UN #[UD da zs.length dc,UD ca n9 cc,UE UO f,UF d]) (AW rfl _ _ (w.heap.size+1) 40 _ (0,0) _ rfl (AB HB1.o) Tryz.underlying40 rfl HSD.o) rfl ⟨_,rfl,?_,?_,λh=>⟨_,by rw[HNC.o h]⟩⟩
    ·have hM:=HM.o;rw[HALL.o] at hM;exact(hM.keep (λj _ _ hj _ _=>(Wr.setRow _ _ _).block j AK) (by rw[BP];exact AY _)).mono AK
    ·exact HBL.o.trans ((Wr.setRow _ _ _).below AK)
theorem Q3 (v:UL) (zs:List Int) (ps:List PD) (f:Int) (d:Bool) (w:UK) (h:Ei w v zs ps f d) (hz:zs.length<=1048576) (hn:ps.length<=1048576) (hps:∀ i,(ps.getD i (0,[])).2.length<=1048576) :
  Calls Tryz.prog 109 #[v] w λe w'=>∃ r,e=UQ r/\DR w' w.heap.size r zs ps f d/\Below w.heap.size w w':=
 (LF v zs ps f d w h hz hn hps).mono λe w' ⟨r,h1,h2,h3,_⟩=>⟨r,h1,h2,h3⟩
end Go.Proofs.YthmeoilbmfdhfaaGreat
