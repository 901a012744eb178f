import Derived.Test.YthmeoilbmfdhfaaGreatMArgDev
import Derived.Test.YthmeoilbmfdhfaaGreatMSvC
import Derived.Test.YthmeoilbmfdhfaaGreatIEncA
open Go.Value renaming slice->UD,int->UE
open Go.Obj renaming cells->UP
open Go renaming World->UK
namespace Go.Proofs.YthmeoilbmfdhfaaGreat
set_option maxHeartbeats 2000000
set_option maxRecDepth 100000
open Go.ChangeShapes Go.WideShapes Go.ChangeAt Go.RowKit
set_option linter.unusedVariables false
theorem Cq {p:Prop} (h:p):AP p:=h
theorem Sz {B:Nat} {a w:UK} (h:Below B a w) (n:Nat):Below B a (w.drewN n):=h.trans ⟨rfl,rfl,rfl,AY _,λ_ _=>rfl⟩
structure BE (w:UK) (t:TypeId) (sa sb:Array Value) (wr:UK):Prop where
 below:Below w.heap.size w wr
 b0:wr.heap[w.heap.size]?=some (UP sa t (0,0))
 b1:wr.heap[w.heap.size+1]?=some (UP sb t (0,0))
theorem BE.start (w:UK) (t:TypeId) (sa sb:Array Value):BE w t sa sb ((w.alloc (UP sa t)).alloc (UP sb t)):=by
 refine⟨(Cs.alloc Cw _).alloc AM _,?_,?_⟩
 ·rw[BH _ _ w.heap.size AM];exact AV w _
 ·have:=AV (w.alloc (UP sa t)) (UP sb t)
  rwa [show(w.alloc (UP sa t)).heap.size=w.heap.size+1 by simp] at this
theorem BE.call {w wr w':UK} {t:TypeId} {sa sb:Array Value} (h:BE w t sa sb wr) (b:Below wr.heap.size wr w'):BE w t sa sb w':=by
 have:=(AQ.1 h.b1).1;exact⟨h.below.trans (b.mono h.below.size),by rw[b.block _ AK];exact h.b0,by rw[b.block _ AK];exact h.b1⟩
structure OE (w:UK) (t:TypeId) (sa:Array Value) (wr:UK):Prop where
 below:Below w.heap.size w wr
 b0:wr.heap[w.heap.size]?=some (UP sa t (0,0))
theorem OE.start (w:UK) (t:TypeId) (sa:Array Value):OE w t sa (w.alloc (UP sa t)):=⟨Cs.alloc Cw _,AV w _⟩
theorem OE.lt {w wr:UK} {t:TypeId} {sa:Array Value} (h:OE w t sa wr):w.heap.size<wr.heap.size:=(AQ.1 h.b0).1
theorem OE.call {w wr w':UK} {t:TypeId} {sa:Array Value} (h:OE w t sa wr) (b:Below wr.heap.size wr w'):OE w t sa w':=by
 have:=(AQ.1 h.b0).1;exact⟨h.below.trans (b.mono h.below.size),by rw[b.block _ AK];exact h.b0⟩
theorem Qa (aD aU aT:Option Addr) (nD cD nU cU nT cT:Nat) (D U:List Int) (k:Int) (T:List Int) (w:UK) (hD:D.length=nD) (hU:U.length=nU) (hT:T.length=nT*2) (mD:nD<=1048576) (mU:nU<=1048576) (mT:nT<=1048576)
  (haD:At .i64 w aD D) (haU:At .i64 w aU U) (haT:At .i64 w aT T) (hnil:aT=none->nT=0/\cT=0) (hk0:-9223372036854775808<=k) (hk1:k<9223372036854775808) :
  Calls Tryz.prog 156 #[.agg #[UD aD nD cD,UD aU nU cU,UE .i64 k,UD aT nT cT]] w λe w'=>e=.returned (.bool (GI D U k T nT))/\Below w.heap.size w w':=by
 have b0:Below w.heap.size w (w.alloc (UP #[UD aD nD cD,UD aU nU cU,UE .i64 k,UD aT nT cT] 34)):=Cs.alloc Cw _;have HC:=GC aD aU aT nD cD nU cU nT cT D U k T _ hD hU hT mD mU mT (haD.below b0) (haU.below b0) (haT.below b0) hnil hk0 hk1;have HB0:AP (Below w.heap.size w (w.alloc (UP #[UD aD nD cD,UD aU nU cU,UE .i64 k,UD aT nT cT] 34))):=b0;clear haD haU haT hnil hk0 hk1 hD hU hT b0;go_enter Tryz.func156,Tryz.ntmps156;go_wp2_with fail;refine HC.mono ?_;rintro e w1 ⟨bk,rfl,hs,ho,hb,_⟩;have HB1:AP (Below w.heap.size w w1):=HB0.o.trans (hb.mono HB0.o.size);have HN:AP ((w1.alloc (UP Tryz.zeroCells77 77)).heap[w1.heap.size]?=some (UP Tryz.zeroCells77 77 (0,0))):=AV w1 _;have HSZ:AP ((Tryz.prog.info? 77).map (·.size)=some bk.size):=by show _=_;rw[hs];exact Tryz.sizeBook
 have HEQ:AP ((Tryz.zeroCells77).size=bk.size):=by show _=_;rw[hs];exact E1
 have HOK:AP (bk.all (λx=>x.oneCell')=true):=ho;have HB2:AP (∀ cs,Below w.heap.size w ((w1.alloc (UP Tryz.zeroCells77 77)).setRow w1.heap.size cs)):=λcs=>HB1.o.trans (((Cs.alloc Cw _).trans ((Wr.setRow _ _ _).below Cw)).mono HB1.o.size)
 clear hs ho hb HC HB0;generalize hq:GI D U k T nT=q at *;have HQ:AP (GI D U k T nT=q):=hq;clear hq;go_wp2_with (first
  |(refine AC 77 (.tmp 3) (.tmp 8) w1.heap.size bk 77 HN.o HSZ.o HEQ.o HOK.o ?_)
  |fail)
 go_ret
 exact⟨by rw[HQ.o];rfl,HB2.o _⟩
def IZ (z:List Int):Value:=.agg (z.map (Value.int .u8)).toArray
theorem At.drop {w:UK} {b off:Nat} {zs:List Int} (h:At .u8 w (some ⟨b,off,none⟩) zs) (k:Nat):At .u8 w (some ⟨b,off+k,none⟩) (zs.drop k):=by
 rcases h with h|⟨b',off',e,hl,hc⟩
 ·left;simp[h]
 ·cases e;exact .inr ⟨b,off+k,rfl,hl,λi hi=>by
   rw[Ap,hc (k+i) (by simp at hi;omega)];simp[List.getD]⟩
theorem Qb (g:Nat) (a x:Option Addr) (L c m cx:Nat) (f:Int) (s:Nat) (d:Bool) (zs:List Int) (w:UK) (h:w.heap[g]?=some (UP #[UD a L c,UD x m cx,UE .i64 f,.bool d] 40 (0,0))) (hL:L<=1048576) (hc:L<=c) (hl:zs.length=L) (hs:s*64+64<=L) (hA:At .u8 w a zs) :
  Calls Tryz.prog 132 #[.pointer (some ⟨g,0,none⟩),UE .i64 s] w λe w'=>e=.returned (IZ ((zs.drop (s*64)).take 64))/\Below w.heap.size w w':=by
 have c0:=AA h 0;simp at c0;have hg:g<w.heap.size:=(AQ.1 h).1;clear h;obtain⟨b,off,rfl,hbl,_⟩:=hA.get AK;have HA:AP _:=hA.drop (s*64);clear hA;have t1:(s:Int)*64<=L:=AK
 have t2:¬ (c=s*64):=AK
 go_enter Tryz.func132,Tryz.ntmps132;go_wp2_with fail;have hb1:=(Ad w.heap.size w).alloc Cw (UP (List.replicate 64 (UE .u8 0)).toArray 122);have hz:((zs.drop (s*64)).take 64).length=64:=by simp;omega
 have HZ:AP _:=hz;have HN:AP (DP (w.alloc (UP (List.replicate 64 (UE .u8 0)).toArray 122)) w.heap.size 122 (List.replicate 64 0)):=AV w _;refine(FL _ (L-s*64) _ (zs.drop (s*64)) _ (by simp;omega) AK (At.below HA.o hb1)).mono ?_;rintro e w2 ⟨rfl,hb2⟩;have hr:DP w2 w.heap.size 122 (List.replicate 64 0):=by unfold DP;rw[hb2.block _ AM];exact HN.o
 have HR:AP _:=hr;have HB:AP (Below w.heap.size w w2):=hb1.trans (hb2.mono AM);clear hb1 hb2 hr HN hz HA;generalize hzz:(zs.drop (s*64)).take 64=z at *;have HZZ:AP _:=hzz;clear hzz;have hs1:(Tryz.prog.info? 122).map (·.size)=some ((z.map (Value.int .u8)).toArray).size:=by rw[Tryz.sizeSec];simp[HZ.o]
 have HS1:AP _:=hs1;clear hs1;go_wp2_with (refine AC 122 (.tmp 4) (.tmp 12) w.heap.size ((z.map (Value.int .u8)).toArray) 122 HR.o HS1.o (by simp[HZ.o]) (all_oneCell_toArray (Bb _ _)) ?_);refine AZ (v:=.agg (z.map (Value.int .u8)).toArray) (AW rfl _ _ w.heap.size 122 _ (0,0) _ rfl (AB HR.o) Tryz.underlying122 rfl HS1.o) rfl ⟨by rw[HZZ.o];rfl,?_⟩;exact HB.o.trans ((Wr.setRow _ _ _).below Cw)
theorem OY {P:Program} {c:Code} {Q:Exit->Act->UK->Prop} {a:Act} {w w':UK} (h:w'=w) (k:Code.wp P c Q a w'):Code.wp P c Q a w:=h ▸ k
def Fw (s k a b:Int):List Int:=if 1<=k/\k<=3 then Hm s k a b else []
theorem OZ (s k a b:Int) (w:UK) (us:D8 s) (ua:D8 a) (ub:D8 b) :
  Calls Tryz.prog 121 #[.agg #[UE .u32 s,UE .i64 k,UE .u32 a,UE .u32 b]] w λe w'=>∃ v,e=.returned v/\Cy w' v (Fw s k a b)/\Below w.heap.size w w':=by
 by_cases hk:1<=k/\k<=3
 ·have e:Fw s k a b=Hm s k a b:=by unfold Fw;rw[AR hk]
  rw[e];exact(OS s k a b w us ua ub hk.1 hk.2).mono (λe w' ⟨v,he,ho,hb⟩=>⟨v,he,ho.part,hb⟩)
 ·have e:Fw s k a b=[]:=by unfold Fw;rw[AS hk]
  rw[e];exact QW s k a b w AK
end Go.Proofs.YthmeoilbmfdhfaaGreat
