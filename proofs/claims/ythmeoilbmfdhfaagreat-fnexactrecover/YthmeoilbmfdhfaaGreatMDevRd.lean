import Derived.Test.YthmeoilbmfdhfaaGreatMReg
import Derived.Test.YthmeoilbmfdhfaaGreatMRowB
import Derived.Deep.MidRow
import Derived.Laws.CopyOwn
import Derived.Test.YthmeoilbmfdhfaaGreatRows
import Derived.Laws.BitsAllLaws
namespace Go.Proofs.YthmeoilbmfdhfaaGreat
open Go.ChangeShapes Go.WideShapes Go.ChangeAt Go.RowKit
set_option linter.unusedVariables false
def findL (ps:List PD) (s:Int):Nat→Option (List Int)
 |0=>none
 |k+1=>if(ps.getD k (0,[])).1=s then some (ps.getD k (0,[])).2 else findL ps s k
def rdV (zs:List Int) (ps:List PD) (s:Int):List Int:=(findL ps s ps.length).getD ((zs.drop (s.toNat*64)).take 64)
def rdZ (zs:List Int) (ps:List PD) (f s:Int):List Int:=if validB zs.length ps f=true∧hasS zs.length s=true then rdV zs ps s else []
theorem validB_get {L:Nat} {ps:List PD} {f:Int} (h:validB L ps f=true):vBase L ps.length f∧∀ i,i<ps.length→pOk (L/64) (ps.getD i (0,[])):=by
 unfold validB at h;rw[Bool.and_eq_true] at h;refine⟨by simpa using h.1,fun i hi=>?_⟩;have:=List.all_eq_true.1 h.2 ps[i] (List.getElem_mem hi);simpa[hi] using this
def Out (B:Nat) (w:World) (v:Value) (zs:List Int):Prop:=
 ∃ a c,v=.slice a zs.length c∧At .u8 w a zs∧Open w a zs.length∧∀ ad,a=some ad→B≤ad.block∧ad.block<w.heap.size
theorem Own.out {w:World} {B:Nat} {v:Value} {zs:List Int} (h:Own w B v zs):Out B w v zs:=by
 obtain⟨g,c,rfl,hb,hg,hc⟩:=h.base;obtain⟨b,o,c',e,hl,hcell⟩:=h.part;cases e;refine⟨_,_,rfl,.inr ⟨g,0,rfl,hg,hcell⟩,.inr ⟨g,0,rfl,hg,fun i hi=>?_⟩,fun ad e=>by cases e;exact⟨hb,hg⟩⟩;refine⟨by rw[hcell i hi];rfl,?_⟩;obtain⟨h1,⟨h2,_⟩|⟨g',cap,cur,hv,hb,hh,_⟩⟩:=h.1
 ·cases h2
 ·cases hv;exact frozen_of_row w g _ cur _ hh
set_option maxHeartbeats 1000000 in
theorem srd_any (v:Value) (zs:List Int) (ps:List PD) (f s:Int) (d:Bool) (w:World) (h:DAt w v zs ps f d) (hz:zs.length≤1048576) (hn:ps.length≤1048576) (hps:∀ i,(ps.getD i (0,[])).2.length≤1048576) :
  Calls Tryz.prog 71 #[v,.int .i64 s] w fun e w'=>∃ v',e=.returned v'∧Out w.heap.size w' v' (rdZ zs ps f s)∧Below w.heap.size w w':=by
 obtain⟨a,c,x,cx,rfl,hA,hP,hcap⟩:=h;have HV:=sval_any (.agg #[.slice a zs.length c,.slice x ps.length cx,.int .i64 f,.bool d]) zs ps f d;have hD:∀ w',Below w.heap.size w w'→DAt w' (.agg #[.slice a zs.length c,.slice x ps.length cx,.int .i64 f,.bool d]) zs ps f d:=fun w' hb=>⟨a,c,x,cx,rfl,hA.below hb,hP.below hb,hcap⟩
 have HRZ:Hid (rdZ zs ps f s=if validB zs.length ps f=true∧hasS zs.length s=true then rdV zs ps s else []):=rfl;have HHS:Hid (hasS zs.length s=decide (0≤s∧s<((zs.length/64:Nat):Int))):=rfl;generalize hL:zs.length=L at *;generalize hm:ps.length=m at *;have HVV:Hid _:=HV;have HDD:Hid _:=hD;clear HV hD;have hb0:=(Below.refl w.heap.size w).alloc (Nat.le_refl _) (.cells #[.slice a L c,.slice x m cx,.int .i64 f,.bool d] 40);have HB0:Hid _:=hb0;clear hb0;go_enter Tryz.func71,Tryz.ntmps71;go_wp2_with fail;refine(HVV.out _ (HDD.out _ HB0.out) hz hn hps).mono ?_;rintro e w1 ⟨rfl,hb1⟩;have hB1:Below w.heap.size w w1:=HB0.out.trans (hb1.mono HB0.out.size);have n1:w1.heap[w.heap.size]?=some (.cells #[.slice a L c,.slice x m cx,.int .i64 f,.bool d] 40 (0,0)):=by
  rw[hb1.block _ (by simp)];exact heap_alloc_new w _
 have hs1:w.heap.size<w1.heap.size:=(Array.getElem?_eq_some_iff.1 n1).1;have c0:=cell_of_row w1 w.heap.size 0 _ _ _ n1;have c1:=cell_of_row w1 w.heap.size 1 _ _ _ n1;have c2:=cell_of_row w1 w.heap.size 2 _ _ _ n1;have c3:=cell_of_row w1 w.heap.size 3 _ _ _ n1;simp at c0 c1 c2 c3;have hA1:=hA.below hB1;have hP1:=hP.below hB1;have HB1:Hid _:=hB1;have HA1:Hid _:=hA1;have HP1:Hid _:=hP1;clear HVV HDD HB0 hb1 hB1 hA1 hP1 hA hP n1;have hno:∀ w2 N,w2.heap.size=N→Below w1.heap.size w1 w2→rdZ zs ps f s=[]→Out w.heap.size (w2.alloc (.cells #[] 5)) (.slice (some ⟨N,0,none⟩) 0 0) (rdZ zs ps f s)∧Below w.heap.size w (w2.alloc (.cells #[] 5)):=fun w2 N hN hb e=>by
  subst hN;have hs:=hb.size;rw[e];exact⟨(Own.empty w2 w.heap.size (by omega)).out,(HB1.out.trans (hb.mono (by omega))).alloc (by omega) _⟩
 have HNO:Hid _:=hno;clear hno;cases hv:validB L ps f
 ·have e0:rdZ zs ps f s=[]:=by rw[HRZ.out,hv];simp
  have H1:Hid _:=HNO.out w1 _ rfl (Below.refl _ _) e0;clear HRZ e0 HNO HHS;go_wp2
  go_ret
  exact⟨_,rfl,H1.out⟩
 by_cases hs:s<0
 ·have e0:rdZ zs ps f s=[]:=by rw[HRZ.out,if_neg];rw[HHS.out];simp;omega
  have H1:Hid _:=HNO.out w1 _ rfl (Below.refl _ _) e0;clear HRZ e0 HNO HHS;go_wp2
  go_ret
  exact⟨_,rfl,H1.out⟩
 by_cases hs2:(L:Int)/64≤s
 ·have e0:rdZ zs ps f s=[]:=by rw[HRZ.out,if_neg];rw[HHS.out];simp;omega
  have H1:Hid _:=HNO.out _ (w1.heap.size+1) (by simp) ((Below.refl w1.heap.size w1).alloc (Nat.le_refl _) (.cells #[.slice a L c,.slice x m cx,.int .i64 f,.bool d] 40)) e0;clear HRZ e0 HNO HHS;go_wp2
  go_ret
  exact⟨_,rfl,H1.out⟩
 obtain⟨hvb,hvp⟩:=validB_get hv;rw[hm] at hvb hvp;obtain⟨u1,u2,u3,u4,u5,u6⟩:=hvb;have hrz:rdZ zs ps f s=(findL ps s m).getD ((zs.drop (s.toNat*64)).take 64):=by
  rw[HRZ.out,if_pos ⟨hv,by rw[HHS.out];simp;omega⟩];unfold rdV;rw[hm]
 have HRZ2:Hid _:=hrz;have HVP:Hid _:=hvp;have hz2:w1.heap.size+1=(w1.alloc (.cells #[.slice a L c,.slice x m cx,.int .i64 f,.bool d] 40)).heap.size:=by simp
 have HZ2:Hid _:=hz2;have hb2:=(Below.refl w1.heap.size w1).alloc (Nat.le_refl _) (.cells #[.slice a L c,.slice x m cx,.int .i64 f,.bool d] 40);have HB2:Hid _:=hb2;clear HRZ HNO HHS hrz hvp hz2 hb2;go_wp2;have hb2:=HB2.out;have hB2:=HB1.out.trans (hb2.mono (by omega));have hA2:=At.below HA1.out hb2;have hP2:=PAt.below HP1.out hb2;have hs2':w.heap.size<(w1.alloc (.cells #[.slice a L c,.slice x m cx,.int .i64 f,.bool d] 40)).heap.size:=by simp;omega
 have k0:(w1.alloc (.cells #[.slice a L c,.slice x m cx,.int .i64 f,.bool d] 40)).cell? ⟨w.heap.size,0,none⟩=some (.slice a L c):=by rw[hb2.cell (p:=⟨w.heap.size,0,none⟩) hs1];exact c0
 have k1:(w1.alloc (.cells #[.slice a L c,.slice x m cx,.int .i64 f,.bool d] 40)).cell? ⟨w.heap.size,1,none⟩=some (.slice x m cx):=by rw[hb2.cell (p:=⟨w.heap.size,1,none⟩) hs1];exact c1
 clear HB2 hb2 HA1 HP1 HB1 HZ2 c0 c1 c2 c3;generalize (w1.alloc (.cells #[.slice a L c,.slice x m cx,.int .i64 f,.bool d] 40))=w2 at *;have HB2:Hid _:=hB2;have HA2:Hid _:=hA2;have HP2:Hid _:=hP2;clear hB2 hA2 hP2
 go_loop [5] (fun i=>∃ k:Nat,k≤m∧i=.int .i64 ((k:Int)-1)∧findL ps s m=findL ps s k) (fun i=>(intOf i+1).toNat)
 case atStart=>exact⟨m,Nat.le_refl _,rfl,rfl⟩
 case round=>
  obtain⟨k,hk,rfl,hf⟩:=hrel;cases k with
  |zero=>
   obtain⟨b,off,rfl,hbl,hc⟩:=At.get HA2.out (by omega);obtain⟨s,rfl⟩:=Int.eq_ofNat_of_zero_le (show 0≤s by omega);have hres:rdZ zs ps f s=(zs.drop (s*64)).take 64:=by rw[HRZ2.out,hf];simp[findL]
   have HF:Hid _:=hres;have HC:Hid _:=hc;clear hf hc hres;have t1:(s:Int)*64≤(s+1)*64:=by omega
   have t2:((s:Int)+1)*64≤c:=by omega
   have hcs:¬ (c=s*64):=by omega
   have hLN:((zs.drop (s*64)).take 64).length=(s+1)*64-s*64:=by simp;omega
   have hN:∀ j,j<(s+1)*64-s*64→(w2.alloc (.cells #[] 5)).cell? ((⟨b,off+s*64,none⟩:Addr).add j)=some (.int .u8 (((zs.drop (s*64)).take 64).getD j 0)):=by
    intro j hj;rw[Addr.add_lit,((Below.refl w2.heap.size w2).alloc (Nat.le_refl _) _).cell (p:=⟨b,off+s*64+j,none⟩) hbl,Nat.add_assoc,HC.out (s*64+j) (by omega)];simp[List.getD,show j<64 by omega]
   have HN:Hid _:=hN;have HLN:Hid _:=hLN;clear hN hLN;go_wp2_with (at_builtin;refine wpList_app _ rfl _ _ rfl w.heap.size _ _ rfl (Own.empty w2 w.heap.size (by omega)) ⟨b,off+s*64,none⟩ ((s+1)*64-s*64) _ ((zs.drop (s*64)).take 64) rfl HLN.out HN.out ?c2 ?c3 ?_)
   (try(case c2=>first|omega|(simp;omega)))
   (try(case c3=>first|omega|(simp;omega)))
   intro v' w3 hown' hbel' _;have HO:Hid (Own w3 w.heap.size v' (rdZ zs ps f s)):=by
    unfold Hid;rw[HF.out];simpa using hown'
   have HB:Hid (Below w.heap.size w w3):=(HB2.out.alloc (by omega) _).trans hbel';clear hown' hbel';go_wp2
   go_ret
   exact⟨_,rfl,Own.out HO.out,HB.out⟩
  |succ k=>
   obtain⟨b,off,rfl,hbl,hc⟩:=PAt.get HP2.out (by omega);obtain⟨y,cy,g1,g2,g3⟩:=hc k (by omega);have hok:=HVP.out k (by omega);have hfk:findL ps s (k+1)=if(ps.getD k (0,[])).1=s then some (ps.getD k (0,[])).2 else findL ps s k:=rfl
   rw[←hf] at hfk;have hlz:(ps.getD k (0,[])).2.length=64:=hok.2.2;clear hok;have ek:((k+1:Nat):Int)-1=k:=by omega
   rw[ek];generalize (ps.getD k (0,[])).1=t at *;generalize (ps.getD k (0,[])).2=z at *;generalize hzl:z.length=zl at *;have HF:Hid _:=hfk;have HG3:Hid _:=g3;have HLZ:Hid _:=hzl;have HL64:Hid _:=hlz;clear hf hfk g3 hlz hc hzl;by_cases ht:t=s
   ·subst ht;have e1:(t == t)=true:=by simp
    obtain⟨b2,o2,rfl,hb2,hc2⟩:=At.get HG3.out (by have:=HLZ.out;have:=HL64.out;omega);have HC2:Hid _:=hc2;clear hc2;have hN:∀ j,j<zl→(w2.alloc (.cells #[] 5)).cell? ((⟨b2,o2,none⟩:Addr).add j)=some (.int .u8 (z.getD j 0)):=by
     intro j hj;rw[Addr.add_lit,((Below.refl w2.heap.size w2).alloc (Nat.le_refl _) _).cell (p:=⟨b2,o2+j,none⟩) hb2];exact HC2.out j (by have:=HLZ.out;omega)
    have HN:Hid _:=hN;clear hN;go_wp2_with (at_builtin;refine wpList_app _ rfl _ _ rfl w.heap.size _ _ rfl (Own.empty w2 w.heap.size (by omega)) ⟨b2,o2,none⟩ zl cy z rfl HLZ.out HN.out ?c2 ?c3 ?_)
    (try(case c2=>have:=HL64.out;first|omega|(simp;omega)))
    (try(case c3=>first|omega|(simp;omega)))
    intro v' w3 hown' hbel' _;have HO:Hid (Own w3 w.heap.size v' (rdZ zs ps f t)):=by
     have e:rdZ zs ps f t=z:=by rw[HRZ2.out,HF.out,if_pos trivial];rfl
     unfold Hid;rw[e];simpa using hown'
    have HB:Hid (Below w.heap.size w w3):=(HB2.out.alloc (by omega) _).trans hbel';clear hown' hbel';go_wp2
    go_ret
    exact⟨_,rfl,Own.out HO.out,HB.out⟩
   ·have e1:(t == s)=false:=by simpa using ht
    have hfk:=HF.out;rw[if_neg ht] at hfk;have HF2:Hid _:=hfk;clear hfk HF;go_wp2
    go_round
    case rel=>exact⟨k,by omega,rfl,HF2.out⟩
    case measure=>simp[intOf]
theorem Tryz.sizeU8:(Tryz.prog.info? 5).map (·.size)=some 1:=by kernel_rfl
theorem Tryz.sizeSec:(Tryz.prog.info? 122).map (·.size)=some 64:=by kernel_rfl
theorem wpList_copy8 {w:World} {ops:Array Oper} {rest:List Oper} {o:Oper} {a:Act} {Q:Exit→Act→World→Prop} (hgd:o.guard=none) (d s:Operand)
  (ho:o.op=.call { callee:=.builtin .copy,args:=#[d,s],argTypes:=#[22,22] }) (g off dLen dCap:Nat) (sp:Option Addr) (sLen sCap:Nat)
  (hd:a.eval d=.slice (some ⟨g,off,none⟩) dLen dCap) (hs:a.eval s=.slice sp sLen sCap) (t:TypeId) (ds zs:List Int) (hr:Row w g t ds) (hz:zs.length=sLen) (ha:At .u8 w sp zs)
  (m:Nat) (hmn:Nat.min sLen dLen=m) (hfit:off+m≤ds.length)
  (h:∀ w',Row w' g t (ds.take off++(zs.take m++ds.drop (off+m)))→Wr g w w'→wpList Tryz.prog ops Q rest (a.put o.dst (goInt m)) w') :
  wpList Tryz.prog ops Q (o::rest) a w:=by
 have hle:m≤sLen:=hmn ▸ Nat.min_le_left _ _;by_cases h0:m=0
 ·refine wpList_copy_nothing hgd d s 22 22 ho 5 Tryz.underlying22 Tryz.sizeU8 _ _ _ _ _ _ hd hs (hmn.trans h0) ?_;have:=h w (by rw[h0];simp;exact hr) (Wr.refl _ _);rw[h0] at this;exact this
 ·have hpos:0<zs.length:=by omega
  obtain⟨b,o2,rfl,hb,hc⟩:=ha.get hpos;have hlen:((zs.take m).map (Value.int .u8)).length=m:=by simp;omega
  refine wpList_copy_own hgd d s 22 22 ho 5 Tryz.underlying22 Tryz.sizeU8 g off dLen dCap _ sLen sCap hd hs _ t hr ((zs.take m).map (Value.int .u8)) (hlen.trans hmn.symm) ?_ ?_ (ints_oneCell _ _) ?_
  ·intro j v hv;have hj:j<m:=by have:=(List.getElem?_eq_some_iff.1 hv).1;rw[hlen] at this;exact this
   rw[Addr.add_lit,hc j (by omega)];simp[hj,show j<zs.length by omega] at hv;simp[hv,show j<zs.length by omega]
  ·rw[hlen];simpa using hfit
  ·rw[hlen];refine h _ ?_ (Wr.setRow _ _ _);unfold Row;rw[setRow_heap _ _ _ _ _ _ hr];simp[List.map_append,List.map_take,List.map_drop]
set_option maxHeartbeats 1000000 in
theorem sectorOf_any (a:Option Addr) (n cap:Nat) (zs:List Int) (w:World) (hn:zs.length=n) (hm:64≤n) (ha:At .u8 w a zs) :
  Calls Tryz.prog 131 #[.slice a n cap] w fun e w'=>e=.returned (.agg ((zs.take 64).map (Value.int .u8)).toArray)∧Below w.heap.size w w':=by
 have hmin:Nat.min n 64=64:=Nat.min_eq_right hm;go_enter Tryz.func131,Tryz.ntmps131;go_wp2_with (refine wpList_copy8 rfl (.tmp 4) (.tmp 5) rfl (w.heap.size+1) 0 64 64 a n cap rfl rfl 122 (List.replicate 64 0) zs (heap_alloc2_new _ _ _) hn (ha.below (((Below.refl _ _).alloc (Nat.le_refl _) _).alloc (by simp) _)) 64 hmin (by simp) ?_);intro w3 hrow hwr;have hr1:Row w3 (w.heap.size+1) 122 (zs.take 64):=by simpa using hrow
 have hr0:Row w3 w.heap.size 122 (List.replicate 64 0):=hwr.row (heap_alloc2_old _ _ _) (by omega);have hbel:Below w.heap.size w w3:=(((Below.refl _ _).alloc (Nat.le_refl _) _).alloc (by simp) _).trans (hwr.below (by omega));clear hrow hwr;have hl:(zs.take 64).length=64:=by simp;omega
 generalize hz:zs.take 64=z at *;have HZ:Hid (zs.take 64=z):=hz;have hs1:(Tryz.prog.info? 122).map (·.size)=some ((z.map (Value.int .u8)).toArray).size:=by rw[Tryz.sizeSec];simp[hl]
 have HS1:Hid _:=hs1;have HR0:Hid _:=hr0;have HR1:Hid _:=hr1;have HB:Hid _:=hbel;clear hs1 hr0 hr1 hbel hz ha hmin;go_wp2_with (first
  |(refine wpList_load_row rfl 122 _ rfl (w.heap.size+1) rfl 122 _ (0,0) _ HR1.out Tryz.underlying122 rfl HS1.out ?_)
  |(refine wpList_store_row rfl 122 (.tmp 2) (.tmp 7) rfl w.heap.size ((z.map (Value.int .u8)).toArray) rfl rfl 122 _ HR0.out HS1.out (by simp[hl]) (all_oneCell_toArray (ints_oneCell _ _)) ?_))
 refine bodyPost_ret (v:=.agg (z.map (Value.int .u8)).toArray) (results_cell_row rfl _ _ w.heap.size 122 _ (0,0) _ rfl (setRow_heap _ _ _ _ _ _ HR0.out) Tryz.underlying122 rfl HS1.out) rfl ⟨by rw[HZ.out],?_⟩;exact HB.out.trans ((Wr.setRow _ _ _).below (Nat.le_refl _))
def secV (z:List Int):Value:=.agg (z.map (Value.int .u8)).toArray
theorem At.drop {w:World} {b off:Nat} {zs:List Int} (h:At .u8 w (some ⟨b,off,none⟩) zs) (k:Nat):At .u8 w (some ⟨b,off+k,none⟩) (zs.drop k):=by
 rcases h with h|⟨b',off',e,hl,hc⟩
 ·left;simp[h]
 ·cases e;exact .inr ⟨b,off+k,rfl,hl,fun i hi=>by
   rw[Nat.add_assoc,hc (k+i) (by simp at hi;omega)];simp[List.getD]⟩
set_option maxHeartbeats 400000 in
theorem dur_any (g:Nat) (a x:Option Addr) (L c m cx:Nat) (f:Int) (s:Nat) (d:Bool) (zs:List Int) (w:World) (h:w.heap[g]?=some (.cells #[.slice a L c,.slice x m cx,.int .i64 f,.bool d] 40 (0,0))) (hL:L≤1048576) (hc:L≤c) (hl:zs.length=L) (hs:s*64+64≤L) (hA:At .u8 w a zs) :
  Calls Tryz.prog 132 #[.pointer (some ⟨g,0,none⟩),.int .i64 s] w fun e w'=>e=.returned (secV ((zs.drop (s*64)).take 64))∧Below w.heap.size w w':=by
 have c0:=cell_of_row w g 0 _ _ _ h;simp at c0;have hg:g<w.heap.size:=(Array.getElem?_eq_some_iff.1 h).1;clear h;obtain⟨b,off,rfl,hbl,_⟩:=hA.get (by omega);have HA:Hid _:=hA.drop (s*64);clear hA;have t1:(s:Int)*64≤L:=by omega
 have t2:¬ (c=s*64):=by omega
 go_enter Tryz.func132,Tryz.ntmps132;go_wp2_with fail;have hb1:=(Below.refl w.heap.size w).alloc (Nat.le_refl _) (.cells (List.replicate 64 (Value.int .u8 0)).toArray 122);have hz:((zs.drop (s*64)).take 64).length=64:=by simp;omega
 have HZ:Hid _:=hz;have HN:Hid (Row (w.alloc (.cells (List.replicate 64 (Value.int .u8 0)).toArray 122)) w.heap.size 122 (List.replicate 64 0)):=heap_alloc_new w _;refine(sectorOf_any _ (L-s*64) _ (zs.drop (s*64)) _ (by simp;omega) (by omega) (At.below HA.out hb1)).mono ?_;rintro e w2 ⟨rfl,hb2⟩;have hr:Row w2 w.heap.size 122 (List.replicate 64 0):=by unfold Row;rw[hb2.block _ (by simp)];exact HN.out
 have HR:Hid _:=hr;have HB:Hid (Below w.heap.size w w2):=hb1.trans (hb2.mono (by simp));clear hb1 hb2 hr HN hz HA;generalize hzz:(zs.drop (s*64)).take 64=z at *;have HZZ:Hid _:=hzz;clear hzz;have hs1:(Tryz.prog.info? 122).map (·.size)=some ((z.map (Value.int .u8)).toArray).size:=by rw[Tryz.sizeSec];simp[HZ.out]
 have HS1:Hid _:=hs1;clear hs1;go_wp2_with (refine wpList_store_row rfl 122 (.tmp 4) (.tmp 12) rfl w.heap.size ((z.map (Value.int .u8)).toArray) rfl rfl 122 _ HR.out HS1.out (by simp[HZ.out]) (all_oneCell_toArray (ints_oneCell _ _)) ?_);refine bodyPost_ret (v:=.agg (z.map (Value.int .u8)).toArray) (results_cell_row rfl _ _ w.heap.size 122 _ (0,0) _ rfl (setRow_heap _ _ _ _ _ _ HR.out) Tryz.underlying122 rfl HS1.out) rfl ⟨by rw[HZZ.out];rfl,?_⟩;exact HB.out.trans ((Wr.setRow _ _ _).below (Nat.le_refl _))
theorem wp_world {P:Program} {c:Code} {Q:Exit→Act→World→Prop} {a:Act} {w w':World} (h:w'=w) (k:Code.wp P c Q a w'):Code.wp P c Q a w:=h ▸ k
set_option maxHeartbeats 1000000 in
theorem read_any (g:Nat) (a x:Option Addr) (L c m cx:Nat) (f:Int) (s:Nat) (d:Bool) (zs:List Int) (ps:List PD) (w:World) (h:w.heap[g]?=some (.cells #[.slice a L c,.slice x m cx,.int .i64 f,.bool d] 40 (0,0))) (hL:L≤1048576) (hc:L≤c) (hl:zs.length=L) (hm:ps.length=m) (hm2:m≤1048576) (hs:s*64+64≤L) (hA:At .u8 w a zs) (hP:PAt w x ps) (hok:∀ i,i<m→(ps.getD i (0,[])).2.length=64) :
  Calls Tryz.prog 80 #[.pointer (some ⟨g,0,none⟩),.int .i64 s] w fun e w'=>e=.returned (secV (rdV zs ps s))∧Below w.heap.size w w':=by
 have c1:=cell_of_row w g 1 _ _ _ h;simp at c1;have hg:g<w.heap.size:=(Array.getElem?_eq_some_iff.1 h).1;have hrv:rdV zs ps s=(findL ps s m).getD ((zs.drop (s*64)).take 64):=by unfold rdV;rw[hm];simp
 have HRV:Hid _:=hrv;clear hrv;have HH:Hid _:=h;clear h;go_enter Tryz.func80,Tryz.ntmps80;go_wp2;have hb1:=(Below.refl w.heap.size w).alloc (Nat.le_refl _) (.cells (List.replicate 64 (Value.int .u8 0)).toArray 122);have hN:Row (w.alloc (.cells (List.replicate 64 (Value.int .u8 0)).toArray 122)) w.heap.size 122 (List.replicate 64 0):=heap_alloc_new w _;obtain⟨w1,hw1⟩:∃ w1,w.alloc (.cells (List.replicate 64 (Value.int .u8 0)).toArray 122)=w1:=⟨_,rfl⟩
 rw[hw1] at hb1 hN;refine wp_world (hw1.symm.trans rfl) ?_;have hz1:w.heap.size<w1.heap.size:=hN.lt;have k1:w1.cell? ⟨g,1,none⟩=some (.slice x m cx):=by rw[hb1.cell (p:=⟨g,1,none⟩) hg];exact c1
 have HA1:Hid _:=hA.below hb1;have HP1:Hid _:=hP.below hb1;have HB1:Hid _:=hb1;have HN1:Hid _:=hN;have HH1:Hid (w1.heap[g]?=some (.cells #[.slice a L c,.slice x m cx,.int .i64 f,.bool d] 40 (0,0))):=by unfold Hid;rw[hb1.block g hg];exact HH.out
 have hg1:g<w1.heap.size:=by omega
 clear hw1 hA hP hb1 hN c1 HH;have hend:∀(z:List Int) (w2:World),z.length=64→Below w1.heap.size w1 w2→Row w2 w.heap.size 122 (List.replicate 64 0)∧Below w.heap.size w w2:=fun z w2 hz hb=>
  ⟨by unfold Row;rw[hb.block _ hz1];exact HN1.out,HB1.out.trans (hb.mono (by omega))⟩
 have HEND:Hid _:=hend;clear hend HN1 HB1
 go_loop [5] (fun i=>∃ k:Nat,k≤m∧i=.int .i64 ((k:Int)-1)∧findL ps s m=findL ps s k) (fun i=>(intOf i+1).toNat)
 case atStart=>exact⟨m,Nat.le_refl _,rfl,rfl⟩
 case round=>
  obtain⟨k,hk,rfl,hf⟩:=hrel;cases k with
  |zero=>
   have hres:rdV zs ps s=(zs.drop (s*64)).take 64:=by rw[HRV.out,hf];simp[findL]
   have HF:Hid _:=hres;clear hf hres;go_wp2_with fail;refine(dur_any g a x L c m cx f s d zs w1 HH1.out hL hc hl hs HA1.out).mono ?_;rintro e w2 ⟨rfl,hb2⟩;have hz:((zs.drop (s*64)).take 64).length=64:=by simp;omega
   obtain⟨hr,hB⟩:=HEND.out _ w2 hz hb2;have HZ:Hid _:=hz;have HR:Hid _:=hr;have HB:Hid _:=hB;clear hz hr hB hb2;have e0:=HF.out;generalize (zs.drop (s*64)).take 64=z at *;have HE:Hid _:=e0;have hs1:(Tryz.prog.info? 122).map (·.size)=some ((z.map (Value.int .u8)).toArray).size:=by rw[Tryz.sizeSec];simp[HZ.out]
   have HS1:Hid _:=hs1;clear hs1 e0 HF;go_wp2_with (refine wpList_store_row rfl 122 (.tmp 4) (.tmp 37) rfl w.heap.size ((z.map (Value.int .u8)).toArray) rfl rfl 122 _ HR.out HS1.out (by simp[HZ.out]) (all_oneCell_toArray (ints_oneCell _ _)) ?_);refine bodyPost_ret (v:=.agg (z.map (Value.int .u8)).toArray) (results_cell_row rfl _ _ w.heap.size 122 _ (0,0) _ rfl (setRow_heap _ _ _ _ _ _ HR.out) Tryz.underlying122 rfl HS1.out) rfl ⟨by rw[HE.out];rfl,?_⟩;exact HB.out.trans ((Wr.setRow _ _ _).below (Nat.le_refl _))
  |succ k=>
   obtain⟨b,off,rfl,hbl,hc⟩:=PAt.get HP1.out (by omega);obtain⟨y,cy,g1,g2,g3⟩:=hc k (by omega);have hlz:=hok k (by omega);have hfk:findL ps s (k+1)=if(ps.getD k (0,[])).1=s then some (ps.getD k (0,[])).2 else findL ps s k:=rfl
   rw[←hf] at hfk;have ek:((k+1:Nat):Int)-1=k:=by omega
   rw[ek];generalize (ps.getD k (0,[])).1=t at *;generalize (ps.getD k (0,[])).2=z at *;generalize hzl:z.length=zl at *;have HF:Hid _:=hfk;have HG3:Hid _:=g3;have HLZ:Hid _:=hzl;have HL64:Hid _:=hlz;clear hf hfk g3 hlz hc hzl;by_cases ht:t=(s:Int)
   ·subst ht;have e1:((s:Int) == (s:Int))=true:=by simp
    go_wp2_with fail;refine(sectorOf_any y zl cy z w1 HLZ.out (by have:=HL64.out;omega) HG3.out).mono ?_;rintro e w2 ⟨rfl,hb2⟩;have hz:z.length=64:=HLZ.out.trans HL64.out;have htk:z.take 64=z:=List.take_of_length_le (by omega);rw[htk];obtain⟨hr,hB⟩:=HEND.out _ w2 hz hb2;have HZ:Hid _:=hz;have HR:Hid _:=hr;have HB:Hid _:=hB;clear hz hr hB hb2 htk;have e0:rdV zs ps s=z:=by rw[HRV.out,HF.out];simp
    have HE:Hid _:=e0;have hs1:(Tryz.prog.info? 122).map (·.size)=some ((z.map (Value.int .u8)).toArray).size:=by rw[Tryz.sizeSec];simp[HZ.out]
    have HS1:Hid _:=hs1;clear hs1 e0 HF;go_wp2_with (refine wpList_store_row rfl 122 (.tmp 4) (.tmp 34) rfl w.heap.size ((z.map (Value.int .u8)).toArray) rfl rfl 122 _ HR.out HS1.out (by simp[HZ.out]) (all_oneCell_toArray (ints_oneCell _ _)) ?_);refine bodyPost_ret (v:=.agg (z.map (Value.int .u8)).toArray) (results_cell_row rfl _ _ w.heap.size 122 _ (0,0) _ rfl (setRow_heap _ _ _ _ _ _ HR.out) Tryz.underlying122 rfl HS1.out) rfl ⟨by rw[HE.out];rfl,?_⟩;exact HB.out.trans ((Wr.setRow _ _ _).below (Nat.le_refl _))
   ·have e1:(t == (s:Int))=false:=by simpa using ht
    have hfk:=HF.out;rw[if_neg ht] at hfk;have HF2:Hid _:=hfk;clear hfk HF;go_wp2
    go_round
    case rel=>exact⟨k,by omega,rfl,HF2.out⟩
    case measure=>simp[intOf]
def putK (zs:List Int) (p:Nat) (v:Int):Nat→List Int
 |0=>zs
 |k+1=>(putK zs p v k).set (p+k) (v/2^(8*k)%256)
theorem putK_len (zs:List Int) (p:Nat) (v:Int) (k:Nat):(putK zs p v k).length=zs.length:=by
 induction k with
 |zero=>rfl
 |succ k ih=>simp[putK,ih]
set_option maxHeartbeats 400000 in
theorem setN_any (g:Nat) (t:TypeId) (p:Int) (v:Int) (zs:List Int) (w:World) (hr:Row w g t zs) (hl:zs.length=64) (hp:0≤p) (hp':p≤60) (hv:U32 v) :
  Calls Tryz.prog 146 #[.pointer (some ⟨g,0,none⟩),.int .i64 p,.int .u32 v] w fun e w'=>e=.returned (.tuple #[])∧Row w' g t (putK zs p.toNat v 4)∧Wr g w w':=by
 obtain⟨hv0,hv1⟩:=hv;obtain⟨p,rfl⟩:=Int.eq_ofNat_of_zero_le hp;go_enter Tryz.func146,Tryz.ntmps146;go_wp2
 go_loopw [7] (fun i wr=>∃ k:Nat,k≤4∧i=.int .i64 k∧Row wr g t (putK zs p v k)∧Wr g w wr) (fun i _=>4-(intOf i).toNat)
 case atStart=>exact⟨0,by omega,rfl,hr,Wr.refl _ _⟩
 case round=>
  obtain⟨k,hk,rfl,hrow,hwr⟩:=hrel;by_cases hlt:k<4
  ·have hlen:=putK_len zs p v k;have hc:=hrow.cell (p+k) (by omega);have hf:=hrow.frozen (p+k);go_wp2
   go_region
   go_wp2;go_roundw
   case rel=>exact⟨k+1,by omega,by go_num,(hrow.set (p+k) _).drew,(hwr.setCell (p+k) _).drew⟩
   case measure=>simp[intOf];omega
  ·have hk4:k=4:=by omega
   subst hk4;go_wp2
   go_end0
   exact⟨rfl,hrow,hwr⟩
def num4 (zs:List Int) (p:Nat):Int:=zs.getD p 0+256*zs.getD (p+1) 0+65536*zs.getD (p+2) 0+16777216*zs.getD (p+3) 0
theorem or_join (x y:Int) (i:Nat) (hx:0≤x) (hx':x<2^i) (hy:0≤y) (hy':y<4294967296) (hm:y%2^i=0) (hi:i≤32):bits .or .u32 x y=x+y:=by
 obtain⟨x,rfl⟩:=Int.eq_ofNat_of_zero_le hx;obtain⟨y,rfl⟩:=Int.eq_ofNat_of_zero_le hy;have hx2:x<2^i:=by exact_mod_cast hx'
 have hm2:y%2^i=0:=by exact_mod_cast hm
 have hi2:2^i≤2^32:=Nat.pow_le_pow_right (by decide) hi;rw[u32_or_nat x y (by omega) (by omega),Nat.or_comm,nat_join i y x hm2 hx2];omega
theorem num_bits (a b c d:Int) (ha:0≤a∧a<256) (hb:0≤b∧b<256) (hc:0≤c∧c<256) (hd:0≤d∧d<256) :
  bits .or .u32 (bits .or .u32 (bits .or .u32 a (b*256)) (c*65536)) (d*16777216)=a+256*b+65536*c+16777216*d:=by
 rw[or_join a (b*256) 8 (by omega) (by omega) (by omega) (by omega) (by omega) (by decide),
  or_join _ (c*65536) 16 (by omega) (by omega) (by omega) (by omega) (by omega) (by decide),
  or_join _ (d*16777216) 24 (by omega) (by omega) (by omega) (by omega) (by omega) (by decide)]
 omega
set_option maxHeartbeats 400000 in
theorem num_any (g:Nat) (t:TypeId) (p:Int) (zs:List Int) (w:World) (hr:Row w g t zs) (hz:Byte zs) (hl:zs.length=64) (hp:0≤p) (hp':p≤60) :
  Calls Tryz.prog 127 #[.pointer (some ⟨g,0,none⟩),.int .i64 p] w fun e w'=>e=.returned (.int .u32 (num4 zs p.toNat))∧∃ q,w'=w.drewN q:=by
 obtain⟨p,rfl⟩:=Int.eq_ofNat_of_zero_le hp;have c0:=hr.cell p (by omega);have c1:=hr.cell (p+1) (by omega);have c2:=hr.cell (p+2) (by omega);have c3:=hr.cell (p+3) (by omega);have b0:=hz.get p;have b1:=hz.get (p+1);have b2:=hz.get (p+2);have b3:=hz.get (p+3);have HN:Hid (num4 zs p=zs.getD p 0+256*zs.getD (p+1) 0+65536*zs.getD (p+2) 0+16777216*zs.getD (p+3) 0):=rfl;generalize zs.getD p 0=a at *;generalize zs.getD (p+1) 0=b at *;generalize zs.getD (p+2) 0=c at *;generalize zs.getD (p+3) 0=d at *;have HB:=num_bits a b c d b0 b1 b2 b3;have HH:Hid _:=HB;clear HB;obtain⟨b01,b02⟩:=b0;obtain⟨b11,b12⟩:=b1;obtain⟨b21,b22⟩:=b2;obtain⟨b31,b32⟩:=b3;go_enter Tryz.func127,Tryz.ntmps127;go_wp2
 go_quiet (fail)
 go_wp2
 go_ret
 exact⟨ret_int (by rw[HH.out,Int.toNat_natCast,HN.out]),nq,rfl⟩
end Go.Proofs.YthmeoilbmfdhfaaGreat
namespace Go.Proofs.YthmeoilbmfdhfaaGreat
set_option linter.unusedVariables false
def val (B:Int):List Int→Int
 |[]=>0
 |z::zs=>z+B*val B zs
def Dig (B:Int) (zs:List Int):Prop:=∀ z∈zs,0≤z∧z<B
theorem val_append (B:Int) (xs ys:List Int):val B (xs++ys)=val B xs+B^xs.length*val B ys:=by
 induction xs with
 |nil=>simp[val]
 |cons x xs ih=>simp only[List.cons_append,val,List.length_cons,ih,Int.pow_succ];grind
theorem val_snoc (B:Int) (xs:List Int) (x:Int):val B (xs++[x])=val B xs+x*B^xs.length:=by
 rw[val_append];simp only[val];grind
theorem Dig.tail {B:Int} {x:Int} {xs:List Int} (h:Dig B (x::xs)):Dig B xs:=fun z hz=>h z (by simp[hz])
theorem Dig.head {B:Int} {x:Int} {xs:List Int} (h:Dig B (x::xs)):0≤x∧x<B:=h x (by simp)
theorem val_nonneg {B:Int} (hB:0<B) {xs:List Int} (h:Dig B xs):0≤val B xs:=by
 induction xs with
 |nil=>simp[val]
 |cons x xs ih=>
  have:=h.head;have i:=ih h.tail;have:=Int.mul_nonneg (Int.le_of_lt hB) i;simp only[val];omega
theorem val_lt {B:Int} (hB:0<B) {xs:List Int} (h:Dig B xs):val B xs<B^xs.length:=by
 induction xs with
 |nil=>simp[val]
 |cons x xs ih=>
  obtain⟨h0,h1⟩:=h.head;have i:=ih h.tail;have h2:B*(val B xs+1)≤B*B^xs.length:=Int.mul_le_mul_of_nonneg_left (by omega) (by omega);simp only[val,List.length_cons,Int.pow_succ]
  grind
theorem val_take (B:Int) (xs:List Int) (k:Nat) (h:k<xs.length):val B (xs.take (k+1))=val B (xs.take k)+xs.getD k 0*B^k:=by
 have:xs.take (k+1)=xs.take k++[xs.getD k 0]:=by
  rw[List.take_succ_eq_append_getElem h,List.getD_eq_getElem?_getD,List.getElem?_eq_getElem h];rfl
 rw[this,val_snoc,List.length_take,Nat.min_eq_left (by omega)]
end Go.Proofs.YthmeoilbmfdhfaaGreat
namespace Go.Proofs.YthmeoilbmfdhfaaGreat
open Go.ChangeShapes Go.WideShapes Go.ChangeAt Go.RowKit
set_option linter.unusedVariables false
theorem u64_or_add (a b:Int) (k:Nat) (ha:0≤a) (ha':a<18446744073709551616) (hb:0≤b) (hb':b<2^k) (hb'':b<18446744073709551616) (q:Int) (hd:a=q*2^k):bits .or .u64 a b=a+b:=by
 obtain⟨a,rfl⟩:=Int.eq_ofNat_of_zero_le ha;obtain⟨b,rfl⟩:=Int.eq_ofNat_of_zero_le hb;rw[u64_or_nat a b (by omega) (by omega)];have hq:0≤q:=by
  have hp:(0:Int)<2^k:=Int.pow_pos (by decide);rcases Int.lt_or_le q 0 with h|h
  ·have:=Int.mul_neg_of_neg_of_pos h hp;omega
  ·exact h
 obtain⟨q,rfl⟩:=Int.eq_ofNat_of_zero_le hq;have hd':a=q*2^k:=by exact_mod_cast hd
 have hb3:b<2^k:=by exact_mod_cast hb'
 have:=Nat.shiftLeft_add_eq_or_of_lt hb3 q;rw[Nat.shiftLeft_eq,←hd'] at this;rw[←this];simp
structure WrH (g:Nat) (w w':World):Prop where
 os:w'.os=w.os
 tape:w'.tape=w.tape
 output:w'.output=w.output
 size:w.heap.size≤w'.heap.size
 block:∀ k,k<w.heap.size→k≠g→w'.heap[k]?=w.heap[k]?
theorem WrH.refl (g:Nat) (w:World):WrH g w w:=⟨rfl,rfl,rfl,Nat.le_refl _,fun _ _ _=>rfl⟩
theorem WrH.trans {g:Nat} {a b c:World} (h:WrH g a b) (k:WrH g b c):WrH g a c:=
 ⟨k.os.trans h.os,k.tape.trans h.tape,k.output.trans h.output,Nat.le_trans h.size k.size,fun i hi hg=>(k.block i (Nat.lt_of_lt_of_le hi h.size) hg).trans (h.block i hi hg)⟩
theorem Wr.wrH {g:Nat} {w w':World} (h:Wr g w w'):WrH g w w':=⟨h.os,h.tape,h.output,by rw[h.size];exact Nat.le_refl _,fun k _ hg=>h.block k hg⟩
theorem WrH.of_below {g:Nat} {w w':World} (h:Below w.heap.size w w'):WrH g w w':=⟨h.os,h.tape,h.output,h.size,fun k hk _=>h.block k hk⟩
theorem WrH.below {g:Nat} {w w':World} (h:WrH g w w') (B:Nat) (hB:B≤g) (hB':B≤w.heap.size):Below B w w':=⟨h.os,h.tape,h.output,h.size,fun k hk=>h.block k (by omega) (by omega)⟩
end Go.Proofs.YthmeoilbmfdhfaaGreat
