import Derived.Test.YtapejbpgdjbjjaaGreatDoorMBase
import Derived.Deep.AppendLies
import Derived.Test.YtapejbpgdjbjjaaGreatDoorMFe
import Derived.BigRegion
import Derived.Test.YtapejbpgdjbjjaaGreatDoorMVal
import Derived.Test.YtapejbpgdjbjjaaGreatDoorMReg
namespace Go.Proofs.YtapejbpgdjbjjaaGreatDoor
open Go.ChangeShapes Go.WideShapes Go.ChangeAt Go.RowKit
set_option linter.unusedVariables false
structure KT (k:IntKind) (t s:TypeId) (by':Nat):Prop where
 info:(Tryz.prog.info? t).map (fun i=>(i.zero,i.size,i.bytes))=some (some (.int k 0),1,by')
 und:Tryz.prog.underlying s=some (.slice t)
 pos:by'≠0
 le:by'≤8
def OwnK (k:IntKind) (t:TypeId) (w:World) (B:Nat) (v:Value) (zs:List Int):Prop:=
 w.ownsRow B t 1 v zs.length (zs.map (Value.int k))∧∃ g c,v=.slice (some ⟨g,0,none⟩) zs.length c
variable {k:IntKind} {t s:TypeId} {by':Nat}
theorem OwnK.base {w:World} {B:Nat} {v:Value} {zs:List Int} (h:OwnK k t w B v zs):∃ g c,v=.slice (some ⟨g,0,none⟩) zs.length c∧B≤g∧g<w.heap.size∧zs.length≤c:=by
 obtain⟨h,g,c,rfl⟩:=h
 rcases h.2 with⟨h',_⟩|⟨g',c',cur,h',hb,hh,hc,_⟩
 ·cases h'
 ·cases h';exact⟨g,c,rfl,hb,(Array.getElem?_eq_some_iff.1 hh).1,hc⟩
theorem OwnK.at_ {w:World} {B:Nat} {v:Value} {zs:List Int} (h:OwnK k t w B v zs):∃ g c,v=.slice (some ⟨g,0,none⟩) zs.length c∧B≤g∧g<w.heap.size∧At k w (some ⟨g,0,none⟩) zs:=by
 obtain⟨g,c,rfl,hb,hg,hc⟩:=h.base
 exact⟨g,c,rfl,hb,hg,.inr ⟨g,0,rfl,hg,fun i hi=>by rw[Nat.zero_add,h.1.cellAt i (by omega)];simp[hi]⟩⟩
theorem OwnK.atS {w:World} {B g n c:Nat} {zs:List Int} (h:OwnK k t w B (.slice (some ⟨g,0,none⟩) n c) zs):At k w (some ⟨g,0,none⟩) zs∧B≤g∧g<w.heap.size:=by
 obtain⟨g',c',e,h1,h2,h3⟩:=h.at_
 simp at e
 obtain⟨rfl,_⟩:=e
 exact⟨h3,h1,h2⟩
theorem OwnK.empty (w:World) (B:Nat) (hB:B≤w.heap.size):OwnK k t (w.alloc (.cells #[] t)) B (.slice (some ⟨w.heap.size,0,none⟩) 0 0) []:=
 ⟨World.ownsRow_lit w #[] 0 hB (by simp) (by simp),_,_,rfl⟩
theorem OwnK.alloc {w:World} {B:Nat} {v:Value} {zs:List Int} (h:OwnK k t w B v zs) (o:Obj):OwnK k t (w.alloc o) B v zs:=⟨h.1.alloc _,h.2⟩
theorem OwnK.lit (w:World) (B:Nat) (zs:List Int) (hB:B≤w.heap.size) (hl:zs.length≤1024):OwnK k t (w.alloc (.cells (zs.map (Value.int k)).toArray t)) B (.slice (some ⟨w.heap.size,0,none⟩) zs.length zs.length) zs:=
 ⟨by
  have:=World.ownsRow_lit w (e:=t) (size:=1) (base:=B) (zs.map (Value.int k)).toArray zs.length hB (by unfold maxLen;omega) (by simp);exact this,_,_,rfl⟩
theorem OwnK.grow {w w':World} {B:Nat} {v:Value} {zs:List Int} (h:OwnK k t w B v zs) (hb:Below w.heap.size w w'):OwnK k t w' B v zs:=by
 refine⟨⟨h.1.1,?_⟩,h.2⟩
 rcases h.1.2 with h'|⟨g,c,cur,h1,h2,h3,h4⟩
 ·exact .inl h'
 ·exact .inr ⟨g,c,cur,h1,h2,by rw[hb.block g (Array.getElem?_eq_some_iff.1 h3).1];exact h3,h4⟩
theorem OwnK.lower {w:World} {B B':Nat} {v:Value} {zs:List Int} (h:OwnK k t w B' v zs) (hB:B≤B'):OwnK k t w B v zs:=by
 obtain⟨⟨h1,h2⟩,h3⟩:=h
 refine⟨⟨h1,?_⟩,h3⟩
 rcases h2 with h|⟨g,c,cur,h4,h5,h6⟩
 ·exact .inl h
 ·exact .inr ⟨g,c,cur,h4,by omega,h6⟩
theorem OwnK.set {w:World} {B:Nat} {g c:Nat} {zs:List Int} {n:Nat} (hn:zs.length=n) (h:OwnK k t w B (.slice (some ⟨g,0,none⟩) n c) zs) (i:Nat) (x:Int) (hi:i<n) :
  w.cell? ⟨g,i,none⟩=some (.int k (zs.getD i 0))∧w.frozen? ⟨g,i,none⟩=false∧OwnK k t (w.setCell ⟨g,i,none⟩ (.int k x)) B (.slice (some ⟨g,0,none⟩) n c) (zs.set i x):=by
 subst hn
 refine⟨?_,h.1.frozenAt i,?_,?_⟩
 ·rw[h.1.cellAt i (by omega)];simp[hi]
 ·have:=(h.1.stored i (.int k x)).1;rw[←List.map_set] at this;rw[List.length_set];exact this
 ·rw[List.length_set];exact⟨_,_,rfl⟩
theorem OwnK.cellAt {w:World} {B:Nat} {g c:Nat} {zs:List Int} {n:Nat} (hn:zs.length=n) (h:OwnK k t w B (.slice (some ⟨g,0,none⟩) n c) zs) (i:Nat) (hi:i<n):w.cell? ⟨g,i,none⟩=some (.int k (zs.getD i 0)):=by
 subst hn
 rw[h.1.cellAt i (by omega)];simp[hi]
theorem wpList_appK (w:World) {ops:Array Oper} {rest:List Oper} {o:Oper} {a:Act} {Q:Exit→Act→World→Prop} (hk:KT k t s by')
  (hg:o.guard=none) (sx x:Operand) (hop:o.op=Op.call { callee:=Callee.builtin Builtin.append,args:=#[sx,x],argTypes:=#[s,s] })
  (B:Nat) (v:Value) (xs:List Int) (hs:a.eval sx=v) (hown:OwnK k t w B v xs) (ad:Addr) (m c:Nat) (news:List Int) (hx:a.eval x=.slice (some ad) m c) (hl:news.length=m)
  (hnews:∀ j,j<m→w.cell? (ad.add j)=some (.int k (news.getD j 0))) (hb:xs.length+m≤1099511627776) (hB:B≤w.heap.size)
  (hK:∀ v' w',OwnK k t w' B v' (xs++news)→Below B w w'→w.grownBy w' v.ownBlock→wpList Tryz.prog ops Q rest (a.put o.dst v') w') :
  wpList Tryz.prog ops Q (o::rest) a w:=by
 obtain⟨i0,hi,hz0,hz1,hz2⟩:=info_parts hk.info
 have hbase:=hown.base
 have hp:=hk.pos
 have hle:=hk.le
 refine wpList_append_own w hg sx x s hop B t i0 (.int k 0) 1 by' hk.und hi hz0 hz1 hz2 rfl (by omega) v xs.length _ hs hown.1 ad m c (news.map (Value.int k)) hx (by simp[hl]) ?_ (ints_oneCell _ _) (by unfold maxLen;omega) ?_ hB ?_
 ·intro j u hu;have hj:j<news.length:=by have:=(List.getElem?_eq_some_iff.1 hu).1;simpa using this
  rw[hnews j (by omega)];simp[hj] at hu;simp[hj,hu]
 ·have:=Nat.mul_le_mul hb hle;omega
 ·intro v' w' h1 h2 h3;obtain⟨g,c0,hv,hBg,_,_⟩:=hbase;have hbel:Below B w w':=(Below.refl _ _).grown h2 hB (fun k hk=>by rw[hv] at hk;simp[Value.ownBlock] at hk;omega);refine hK v' w' ⟨?_,?_⟩ hbel h2
  ·rw[List.map_append,List.length_append,hl];exact h1
  ·rcases h1.2 with⟨h',_⟩|⟨g',c',cur,h',_⟩
   ·exact absurd (h3.1 h').1 (by rw[hv];simp)
   ·exact⟨g',c',by rw[h',List.length_append,hl]⟩
end Go.Proofs.YtapejbpgdjbjjaaGreatDoor
namespace Go.Proofs.YtapejbpgdjbjjaaGreatDoor
open Go.ChangeShapes Go.WideShapes Go.ChangeAt Go.RowKit
set_option linter.unusedVariables false
theorem ktI:KT .i64 2 41 8:=⟨by kernel_rfl,Tryz.underlying41,by decide,by decide⟩
abbrev OwnI:=OwnK .i64 2
def FeR (w:World) (zs:List Int) (e:Ending) (w':World):Prop:=
 ∃ g c,e=.returned (.slice (some ⟨g,0,none⟩) 16 c)∧OwnI w' w.heap.size (.slice (some ⟨g,0,none⟩) 16 c) zs∧Below w.heap.size w w'
structure CarS (w:World) (g c:Nat) (zs:List Int) (wr:World):Prop where
 own:OwnI wr w.heap.size (.slice (some ⟨g,0,none⟩) 16 c) zs
 below:Below w.heap.size w wr
set_option maxHeartbeats 1000000 in
theorem carry_any (a:Option Addr) (cap:Nat) (xs:List Int) (w:World) (hx:xs.length=16) (ha:At .i64 w a xs) (M C:Int) (hM:Bd M xs) (hM0:0≤M) (hM1:M≤4611686018427387904) (hC:M≤65535*C) (hC1:C≤140737488355328) :
  Calls Tryz.prog 89 #[.slice a 16 cap] w (FeR w (carryL xs)):=by
 obtain⟨b0,off,rfl,hb0,hc⟩:=ha.get (by omega)
 have HN:Hid (∀ i,i<16→(w.alloc (.cells #[] 2)).cell? ((⟨b0,off,none⟩:Addr).add i)=some (.int .i64 (xs.getD i 0))):=fun i hi=>by
  rw[Addr.add_lit,((Below.refl w.heap.size w).alloc (Nat.le_refl _) (.cells #[] 2)).cell (p:=⟨b0,off+i,none⟩) hb0];exact hc i (by omega)
 have HX:Hid (xs.length=16):=hx
 have HBD:Hid (∀ i,-C≤cy xs i∧cy xs i≤C):=cy_bd hM hC hM0
 have HM:Hid (Bd M xs):=hM
 clear hc ha hx hM
 go_enter Tryz.func89,Tryz.ntmps89
 go_wp2_with (at_builtin;refine wpList_appK _ ktI rfl _ _ rfl w.heap.size _ [] rfl (OwnK.empty _ _ (Nat.le_refl _)) ⟨b0,off,none⟩ 16 _ xs rfl HX.out HN.out ?c2 ?c3 ?_)
 case c2=>decide
 case c3=>simp
 intro v' w1 hown' hbel' _
 have hB1:Below w.heap.size w w1:=((Below.refl _ _).alloc (Nat.le_refl _) _).trans hbel'
 obtain⟨g,c,rfl,hg,hg',_⟩:=hown'.at_
 rw[HX.out] at hown' ⊢
 have HS:Hid (CarS w g c (cst xs 0) w1):=⟨by rw[cst_zero xs HX.out];exact hown',hB1⟩
 clear hown' hB1 hbel' HN
 go_wp2
 go_loopw [4] (fun i wr=>∃ k:Nat,k≤16∧i=.int .i64 k∧((k<16∧CarS w g c (cst xs k) wr)∨(k=16∧CarS w g c (carryL xs) wr))) (fun i _=>16-(intOf i).toNat)
 case atStart=>exact⟨0,by decide,rfl,.inl ⟨by decide,HS.out⟩⟩
 case round=>
  clear HS;obtain⟨k,hk,rfl,hst⟩:=hrel;by_cases hlt:k<16
  ·have hst':CarS w g c (cst xs k) wr:=by
    rcases hst with⟨_,h⟩|⟨h,_⟩
    ·exact h
    ·omega
   obtain⟨hown,hbel⟩:=hst';clear hst;obtain⟨hcl,hch⟩:=HBD.out k;obtain⟨hcl',hch'⟩:=HBD.out (k+1);obtain⟨hml,hmh⟩:=HM.out k;obtain⟨hml',hmh'⟩:=HM.out (k+1);have hcs:cy xs (k+1)=(xs.getD k 0+cy xs k)/65536:=rfl;have hget:(cst xs k).getD k 0=xs.getD k 0+cy xs k:=by rw[cst_get _ _ _ hlt];unfold cdig;simp
   obtain⟨c0,f0,o0⟩:=OwnK.set (cst_len xs k) hown k ((xs.getD k 0+cy xs k)%65536) hlt;rw[hget] at c0;by_cases hk15:k<15
   ·have hget2:((cst xs k).set k ((xs.getD k 0+cy xs k)%65536)).getD (k+1) 0=xs.getD (k+1) 0:=by
     rw[getD_set_eq _ _ _ _ (by rw[cst_len];omega),if_neg (by omega),cst_get _ _ _ (by omega)];unfold cdig;rw[if_neg (by omega),if_neg (by omega)]
    obtain⟨c1,f1,o1⟩:=OwnK.set (by rw[List.length_set,cst_len]) o0 (k+1) (xs.getD (k+1) 0+cy xs (k+1)) (by omega);rw[hget2] at c1;rw[cst_step xs k hk15] at o1;have HO:Hid (CarS w g c (cst xs (k+1)) ((wr.setCell ⟨g,k,none⟩ (.int .i64 ((xs.getD k 0+cy xs k)%65536))).setCell ⟨g,k+1,none⟩ (.int .i64 (xs.getD (k+1) 0+cy xs (k+1))))):=⟨o1,(hbel.setCell hg _).setCell hg _⟩
    have HCS:Hid (cy xs (k+1)=(xs.getD k 0+cy xs k)/65536):=hcs;clear o0 o1 hget hget2 hown hbel hcs;generalize cy xs (k+1)=c' at *;generalize cy xs k=cc at *;generalize xs.getD k 0=x at *;generalize xs.getD (k+1) 0=x' at *;have hq0:x+cc-(x+cc)/65536*65536=(x+cc)%65536:=by omega
    have hlt':(k:Int)<15:=by omega
    have hcs2:c'=(x+cc)/65536:=HCS.out;clear HCS;subst hcs2;go_wp2;exact⟨⟨k+1,by omega,by go_num,.inl ⟨by omega,HO.out⟩⟩,by simp[intOf];omega⟩
   ·have hke:k=15:=by omega
    have hget0:0≤((cst xs 15).set 15 ((xs.getD 15 0+cy xs 15)%65536)).getD 0 0∧((cst xs 15).set 15 ((xs.getD 15 0+cy xs 15)%65536)).getD 0 0<65536:=by
     rw[getD_set_eq _ _ _ _ (by rw[cst_len];decide),if_neg (by decide),cst_get _ _ _ (by decide)];unfold cdig;rw[if_pos (by decide)];omega
    obtain⟨c1,f1,o1⟩:=OwnK.set (by rw[List.length_set,cst_len]) o0 0 (((cst xs k).set k ((xs.getD k 0+cy xs k)%65536)).getD 0 0+38*cy xs (k+1)) (by decide);have hl:=cst_last xs;have e16:cy xs 16=cy xs (k+1):=by rw[hke]
    rw[e16] at hl;have HK:Hid (k=15):=hke;rw[←hke] at hl hget0;rw[hl] at o1;have HO:Hid (CarS w g c (carryL xs) ((wr.setCell ⟨g,k,none⟩ (.int .i64 ((xs.getD k 0+cy xs k)%65536))).setCell ⟨g,0,none⟩ (.int .i64 (((cst xs k).set k ((xs.getD k 0+cy xs k)%65536)).getD 0 0+38*cy xs (k+1))))):=⟨o1,(hbel.setCell hg _).setCell hg _⟩
    have HCS:Hid (cy xs (k+1)=(xs.getD k 0+cy xs k)/65536):=hcs;clear o0 o1 hget hown hbel hcs hl e16 hke;generalize ((cst xs k).set k ((xs.getD k 0+cy xs k)%65536)).getD 0 0=y at *;generalize cy xs (k+1)=c' at *;generalize cy xs k=cc at *;generalize xs.getD k 0=x at *;obtain⟨hy0,hy1⟩:=hget0;have hq0:x+cc-(x+cc)/65536*65536=(x+cc)%65536:=by omega
    have hlt':¬ (k:Int)<15:=by omega
    have hcs2:c'=(x+cc)/65536:=HCS.out;clear HCS;subst hcs2;go_wp2;exact⟨⟨k+1,by omega,by go_num,.inr ⟨by have:=HK.out;omega,HO.out⟩⟩,by simp[intOf];omega⟩
  ·have hst':CarS w g c (carryL xs) wr:=by
    rcases hst with⟨_,h⟩|⟨_,h⟩
    ·omega
    ·exact h
   have HP:Hid (FeR w (carryL xs) (.returned (.slice (some ⟨g,0,none⟩) 16 c)) wr):=⟨g,c,rfl,hst'.own,hst'.below⟩
   clear hst hst';go_wp2
   go_ret
   exact HP.out
end Go.Proofs.YtapejbpgdjbjjaaGreatDoor
namespace Go.Proofs.YtapejbpgdjbjjaaGreatDoor
open Go.ChangeShapes Go.WideShapes Go.ChangeAt Go.RowKit
set_option linter.unusedVariables false
theorem dN_dN (w:World) (m n:Nat):(w.drewN m).drewN n=w.drewN (m+n):=by
 simp[World.drewN,Nat.add_assoc]
def FeA (w:World) (a:Option Addr) (x:Int):Prop:=∃ zs,At .i64 w a zs∧R zs∧fv zs=x
def FeP (w:World) (x:Int) (e:Ending) (w':World):Prop:=
 ∃ g c,e=.returned (.slice (some ⟨g,0,none⟩) 16 c)∧w.heap.size≤g∧g<w'.heap.size∧FeA w' (some ⟨g,0,none⟩) x∧Below w.heap.size w w'
theorem FeA.below {w w':World} {a:Option Addr} {x:Int} (h:FeA w a x) (hb:Below w.heap.size w w'):FeA w' a x:=by
 obtain⟨zs,h1,h2⟩:=h
 exact⟨zs,h1.below hb,h2⟩
theorem FeA.bd {w:World} {a:Option Addr} {x:Int} (h:FeA w a x):0≤x∧x<fp:=by
 obtain⟨zs,h1,h2,rfl⟩:=h
 unfold fv fp;omega
theorem FeR.fe {w:World} {zs:List Int} {x:Int} {e:Ending} {w':World} (h:FeR w zs e w') (hR:R zs) (hv:fv zs=x):FeP w x e w':=by
 obtain⟨g,c,he,ho,hb⟩:=h
 obtain⟨hA,h1,h2⟩:=ho.atS
 exact⟨g,c,he,h1,h2,⟨zs,hA,hR,hv⟩,hb⟩
set_option maxHeartbeats 400000 in
theorem small_any (x:Int) (w:World) (h0:-1048576≤x) (h1:x≤1048576):Calls Tryz.prog 58 #[.int .i64 x] w (FeP w (x%fp)):=by
 obtain⟨t1,t2,t3⟩:=two_R (xs:=smallL x) rfl (smallL_bd (M:=1048576) ⟨h0,h1⟩) (by decide) (by decide)
 have HT:Hid (R (carryL (carryL (smallL x)))∧fv (carryL (carryL (smallL x)))=x%fp):=⟨t1,by rw[t2];unfold fv;rw[smallL_val]⟩
 have HB2:Hid (Bd 20401160191 (carryL (smallL x))):=t3
 have HS:Hid (OwnI (w.alloc (.cells #[.int .i64 x] 2)) w.heap.size (.slice (some ⟨w.heap.size,0,none⟩) 1 1) (x::List.replicate 0 0)):=OwnK.lit w _ [x] (Nat.le_refl _) (by simp)
 clear t1 t2 t3
 go_enter Tryz.func58,Tryz.ntmps58
 go_wp2
 go_loopw [3,4] (fun v i wr=>∃ k:Nat,k≤15∧i=.int .i64 ((k:Int)+1)∧OwnI wr w.heap.size v (x::List.replicate k 0)∧Below w.heap.size w wr) (fun _ i _=>16-(intOf i).toNat)
 case atStart=>exact⟨0,by decide,rfl,HS.out,(Below.refl _ _).alloc (Nat.le_refl _) _⟩
 case round=>
  clear HS;obtain⟨k,hk,rfl,hown,hbel⟩:=hrel;by_cases hlt:k<15
  ·have hsz:=hbel.size;have hlt':(k:Int)+1<16:=by omega
   go_wp2_with (at_builtin;refine wpList_appK _ ktI rfl _ _ rfl w.heap.size _ _ rfl (hown.alloc _) ⟨wr.heap.size,0,none⟩ 1 1 [0] rfl rfl ?c1 ?c2 ?c3 ?_);all_goals first|(intro j hj;obtain rfl:j=0:=by omega
                                                                                                                                                                          simp[Addr.add];done)|skip
   case c2=>simp;omega
   case c3=>first|omega|(rw[World.size_alloc];omega)
   intro v' w1 hown' hbel' _;have HO:Hid (OwnI w1 w.heap.size v' (x::List.replicate (k+1) 0)):=by rw[List.replicate_succ'];exact hown'
   have HB:Hid (Below w.heap.size w w1):=(hbel.alloc (by omega) _).trans hbel';clear hown hown' hbel hbel';go_wp2;go_roundw
   case rel=>exact⟨k+1,by omega,by go_num,HO.out,HB.out⟩
   case measure=>simp[intOf];omega
  ·have hk15:k=15:=by omega
   have ho:OwnI wr w.heap.size u3 (smallL x):=by rw[hk15] at hown;exact hown
   obtain⟨g,c,rfl,hg,hg',hA⟩:=ho.at_;have hl:(smallL x).length=16:=rfl;rw[hl];clear ho hown;have hlt':¬ (k:Int)+1<16:=by omega
   go_wp2_with fail;refine(carry_any _ c (smallL x) _ rfl hA 1048576 17 (smallL_bd ⟨h0,h1⟩) (by decide) (by decide) (by decide) (by decide)).mono ?_;rintro e w1 ⟨g1,c1,rfl,o1,b1⟩;obtain⟨hA1,_,_⟩:=o1.atS;have s1:=b1.size;have hB1:Below w.heap.size w w1:=hbel.trans (b1.mono hbel.size);clear hA o1 b1 hbel hk15;go_wp2_with fail;refine(carry_any _ c1 (carryL (smallL x)) _ (carryL_len _) hA1 20401160191 311304 HB2.out (by decide) (by decide) (by decide) (by decide)).mono ?_;rintro e w2 h2;have HP:Hid (FeP w (x%fp) e w2):=by
    obtain⟨g2,c2,rfl,p1,p2,p3,p4⟩:=h2.fe HT.out.1 HT.out.2;exact⟨g2,c2,rfl,by have:=hB1.size;omega,p2,p3,hB1.trans (p4.mono hB1.size)⟩
   obtain⟨g2,c2,rfl,_⟩:=h2;clear hA1 hB1;go_wp2
   go_ret
   exact HP.out
set_option maxHeartbeats 1000000 in
theorem fmul_any (a a':Option Addr) (cap cap':Nat) (x y:Int) (w:World) (ha:FeA w a x) (ha':FeA w a' y) :
  Calls Tryz.prog 57 #[.slice a 16 cap,.slice a' 16 cap'] w (FeP w (x*y%fp)):=by
 obtain⟨xs,hA,hR,rfl⟩:=ha
 obtain⟨ys,hA',hR',rfl⟩:=ha'
 obtain⟨b0,off,rfl,hb0,hc⟩:=hA.get (by have:=hR.1;omega)
 obtain⟨b1,off',rfl,hb1,hc'⟩:=hA'.get (by have:=hR'.1;omega)
 obtain⟨t1,t2,t3⟩:=two_R (mulL_len xs ys) (mulL_bd hR hR') (by decide) (by decide)
 have HT:Hid (R (carryL (carryL (mulL xs ys)))∧fv (carryL (carryL (mulL xs ys)))=fv xs*fv ys%fp):=⟨t1,by rw[t2,fv_mulL _ _ hR.1 hR'.1]⟩
 have HB2:Hid (Bd 20401160191 (carryL (mulL xs ys))):=t3
 have HB1:Hid (Bd 17592186044416 (mulL xs ys)):=mulL_bd hR hR'
 have HC:Hid (∀ i,i<16→w.cell? ⟨b0,off+i,none⟩=some (.int .i64 (xs.getD i 0))):=fun i hi=>hc i (by have:=hR.1;omega)
 have HC':Hid (∀ i,i<16→w.cell? ⟨b1,off'+i,none⟩=some (.int .i64 (ys.getD i 0))):=fun i hi=>hc' i (by have:=hR'.1;omega)
 have HS:Hid (∀ s n:Nat,n≤16→-69063840000≤cs xs ys s n∧cs xs ys s n≤69063840000):=fun s n hn=>by
  have:=cs_bd hR.2 hR'.2 (by decide) s n;omega
 have HR:Hid (R xs∧R ys):=⟨hR,hR'⟩
 clear t1 t2 t3 hc hc' hA hA' hR hR'
 go_enter Tryz.func57,Tryz.ntmps57
 go_wp2
 go_loopw [5,6] (fun v i wr=>∃ k:Nat,k≤16∧i=.int .i64 k∧OwnI wr w.heap.size v ((mulL xs ys).take k)∧Below w.heap.size w wr) (fun _ i _=>16-(intOf i).toNat)
 case atStart=>exact⟨0,by decide,rfl,OwnK.empty _ _ (Nat.le_refl _),(Below.refl _ _).alloc (Nat.le_refl _) _⟩
 case round=>
  obtain⟨k,hk,rfl,hown,hbel⟩:=hrel;by_cases hlt:k<16
  ·have hlt':(k:Int)<16:=by omega
   have HO:Hid (OwnI wr w.heap.size u5 ((mulL xs ys).take k)):=hown;have HBE:Hid (Below w.heap.size w wr):=hbel;clear hown hbel;obtain⟨w5,hw5⟩:∃ x,x=wr:=⟨_,rfl⟩
   subst hw5;go_wp2
   go_loopw [7,9] (fun l i wq=>∃(n q:Nat),n≤k+1∧i=.int .i64 n∧l=.int .i64 (cs xs ys k n)∧wq=w5.drewN q) (fun _ i _=>17-(intOf i).toNat)
   case atStart=>exact⟨0,0,Nat.zero_le _,rfl,rfl,rfl⟩
   case round=>
    obtain⟨n,q,hn,rfl,rfl,rfl⟩:=hrel;by_cases hnk:n≤k
    ·have hnk':(n:Int)≤(k:Int):=by omega
     have hx:=(HR.out.1).2 n;have hy:=(HR.out.2).2 (k-n);have c0:w5.cell? ⟨b0,off+n,none⟩=some (.int .i64 (xs.getD n 0)):=by
      rw[HBE.out.cell (p:=⟨b0,off+n,none⟩) hb0];exact HC.out n (by omega)
     have c1:w5.cell? ⟨b1,off'+(k-n),none⟩=some (.int .i64 (ys.getD (k-n) 0)):=by
      rw[HBE.out.cell (p:=⟨b1,off'+(k-n),none⟩) hb1];exact HC'.out (k-n) (by omega)
     have hsn:=HS.out k n (by omega);have hsn1:=HS.out k (n+1) (by omega);have hcs:cs xs ys k (n+1)=cs xs ys k n+xs.getD n 0*ys.getD (k-n) 0:=rfl;obtain⟨pr,hpr⟩:∃ pr,pr=xs.getD n 0*ys.getD (k-n) 0:=⟨_,rfl⟩
     rw[←hpr] at hcs;have hw1:wrap64 (xs.getD n 0*ys.getD (k-n) 0)=pr:=by rw[←hpr];unfold wrap64;omega
     have hsub:((k:Int)-(n:Int))=((k-n:Nat):Int):=by omega
     have hkn16:((k-n:Nat):Int)<16:=by omega
     have hn16:(n:Int)<16:=by omega
     rw[hcs] at hsn1;have HCS:Hid (cs xs ys k (n+1)=cs xs ys k n+pr):=hcs;clear hcs hpr hlt';generalize xs.getD n 0=x at *;generalize ys.getD (k-n) 0=y at *;generalize cs xs ys k n=S at *;obtain⟨s0,s1⟩:=hsn;obtain⟨s2,s3⟩:=hsn1;obtain⟨x0,x1⟩:=hx;obtain⟨y0,y1⟩:=hy;go_wp2
     go_quiet (fail)
     rw[dN_dN];clear c0 c1 hw1 hsub hkn16 x0 x1 y0 y1;go_wp2;go_roundw
     case rel=>exact⟨n+1,q+nq,by omega,by go_num,by rw[HCS.out],rfl⟩
     case measure=>simp[intOf];omega
    ·have hnk':¬ (n:Int)≤(k:Int):=by omega
     obtain rfl:n=k+1:=by omega
     have HL:Hid (cs xs ys k (k+1)=loS xs ys k):=rfl;rw[HL.out];have HLB:Hid (-69063840000≤loS xs ys k∧loS xs ys k≤69063840000):=HS.out k (k+1) (by omega);generalize hlo:loS xs ys k=lo at *;have HLO:Hid (loS xs ys k=lo):=hlo;clear hlo HL;have O5:OwnI (w5.drewN q) w.heap.size u5 ((mulL xs ys).take k):=HO.out;have B5:Below w.heap.size w (w5.drewN q):=⟨HBE.out.os,HBE.out.tape,HBE.out.output,HBE.out.size,HBE.out.block⟩
     have HO6:Hid (OwnI (w5.drewN q) w.heap.size u5 ((mulL xs ys).take k)):=O5;have HBE6:Hid (Below w.heap.size w (w5.drewN q)):=B5;clear HO HBE O5 B5;generalize w5.drewN q=w6 at *;have hk1:((k+1:Nat):Int)=(k:Int)+1:=by omega
     rw[hk1];clear hk1;go_wp2
     go_loopw [8,10] (fun l i wq=>∃(n q:Nat),k+1≤n∧n≤16∧i=.int .i64 n∧l=.int .i64 (cs xs ys (16+k) n)∧wq=w6.drewN q) (fun _ i _=>16-(intOf i).toNat)
     case atStart=>exact⟨k+1,0,Nat.le_refl _,by omega,by go_num,by rw[cs_zero_from HR.out.2.1 k (k+1) (Nat.le_refl _)],rfl⟩
     case round=>
      obtain⟨n,q,hnl,hnh,rfl,rfl,rfl⟩:=hrel;by_cases hn16:n<16
      ·have hx:=(HR.out.1).2 n;have hy:=(HR.out.2).2 (16+k-n);have c0:w6.cell? ⟨b0,off+n,none⟩=some (.int .i64 (xs.getD n 0)):=by
        rw[HBE6.out.cell (p:=⟨b0,off+n,none⟩) hb0];exact HC.out n (by omega)
       have c1:w6.cell? ⟨b1,off'+(16+k-n),none⟩=some (.int .i64 (ys.getD (16+k-n) 0)):=by
        rw[HBE6.out.cell (p:=⟨b1,off'+(16+k-n),none⟩) hb1];exact HC'.out (16+k-n) (by omega)
       have hsn:=HS.out (16+k) n (by omega);have hsn1:=HS.out (16+k) (n+1) (by omega);have hcs:cs xs ys (16+k) (n+1)=cs xs ys (16+k) n+xs.getD n 0*ys.getD (16+k-n) 0:=rfl;obtain⟨pr,hpr⟩:∃ pr,pr=xs.getD n 0*ys.getD (16+k-n) 0:=⟨_,rfl⟩
       rw[←hpr] at hcs;have hw1:wrap64 (xs.getD n 0*ys.getD (16+k-n) 0)=pr:=by rw[←hpr];unfold wrap64;omega
       have hsub:(16+(k:Int)-(n:Int))=((16+k-n:Nat):Int):=by omega
       have hkn16:((16+k-n:Nat):Int)<16:=by omega
       have hn16':(n:Int)<16:=by omega
       rw[hcs] at hsn1;have HCS:Hid (cs xs ys (16+k) (n+1)=cs xs ys (16+k) n+pr):=hcs;clear hcs hpr hlt';generalize xs.getD n 0=x at *;generalize ys.getD (16+k-n) 0=y at *;generalize cs xs ys (16+k) n=S at *;obtain⟨s0,s1⟩:=hsn;obtain⟨s2,s3⟩:=hsn1;obtain⟨x0,x1⟩:=hx;obtain⟨y0,y1⟩:=hy;go_wp2
       go_quiet (fail)
       rw[dN_dN];clear c0 c1 hw1 hsub hkn16 x0 x1 y0 y1;go_wp2;go_roundw
       case rel=>exact⟨n+1,q+nq,by omega,by omega,by go_num,by rw[HCS.out],rfl⟩
       case measure=>simp[intOf];omega
      ·obtain rfl:n=16:=by omega
       rw[←hiS_eq HR.out.1.1 k,show((16:Nat):Int)=16 from rfl];have HHB:Hid (-69063840000≤hiS xs ys k∧hiS xs ys k≤69063840000):=by
        rw[hiS_eq HR.out.1.1 k];exact HS.out (16+k) 16 (by omega)
       have HTK:Hid ((mulL xs ys).take (k+1)=(mulL xs ys).take k++[lo+38*hiS xs ys k]):=by
        show _=_
        have e:(mulL xs ys).getD k 0=lo+38*hiS xs ys k:=by rw[←HLO.out];exact rget _ k hlt
        rw[←e,List.take_succ_eq_append_getElem (by rw[mulL_len];exact hlt),List.getD_eq_getElem?_getD,List.getElem?_eq_getElem (by rw[mulL_len];exact hlt)];rfl
       have HTL:Hid (((mulL xs ys).take k).length=k):=by show _=_;rw[List.length_take,mulL_len];omega
       have O7:OwnI (w6.drewN q) w.heap.size u5 ((mulL xs ys).take k):=HO6.out;have B7:Below w.heap.size w (w6.drewN q):=⟨HBE6.out.os,HBE6.out.tape,HBE6.out.output,HBE6.out.size,HBE6.out.block⟩
       clear HO6 HBE6;generalize w6.drewN q=w7 at *;generalize hiS xs ys k=hi at *;obtain⟨l0,l1⟩:=HLB.out;obtain⟨h0,h1⟩:=HHB.out;have hsz:=B7.size;go_wp2_with (at_builtin;refine wpList_appK _ ktI rfl _ _ rfl w.heap.size _ _ rfl (O7.alloc _) ⟨w7.heap.size,0,none⟩ 1 1 [lo+38*hi] rfl rfl ?c1 ?c2 ?c3 ?_);all_goals first|(intro j hj;obtain rfl:j=0:=by omega
                                                                                                                                                                                                                                                                                                                               simp[Addr.add];done)|skip
       case c2=>rw[HTL.out];omega
       case c3=>first|omega|(rw[World.size_alloc];omega)
       intro v' w8 hown' hbel' _;have HO8:Hid (OwnI w8 w.heap.size v' ((mulL xs ys).take (k+1))):=by rw[HTK.out];exact hown'
       have HB8:Hid (Below w.heap.size w w8):=(B7.alloc (by omega) _).trans hbel';clear hown' hbel' O7 B7;go_wp2;go_roundw
       case rel=>exact⟨k+1,by omega,by go_num,HO8.out,HB8.out⟩
       case measure=>simp[intOf];omega
  ·have hk16:k=16:=by omega
   have ho:OwnI wr w.heap.size u5 (mulL xs ys):=by rw[hk16,List.take_of_length_le (by rw[mulL_len];decide)] at hown;exact hown
   obtain⟨g,c,rfl,hg,hg',hA⟩:=ho.at_;rw[mulL_len];clear ho hown;have hlt':¬ (k:Int)<16:=by omega
   go_wp2_with fail;refine(carry_any _ c (mulL xs ys) _ (mulL_len _ _) hA 17592186044416 536870912 HB1.out (by decide) (by decide) (by decide) (by decide)).mono ?_;rintro e w1 ⟨g1,c1,rfl,o1,b1'⟩;obtain⟨hA1,_,_⟩:=o1.atS;have hB1:Below w.heap.size w w1:=hbel.trans (b1'.mono hbel.size);clear hA o1 b1' hbel hk16;go_wp2_with fail;refine(carry_any _ c1 (carryL (mulL xs ys)) _ (carryL_len _) hA1 20401160191 311304 HB2.out (by decide) (by decide) (by decide) (by decide)).mono ?_;rintro e w2 h2;have HP:Hid (FeP w (fv xs*fv ys%fp) e w2):=by
    obtain⟨g2,c2,rfl,p1,p2,p3,p4⟩:=h2.fe HT.out.1 HT.out.2;exact⟨g2,c2,rfl,by have:=hB1.size;omega,p2,p3,hB1.trans (p4.mono hB1.size)⟩
   obtain⟨g2,c2,rfl,_⟩:=h2;clear hA1 hB1;go_wp2
   go_ret
   exact HP.out
end Go.Proofs.YtapejbpgdjbjjaaGreatDoor
namespace Go.Proofs.YtapejbpgdjbjjaaGreatDoor
open Go.ChangeShapes Go.WideShapes Go.ChangeAt Go.RowKit
set_option linter.unusedVariables false
theorem wp_app (w:World) {o:Oper} {a:Act} {K:Act→World→Prop} {Q:Exit→Act→World→Prop}
  (s x:Operand) (hop:o.op=Op.call { callee:=Callee.builtin Builtin.append,args:=#[s,x],argTypes:=#[22,22] })
  (B:Nat) (v:Value) (xs:List Int) (hs:a.eval s=v) (hown:Own w B v xs) (ad:Addr) (m c:Nat) (news:List Int) (hx:a.eval x=.slice (some ad) m c) (hl:news.length=m)
  (hnews:∀ j,j<m→w.cell? (ad.add j)=some (.int .u8 (news.getD j 0))) (hb:xs.length+m≤1099511627776) (hB:B≤w.heap.size)
  (hK:∀ v' w',Own w' B v' (xs++news)→Below B w w'→w.grownBy w' v.ownBlock→K (a.put o.dst v') w') :
  o.wp Tryz.prog a w K Q:=by
 obtain⟨i0,hi,hz0,hz1,hz2⟩:=info_parts Tryz.infoU8'
 have hbase:=hown.base
 refine wp_append_own w s x 22 hop B 5 i0 (.int .u8 0) 1 1 Tryz.underlying22 hi hz0 hz1 hz2 rfl (by decide) v xs.length _ hs hown.1 ad m c (news.map (Value.int .u8)) hx (by simp[hl]) ?_ (ints_oneCell _ _) (by unfold maxLen;omega) (by omega) hB ?_
 ·intro j u hu;have hj:j<news.length:=by have:=(List.getElem?_eq_some_iff.1 hu).1;simpa using this
  rw[hnews j (by omega)];simp[hj] at hu;simp[hj,hu]
 ·intro v' w' h1 h2 h3;obtain⟨g,c0,hv,hBg,_,_⟩:=hbase;have hbel:Below B w w':=(Below.refl _ _).grown h2 hB (fun k hk=>by rw[hv] at hk;simp[Value.ownBlock] at hk;omega);refine hK v' w' ⟨?_,?_⟩ hbel h2
  ·rw[List.map_append,List.length_append,hl];exact h1
  ·rcases h1.2 with⟨h',_⟩|⟨g',c',cur,h',_⟩
   ·exact absurd (h3.1 h').1 (by rw[hv];simp)
   ·exact⟨g',c',by rw[h',List.length_append,hl]⟩
theorem below_new3 (w:World) (o:Obj):Below w.heap.size w (w.alloc o):=(Below.refl _ _).alloc (Nat.le_refl _) _
theorem Own.grow2 {w w':World} {B:Nat} {v:Value} {zs:List Int} (h:Own w B v zs) (hb:Below w.heap.size w w'):Own w' B v zs:=by
 refine⟨⟨h.1.1,?_⟩,h.2⟩
 rcases h.1.2 with h'|⟨g,c,cur,h1,h2,h3,h4⟩
 ·exact .inl h'
 ·exact .inr ⟨g,c,cur,h1,h2,by rw[hb.block g (Array.getElem?_eq_some_iff.1 h3).1];exact h3,h4⟩
def GBy (B:Nat) (u2:Value) (gy cyy k:Nat) (d:Int) (bs:List Int):Nat→(Nat→Bool)→World→Value→Prop
 |0,_,_,v=>v=u2
 |1,_,_,v=>v=.slice (some ⟨gy,0,none⟩) 16 cyy
 |2,_,_,v=>v=.int .i64 k
 |3,_,_,v=>v=.pointer (some ⟨gy,k,none⟩)
 |4,_,_,v=>v=.int .i64 d
 |5,_,_,v=>v=.int .i64 (d%256)
 |6,_,_,v=>v=.int .u8 (d%256)
 |7,_,_,v=>v=.slice (some ⟨gy,0,none⟩) 16 cyy
 |8,_,_,v=>v=.int .i64 k
 |9,_,_,v=>v=.pointer (some ⟨gy,k,none⟩)
 |10,_,_,v=>v=.int .i64 d
 |11,_,_,v=>v=.int .i64 (d/256)
 |12,_,_,v=>v=.int .u8 (d/256)
 |13,L,w,v=>L 14=false→∃ g',v=.slice (some ⟨g',0,none⟩) 2 2∧g'<w.heap.size∧w.cell? ⟨g',0,none⟩=some (.int .u8 (d%256))∧w.cell? ⟨g',1,none⟩=some (.int .u8 (d/256))
 |14,_,w,v=>Own w B v (bs++[d%256,d/256])
 |_,_,_,_=>True
theorem GBy_stab (B:Nat) (u2:Value) (gy cyy k:Nat) (d:Int) (bs:List Int) (j:Nat) (L:Nat→Bool) (w w':World) (i:Nat) (v:Value) (hm:i≠14→Below w.heap.size w w') (hij:i≠j) (hL:L i=false) (h:GBy B u2 gy cyy k d bs j L w v):GBy B u2 gy cyy k d bs j (updK L i) w' v:=by
 unfold GBy at *
 split at h<;>try exact h
 ·intro h14;have hi:i≠14:=fun e=>by subst e;simp[updK] at h14
  have hL14:L 14=false:=by simpa[updK,Ne.symm hi] using h14
  obtain⟨g',e,hg,c0,c1⟩:=h hL14;have hb:=hm hi;exact⟨g',e,by have:=hb.size;omega,by rw[hb.cell (p:=⟨g',0,none⟩) hg];exact c0,by rw[hb.cell (p:=⟨g',1,none⟩) hg];exact c1⟩
 ·exact h.grow2 (hm (fun e=>hij e))
end Go.Proofs.YtapejbpgdjbjjaaGreatDoor
