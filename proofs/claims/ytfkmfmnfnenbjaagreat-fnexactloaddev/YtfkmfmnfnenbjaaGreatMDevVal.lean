import Derived.Test.YtfkmfmnfnenbjaaGreatMReg
import Derived.Test.YtfkmfmnfnenbjaaGreatMRowB
import Derived.Deep.AppendLies
namespace Go.Proofs.YtfkmfmnfnenbjaaGreat
open Go.ChangeShapes Go.WideShapes Go.ChangeAt Go.RowKit
set_option linter.unusedVariables false
def pOk (S:Nat) (p:PD):Prop:=0≤p.1∧p.1<(S:Int)∧p.2.length=64
def vBase (L m:Nat) (f:Int):Prop:=L%64=0∧8≤L/64∧L/64≤256∧m≤1000∧-1≤f∧f≤1000000
def validB (L:Nat) (ps:List PD) (f:Int):Bool:=@decide (vBase L ps.length f) (by unfold vBase;infer_instance) && ps.all (fun p=>@decide (pOk (L/64) p) (by unfold pOk;infer_instance))
theorem validB_no {L:Nat} {ps:List PD} {f:Int} (h:¬ vBase L ps.length f):validB L ps f=false:=by unfold validB;simp[h]
theorem validB_bad {L:Nat} {ps:List PD} {f:Int} {k:Nat} (hk:k<ps.length) (h:¬ pOk (L/64) (ps.getD k (0,[]))):validB L ps f=false:=by
 unfold validB
 rw[Bool.and_eq_false_iff];right
 rw[List.all_eq_false]
 refine⟨ps[k],List.getElem_mem hk,?_⟩
 simpa[hk] using h
theorem validB_yes {L:Nat} {ps:List PD} {f:Int} (h:vBase L ps.length f) (h':∀ i,i<ps.length→pOk (L/64) (ps.getD i (0,[]))):validB L ps f=true:=by
 unfold validB
 rw[Bool.and_eq_true]
 refine⟨by simpa using h,?_⟩
 rw[List.all_eq_true]
 intro p hp
 obtain⟨k,hk,rfl⟩:=List.mem_iff_getElem.1 hp
 simpa[hk] using h' k hk
theorem ret_bool {a b:Bool} (h:a=b):Ending.returned (.bool a)=.returned (.bool b):=by rw[h]
set_option maxHeartbeats 400000 in
theorem sval_any (v:Value) (zs:List Int) (ps:List PD) (f:Int) (d:Bool) (w:World) (h:DAt w v zs ps f d) (hz:zs.length≤1048576) (hn:ps.length≤1048576) (hps:∀ i,(ps.getD i (0,[])).2.length≤1048576) :
  Calls Tryz.prog 15 #[v] w fun e w'=>e=.returned (.bool (validB zs.length ps f))∧Below w.heap.size w w':=by
 obtain⟨a,c,x,cx,rfl,hA,hP,_⟩:=h
 generalize zs.length=L at *
 by_cases hb:vBase L ps.length f
 ·obtain⟨b1,b2,b3,b4,b5,b6⟩:=hb;have HP:=hP;generalize hm:ps.length=m at *;have hB:=((Below.refl w.heap.size w).alloc (Nat.le_refl _) (.cells #[.slice a L c,.slice x m cx,.int .i64 f,.bool d] 40)).alloc (by simp) (.cells #[.slice a L c,.slice x m cx,.int .i64 f,.bool d] 40);have P2:=hP.below hB;have HB:Hid _:=hB;have HP2:Hid _:=P2;clear hB P2 hP HP hA;have t1:((L:Int)%64 != 0)=false:=by simp;omega
  have t2:¬ ((L:Int)/64<8):=by omega
  have t3:¬ (256<(L:Int)/64):=by omega
  have t4:¬ (1000<(m:Int)):=by omega
  have t5:¬ (f < -1):=by omega
  have t6:¬ (1000000<f):=by omega
  go_enter Tryz.func15,Tryz.ntmps15;go_wp2
  go_loop [4] (fun i=>∃ k:Nat,k≤m∧i=.int .i64 k∧∀ i,i<k→pOk (L/64) (ps.getD i (0,[]))) (fun i=>m-(intOf i).toNat)
  case atStart=>exact⟨0,Nat.zero_le _,rfl,fun i hi=>by omega⟩
  case round=>
   obtain⟨k,hk,rfl,hall⟩:=hrel;by_cases hlt:k<m
   ·obtain⟨b,off,rfl,hbl,hc⟩:=PAt.get HP2.out (by omega);obtain⟨y,cy,g1,g2,g3⟩:=hc k (by omega);have HG:Hid _:=hall;clear hall hc;have hp:=hps k;have HQ:Hid (∀ s z,(ps.getD k (0,[])).1=s→(ps.getD k (0,[])).2.length=z→(pOk (L/64) (ps.getD k (0,[]))↔(0≤s∧s<((L/64:Nat):Int)∧z=64))):=by
     rintro _ _ rfl rfl;exact Iff.rfl
    have HQ':Hid _:=HQ.out _ _ rfl rfl;clear HQ;generalize (ps.getD k (0,[])).1=s at *;generalize (ps.getD k (0,[])).2.length=z at *;go_wp2;all_goals first
     |(go_ret
       refine⟨ret_bool (validB_bad (k:=k) (by omega) ?_).symm,HB.out⟩
       rw[HQ'.out]
       rintro⟨u1,u2,u3⟩
       subst u3
       first|omega|(simp at *;omega))
     |(rename_i hgood
       refine⟨⟨k+1,by omega,by go_num,fun i hi=>?_⟩,by simp[intOf];omega⟩
       by_cases e:i=k
       · subst e
         rw[HQ'.out]
         have h64:((z:Int) != 64)=false:=hgood.2
         simp at h64
         omega
       · exact HG.out i (by omega))
   ·have hkm:k=m:=by omega
    subst hkm;go_wp2
    go_ret
    exact⟨ret_bool (validB_yes (by rw[hm];exact⟨b1,b2,b3,b4,b5,b6⟩) (by rw[hm];exact hall)).symm,HB.out⟩
 ·have hv:=validB_no hb;generalize hm:ps.length=m at *;have HV:Hid _:=hv;have HB:Hid _:=hb;clear hv hb hP hA;go_enter Tryz.func15,Tryz.ntmps15;go_wp2;all_goals first
   |(go_ret;exact⟨ret_bool HV.out.symm,((Below.refl w.heap.size w).alloc (Nat.le_refl _) _).alloc (by simp) _⟩)
   |(exfalso;apply HB.out;unfold vBase;omega)
end Go.Proofs.YtfkmfmnfnenbjaaGreat
namespace Go.Proofs.YtfkmfmnfnenbjaaGreat
open Go.ChangeShapes Go.WideShapes Go.ChangeAt Go.RowKit
set_option linter.unusedVariables false
def hasS (L:Nat) (s:Int):Bool:=decide (0≤s∧s<((L/64:Nat):Int))
set_option maxHeartbeats 400000 in
theorem has_any (g:Nat) (a x:Option Addr) (L c m cx:Nat) (f s:Int) (d:Bool) (w:World) (h:w.heap[g]?=some (.cells #[.slice a L c,.slice x m cx,.int .i64 f,.bool d] 40 (0,0))) (hL:L≤1048576) :
  Calls Tryz.prog 52 #[.pointer (some ⟨g,0,none⟩),.int .i64 s] w fun e w'=>e=.returned (.bool (hasS L s))∧w'=w:=by
 have HD:Hid (hasS L s=decide (0≤s∧s<((L/64:Nat):Int))):=rfl
 have c0:=cell_of_row w g 0 _ _ _ h
 simp at c0
 clear h
 go_enter Tryz.func52,Tryz.ntmps52
 go_wp2
 all_goals(go_ret;refine⟨ret_bool ?_,rfl⟩;rw[HD.out];simp;try omega)
set_option maxHeartbeats 400000 in
theorem ival_any (v:Value) (zs:List Int) (ps:List PD) (f:Int) (d:Bool) (w:World) (h:DAt w v zs ps f d) (hz:zs.length≤1048576) (hn:ps.length≤1048576) (hps:∀ i,(ps.getD i (0,[])).2.length≤1048576) :
  Calls Tryz.prog 23 #[v] w fun e w'=>e=.returned (.bool (validB zs.length ps f))∧Below w.heap.size w w':=by
 obtain⟨a,c,x,cx,rfl,hA,hP,_⟩:=h
 generalize zs.length=L at *
 by_cases hb:vBase L ps.length f
 ·obtain⟨b1,b2,b3,b4,b5,b6⟩:=hb;have HP:=hP;generalize hm:ps.length=m at *;have hB:=(Below.refl w.heap.size w).alloc (Nat.le_refl _) (.cells #[.slice a L c,.slice x m cx,.int .i64 f,.bool d] 40);have P2:=hP.below hB;have HB:Hid _:=hB;have HP2:Hid _:=P2;clear hB P2 hP HP hA;have t1:((L:Int)%64 != 0)=false:=by simp;omega
  have t2:¬ ((L:Int)<512):=by omega
  have t3:¬ (16384<(L:Int)):=by omega
  have t4:¬ (1000<(m:Int)):=by omega
  have t5:¬ (f < -1):=by omega
  have t6:¬ (1000000<f):=by omega
  go_enter Tryz.func23,Tryz.ntmps23;go_wp2;have n0:(w.alloc (.cells #[.slice a L c,.slice x m cx,.int .i64 f,.bool d] 40)).heap[w.heap.size]?=some (.cells #[.slice a L c,.slice x m cx,.int .i64 f,.bool d] 40 (0,0)):=heap_alloc_new w _;have hW:=HB.out;have hP2:=HP2.out;have hz0:w.heap.size<(w.alloc (.cells #[.slice a L c,.slice x m cx,.int .i64 f,.bool d] 40)).heap.size:=by simp
  clear HB HP2;generalize (w.alloc (.cells #[.slice a L c,.slice x m cx,.int .i64 f,.bool d] 40))=W at *
  go_loopw [39] (fun i wr=>∃ k:Nat,k≤m∧i=.int .i64 k∧(∀ i,i<k→pOk (L/64) (ps.getD i (0,[])))∧Below W.heap.size W wr) (fun i _=>m-(intOf i).toNat)
  case atStart=>exact⟨0,Nat.zero_le _,rfl,fun i hi=>by omega,Below.refl _ _⟩
  case round=>
   obtain⟨k,hk,rfl,hall,hbel⟩:=hrel;by_cases hlt:k<m
   ·obtain⟨b,off,rfl,hbl,hc⟩:=PAt.get (PAt.below hP2 hbel) (by omega);obtain⟨y,cy,g1,g2,g3⟩:=hc k (by omega);have HG:Hid _:=hall;clear hall hc;have hp:=hps k;have HQ:Hid (∀ s z,(ps.getD k (0,[])).1=s→(ps.getD k (0,[])).2.length=z→(pOk (L/64) (ps.getD k (0,[]))↔(0≤s∧s<((L/64:Nat):Int)∧z=64))):=by
     rintro _ _ rfl rfl;exact Iff.rfl
    have HQ':Hid _:=HQ.out _ _ rfl rfl;clear HQ;generalize (ps.getD k (0,[])).1=s at *;generalize (ps.getD k (0,[])).2.length=z at *;have hb1:=(Below.refl wr.heap.size wr).alloc (Nat.le_refl _) (.cells #[.int .i64 s,.slice y z cy] 83);have n1:(wr.alloc (.cells #[.int .i64 s,.slice y z cy] 83)).heap[w.heap.size]?=some (.cells #[.slice a L c,.slice (some ⟨b,off,none⟩) m cx,.int .i64 f,.bool d] 40 (0,0)):=by
     rw[hb1.block _ (by have:=hbel.size;omega),hbel.block _ hz0];exact n0
    have HN1:Hid _:=n1;have HBL:Hid (Below W.heap.size W (wr.alloc (.cells #[.int .i64 s,.slice y z cy] 83))):=hbel.trans (hb1.mono hbel.size);clear n1 hbel hb1;by_cases hs:hasS L s=true
    ·by_cases h64:z=64
     ·subst h64;go_wp2_with (go_at_call 52;refine(has_any w.heap.size _ _ _ _ _ _ _ _ _ _ HN1.out hz).mono ?_;rintro e w1 ⟨rfl,rfl⟩;rw[hs]);go_roundw
      case rel=>
       refine⟨k+1,by omega,by go_num,fun i hi=>?_,HBL.out⟩;by_cases e:i=k
       ·subst e;rw[HQ'.out];unfold hasS at hs;simp at hs;simp;omega
       ·exact HG.out i (by omega)
      case measure=>simp[intOf];omega
     ·have h64':((z:Int) != 64)=true:=by rw[bne_iff_ne];omega
      go_wp2_with (go_at_call 52;refine(has_any w.heap.size _ _ _ _ _ _ _ _ _ _ HN1.out hz).mono ?_;rintro e w1 ⟨rfl,rfl⟩;rw[hs])
      go_ret
      refine⟨ret_bool (validB_bad (k:=k) (by omega) ?_).symm,hW.trans (HBL.out.mono (by omega))⟩;rw[HQ'.out];omega
    ·have hs':hasS L s=false:=by simpa using hs
     clear hs;go_wp2_with (go_at_call 52;refine(has_any w.heap.size _ _ _ _ _ _ _ _ _ _ HN1.out hz).mono ?_;rintro e w1 ⟨rfl,rfl⟩;rw[hs'])
     go_ret
     refine⟨ret_bool (validB_bad (k:=k) (by omega) ?_).symm,hW.trans (HBL.out.mono (by omega))⟩;rw[HQ'.out];unfold hasS at hs';simp at hs';omega
   ·have hkm:k=m:=by omega
    subst hkm;go_wp2
    go_ret
    exact⟨ret_bool (validB_yes (by rw[hm];exact⟨b1,b2,b3,b4,b5,b6⟩) (by rw[hm];exact hall)).symm,hW.trans (hbel.mono (by omega))⟩
 ·have hv:=validB_no hb;generalize hm:ps.length=m at *;have HV:Hid _:=hv;have HB:Hid _:=hb;clear hv hb hP hA;go_enter Tryz.func23,Tryz.ntmps23;go_wp2;all_goals first
   |(go_ret;exact⟨ret_bool HV.out.symm,((Below.refl w.heap.size w).alloc (Nat.le_refl _) _)⟩)
   |(exfalso;apply HB.out;unfold vBase;omega)
end Go.Proofs.YtfkmfmnfnenbjaaGreat
namespace Go.Proofs.YtfkmfmnfnenbjaaGreat
open Go.ChangeShapes Go.WideShapes Go.ChangeAt Go.RowKit
set_option linter.unusedVariables false
theorem Tryz.infoU8':(Tryz.prog.info? 5).map (fun i=>(i.zero,i.size,i.bytes))=some (some (.int .u8 0),1,1):=by kernel_rfl
def Part (w:World) (v:Value) (zs:List Int):Prop:=
 ∃ b o c,v=.slice (some ⟨b,o,none⟩) zs.length c∧b<w.heap.size∧∀ i,i<zs.length→w.cell? ⟨b,o+i,none⟩=some (.int .u8 (zs.getD i 0))
def Own (w:World) (B:Nat) (v:Value) (zs:List Int):Prop:=
 w.ownsRow B 5 1 v zs.length (zs.map (Value.int .u8))∧∃ g c,v=.slice (some ⟨g,0,none⟩) zs.length c
theorem Own.base {w:World} {B:Nat} {v:Value} {zs:List Int} (h:Own w B v zs):∃ g c,v=.slice (some ⟨g,0,none⟩) zs.length c∧B≤g∧g<w.heap.size∧zs.length≤c:=by
 obtain⟨h,g,c,rfl⟩:=h
 rcases h.2 with⟨h',_⟩|⟨g',c',cur,h',hb,hh,hc,_⟩
 ·cases h'
 ·cases h';exact⟨g,c,rfl,hb,(Array.getElem?_eq_some_iff.1 hh).1,hc⟩
theorem Own.part {w:World} {B:Nat} {v:Value} {zs:List Int} (h:Own w B v zs):Part w v zs:=by
 obtain⟨g,c,rfl,hb,hg,hc⟩:=h.base
 refine⟨g,0,c,rfl,hg,fun i hi=>?_⟩
 rw[Nat.zero_add,h.1.cellAt i (by omega)];simp[hi]
theorem Part.below {w w':World} {v:Value} {zs:List Int} (h:Part w v zs) (hb:Below w.heap.size w w'):Part w' v zs:=by
 obtain⟨b,o,c,rfl,hl,hc⟩:=h
 exact⟨b,o,c,rfl,by have:=hb.size;omega,fun i hi=>by rw[hb.cell (p:=⟨b,o+i,none⟩) hl];exact hc i hi⟩
theorem Own.empty (w:World) (B:Nat) (hB:B≤w.heap.size):Own (w.alloc (.cells #[] 5)) B (.slice (some ⟨w.heap.size,0,none⟩) 0 0) []:=
 ⟨World.ownsRow_lit w #[] 0 hB (by simp) (by simp),_,_,rfl⟩
theorem Own.alloc {w:World} {B:Nat} {v:Value} {zs:List Int} (h:Own w B v zs) (o:Obj):Own (w.alloc o) B v zs:=⟨h.1.alloc _,h.2⟩
theorem wpList_app (w:World) {ops:Array Oper} {rest:List Oper} {o:Oper} {a:Act} {Q:Exit→Act→World→Prop}
  (hg:o.guard=none) (s x:Operand) (hop:o.op=Op.call { callee:=Callee.builtin Builtin.append,args:=#[s,x],argTypes:=#[22,22] })
  (B:Nat) (v:Value) (xs:List Int) (hs:a.eval s=v) (hown:Own w B v xs) (ad:Addr) (m c:Nat) (news:List Int) (hx:a.eval x=.slice (some ad) m c) (hl:news.length=m)
  (hnews:∀ j,j<m→w.cell? (ad.add j)=some (.int .u8 (news.getD j 0))) (hb:xs.length+m≤1099511627776) (hB:B≤w.heap.size)
  (hK:∀ v' w',Own w' B v' (xs++news)→Below B w w'→w.grownBy w' v.ownBlock→wpList Tryz.prog ops Q rest (a.put o.dst v') w') :
  wpList Tryz.prog ops Q (o::rest) a w:=by
 obtain⟨i0,hi,hz0,hz1,hz2⟩:=info_parts Tryz.infoU8'
 have hbase:=hown.base
 refine wpList_append_own w hg s x 22 hop B 5 i0 (.int .u8 0) 1 1 Tryz.underlying22 hi hz0 hz1 hz2 rfl (by decide) v xs.length _ hs hown.1 ad m c (news.map (Value.int .u8)) hx (by simp[hl]) ?_ (ints_oneCell _ _) (by unfold maxLen;omega) (by omega) hB ?_
 ·intro j u hu;have hj:j<news.length:=by have:=(List.getElem?_eq_some_iff.1 hu).1;simpa using this
  rw[hnews j (by omega)];simp[hj] at hu;simp[hj,hu]
 ·intro v' w' h1 h2 h3;obtain⟨g,c0,hv,hBg,_,_⟩:=hbase;have hbel:Below B w w':=(Below.refl _ _).grown h2 hB (fun k hk=>by rw[hv] at hk;simp[Value.ownBlock] at hk;omega);refine hK v' w' ⟨?_,?_⟩ hbel h2
  ·rw[List.map_append,List.length_append,hl];exact h1
  ·rcases h1.2 with⟨h',_⟩|⟨g',c',cur,h',_⟩
   ·exact absurd (h3.1 h').1 (by rw[hv];simp)
   ·exact⟨g',c',by rw[h',List.length_append,hl]⟩
end Go.Proofs.YtfkmfmnfnenbjaaGreat
namespace Go.Proofs.YtfkmfmnfnenbjaaGreat
open Go.ChangeShapes Go.WideShapes Go.ChangeAt Go.RowKit
set_option linter.unusedVariables false
set_option maxHeartbeats 400000 in
theorem zeros_any (n:Int) (w:World) (h0:0≤n) (h1:n≤1048576) :
  Calls Tryz.prog 103 #[.int .i64 n] w fun e w'=>∃ v,e=.returned v∧Own w' w.heap.size v (List.replicate n.toNat 0)∧Below w.heap.size w w':=by
 obtain⟨n,rfl⟩:=Int.eq_ofNat_of_zero_le h0
 go_enter Tryz.func103,Tryz.ntmps103
 go_wp2
 go_loopw [3,4] (fun v i wr=>∃ k:Nat,k≤n∧i=.int .i64 k∧Own wr w.heap.size v (List.replicate k 0)∧Below w.heap.size w wr) (fun _ i _=>n-(intOf i).toNat)
 case atStart=>exact⟨0,Nat.zero_le _,rfl,Own.empty _ _ (Nat.le_refl _),(Below.refl _ _).alloc (Nat.le_refl _) _⟩
 case round=>
  obtain⟨k,hk,rfl,hown,hbel⟩:=hrel;by_cases hlt:k<n
  ·have hsz:=hbel.size;go_wp2_with (at_builtin;refine wpList_app _ rfl _ _ rfl w.heap.size _ _ rfl (hown.alloc _) ⟨wr.heap.size,0,none⟩ 1 1 [0] rfl rfl ?c1 ?c2 ?c3 ?_)
   case c1=>intro j hj;obtain rfl:j=0:=by omega
            simp[Addr.add]
   case c2=>simp;omega
   case c3=>simp;omega
   intro v' w1 hown' hbel' _;have HO:Hid (Own w1 w.heap.size v' (List.replicate (k+1) 0)):=by rw[List.replicate_succ'];exact hown'
   have HB:Hid (Below w.heap.size w w1):=(hbel.alloc (by omega) _).trans hbel';clear hown hown' hbel hbel';go_wp2;go_roundw
   case rel=>exact⟨k+1,by omega,by go_num,HO.out,HB.out⟩
   case measure=>simp[intOf];omega
  ·have hkn:k=n:=by omega
   subst hkn;have HO:Hid _:=hown;clear hown;go_wp2
   go_ret
   exact⟨_,rfl,HO.out,hbel⟩
end Go.Proofs.YtfkmfmnfnenbjaaGreat
