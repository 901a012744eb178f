import Derived.Test.YtjdhhgaelgemcaaGreatDoorMRowB
import Derived.Deep.AppendLies
import Derived.Test.YtjdhhgaelgemcaaGreatDoorMU8i
namespace Go.Proofs.YtjdhhgaelgemcaaGreatDoor
open Go.ChangeShapes Go.WideShapes Go.ChangeAt Go.RowKit
set_option linter.unusedVariables false
theorem Tryz.infoU8':(Tryz.prog.info? 5).map (fun i=>(i.zero,i.size,i.bytes))=some (some (.int .u8 0),1,1):=by kernel_rfl
def Part (w:World) (v:Value) (zs:List Int):Prop:=
 ∃ b o c,v=.slice (some ⟨b,o,none⟩) zs.length c∧b<w.heap.size∧∀ i,i<zs.length→w.cell? ⟨b,o+i,none⟩=some (.int .u8 (zs.getD i 0))
def Own (w:World) (B:Nat) (v:Value) (zs:List Int):Prop:=
 w.ownsRow B 5 1 v zs.length (zs.map (Value.int .u8))∧∃ g c,v=.slice (some ⟨g,0,none⟩) zs.length c
theorem Own.base {w:World} {B:Nat} {v:Value} {zs:List Int} (h:Own w B v zs):∃ g c,v=.slice (some ⟨g,0,none⟩) zs.length c∧B≤g∧g<w.heap.size∧zs.length≤c:=by
 obtain⟨h,g,c,rfl⟩:=h;rcases h.2 with⟨h',_⟩|⟨g',c',cur,h',hb,hh,hc,_⟩
 ·cases h'
 ·cases h';exact⟨g,c,rfl,hb,(Array.getElem?_eq_some_iff.1 hh).1,hc⟩
theorem Own.part {w:World} {B:Nat} {v:Value} {zs:List Int} (h:Own w B v zs):Part w v zs:=by
 obtain⟨g,c,rfl,hb,hg,hc⟩:=h.base;refine⟨g,0,c,rfl,hg,fun i hi=>?_⟩;rw[Nat.zero_add,h.1.cellAt i (by omega)];simp[hi]
theorem Own.empty (w:World) (B:Nat) (hB:B≤w.heap.size):Own (w.alloc (.cells #[] 5)) B (.slice (some ⟨w.heap.size,0,none⟩) 0 0) []:=
 ⟨World.ownsRow_lit w #[] 0 hB (by simp) (by simp),_,_,rfl⟩
theorem Own.alloc {w:World} {B:Nat} {v:Value} {zs:List Int} (h:Own w B v zs) (o:Obj):Own (w.alloc o) B v zs:=⟨h.1.alloc _,h.2⟩
theorem wpList_app (w:World) {ops:Array Oper} {rest:List Oper} {o:Oper} {a:Act} {Q:Exit→Act→World→Prop}
  (hg:o.guard=none) (s x:Operand) (hop:o.op=Op.call { callee:=Callee.builtin Builtin.append,args:=#[s,x],argTypes:=#[26,26] })
  (B:Nat) (v:Value) (xs:List Int) (hs:a.eval s=v) (hown:Own w B v xs) (ad:Addr) (m c:Nat) (news:List Int) (hx:a.eval x=.slice (some ad) m c) (hl:news.length=m)
  (hnews:∀ j,j<m→w.cell? (ad.add j)=some (.int .u8 (news.getD j 0))) (hb:xs.length+m≤1099511627776) (hB:B≤w.heap.size)
  (hK:∀ v' w',Own w' B v' (xs++news)→Below B w w'→w.grownBy w' v.ownBlock→wpList Tryz.prog ops Q rest (a.put o.dst v') w') :
  wpList Tryz.prog ops Q (o::rest) a w:=by
 obtain⟨i0,hi,hz0,hz1,hz2⟩:=info_parts Tryz.infoU8';have hbase:=hown.base;refine wpList_append_own w hg s x 26 hop B 5 i0 (.int .u8 0) 1 1 Tryz.underlying26 hi hz0 hz1 hz2 rfl (by decide) v xs.length _ hs hown.1 ad m c (news.map (Value.int .u8)) hx (by simp[hl]) ?_ (ints_oneCell _ _) (by unfold maxLen;omega) (by omega) hB ?_
 ·intro j u hu;have hj:j<news.length:=by have:=(List.getElem?_eq_some_iff.1 hu).1;simpa using this
  rw[hnews j (by omega)];simp[hj] at hu;simp[hj,hu]
 ·intro v' w' h1 h2 h3;obtain⟨g,c0,hv,hBg,_,_⟩:=hbase;have hbel:Below B w w':=(Below.refl _ _).grown h2 hB (fun k hk=>by rw[hv] at hk;simp[Value.ownBlock] at hk;omega);refine hK v' w' ⟨?_,?_⟩ hbel h2
  ·rw[List.map_append,List.length_append,hl];exact h1
  ·rcases h1.2 with⟨h',_⟩|⟨g',c',cur,h',_⟩
   ·exact absurd (h3.1 h').1 (by rw[hv];simp)
   ·exact⟨g',c',by rw[h',List.length_append,hl]⟩
def cp (zs:List Int) (k:Nat):List Int:=zs.take k++List.replicate (zs.length-k) 0
theorem cp_zero (zs:List Int):cp zs 0=List.replicate zs.length 0:=by simp[cp]
theorem cp_all (zs:List Int):cp zs zs.length=zs:=by simp[cp]
theorem cp_len (zs:List Int) (k:Nat) (h:k≤zs.length):(cp zs k).length=zs.length:=by simp[cp];omega
theorem cp_succ (zs:List Int) (k:Nat) (h:k<zs.length):(cp zs k).set k (zs.getD k 0)=cp zs (k+1):=by
 unfold cp;have hl:(zs.take k).length=k:=by simp;omega
 rw[take_snoc zs k h,List.set_append_right _ _ (by omega),hl,Nat.sub_self];have:zs.length-k=(zs.length-(k+1))+1:=by omega
 rw[this,List.replicate_succ,List.set_cons_zero];simp
set_option maxHeartbeats 400000 in
theorem toB_any (a:Option Addr) (n cap:Nat) (zs:List Int) (w:World) (hn:zs.length=n) (hm:n≤1048576) (ha:At .u8 w a zs) :
  Calls Tryz.prog 8 #[.slice a n cap] w fun e w'=>e=.returned (.slice (some ⟨w.heap.size,0,none⟩) n n)∧
   w'.ownsRow w.heap.size 5 1 (.slice (some ⟨w.heap.size,0,none⟩) n n) n (zs.map (Value.int .u8))∧Below w.heap.size w w':=by
 obtain⟨i0,hi,hz0,hz1,hz2⟩:=info_parts Tryz.infoU8;have HI:Hid (i0.bytes=1):=hz2;clear hz2;go_enter Tryz.func8,Tryz.ntmps8;go_wp2_with (first
  |(at_make;refine wpList_make_full _ rfl _ _ 26 rfl w.heap.size 5 i0 (.int .u8 0) 1 Tryz.underlying26 hi hz0 hz1 _ _ _ _ n rfl rfl rfl rfl ?c1 ?c2 ?c3 ?_)
  |fail)
 case c1=>rw[HI.out];omega
 case c2=>unfold maxLen;omega
 case c3=>exact Nat.le_refl _
 intro w1 hown hgrow;have hb1:Below w.heap.size w w1:=(Below.refl _ _).grown hgrow (Nat.le_refl _) (by simp);have hown0:w1.ownsRow w.heap.size 5 1 (.slice (some ⟨w.heap.size,0,none⟩) n n) n ((cp zs 0).map (Value.int .u8)):=by
  have e:(madeCells #[Value.int IntKind.u8 0] n).toList=(cp zs 0).map (Value.int .u8):=by
   rw[cp_zero];simp only[toList_madeCells_one,List.map_replicate,hn]
  rw[←e];exact hown
 clear hown hgrow;go_wp2
 go_loopw [4] (fun i wr=>∃ k:Nat,k≤n∧i=.int .i64 k∧wr.ownsRow w.heap.size 5 1 (.slice (some ⟨w.heap.size,0,none⟩) n n) n ((cp zs k).map (Value.int .u8))∧Below w.heap.size w wr) (fun i _=>n-(intOf i).toNat)
 case atStart=>exact⟨0,Nat.zero_le _,rfl,hown0,hb1⟩
 case round=>
  obtain⟨k,hk,rfl,hown,hbel⟩:=hrel;by_cases hlt:k<n
  ·obtain⟨b,off,rfl,hb,hc⟩:=ha.get (by omega);have hck:wr.cell? ⟨b,off+k,none⟩=some (.int .u8 (zs.getD k 0)):=by rw[hbel.cell (p:=⟨b,off+k,none⟩) hb];exact hc k (by omega)
   have hst:=hown.stored k (.int .u8 (zs.getD k 0));have hmem:wr.cell? ⟨w.heap.size,k,none⟩=some (.int .u8 ((cp zs k).getD k 0)):=by
    rw[hown.cellAt k (by omega)];have:=cp_len zs k (by omega);simp[show k<(cp zs k).length by omega]
   have hfz:=hown.frozenAt k;rw[←List.map_set,cp_succ zs k (by omega)] at hst;have HX:=hst.1;have HB:Below w.heap.size w (wr.setCell ⟨w.heap.size,k,none⟩ (.int .u8 (zs.getD k 0))):=hbel.setCell (Nat.le_refl _) _;clear hst hown hc ha hbel hown0 hb1;generalize zs.getD k 0=x at *;generalize (cp zs k).getD k 0=y at *;have HXX:Hid _:=HX;have HBB:Hid _:=HB;clear HX HB;go_wp2;go_roundw
   case rel=>exact⟨k+1,by omega,by go_num,HXX.out,HBB.out⟩
   case measure=>simp[intOf];omega
  ·have hkn:k=zs.length:=by omega
   have HO:Hid (wr.ownsRow w.heap.size 5 1 (.slice (some ⟨w.heap.size,0,none⟩) n n) n (zs.map (Value.int .u8))):=by rw[hkn,cp_all] at hown;exact hown
   clear hown;go_wp2
   go_ret
   exact⟨rfl,HO.out,hbel⟩
set_option maxHeartbeats 400000 in
theorem eqB_any (a a':Option Addr) (n cap cap':Nat) (zs:List Int) (w:World) (hn:zs.length=n) (hm:n≤1048576) (ha:At .u8 w a zs) (ha':At .u8 w a' zs) :
  Calls Tryz.prog 13 #[.slice a n cap,.slice a' n cap'] w fun e w'=>e=.returned (.bool true)∧∃ q,w'=w.drewN q:=by
 have h0:((n:Int) != (n:Int))=false:=by simp
 go_enter Tryz.func13,Tryz.ntmps13;go_wp2
 go_loopw [5] (fun i wr=>∃ k q:Nat,k≤n∧i=.int .i64 k∧wr=w.drewN q) (fun i _=>n-(intOf i).toNat)
 case atStart=>exact⟨0,0,Nat.zero_le _,rfl,rfl⟩
 case round=>
  obtain⟨k,q,hk,rfl,rfl⟩:=hrel;by_cases hlt:k<n
  ·obtain⟨b,off,rfl,hb,hc⟩:=ha.get (by omega);obtain⟨b',off',rfl,hb',hc'⟩:=ha'.get (by omega);have g1:=hc k (by omega);have g2:=hc' k (by omega);generalize zs.getD k 0=x at *;have hx:(x != x)=false:=by simp
   have hlt':(k:Int)<(n:Int):=by omega
   clear hc hc' ha ha';go_wp2
   go_quiet (fail)
   go_wp2;go_roundw
   case rel=>exact⟨k+1,_,by omega,by go_num,rfl⟩
   case measure=>simp[intOf];omega
  ·go_wp2
   go_ret
   exact⟨rfl,q,rfl⟩
end Go.Proofs.YtjdhhgaelgemcaaGreatDoor
namespace Go.Proofs.YtjdhhgaelgemcaaGreatDoor
open Go.ChangeShapes Go.WideShapes Go.ChangeAt Go.RowKit
set_option linter.unusedVariables false
structure KT (k:IntKind) (t s:TypeId) (by':Nat):Prop where
 info:(Tryz.prog.info? t).map (fun i=>(i.zero,i.size,i.bytes))=some (some (.int k 0),1,by')
 und:Tryz.prog.underlying s=some (.slice t)
 pos:by'≠0
 le:by'≤8
def OwnK (k:IntKind) (t:TypeId) (w:World) (B:Nat) (v:Value) (zs:List Int):Prop:=
 w.ownsRow B t 1 v zs.length (zs.map (Value.int k))∧∃ g c,v=.slice (some ⟨g,0,none⟩) zs.length c
variable {k:IntKind} {t s:TypeId} {by':Nat}
theorem OwnK.base {w:World} {B:Nat} {v:Value} {zs:List Int} (h:OwnK k t w B v zs):∃ g c,v=.slice (some ⟨g,0,none⟩) zs.length c∧B≤g∧g<w.heap.size∧zs.length≤c:=by
 obtain⟨h,g,c,rfl⟩:=h;rcases h.2 with⟨h',_⟩|⟨g',c',cur,h',hb,hh,hc,_⟩
 ·cases h'
 ·cases h';exact⟨g,c,rfl,hb,(Array.getElem?_eq_some_iff.1 hh).1,hc⟩
theorem OwnK.at_ {w:World} {B:Nat} {v:Value} {zs:List Int} (h:OwnK k t w B v zs):∃ g c,v=.slice (some ⟨g,0,none⟩) zs.length c∧B≤g∧g<w.heap.size∧At k w (some ⟨g,0,none⟩) zs:=by
 obtain⟨g,c,rfl,hb,hg,hc⟩:=h.base;exact⟨g,c,rfl,hb,hg,.inr ⟨g,0,rfl,hg,fun i hi=>by rw[Nat.zero_add,h.1.cellAt i (by omega)];simp[hi]⟩⟩
theorem OwnK.atS {w:World} {B g n c:Nat} {zs:List Int} (h:OwnK k t w B (.slice (some ⟨g,0,none⟩) n c) zs):At k w (some ⟨g,0,none⟩) zs∧B≤g∧g<w.heap.size:=by
 obtain⟨g',c',e,h1,h2,h3⟩:=h.at_;simp at e;obtain⟨rfl,_⟩:=e;exact⟨h3,h1,h2⟩
theorem OwnK.empty (w:World) (B:Nat) (hB:B≤w.heap.size):OwnK k t (w.alloc (.cells #[] t)) B (.slice (some ⟨w.heap.size,0,none⟩) 0 0) []:=
 ⟨World.ownsRow_lit w #[] 0 hB (by simp) (by simp),_,_,rfl⟩
theorem OwnK.alloc {w:World} {B:Nat} {v:Value} {zs:List Int} (h:OwnK k t w B v zs) (o:Obj):OwnK k t (w.alloc o) B v zs:=⟨h.1.alloc _,h.2⟩
theorem OwnK.lit (w:World) (B:Nat) (zs:List Int) (hB:B≤w.heap.size) (hl:zs.length≤1024):OwnK k t (w.alloc (.cells (zs.map (Value.int k)).toArray t)) B (.slice (some ⟨w.heap.size,0,none⟩) zs.length zs.length) zs:=
 ⟨by
  have:=World.ownsRow_lit w (e:=t) (size:=1) (base:=B) (zs.map (Value.int k)).toArray zs.length hB (by unfold maxLen;omega) (by simp);exact this,_,_,rfl⟩
theorem OwnK.grow {w w':World} {B:Nat} {v:Value} {zs:List Int} (h:OwnK k t w B v zs) (hb:Below w.heap.size w w'):OwnK k t w' B v zs:=by
 refine⟨⟨h.1.1,?_⟩,h.2⟩;rcases h.1.2 with h'|⟨g,c,cur,h1,h2,h3,h4⟩
 ·exact .inl h'
 ·exact .inr ⟨g,c,cur,h1,h2,by rw[hb.block g (Array.getElem?_eq_some_iff.1 h3).1];exact h3,h4⟩
theorem OwnK.lower {w:World} {B B':Nat} {v:Value} {zs:List Int} (h:OwnK k t w B' v zs) (hB:B≤B'):OwnK k t w B v zs:=by
 obtain⟨⟨h1,h2⟩,h3⟩:=h;refine⟨⟨h1,?_⟩,h3⟩;rcases h2 with h|⟨g,c,cur,h4,h5,h6⟩
 ·exact .inl h
 ·exact .inr ⟨g,c,cur,h4,by omega,h6⟩
theorem OwnK.set {w:World} {B:Nat} {g c:Nat} {zs:List Int} {n:Nat} (hn:zs.length=n) (h:OwnK k t w B (.slice (some ⟨g,0,none⟩) n c) zs) (i:Nat) (x:Int) (hi:i<n) :
  w.cell? ⟨g,i,none⟩=some (.int k (zs.getD i 0))∧w.frozen? ⟨g,i,none⟩=false∧OwnK k t (w.setCell ⟨g,i,none⟩ (.int k x)) B (.slice (some ⟨g,0,none⟩) n c) (zs.set i x):=by
 subst hn;refine⟨?_,h.1.frozenAt i,?_,?_⟩
 ·rw[h.1.cellAt i (by omega)];simp[hi]
 ·have:=(h.1.stored i (.int k x)).1;rw[←List.map_set] at this;rw[List.length_set];exact this
 ·rw[List.length_set];exact⟨_,_,rfl⟩
theorem OwnK.cellAt {w:World} {B:Nat} {g c:Nat} {zs:List Int} {n:Nat} (hn:zs.length=n) (h:OwnK k t w B (.slice (some ⟨g,0,none⟩) n c) zs) (i:Nat) (hi:i<n):w.cell? ⟨g,i,none⟩=some (.int k (zs.getD i 0)):=by
 subst hn;rw[h.1.cellAt i (by omega)];simp[hi]
theorem wpList_appK (w:World) {ops:Array Oper} {rest:List Oper} {o:Oper} {a:Act} {Q:Exit→Act→World→Prop} (hk:KT k t s by')
  (hg:o.guard=none) (sx x:Operand) (hop:o.op=Op.call { callee:=Callee.builtin Builtin.append,args:=#[sx,x],argTypes:=#[s,s] })
  (B:Nat) (v:Value) (xs:List Int) (hs:a.eval sx=v) (hown:OwnK k t w B v xs) (ad:Addr) (m c:Nat) (news:List Int) (hx:a.eval x=.slice (some ad) m c) (hl:news.length=m)
  (hnews:∀ j,j<m→w.cell? (ad.add j)=some (.int k (news.getD j 0))) (hb:xs.length+m≤1099511627776) (hB:B≤w.heap.size)
  (hK:∀ v' w',OwnK k t w' B v' (xs++news)→Below B w w'→w.grownBy w' v.ownBlock→wpList Tryz.prog ops Q rest (a.put o.dst v') w') :
  wpList Tryz.prog ops Q (o::rest) a w:=by
 obtain⟨i0,hi,hz0,hz1,hz2⟩:=info_parts hk.info;have hbase:=hown.base;have hp:=hk.pos;have hle:=hk.le;refine wpList_append_own w hg sx x s hop B t i0 (.int k 0) 1 by' hk.und hi hz0 hz1 hz2 rfl (by omega) v xs.length _ hs hown.1 ad m c (news.map (Value.int k)) hx (by simp[hl]) ?_ (ints_oneCell _ _) (by unfold maxLen;omega) ?_ hB ?_
 ·intro j u hu;have hj:j<news.length:=by have:=(List.getElem?_eq_some_iff.1 hu).1;simpa using this
  rw[hnews j (by omega)];simp[hj] at hu;simp[hj,hu]
 ·have:=Nat.mul_le_mul hb hle;omega
 ·intro v' w' h1 h2 h3;obtain⟨g,c0,hv,hBg,_,_⟩:=hbase;have hbel:Below B w w':=(Below.refl _ _).grown h2 hB (fun k hk=>by rw[hv] at hk;simp[Value.ownBlock] at hk;omega);refine hK v' w' ⟨?_,?_⟩ hbel h2
  ·rw[List.map_append,List.length_append,hl];exact h1
  ·rcases h1.2 with⟨h',_⟩|⟨g',c',cur,h',_⟩
   ·exact absurd (h3.1 h').1 (by rw[hv];simp)
   ·exact⟨g',c',by rw[h',List.length_append,hl]⟩
end Go.Proofs.YtjdhhgaelgemcaaGreatDoor
namespace Go.Proofs.YtjdhhgaelgemcaaGreatDoor
set_option linter.unusedVariables false
theorem least_dig {xs:List Int} (h:R xs):∀ i,0≤(carryL (carryL xs)).getD i 0∧(carryL (carryL xs)).getD i 0<65536:=by
 have hc:=cy_bd (C:=2) h.2 (by decide) (by decide) 16;obtain⟨b1,b2⟩:=carry_bd (xs:=xs) (by decide) hc;have h0:=carryL_get xs 0 (by decide);rw[if_pos rfl] at h0;have h0':-76≤(carryL xs).getD 0 0∧(carryL xs).getD 0 0≤65611:=by rw[h0];omega
 clear h0 hc;have h0:=h0';generalize hy:carryL xs=ys at *;have hch:∀ i,(-1≤cy ys (i+1)∧cy ys (i+1)≤1)∧(cy ys (i+1)=1→65536≤ys.getD 0 0)∧(cy ys (i+1)=-1→ys.getD 0 0<0):=by
  intro i
  induction i with
  |zero=>simp only[cy];omega
  |succ i ih=>
   have:=b2 (i+1) (by omega);rw[show i+1+1=(i+1)+1 from rfl,cy];omega
 have h16:(-1≤cy ys 16∧cy ys 16≤1)∧(cy ys 16=1→65536≤ys.getD 0 0)∧(cy ys 16=-1→ys.getD 0 0<0):=hch 15;intro i;by_cases hi:i<16
 ·rw[carryL_get _ _ hi];by_cases hi0:i=0
  ·subst hi0;rw[if_pos rfl,show cy ys 0=0 from rfl];generalize cy ys 16=c at *;omega
  ·rw[if_neg hi0];omega
 ·rw[getD_past (by rw[carryL_len];omega)];omega
theorem carry_id {ys:List Int} (hl:ys.length=16) (h:∀ i,0≤ys.getD i 0∧ys.getD i 0<65536):carryL ys=ys:=by
 have hc:∀ i,cy ys i=0:=fun i=>by
  induction i with
  |zero=>rfl
  |succ i ih=>have:=h i;simp only[cy,ih];omega
 apply list16 (carryL_len _) hl;intro i hi;rw[carryL_get _ _ hi,hc,hc];have:=h i;split<;>omega
theorem dig_of_get {B:Int} {xs:List Int} (h:∀ i,0≤xs.getD i 0∧xs.getD i 0<B):Dig B xs:=by
 intro z hz;obtain⟨i,hi,rfl⟩:=List.mem_iff_getElem.1 hz;have:=h i;simpa[hi] using this
def pD:List Int:=[65517,65535,65535,65535,65535,65535,65535,65535,65535,65535,65535,65535,65535,65535,65535,32767]
theorem pD_val:val 65536 pD=fp:=by decide
theorem pD_dig:∀ i,0≤pD.getD i 0∧pD.getD i 0<65536:=by
 intro i;by_cases h:i<16
 ·have:i=0∨i=1∨i=2∨i=3∨i=4∨i=5∨i=6∨i=7∨i=8∨i=9∨i=10∨i=11∨i=12∨i=13∨i=14∨i=15:=by omega
  rcases this with rfl|rfl|rfl|rfl|rfl|rfl|rfl|rfl|rfl|rfl|rfl|rfl|rfl|rfl|rfl|rfl<;>decide
 ·rw[getD_past (by simp[pD];omega)];decide
theorem pD_get (i:Nat) (h:i<16):pD.getD i 0=if i=0 then 65517 else if i=15 then 32767 else 65535:=by
 have:i=0∨i=1∨i=2∨i=3∨i=4∨i=5∨i=6∨i=7∨i=8∨i=9∨i=10∨i=11∨i=12∨i=13∨i=14∨i=15:=by omega
 rcases this with rfl|rfl|rfl|rfl|rfl|rfl|rfl|rfl|rfl|rfl|rfl|rfl|rfl|rfl|rfl|rfl<;>decide
theorem sub_step16 (B p q z P x y b x' b':Int) (h:p-q=z-b*P) (hx:x'-b'*B=x-y-b):(p+x*P)-(q+y*P)=(z+x'*P)-b'*(P*B):=by
 have:(x'-b'*B)*P=(x-y-b)*P:=by rw[hx]
 grind
def pbit (low nb i:Nat):Bool:=decide (nb≤i) || decide (low/2^i%2=1)
def pstep (x:Int) (b:Bool) (s:Int):Int:=if b then s*s%fp*x%fp else s*s%fp
def pwF (x:Int) (low nb top:Nat):Nat→Int
 |0=>1
 |k+1=>pstep x (pbit low nb (top-k)) (pwF x low nb top k)
def fpN:Nat:=57896044618658097711785492504343953926634992332820282019728792003956564819949
def pstepN (x:Nat) (b:Bool) (s:Nat):Nat:=if b then s*s%fpN*x%fpN else s*s%fpN
def pwN (x low nb top:Nat):Nat→Nat
 |0=>1
 |k+1=>pstepN x (pbit low nb (top-k)) (pwN x low nb top k)
theorem fp_fpN:fp=(fpN:Int):=rfl
theorem pwF_N (x low nb top k:Nat):pwF (x:Int) low nb top k=(pwN x low nb top k:Nat):=by
 induction k with
 |zero=>rfl
 |succ k ih=>
  simp only[pwF,pwN,ih,pstep,pstepN,fp_fpN];split<;>simp only[Int.natCast_emod,Int.natCast_mul]
end Go.Proofs.YtjdhhgaelgemcaaGreatDoor
