import Derived.Test.YtjdhhgaelgemcaaGreatDoorMRowB
import Derived.Test.YtjdhhgaelgemcaaGreatDoorMU8i
open Go.Proofs.Tryz renaming prog->tP
open Go.Proofs.Tryz
open Go.Value renaming slice->Z7,int->Z8
open Option renaming some->aE,none->aA
open Go renaming World->aC,Value->aB
set_option maxHeartbeats 400000
namespace Go.Proofs.YtjdhhgaelgemcaaGreatDoor
open Go.ChangeShapes Go.WideShapes Go.ChangeAt Go.RowKit
set_option linter.unusedVariables false
theorem Tryz.infoU8':(tP.info? 5).map (λi=>(i.zero,i.size,i.bytes))=aE (aE (Z8 .u8 0),1,1):=AM
def Qv (w:aC) (v:aB) (zs:List Int):Prop:=
 ∃ b o c,v=Z7 (aE ⟨b,o,aA⟩) zs.length c/\b<w.heap.size/\∀ i,i<zs.length->w.cell? ⟨b,o+i,aA⟩=aE (Z8 .u8 (zs.getD i 0))
def DM (w:aC) (B:Nat) (v:aB) (zs:List Int):Prop:=
 w.ownsRow B 5 1 v zs.length (zs.map (Value.int .u8))/\∃ g c,v=Z7 (aE ⟨g,0,aA⟩) zs.length c
theorem DM.base {w:aC} {B:Nat} {v:aB} {zs:List Int} (h:DM w B v zs):∃ g c,v=Z7 (aE ⟨g,0,aA⟩) zs.length c/\B<=g/\g<w.heap.size/\zs.length<=c:=by
 obtain⟨h,g,c,rfl⟩:=h;rcases h.2 with⟨h',_⟩|⟨g',c',cur,h',hb,hh,hc,_⟩
 ·cases h'
 ·cases h';exact⟨g,c,rfl,hb,(AR.1 hh).1,hc⟩
theorem DM.part {w:aC} {B:Nat} {v:aB} {zs:List Int} (h:DM w B v zs):Qv w v zs:=by
 obtain⟨g,c,rfl,hb,hg,hc⟩:=h.base;refine⟨g,0,c,rfl,hg,λi hi=>?_⟩;rw[Aq,h.1.cellAt i AJ];simp[hi]
theorem DM.empty (w:aC) (B:Nat) (hB:B<=w.heap.size):DM (w.alloc (.cells #[] 5)) B (Z7 (aE ⟨w.heap.size,0,aA⟩) 0 0) []:=
 ⟨World.ownsRow_lit w #[] 0 hB AL AL,_,_,rfl⟩
theorem DM.alloc {w:aC} {B:Nat} {v:aB} {zs:List Int} (h:DM w B v zs) (o:Obj):DM (w.alloc o) B v zs:=⟨h.1.alloc _,h.2⟩
theorem DI (w:aC) {ops:Array Oper} {rest:List Oper} {o:Oper} {a:Act} {Q:Exit->Act->aC->Prop}
  (hg:o.guard=aA) (s x:Operand) (hop:o.op=Op.call { callee:=Callee.builtin Builtin.append,args:=#[s,x],argTypes:=#[26,26] })
  (B:Nat) (v:aB) (xs:List Int) (hs:a.eval s=v) (hown:DM w B v xs) (ad:Addr) (m c:Nat) (news:List Int) (hx:a.eval x=Z7 (aE ad) m c) (hl:news.length=m)
  (hnews:∀ j,j<m->w.cell? (ad.add j)=aE (Z8 .u8 (news.getD j 0))) (hb:xs.length+m<=1099511627776) (hB:B<=w.heap.size)
  (hK:∀ v' w',DM w' B v' (xs++news)->Below B w w'->w.grownBy w' v.ownBlock->wpList tP ops Q rest (a.put o.dst v') w') :
  wpList tP ops Q (o::rest) a w:=by
 obtain⟨i0,hi,hz0,hz1,hz2⟩:=Bh Tryz.infoU8';have hbase:=hown.base;refine wpList_append_own w hg s x 26 hop B 5 i0 (Z8 .u8 0) 1 1 underlying26 hi hz0 hz1 hz2 rfl AK v xs.length _ hs hown.1 ad m c (news.map (Value.int .u8)) hx (by simp[hl]) ?_ (Aw _ _) (by unfold maxLen;omega) AJ hB ?_
 ·intro j u hu;have hj:j<news.length:=by have:=(Ao.1 hu).1;simpa using this
  rw[hnews j AJ];simp[hj] at hu;simp[hj,hu]
 ·intro v' w' h1 h2 h3;obtain⟨g,c0,hv,hBg,_,_⟩:=hbase;have hbel:Below B w w':=Cg.grown h2 hB (λk hk=>by rw[hv] at hk;simp[Value.ownBlock] at hk;omega);refine hK v' w' ⟨?_,?_⟩ hbel h2
  ·rw[BS,Ak,hl];exact h1
  ·rcases h1.2 with⟨h',_⟩|⟨g',c',cur,h',_⟩
   ·exact absurd (h3.1 h').1 (by rw[hv];simp)
   ·exact⟨g',c',by rw[h',Ak,hl]⟩
def cp (zs:List Int) (k:Nat):List Int:=zs.take k++List.replicate (zs.length-k) 0
theorem OR (zs:List Int):cp zs 0=List.replicate zs.length 0:=by simp[cp]
theorem Qw (zs:List Int):cp zs zs.length=zs:=by simp[cp]
theorem Qx (zs:List Int) (k:Nat) (h:k<=zs.length):(cp zs k).length=zs.length:=by simp[cp];omega
theorem OT (zs:List Int) (k:Nat) (h:k<zs.length):(cp zs k).set k (zs.getD k 0)=cp zs (k+1):=by
 unfold cp;have hl:(zs.take k).length=k:=by simp;omega
 rw[Gz zs k h,Bz _ _ AJ,hl,Nat.sub_self];have:zs.length-k=(zs.length-(k+1))+1:=AJ
 rw[this,List.replicate_succ,List.set_cons_zero];simp
theorem Tu (a:Option Addr) (n cap:Nat) (zs:List Int) (w:aC) (hn:zs.length=n) (hm:n<=1048576) (ha:At .u8 w a zs) :
  Calls tP 8 #[Z7 a n cap] w λe w'=>e=.returned (Z7 (aE ⟨w.heap.size,0,aA⟩) n n)/\
   w'.ownsRow w.heap.size 5 1 (Z7 (aE ⟨w.heap.size,0,aA⟩) n n) n (zs.map (Value.int .u8))/\Below w.heap.size w w':=by
 obtain⟨i0,hi,hz0,hz1,hz2⟩:=Bh Tryz.infoU8;have HI:AO (i0.bytes=1):=hz2;clear hz2;go_enter func8,ntmps8;go_wp2_with (first
  |(at_make;refine wpList_make_full _ rfl _ _ 26 rfl w.heap.size 5 i0 (Z8 .u8 0) 1 underlying26 hi hz0 hz1 _ _ _ _ n rfl rfl rfl rfl ?c1 ?c2 ?c3 ?_)
  |fail)
 case c1=>rw[HI.o];omega
 case c2=>unfold maxLen;omega
 case c3=>exact Ac _
 intro w1 hown hgrow;have hb1:Below w.heap.size w w1:=Cg.grown hgrow Cl AL;have hown0:w1.ownsRow w.heap.size 5 1 (Z7 (aE ⟨w.heap.size,0,aA⟩) n n) n ((cp zs 0).map (Value.int .u8)):=by
  have e:(madeCells #[Z8 IntKind.u8 0] n).toList=(cp zs 0).map (Value.int .u8):=by
   rw[OR];simp only[toList_madeCells_one,List.map_replicate,hn]
  rw[<-e];exact hown
 clear hown hgrow;go_wp2
 go_loopw [4] (λi wr=>∃ k:Nat,k<=n/\i=Z8 .i64 k/\wr.ownsRow w.heap.size 5 1 (Z7 (aE ⟨w.heap.size,0,aA⟩) n n) n ((cp zs k).map (Value.int .u8))/\Below w.heap.size w wr) (λi _=>n-(intOf i).toNat)
 case atStart=>exact⟨0,Au _,rfl,hown0,hb1⟩
 case round=>
  obtain⟨k,hk,rfl,hown,hbel⟩:=hrel;by_cases hlt:k<n
  ·obtain⟨b,off,rfl,hb,hc⟩:=ha.get AJ;have hck:wr.cell? ⟨b,off+k,aA⟩=aE (Z8 .u8 (zs.getD k 0)):=by rw[hbel.cell (p:=⟨b,off+k,aA⟩) hb];exact hc k AJ
   have hst:=hown.stored k (Z8 .u8 (zs.getD k 0));have hmem:wr.cell? ⟨w.heap.size,k,aA⟩=aE (Z8 .u8 ((cp zs k).getD k 0)):=by
    rw[hown.cellAt k AJ];have:=Qx zs k AJ;simp[show k<(cp zs k).length by omega]
   have hfz:=hown.frozenAt k;rw[<-List.map_set,OT zs k AJ] at hst;have HX:=hst.1;have HB:Below w.heap.size w (wr.setCell ⟨w.heap.size,k,aA⟩ (Z8 .u8 (zs.getD k 0))):=hbel.setCell Cl _;clear hst hown hc ha hbel hown0 hb1;generalize zs.getD k 0=x at *;generalize (cp zs k).getD k 0=y at *;have HXX:AO _:=HX;have HBB:AO _:=HB;clear HX HB;go_wp2;go_roundw
   case rel=>exact⟨k+1,AJ,by go_num,HXX.o,HBB.o⟩
   case measure=>simp[intOf];omega
  ·have hkn:k=zs.length:=AJ
   have HO:AO (wr.ownsRow w.heap.size 5 1 (Z7 (aE ⟨w.heap.size,0,aA⟩) n n) n (zs.map (Value.int .u8))):=by rw[hkn,Qw] at hown;exact hown
   clear hown;go_wp2
   go_ret
   exact⟨rfl,HO.o,hbel⟩
theorem OU (a a':Option Addr) (n cap cap':Nat) (zs:List Int) (w:aC) (hn:zs.length=n) (hm:n<=1048576) (ha:At .u8 w a zs) (ha':At .u8 w a' zs) :
  Calls tP 13 #[Z7 a n cap,Z7 a' n cap'] w λe w'=>e=.returned (.bool true)/\∃ q,w'=w.drewN q:=by
 have h0:((n:Int) != (n:Int))=false:=AL
 go_enter func13,ntmps13;go_wp2
 go_loopw [5] (λi wr=>∃ k q:Nat,k<=n/\i=Z8 .i64 k/\wr=w.drewN q) (λi _=>n-(intOf i).toNat)
 case atStart=>exact⟨0,0,Au _,rfl,rfl⟩
 case round=>
  obtain⟨k,q,hk,rfl,rfl⟩:=hrel;by_cases hlt:k<n
  ·obtain⟨b,off,rfl,hb,hc⟩:=ha.get AJ;obtain⟨b',off',rfl,hb',hc'⟩:=ha'.get AJ;have g1:=hc k AJ;have g2:=hc' k AJ;generalize zs.getD k 0=x at *;have hx:(x != x)=false:=AL
   have hlt':(k:Int)<(n:Int):=AJ
   clear hc hc' ha ha';go_wp2
   go_quiet (fail)
   go_wp2;go_roundw
   case rel=>exact⟨k+1,_,AJ,by go_num,rfl⟩
   case measure=>simp[intOf];omega
  ·go_wp2
   go_ret
   exact⟨rfl,q,rfl⟩
end Go.Proofs.YtjdhhgaelgemcaaGreatDoor
namespace Go.Proofs.YtjdhhgaelgemcaaGreatDoor
open Go.ChangeShapes Go.WideShapes Go.ChangeAt Go.RowKit
set_option linter.unusedVariables false
structure KT (k:IntKind) (t s:TypeId) (by':Nat):Prop where
 info:(tP.info? t).map (λi=>(i.zero,i.size,i.bytes))=aE (aE (Z8 k 0),1,by')
 und:tP.underlying s=aE (.slice t)
 pos:by'≠0
 le:by'<=8
def DR (k:IntKind) (t:TypeId) (w:aC) (B:Nat) (v:aB) (zs:List Int):Prop:=
 w.ownsRow B t 1 v zs.length (zs.map (Value.int k))/\∃ g c,v=Z7 (aE ⟨g,0,aA⟩) zs.length c
variable {k:IntKind} {t s:TypeId} {by':Nat}
theorem DR.base {w:aC} {B:Nat} {v:aB} {zs:List Int} (h:DR k t w B v zs):∃ g c,v=Z7 (aE ⟨g,0,aA⟩) zs.length c/\B<=g/\g<w.heap.size/\zs.length<=c:=by
 obtain⟨h,g,c,rfl⟩:=h;rcases h.2 with⟨h',_⟩|⟨g',c',cur,h',hb,hh,hc,_⟩
 ·cases h'
 ·cases h';exact⟨g,c,rfl,hb,(AR.1 hh).1,hc⟩
theorem DR.at_ {w:aC} {B:Nat} {v:aB} {zs:List Int} (h:DR k t w B v zs):∃ g c,v=Z7 (aE ⟨g,0,aA⟩) zs.length c/\B<=g/\g<w.heap.size/\At k w (aE ⟨g,0,aA⟩) zs:=by
 obtain⟨g,c,rfl,hb,hg,hc⟩:=h.base;exact⟨g,c,rfl,hb,hg,.inr ⟨g,0,rfl,hg,λi hi=>by rw[Aq,h.1.cellAt i AJ];simp[hi]⟩⟩
theorem DR.atS {w:aC} {B g n c:Nat} {zs:List Int} (h:DR k t w B (Z7 (aE ⟨g,0,aA⟩) n c) zs):At k w (aE ⟨g,0,aA⟩) zs/\B<=g/\g<w.heap.size:=by
 obtain⟨g',c',e,h1,h2,h3⟩:=h.at_;simp at e;obtain⟨rfl,_⟩:=e;exact⟨h3,h1,h2⟩
theorem DR.empty (w:aC) (B:Nat) (hB:B<=w.heap.size):DR k t (w.alloc (.cells #[] t)) B (Z7 (aE ⟨w.heap.size,0,aA⟩) 0 0) []:=
 ⟨World.ownsRow_lit w #[] 0 hB AL AL,_,_,rfl⟩
theorem DR.alloc {w:aC} {B:Nat} {v:aB} {zs:List Int} (h:DR k t w B v zs) (o:Obj):DR k t (w.alloc o) B v zs:=⟨h.1.alloc _,h.2⟩
theorem DR.lit (w:aC) (B:Nat) (zs:List Int) (hB:B<=w.heap.size) (hl:zs.length<=1024):DR k t (w.alloc (.cells (zs.map (Value.int k)).toArray t)) B (Z7 (aE ⟨w.heap.size,0,aA⟩) zs.length zs.length) zs:=
 ⟨by
  have:=World.ownsRow_lit w (e:=t) (size:=1) (base:=B) (zs.map (Value.int k)).toArray zs.length hB (by unfold maxLen;omega) AL;exact this,_,_,rfl⟩
theorem DR.grow {w w':aC} {B:Nat} {v:aB} {zs:List Int} (h:DR k t w B v zs) (hb:Below w.heap.size w w'):DR k t w' B v zs:=by
 refine⟨⟨h.1.1,?_⟩,h.2⟩;rcases h.1.2 with h'|⟨g,c,cur,h1,h2,h3,h4⟩
 ·exact .inl h'
 ·exact .inr ⟨g,c,cur,h1,h2,by rw[hb.block g (AR.1 h3).1];exact h3,h4⟩
theorem DR.lower {w:aC} {B B':Nat} {v:aB} {zs:List Int} (h:DR k t w B' v zs) (hB:B<=B'):DR k t w B v zs:=by
 obtain⟨⟨h1,h2⟩,h3⟩:=h;refine⟨⟨h1,?_⟩,h3⟩;rcases h2 with h|⟨g,c,cur,h4,h5,h6⟩
 ·exact .inl h
 ·exact .inr ⟨g,c,cur,h4,AJ,h6⟩
theorem DR.set {w:aC} {B:Nat} {g c:Nat} {zs:List Int} {n:Nat} (hn:zs.length=n) (h:DR k t w B (Z7 (aE ⟨g,0,aA⟩) n c) zs) (i:Nat) (x:Int) (hi:i<n) :
  w.cell? ⟨g,i,aA⟩=aE (Z8 k (zs.getD i 0))/\w.frozen? ⟨g,i,aA⟩=false/\DR k t (w.setCell ⟨g,i,aA⟩ (Z8 k x)) B (Z7 (aE ⟨g,0,aA⟩) n c) (zs.set i x):=by
 subst hn;refine⟨?_,h.1.frozenAt i,?_,?_⟩
 ·rw[h.1.cellAt i AJ];simp[hi]
 ·have:=(h.1.stored i (Z8 k x)).1;rw[<-List.map_set] at this;rw[List.length_set];exact this
 ·rw[List.length_set];exact⟨_,_,rfl⟩
theorem DR.cellAt {w:aC} {B:Nat} {g c:Nat} {zs:List Int} {n:Nat} (hn:zs.length=n) (h:DR k t w B (Z7 (aE ⟨g,0,aA⟩) n c) zs) (i:Nat) (hi:i<n):w.cell? ⟨g,i,aA⟩=aE (Z8 k (zs.getD i 0)):=by
 subst hn;rw[h.1.cellAt i AJ];simp[hi]
theorem Db (w:aC) {ops:Array Oper} {rest:List Oper} {o:Oper} {a:Act} {Q:Exit->Act->aC->Prop} (hk:KT k t s by')
  (hg:o.guard=aA) (sx x:Operand) (hop:o.op=Op.call { callee:=Callee.builtin Builtin.append,args:=#[sx,x],argTypes:=#[s,s] })
  (B:Nat) (v:aB) (xs:List Int) (hs:a.eval sx=v) (hown:DR k t w B v xs) (ad:Addr) (m c:Nat) (news:List Int) (hx:a.eval x=Z7 (aE ad) m c) (hl:news.length=m)
  (hnews:∀ j,j<m->w.cell? (ad.add j)=aE (Z8 k (news.getD j 0))) (hb:xs.length+m<=1099511627776) (hB:B<=w.heap.size)
  (hK:∀ v' w',DR k t w' B v' (xs++news)->Below B w w'->w.grownBy w' v.ownBlock->wpList tP ops Q rest (a.put o.dst v') w') :
  wpList tP ops Q (o::rest) a w:=by
 obtain⟨i0,hi,hz0,hz1,hz2⟩:=Bh hk.info;have hbase:=hown.base;have hp:=hk.pos;have hle:=hk.le;refine wpList_append_own w hg sx x s hop B t i0 (Z8 k 0) 1 by' hk.und hi hz0 hz1 hz2 rfl AJ v xs.length _ hs hown.1 ad m c (news.map (Value.int k)) hx (by simp[hl]) ?_ (Aw _ _) (by unfold maxLen;omega) ?_ hB ?_
 ·intro j u hu;have hj:j<news.length:=by have:=(Ao.1 hu).1;simpa using this
  rw[hnews j AJ];simp[hj] at hu;simp[hj,hu]
 ·have:=Nat.mul_le_mul hb hle;omega
 ·intro v' w' h1 h2 h3;obtain⟨g,c0,hv,hBg,_,_⟩:=hbase;have hbel:Below B w w':=Cg.grown h2 hB (λk hk=>by rw[hv] at hk;simp[Value.ownBlock] at hk;omega);refine hK v' w' ⟨?_,?_⟩ hbel h2
  ·rw[BS,Ak,hl];exact h1
  ·rcases h1.2 with⟨h',_⟩|⟨g',c',cur,h',_⟩
   ·exact absurd (h3.1 h').1 (by rw[hv];simp)
   ·exact⟨g',c',by rw[h',Ak,hl]⟩
end Go.Proofs.YtjdhhgaelgemcaaGreatDoor
namespace Go.Proofs.YtjdhhgaelgemcaaGreatDoor
set_option linter.unusedVariables false
theorem Pf {xs:List Int} (h:R xs):∀ i,0<=(Cj (Cj xs)).getD i 0/\(Cj (Cj xs)).getD i 0<65536:=by
 have hc:=Ln (C:=2) h.2 AK AK 16;obtain⟨b1,b2⟩:=GV (xs:=xs) AK hc;have h0:=EO xs 0 AK;rw[AP rfl] at h0;have h0':-76<=(Cj xs).getD 0 0/\(Cj xs).getD 0 0<=65611:=by rw[h0];omega
 clear h0 hc;have h0:=h0';generalize hy:Cj xs=ys at *;have hch:∀ i,(-1<=cy ys (i+1)/\cy ys (i+1)<=1)/\(cy ys (i+1)=1->65536<=ys.getD 0 0)/\(cy ys (i+1)=-1->ys.getD 0 0<0):=by
  intro i
  induction i with
  |zero=>simp only[cy];omega
  |succ i ih=>
   have:=b2 (i+1) AJ;rw[show i+1+1=(i+1)+1 from rfl,cy];omega
 have h16:(-1<=cy ys 16/\cy ys 16<=1)/\(cy ys 16=1->65536<=ys.getD 0 0)/\(cy ys 16=-1->ys.getD 0 0<0):=hch 15;intro i;by_cases hi:i<16
 ·rw[EO _ _ hi];by_cases hi0:i=0
  ·subst hi0;rw[AP rfl,show cy ys 0=0 from rfl];generalize cy ys 16=c at *;omega
  ·rw[AQ hi0];omega
 ·rw[DB (by rw[C6];omega)];omega
theorem Qy {ys:List Int} (hl:ys.length=16) (h:∀ i,0<=ys.getD i 0/\ys.getD i 0<65536):Cj ys=ys:=by
 have hc:∀ i,cy ys i=0:=λi=>by
  induction i with
  |zero=>rfl
  |succ i ih=>have:=h i;simp only[cy,ih];omega
 apply Ih (C6 _) hl;intro i hi;rw[EO _ _ hi,hc,hc];have:=h i;split<;>omega
theorem D2 {B:Int} {xs:List Int} (h:∀ i,0<=xs.getD i 0/\xs.getD i 0<B):J2 B xs:=by
 intro z hz;obtain⟨i,hi,rfl⟩:=List.mem_iff_getElem.1 hz;have:=h i;simpa[hi] using this
def pD:List Int:=[65517,65535,65535,65535,65535,65535,65535,65535,65535,65535,65535,65535,65535,65535,65535,32767]
theorem WE:val 65536 pD=fp:=AK
theorem WF:∀ i,0<=pD.getD i 0/\pD.getD i 0<65536:=by
 intro i;by_cases h:i<16
 ·have:i=0\/i=1\/i=2\/i=3\/i=4\/i=5\/i=6\/i=7\/i=8\/i=9\/i=10\/i=11\/i=12\/i=13\/i=14\/i=15:=AJ
  rcases this with rfl|rfl|rfl|rfl|rfl|rfl|rfl|rfl|rfl|rfl|rfl|rfl|rfl|rfl|rfl|rfl<;>decide
 ·rw[DB (by simp[pD];omega)];decide
theorem WG (i:Nat) (h:i<16):pD.getD i 0=if i=0 then 65517 else if i=15 then 32767 else 65535:=by
 have:i=0\/i=1\/i=2\/i=3\/i=4\/i=5\/i=6\/i=7\/i=8\/i=9\/i=10\/i=11\/i=12\/i=13\/i=14\/i=15:=AJ
 rcases this with rfl|rfl|rfl|rfl|rfl|rfl|rfl|rfl|rfl|rfl|rfl|rfl|rfl|rfl|rfl|rfl<;>decide
theorem NN (B p q z P x y b x' b':Int) (h:p-q=z-b*P) (hx:x'-b'*B=x-y-b):(p+x*P)-(q+y*P)=(z+x'*P)-b'*(P*B):=by
 have:(x'-b'*B)*P=(x-y-b)*P:=by rw[hx]
 grind
def En (low nb i:Nat):Bool:=decide (nb<=i) || decide (low/2^i%2=1)
def Dp (x:Int) (b:Bool) (s:Int):Int:=if b then s*s%fp*x%fp else s*s%fp
def FC (x:Int) (low nb top:Nat):Nat->Int
 |0=>1
 |k+1=>Dp x (En low nb (top-k)) (FC x low nb top k)
def Ft:Nat:=57896044618658097711785492504343953926634992332820282019728792003956564819949
def Qz (x:Nat) (b:Bool) (s:Nat):Nat:=if b then s*s%Ft*x%Ft else s*s%Ft
def Yj (x low nb top:Nat):Nat->Nat
 |0=>1
 |k+1=>Qz x (En low nb (top-k)) (Yj x low nb top k)
theorem Kz:fp=(Ft:Int):=rfl
theorem Xa (x low nb top k:Nat):FC (x:Int) low nb top k=(Yj x low nb top k:Nat):=by
 induction k with
 |zero=>rfl
 |succ k ih=>
  simp only[FC,Yj,ih,Dp,Qz,Kz];split<;>simp only[Int.natCast_emod,Int.natCast_mul]
end Go.Proofs.YtjdhhgaelgemcaaGreatDoor
