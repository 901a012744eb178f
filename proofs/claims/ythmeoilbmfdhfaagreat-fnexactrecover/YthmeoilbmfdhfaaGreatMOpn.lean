import Derived.Test.YthmeoilbmfdhfaaGreatMReg4
import Derived.Test.YthmeoilbmfdhfaaGreatMU8i
open Option renaming some->UI,none->UJ
open Go renaming World->UK
namespace Go.Proofs.YthmeoilbmfdhfaaGreat
set_option maxHeartbeats 400000
open Go.ChangeShapes Go.WideShapes Go.ChangeAt Go.RowKit
set_option linter.unusedVariables false
structure Hb (a:Option Addr) (w w':UK):Prop where
 os:w'.os=w.os
 tape:w'.tape=w.tape
 output:w'.output=w.output
 size:w'.heap.size=w.heap.size
 block:∀ k,(∀ ad,a=UI ad->k≠ad.block)->w'.heap[k]?=w.heap[k]?
theorem Hb.refl (a:Option Addr) (w:UK):Hb a w w:=⟨rfl,rfl,rfl,rfl,λ_ _=>rfl⟩
theorem Hb.setCell {a:Option Addr} {w w':UK} (h:Hb a w w') (ad:Addr) (ha:a=UI ad) (o:Nat) (v:Value):Hb a w (w'.setCell ⟨ad.block,o,UJ⟩ v):=
 ⟨h.os,h.tape,h.output,by simp[World.setCell];exact h.size,λk hk=>(Ah w' ⟨ad.block,o,UJ⟩ k v (hk ad ha)).trans (h.block k hk)⟩
theorem Hb.below {a:Option Addr} {w w':UK} (h:Hb a w w') (B:Nat) (hB:∀ ad,a=UI ad->B<=ad.block):Below B w w':=
 ⟨h.os,h.tape,h.output,by rw[h.size];exact AY _,λk hk=>h.block k (λad e=>AG (hB ad e))⟩
def Df (w:UK) (a:Option Addr) (n:Nat):Prop:=
 n=0\/∃ g o,a=UI ⟨g,o,UJ⟩/\g<w.heap.size/\∀ i,i<n->(w.cell? ⟨g,o+i,UJ⟩).isSome=true/\w.frozen? ⟨g,o+i,UJ⟩=false
theorem Df.below {w w':UK} {a:Option Addr} {n:Nat} (h:Df w a n) (hb:Below w.heap.size w w'):Df w' a n:=by
 rcases h with h|⟨g,o,h1,h2,h3⟩
 ·exact .inl h
 ·exact .inr ⟨g,o,h1,AG hb.size,λi hi=>by rw[hb.cell (p:=⟨g,o+i,UJ⟩) h2,hb.frozen (p:=⟨g,o+i,UJ⟩) h2];exact h3 i hi⟩
theorem dN (w:UK) (q p:Nat):(w.drewN q).drewN p=w.drewN (q+p):=by simp[World.drewN,Nat.add_assoc]
theorem ET {B:Nat} {a w:UK} (h:Below B a w) (n:Nat):Below B a (w.drewN n):=⟨h.os,h.tape,h.output,h.size,h.block⟩
theorem Tryz.infoTap:(Tryz.prog.info? 133).map (λi=>(i.zero,i.size,i.bytes))=UI (UI (.agg #[.int .i64 0,.int .i64 0]),2,16):=AN
theorem F4 (p m cap:Nat) (vs:List Value) (zss:List (List Int)) (w:UK) (hm:zss.length=m) (hp:p<w.heap.size) (hc:∀ i,i<m->w.cell? ⟨p,i,UJ⟩=UI (vs.getD i undef))
  (hz:∀ i,i<m->Cy w (vs.getD i undef) (zss.getD i [])) (ht:zss.flatten.length<=2097152) (hm':m<=1048576) :
  Calls Tryz.prog 70 #[.slice (UI ⟨p,0,UJ⟩) m cap] w λe w'=>∃ v,e=.returned v/\DT w' w.heap.size v zss.flatten/\Below w.heap.size w w':=by
 go_enter Tryz.func70,Tryz.ntmps70;go_wp2
 go_loopw [3,4] (λv i wr=>∃ k:Nat,k<=m/\i=.int .i64 k/\DT wr w.heap.size v (zss.take k).flatten/\Below w.heap.size w wr) (λ_ i _=>m-(intOf i).toNat)
 case atStart=>exact⟨0,Aj _,rfl,DT.empty _ _ Cw,Cs.alloc Cw _⟩
 case round=>
  obtain⟨k,hk,rfl,hown,hbel⟩:=hrel;by_cases hlt:k<m
  ·have hsz:=hbel.size;obtain⟨b,o,c,hv,hb,hcell⟩:=hz k hlt;have hck:wr.cell? ⟨p,k,UJ⟩=UI (.slice (UI ⟨b,o,UJ⟩) (zss.getD k []).length c):=by rw[hbel.cell (p:=⟨p,k,UJ⟩) hp,hc k hlt,hv]
   have hnews:∀ j,j<(zss.getD k []).length->wr.cell? ((⟨b,o,UJ⟩:Addr).add j)=UI (.int .u8 ((zss.getD k []).getD j 0)):=by
    intro j hj;rw[Ay,hbel.cell (p:=⟨b,o+j,UJ⟩) hb];exact hcell j hj
   have hfl:=IF zss k AK;have hle:=Jm zss (k+1);have hle2:(zss.take k).flatten.length+(zss.getD k []).length<=2097152:=by rw[hfl,Al] at hle;omega
   have HF:AP _:=hfl;clear hfl hle hv hcell hc hz;generalize zss.getD k []=z at *;generalize (zss.take k).flatten=y at *;generalize hzl:z.length=zl at *;have HL:AP _:=hzl;clear hzl;have HN:AP _:=hnews;clear hnews;go_wp2_with (at_builtin;refine Dh _ rfl _ _ rfl w.heap.size _ _ rfl hown ⟨b,o,UJ⟩ _ _ z rfl HL.o HN.o ?c2 ?c3 ?_)
   case c2=>omega
   case c3=>omega
   intro v' w1 hown' hbel' _;have HO:AP (DT w1 w.heap.size v' (zss.take (k+1)).flatten):=by rw[HF.o];exact hown'
   have HB:AP (Below w.heap.size w w1):=hbel.trans hbel';clear hown hown' hbel hbel';go_wp2;go_roundw
   case rel=>exact⟨k+1,AK,by go_num,HO.o,HB.o⟩
   case measure=>simp[intOf];omega
  ·have hkn:zss.take k=zss:=An AK;rw[hkn] at hown;have HO:AP _:=hown;clear hown hkn;go_wp2
   go_ret
   exact⟨_,rfl,HO.o,hbel⟩
end Go.Proofs.YthmeoilbmfdhfaaGreat
