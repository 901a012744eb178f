import Derived.Test.YthmeoilbmfdhfaaGreatMMkB
open Go.Value renaming slice->UD,int->UE,pointer->UM,bool->UF,agg->UN
open Go.IntKind renaming i64->UO
open Go.Obj renaming cells->UP
open Go.Ending renaming returned->UQ
open Option renaming some->UI,none->UJ
namespace Go.Proofs.YthmeoilbmfdhfaaGreat
set_option maxHeartbeats 400000
open Go.ChangeShapes Go.WideShapes Go.ChangeAt Go.RowKit
set_option linter.unusedVariables false
theorem Gb {B:Nat} {a w:World} (h:Below B a w) (n:Nat):Below B a (w.drewN n):=⟨h.os,h.tape,h.output,h.size,h.block⟩
theorem QS (s:Int) (x x':Option Addr) (n c c':Nat) (zs:List Int) (w:World) (hn:zs.length=n) (hm:n<=1048576) (ha:At .u8 w x zs) (ha':At .u8 w x' zs) :
  Calls Tryz.prog 91 #[UN #[UE UO s,UD x n c],UN #[UE UO s,UD x' n c']] w λe w'=>e=UQ (UF true)/\Below w.heap.size w w':=by
 have e2:(s != s)=false:=AM
 have hB:=((Ad w.heap.size w).alloc Cw (UP #[UE UO s,UD x n c] 106)).alloc AM (UP #[UE UO s,UD x' n c'] 106);have A2:=ha.below hB;have A2':=ha'.below hB;have HB:AP _:=hB;clear hB;go_enter Tryz.func91,Tryz.ntmps91;go_wp2_with fail;refine(Ic _ _ n _ _ zs _ hn hm A2 A2').mono ?_;rintro e w1 ⟨rfl,q,rfl⟩;clear A2 A2';go_wp2
 go_ret
 exact⟨rfl,Gb HB.o _⟩
def TS (b off b' off' k n cap cap':Nat) (s:Int) (x x':Option Addr) (m c c':Nat):Nat->World->Value->Prop
 |0,_,v=>v=UD (UI ⟨b,off,UJ⟩) n cap
 |1,_,v=>v=UE UO k
 |2,_,v=>v=UM (UI ⟨b,off+k*2,UJ⟩)
 |3,_,v=>v=UN #[UE UO s,UD x m c]
 |4,_,v=>v=UD (UI ⟨b',off',UJ⟩) n cap'
 |5,_,v=>v=UE UO k
 |6,_,v=>v=UM (UI ⟨b',off'+k*2,UJ⟩)
 |7,_,v=>v=UN #[UE UO s,UD x' m c']
 |8,_,v=>v=UF true
 |_,_,v=>v=UF false
theorem OQ (b off b' off' k n cap cap':Nat) (s:Int) (x x':Option Addr) (m c c':Nat) (i:Nat) (w w':World) (v:Value) (hm:DJ w w') (h:TS b off b' off' k n cap cap' s x x' m c c' i w v):TS b off b' off' k n cap cap' s x x' m c c' i w' v:=by
 unfold TS at *;split at h<;>exact h
theorem OR (a a':Option Addr) (n cap cap':Nat) (ps:List PD) (w:World) (hl:ps.length=n) (hm:n<=1048576) (ha:FY w a ps) (ha':FY w a' ps) (hps:∀ i,(ps.getD i (0,[])).2.length<=1048576) :
  Calls Tryz.prog 44 #[UD a n cap,UD a' n cap'] w λe w'=>e=UQ (UF true)/\Below w.heap.size w w':=by
 have h0:((n:Int) != (n:Int))=false:=AM
 go_enter Tryz.func44,Tryz.ntmps44;go_wp2
 go_loopw [5] (λi wr=>∃ k:Nat,k<=n/\i=UE UO k/\Below w.heap.size w wr) (λi _=>n-(intOf i).toNat)
 case atStart=>exact⟨0,Aj _,rfl,Ad _ _⟩
 case round=>
  obtain⟨k,hk,rfl,hbel⟩:=hrel;by_cases hlt:k<n
  ·obtain⟨b,off,rfl,hb,hc⟩:=(ha.below hbel).get AK;obtain⟨b',off',rfl,hb',hc'⟩:=(ha'.below hbel).get AK;obtain⟨x,c,g1,g2,g3⟩:=hc k AK;obtain⟨x',c',k1,k2,k3⟩:=hc' k AK;have hp:=hps k;generalize (ps.getD k (0,[])).1=s at *;generalize (ps.getD k (0,[])).2=zs at *;have hlt':(k:Int)<(n:Int):=AK
   clear hc hc' ha ha';have HG1:AP _:=Ac g1 (Ac g2 (Ac k1 k2));clear g1 g2 k1 k2;go_wp2;refine Ae AN ?_;refine GU (frame:=λt=>{ tmps:=#[UD (UI { block:=b,off:=off }) n cap,UD (UI { block:=b',off:=off' }) n cap',undef,undef,u4,UE UO ↑k,UD (UI { block:=b,off:=off }) n cap,UE UO ↑n,UD (UI { block:=b',off:=off' }) n cap',UE UO ↑n,UF false,UE UO ↑k,UD (UI { block:=b,off:=off }) n cap,UE UO ↑n,UF true,u15,u16,t 0,t 1,t 2,t 3,t 4,t 5,t 6,t 7,t 8,t 9],defers:=[] })
    (Ext:=λw'=>Below wr.heap.size wr w') (Good:=TS b off b' off' k n cap cap' s x x' zs.length c c') (OQ _ _ _ _ _ _ _ _ _ _ _ _ _ _) AN AN ?hop ?hdone _ _ (λi=>if i=0 then u17 else if i=1 then u18 else if i=2 then u19 else if i=3 then u20 else if i=4 then u21 else if i=5 then u22 else if i=6 then u23 else if i=7 then u24 else if i=8 then u25 else u26) _ AM ?ext ?start AM
   case start=>intro i hi h;exact absurd h E0
   case ext=>exact Cs.drew
   case hdone=>
    intro t w' hx hg;have h9:t 9=_:=hg 9 AL;clear hg;rw[h9];have HX:AP _:=hx;clear hx;go_wp2;go_roundw
    case rel=>exact⟨k+1,AK,by go_num,hbel.trans (HX.o.mono hbel.size)⟩
    case measure=>simp[intOf];omega
   case hop=>
    intro i o t w' ho hx hdep K hK;have hi:i<10:=(AQ.1 ho).1;obtain rfl|rfl|rfl|rfl|rfl|rfl|rfl|rfl|rfl|rfl:i=0\/i=1\/i=2\/i=3\/i=4\/i=5\/i=6\/i=7\/i=8\/i=9:=AK
    all_goals(simp at ho;subst ho)
    ·clear hdep;go_simp;exact hK w' _ rfl hx (DJ.refl _)
    ·clear hdep;go_simp;exact hK w' _ rfl hx (DJ.refl _)
    ·have d0:t 0=_:=hdep ⟨0,.data⟩ AM rfl;have d1:t 1=_:=hdep ⟨1,.data⟩ AM rfl;clear hdep;go_simp;simpa[Cr,d0,d1] using hK w' (UM (UI ⟨b,off+k*2,UJ⟩)) rfl hx (DJ.refl _)
    ·have d2:t 2=_:=hdep ⟨2,.data⟩ AM rfl;clear hdep;have q1:w'.cell? ⟨b,off+k*2,UJ⟩=UI (UE UO s):=by rw[hx.cell (p:=⟨b,off+k*2,UJ⟩) hb];exact HG1.o.1
     have q2:w'.cell? ⟨b,off+k*2+1,UJ⟩=UI (UD x zs.length c):=by rw[hx.cell (p:=⟨b,off+k*2+1,UJ⟩) hb];exact HG1.o.2.1
     go_simp;simpa[Cr,d2] using hK w' (UN #[UE UO s,UD x zs.length c]) rfl hx (DJ.refl _)
    ·clear hdep;go_simp;exact hK w' _ rfl hx (DJ.refl _)
    ·clear hdep;go_simp;exact hK w' _ rfl hx (DJ.refl _)
    ·have d0:t 4=_:=hdep ⟨4,.data⟩ AM rfl;have d1:t 5=_:=hdep ⟨5,.data⟩ AM rfl;clear hdep;go_simp;simpa[Cr,d0,d1] using hK w' (UM (UI ⟨b',off'+k*2,UJ⟩)) rfl hx (DJ.refl _)
    ·have d2:t 6=_:=hdep ⟨6,.data⟩ AM rfl;clear hdep;have q1:w'.cell? ⟨b',off'+k*2,UJ⟩=UI (UE UO s):=by rw[hx.cell (p:=⟨b',off'+k*2,UJ⟩) hb'];exact HG1.o.2.2.1
     have q2:w'.cell? ⟨b',off'+k*2+1,UJ⟩=UI (UD x' zs.length c'):=by rw[hx.cell (p:=⟨b',off'+k*2+1,UJ⟩) hb'];exact HG1.o.2.2.2
     go_simp;simpa[Cr,d2] using hK w' (UN #[UE UO s,UD x' zs.length c']) rfl hx (DJ.refl _)
    ·have d3:t 3=_:=hdep ⟨3,.data⟩ AM rfl;have d7:t 7=_:=hdep ⟨7,.data⟩ AM rfl;clear hdep;go_simp;refine(QS s x x' zs.length c c' zs w' rfl hp (g3.below hx) (k3.below hx)).mono ?_;rintro e w1 ⟨rfl,hb1⟩;go_simp;simpa[Cr,d3,d7] using hK w1 (UF true) rfl (hx.trans (hb1.mono hx.size)) (DJ.of_below hb1)
    ·have d8:t 8=_:=hdep ⟨8,.data⟩ AM rfl;clear hdep;go_simp;simpa[Cr,d8] using hK w' (UF false) rfl hx (DJ.refl _)
  ·go_wp2
   go_ret
   exact⟨rfl,hbel⟩
theorem MQ (v v':Value) (zs:List Int) (ps:List PD) (f:Int) (d:Bool) (w:World) (h:Ei w v zs ps f d) (h':Ei w v' zs ps f d) (hz:zs.length<=1048576) (hn:ps.length<=1048576) (hps:∀ i,(ps.getD i (0,[])).2.length<=1048576) :
  Calls Tryz.prog 11 #[v,v'] w λe w'=>e=UQ (UF true)/\Below w.heap.size w w':=by
 obtain⟨a,c,x,cx,rfl,hA,hP,_⟩:=h;obtain⟨a',c',x',cx',rfl,hA',hP',_⟩:=h';generalize hl:zs.length=L at *;generalize hm:ps.length=m at *;have e2:(f != f)=false:=AM
 have e3:(d != d)=false:=AM
 have e4:(d == d)=true:=AM
 have hB:=((Ad w.heap.size w).alloc Cw (UP #[UD a L c,UD x m cx,UE UO f,UF d] 40)).alloc AM (UP #[UD a' L c',UD x' m cx',UE UO f,UF d] 40);have A2:=hA.below hB;have A2':=hA'.below hB;have P2:=hP.below hB;have P2':=hP'.below hB;have HB:AP _:=hB;have HP:AP _:=Ac P2 P2';clear hB P2 P2' hA hA' hP hP';go_enter Tryz.func11,Tryz.ntmps11;go_wp2_with fail;refine(Ic _ _ L _ _ zs _ hl hz A2 A2').mono ?_;rintro e w1 ⟨rfl,q,rfl⟩;clear A2 A2';go_wp2_with fail;have hD:∀ ww:World,Below ww.heap.size ww (ww.drewN q):=λww=>Gb Cs q
 refine(OR x x' m cx cx' ps _ hm hn (FY.below HP.o.1 (hD _)) (FY.below HP.o.2 (hD _)) hps).mono ?_;rintro e w2 ⟨rfl,hb2⟩;have n2:w2.heap[w.heap.size]?=UI (UP #[UD a L c,UD x m cx,UE UO f,UF d] 40 (0,0)):=by
  rw[hb2.block _ (by simp[World.drewN];omega)];show((w.alloc _).alloc _).heap[w.heap.size]?=_
  rw[((Ad _ (w.alloc (UP #[UD a L c,UD x m cx,UE UO f,UF d] 40))).alloc Cw _).block _ AM];exact AV w _
 have n3:w2.heap[w.heap.size+1]?=UI (UP #[UD a' L c',UD x' m cx',UE UO f,UF d] 40 (0,0)):=by
  rw[hb2.block _ (by simp[World.drewN])];have:=AV (w.alloc (UP #[UD a L c,UD x m cx,UE UO f,UF d] 40)) (UP #[UD a' L c',UD x' m cx',UE UO f,UF d] 40);simpa using this
 have hB2:Below w.heap.size w w2:=(Gb HB.o q).trans (hb2.mono (by simp[World.drewN];omega));have c2:=AA n2 2;have c3:=AA n2 3;have d2:=AA n3 2;have d3:=AA n3 3;simp at c2 c3 d2 d3;have HB2:AP _:=hB2;clear n2 n3 hb2 hB2 hD HB HP;go_wp2
 go_ret
 exact⟨rfl,HB2.o⟩
def OA (S:Nat) (p:PD):Prop:=0<=p.1/\p.1<(S:Int)/\p.2.length=64
def EA (L m:Nat) (f:Int):Prop:=L%64=0/\8<=L/64/\L/64<=256/\m<=1000/\-1<=f/\f<=1000000
def C5 (L:Nat) (ps:List PD) (f:Int):Bool:=@decide (EA L ps.length f) (by unfold EA;infer_instance) && ps.all (λp=>@decide (OA (L/64) p) (by unfold OA;infer_instance))
theorem IL {L:Nat} {ps:List PD} {f:Int} (h:¬ EA L ps.length f):C5 L ps f=false:=by unfold C5;simp[h]
theorem F8 {L:Nat} {ps:List PD} {f:Int} {k:Nat} (hk:k<ps.length) (h:¬ OA (L/64) (ps.getD k (0,[]))):C5 L ps f=false:=by
 unfold C5;rw[Bool.and_eq_false_iff];right;rw[List.all_eq_false];refine⟨ps[k],Ba hk,?_⟩;simpa[hk] using h
theorem F9 {L:Nat} {ps:List PD} {f:Int} (h:EA L ps.length f) (h':∀ i,i<ps.length->OA (L/64) (ps.getD i (0,[]))):C5 L ps f=true:=by
 unfold C5;rw[CF];refine⟨by simpa using h,?_⟩;rw[BM];intro p hp;obtain⟨k,hk,rfl⟩:=List.mem_iff_getElem.1 hp;simpa[hk] using h' k hk
theorem E7 {a b:Bool} (h:a=b):UQ (UF a)=UQ (UF b):=by rw[h]
theorem Fv (v:Value) (zs:List Int) (ps:List PD) (f:Int) (d:Bool) (w:World) (h:Ei w v zs ps f d) (hz:zs.length<=1048576) (hn:ps.length<=1048576) (hps:∀ i,(ps.getD i (0,[])).2.length<=1048576) :
  Calls Tryz.prog 27 #[v] w λe w'=>e=UQ (UF (C5 zs.length ps f))/\Below w.heap.size w w':=by
 obtain⟨a,c,x,cx,rfl,hA,hP,_⟩:=h;generalize zs.length=L at *;by_cases hb:EA L ps.length f
 ·obtain⟨b1,b2,b3,b4,b5,b6⟩:=hb;have HP:=hP;generalize hm:ps.length=m at *;have hB:=((Ad w.heap.size w).alloc Cw (UP #[UD a L c,UD x m cx,UE UO f,UF d] 40)).alloc AM (UP #[UD a L c,UD x m cx,UE UO f,UF d] 40);have P2:=hP.below hB;have HB:AP _:=hB;have HP2:AP _:=P2;clear hB P2 hP HP hA;have t1:((L:Int)%64 != 0)=false:=by simp;omega
  have t2:¬ ((L:Int)/64<8):=AK
  have t3:¬ (256<(L:Int)/64):=AK
  have t4:¬ (1000<(m:Int)):=AK
  have t5:¬ (f < -1):=AK
  have t6:¬ (1000000<f):=AK
  go_enter Tryz.func27,Tryz.ntmps27;go_wp2
  go_loop [4] (λi=>∃ k:Nat,k<=m/\i=UE UO k/\∀ i,i<k->OA (L/64) (ps.getD i (0,[]))) (λi=>m-(intOf i).toNat)
  case atStart=>exact⟨0,Aj _,rfl,λi hi=>AK⟩
  case round=>
   obtain⟨k,hk,rfl,hall⟩:=hrel;by_cases hlt:k<m
   ·obtain⟨b,off,rfl,hbl,hc⟩:=FY.get HP2.o AK;obtain⟨y,cy,g1,g2,g3⟩:=hc k AK;have HG:AP _:=hall;clear hall hc;have hp:=hps k;have HQ:AP (∀ s z,(ps.getD k (0,[])).1=s->(ps.getD k (0,[])).2.length=z->(OA (L/64) (ps.getD k (0,[]))↔(0<=s/\s<((L/64:Nat):Int)/\z=64))):=by
     rintro _ _ rfl rfl;exact Iff.rfl
    have HQ':AP _:=HQ.o _ _ rfl rfl;clear HQ;generalize (ps.getD k (0,[])).1=s at *;generalize (ps.getD k (0,[])).2.length=z at *;go_wp2;all_goals first
     |(go_ret
       refine⟨E7 (F8 (k:=k) AK ?_).symm,HB.o⟩
       rw[HQ'.o]
       rintro⟨u1,u2,u3⟩
       subst u3
       first|omega|(simp at *;omega))
     |(rename_i hgood
       refine⟨⟨k+1,AK,by go_num,λi hi=>?_⟩,by simp[intOf];omega⟩
       by_cases e:i=k
       · subst e
         rw[HQ'.o]
         have h64:((z:Int) != 64)=false:=hgood.2
         simp at h64
         omega
       · exact HG.o i AK)
   ·have hkm:k=m:=AK
    subst hkm;go_wp2
    go_ret
    exact⟨E7 (F9 (by rw[hm];exact⟨b1,b2,b3,b4,b5,b6⟩) (by rw[hm];exact hall)).symm,HB.o⟩
 ·have hv:=IL hb;generalize hm:ps.length=m at *;have HV:AP _:=hv;have HB:AP _:=hb;clear hv hb hP hA;go_enter Tryz.func27,Tryz.ntmps27;go_wp2;all_goals first
   |(go_ret;exact⟨E7 HV.o.symm,((Ad w.heap.size w).alloc Cw _).alloc AM _⟩)
   |(exfalso;apply HB.o;unfold EA;omega)
end Go.Proofs.YthmeoilbmfdhfaaGreat
