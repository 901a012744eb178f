import Derived.Test.YthmeoilbmfdhfaaGreatMOpn
import Derived.Test.YthmeoilbmfdhfaaGreatMVal
open Go.Value renaming slice->UD,int->UE,bool->UF,agg->UN
open Go.IntKind renaming i64->UO,u32->UG,u8->UH
open Go.Obj renaming cells->UP
open Go.Ending renaming returned->UQ
open Option renaming some->UI,none->UJ
open Go renaming World->UK,Value->UL
namespace Go.Proofs.YthmeoilbmfdhfaaGreat
set_option maxHeartbeats 1000000
open Go.ChangeShapes Go.WideShapes Go.ChangeAt Go.RowKit
set_option linter.unusedVariables false
def EU (k:Int) (n:Nat):List Int:=(List.range n).map (λi:Nat=>(k+(i:Int))%256)
theorem EH (k:Int) (n:Nat):(EU k n).length=n:=by simp[EU]
theorem JS (k:Int) (n i:Nat) (h:i<n):(EU k n).getD i 0=(k+i)%256:=by simp[EU,h]
theorem Gm (a:Option Addr) (n cap:Nat) (k:Int) (w:UK) (ho:Df w a n) (hk:0<=k) (hk':k+n<=1099511627776) :
  Calls Tryz.prog 20 #[UD a n cap,UE UO k] w λe w'=>e=UQ (UE UO (k+n))/\At UH w' a (EU k n)/\Hb a w w':=by
 go_enter Tryz.func20,Tryz.ntmps20;go_wp2
 go_loopw [1,5] (λq i wr=>∃ j:Nat,j<=n/\i=UE UO j/\q=UE UO (k+j)/\Hb a w wr/\
   (n=0\/∃ g o,a=UI ⟨g,o,UJ⟩/\g<w.heap.size/\(∀ t,t<n->(wr.cell? ⟨g,o+t,UJ⟩).isSome=true/\wr.frozen? ⟨g,o+t,UJ⟩=false)/\∀ t,t<j->wr.cell? ⟨g,o+t,UJ⟩=UI (UE UH ((k+(t:Int))%256)))) (λ_ i _=>n-(intOf i).toNat)
 case atStart=>
  refine⟨0,Aj _,rfl,AM,Hb.refl _ _,?_⟩;rcases ho with h|⟨g,o,h1,h2,h3⟩
  ·exact .inl h
  ·exact .inr ⟨g,o,h1,h2,h3,λt ht=>AK⟩
 case round=>
  obtain⟨j,hj,rfl,rfl,hwr,hs⟩:=hrel;by_cases hlt:j<n
  ·rcases hs with h|⟨g,o,rfl,hg,hc,hd⟩
   ·omega
   ·obtain⟨hc1,hf1⟩:=hc j hlt;obtain⟨v0,hv0⟩:=Av.1 hc1;have HW:AP (Hb (UI ⟨g,o,UJ⟩) w (wr.setCell ⟨g,o+j,UJ⟩ (UE UH ((k+(j:Int))%256)))):=hwr.setCell _ rfl _ _;have HC:AP (∀ t,t<n->((wr.setCell ⟨g,o+j,UJ⟩ (UE UH ((k+(j:Int))%256))).cell? ⟨g,o+t,UJ⟩).isSome=true/\(wr.setCell ⟨g,o+j,UJ⟩ (UE UH ((k+(j:Int))%256))).frozen? ⟨g,o+t,UJ⟩=false):=by
     intro t ht;obtain⟨u,hu⟩:=Av.1 (hc t ht).1;obtain⟨u',hu'⟩:=cell?_setCell_some (w:=wr) (p:=⟨g,o+j,UJ⟩) (x:=UE UH ((k+(j:Int))%256)) (q:=⟨g,o+t,UJ⟩) (v:=u) hu;refine⟨by rw[hu'];rfl,?_⟩;rw[CH];exact(hc t ht).2
    have HD:AP (∀ t,t<j+1->(wr.setCell ⟨g,o+j,UJ⟩ (UE UH ((k+(j:Int))%256))).cell? ⟨g,o+t,UJ⟩=UI (UE UH ((k+(t:Int))%256))):=by
     intro t ht;by_cases e:t=j
     ·subst e;exact BQ _ _ _ hv0
     ·rw[BG _ _ _ _ (by simp;try omega)];exact hd t AK
    clear hc hd hwr ho hc1;go_wp2;go_roundw
    case rel=>exact⟨j+1,AK,by go_num,by go_num,HW.o,.inr ⟨g,o,rfl,hg,HC.o,HD.o⟩⟩
    case measure=>simp[intOf];omega
  ·have hjn:j=n:=AK
   subst hjn;have HA:AP (At UH wr a (EU k j)):=by
    rcases hs with h|⟨g,o,rfl,hg,hc,hd⟩
    ·subst h;exact .inl rfl
    ·exact .inr ⟨g,o,rfl,by rw[hwr.size];exact hg,λi hi=>by rw[EH] at hi;rw[hd i hi,JS k j i hi]⟩
   clear hs ho;go_wp2
   go_ret
   exact⟨rfl,HA.o,hwr⟩
abbrev PD:=Int×List Int
def FY (w:UK) (a:Option Addr) (ps:List PD):Prop:=
 ps=[]\/∃ b off,a=UI ⟨b,off,UJ⟩/\b<w.heap.size/\∀ i,i<ps.length->∃ x c,w.cell? ⟨b,off+i*2,UJ⟩=UI (UE UO (ps.getD i (0,[])).1)/\
  w.cell? ⟨b,off+i*2+1,UJ⟩=UI (UD x (ps.getD i (0,[])).2.length c)/\At UH w x (ps.getD i (0,[])).2
theorem FY.get {w:UK} {a:Option Addr} {ps:List PD} (h:FY w a ps) (hz:0<ps.length) :
  ∃ b off,a=UI ⟨b,off,UJ⟩/\b<w.heap.size/\∀ i,i<ps.length->∃ x c,w.cell? ⟨b,off+i*2,UJ⟩=UI (UE UO (ps.getD i (0,[])).1)/\
  w.cell? ⟨b,off+i*2+1,UJ⟩=UI (UD x (ps.getD i (0,[])).2.length c)/\At UH w x (ps.getD i (0,[])).2:=by
 rcases h with h|h
 ·simp[h] at hz
 ·exact h
theorem FY.below {w w':UK} {a:Option Addr} {ps:List PD} (h:FY w a ps) (hb:Below w.heap.size w w'):FY w' a ps:=by
 rcases h with h|⟨b,off,rfl,hl,hc⟩
 ·exact .inl h
 ·exact .inr ⟨b,off,rfl,AG hb.size,λi hi=>by
   obtain⟨x,c,h1,h2,h3⟩:=hc i hi;exact⟨x,c,by rw[hb.cell (p:=⟨b,off+i*2,UJ⟩) hl];exact h1,by rw[hb.cell (p:=⟨b,off+i*2+1,UJ⟩) hl];exact h2,h3.below hb⟩⟩
def Db (ps:List PD):Nat:=(ps.map (λp=>p.2.length)).sum
theorem IJ (ps:List PD) (k:Nat) (h:k<ps.length):Db (ps.take (k+1))=Db (ps.take k)+(ps.getD k (0,[])).2.length:=by
 rw[BO h];unfold Db;rw[BY,List.sum_append];simp[h]
theorem IK (ps:List PD) (k:Nat):Db (ps.take k)<=Db ps:=by
 conv=>rhs;rw[<-List.take_append_drop k ps]
 unfold Db;rw[BY,List.sum_append];omega
def JI (left:Int) (n:Nat):Int:=if left<n then -1 else left-n
theorem Jt (a:Option Addr) (n cap:Nat) (left:Int) (w:UK) (h0:0<=left) (h1:left<=1048576) (hn:n<=9223372036854775807) :
  Calls Tryz.prog 25 #[UD a n cap,UE UO left] w λe w'=>e=UQ (UE UO (JI left n))/\w'=w:=by
 have HZ:AP (JI left n=if left<n then -1 else left-n):=rfl;by_cases h:left<n
 ·have t:left-(n:Int)<0:=AK
  go_enter Tryz.func25,Tryz.ntmps25;go_wp2
  go_ret
  exact⟨DW (by rw[HZ.o,AR h]),rfl⟩
 ·have t:¬ (left-(n:Int)<0):=AK
  go_enter Tryz.func25,Tryz.ntmps25;go_wp2
  go_ret
  exact⟨DW (by rw[HZ.o,AS AK]),rfl⟩
theorem MO (s:Int) (x:Option Addr) (n c:Nat) (left:Int) (w:UK) (h0:0<=left) (h1:left<=1048576) (hn:n<=9223372036854775807) :
  Calls Tryz.prog 67 #[UN #[UE UO s,UD x n c],UE UO left] w λe w'=>e=UQ (UE UO (JI left n))/\Below w.heap.size w w':=by
 have HZ:AP (JI left n=if left<n then -1 else left-n):=rfl;have hb:=(Ad w.heap.size w).alloc Cw (UP #[UE UO s,UD x n c] 105);go_enter Tryz.func67,Tryz.ntmps67;go_wp2_with (go_at_call 25;refine(Jt _ _ _ _ _ h0 h1 hn).mono ?_;rintro e w1 ⟨rfl,rfl⟩)
 ·go_ret
  refine⟨DW ?_,hb⟩
  rename_i h
  rw[HZ.o] at h |-;split<;>simp_all<;>omega
 ·go_ret
  exact⟨rfl,hb⟩
theorem OG (a:Option Addr) (n cap:Nat) (ps:List PD) (left:Int) (w:UK) (hl:ps.length=n) (h0:0<=left) (h1:left<=1048576) (hn:n<=9223372036854775807) (ha:FY w a ps) (hps:∀ i,(ps.getD i (0,[])).2.length<=9223372036854775807) :
  Calls Tryz.prog 26 #[UD a n cap,UE UO left] w λe w'=>e=UQ (UE UO (JI left (n+Db ps)))/\Below w.heap.size w w':=by
 have HZ:AP (∀ left n,JI left n=if left<n then -1 else left-n):=λ_ _=>rfl
 by_cases h:left<n
 ·have t:left-(n:Int)<0:=AK
  go_enter Tryz.func26,Tryz.ntmps26;go_wp2
  go_ret
  exact⟨DW (by rw[HZ.o,AR AK]),Ad _ _⟩
 have t:¬ (left-(n:Int)<0):=AK
 go_enter Tryz.func26,Tryz.ntmps26;go_wp2
 go_loopw [1,5] (λq i wr=>∃ k:Nat,k<=n/\i=UE UO k/\q=UE UO (left-n-Db (ps.take k))/\0<=left-n-Db (ps.take k)/\Below w.heap.size w wr) (λ_ i _=>n-(intOf i).toNat)
 case atStart=>exact⟨0,Aj _,rfl,by simp[Db],by simp[Db];omega,Ad _ _⟩
 case round=>
  obtain⟨k,hk,rfl,rfl,hpos,hbel⟩:=hrel;by_cases hlt:k<n
  ·have hps':=hps k;have hsn:=IJ ps k AK;have hst:=IK ps (k+1);obtain⟨b,off,rfl,hb,hc⟩:=(ha.below hbel).get AK;obtain⟨x,c,h1,h2,h3⟩:=hc k AK;generalize (ps.getD k (0,[])).1=s at *;generalize (ps.getD k (0,[])).2.length=m at *;clear hc ha;by_cases hneg:left-n-Db (ps.take k)<m
   ·have hr:JI (left-n-Db (ps.take k)) m=-1:=by rw[HZ.o,AR hneg]
    have e:=HZ.o left (n+Db ps);rw[AR AK] at e;go_wp2_with (go_at_call 67;refine(MO _ _ _ _ _ _ hpos AK hps').mono ?_;rintro e w1 ⟨rfl,hb1⟩;rw[hr])
    go_ret
    exact⟨DW e.symm,hbel.trans (hb1.mono hbel.size)⟩
   ·have hr:JI (left-n-Db (ps.take k)) m=left-n-Db (ps.take (k+1)):=by rw[HZ.o,AS hneg,hsn];omega
    have hp':0<=left-n-Db (ps.take (k+1)):=AK
    go_wp2_with (go_at_call 67;refine(MO _ _ _ _ _ _ hpos AK hps').mono ?_;rintro e w1 ⟨rfl,hb1⟩;rw[hr];have HB1:AP _:=hb1;clear hb1);go_roundw
    case rel=>exact⟨k+1,AK,by go_num,by rw[hsn,Int.natCast_add],hp',hbel.trans (HB1.o.mono hbel.size)⟩
    case measure=>simp[intOf];omega
  ·have hkn:ps.take k=ps:=An AK;rw[hkn] at hpos |-;have e:=HZ.o left (n+Db ps);go_wp2
   go_ret
   exact⟨DW (by rw[e,AS AK];omega),hbel⟩
theorem QM (a:Option Addr) (n cap:Nat) (a':Option Addr) (n' cap':Nat) (ps:List PD) (f:Int) (d:Bool) (left:Int) (w:UK) (hl:ps.length=n') (h0:0<=left) (h1:left<=1048576) (hn:n<=9223372036854775807) (hn':n'<=9223372036854775807) (ha:FY w a' ps) (hps:∀ i,(ps.getD i (0,[])).2.length<=9223372036854775807) :
  Calls Tryz.prog 6 #[UN #[UD a n cap,UD a' n' cap',UE UO f,UF d],UE UO left] w λe w'=>e=UQ (UE UO (JI left (n+(n'+Db ps))))/\Below w.heap.size w w':=by
 have HZ:AP (∀ left n,JI left n=if left<n then -1 else left-n):=λ_ _=>rfl
 have hb:=(Ad w.heap.size w).alloc Cw (UP #[UD a n cap,UD a' n' cap',UE UO f,UF d] 25);have ha1:=ha.below hb;by_cases hc:left<n
 ·have hr:JI left n=-1:=by rw[HZ.o,AR hc]
  have e0:=HZ.o left (n+(n'+Db ps));rw[AR AK] at e0;go_enter Tryz.func6,Tryz.ntmps6;go_wp2_with (go_at_call 25;refine(Jt _ _ _ _ _ h0 h1 hn).mono ?_;rintro e w1 ⟨rfl,rfl⟩;rw[hr])
  go_ret
  exact⟨DW e0.symm,hb⟩
 ·have hr:JI left n=left-n:=by rw[HZ.o,AS hc]
  have hpos:0<=left-(n:Int):=AK
  have hd:JI left (n+(n'+Db ps))=JI (left-n) (n'+Db ps):=by
   rw[HZ.o,HZ.o];by_cases h:left<((n+(n'+Db ps):Nat):Int)
   ·rw[AR h,AR AK]
   ·rw[AS h,AS AK];omega
  have hd':JI (left-n) (n'+Db ps)<0->JI (left-n) (n'+Db ps)=-1:=by
   rw[HZ.o];split<;>omega
  have HD:AP _:=hd;have HD':AP _:=hd';clear hd hd';go_enter Tryz.func6,Tryz.ntmps6;go_wp2_with (first
   |(go_at_call 25;refine(Jt _ _ _ _ _ h0 h1 hn).mono ?_;rintro e w1 ⟨rfl,rfl⟩;rw[hr])
   |(go_at_call 26;refine(OG _ _ _ ps _ _ hl hpos AK hn' ha1 hps).mono ?_;rintro e w2 ⟨rfl,hb2⟩;have HB2:AP _:=hb2;clear hb2))
  ·go_ret
   rename_i hneg
   exact⟨DW (by rw[HD.o,HD'.o hneg]),hb.trans (HB2.o.mono hb.size)⟩
  ·go_ret
   exact⟨DW HD.o.symm,hb.trans (HB2.o.mono hb.size)⟩
theorem KZ {w:UK} {B g n:Nat} {zs:List Int} {e:TypeId} (h:w.ownsRow B e 1 (UD (UI ⟨g,0,UJ⟩) n n) n (zs.map (Value.int UH))):w.heap[g]?=UI (UP (zs.map (Value.int UH)).toArray e (0,0)):=by
 obtain⟨h1,⟨h2,_⟩|⟨g',cap,cur,hv,hb,hh,hc,hm,hs,ht⟩⟩:=h
 ·cases h2
 ·cases hv;rw[An (by simp;omega)] at ht;rw[hh,<-ht]
theorem QN (s:Int) (x:Option Addr) (n c:Nat) (zs:List Int) (w:UK) (hn:zs.length=n) (hm:n<=1048576) (ha:At UH w x zs) :
  Calls Tryz.prog 75 #[UN #[UE UO s,UD x n c]] w λe w'=>∃ g,e=UQ (UN #[UE UO s,UD (UI ⟨g,0,UJ⟩) n n])/\w.heap.size<=g/\w'.heap[g]?=UI (UP (zs.map (Value.int UH)).toArray 5 (0,0))/\Below w.heap.size w w':=by
 go_enter Tryz.func75,Tryz.ntmps75;go_wp2_with fail;have hb:=(((Ad w.heap.size w).alloc Cw (UP #[UE UO s,UD x n c] 105)).alloc AM (UP #[UE UO 0,UD UJ 0 0] 106)).alloc (by simp;omega) (UP #[UE UO s,UD UJ 0 0] 106);have h2:(((w.alloc (UP #[UE UO s,UD x n c] 105)).alloc (UP #[UE UO 0,UD UJ 0 0] 106)).alloc (UP #[UE UO s,UD UJ 0 0] 106)).heap[w.heap.size+1+1]?=UI (UP #[UE UO s,UD UJ 0 0] 106 (0,0)):=by
  have:=AV ((w.alloc (UP #[UE UO s,UD x n c] 105)).alloc (UP #[UE UO 0,UD UJ 0 0] 106)) (UP #[UE UO s,UD UJ 0 0] 106);simpa using this
 have h1:(((w.alloc (UP #[UE UO s,UD x n c] 105)).alloc (UP #[UE UO 0,UD UJ 0 0] 106)).alloc (UP #[UE UO s,UD UJ 0 0] 106)).heap[w.heap.size+1]?=UI (UP #[UE UO 0,UD UJ 0 0] 106 (0,0)):=by
  rw[((Ad _ ((w.alloc (UP #[UE UO s,UD x n c] 105)).alloc (UP #[UE UO 0,UD UJ 0 0] 106))).alloc Cw _).block _ AM];have:=AV (w.alloc (UP #[UE UO s,UD x n c] 105)) (UP #[UE UO 0,UD UJ 0 0] 106);simpa using this
 have hz3:(((w.alloc (UP #[UE UO s,UD x n c] 105)).alloc (UP #[UE UO 0,UD UJ 0 0] 106)).alloc (UP #[UE UO s,UD UJ 0 0] 106)).heap.size=w.heap.size+3:=AM
 generalize (((w.alloc (UP #[UE UO s,UD x n c] 105)).alloc (UP #[UE UO 0,UD UJ 0 0] 106)).alloc (UP #[UE UO s,UD UJ 0 0] 106))=w3 at *;have ha3:=ha.below hb;have HZ3:AP _:=hz3;clear hz3;refine(Jl x n c zs w3 hn hm ha3).mono ?_;rintro e w4 ⟨rfl,ho4,hb4⟩;have k2:w4.heap[w.heap.size+1+1]?=UI (UP #[UE UO s,UD UJ 0 0] 106 (0,0)):=by rw[hb4.block _ (AG HZ3.o)];exact h2
 have k1:w4.heap[w.heap.size+1]?=UI (UP #[UE UO 0,UD UJ 0 0] 106 (0,0)):=by rw[hb4.block _ (AG HZ3.o)];exact h1
 have c20:=AA k2 0;have c21:=AA k2 1;have c10:=AA k1 0;have c11:=AA k1 1;have f2:=Ag w4 (w.heap.size+1+1) 1 _ _ k2;have f10:=Ag w4 (w.heap.size+1) 0 _ _ k1;have f11:=Ag w4 (w.heap.size+1) 1 _ _ k1;simp at c20 c21 c10 c11;have hv:w4.heap[w3.heap.size]?=UI (UP (zs.map (Value.int UH)).toArray 5 (0,0)):=KZ ho4;have HV:AP _:=hv;have HB4:AP _:=hb4;have HB3:AP _:=hb;have K1:AP _:=k1;clear ho4 hb4 hb k1 k2 h1 h2 ha ha3 hv;go_wp2;have K2:=A9 _ (w.heap.size+1) 0 _ _ (UE UO s) ((Ah w4 ⟨w.heap.size+1+1,1,UJ⟩ (w.heap.size+1) (UD (UI ⟨w3.heap.size,0,UJ⟩) n n) AM).trans K1.o);have K3:=A9 _ (w.heap.size+1) 1 _ _ (UD (UI ⟨w3.heap.size,0,UJ⟩) n n) K2;have hz3:=HZ3.o;refine AZ (v:=UN #[UE UO s,UD (UI ⟨w3.heap.size,0,UJ⟩) n n]) (AW rfl _ _ (w.heap.size+1) 106 _ (0,0) _ rfl K3 Tryz.underlying106 rfl AN) rfl ⟨w3.heap.size,rfl,AK,?_,?_⟩
 ·rw[Ah _ _ _ _ (by simp;omega),Ah _ _ _ _ (by simp;omega),Ah _ _ _ _ (by simp;omega)];exact HV.o
 ·exact(((HB3.o.trans (HB4.o.mono AK)).setCell (by simp;omega) _).setCell AM _).setCell AM _
theorem Tryz.infoPend:(Tryz.prog.info? 106).map (λi=>(i.zero,i.size,i.bytes))=UI (UI (UN #[UE UO 0,UD UJ 0 0]),2,32):=AN
structure TP (w wr:UK) (g n:Nat) (X:Nat->Nat) (ps:List PD) (k:Nat):Prop where
 below:Below w.heap.size w wr
 blk:∃ cur,wr.heap[g]?=UI (UP cur 106 (0,0))/\cur.size=n*2/\∀ i,i<k->cur[i*2]?=UI (UE UO (ps.getD i (0,[])).1)/\cur[i*2+1]?=UI (UD (UI ⟨X i,0,UJ⟩) (ps.getD i (0,[])).2.length (ps.getD i (0,[])).2.length)
 rows:∀ i,i<k->DP wr (X i) 5 (ps.getD i (0,[])).2/\g<X i
 ord:∀ i j,i<j->j<k->X i<X j
def Dq (B U:Nat) (w:UK) (a:Option Addr) (ps:List PD):Prop:=
 ps=[]\/∃(g o:Nat) (X:Nat->Option Addr) (C:Nat->Nat),a=UI ⟨g,o,UJ⟩/\B<=g/\g<U/\U<=w.heap.size/\
  (∀ i,i<ps.length->w.cell? ⟨g,o+i*2,UJ⟩=UI (UE UO (ps.getD i (0,[])).1)/\w.frozen? ⟨g,o+i*2,UJ⟩=false/\w.cell? ⟨g,o+i*2+1,UJ⟩=UI (UD (X i) (ps.getD i (0,[])).2.length (C i))/\
   At UH w (X i) (ps.getD i (0,[])).2/\Df w (X i) (ps.getD i (0,[])).2.length/\(∀ ad,X i=UI ad->B<=ad.block/\ad.block<U/\ad.block≠g)/\(ps.getD i (0,[])).2.length<=C i)/\
  ∀ i j ad ad',i<ps.length->j<ps.length->i≠j->X i=UI ad->X j=UI ad'->ad.block≠ad'.block
theorem Dq.at_ {B U:Nat} {w:UK} {a:Option Addr} {ps:List PD} (h:Dq B U w a ps):FY w a ps:=by
 rcases h with h|⟨g,o,X,C,ha,_,hg,hU,h1,_⟩
 ·exact .inl h
 ·exact .inr ⟨g,o,ha,AK,λi hi=>⟨X i,C i,(h1 i hi).1,(h1 i hi).2.2.1,(h1 i hi).2.2.2.1⟩⟩
theorem Dq.below {B U:Nat} {w w':UK} {a:Option Addr} {ps:List PD} (h:Dq B U w a ps) (hb:Below w.heap.size w w'):Dq B U w' a ps:=by
 have hs:=hb.size;rcases h with h|⟨g,o,X,C,ha,hB,hg',hU,h1,h2⟩
 ·exact .inl h
 ·have hg:g<w.heap.size:=AK
  refine .inr ⟨g,o,X,C,ha,hB,hg',AK,λi hi=>?_,h2⟩;obtain⟨p1,p2,p3,p4,p5,p6⟩:=h1 i hi;exact⟨by rw[hb.cell (p:=⟨g,o+i*2,UJ⟩) hg];exact p1,by rw[hb.frozen (p:=⟨g,o+i*2,UJ⟩) hg];exact p2,by rw[hb.cell (p:=⟨g,o+i*2+1,UJ⟩) hg];exact p3,p4.below hb,p5.below hb,
   p6⟩
theorem DP.open_ {w:UK} {g:Nat} {t:TypeId} {zs:List Int} (h:DP w g t zs):Df w (UI ⟨g,0,UJ⟩) zs.length:=
 .inr ⟨g,0,rfl,h.lt,λi hi=>by rw[Ak];exact⟨by rw[h.cell i hi];rfl,h.frozen i⟩⟩
theorem TP.mine {w wr:UK} {g n:Nat} {X:Nat->Nat} {ps:List PD} (h:TP w wr g n X ps ps.length) (hg:w.heap.size<=g):Dq w.heap.size wr.heap.size wr (UI ⟨g,0,UJ⟩) ps:=by
 obtain⟨cur,h1,h2,h3⟩:=h.blk;refine .inr ⟨g,0,λi=>UI ⟨X i,0,UJ⟩,λi=>(ps.getD i (0,[])).2.length,rfl,hg,(AQ.1 h1).1,AY _,λi hi=>?_,λi j ad ad' hi hj hij e e'=>?_⟩
 ·obtain⟨c1,c2⟩:=h3 i hi;obtain⟨r1,r2⟩:=h.rows i hi;refine⟨by rw[Bg wr g _ cur _ _ h1,Ak];exact c1,Ag wr g _ cur _ h1,by rw[Bg wr g _ cur _ _ h1,Ak];exact c2,r1.at_,r1.open_,λad e=>?_,AY _⟩;cases e;exact⟨by show w.heap.size<=X i;omega,r1.lt,by show X i≠g;omega⟩
 ·cases e;cases e';show X i≠X j
  rcases Nat.lt_or_ge i j with h'|h'
  ·have:=h.ord i j h' hj;omega
  ·have:=h.ord j i AK hi;omega
theorem TP.step {w wr w1:UK} {g n k g1:Nat} {X:Nat->Nat} {ps:List PD} (h:TP w wr g n X ps k) (hk:k<n) (hg:w.heap.size<=g) (hb:Below wr.heap.size wr w1) (hg1:wr.heap.size<=g1) (hr:DP w1 g1 5 (ps.getD k (0,[])).2) :
  TP w ((w1.setCell ⟨g,k*2,UJ⟩ (UE UO (ps.getD k (0,[])).1)).setCell ⟨g,k*2+1,UJ⟩ (UD (UI ⟨g1,0,UJ⟩) (ps.getD k (0,[])).2.length (ps.getD k (0,[])).2.length)) g n (λi=>if i=k then g1 else X i) ps (k+1):=by
 obtain⟨cur,h1,h2,h3⟩:=h.blk;have hgl:=(AQ.1 h1).1;have h1':w1.heap[g]?=UI (UP cur 106 (0,0)):=by rw[hb.block g hgl];exact h1
 have e1:=A9 w1 g (k*2) _ _ (UE UO (ps.getD k (0,[])).1) h1';have e2:=A9 _ g (k*2+1) _ _ (UD (UI ⟨g1,0,UJ⟩) (ps.getD k (0,[])).2.length (ps.getD k (0,[])).2.length) e1;refine⟨((h.below.trans (hb.mono h.below.size)).setCell hg _).setCell hg _,⟨_,e2,by simp[h2],λi hi=>?_⟩,λi hi=>?_,λi j hij hj=>?_⟩
 ·by_cases e:i=k
  ·subst e;refine⟨?_,?_⟩
   ·rw[BB AK,BZ AK]
   ·rw[BZ (by simp;omega)];simp
  ·obtain⟨c1,c2⟩:=h3 i AK;refine⟨?_,?_⟩
   ·rw[BB AK,BB AK];exact c1
   ·rw[BB AK,BB AK,AS e];exact c2
 ·by_cases e:i=k
  ·subst e;rw[AR rfl];refine⟨?_,AK⟩;unfold DP;rw[Ah _ _ _ _ (by show g1≠g;omega),Ah _ _ _ _ (by show g1≠g;omega)];exact hr
  ·rw[AS e];obtain⟨r1,r2⟩:=h.rows i AK;refine⟨?_,r2⟩;unfold DP;rw[Ah _ _ _ _ (by show X i≠g;omega),Ah _ _ _ _ (by show X i≠g;omega),hb.block _ r1.lt];exact r1
 ·have hiX:X i<wr.heap.size:=(h.rows i AK).1.lt;rw[AS AK];by_cases e:j=k
  ·rw[AR e];omega
  ·rw[AS e];exact h.ord i j hij AK
theorem OH (a:Option Addr) (n cap:Nat) (ps:List PD) (w:UK) (hl:ps.length=n) (hn:n<=1048576) (ha:FY w a ps) (hps:∀ i,(ps.getD i (0,[])).2.length<=1048576) :
  Calls Tryz.prog 33 #[UD a n cap] w λe w'=>e=UQ (UD (UI ⟨w.heap.size,0,UJ⟩) n n)/\Dq w.heap.size w'.heap.size w' (UI ⟨w.heap.size,0,UJ⟩) ps/\Below w.heap.size w w':=by
 obtain⟨i0,hi,hz0,hz1,hz2⟩:=Be Tryz.infoPend;have HI:AP (i0.bytes=32):=hz2;clear hz2;go_enter Tryz.func33,Tryz.ntmps33;go_wp2_with (first
  |(at_make;refine wpList_make_full _ rfl _ _ 38 rfl w.heap.size 106 i0 (UN #[UE UO 0,UD UJ 0 0]) 2 Tryz.underlying38 hi hz0 hz1 _ _ _ _ n rfl rfl rfl rfl ?c1 ?c2 ?c3 ?_)
  |fail)
 case c1=>rw[HI.o];omega
 case c2=>unfold maxLen;omega
 case c3=>exact AY _
 intro w1 hown hgrow;have hb1:Below w.heap.size w w1:=Cs.grown hgrow Cw AM;have hst:TP w w1 w.heap.size n (λ_=>0) ps 0:=by
  obtain⟨h1,⟨h2,_⟩|⟨g',cap,cur,hv,hb,hh,hc,hm,hs,ht⟩⟩:=hown
  ·cases h2
  ·cases hv;exact⟨hb1,⟨cur,hh,hs,λi hi=>AK⟩,λi hi=>AK,λi j _ hj=>AK⟩
 clear hown hgrow hb1;have HST:AP _:=hst;clear hst;go_wp2;have hst:=HST.o
 go_loopw [4] (λi wr=>∃(k:Nat) (X:Nat->Nat),k<=n/\i=UE UO k/\TP w wr w.heap.size n X ps k) (λi _=>n-(intOf i).toNat)
 case atStart=>exact⟨0,_,Aj _,rfl,hst⟩
 case round=>
  obtain⟨k,X,hk,rfl,st⟩:=hrel;by_cases hlt:k<n
  ·obtain⟨b,off,rfl,hb,hc⟩:=(ha.below st.below).get AK;obtain⟨x,c,h1,h2,h3⟩:=hc k AK;obtain⟨cur,c1,c2,c3⟩:=st.blk;have hgl:=(AQ.1 c1).1;have HST1:AP _:=st;have HC1:AP _:=c1;have hp:=hps k;clear hc ha c3 HST st c1 hst;generalize hs:(ps.getD k (0,[])).1=s at *;generalize hzs:(ps.getD k (0,[])).2=zs at *;have HS:AP _:=hs;have HZS:AP _:=hzs;clear hs hzs;go_wp2_with fail;refine(QN s x zs.length c zs wr rfl hp h3).mono ?_;rintro e w2 ⟨g1,rfl,hg1,hr1,hb2⟩;have HR1:AP (DP w2 g1 5 zs):=hr1;have k1:w2.heap[w.heap.size]?=UI (UP cur 106 (0,0)):=by rw[hb2.block _ hgl];exact HC1.o
   have d0:w2.cell? ⟨w.heap.size,k*2,UJ⟩=UI (cur[k*2]' AK):=by rw[AA k1 _];simp
   have d1:w2.cell? ⟨w.heap.size,k*2+1,UJ⟩=UI (cur[k*2+1]' AK):=by rw[AA k1 _];simp
   have f0:=Ag w2 w.heap.size (k*2) _ _ k1;have f1:=Ag w2 w.heap.size (k*2+1) _ _ k1;generalize (cur[k*2]' AK)=o0 at *;generalize (cur[k*2+1]' AK)=o1 at *;have HB2:AP _:=hb2;clear hr1 k1 hb2 h1 h2 h3;go_wp2;have hend:=HST1.o.step hlt Cw HB2.o hg1 (by rw[HZS.o];exact HR1.o);rw[HS.o,HZS.o] at hend;go_roundw
   case rel=>exact⟨k+1,_,AK,by go_num,hend⟩
   case measure=>simp[intOf];omega
  ·have hkn:k=ps.length:=AK
   rw[hkn] at st;have HM:AP _:=st.mine Cw;have HB:AP _:=st.below;clear st HST hst;go_wp2
   go_ret
   exact⟨rfl,HM.o,HB.o⟩
def Ei (w:UK) (v:UL) (zs:List Int) (ps:List PD) (f:Int) (d:Bool):Prop:=
 ∃ da dc ca cc,v=UN #[UD da zs.length dc,UD ca ps.length cc,UE UO f,UF d]/\At UH w da zs/\FY w ca ps/\zs.length<=dc
def FH (B U:Nat) (w:UK) (v:UL) (zs:List Int) (ps:List PD) (f:Int) (d:Bool):Prop:=
 ∃ da dc ca cc B1,v=UN #[UD da zs.length dc,UD ca ps.length cc,UE UO f,UF d]/\At UH w da zs/\Df w da zs.length/\(∀ ad,da=UI ad->B<=ad.block/\ad.block<B1)/\B<=B1/\B1<=U/\U<=w.heap.size/\Dq B1 U w ca ps/\zs.length<=dc
theorem FH.at_ {B U:Nat} {w:UK} {v:UL} {zs:List Int} {ps:List PD} {f:Int} {d:Bool} (h:FH B U w v zs ps f d):Ei w v zs ps f d:=by
 obtain⟨da,dc,ca,cc,B1,hv,h1,_,_,_,_,_,h2,h3⟩:=h;exact⟨da,dc,ca,cc,hv,h1,h2.at_,h3⟩
theorem Ei.below {w w':UK} {v:UL} {zs:List Int} {ps:List PD} {f:Int} {d:Bool} (h:Ei w v zs ps f d) (hb:Below w.heap.size w w'):Ei w' v zs ps f d:=by
 obtain⟨da,dc,ca,cc,hv,h1,h2,h3⟩:=h;exact⟨da,dc,ca,cc,hv,h1.below hb,h2.below hb,h3⟩
theorem FH.below {B U:Nat} {w w':UK} {v:UL} {zs:List Int} {ps:List PD} {f:Int} {d:Bool} (h:FH B U w v zs ps f d) (hb:Below w.heap.size w w'):FH B U w' v zs ps f d:=by
 obtain⟨da,dc,ca,cc,B1,hv,h1,h2,h3,h4,h5,h5',h6,h7⟩:=h;exact⟨da,dc,ca,cc,B1,hv,h1.below hb,h2.below hb,h3,h4,h5,AG hb.size,h6.below hb,h7⟩
theorem At.keep {k:IntKind} {w w':UK} {a:Option Addr} {zs:List Int} (h:At k w a zs) (hk:∀ ad,a=UI ad->w'.heap[ad.block]?=w.heap[ad.block]?) (hs:w.heap.size<=w'.heap.size):At k w' a zs:=by
 rcases h with h|⟨b,off,rfl,hl,hc⟩
 ·exact .inl h
 ·exact .inr ⟨b,off,rfl,AK,λi hi=>by rw[Aa (a:=⟨b,off+i,UJ⟩) (w:=w) (hk ⟨b,off,UJ⟩ rfl)];exact hc i hi⟩
theorem FE {w w':UK} {a:Addr} (h:w'.heap[a.block]?=w.heap[a.block]?):w'.frozen? a=w.frozen? a:=by
 unfold World.frozen?;rw[h]
theorem Df.keep {w w':UK} {a:Option Addr} {n:Nat} (h:Df w a n) (hk:∀ ad,a=UI ad->w'.heap[ad.block]?=w.heap[ad.block]?) (hs:w.heap.size<=w'.heap.size):Df w' a n:=by
 rcases h with h|⟨g,o,rfl,h2,h3⟩
 ·exact .inl h
 ·exact .inr ⟨g,o,rfl,AK,λi hi=>by
   rw[Aa (a:=⟨g,o+i,UJ⟩) (w:=w) (hk ⟨g,o,UJ⟩ rfl),FE (a:=⟨g,o+i,UJ⟩) (w:=w) (hk ⟨g,o,UJ⟩ rfl)];exact h3 i hi⟩
theorem Dq.keep {B U:Nat} {w w':UK} {a:Option Addr} {ps:List PD} (h:Dq B U w a ps) (hk:∀ k,B<=k->k<U->w'.heap[k]?=w.heap[k]?) (hs:w.heap.size<=w'.heap.size):Dq B U w' a ps:=by
 rcases h with h|⟨g,o,X,C,ha,hB,hg,hU,h1,h2⟩
 ·exact .inl h
 ·refine .inr ⟨g,o,X,C,ha,hB,hg,AK,λi hi=>?_,h2⟩;obtain⟨p1,p2,p3,p4,p5,p6⟩:=h1 i hi;exact⟨by rw[Aa (a:=⟨g,o+i*2,UJ⟩) (w:=w) (hk _ hB hg)];exact p1,by rw[FE (a:=⟨g,o+i*2,UJ⟩) (w:=w) (hk _ hB hg)];exact p2,by rw[Aa (a:=⟨g,o+i*2+1,UJ⟩) (w:=w) (hk _ hB hg)];exact p3,
   p4.keep (λad e=>hk _ (p6.1 ad e).1 (p6.1 ad e).2.1) hs,p5.keep (λad e=>hk _ (p6.1 ad e).1 (p6.1 ad e).2.1) hs,
   p6⟩
theorem Du {w:UK} {g i:Nat} {cs cs':Array UL} {t:TypeId} (v:UL) (h:w.heap[g]?=UI (UP cs t (0,0))) (he:cs.setIfInBounds i v=cs'):(w.setCell ⟨g,i,UJ⟩ v).heap[g]?=UI (UP cs' t (0,0)):=by
 rw[A9 w g i cs t v h,he]
theorem QO (a:Option Addr) (n cap:Nat) (a':Option Addr) (n' cap':Nat) (zs:List Int) (ps:List PD) (f:Int) (d:Bool) (w:UK) (hn:zs.length=n) (hn':ps.length=n') (hm:n<=1048576) (hm':n'<=1048576) (ha:At UH w a zs) (ha':FY w a' ps) (hps:∀ i,(ps.getD i (0,[])).2.length<=1048576) :
  Calls Tryz.prog 8 #[UN #[UD a n cap,UD a' n' cap',UE UO f,UF d]] w λe w'=>∃ v,e=UQ v/\FH w.heap.size w'.heap.size w' v zs ps f d/\Below w.heap.size w w':=by
 go_enter Tryz.func8,Tryz.ntmps8;go_wp2_with fail;have hb:=(((Ad w.heap.size w).alloc Cw (UP #[UD a n cap,UD a' n' cap',UE UO f,UF d] 25)).alloc AM (UP Cd 40)).alloc (by simp;omega) (UP Cd 40);have hz3:(((w.alloc (UP #[UD a n cap,UD a' n' cap',UE UO f,UF d] 25)).alloc (UP Cd 40)).alloc (UP Cd 40)).heap.size=w.heap.size+3:=AM
 have h2:(((w.alloc (UP #[UD a n cap,UD a' n' cap',UE UO f,UF d] 25)).alloc (UP Cd 40)).alloc (UP Cd 40)).heap[w.heap.size+1+1]?=UI (UP Cd 40 (0,0)):=by
  have:=AV ((w.alloc (UP #[UD a n cap,UD a' n' cap',UE UO f,UF d] 25)).alloc (UP Cd 40)) (UP Cd 40);simpa using this
 have h1:(((w.alloc (UP #[UD a n cap,UD a' n' cap',UE UO f,UF d] 25)).alloc (UP Cd 40)).alloc (UP Cd 40)).heap[w.heap.size+1]?=UI (UP Cd 40 (0,0)):=by
  rw[((Ad _ ((w.alloc (UP #[UD a n cap,UD a' n' cap',UE UO f,UF d] 25)).alloc (UP Cd 40))).alloc Cw _).block _ AM];have:=AV (w.alloc (UP #[UD a n cap,UD a' n' cap',UE UO f,UF d] 25)) (UP Cd 40);simpa using this
 have h0:(((w.alloc (UP #[UD a n cap,UD a' n' cap',UE UO f,UF d] 25)).alloc (UP Cd 40)).alloc (UP Cd 40)).heap[w.heap.size]?=UI (UP #[UD a n cap,UD a' n' cap',UE UO f,UF d] 25 (0,0)):=by
  rw[((Ad _ ((w.alloc (UP #[UD a n cap,UD a' n' cap',UE UO f,UF d] 25)).alloc (UP Cd 40))).alloc Cw _).block _ (by simp;omega),
   ((Ad _ (w.alloc (UP #[UD a n cap,UD a' n' cap',UE UO f,UF d] 25))).alloc Cw _).block _ AM]
  exact AV w _
 generalize (((w.alloc (UP #[UD a n cap,UD a' n' cap',UE UO f,UF d] 25)).alloc (UP Cd 40)).alloc (UP Cd 40))=w3 at *;have ha3:=ha.below hb;have hp3:=ha'.below hb;have HZ3:AP _:=hz3;clear hz3;refine(Jl a n cap zs w3 hn hm ha3).mono ?_;rintro e w4 ⟨rfl,ho4,hb4⟩;have s4:=hb4.size;have k2:w4.heap[w.heap.size+1+1]?=UI (UP Cd 40 (0,0)):=by rw[hb4.block _ (AG HZ3.o)];exact h2
 have k1:w4.heap[w.heap.size+1]?=UI (UP Cd 40 (0,0)):=by rw[hb4.block _ (AG HZ3.o)];exact h1
 have k0:w4.heap[w.heap.size]?=UI (UP #[UD a n cap,UD a' n' cap',UE UO f,UF d] 25 (0,0)):=by rw[hb4.block _ (AG HZ3.o)];exact h0
 have hv:DP w4 w3.heap.size 5 zs:=KZ ho4;have c20:=AA k2 0;have f20:=Ag w4 (w.heap.size+1+1) 0 _ _ k2;have c01:=AA k0 1;simp at c20 c01;have hp4:=hp3.below hb4;have m2:=Du (i:=0) (UD (UI ⟨w3.heap.size,0,UJ⟩) n n) k2 rfl;have m1:=(Ah w4 ⟨w.heap.size+1+1,0,UJ⟩ (w.heap.size+1) (UD (UI ⟨w3.heap.size,0,UJ⟩) n n) AM).trans k1;have m0:=(Ah w4 ⟨w.heap.size+1+1,0,UJ⟩ (w.heap.size) (UD (UI ⟨w3.heap.size,0,UJ⟩) n n) (by simp;omega)).trans k0;have hv5:DP (w4.setCell ⟨w.heap.size+1+1,0,UJ⟩ (UD (UI ⟨w3.heap.size,0,UJ⟩) n n)) w3.heap.size 5 zs:=by
  unfold DP;rw[Ah _ _ _ _ (by have:=HZ3.o;simp;omega)];exact hv
 have hB4:Below w.heap.size w w4:=hb.trans (hb4.mono (AG HZ3.o));have hB5:Below w.heap.size w (w4.setCell ⟨w.heap.size+1+1,0,UJ⟩ (UD (UI ⟨w3.heap.size,0,UJ⟩) n n)):=hB4.setCell (by simp;omega) _;have hs5:(w4.setCell ⟨w.heap.size+1+1,0,UJ⟩ (UD (UI ⟨w3.heap.size,0,UJ⟩) n n)).heap.size=w4.heap.size:=by simp[World.setCell]
 have hp5:=ha'.below hB5;have HM2:AP _:=m2;have HM1:AP _:=m1;have HM0:AP _:=m0;have HV5:AP _:=hv5;have HB5:AP _:=hB5;have HP5:AP _:=hp5;have HS5:AP _:=hs5;have HS4:AP _:=s4;clear m2 m1 m0 hv5 hB5 hp5 hs5 s4 hv ho4 hb4 hb k2 k1 k0 h2 h1 h0 ha3 hp3 hp4 hB4 ha ha';go_wp2_with fail;refine(OH a' n' cap' ps _ hn' hm' HP5.o hps).mono ?_;rintro e w6 ⟨rfl,hP6,hb6⟩;have q2:=HM2.o;have q1:=HM1.o;have q0:=HM0.o;have qv:DP _ _ _ _:=HV5.o;have qB:=HB5.o;have qs:=HS5.o;have qs4:=HS4.o;have qz:=HZ3.o;clear HM2 HM1 HM0 HV5 HB5 HP5 HS5 HS4 HZ3 c20 c01 f20;generalize (w4.setCell { block:=w.heap.size+1+1,off:=0 } (UD (UI { block:=w3.heap.size,off:=0 }) n n))=w5 at *;have hv6:DP w6 w3.heap.size 5 zs:=by unfold DP;rw[hb6.block _ qv.lt];exact qv
 have hB6:Below w.heap.size w w6:=qB.trans (hb6.mono AK);have n2:w6.heap[w.heap.size+1+1]?=UI (UP #[UD (UI ⟨w3.heap.size,0,UJ⟩) n n,UD UJ 0 0,UE UO 0,UF false] 40 (0,0)):=by rw[hb6.block _ AK];exact q2
 have n1:w6.heap[w.heap.size+1]?=UI (UP Cd 40 (0,0)):=by rw[hb6.block _ AK];exact q1
 have n0:w6.heap[w.heap.size]?=UI (UP #[UD a n cap,UD a' n' cap',UE UO f,UF d] 25 (0,0)):=by rw[hb6.block _ AK];exact q0
 have c20:=AA n2 0;have c21:=AA n2 1;have c22:=AA n2 2;have c23:=AA n2 3;have f21:=Ag w6 (w.heap.size+1+1) 1 _ _ n2;have f22:=Ag w6 (w.heap.size+1+1) 2 _ _ n2;have f23:=Ag w6 (w.heap.size+1+1) 3 _ _ n2;have c02:=AA n0 2;have c03:=AA n0 3;have c10:=AA n1 0;have c11:=AA n1 1;have c12:=AA n1 2;have c13:=AA n1 3;have f10:=Ag w6 (w.heap.size+1) 0 _ _ n1;have f11:=Ag w6 (w.heap.size+1) 1 _ _ n1;have f12:=Ag w6 (w.heap.size+1) 2 _ _ n1;have f13:=Ag w6 (w.heap.size+1) 3 _ _ n1;simp at c20 c21 c22 c23 c02 c03 c10 c11 c12 c13;have HV6:AP _:=hv6;have HB6:AP _:=hB6;have HP6:AP _:=hP6;have HN1:AP _:=n1;have HS6:AP _:=hb6.size;have HQ:AP _:=Ac qs (Ac qs4 (Ac qz qv.lt));clear hv6 hB6 hP6 n2 n1 n0 hb6 q2 q1 q0 qv qB qs qs4 qz;go_wp2;obtain⟨qs,qs4,qz,qvl⟩:=HQ.o;have r1:=A9 _ (w.heap.size+1) 0 _ _ (UD (UI ⟨w3.heap.size,0,UJ⟩) n n) ((Ah _ ⟨w.heap.size+1+1,3,UJ⟩ (w.heap.size+1) (UF d) AM).trans ((Ah _ ⟨w.heap.size+1+1,2,UJ⟩ (w.heap.size+1) (UE UO f) AM).trans ((Ah w6 ⟨w.heap.size+1+1,1,UJ⟩ (w.heap.size+1) (UD (UI ⟨w5.heap.size,0,UJ⟩) n' n') AM).trans HN1.o)));have r2:=A9 _ (w.heap.size+1) 1 _ _ (UD (UI ⟨w5.heap.size,0,UJ⟩) n' n') r1;have r3:=A9 _ (w.heap.size+1) 2 _ _ (UE UO f) r2;have r4:=A9 _ (w.heap.size+1) 3 _ _ (UF d) r3;have hoth:∀ k,w.heap.size+2<k->(((((((w6.setCell ⟨w.heap.size+1+1,1,UJ⟩ (UD (UI ⟨w5.heap.size,0,UJ⟩) n' n')).setCell ⟨w.heap.size+1+1,2,UJ⟩ (UE UO f)).setCell ⟨w.heap.size+1+1,3,UJ⟩ (UF d)).setCell ⟨w.heap.size+1,0,UJ⟩ (UD (UI ⟨w3.heap.size,0,UJ⟩) n n)).setCell ⟨w.heap.size+1,1,UJ⟩ (UD (UI ⟨w5.heap.size,0,UJ⟩) n' n')).setCell ⟨w.heap.size+1,2,UJ⟩ (UE UO f)).setCell ⟨w.heap.size+1,3,UJ⟩ (UF d)).heap[k]?=w6.heap[k]?:=by
  intro k hk;rw[Ah _ _ _ _ (by simp;omega),Ah _ _ _ _ (by simp;omega),Ah _ _ _ _ (by simp;omega),Ah _ _ _ _ (by simp;omega),Ah _ _ _ _ (by simp;omega),Ah _ _ _ _ (by simp;omega),Ah _ _ _ _ (by simp;omega)]
 have hB7:=((((((HB6.o.setCell (p:=⟨w.heap.size+1+1,1,UJ⟩) (by simp;omega) (UD (UI ⟨w5.heap.size,0,UJ⟩) n' n')).setCell (p:=⟨w.heap.size+1+1,2,UJ⟩) (by simp;omega) (UE UO f)).setCell (p:=⟨w.heap.size+1+1,3,UJ⟩) (by simp;omega) (UF d)).setCell (p:=⟨w.heap.size+1,0,UJ⟩) AM (UD (UI ⟨w3.heap.size,0,UJ⟩) n n)).setCell (p:=⟨w.heap.size+1,1,UJ⟩) AM (UD (UI ⟨w5.heap.size,0,UJ⟩) n' n')).setCell (p:=⟨w.heap.size+1,2,UJ⟩) AM (UE UO f)).setCell (p:=⟨w.heap.size+1,3,UJ⟩) AM (UF d);have hs7:(((((((w6.setCell ⟨w.heap.size+1+1,1,UJ⟩ (UD (UI ⟨w5.heap.size,0,UJ⟩) n' n')).setCell ⟨w.heap.size+1+1,2,UJ⟩ (UE UO f)).setCell ⟨w.heap.size+1+1,3,UJ⟩ (UF d)).setCell ⟨w.heap.size+1,0,UJ⟩ (UD (UI ⟨w3.heap.size,0,UJ⟩) n n)).setCell ⟨w.heap.size+1,1,UJ⟩ (UD (UI ⟨w5.heap.size,0,UJ⟩) n' n')).setCell ⟨w.heap.size+1,2,UJ⟩ (UE UO f)).setCell ⟨w.heap.size+1,3,UJ⟩ (UF d)).heap.size=w6.heap.size:=by simp[World.setCell]
 generalize (((((((w6.setCell ⟨w.heap.size+1+1,1,UJ⟩ (UD (UI ⟨w5.heap.size,0,UJ⟩) n' n')).setCell ⟨w.heap.size+1+1,2,UJ⟩ (UE UO f)).setCell ⟨w.heap.size+1+1,3,UJ⟩ (UF d)).setCell ⟨w.heap.size+1,0,UJ⟩ (UD (UI ⟨w3.heap.size,0,UJ⟩) n n)).setCell ⟨w.heap.size+1,1,UJ⟩ (UD (UI ⟨w5.heap.size,0,UJ⟩) n' n')).setCell ⟨w.heap.size+1,2,UJ⟩ (UE UO f)).setCell ⟨w.heap.size+1,3,UJ⟩ (UF d))=w7 at *;have hs6:=HS6.o;have hrow:DP w7 w3.heap.size 5 zs:=by unfold DP;rw[hoth _ AK];exact HV6.o
 refine AZ (v:=UN #[UD (UI ⟨w3.heap.size,0,UJ⟩) n n,UD (UI ⟨w5.heap.size,0,UJ⟩) n' n',UE UO f,UF d]) (AW rfl _ _ (w.heap.size+1) 40 _ (0,0) _ rfl r4 Tryz.underlying40 rfl AN) rfl ⟨_,rfl,?_,hB7⟩;refine⟨_,_,_,_,w5.heap.size,by rw[hn,hn'],hrow.at_,hrow.open_,λad e=>?_,AK,AK,AY _,?_,AK⟩
 ·cases e;exact⟨by show w.heap.size<=w3.heap.size;omega,qvl⟩
 ·rw[hs7];exact Dq.keep (show Dq _ _ _ _ _ from HP6.o) (λk hk hk'=>hoth k AK) AK
theorem Lj (a b:Nat) (ha:a<4611686018427387904) (hb:b<4611686018427387904):bits .or UO (a:Int) (b:Int)=((a ||| b:Nat):Int):=by
 have hx:a ||| b<2^62:=Nat.or_lt_two_pow AK AK;show IntKind.i64.wrap ((BitVec.ofInt 64 (a:Int) ||| BitVec.ofInt 64 (b:Int)).toNat:Int)=_
 rw[BitVec.toNat_or,ofInt_u64 a AK,ofInt_u64 b AK,As];omega
theorem Lk (a b:Int) (k:Nat) (ha:0<=a) (ha':a<4611686018427387904) (hb:0<=b) (hb':b<2^k) (hb'':b<4611686018427387904) (q:Int) (hd:a=q*2^k):bits .or UO b a=b+a:=by
 have h:=Li a b k ha AK hb hb' AK q hd;obtain⟨a,rfl⟩:=Ai ha;obtain⟨b,rfl⟩:=Ai hb;rw[u64_or_nat a b AK AK] at h;rw[Lj b a AK AK,Nat.or_comm];omega
theorem QP (v x:Int) (j:Nat) (hj:j<7) (h0:0<=v) (h1:v<256^j) (x0:0<=x) (x1:x<256) :
  bits .or UO v (wrap64 (x*2^(8*j)))=v+x*256^j:=by
 have e:(2:Int)^(8*j)=256^j:=by rw[Int.pow_mul];rfl
 have hle:(256:Int)^j<=256^6:=by
  have:j=0\/j=1\/j=2\/j=3\/j=4\/j=5\/j=6:=AK
  rcases this with h|h|h|h|h|h|h<;>rw[h]<;>decide
 have hP0:(0:Int)<256^j:=Int.pow_pos AL;have e7:(256:Int)^6=281474976710656:=AL
 rw[e7] at hle;have m0:0<=x*256^j:=Int.mul_nonneg x0 AK;have m1:x*256^j<=255*256^j:=Int.mul_le_mul_of_nonneg_right AK AK;rw[e];unfold wrap64;have e2:(x*256^j+9223372036854775808)%18446744073709551616-9223372036854775808=x*256^j:=AK
 rw[e2];exact Lk _ _ (8*j) m0 AK h0 (by rw[e];exact h1) AK x (by rw[e])
theorem R5 (a:Option Addr) (n cap:Nat) (zs:List Int) (w:UK) (hn:zs.length=n) (hm:n<=7) (ha:At UH w a zs) (hz:Cu zs) :
  Calls Tryz.prog 155 #[UD a n cap] w λe w'=>e=UQ (UE UO (val 256 zs))/\w'=w:=by
 go_enter Tryz.func155,Tryz.ntmps155;go_wp2
 go_loop [3,8] (λc i=>∃ k:Nat,k<=n/\i=UE UO k/\c=UE UO (val 256 (zs.take k))) (λ_ i=>n-(intOf i).toNat)
 case atStart=>exact⟨0,Aj _,rfl,rfl⟩
 case round=>
  obtain⟨k,hk,rfl,rfl⟩:=hrel;by_cases hlt:k<n
  ·obtain⟨b,off,rfl,hb,hc⟩:=ha.get AK;have hck:=hc k AK;have hx:=hz.get k;have ht0:0<=val 256 (zs.take k):=Lh AL (λz hz'=>hz z (Bi hz'));have ht1:val 256 (zs.take k)<256^k:=by
    have:=R3 (B:=256) AL (xs:=zs.take k) (λz hz'=>hz z (Bi hz'))
    rwa [Az,Nat.min_eq_left AK] at this
   have hs:=QP _ _ k AK ht0 ht1 hx.1 hx.2;rw[<-OF 256 zs k AK] at hs;have HS:AP (bits .or UO (val 256 (zs.take k)) (wrap64 (zs.getD k 0*2^(8*k)))=val 256 (zs.take (k+1))):=hs;clear hs hc ht0 ht1;generalize zs.getD k 0=x at *;generalize val 256 (zs.take k)=c at *;obtain⟨hx0,hx1⟩:=hx;go_wp2
   go_round
   case rel=>exact⟨k+1,AK,by go_num,by rw[<-HS.o]⟩
   case measure=>simp[intOf];omega
  ·have hk':k=n:=AK
   subst hk';have HT:AP (zs.take k=zs):=An AK;go_wp2
   go_ret
   exact⟨DW (by rw[HT.o]),rfl⟩
section
variable {P:Program} {ops:Array Oper} {Q:Exit->Act->UK->Prop} {md:Region.Mode}
theorem DF (last:Nat) (M:Nat->UK->UK->Prop) (frame:(Nat->UL)->Act) (Ext:(Nat->Bool)->(Nat->UL)->UK->Prop) (Good:Nat->(Nat->Bool)->UK->UL->Prop) (Fin:(Nat->UL)->UK->Prop)
  (hlast:ops.size=last+1)
  (hwait:((ops[last]?).map (λo=>(List.range last).all (λj=>o.after.any (λe=>Region.binds md e && decide (e.on=j))))).getD false=true)
  (hstab:∀ j L w w' i v,i<last->M i w w'->i≠j->L i=false->Good j L w v->Good j (Ct L i) w' v)
  (hback:(List.range ops.size).all (λi=>((ops[i]?).map (λo=>o.after.all (λe=>decide (e.on<i)))).getD false)=true)
  (hop:∀(i:Nat) (o:Oper) (L:Nat->Bool) (u:Nat->UL) (w:UK),i<last->ops[i]?=UI o->L i=false->Ext L u w->(∀ e∈o.after,Region.binds md e=true->L e.on=true/\Good e.on L w (u e.on))->
   ∀ K:Act->UK->Prop,(∀ w' v,Good i (Ct L i) w' v->Ext (Ct L i) (Cr u i v) w'->M i w w'->K (frame (Cr u i v)) w')->(if Region.wanted o (yielded ops (frame u).tmps)=true then Oper.wp P o (frame u) w K Q else K ((frame u).put o.dst undef) w))
  (hend:∀(o:Oper) (L:Nat->Bool) (u:Nat->UL) (w:UK),ops[last]?=UI o->Ext L u w->(∀ j,j<last->L j=true/\Good j L w (u j))->
   ∀ K:Act->UK->Prop,(∀ w' v,Fin (Cr u last v) w'->K (frame (Cr u last v)) w')->(if Region.wanted o (yielded ops (frame u).tmps)=true then Oper.wp P o (frame u) w K Q else K ((frame u).put o.dst undef) w))
  (hdone:∀ u w,Fin u w->Q .normal (frame u) w) :
  ∀(fuel:Nat) (listed:Array Bool) (u:Nat->UL) (w:UK),listed.size=ops.size->(∀ i,listed.getD i false=false)->Ext (λn=>listed.getD n false) u w->
   (listed.toList.filter (!·)).length<=fuel->wpAny P md ops Q fuel listed (frame u) w:=by
 have hb:∀(i:Nat) (o:Oper),ops[i]?=UI o->∀ e∈o.after,e.on<i:=λi o ho e he=>by
  have hi:i<ops.size:=(AQ.1 ho).1;have:=BM.1 hback i (BV.2 hi);rw[ho] at this;simp at this;obtain⟨k,hk,rfl⟩:=Bf.1 he;exact this k hk
 have hw:∀ o,ops[last]?=UI o->∀ j,j<last->∃ e∈o.after,Region.binds md e=true/\e.on=j:=λo ho j hj=>by
  rw[ho] at hwait;have h1:(List.range last).all (λj=>o.after.any (λe=>Region.binds md e && decide (e.on=j)))=true:=by simpa using hwait
  have h2:=BM.1 h1 j (BV.2 hj);obtain⟨e,he,h3⟩:=Array.any_eq_true'.1 h2;simp at h3;exact⟨e,he,h3⟩
 intro fuel listed u w hs hnone hext hc;refine C3 (λi a b=>i=last\/(i<last/\M i a b)) frame (λL u w=>(L last=false/\Ext L u w)\/(L last=true/\(∀ j,j<last->L j=true)/\Fin u w))
  (λj L w v=>if j=last then L last=true else(L last=true\/Good j L w v)) ?_ hback ?_ ?_ fuel listed u w hs (.inl ⟨hnone last,hext⟩) (λi _ hl=>by rw[hnone i] at hl;cases hl) hc
 ·intro j L w w' i v hM hij hLi h;have hu:∀ k,L k=true->Ct L i k=true:=λk hk=>by unfold Ct;split<;>simp[hk]
  by_cases hj:j=last
  ·rw[AR hj] at h |-;exact hu _ h
  ·rw[AS hj] at h |-;rcases h with h|h
   ·exact .inl (hu _ h)
   ·rcases hM with hil|⟨hi',hM⟩
    ·left;unfold Ct;rw[AR hil.symm]
    ·exact .inr (hstab j L w w' i v hi' hM hij hLi h)
 ·intro i o L u w ho hLi hx hdep K hK;have hi:i<last+1:=by rw[<-hlast];exact(AQ.1 ho).1
  rcases hx with⟨hl,hx⟩|⟨hl,hall,_⟩
  ·by_cases hil:i=last
   ·subst hil;refine hend o L u w ho hx (λj hj=>?_) K (λw' v hf=>hK w' v ?_ ?_ (.inl rfl))
    ·obtain⟨e,he,hbd,rfl⟩:=hw o ho j hj;obtain⟨h1,h2⟩:=hdep e he hbd;rw[AS AK] at h2;refine⟨h1,h2.resolve_left (by rw[hl];simp)⟩
    ·rw[AR rfl];unfold Ct;simp
    ·refine .inr ⟨by unfold Ct;simp,λj hj=>?_,hf⟩;obtain⟨e,he,hbd,rfl⟩:=hw o ho j hj;have:=(hdep e he hbd).1;unfold Ct;split<;>simp[this]
   ·have hi':i<last:=AK
    refine hop i o L u w hi' ho hLi hx (λe he hbd=>?_) K (λw' v hg hext hm=>hK w' v ?_ ?_ (.inr ⟨hi',hm⟩))
    ·obtain⟨h1,h2⟩:=hdep e he hbd;have hlt:=hb i o ho e he;rw[AS AK] at h2;exact⟨h1,h2.resolve_left (by rw[hl];simp)⟩
    ·rw[AS hil];exact .inr hg
    ·refine .inl ⟨?_,hext⟩;unfold Ct;rw[AS AK];exact hl
  ·exfalso
   by_cases hil:i=last
   ·subst hil;rw[hl] at hLi;cases hLi
   ·rw[hall i AK] at hLi;cases hLi
 ·intro L u w hx hg;have h1:=hg last AK;rw[AR rfl] at h1;rcases hx with⟨hl,_⟩|⟨_,_,hf⟩
  ·rw[hl] at h1;cases h1
  ·exact hdone u w hf
end
def Value.adr:UL->Option Addr
 |UD a _ _=>a
 |.pointer a=>a
 |_=>UJ
def Value.has (v:UL) (k:Nat):Prop:=(∃ a,Value.adr v=UI a/\a.block=k)\/∃ cs,v=UN cs/\∃ c,c∈cs.toList/\∃ a,Value.adr c=UI a/\a.block=k
def DU (w w':UK) (v:UL):Prop:=∀ k,Value.has v k->w.heap.size<=k/\k<w'.heap.size
def Ir (x y:UL):Prop:=∀ k,Value.has x k->¬ Value.has y k
structure Fo (W:UK) (ps:List Nat) (L:Nat->Bool) (u:Nat->UL) (w:UK):Prop where
 below:Below W.heap.size W w
 blt:∀ p,p∈ps->L p=true->∀ k,Value.has (u p) k->k<w.heap.size
 ap:∀ p,p∈ps->∀ q,q∈ps->p≠q->L p=true->L q=true->Ir (u p) (u q)
theorem Fo.start (W:UK) (ps:List Nat) (L:Nat->Bool) (u:Nat->UL) (h:∀ i,L i=false) {w:UK} (b:Below W.heap.size W w):Fo W ps L u w:=
 ⟨b,λp _ hp=>(by rw[h] at hp;cases hp),λp _ q _ _ hp=>(by rw[h] at hp;cases hp)⟩
theorem Fo.step {W:UK} {ps:List Nat} {L:Nat->Bool} {u:Nat->UL} {w w':UK} (h:Fo W ps L u w) (i:Nat) (v:UL) (b:Below w.heap.size w w') (hv:i∈ps->DU w w' v):Fo W ps (Ct L i) (Cr u i v) w':=by
 refine⟨h.below.trans (b.mono h.below.size),λp hp hl=>?_,λp hp q hq hne hlp hlq=>?_⟩
 ·by_cases e:p=i
  ·subst e;simp only[Cr,if_true];exact λk hk=>(hv hp k hk).2
  ·simp only[Ct,if_neg e] at hl;simp only[Cr,if_neg e];exact λk hk=>Ax (h.blt p hp hl k hk) b.size
 ·by_cases e:p=i
  ·subst e;have e2:¬ q=p:=λh=>hne h.symm
   simp only[Ct,if_neg e2] at hlq;simp only[Cr,if_true,if_neg e2];intro k hk hk';have h1:=(hv hp k hk).1;have h2:=h.blt q hq hlq k hk';omega
  ·by_cases e2:q=i
   ·subst e2;simp only[Ct,if_neg e] at hlp;simp only[Cr,if_true,if_neg e];intro k hk hk';have h1:=(hv hq k hk').1;have h2:=h.blt p hp hlp k hk;omega
   ·simp only[Ct,if_neg e,if_neg e2] at hlp hlq;simp only[Cr,if_neg e,if_neg e2];exact h.ap p hp q hq hne hlp hlq
theorem F6 {cs:Array UL} {k:Nat}:Value.has (UN cs) k↔∃ c,c∈cs.toList/\∃ a,Value.adr c=UI a/\a.block=k:=by
 constructor
 ·rintro (⟨a,h,_⟩|⟨cs',h,h2⟩)
  ·cases h
  ·cases h;exact h2
 ·intro h;exact .inr ⟨_,rfl,h⟩
theorem Hj {g o:Nat} {k:Nat}:Value.has (.pointer (UI ⟨g,o,UJ⟩)) k↔k=g:=by
 constructor
 ·rintro (⟨a,h,rfl⟩|⟨cs',h,h2⟩)
  ·cases h;rfl
  ·cases h
 ·rintro rfl;exact .inl ⟨_,rfl,rfl⟩
def Ju (n:Nat):List Int:=List.replicate n 0
def Ga (s k a b:Int):List Int:=Dv (Dv ((((Dv (Ju 64) 0 s 4).set 4 74).set 5 49).set 6 (k%256)) 8 a 4) 12 b 4
def Fs (s k a b:Int):List Int:=Dv (Dv (Ga s k a b) 56 (Gl ((Ga s k a b).take 56)) 4) 60 s 4
theorem Hk {zs:List Int} (h:Cu zs) (i:Nat) (x:Int) (hx:0<=x/\x<256):Cu (zs.set i x):=λz hz=>by
 rcases List.mem_or_eq_of_mem_set hz with h1|h1
 ·exact h z h1
 ·subst h1;exact hx
theorem Ft (zs:List Int) (p:Nat) (v:Int) (h:Cu zs) (k:Nat):Cu (Dv zs p v k):=by
 induction k with
 |zero=>exact h
 |succ k ih=>exact Hk ih _ _ AK
theorem OI (n:Nat):Cu (Ju n):=λz hz=>by simp[Ju] at hz;omega
theorem JT (s k a b:Int):Cu (Ga s k a b):=by
 unfold Ga;exact Ft _ _ _ (Ft _ _ _ (Hk (Hk (Hk (Ft _ _ _ (OI _) _) _ _ AK) _ _ AK) _ _ AK) _) _
theorem M7 (s k a b:Int):Cu (Fs s k a b):=by
 unfold Fs;exact Ft _ _ _ (Ft _ _ _ (JT _ _ _ _) _) _
theorem OJ (s k a b:Int):(Ga s k a b).length=64:=by unfold Ga;simp[Em,Ju]
theorem OK (s k a b:Int):(Fs s k a b).length=64:=by unfold Fs;simp[Em,OJ]
structure Rs (w w':UK) (zs:List Int):Prop where
 below:Below w.heap.size w w'
 size:w'.heap.size=w.heap.size+2
 r0:DP w' w.heap.size 122 (Ju 64)
 r1:DP w' (w.heap.size+1) 122 zs
theorem Rs.wr {w w' w'':UK} {zs zs':List Int} (h:Rs w w' zs) (k:Wr (w.heap.size+1) w' w'') (r:DP w'' (w.heap.size+1) 122 zs'):Rs w w'' zs':=
 ⟨h.below.trans (k.below AK),k.size.trans h.size,k.row h.r0 AK,r⟩
theorem Rs.set {w w':UK} {zs:List Int} (h:Rs w w' zs) (i:Nat) (x:Int):Rs w (w'.setCell ⟨w.heap.size+1,i,UJ⟩ (UE UH x)) (zs.set i x):=
 h.wr ((Wr.refl _ _).setCell i _) (h.r1.set i x)
theorem Ke (h:Nat) (s k a b:Int) (w:UK) (hh:h<w.heap.size) (c0:w.cell? ⟨h,0,UJ⟩=UI (UE UG s)) (c1:w.cell? ⟨h,1,UJ⟩=UI (UE UO k))
  (c2:w.cell? ⟨h,2,UJ⟩=UI (UE UG a)) (c3:w.cell? ⟨h,3,UJ⟩=UI (UE UG b)) (us:D8 s) (ua:D8 a) (ub:D8 b) :
  Calls Tryz.prog 134 #[.pointer (UI ⟨h,0,UJ⟩)] w λe w'=>e=UQ (UN ((Fs s k a b).map (Value.int UH)).toArray)/\Below w.heap.size w w':=by
 go_enter Tryz.func134,Tryz.ntmps134;go_wp2_with fail;refine(GW (w.heap.size+1) 122 0 s (Ju 64) _ ?r AO AK AK us).mono ?_
 case r=>exact heap_alloc2_new _ _ _
 rintro e w3 ⟨rfl,hrow,hwr⟩;have st3:Rs w w3 (Dv (Ju 64) 0 s 4):=by
  refine⟨((Cs.alloc Cw _).alloc AM _).trans (hwr.below AK),?_,hwr.row (zs:=Ju 64) ?_ AK,hrow⟩
  ·rw[hwr.size];simp
  ·exact heap_alloc2_old _ _ _
 clear hrow hwr;have l3:(Dv (Ju 64) 0 s 4).length=64:=by rw[Em];rfl
 have f4:=st3.r1.frozen 4;have f5:=st3.r1.frozen 5;have f6:=st3.r1.frozen 6;have g4:=st3.r1.cell 4 AK;have g5:=st3.r1.cell 5 AK;have g6:=st3.r1.cell 6 AK;have d0:w3.cell? ⟨h,0,UJ⟩=UI (UE UG s):=by rw[st3.below.cell (p:=⟨h,0,UJ⟩) hh];exact c0
 have d1:w3.cell? ⟨h,1,UJ⟩=UI (UE UO k):=by rw[st3.below.cell (p:=⟨h,1,UJ⟩) hh];exact c1
 have d2:w3.cell? ⟨h,2,UJ⟩=UI (UE UG a):=by rw[st3.below.cell (p:=⟨h,2,UJ⟩) hh];exact c2
 have hne:¬ h=w.heap.size+1:=AK
 generalize (Dv (Ju 64) 0 s 4).getD 4 0=y4 at *;generalize (Dv (Ju 64) 0 s 4).getD 5 0=y5 at *;generalize (Dv (Ju 64) 0 s 4).getD 6 0=y6 at *;have ST3:AP _:=st3;clear st3;go_wp2_with fail;clear f4 f5 f6 g4 g5 g6 d0 d1 d2;have st6:=((ST3.o.set 4 74).set 5 49).set 6 (k%256);clear ST3;refine(GW (w.heap.size+1) 122 8 a _ _ st6.r1 (by simp[l3]) AK AK ua).mono ?_;rintro e w8 ⟨rfl,hrow,hwr⟩;have st8:=st6.wr hwr hrow;clear hrow hwr st6;have l8:(Dv ((((Dv (Ju 64) 0 s 4).set 4 74).set 5 49).set 6 (k%256)) (Int.toNat 8) a 4).length=64:=by rw[Em];simp[l3]
 have d3:w8.cell? ⟨h,3,UJ⟩=UI (UE UG b):=by rw[st8.below.cell (p:=⟨h,3,UJ⟩) hh];exact c3
 have ST8:AP _:=st8;clear st8;go_wp2_with fail;refine(GW (w.heap.size+1) 122 12 b _ _ ST8.o.r1 l8 AK AK ub).mono ?_;rintro e w9 ⟨rfl,hrow,hwr⟩;have st9:Rs w w9 (Ga s k a b):=ST8.o.wr hwr hrow;clear hrow hwr ST8 d3 l8 l3;have l9:(Ga s k a b).length=64:=by unfold Ga;simp[Em,Ju]
 have HE:AP (Fs s k a b=Dv (Dv (Ga s k a b) 56 (Gl ((Ga s k a b).take 56)) 4) 60 s 4):=rfl;have hby:Cu ((Ga s k a b).take 56):=λz hz=>JT s k a b z (Bi hz)
 generalize Ga s k a b=z9 at *;have ST9:AP _:=st9;clear st9;go_wp2_with fail;refine(KQ _ 56 _ (z9.take 56) _ (by simp;omega) AK (ST9.o.r1.atTake 56) hby).mono ?_;rintro e w10 ⟨rfl,rfl⟩;go_wp2_with fail;refine(GW (w.heap.size+1) 122 56 _ _ _ ST9.o.r1 l9 AK AK (IE _)).mono ?_;rintro e w11 ⟨rfl,hrow,hwr⟩;have st11:=ST9.o.wr hwr hrow;have l11:(Dv z9 56 (Gl (z9.take 56)) 4).length=64:=by rw[Em];exact l9
 have hE2:Int.toNat 56=56:=rfl;rw[hE2] at st11;clear hrow hwr ST9;generalize Dv z9 56 (Gl (z9.take 56)) 4=z11 at *;have d0:w11.cell? ⟨h,0,UJ⟩=UI (UE UG s):=by rw[st11.below.cell (p:=⟨h,0,UJ⟩) hh];exact c0
 have ST11:AP _:=st11;clear st11;go_wp2_with fail;refine(GW (w.heap.size+1) 122 60 _ _ _ ST11.o.r1 l11 AK AK us).mono ?_;rintro e w12 ⟨rfl,hrow,hwr⟩;have st12:=ST11.o.wr hwr hrow;have l12:(Dv z11 60 s 4).length=64:=by rw[Em];exact l11
 have hE3:Int.toNat 60=60:=rfl;rw[hE3,<-HE.o] at st12;rw[<-HE.o] at l12;clear hrow hwr ST11 c0 c1 c2 c3 d0 hE2 hE3 HE;generalize hz12:Fs s k a b=z12 at *;have HZ:AP _:=hz12;clear hz12;have ST12:AP _:=st12;clear st12;have hs1:(Tryz.prog.info? 122).map (·.size)=UI ((z12.map (Value.int UH)).toArray).size:=by
  have:(Tryz.prog.info? 122).map (·.size)=UI 64:=AN
  rw[this];simp[l12]
 have HS1:AP _:=hs1;clear hs1;go_wp2_with (first
  |(refine Ab rfl 122 _ rfl (w.heap.size+1) rfl 122 _ (0,0) _ ST12.o.r1 Tryz.underlying122 rfl HS1.o ?_)
  |(refine AC 122 (.tmp 2) (.tmp 35) w.heap.size ((z12.map (Value.int UH)).toArray) 122 ST12.o.r0 HS1.o (by simp[Ju,l12]) (all_oneCell_toArray (Bb _ _)) ?_))
 refine AZ (v:=UN (z12.map (Value.int UH)).toArray) (AW rfl _ _ w.heap.size 122 _ (0,0) _ rfl (AB ST12.o.r0) Tryz.underlying122 rfl HS1.o) rfl ⟨by rw[HZ.o],?_⟩;exact ST12.o.below.trans ((Wr.setRow _ _ _).below Cw)
end Go.Proofs.YthmeoilbmfdhfaaGreat
