import Derived.Test.YtncomnkdlpoelaaGreatDoorMCatF
import Derived.Test.YtncomnkdlpoelaaGreatDoorMSSum
open Go.Proofs.Tryz renaming prog->tP
open Go.Proofs.Tryz
open Go.Value renaming slice->aM,int->aO,pointer->aY,agg->af
open Go.IntKind renaming i64->aZ
open Go.Obj renaming cells->aa
open Go.Ending renaming returned->aQ
open Go.Ground renaming data->ag
open Go.Operand renaming tmp->ah
open Option renaming some->aR,none->aS
open Go renaming World->aV,Value->aX
set_option maxHeartbeats 16000000
set_option maxRecDepth 100000
namespace Go.Proofs.YtncomnkdlpoelaaGreatDoor
open Go.ChangeShapes Go.WideShapes Go.ChangeAt Go.RowKit
set_option linter.unusedVariables false
theorem Lv (p m cap:Nat) (vs:List aX) (zss:List (List Int)) (w:aV) (hm:zss.length=m) (hp:p<w.heap.size) (hc:∀ i,i<m->w.cell? ⟨p,i,aS⟩=aR (vs.getD i undef))
  (hz:∀ i,i<m->Fl w (vs.getD i undef) (zss.getD i [])) (ht:zss.flatten.length<=2097152) (hm':m<=1048576) :
  Calls tP 63 #[aM (aR ⟨p,0,aS⟩) m cap] w λe w'=>∃ v,e=aQ v/\DB w' w.heap.size v zss.flatten/\Below w.heap.size w w':=by
 go_enter func63,ntmps63;go_wp2
 go_loopw [3,4] (λv i wr=>∃ k:Nat,k<=m/\i=aO aZ k/\DB wr w.heap.size v (zss.take k).flatten/\Below w.heap.size w wr) (λ_ i _=>m-(intOf i).toNat)
 case atStart=>exact⟨0,Aw _,rfl,DB.empty _ _ Ch,Cf.alloc Ch _⟩
 case round=>
  obtain⟨k,hk,rfl,hown,hbel⟩:=hrel;by_cases hlt:k<m
  ·have hsz:=hbel.size;obtain⟨b,o,c,hv,hb,hcell⟩:=hz k hlt;have hck:wr.cell? ⟨p,k,aS⟩=aR (aM (aR ⟨b,o,aS⟩) (zss.getD k []).length c):=by rw[hbel.cell (p:=⟨p,k,aS⟩) hp,hc k hlt,hv]
   have hnews:∀ j,j<(zss.getD k []).length->wr.cell? ((⟨b,o,aS⟩:Addr).add j)=aR (aO .u8 ((zss.getD k []).getD j 0)):=by
    intro j hj;rw[A0,hbel.cell (p:=⟨b,o+j,aS⟩) hb];exact hcell j hj
   have hfl:=JB zss k AJ;have hle:=Lp zss (k+1);have hle2:(zss.take k).flatten.length+(zss.getD k []).length<=2097152:=by rw[hfl,Ae] at hle;omega
   have HF:AO _:=hfl;clear hfl hle hv hcell hc hz;generalize zss.getD k []=z at *;generalize (zss.take k).flatten=y at *;generalize hzl:z.length=zl at *;have HL:AO _:=hzl;clear hzl;have HN:AO _:=hnews;clear hnews;go_wp2_with (at_builtin;refine Cv _ rfl _ _ rfl w.heap.size _ _ rfl hown ⟨b,o,aS⟩ _ _ z rfl HL.o HN.o ?c2 ?c3 ?_)
   case c2=>omega
   case c3=>omega
   intro v' w1 hown' hbel' _;have HO:AO (DB w1 w.heap.size v' (zss.take (k+1)).flatten):=by rw[HF.o];exact hown'
   have HB:=CY <| hbel.trans hbel'
   clear hown hown' hbel hbel';go_wp2;go_roundw
   case rel=>exact⟨k+1,AJ,by go_num,HO.o,HB.o⟩
   case measure=>simp[intOf];omega
  ·have hkn:zss.take k=zss:=Ad AJ;rw[hkn] at hown;have HO:AO _:=hown;clear hown hkn;go_wp2
   go_ret
   exact⟨_,rfl,HO.o,hbel⟩
theorem Ge (y:Int):0<=bits .and aZ y 255/\bits .and aZ y 255<=255:=by
 unfold bits;simp only;have h:((BitVec.ofInt IntKind.i64.bits y &&& BitVec.ofInt IntKind.i64.bits 255).toNat)<=255:=by
  rw[BitVec.toNat_and];have:(BitVec.ofInt IntKind.i64.bits 255).toNat=255:=AK
  rw[this];exact Nat.and_le_right
 generalize (BitVec.ofInt IntKind.i64.bits y &&& BitVec.ofInt IntKind.i64.bits 255).toNat=m at *;rw[Ak];omega
def Dc (w:aV) (g:Nat) (a:Option Addr) (n cap:Nat):Prop:=
 ∃ i h:Int,0<=i/\i<=n/\-9223372036854775808<=h/\h<=9223372036854775807/\w.heap[g]?=aR (aa #[aM a n cap,aO aZ i,aO aZ h] 75 (0,0))
def Fb (w:aV) (g:Nat) (a:Option Addr) (n:Nat):Prop:=n<=1048576/\∃ zs:List Int,zs.length=n/\Cb zs/\(zs=[]\/∃ b off,a=aR ⟨b,off,aS⟩/\b<g/\∀ i,i<zs.length->w.cell? ⟨b,off+i,aS⟩=aR (aO .u8 (zs.getD i 0)))
theorem Fb.wr {w w':aV} {g:Nat} {a:Option Addr} {n:Nat} (h:Fb w g a n) (hw:∀ k,k<g->w'.heap[k]?=w.heap[k]?):Fb w' g a n:=by
 obtain⟨h0,zs,h1,h2,h3⟩:=h;refine⟨h0,zs,h1,h2,?_⟩;rcases h3 with h3|⟨b,off,e,hb,hc⟩
 ·exact .inl h3
 ·exact .inr ⟨b,off,e,hb,λi hi=>by rw[Af (a:=⟨b,off+i,aS⟩) (w:=w) (hw b hb)];exact hc i hi⟩
structure Eo (g:Nat) (w w':aV):Prop where
 os:w'.os=w.os
 tape:w'.tape=w.tape
 output:w'.output=w.output
 size:w.heap.size<=w'.heap.size
 block:∀ k,k<w.heap.size->k≠g->w'.heap[k]?=w.heap[k]?
theorem Eo.trans {g:Nat} {a b c:aV} (h:Eo g a b) (k:Eo g b c):Eo g a c:=
 ⟨k.os.trans h.os,k.tape.trans h.tape,k.output.trans h.output,Ai h.size k.size,λi hi hg=>(k.block i (Ap hi h.size) hg).trans (h.block i hi hg)⟩
theorem Wr.wrG {g:Nat} {w w':aV} (h:Wr g w w'):Eo g w w':=⟨h.os,h.tape,h.output,by rw[h.size];exact Aa _,λk _ hg=>h.block k hg⟩
theorem Eo.of_below {g:Nat} {w w':aV} (h:Below w.heap.size w w'):Eo g w w':=⟨h.os,h.tape,h.output,h.size,λk hk _=>h.block k hk⟩
def Mu (w:aV) (g:Nat) (a:Option Addr) (n cap:Nat) (m:Int) (e:Ending) (w':aV):Prop:=
 ∃ x:Int,e=aQ (aO aZ x)/\0<=x/\x<=m/\Dc w' g a n cap/\Wr g w w'
theorem PP {w:aV} {g:Nat} {x y z v:aX} {t:TypeId} (h:w.heap[g]?=aR (aa #[x,y,z] t (0,0))) :
  (w.setCell ⟨g,2,aS⟩ v).heap[g]?=aR (aa #[x,y,v] t (0,0))/\(w.setCell ⟨g,1,aS⟩ v).heap[g]?=aR (aa #[x,v,z] t (0,0)):=
 ⟨Ao w g 2 _ t v h,Ao w g 1 _ t v h⟩
theorem JD (x:Int):-9223372036854775808<=wrap64 x/\wrap64 x<=9223372036854775807:=by
 unfold wrap64;omega
theorem Il (g:Nat) (a:Option Addr) (n cap:Nat) (w:aV) (hc:Dc w g a n cap) (ht:Fb w g a n) :
  Calls tP 34 #[aY (aR ⟨g,0,aS⟩)] w (Mu w g a n cap 255):=by
 obtain⟨i,h,hi0,hi1,hh0,hh1,hb⟩:=hc;obtain⟨hn,zs,hl,hz,htx⟩:=ht;have c0:w.cell? ⟨g,0,aS⟩=aR (aM a n cap):=AA hb _;have c1:w.cell? ⟨g,1,aS⟩=aR (aO aZ i):=AA hb _;have c2:w.cell? ⟨g,2,aS⟩=aR (aO aZ h):=AA hb _;have f1:=An w g 1 _ _ hb;have f2:=An w g 2 _ _ hb;obtain⟨hs0,hs1⟩:=JD (wrap64 (h*6364136223846793005)+1442695040888963407);obtain⟨r2,_⟩:=PP (v:=aO aZ (wrap64 (wrap64 (h*6364136223846793005)+1442695040888963407))) hb;have hw1:Wr g w (w.setCell ⟨g,2,aS⟩ (aO aZ (wrap64 (wrap64 (h*6364136223846793005)+1442695040888963407)))):=(Wr.refl _ _).setCell 2 _;have HH:AO (∃ h2,-9223372036854775808<=h2/\h2<=9223372036854775807/\wrap64 (wrap64 (h*6364136223846793005)+1442695040888963407)=h2):=⟨_,hs0,hs1,rfl⟩
 have HR2:AO _:=r2;have HW1:AO _:=hw1;obtain⟨i,rfl⟩:=Ab hi0;go_enter func34,ntmps34;go_wp2;have r2:=HR2.o;have hw1:=HW1.o;obtain⟨h2,hs0,hs1,he⟩:=HH.o;rw[he] at r2 hw1 |-;generalize w.setCell ⟨g,2,aS⟩ (aO aZ h2)=w1 at *;have c0:w1.cell? ⟨g,0,aS⟩=aR (aM a n cap):=AA r2 _;have c1:w1.cell? ⟨g,1,aS⟩=aR (aO aZ i):=AA r2 _;have c2:w1.cell? ⟨g,2,aS⟩=aR (aO aZ h2):=AA r2 _;have f1:=An w1 g 1 _ _ r2;have HR2:AO _:=r2;have HW1:AO _:=hw1
 go_quiet (fail)
 obtain⟨x0,hx00,hx01,hxe⟩:∃ x0,0<=x0/\x0<=255/\bits .and aZ (bits .xor aZ (h2/8589934592) (h2/35184372088832)) 255=x0:=⟨_,(Ge _).1,(Ge _).2,rfl⟩
 rw[hxe];have R2:(w1.drewN nq).heap[g]?=aR (aa #[aM a n cap,aO aZ i,aO aZ h2] 75 (0,0)):=HR2.o;have W2:Wr g w (w1.drewN nq):=HW1.o.drewN nq;generalize w1.drewN nq=w2 at *;have c0:w2.cell? ⟨g,0,aS⟩=aR (aM a n cap):=AA R2 _;have c1:w2.cell? ⟨g,1,aS⟩=aR (aO aZ i):=AA R2 _;have f1:=An w2 g 1 _ _ R2;have HR2:AO _:=R2;have HW2:AO _:=W2;by_cases hlt:(i:Int)<(n:Int)
 ·rcases htx with h0|⟨b,off,rfl,hbg,hcell⟩
  ·rw[h0] at hl;simp at hl;omega
  ·have hck:w2.cell? ⟨b,off+i,aS⟩=aR (aO .u8 (zs.getD i 0)):=by
    rw[Af (a:=⟨b,off+i,aS⟩) (w:=w) (HW2.o.block b AJ)];exact hcell i AJ
   have hx:=hz.get i;generalize zs.getD i 0=x at *;obtain⟨hx0,hx1⟩:=hx;obtain⟨_,r1⟩:=PP (v:=aO aZ ((i:Int)+1)) HR2.o;have HR1:AO _:=r1;have HW3:AO (Wr g w (w2.setCell ⟨g,1,aS⟩ (aO aZ ((i:Int)+1)))):=HW2.o.setCell 1 _;go_wp2
   go_quiet (fail)
   go_wp2
   go_quiet (fail)
   obtain⟨x1,hx10,hx11,hxe⟩:∃ x1,0<=x1/\x1<=255/\bits .and aZ (x0+x) 255=x1:=⟨_,(Ge _).1,(Ge _).2,rfl⟩
   rw[hxe];go_wp2
   go_ret
   refine⟨x1,rfl,hx10,hx11,⟨(i:Int)+1,h2,AJ,AJ,hs0,hs1,HR1.o⟩,?_⟩;exact⟨HW3.o.os,HW3.o.tape,HW3.o.output,HW3.o.size,HW3.o.block⟩
 ·have hlt':decide ((i:Int)<(n:Int))=false:=by simpa using hlt
  go_wp2
  go_quiet (fail)
  go_wp2
  go_ret
  exact⟨x0,rfl,hx00,hx01,⟨i,h2,AJ,AJ,hs0,hs1,HR2.o⟩,HW2.o.drewN _⟩
theorem Cl (g:Nat) (a:Option Addr) (n cap:Nat) (m:Int) (w:aV) (hc:Dc w g a n cap) (ht:Fb w g a n) (hm:1<=m) (hm':m<=16777216) :
  Calls tP 15 #[aY (aR ⟨g,0,aS⟩),aO aZ m] w (Mu w g a n cap (m-1)):=by
 by_cases h256:m<=256
 ·have hm0:¬ m=0:=AJ
  go_enter func15,ntmps15;go_wp2_with fail;refine(Il g a n cap _ hc ht).mono ?_;rintro e w1 ⟨x,rfl,hx0,hx1,hc1,hw1⟩;have HC:AO _:=hc1;have HW:AO _:=hw1;go_wp2
  go_ret
  have e1:=Int.emod_nonneg x hm0;have e2:=Int.emod_lt_of_pos x (show 0<m by omega);exact⟨x%m,rfl,e1,AJ,HC.o,HW.o⟩
 ·have hm0:¬ m=0:=AJ
  go_enter func15,ntmps15;go_wp2_with fail;refine(Il g a n cap _ hc ht).mono ?_;rintro e w1 ⟨x,rfl,hx0,hx1,hc1,hw1⟩;have ht1:=ht.wr (λk hk=>hw1.block k AJ);go_wp2_with fail;refine(Il g a n cap _ hc1 ht1).mono ?_;rintro e w2 ⟨y,rfl,hy0,hy1,hc2,hw2⟩;have ht2:=ht1.wr (λk hk=>hw2.block k AJ);have hw12:=hw1.trans hw2;go_wp2_with fail;refine(Il g a n cap _ hc2 ht2).mono ?_;rintro e w3 ⟨z,rfl,hz0,hz1,hc3,hw3⟩;have HC:AO _:=hc3;have HW:AO _:=hw12.trans hw3;have e1:=Int.emod_nonneg (x*65536+y*256+z) hm0;have e2:=Int.emod_lt_of_pos (x*65536+y*256+z) (show 0<m by omega);have E1:AO _:=e1;have E2:AO _:=e2;go_wp2
  go_ret
  exact⟨(x*65536+y*256+z)%m,rfl,E1.o,AG E2.o,HC.o,HW.o⟩
def Sc (w:aV) (g:Nat) (a:Option Addr) (n cap:Nat) (e:Ending) (w':aV):Prop:=∃ x:Bool,e=aQ (.bool x)/\Dc w' g a n cap/\Wr g w w'
theorem EN (g:Nat) (a:Option Addr) (n cap:Nat) (m:Int) (w:aV) (hc:Dc w g a n cap) (ht:Fb w g a n) (hm:1<=m) (hm':m<=16777216) :
  Calls tP 19 #[aY (aR ⟨g,0,aS⟩),aO aZ m] w (Sc w g a n cap):=by
 go_enter func19,ntmps19;go_wp2_with fail;refine(Cl g a n cap m _ hc ht hm hm').mono ?_;rintro e w1 ⟨x,rfl,hx0,hx1,hc1,hw1⟩;have HC:AO _:=hc1;have HW:AO _:=hw1;go_wp2
 go_ret
 exact⟨x == 0,rfl,HC.o,HW.o⟩
theorem JO (o:BinOp) (x y:Int):-9223372036854775808<=bits o aZ x y/\bits o aZ x y<=9223372036854775807:=by
 have h:∀ n:Int,-9223372036854775808<=IntKind.i64.wrap n/\IntKind.i64.wrap n<=9223372036854775807:=λn=>by rw[Ak];omega
 unfold bits;cases o<;>exact h _
def Us (w:aV) (a:Option Addr) (n cap:Nat) (e:Ending) (w':aV):Prop:=e=aQ (aY (aR ⟨w.heap.size,0,aS⟩))/\Dc w' w.heap.size a n cap/\Below w.heap.size w w'/\w'.heap.size=w.heap.size+1
theorem PQ (a:Option Addr) (n cap:Nat) (zs:List Int) (w:aV) (hl:zs.length=n) (hn:n<=1048576) (hz:Cb zs) (ha:At .u8 w a zs) :
  Calls tP 13 #[aM a n cap] w (Us w a n cap):=by
 go_enter func13,ntmps13;go_wp2
 go_loop [3,4] (λh i=>∃(k:Nat) (q:Int),k<=n/\i=aO aZ k/\h=aO aZ q/\-9223372036854775808<=q/\q<=9223372036854775807) (λ_ i=>n-(intOf i).toNat)
 case atStart=>exact⟨0,_,Aw _,rfl,rfl,AJ,AJ⟩
 case round=>
  obtain⟨k,q,hk,rfl,rfl,hq0,hq1⟩:=hrel;by_cases hlt:k<n
  ·obtain⟨b,off,rfl,hb,hc⟩:=ha.get AJ;have hck:=hc k AJ;have hx:=hz.get k;generalize zs.getD k 0=x at *;obtain⟨hx0,hx1⟩:=hx;go_wp2
   go_round
   case rel=>exact⟨k+1,_,AJ,by go_num,rfl,(JO _ _ _).1,(JO _ _ _).2⟩
   case measure=>simp[intOf];omega
  ·go_wp2
   go_ret
   exact⟨rfl,⟨0,q,AJ,AJ,hq0,hq1,AS w _⟩,Cf.alloc Ch _,AL⟩
structure D4 (w wr:aV) (R:List (Nat×List Int)) (E:List (Nat×Nat×List Int)):Prop where
 below:Below w.heap.size w wr
 rows:∀ r∈R,w.heap.size<=r.1/\Cd wr r.1 141 r.2/\Cq r.2
 order:R.Pairwise λa b=>a.1≠b.1
 els:∀ e∈E,e.1<w.heap.size/\Dx wr e.1 e.2.1 e.2.2
section
variable {w wr w':aV} {R:List (Nat×List Int)} {E:List (Nat×Nat×List Int)}
theorem D4.start (w:aV) (E:List (Nat×Nat×List Int)) (h:∀ e∈E,Dx w e.1 e.2.1 e.2.2):D4 w w [] E:=
 ⟨A8 _ _,AL,List.Pairwise.nil,λe he=>⟨(h e he).1,h e he⟩⟩
theorem D4.call (h:D4 w wr R E) (b:Below wr.heap.size wr w'):D4 w w' R E:=
 ⟨h.below.trans (b.mono h.below.size),λr hr=>⟨(h.rows r hr).1,(h.rows r hr).2.1.below b (h.rows r hr).2.1.lt,(h.rows r hr).2.2⟩,h.order,λe he=>⟨(h.els e he).1,(h.els e he).2.below b⟩⟩
theorem D4.one (h:D4 w wr R E) (b:Below wr.heap.size wr w') {g:Nat} {es:List Int} (hg:wr.heap.size<=g) (hr:Cd w' g 141 es) (hk:Cq es) :
  D4 w w' ((g,es)::R) E:=by
 have c:=h.call b;refine⟨c.below,?_,?_,c.els⟩
 ·intro r hm;rcases Au.1 hm with rfl|hm
  {exact⟨Ai h.below.size hg,hr,hk⟩};{exact c.rows r hm}
 ·exact List.Pairwise.cons (λr hm e=>by have:=(h.rows r hm).2.1.lt;simp only at e;omega) h.order
theorem D4.two (h:D4 w wr R E) (b:Below wr.heap.size wr w') {g g':Nat} {es es':List Int} (hg:wr.heap.size<=g) (hr:Cd w' g 141 es) (hk:Cq es)
  (hg':wr.heap.size<=g') (hr':Cd w' g' 141 es') (hk':Cq es') (hne:g≠g'):D4 w w' ((g',es')::(g,es)::R) E:=by
 have c:=h.one b hg hr hk;refine⟨c.below,?_,?_,c.els⟩
 ·intro r hm;rcases Au.1 hm with rfl|hm
  {exact⟨Ai h.below.size hg',hr',hk'⟩};{exact c.rows r hm}
 ·refine List.Pairwise.cons (λr hm e=>?_) c.order;rcases Au.1 hm with rfl|hm
  {exact hne e.symm};{have:=(h.rows r hm).2.1.lt;simp only at e;omega}
theorem D4.room (h:D4 w wr R E) :
  D4 w (wr.alloc (aa CN 141)) ((wr.heap.size,[0,0,0,0,0])::R) E:=
 h.one (Ct _ _) Ch (J9 wr) FY
theorem D4.room2 (h:D4 w wr R E) :
  D4 w ((wr.alloc (aa CN 141)).alloc (aa CN 141)) ((wr.heap.size+1,[0,0,0,0,0])::(wr.heap.size,[0,0,0,0,0])::R) E:=by
 have:=h.room.room
 rwa [show(wr.alloc (aa CN 141)).heap.size=wr.heap.size+1 by simp] at this
theorem D4.el (h:D4 w wr R E) (i:Nat) (g o:Nat) (es:List Int) (hi:E[i]?=aR (g,o,es)):Dx wr g o es:=
 (h.els _ (List.mem_of_getElem? hi)).2
theorem D4.row (h:D4 w wr R E) (i:Nat) (g:Nat) (es:List Int) (hi:R[i]?=aR (g,es)):Cd wr g 141 es:=
 (h.rows _ (List.mem_of_getElem? hi)).2.1
theorem D4.ok (h:D4 w wr R E) (i:Nat) (g:Nat) (es:List Int) (hi:R[i]?=aR (g,es)):Cq es:=
 (h.rows _ (List.mem_of_getElem? hi)).2.2
theorem D4.re (h:D4 w wr R E) (i:Nat) (g:Nat) (es:List Int) (hi:R[i]?=aR (g,es)):Dx wr g 0 es:=
 Dx.of_row (h.row i g es hi) (h.ok i g es hi)
theorem D4.put (h:D4 w wr R E) (i:Nat) (g:Nat) (zs es:List Int) (hi:R[i]?=aR (g,zs)) (hw:Wr g wr w') (hr:Cd w' g 141 es) (hk:Cq es) :
  D4 w w' (R.set i (g,es)) E:=by
 have hg:=(h.rows _ (List.mem_of_getElem? hi)).1;have hil:=(Am.1 hi).1;have hie:=(Am.1 hi).2;have ho:=List.pairwise_iff_getElem.1 h.order;refine⟨h.below.trans (hw.below hg),?_,?_,λe he=>⟨(h.els e he).1,(h.els e he).2.wr hw (AG (h.els e he).1)⟩⟩
 ·intro r hm;obtain⟨j,hj,rfl⟩:=Bn hm;rw[List.length_set] at hj;rw[List.getElem_set];split
  ·exact⟨hg,hr,hk⟩
  ·rename_i hne
   have q:=h.rows _ (BL hj);refine⟨q.1,hw.rowW q.2.1 ?_,q.2.2⟩;rcases Nat.lt_or_gt_of_ne hne with hlt|hgt
   {have:=ho i j hil hj hlt;rw[hie] at this;exact λe=>this e.symm};{have:=ho j i hj hil hgt;rw[hie] at this;exact this}
 ·rw[List.pairwise_iff_getElem];intro a b ha hb hab;rw[List.length_set] at ha hb;have:=ho a b ha hb hab;rw[List.getElem_set,List.getElem_set];split<;>split<;>simp_all
end
theorem DG {w wr:aV} {R:List (Nat×List Int)} {E:List (Nat×Nat×List Int)} (S:D4 w wr R E)
  {ops:Array Oper} {rest:List Oper} {o:Oper} {a:Act} {Q:Exit->Act->aV->Prop} (hgd:o.guard=aS) (x y:Operand) (ho:o.op=.store 141 x y)
  (i g:Nat) (zs es:List Int) (hi:R[i]?=aR (g,zs)) (hx:a.eval x=aY (aR ⟨g,0,aS⟩)) (hy:a.eval y=af (es.map (Value.int .u64)).toArray) (hk:Cq es)
  {wa:aV} (hwa:wa=wr)
  (hK:∀ w',D4 w w' (R.set i (g,es)) E->wpList tP ops Q rest (a.put o.dst undef) w') :
  wpList tP ops Q (o::rest) a wa:=by
 subst hwa;exact Ck hgd x y ho g es zs hx hy hk.1 (S.ok i g zs hi).1 (S.row i g zs hi) λw' hr hw=>hK w' (S.put i g zs es hi hw hr hk)
def EV (x:Int) (v:aX):Prop:=∃ es,Cq es/\ev es=x/\v=af (es.map (Value.int .u64)).toArray
theorem EV.elim_ {x:Int} {v:aX} {C:Prop} (h:EV x v) (k:∀ es,Cq es->ev es=x->v=af (es.map (Value.int .u64)).toArray->C):C:=by
 obtain⟨es,a,b,c⟩:=h;exact k es a b c
theorem Gf {u:Nat->aX} {i j:Nat} {v:aX} (h:i≠j):Ca u i v j=u j:=by unfold Ca;rw[AQ (A9 h)]
theorem D6 {L:Nat->Bool} {i j:Nat} (h:j≠i):CZ L i j=L j:=by unfold CZ;simp[h]
theorem OD {L:Nat->Bool} {i:Nat}:CZ L i i=true:=by unfold CZ;simp
def YR (W:aV) (A S:Nat) (X:Int) (L:Nat->Bool) (u:Nat->aX) (w':aV):Prop:=
 (L S=true->L A=true)/\(L A=true->∃ g es,u A=aY (aR ⟨g,0,aS⟩)/\W.heap.size<=g/\Cd w' g 141 es/\Cq es/\(L S=true->ev es=X))
structure Hr (W:aV) (A1 A2 S1 S2:Nat) (X1 X2:Int) (L:Nat->Bool) (u:Nat->aX) (w':aV):Prop where
 below:Below W.heap.size W w'
 v1:YR W A1 S1 X1 L u w'
 v2:YR W A2 S2 X2 L u w'
 ne:L A1=true->L A2=true->∀ g g',u A1=aY (aR ⟨g,0,aS⟩)->u A2=aY (aR ⟨g',0,aS⟩)->g≠g'
section
variable {W w' ww:aV} {A1 A2 S1 S2 A S:Nat} {X1 X2 X:Int} {L:Nat->Bool} {u:Nat->aX}
theorem YR.low (h:YR W A S X L u w') (i:Nat) (hA:A≠i) (hS:S≠i) (v:aX) (hb:∀ g,(aa #[] 0=aa #[] 0)->L A=true->∀ es,u A=aY (aR ⟨g,0,aS⟩)->Cd w' g 141 es->Cd ww g 141 es):YR W A S X (CZ L i) (Ca u i v) ww:=by
 refine⟨by rw[D6 hA,D6 hS];exact h.1,?_⟩;rw[D6 hA,D6 hS];intro hL;obtain⟨g,es,h1,h2,h3,h4,h5⟩:=h.2 hL;exact⟨g,es,by rw[Gf (A9 hA)];exact h1,h2,hb g rfl hL es h1 h3,h4,h5⟩
theorem Hr.low (h:Hr W A1 A2 S1 S2 X1 X2 L u w') (i:Nat) (h1:A1≠i) (h2:A2≠i) (h3:S1≠i) (h4:S2≠i) (v:aX) (b:Below w'.heap.size w' ww):Hr W A1 A2 S1 S2 X1 X2 (CZ L i) (Ca u i v) ww:=
 ⟨h.below.trans (b.mono h.below.size),h.v1.low i h1 h3 v (λg _ _ es _ r=>r.below b r.lt),h.v2.low i h2 h4 v (λg _ _ es _ r=>r.below b r.lt),by
  rw[D6 h1,D6 h2,Gf (A9 h1),Gf (A9 h2)];exact h.ne⟩
theorem Hr.start (W:aV) (L:Nat->Bool) (u:Nat->aX) (h1:L A1=false) (h2:L A2=false) (h3:L S1=false) (h4:L S2=false) (b:Below W.heap.size W w'):Hr W A1 A2 S1 S2 X1 X2 L u w':=
 ⟨b,⟨λh=>(by rw[h3] at h;cases h),λh=>(by rw[h1] at h;cases h)⟩,⟨λh=>(by rw[h4] at h;cases h),λh=>(by rw[h2] at h;cases h)⟩,λh=>(by rw[h1] at h;cases h)⟩
theorem Hr.swap (h:Hr W A1 A2 S1 S2 X1 X2 L u w'):Hr W A2 A1 S2 S1 X2 X1 L u w':=⟨h.below,h.v2,h.v1,λa b g g' e e' q=>h.ne b a g' g e' e q.symm⟩
theorem Hr.alloc1 (h:Hr W A1 A2 S1 S2 X1 X2 L u w') (hL:L A1=false) (h2:A2≠A1) (h3:S1≠A1) (h4:S2≠A1) :
  Hr W A1 A2 S1 S2 X1 X2 (CZ L A1) (Ca u A1 (aY (aR ⟨w'.heap.size,0,aS⟩))) (w'.alloc (aa CN 141)):=by
 have b:=Ct w' (aa CN 141);have hS:L S1=false:=by
  cases q:L S1 with
  |false=>rfl
  |true=>have:=h.v1.1 q;rw[hL] at this;cases this
 refine⟨h.below.trans (b.mono h.below.size),⟨λ_=>OD,λ_=>⟨w'.heap.size,[0,0,0,0,0],by unfold Ca;simp,h.below.size,J9 w',FY,by rw[D6 h3,hS];intro q;cases q⟩⟩,h.v2.low A1 h2 h4 _ (λg _ _ es _ r=>r.below b r.lt),?_⟩;rw[D6 h2,Gf (A9 h2)];intro _ q g g' e e' hg;obtain⟨g2,es,k1,k2,k3,_⟩:=h.v2.2 q;have e1:g=w'.heap.size:=by unfold Ca at e;simp at e;exact e.symm
 rw[k1] at e';have e2:g2=g':=by simpa using e'
 have:=k3.lt;omega
theorem Hr.alloc2 (h:Hr W A1 A2 S1 S2 X1 X2 L u w') (hL:L A2=false) (h2:A1≠A2) (h3:S2≠A2) (h4:S1≠A2) :
  Hr W A1 A2 S1 S2 X1 X2 (CZ L A2) (Ca u A2 (aY (aR ⟨w'.heap.size,0,aS⟩))) (w'.alloc (aa CN 141)):=
 (h.swap.alloc1 hL h2 h3 h4).swap
theorem Hr.store1 (h:Hr W A1 A2 S1 S2 X1 X2 L u w') {g:Nat} {es:List Int} (hL:L A1=true) (hg:u A1=aY (aR ⟨g,0,aS⟩)) (h1:A1≠S1) (h2:A2≠S1) (h4:S2≠S1) (hk:Cq es) (hv:ev es=X1) (hw:Wr g w' ww) (hr:Cd ww g 141 es) (v:aX) :
  Hr W A1 A2 S1 S2 X1 X2 (CZ L S1) (Ca u S1 v) ww:=by
 obtain⟨g0,es0,k1,k2,k3,k4,k5⟩:=h.v1.2 hL;have e0:g0=g:=by rw[k1] at hg;simpa using hg
 subst e0;refine⟨h.below.trans (hw.below k2),⟨λ_=>by rw[D6 h1];exact hL,λ_=>⟨g0,es,by rw[Gf (A9 h1)];exact hg,k2,hr,hk,λ_=>hv⟩⟩,h.v2.low S1 h2 h4 v (λg' _ q es' e' r=>hw.rowW r (λe=>h.ne hL q g0 g' k1 e' e.symm)),?_⟩;rw[D6 h1,D6 h2,Gf (A9 h1),Gf (A9 h2)];exact h.ne
theorem Hr.store2 (h:Hr W A1 A2 S1 S2 X1 X2 L u w') {g:Nat} {es:List Int} (hL:L A2=true) (hg:u A2=aY (aR ⟨g,0,aS⟩)) (h1:A2≠S2) (h2:A1≠S2) (h4:S1≠S2) (hk:Cq es) (hv:ev es=X2) (hw:Wr g w' ww) (hr:Cd ww g 141 es) (v:aX) :
  Hr W A1 A2 S1 S2 X1 X2 (CZ L S2) (Ca u S2 v) ww:=(h.swap.store1 hL hg h1 h2 h4 hk hv hw hr v).swap
theorem Hr.fin1 (h:Hr W A1 A2 S1 S2 X1 X2 L u w') (hS:L S1=true):∃ g es,u A1=aY (aR ⟨g,0,aS⟩)/\W.heap.size<=g/\Cd w' g 141 es/\Cq es/\ev es=X1:=by
 obtain⟨g,es,k1,k2,k3,k4,k5⟩:=h.v1.2 (h.v1.1 hS);exact⟨g,es,k1,k2,k3,k4,k5 hS⟩
theorem Hr.get1 (h:Hr W A1 A2 S1 S2 X1 X2 L u w') (hA:L A1=true):∃ g es,u A1=aY (aR ⟨g,0,aS⟩)/\Cd w' g 141 es/\Cq es:=by
 obtain⟨g,es,k1,k2,k3,k4,k5⟩:=h.v1.2 hA;exact⟨g,es,k1,k3,k4⟩
end
theorem Ec {w:aV} {o:Oper} {a:Act} {K:Act->aV->Prop} {Q:Exit->Act->aV->Prop} (x y:Operand) (ho:o.op=.store 141 x y)
  (g:Nat) (zs es:List Int) (hx:a.eval x=aY (aR ⟨g,0,aS⟩)) (hy:a.eval y=af (es.map (Value.int .u64)).toArray) (hk:Cq es) (hz:Cq zs) (hr:Cd w g 141 zs)
  (hK:∀ w',Cd w' g 141 es->Wr g w w'->K (a.put o.dst undef) w'):o.wp tP a w K Q:=
 Be 141 x y ho g ((es.map (Value.int .u64)).toArray) hx hy 141 _ hr (sizeEl hk.1) (by simp[hk.1,hz.1]) (all_oneCell_toArray (Az _ _)) (hK _ (AB hr) (Wr.setRow _ _ _))
def Ut (w:aV) (g:Nat) (X1 Y1 Z1 T1 X2 Y2 Z2 T2:Int) (e:Ending) (w':aV):Prop:=
 ∃ x y z t,Pt w' g x y z t/\ET g w w'/\e=aQ (.tuple #[])/\
  ev x=(Lu X1 Y1 X2 Y2-Lt X1 Y1 X2 Y2)%fp*((Kj Z1 Z2-KZ Dl T1 T2)%fp)%fp/\
  ev y=(Kj Z1 Z2+KZ Dl T1 T2)%fp*((Lu X1 Y1 X2 Y2+Lt X1 Y1 X2 Y2)%fp)%fp/\
  ev z=(Kj Z1 Z2-KZ Dl T1 T2)%fp*((Kj Z1 Z2+KZ Dl T1 T2)%fp)%fp/\
  ev t=(Lu X1 Y1 X2 Y2-Lt X1 Y1 X2 Y2)%fp*((Lu X1 Y1 X2 Y2+Lt X1 Y1 X2 Y2)%fp)%fp
theorem ZW (a b:Int):a%fp*b%fp=a*b%fp:=by rw[Int.mul_emod,Int.emod_emod,<-Int.mul_emod]
theorem ZX (D T1 T2:Int):T1*T2%fp*((D+D)%fp)%fp=KZ D T1 T2:=by
 unfold KZ;rw[ZW,ZW]
 congr 1;grind
theorem ZY (Z1 Z2:Int):(Z1*Z2%fp+Z1*Z2%fp)%fp=Kj Z1 Z2:=by
 unfold Kj;rw[ZW,<-Int.add_emod]
 congr 1;grind
theorem Sd {xs:List Int} (h:xs.length=5):∃ a b c d e,xs=[a,b,c,d,e]:=by
 match xs,h with
 |[a,b,c,d,e],_=>exact⟨a,b,c,d,e,rfl⟩
theorem Tryz.sizePoint:(tP.info? 143).map (·.size)=aR 20:=AM
theorem GA {w:aV} {ops:Array Oper} {rest:List Oper} {o:Oper} {a:Act} {Q:Exit->Act->aV->Prop} (hgd:o.guard=aS) (px py:Operand) (ho:o.op=.store 143 px py)
  (g:Nat) (x y z t old:List Int) (hx:a.eval px=aY (aR ⟨g,0,aS⟩)) (hy:a.eval py=af ((pl x y z t).map (Value.int .u64)).toArray) (kx:Cq x) (ky:Cq y) (kz:Cq z) (kt:Cq t) (hl:old.length=20) (hr:Cd w g 143 old)
  (hK:∀ w',Pt w' g x y z t->Wr g w w'->wpList tP ops Q rest (a.put o.dst undef) w') :
  wpList tP ops Q (o::rest) a w:=by
 have hn:(pl x y z t).length=20:=by unfold pl;simp[kx.1,ky.1,kz.1,kt.1]
 exact Bx hgd 143 px py ho g ((pl x y z t).map (Value.int .u64)).toArray hx hy 143 _ hr (by rw[Tryz.sizePoint];simp[hn]) (by simp[hn,hl]) (all_oneCell_toArray (Az _ _)) (hK _ ⟨AB hr,kx,ky,kz,kt⟩ (Wr.setRow _ _ _))
theorem Lw (g h:Nat) (x1 y1 z1 t1 x2 y2 z2 t2:List Int) (w:aV) (hp:Pt w g x1 y1 z1 t1) (hq:Pt w h x2 y2 z2 t2) :
  Calls tP 110 #[aY (aR ⟨g,0,aS⟩),aY (aR ⟨h,0,aS⟩)] w (Ut w g (ev x1) (ev y1) (ev z1) (ev t1) (ev x2) (ev y2) (ev z2) (ev t2)):=by
 have HS0:AO (D4 w w [] [(g,0,x1),(g,5,y1),(g,10,z1),(g,15,t1),(h,0,x2),(h,5,y2),(h,10,z2),(h,15,t2)]):=D4.start w _ (λe he=>by
  simp only[List.mem_cons,List.not_mem_nil,or_false] at he;rcases he with rfl|rfl|rfl|rfl|rfl|rfl|rfl|rfl
  {exact hp.ex};{exact hp.ey};{exact hp.ez};{exact hp.et};{exact hq.ex};{exact hq.ey};{exact hq.ez}
  ·exact hq.et)
 have HPT:=CY <| hp
 go_enter func110,ntmps110;go_wp2_with fail;refine(Mh _).mono ?_;rintro e w1 ⟨dd,hk,hv,rfl,b⟩;have HKdd:AO (Cq dd/\ev dd=ev FJ):=⟨hk,hv⟩
 have HS1:=CY <| HS0.o.call b
 have HA2:=CY <| HS1.o.room
 go_wp2_with (first
  |(refine DG HA2.o rfl (ah 4) (ah 17) rfl 0 (w1.heap.size) [0,0,0,0,0] dd rfl rfl rfl HKdd.o.1 rfl ?_)
  |fail)
 intro w3 S;have HS3:=CY <| S
 generalize w1.heap.size=G3a at *;go_wp2_with fail;refine Ag AM ?_;refine Em (λ_ _ _=>True) (frame:=(λ(a b c d e f g h i j k l m n o p q r s u v w x y z A B C D E F G H I J K L M N O P Q R S T U V W X Y Z a0 a1 a2 a3 a4 a5 a6 a7:aX)=>λ(t:Nat->aX)=>({ tmps:=List.toArray [a,b,c,d,e,t 14,t 15,f,g,h,i,j,k,l,m,n,o,p,t 0,t 1,t 2,t 3,t 4,t 5,t 6,t 7,t 8,t 9,t 10,t 11,t 12,t 13,q,r,s,u,v,w,x,y,z,A,B,C,D,E,F,G,H,I,J,K,L,M,N,O,P,Q,R,S,T,U,V,W,X,Y,Z,a0,a1,a2,a3,a4,a5,a6,a7],defers:=[] }:Act)) _ _ _ _ _ _ _ _ _ _ _ _ _ _ _ _ _ _ _ _ _ _ _ _ _ _ _ _ _ _ _ _ _ _ _ _ _ _ _ _ _ _ _ _ _ _ _ _ _ _ _ _ _ _ _ _ _ _ _)
  (Ext:=Hr w3 14 15 16 17 ((ev y1-ev x1)%fp) ((ev y2-ev x2)%fp)) (Good:=λi L _ v=>if i=0 then v=aY (aR ⟨g,0,aS⟩) else if i=1 then v=aY (aR ⟨g,0,aS⟩) else if i=2 then v=aY (aR ⟨g,5,aS⟩) else if i=3 then v=aY (aR ⟨g,0,aS⟩) else if i=4 then v=aY (aR ⟨g,0,aS⟩) else if i=5 then v=aY (aR ⟨g,0,aS⟩) else if i=6 then EV ((ev y1-ev x1)%fp) v else if i=7 then v=aY (aR ⟨h,0,aS⟩) else if i=8 then v=aY (aR ⟨h,0,aS⟩) else if i=9 then v=aY (aR ⟨h,5,aS⟩) else if i=10 then v=aY (aR ⟨h,0,aS⟩) else if i=11 then v=aY (aR ⟨h,0,aS⟩) else if i=12 then v=aY (aR ⟨h,0,aS⟩) else if i=13 then EV ((ev y2-ev x2)%fp) v else if i=14 then L 14=true else if i=15 then L 15=true else if i=16 then L 16=true else if i=17 then L 17=true else True) ?hstab AM ?hop ?hdone _ _ ((λ(x0 x1 x2 x3 x4 x5 x6 x7 x8 x9 x10 x11 x12 x13 x14 x15:aX)=>λ(i:Nat)=>if i=0 then x0 else if i=1 then x1 else if i=2 then x2 else if i=3 then x3 else if i=4 then x4 else if i=5 then x5 else if i=6 then x6 else if i=7 then x7 else if i=8 then x8 else if i=9 then x9 else if i=10 then x10 else if i=11 then x11 else if i=12 then x12 else if i=13 then x13 else if i=14 then x14 else if i=15 then x15 else undef) _ _ _ _ _ _ _ _ _ _ _ _ _ _ _ _) _ AL ?ext ?start AL
 case start=>intro i hi h;exact absurd h Ef
 case ext=>exact Hr.start _ _ _ AL AL AL AL ⟨rfl,rfl,rfl,Aa _,λ_ _=>rfl⟩
 case hstab=>
  intro j L w9 w' i v _ _ _ h;by_cases h14:j=14
  ·subst h14;simp at h |-;unfold CZ;simp[h]
  by_cases h15:j=15
  ·subst h15;simp at h |-;unfold CZ;simp[h]
  by_cases h16:j=16
  ·subst h16;simp at h |-;unfold CZ;simp[h]
  by_cases h17:j=17
  ·subst h17;simp at h |-;unfold CZ;simp[h]
  simp only[if_neg h14,if_neg h15,if_neg h16,if_neg h17] at h |-;exact h
 case hop=>
  intro i o L t w' ho hLi hx hdep K hK;have hi:i<18:=(AR.1 ho).1;obtain rfl|rfl|rfl|rfl|rfl|rfl|rfl|rfl|rfl|rfl|rfl|rfl|rfl|rfl|rfl|rfl|rfl|rfl:i=0\/i=1\/i=2\/i=3\/i=4\/i=5\/i=6\/i=7\/i=8\/i=9\/i=10\/i=11\/i=12\/i=13\/i=14\/i=15\/i=16\/i=17:=AJ
  all_goals(simp at ho;subst ho)
  all_goals try(have hK':=hK w' _ rfl (hx.low _ AK AK AK AK _ Cf) trivial;clear hK;simp[Region.binds] at hdep;rw[AP AN];go_simp;simpa[Ca,hdep] using hK';done)
  ·have d2:t 2=aY (aR ⟨g,5,aS⟩):=by simpa using hdep ⟨2,ag⟩ AL rfl
   have d5:t 5=aY (aR ⟨g,0,aS⟩):=by simpa using hdep ⟨5,ag⟩ AL rfl
   have A:=Fe g 5 g 0 y1 x1 w' ((HS3.o.el 1 _ _ _ rfl).below hx.below) ((HS3.o.el 0 _ _ _ rfl).below hx.below);have hK':∀ ww v,EV ((ev y1-ev x1)%fp) v->Below w'.heap.size w' ww->K _ ww:=λww v hv hb=>hK ww v (by simpa using hv) (hx.low 6 AK AK AK AK _ hb) trivial
   rw[AP AN];go_simp;try simp only[d2,d5]
   refine A.mono ?_;rintro e w9 ⟨es,hk,hv,rfl,hb⟩;have hK2:=hK' w9 _ ⟨es,hk,hv,rfl⟩ hb;go_simp;simpa[Ca,d2,d5] using hK2
  ·have d9:t 9=aY (aR ⟨h,5,aS⟩):=by simpa using hdep ⟨9,ag⟩ AL rfl
   have d12:t 12=aY (aR ⟨h,0,aS⟩):=by simpa using hdep ⟨12,ag⟩ AL rfl
   have A:=Fe h 5 h 0 y2 x2 w' ((HS3.o.el 5 _ _ _ rfl).below hx.below) ((HS3.o.el 4 _ _ _ rfl).below hx.below);have hK':∀ ww v,EV ((ev y2-ev x2)%fp) v->Below w'.heap.size w' ww->K _ ww:=λww v hv hb=>hK ww v (by simpa using hv) (hx.low 13 AK AK AK AK _ hb) trivial
   rw[AP AN];go_simp;try simp only[d9,d12]
   refine A.mono ?_;rintro e w9 ⟨es,hk,hv,rfl,hb⟩;have hK2:=hK' w9 _ ⟨es,hk,hv,rfl⟩ hb;go_simp;simpa[Ca,d9,d12] using hK2
  {clear hdep;have hK':=hK _ (aY (aR ⟨w'.heap.size,0,aS⟩)) (by simp[CZ]) (hx.alloc1 hLi AK AK AK) trivial;rw[AP AN];go_simp;simpa[Ca] using hK'};{clear hdep;have hK':=hK _ (aY (aR ⟨w'.heap.size,0,aS⟩)) (by simp[CZ]) (hx.alloc2 hLi AK AK AK) trivial;rw[AP AN];go_simp;simpa[Ca] using hK'}
  ·have l14:L 14=true:=by simpa using hdep ⟨14,ag⟩ AL rfl
   have f6:EV ((ev y1-ev x1)%fp) (t 6):=by simpa using hdep ⟨6,ag⟩ AL rfl
   obtain⟨g9,zs9,e9,r9,k9⟩:=hx.get1 l14;refine f6.elim_ λes9 ke ve ee=>?_
   have hK':∀ ww,Cd ww g9 141 es9->Wr g9 w' ww->K _ ww:=λww rr hw=>hK ww undef (by simp[CZ]) (hx.store1 l14 e9 AK AK AK ke ve hw rr _) trivial
   rw[AP AN];refine Ec (ah 5) (ah 24) rfl g9 zs9 es9 e9 ee ke k9 r9 λww rr hw=>?_
   have hK2:=hK' ww rr hw;simpa[Ca,Act.put] using hK2
  ·have l15:L 15=true:=by simpa using hdep ⟨15,ag⟩ AL rfl
   have f13:EV ((ev y2-ev x2)%fp) (t 13):=by simpa using hdep ⟨13,ag⟩ AL rfl
   obtain⟨g9,zs9,e9,r9,k9⟩:=hx.swap.get1 l15;refine f13.elim_ λes9 ke ve ee=>?_
   have hK':∀ ww,Cd ww g9 141 es9->Wr g9 w' ww->K _ ww:=λww rr hw=>hK ww undef (by simp[CZ]) (hx.store2 l15 e9 AK AK AK ke ve hw rr _) trivial
   rw[AP AN];refine Ec (ah 6) (ah 31) rfl g9 zs9 es9 e9 ee ke k9 r9 λww rr hw=>?_
   have hK2:=hK' ww rr hw;simpa[Ca,Act.put] using hK2
 case hdone=>
  intro L t4 w4 hx hg;have l16:L 16=true:=by simpa using hg 16 AK
  have l17:L 17=true:=by simpa using hg 17 AK
  obtain⟨G4a,pd,q1,qg1,qr1,qk1,qv1⟩:=hx.fin1 l16;obtain⟨G4b,qd,q2,qg2,qr2,qk2,qv2⟩:=hx.swap.fin1 l17;have qne:=hx.ne (hx.v1.1 l16) (hx.v2.1 l17) _ _ q1 q2;have HS4:=CY <| HS3.o.two hx.below qg1 qr1 qk1 qg2 qr2 qk2 qne
  have HKpd:AO (Cq pd/\ev pd=(ev y1-ev x1)%fp):=⟨qk1,qv1⟩
  have HKqd:AO (Cq qd/\ev qd=(ev y2-ev x2)%fp):=⟨qk2,qv2⟩
  simp only[q1,q2];go_wp2_with fail;refine Ag AM ?_;refine Em (λ_ _ _=>True) (frame:=(λ(a b c d e f g h i j k l m n o p q r s u v w x y z A B C D E F G H I J K L M N O P Q R S T U V W X Y Z a0 a1 a2 a3 a4 a5 a6 a7:aX)=>λ(t:Nat->aX)=>({ tmps:=List.toArray [a,b,c,d,e,f,g,t 14,t 15,h,i,j,k,l,m,n,o,p,q,r,s,u,v,w,x,y,z,A,B,C,D,E,t 0,t 1,t 2,t 3,t 4,t 5,t 6,t 7,t 8,t 9,t 10,t 11,t 12,t 13,F,G,H,I,J,K,L,M,N,O,P,Q,R,S,T,U,V,W,X,Y,Z,a0,a1,a2,a3,a4,a5,a6,a7],defers:=[] }:Act)) _ _ _ _ _ _ _ _ _ _ _ _ _ _ _ _ _ _ _ _ _ _ _ _ _ _ _ _ _ _ _ _ _ _ _ _ _ _ _ _ _ _ _ _ _ _ _ _ _ _ _ _ _ _ _ _ _ _ _)
   (Ext:=Hr w4 14 15 16 17 ((ev y1+ev x1)%fp) ((ev y2+ev x2)%fp)) (Good:=λi L _ v=>if i=0 then v=aY (aR ⟨g,0,aS⟩) else if i=1 then v=aY (aR ⟨g,0,aS⟩) else if i=2 then v=aY (aR ⟨g,5,aS⟩) else if i=3 then v=aY (aR ⟨g,0,aS⟩) else if i=4 then v=aY (aR ⟨g,0,aS⟩) else if i=5 then v=aY (aR ⟨g,0,aS⟩) else if i=6 then EV ((ev y1+ev x1)%fp) v else if i=7 then v=aY (aR ⟨h,0,aS⟩) else if i=8 then v=aY (aR ⟨h,0,aS⟩) else if i=9 then v=aY (aR ⟨h,5,aS⟩) else if i=10 then v=aY (aR ⟨h,0,aS⟩) else if i=11 then v=aY (aR ⟨h,0,aS⟩) else if i=12 then v=aY (aR ⟨h,0,aS⟩) else if i=13 then EV ((ev y2+ev x2)%fp) v else if i=14 then L 14=true else if i=15 then L 15=true else if i=16 then L 16=true else if i=17 then L 17=true else True) ?hstab AM ?hop ?hdone _ _ ((λ(x0 x1 x2 x3 x4 x5 x6 x7 x8 x9 x10 x11 x12 x13 x14 x15:aX)=>λ(i:Nat)=>if i=0 then x0 else if i=1 then x1 else if i=2 then x2 else if i=3 then x3 else if i=4 then x4 else if i=5 then x5 else if i=6 then x6 else if i=7 then x7 else if i=8 then x8 else if i=9 then x9 else if i=10 then x10 else if i=11 then x11 else if i=12 then x12 else if i=13 then x13 else if i=14 then x14 else if i=15 then x15 else undef) _ _ _ _ _ _ _ _ _ _ _ _ _ _ _ _) _ AL ?ext ?start AL
  case start=>intro i hi h;exact absurd h Ef
  case ext=>exact Hr.start _ _ _ AL AL AL AL ⟨rfl,rfl,rfl,Aa _,λ_ _=>rfl⟩
  case hstab=>
   intro j L w9 w' i v _ _ _ h;by_cases h14:j=14
   ·subst h14;simp at h |-;unfold CZ;simp[h]
   by_cases h15:j=15
   ·subst h15;simp at h |-;unfold CZ;simp[h]
   by_cases h16:j=16
   ·subst h16;simp at h |-;unfold CZ;simp[h]
   by_cases h17:j=17
   ·subst h17;simp at h |-;unfold CZ;simp[h]
   simp only[if_neg h14,if_neg h15,if_neg h16,if_neg h17] at h |-;exact h
  case hop=>
   intro i o L t w' ho hLi hx hdep K hK;have hi:i<18:=(AR.1 ho).1;obtain rfl|rfl|rfl|rfl|rfl|rfl|rfl|rfl|rfl|rfl|rfl|rfl|rfl|rfl|rfl|rfl|rfl|rfl:i=0\/i=1\/i=2\/i=3\/i=4\/i=5\/i=6\/i=7\/i=8\/i=9\/i=10\/i=11\/i=12\/i=13\/i=14\/i=15\/i=16\/i=17:=AJ
   all_goals(simp at ho;subst ho)
   all_goals try(have hK':=hK w' _ rfl (hx.low _ AK AK AK AK _ Cf) trivial;clear hK;simp[Region.binds] at hdep;rw[AP AN];go_simp;simpa[Ca,hdep] using hK';done)
   ·have d2:t 2=aY (aR ⟨g,5,aS⟩):=by simpa using hdep ⟨2,ag⟩ AL rfl
    have d5:t 5=aY (aR ⟨g,0,aS⟩):=by simpa using hdep ⟨5,ag⟩ AL rfl
    have A:=GN g 5 g 0 y1 x1 w' ((HS4.o.el 1 _ _ _ rfl).below hx.below) ((HS4.o.el 0 _ _ _ rfl).below hx.below);have hK':∀ ww v,EV ((ev y1+ev x1)%fp) v->Below w'.heap.size w' ww->K _ ww:=λww v hv hb=>hK ww v (by simpa using hv) (hx.low 6 AK AK AK AK _ hb) trivial
    rw[AP AN];go_simp;try simp only[d2,d5]
    refine A.mono ?_;rintro e w9 ⟨es,hk,hv,rfl,hb⟩;have hK2:=hK' w9 _ ⟨es,hk,hv,rfl⟩ hb;go_simp;simpa[Ca,d2,d5] using hK2
   ·have d9:t 9=aY (aR ⟨h,5,aS⟩):=by simpa using hdep ⟨9,ag⟩ AL rfl
    have d12:t 12=aY (aR ⟨h,0,aS⟩):=by simpa using hdep ⟨12,ag⟩ AL rfl
    have A:=GN h 5 h 0 y2 x2 w' ((HS4.o.el 5 _ _ _ rfl).below hx.below) ((HS4.o.el 4 _ _ _ rfl).below hx.below);have hK':∀ ww v,EV ((ev y2+ev x2)%fp) v->Below w'.heap.size w' ww->K _ ww:=λww v hv hb=>hK ww v (by simpa using hv) (hx.low 13 AK AK AK AK _ hb) trivial
    rw[AP AN];go_simp;try simp only[d9,d12]
    refine A.mono ?_;rintro e w9 ⟨es,hk,hv,rfl,hb⟩;have hK2:=hK' w9 _ ⟨es,hk,hv,rfl⟩ hb;go_simp;simpa[Ca,d9,d12] using hK2
   {clear hdep;have hK':=hK _ (aY (aR ⟨w'.heap.size,0,aS⟩)) (by simp[CZ]) (hx.alloc1 hLi AK AK AK) trivial;rw[AP AN];go_simp;simpa[Ca] using hK'};{clear hdep;have hK':=hK _ (aY (aR ⟨w'.heap.size,0,aS⟩)) (by simp[CZ]) (hx.alloc2 hLi AK AK AK) trivial;rw[AP AN];go_simp;simpa[Ca] using hK'}
   ·have l14:L 14=true:=by simpa using hdep ⟨14,ag⟩ AL rfl
    have f6:EV ((ev y1+ev x1)%fp) (t 6):=by simpa using hdep ⟨6,ag⟩ AL rfl
    obtain⟨g9,zs9,e9,r9,k9⟩:=hx.get1 l14;refine f6.elim_ λes9 ke ve ee=>?_
    have hK':∀ ww,Cd ww g9 141 es9->Wr g9 w' ww->K _ ww:=λww rr hw=>hK ww undef (by simp[CZ]) (hx.store1 l14 e9 AK AK AK ke ve hw rr _) trivial
    rw[AP AN];refine Ec (ah 7) (ah 38) rfl g9 zs9 es9 e9 ee ke k9 r9 λww rr hw=>?_
    have hK2:=hK' ww rr hw;simpa[Ca,Act.put] using hK2
   ·have l15:L 15=true:=by simpa using hdep ⟨15,ag⟩ AL rfl
    have f13:EV ((ev y2+ev x2)%fp) (t 13):=by simpa using hdep ⟨13,ag⟩ AL rfl
    obtain⟨g9,zs9,e9,r9,k9⟩:=hx.swap.get1 l15;refine f13.elim_ λes9 ke ve ee=>?_
    have hK':∀ ww,Cd ww g9 141 es9->Wr g9 w' ww->K _ ww:=λww rr hw=>hK ww undef (by simp[CZ]) (hx.store2 l15 e9 AK AK AK ke ve hw rr _) trivial
    rw[AP AN];refine Ec (ah 8) (ah 45) rfl g9 zs9 es9 e9 ee ke k9 r9 λww rr hw=>?_
    have hK2:=hK' ww rr hw;simpa[Ca,Act.put] using hK2
  case hdone=>
   intro L t5 w5 hx hg;have l16:L 16=true:=by simpa using hg 16 AK
   have l17:L 17=true:=by simpa using hg 17 AK
   obtain⟨G5a,pu,q1,qg1,qr1,qk1,qv1⟩:=hx.fin1 l16;obtain⟨G5b,qu,q2,qg2,qr2,qk2,qv2⟩:=hx.swap.fin1 l17;have qne:=hx.ne (hx.v1.1 l16) (hx.v2.1 l17) _ _ q1 q2;have HS5:=CY <| HS4.o.two hx.below qg1 qr1 qk1 qg2 qr2 qk2 qne
   have HKpu:AO (Cq pu/\ev pu=(ev y1+ev x1)%fp):=⟨qk1,qv1⟩
   have HKqu:AO (Cq qu/\ev qu=(ev y2+ev x2)%fp):=⟨qk2,qv2⟩
   simp only[q1,q2];go_wp2_with fail;refine(Cr G4a 0 G4b 0 pd qd _ (HS5.o.re 3 _ _ rfl) (HS5.o.re 2 _ _ rfl)).mono ?_;rintro e w6 ⟨dn,hk,hv,rfl,b⟩;have HKdn:AO (Cq dn/\ev dn=ev pd*ev qd%fp):=⟨hk,hv⟩
   have HS6:=CY <| HS5.o.call b
   go_wp2_with fail;refine(Cr G5a 0 G5b 0 pu qu _ (HS6.o.re 1 _ _ rfl) (HS6.o.re 0 _ _ rfl)).mono ?_;rintro e w7 ⟨up,hk,hv,rfl,b⟩;have HKup:AO (Cq up/\ev up=ev pu*ev qu%fp):=⟨hk,hv⟩
   have HS7:=CY <| HS6.o.call b
   have HA8:=CY <| HS7.o.room2
   go_wp2_with (first
    |(refine DG HA8.o rfl (ah 9) (ah 46) rfl 1 (w7.heap.size) [0,0,0,0,0] dn rfl rfl rfl HKdn.o.1 rfl ?_)
    |fail)
   intro w9 S;have HS9:=CY <| S
   go_wp2_with (first
    |(refine DG HS9.o rfl (ah 10) (ah 47) rfl 0 (w7.heap.size+1) [0,0,0,0,0] up rfl rfl rfl HKup.o.1 rfl ?_)
    |fail)
   intro w10 S;have HS10:=CY <| S
   generalize w7.heap.size+1=G10b at *;generalize w7.heap.size=G10a at *;go_wp2_with fail;refine Ag AM ?_;refine Em (λ_ _ _=>True) (frame:=(λ(a b c d e f g h i j k l m n o p q r s u v w x y z A B C D E F G H I J K L M N O P Q R S T U V W X Y Z a0 a1 a2 a3 a4 a5 a6 a7 a8 a9 b0 b1 b2 b3 b4 b5:aX)=>λ(t:Nat->aX)=>({ tmps:=List.toArray [a,b,c,d,e,f,g,h,i,j,k,t 7,l,m,n,o,p,q,r,s,u,v,w,x,y,z,A,B,C,D,E,F,G,H,I,J,K,L,M,N,O,P,Q,R,S,T,U,V,t 0,t 1,t 2,t 3,t 4,t 5,t 6,W,X,Y,Z,a0,a1,a2,a3,a4,a5,a6,a7,a8,a9,b0,b1,b2,b3,b4,b5],defers:=[] }:Act)) _ _ _ _ _ _ _ _ _ _ _ _ _ _ _ _ _ _ _ _ _ _ _ _ _ _ _ _ _ _ _ _ _ _ _ _ _ _ _ _ _ _ _ _ _ _ _ _ _ _ _ _ _ _ _ _ _ _ _ _ _ _ _ _ _ _ _)
    (Ext:=Hr w10 7 98 8 99 (ev t1*ev t2%fp) (0)) (Good:=λi L _ v=>if i=0 then v=aY (aR ⟨g,0,aS⟩) else if i=1 then v=aY (aR ⟨g,0,aS⟩) else if i=2 then v=aY (aR ⟨g,15,aS⟩) else if i=3 then v=aY (aR ⟨h,0,aS⟩) else if i=4 then v=aY (aR ⟨h,0,aS⟩) else if i=5 then v=aY (aR ⟨h,15,aS⟩) else if i=6 then EV (ev t1*ev t2%fp) v else if i=7 then L 7=true else if i=8 then L 8=true else True) ?hstab AM ?hop ?hdone _ _ ((λ(x0 x1 x2 x3 x4 x5 x6 x7:aX)=>λ(i:Nat)=>if i=0 then x0 else if i=1 then x1 else if i=2 then x2 else if i=3 then x3 else if i=4 then x4 else if i=5 then x5 else if i=6 then x6 else if i=7 then x7 else undef) _ _ _ _ _ _ _ _) _ AL ?ext ?start AL
   case start=>intro i hi h;exact absurd h Ef
   case ext=>exact Hr.start _ _ _ AL AL AL AL ⟨rfl,rfl,rfl,Aa _,λ_ _=>rfl⟩
   case hstab=>
    intro j L w9 w' i v _ _ _ h;by_cases h7:j=7
    ·subst h7;simp at h |-;unfold CZ;simp[h]
    by_cases h8:j=8
    ·subst h8;simp at h |-;unfold CZ;simp[h]
    simp only[if_neg h7,if_neg h8] at h |-;exact h
   case hop=>
    intro i o L t w' ho hLi hx hdep K hK;have hi:i<9:=(AR.1 ho).1;obtain rfl|rfl|rfl|rfl|rfl|rfl|rfl|rfl|rfl:i=0\/i=1\/i=2\/i=3\/i=4\/i=5\/i=6\/i=7\/i=8:=AJ
    all_goals(simp at ho;subst ho)
    all_goals try(have hK':=hK w' _ rfl (hx.low _ AK AK AK AK _ Cf) trivial;clear hK;simp[Region.binds] at hdep;rw[AP AN];go_simp;simpa[Ca,hdep] using hK';done)
    ·have d2:t 2=aY (aR ⟨g,15,aS⟩):=by simpa using hdep ⟨2,ag⟩ AL rfl
     have d5:t 5=aY (aR ⟨h,15,aS⟩):=by simpa using hdep ⟨5,ag⟩ AL rfl
     have A:=Cr g 15 h 15 t1 t2 w' ((HS10.o.el 3 _ _ _ rfl).below hx.below) ((HS10.o.el 7 _ _ _ rfl).below hx.below);have hK':∀ ww v,EV (ev t1*ev t2%fp) v->Below w'.heap.size w' ww->K _ ww:=λww v hv hb=>hK ww v (by simpa using hv) (hx.low 6 AK AK AK AK _ hb) trivial
     rw[AP AN];go_simp;try simp only[d2,d5]
     refine A.mono ?_;rintro e w9 ⟨es,hk,hv,rfl,hb⟩;have hK2:=hK' w9 _ ⟨es,hk,hv,rfl⟩ hb;go_simp;simpa[Ca,d2,d5] using hK2
    ·clear hdep;have hK':=hK _ (aY (aR ⟨w'.heap.size,0,aS⟩)) (by simp[CZ]) (hx.alloc1 hLi AK AK AK) trivial;rw[AP AN];go_simp;simpa[Ca] using hK'
    ·have l7:L 7=true:=by simpa using hdep ⟨7,ag⟩ AL rfl
     have f6:EV (ev t1*ev t2%fp) (t 6):=by simpa using hdep ⟨6,ag⟩ AL rfl
     obtain⟨g9,zs9,e9,r9,k9⟩:=hx.get1 l7;refine f6.elim_ λes9 ke ve ee=>?_
     have hK':∀ ww,Cd ww g9 141 es9->Wr g9 w' ww->K _ ww:=λww rr hw=>hK ww undef (by simp[CZ]) (hx.store1 l7 e9 AK AK AK ke ve hw rr _) trivial
     rw[AP AN];refine Ec (ah 11) (ah 54) rfl g9 zs9 es9 e9 ee ke k9 r9 λww rr hw=>?_
     have hK2:=hK' ww rr hw;simpa[Ca,Act.put] using hK2
   case hdone=>
    intro L t11 w11 hx hg;have l8:L 8=true:=by simpa using hg 8 AK
    obtain⟨G11a,cc,q1,qg1,qr1,qk1,qv1⟩:=hx.fin1 l8;have HS11:=CY <| HS10.o.one hx.below qg1 qr1 qk1
    have HKcc:AO (Cq cc/\ev cc=ev t1*ev t2%fp):=⟨qk1,qv1⟩
    simp only[q1];go_wp2_with fail;refine(Cr G11a 0 G3a 0 cc dd _ (HS11.o.re 0 _ _ rfl) (HS11.o.re 7 _ _ rfl)).mono ?_;rintro e w12 ⟨cd,hk,hv,rfl,b⟩;have HKcd:AO (Cq cd/\ev cd=ev cc*ev dd%fp):=⟨hk,hv⟩
    have HS12:=CY <| HS11.o.call b
    go_wp2_with (first
     |(refine DG HS12.o rfl (ah 11) (ah 55) rfl 0 G11a cc cd rfl rfl rfl HKcd.o.1 rfl ?_)
     |fail)
    intro w13 S;have HS13:=CY <| S
    go_wp2_with fail;refine Ag AM ?_;refine Em (λ_ _ _=>True) (frame:=(λ(a b c d e f g h i j k l m n o p q r s u v w x y z A B C D E F G H I J K L M N O P Q R S T U V W X Y Z a0 a1 a2 a3 a4 a5 a6 a7 a8 a9 b0 b1 b2 b3 b4 b5:aX)=>λ(t:Nat->aX)=>({ tmps:=List.toArray [a,b,c,d,e,f,g,h,i,j,k,l,t 7,m,n,o,p,q,r,s,u,v,w,x,y,z,A,B,C,D,E,F,G,H,I,J,K,L,M,N,O,P,Q,R,S,T,U,V,W,X,Y,Z,a0,a1,a2,a3,t 0,t 1,t 2,t 3,t 4,t 5,t 6,a4,a5,a6,a7,a8,a9,b0,b1,b2,b3,b4,b5],defers:=[] }:Act)) _ _ _ _ _ _ _ _ _ _ _ _ _ _ _ _ _ _ _ _ _ _ _ _ _ _ _ _ _ _ _ _ _ _ _ _ _ _ _ _ _ _ _ _ _ _ _ _ _ _ _ _ _ _ _ _ _ _ _ _ _ _ _ _ _ _ _)
     (Ext:=Hr w13 7 98 8 99 (ev z1*ev z2%fp) (0)) (Good:=λi L _ v=>if i=0 then v=aY (aR ⟨g,0,aS⟩) else if i=1 then v=aY (aR ⟨g,0,aS⟩) else if i=2 then v=aY (aR ⟨g,10,aS⟩) else if i=3 then v=aY (aR ⟨h,0,aS⟩) else if i=4 then v=aY (aR ⟨h,0,aS⟩) else if i=5 then v=aY (aR ⟨h,10,aS⟩) else if i=6 then EV (ev z1*ev z2%fp) v else if i=7 then L 7=true else if i=8 then L 8=true else True) ?hstab AM ?hop ?hdone _ _ ((λ(x0 x1 x2 x3 x4 x5 x6 x7:aX)=>λ(i:Nat)=>if i=0 then x0 else if i=1 then x1 else if i=2 then x2 else if i=3 then x3 else if i=4 then x4 else if i=5 then x5 else if i=6 then x6 else if i=7 then x7 else undef) _ _ _ _ _ _ _ _) _ AL ?ext ?start AL
    case start=>intro i hi h;exact absurd h Ef
    case ext=>exact Hr.start _ _ _ AL AL AL AL ⟨rfl,rfl,rfl,Aa _,λ_ _=>rfl⟩
    case hstab=>
     intro j L w9 w' i v _ _ _ h;by_cases h7:j=7
     ·subst h7;simp at h |-;unfold CZ;simp[h]
     by_cases h8:j=8
     ·subst h8;simp at h |-;unfold CZ;simp[h]
     simp only[if_neg h7,if_neg h8] at h |-;exact h
    case hop=>
     intro i o L t w' ho hLi hx hdep K hK;have hi:i<9:=(AR.1 ho).1;obtain rfl|rfl|rfl|rfl|rfl|rfl|rfl|rfl|rfl:i=0\/i=1\/i=2\/i=3\/i=4\/i=5\/i=6\/i=7\/i=8:=AJ
     all_goals(simp at ho;subst ho)
     all_goals try(have hK':=hK w' _ rfl (hx.low _ AK AK AK AK _ Cf) trivial;clear hK;simp[Region.binds] at hdep;rw[AP AN];go_simp;simpa[Ca,hdep] using hK';done)
     ·have d2:t 2=aY (aR ⟨g,10,aS⟩):=by simpa using hdep ⟨2,ag⟩ AL rfl
      have d5:t 5=aY (aR ⟨h,10,aS⟩):=by simpa using hdep ⟨5,ag⟩ AL rfl
      have A:=Cr g 10 h 10 z1 z2 w' ((HS13.o.el 2 _ _ _ rfl).below hx.below) ((HS13.o.el 6 _ _ _ rfl).below hx.below);have hK':∀ ww v,EV (ev z1*ev z2%fp) v->Below w'.heap.size w' ww->K _ ww:=λww v hv hb=>hK ww v (by simpa using hv) (hx.low 6 AK AK AK AK _ hb) trivial
      rw[AP AN];go_simp;try simp only[d2,d5]
      refine A.mono ?_;rintro e w9 ⟨es,hk,hv,rfl,hb⟩;have hK2:=hK' w9 _ ⟨es,hk,hv,rfl⟩ hb;go_simp;simpa[Ca,d2,d5] using hK2
     ·clear hdep;have hK':=hK _ (aY (aR ⟨w'.heap.size,0,aS⟩)) (by simp[CZ]) (hx.alloc1 hLi AK AK AK) trivial;rw[AP AN];go_simp;simpa[Ca] using hK'
     ·have l7:L 7=true:=by simpa using hdep ⟨7,ag⟩ AL rfl
      have f6:EV (ev z1*ev z2%fp) (t 6):=by simpa using hdep ⟨6,ag⟩ AL rfl
      obtain⟨g9,zs9,e9,r9,k9⟩:=hx.get1 l7;refine f6.elim_ λes9 ke ve ee=>?_
      have hK':∀ ww,Cd ww g9 141 es9->Wr g9 w' ww->K _ ww:=λww rr hw=>hK ww undef (by simp[CZ]) (hx.store1 l7 e9 AK AK AK ke ve hw rr _) trivial
      rw[AP AN];refine Ec (ah 12) (ah 62) rfl g9 zs9 es9 e9 ee ke k9 r9 λww rr hw=>?_
      have hK2:=hK' ww rr hw;simpa[Ca,Act.put] using hK2
    case hdone=>
     intro L t14 w14 hx hg;have l8:L 8=true:=by simpa using hg 8 AK
     obtain⟨G14a,zz,q1,qg1,qr1,qk1,qv1⟩:=hx.fin1 l8;have HS14:=CY <| HS13.o.one hx.below qg1 qr1 qk1
     have HKzz:AO (Cq zz/\ev zz=ev z1*ev z2%fp):=⟨qk1,qv1⟩
     simp only[q1];go_wp2_with fail;refine(GN G14a 0 G14a 0 zz zz _ (HS14.o.re 0 _ _ rfl) (HS14.o.re 0 _ _ rfl)).mono ?_;rintro e w15 ⟨gg,hk,hv,rfl,b⟩;have HKgg:AO (Cq gg/\ev gg=(ev zz+ev zz)%fp):=⟨hk,hv⟩
     have HS15:=CY <| HS14.o.call b
     go_wp2_with (first
      |(refine DG HS15.o rfl (ah 12) (ah 63) rfl 0 G14a zz gg rfl rfl rfl HKgg.o.1 rfl ?_)
      |fail)
     intro w16 S;have HS16:=CY <| S
     go_wp2_with fail;refine(Fe G10b 0 G10a 0 up dn _ (HS16.o.re 2 _ _ rfl) (HS16.o.re 3 _ _ rfl)).mono ?_;rintro e w17 ⟨ee,hk,hv,rfl,b⟩;have HKee:AO (Cq ee/\ev ee=(ev up-ev dn)%fp):=⟨hk,hv⟩
     have HS17:=CY <| HS16.o.call b
     go_wp2_with fail;refine(Fe G14a 0 G11a 0 gg cd _ (HS17.o.re 0 _ _ rfl) (HS17.o.re 1 _ _ rfl)).mono ?_;rintro e w18 ⟨ff,hk,hv,rfl,b⟩;have HKff:AO (Cq ff/\ev ff=(ev gg-ev cd)%fp):=⟨hk,hv⟩
     have HS18:=CY <| HS17.o.call b
     have HA19:=CY <| HS18.o.room2
     go_wp2_with (first
      |(refine DG HA19.o rfl (ah 13) (ah 64) rfl 1 (w18.heap.size) [0,0,0,0,0] ee rfl rfl rfl HKee.o.1 rfl ?_)
      |fail)
     intro w20 S;have HS20:=CY <| S
     go_wp2_with (first
      |(refine DG HS20.o rfl (ah 14) (ah 65) rfl 0 (w18.heap.size+1) [0,0,0,0,0] ff rfl rfl rfl HKff.o.1 rfl ?_)
      |fail)
     intro w21 S;have HS21:=CY <| S
     generalize w18.heap.size+1=G21b at *;generalize w18.heap.size=G21a at *;go_wp2_with fail;refine(GN G14a 0 G11a 0 gg cd _ (HS21.o.re 2 _ _ rfl) (HS21.o.re 3 _ _ rfl)).mono ?_;rintro e w22 ⟨hh,hk,hv,rfl,b⟩;have HKhh:AO (Cq hh/\ev hh=(ev gg+ev cd)%fp):=⟨hk,hv⟩
     have HS22:=CY <| HS21.o.call b
     go_wp2_with fail;refine(GN G10b 0 G10a 0 up dn _ (HS22.o.re 4 _ _ rfl) (HS22.o.re 5 _ _ rfl)).mono ?_;rintro e w23 ⟨kk,hk,hv,rfl,b⟩;have HKkk:AO (Cq kk/\ev kk=(ev up+ev dn)%fp):=⟨hk,hv⟩
     have HS23:=CY <| HS22.o.call b
     have HA24:=CY <| HS23.o.room2
     go_wp2_with (first
      |(refine DG HA24.o rfl (ah 15) (ah 66) rfl 1 (w23.heap.size) [0,0,0,0,0] hh rfl rfl rfl HKhh.o.1 rfl ?_)
      |fail)
     intro w25 S;have HS25:=CY <| S
     go_wp2_with (first
      |(refine DG HS25.o rfl (ah 16) (ah 67) rfl 0 (w23.heap.size+1) [0,0,0,0,0] kk rfl rfl rfl HKkk.o.1 rfl ?_)
      |fail)
     intro w26 S;have HS26:=CY <| S
     generalize w23.heap.size+1=G26b at *;generalize w23.heap.size=G26a at *;go_wp2_with fail;refine(Cr G21a 0 G21b 0 ee ff _ (HS26.o.re 3 _ _ rfl) (HS26.o.re 2 _ _ rfl)).mono ?_;rintro e w27 ⟨X,hk,hv,rfl,b⟩;have HKX:AO (Cq X/\ev X=ev ee*ev ff%fp):=⟨hk,hv⟩
     have HS27:=CY <| HS26.o.call b
     go_wp2_with fail;refine(Cr G26a 0 G26b 0 hh kk _ (HS27.o.re 1 _ _ rfl) (HS27.o.re 0 _ _ rfl)).mono ?_;rintro e w28 ⟨Y,hk,hv,rfl,b⟩;have HKY:AO (Cq Y/\ev Y=ev hh*ev kk%fp):=⟨hk,hv⟩
     have HS28:=CY <| HS27.o.call b
     go_wp2_with fail;refine(Cr G21b 0 G26a 0 ff hh _ (HS28.o.re 2 _ _ rfl) (HS28.o.re 1 _ _ rfl)).mono ?_;rintro e w29 ⟨Z,hk,hv,rfl,b⟩;have HKZ:AO (Cq Z/\ev Z=ev ff*ev hh%fp):=⟨hk,hv⟩
     have HS29:=CY <| HS28.o.call b
     go_wp2_with fail;refine(Cr G21a 0 G26b 0 ee kk _ (HS29.o.re 3 _ _ rfl) (HS29.o.re 0 _ _ rfl)).mono ?_;rintro e w30 ⟨T,hk,hv,rfl,b⟩;have HKT:AO (Cq T/\ev T=ev ee*ev kk%fp):=⟨hk,hv⟩
     have HS30:=CY <| HS29.o.call b
     obtain⟨X0,X1,X2,X3,X4,rfl⟩:=Sd HKX.o.1.1;obtain⟨Y0,Y1,Y2,Y3,Y4,rfl⟩:=Sd HKY.o.1.1;obtain⟨Z0,Z1,Z2,Z3,Z4,rfl⟩:=Sd HKZ.o.1.1;obtain⟨T0,T1,T2,T3,T4,rfl⟩:=Sd HKT.o.1.1;have HPL:=CY <| HPT.o.row.below HS30.o.below HPT.o.row.lt
     have HPX:AO ((pl x1 y1 z1 t1).length=20):=by show _=_;unfold pl;simp[HPT.o.x.1,HPT.o.y.1,HPT.o.z.1,HPT.o.t.1]
     go_wp2_with (first
      |(refine GA rfl (ah 74) (ah 73) rfl g [X0,X1,X2,X3,X4] [Y0,Y1,Y2,Y3,Y4] [Z0,Z1,Z2,Z3,Z4] [T0,T1,T2,T3,T4] _ rfl rfl HKX.o.1 HKY.o.1 HKZ.o.1 HKT.o.1 HPX.o HPL.o ?_)
      |fail)
     intro wz hpt hwz;have HF:AO (Ut w g (ev x1) (ev y1) (ev z1) (ev t1) (ev x2) (ev y2) (ev z2) (ev t2) (aQ (.tuple #[])) wz):=by
      refine⟨[X0,X1,X2,X3,X4],[Y0,Y1,Y2,Y3,Y4],[Z0,Z1,Z2,Z3,Z4],[T0,T1,T2,T3,T4],hpt,(ET.of_below HS30.o.below).trans ⟨hwz.os,hwz.tape,hwz.output,by rw[hwz.size];exact Aa _,λk _ hk=>hwz.block k hk⟩,rfl,?_⟩;have eA:ev dn=Lt (ev x1) (ev y1) (ev x2) (ev y2):=by rw[HKdn.o.2,HKpd.o.2,HKqd.o.2];rfl
      have eB:ev up=Lu (ev x1) (ev y1) (ev x2) (ev y2):=by rw[HKup.o.2,HKpu.o.2,HKqu.o.2];rfl
      have eC:ev cd=KZ Dl (ev t1) (ev t2):=by rw[HKcd.o.2,HKcc.o.2,HKdd.o.2,ZT,ZX]
      have eG:ev gg=Kj (ev z1) (ev z2):=by rw[HKgg.o.2,HKzz.o.2,ZY]
      refine⟨?_,?_,?_,?_⟩
      {rw[HKX.o.2,HKee.o.2,HKff.o.2,eA,eB,eC,eG]};{rw[HKY.o.2,HKhh.o.2,HKkk.o.2,eA,eB,eC,eG]};{rw[HKZ.o.2,HKff.o.2,HKhh.o.2,eC,eG]};{rw[HKT.o.2,HKee.o.2,HKkk.o.2,eA,eB]}
     go_wp2
     go_end0
     exact HF.o
theorem PR (x y s q:Int) (k:Nat) (hx:0<=x) (hk:x<2^k) (hx':x<18446744073709551616) (hq:0<=q) (hq':q*2^k<18446744073709551616) (hs:IntKind.u64.wrap (y*s)=q*2^k) :
  bits .or .u64 x (IntKind.u64.wrap (y*s))=x+q*2^k:=by
 rw[hs];have hp:(0:Int)<2^k:=Int.pow_pos AK;exact Ea (q*2^k) x k (Int.mul_nonneg hq AJ) hq' hx hk hx' q rfl
theorem ZZ (a b:Int) (ha:0<=a) (ha':a<2251799813685248) (hb:0<=b) (hb':b<2251799813685248):bits .or .u64 a (IntKind.u64.wrap (b*2251799813685248))=a+b%8192*2251799813685248:=
 PR a b 2251799813685248 (b%8192) 51 ha (by show a<2251799813685248;omega) AJ AJ (by show b%8192*2251799813685248<_;omega) (by rw[IntKind.wrap_u64];show _=b%8192*2251799813685248;omega)
theorem Za (b c:Int) (ha:0<=b) (ha':b<2251799813685248) (hb:0<=c) (hb':c<2251799813685248):bits .or .u64 (b/8192) (IntKind.u64.wrap (c*274877906944))=b/8192+c%67108864*274877906944:=
 PR (b/8192) c 274877906944 (c%67108864) 38 AJ (by show b/8192<274877906944;omega) AJ AJ (by show c%67108864*274877906944<_;omega) (by rw[IntKind.wrap_u64];show _=c%67108864*274877906944;omega)
theorem Zb (c d:Int) (ha:0<=c) (ha':c<2251799813685248) (hb:0<=d) (hb':d<2251799813685248):bits .or .u64 (c/67108864) (IntKind.u64.wrap (d*33554432))=c/67108864+d%549755813888*33554432:=
 PR (c/67108864) d 33554432 (d%549755813888) 25 AJ (by show c/67108864<33554432;omega) AJ AJ (by show d%549755813888*33554432<_;omega) (by rw[IntKind.wrap_u64];show _=d%549755813888*33554432;omega)
theorem Zc (d e:Int) (ha:0<=d) (ha':d<2251799813685248) (hb:0<=e) (hb':e<2251799813685248):bits .or .u64 (d/549755813888) (IntKind.u64.wrap (e*4096))=d/549755813888+e*4096:=
 PR (d/549755813888) e 4096 e 12 AJ (by show d/549755813888<4096;omega) AJ AJ (by show e*4096<_;omega) (by rw[IntKind.wrap_u64];show _=e*4096;omega)
theorem Wx (a b c d e:Int) (a0:0<=a) (a1:a<2251799813685248) (b0:0<=b) (b1:b<2251799813685248) (c0:0<=c) (c1:c<2251799813685248) (d0:0<=d) (d1:d<2251799813685248) (e0:0<=e) (e1:e<2251799813685248) :
  IE [a+b%8192*2251799813685248,b/8192+c%67108864*274877906944,c/67108864+d%549755813888*33554432,d/549755813888+e*4096]/\
  val 18446744073709551616 [a+b%8192*2251799813685248,b/8192+c%67108864*274877906944,c/67108864+d%549755813888*33554432,d/549755813888+e*4096]=val DD [a,b,c,d,e]:=by
 constructor
 ·intro z hz;simp only[List.mem_cons,List.not_mem_nil,or_false] at hz;rcases hz with rfl|rfl|rfl|rfl<;>omega
 ·simp only[val];unfold DD;omega
theorem OE (g o:Nat) (xs:List Int) (w:aV) (h:Dx w g o xs) :
  Calls tP 141 #[aY (aR ⟨g,o,aS⟩)] w (LY w (ev xs)):=by
 have hk:=h.2.1;have hv:=(FZ hk).2.2;have hbd:=FQ (xs.set 0 (xs.getD 0 0+19*MA xs));obtain⟨a,b,c,d,e,hl⟩:=Sd (Ek xs);have q0:=hbd 0;have q1:=hbd 1;have q2:=hbd 2;have q3:=hbd 3;have q4:=hbd 4;rw[show Hn (xs.set 0 (xs.getD 0 0+19*MA xs)) 5=[a,b,c,d,e] from hl] at q0 q1 q2 q3 q4;simp only[List.getD_cons_zero,List.getD_cons_succ] at q0 q1 q2 q3 q4;obtain⟨a0,a1⟩:=q0;obtain⟨b0,b1⟩:=q1;obtain⟨c0,c1⟩:=q2;obtain⟨d0,d1⟩:=q3;obtain⟨e0,e1⟩:=q4;rw[hl] at hv;have HV:=Wx a b c d e a0 a1 b0 b1 c0 c1 d0 d1 e0 e1;rw[hv] at HV;have H0:=CY <| ZZ a b a0 a1 b0 b1
 have H1:=CY <| Za b c b0 b1 c0 c1
 have H2:=CY <| Zb c d c0 c1 d0 d1
 have H3:AO (bits .or .u64 (d/549755813888) (e*4096)=d/549755813888+e*4096):=by
  have h3:=Zc d e d0 d1 e0 e1;rw[show IntKind.u64.wrap (e*4096)=e*4096 by rw[IntKind.wrap_u64];omega] at h3;exact h3
 have bw:Below w.heap.size w (w.alloc (aa CK 146)):=Ct _ _;have h0:=h.below bw;have HR0:(w.alloc (aa CK 146)).heap[w.heap.size]?=aR (aa CK 146 (0,0)):=AS w _;have hs0:w.heap.size<(w.alloc (aa CK 146)).heap.size:=AL
 have HVV:=CY <| HV
 clear HV hv hbd hk h;go_enter func141,ntmps141;go_wp2_with fail;generalize w.alloc (aa CK 146)=w0 at *;refine(Ez g o xs _ h0).mono ?_;rintro e' w1 ⟨rfl,hb⟩;rw[hl];have HR1:AO (w1.heap[w.heap.size]?=aR (aa CK 146 (0,0))):=by show _=_;rw[hb.block _ hs0];exact HR0
 have HB1:AO (Below w.heap.size w w1):=bw.trans (hb.mono bw.size);have hs1:w.heap.size<w1.heap.size:=AG hb.size
 clear hb h0 HR0 hs0 bw hl;have HR2:AO ((w1.alloc (aa #[aO .u64 a,aO .u64 b,aO .u64 c,aO .u64 d,aO .u64 e] 141)).heap[w.heap.size]?=aR (aa CK 146 (0,0))):=by show _=_;rw[BD _ _ w.heap.size hs1];exact HR1.o
 have HB2:AO (Below w.heap.size w (w1.alloc (aa #[aO .u64 a,aO .u64 b,aO .u64 c,aO .u64 d,aO .u64 e] 141))):=HB1.o.trans ((Ct _ _).mono HB1.o.size);have HSZ:AO ((tP.info? 146).map (·.size)=aR 4):=by show _=_;kernel_rfl
 simp only[List.map_cons,List.map_nil];go_wp2_with (first
  |(refine AE 146 (ah 2) (ah 33) w.heap.size #[aO .u64 (bits .or .u64 a (IntKind.u64.wrap (b*2251799813685248))),aO .u64 (bits .or .u64 (b/8192) (IntKind.u64.wrap (c*274877906944))),aO .u64 (bits .or .u64 (c/67108864) (IntKind.u64.wrap (d*33554432))),aO .u64 (bits .or .u64 (d/549755813888) (e*4096))] 146 HR2.o HSZ.o rfl (by simp[Value.oneCell']) ?_)
  |fail)
 refine AU (v:=af #[aO .u64 (bits .or .u64 a (IntKind.u64.wrap (b*2251799813685248))),aO .u64 (bits .or .u64 (b/8192) (IntKind.u64.wrap (c*274877906944))),aO .u64 (bits .or .u64 (c/67108864) (IntKind.u64.wrap (d*33554432))),aO .u64 (bits .or .u64 (d/549755813888) (e*4096))]) (AY rfl _ _ w.heap.size 146 _ (0,0) _ rfl (AB HR2.o) underlying146 rfl HSZ.o) rfl ?_;refine⟨[a+b%8192*2251799813685248,b/8192+c%67108864*274877906944,c/67108864+d%549755813888*33554432,d/549755813888+e*4096],rfl,HVV.o.1,HVV.o.2,?_,HB2.o.trans ((Wr.setRow _ _ _).below Ch)⟩;rw[H0.o,H1.o,H2.o,H3.o];rfl
theorem YS {a b c d:Int} (a0:0<=a) (a1:a<18446744073709551616) (b0:0<=b) (b1:b<18446744073709551616) (c0:0<=c) (c1:c<18446744073709551616) (d0:0<=d) (d1:d<18446744073709551616):IE [a,b,c,d]:=by
 intro z hz;simp only[List.mem_cons,List.not_mem_nil,or_false] at hz;rcases hz with rfl|rfl|rfl|rfl<;>exact⟨by assumption,by assumption⟩
theorem K7 (g:Nat) (x y z t:List Int) (w:aV) (hp:Pt w g x y z t) :
  Calls tP 111 #[aY (aR ⟨g,0,aS⟩)] w (LY w (OB (ev x) (ev y) (ev z))):=by
 have bw:Below w.heap.size w (w.alloc (aa CK 146)):=Ct _ _;have hp0:=hp.below bw hp.row.lt;have HS0:AO (D4 (w.alloc (aa CK 146)) (w.alloc (aa CK 146)) [] [(g,0,x),(g,5,y),(g,10,z)]):=D4.start _ _ (λe he=>by
  simp only[List.mem_cons,List.not_mem_nil,or_false] at he;rcases he with rfl|rfl|rfl
  {exact hp0.ex};{exact hp0.ey}
  ·exact hp0.ez)
 have HR0:(w.alloc (aa CK 146)).heap[w.heap.size]?=aR (aa CK 146 (0,0)):=AS w _;have hs0:w.heap.size<(w.alloc (aa CK 146)).heap.size:=AL
 clear hp hp0;go_enter func111,ntmps111;go_wp2_with fail;generalize w.alloc (aa CK 146)=w0 at *;refine(Mp g 10 z _ (HS0.o.el 2 _ _ _ rfl)).mono ?_;rintro e w1 ⟨iv,hk,hv,rfl,b⟩;have HKiv:AO (Cq iv/\ev iv=Ft (ev z)):=⟨hk,hv⟩
 have HS1:=CY <| HS0.o.call b
 clear hk hv b HS0;have HA2:=CY <| HS1.o.room
 clear HS1;go_wp2_with (first
  |(refine DG HA2.o rfl (ah 3) (ah 10) rfl 0 (w1.heap.size) [0,0,0,0,0] iv rfl rfl rfl HKiv.o.1 rfl ?_)
  |fail)
 intro w3 S;have HS3:=CY <| S
 clear S HA2;generalize w1.heap.size=G3a at *;go_wp2_with fail;refine Ag AM ?_;refine Em (λ_ _ _=>True) (frame:=(λ(a b c d e f g h i j k l m n o p:aX)=>λ(t:Nat->aX)=>({ tmps:=List.toArray [a,b,c,d,t 8,t 9,e,f,g,h,i,t 0,t 1,t 2,t 3,t 4,t 5,t 6,t 7,j,k,l,m,n,o,p],defers:=[] }:Act)) _ _ _ _ _ _ _ _ _ _ _ _ _ _ _ _)
  (Ext:=Hr w3 8 9 10 11 (ev x*ev iv%fp) (ev y*ev iv%fp)) (Good:=λi L _ v=>if i=0 then v=aY (aR ⟨g,0,aS⟩) else if i=1 then v=aY (aR ⟨g,0,aS⟩) else if i=2 then v=aY (aR ⟨g,0,aS⟩) else if i=3 then EV (ev x*ev iv%fp) v else if i=4 then v=aY (aR ⟨g,0,aS⟩) else if i=5 then v=aY (aR ⟨g,0,aS⟩) else if i=6 then v=aY (aR ⟨g,5,aS⟩) else if i=7 then EV (ev y*ev iv%fp) v else if i=8 then L 8=true else if i=9 then L 9=true else if i=10 then L 10=true else if i=11 then L 11=true else True) ?hstab AM ?hop ?hdone _ _ ((λ(x0 x1 x2 x3 x4 x5 x6 x7 x8 x9:aX)=>λ(i:Nat)=>if i=0 then x0 else if i=1 then x1 else if i=2 then x2 else if i=3 then x3 else if i=4 then x4 else if i=5 then x5 else if i=6 then x6 else if i=7 then x7 else if i=8 then x8 else if i=9 then x9 else undef) _ _ _ _ _ _ _ _ _ _) _ AL ?ext ?start AL
 case start=>intro i hi h;exact absurd h Ef
 case ext=>exact Hr.start _ _ _ AL AL AL AL ⟨rfl,rfl,rfl,Aa _,λ_ _=>rfl⟩
 case hstab=>
  intro j L w9 w' i v _ _ _ h;by_cases h8:j=8
  ·subst h8;simp at h |-;unfold CZ;simp[h]
  by_cases h9:j=9
  ·subst h9;simp at h |-;unfold CZ;simp[h]
  by_cases h10:j=10
  ·subst h10;simp at h |-;unfold CZ;simp[h]
  by_cases h11:j=11
  ·subst h11;simp at h |-;unfold CZ;simp[h]
  simp only[if_neg h8,if_neg h9,if_neg h10,if_neg h11] at h |-;exact h
 case hop=>
  intro i o L t w' ho hLi hx hdep K hK;have hi:i<12:=(AR.1 ho).1;obtain rfl|rfl|rfl|rfl|rfl|rfl|rfl|rfl|rfl|rfl|rfl|rfl:i=0\/i=1\/i=2\/i=3\/i=4\/i=5\/i=6\/i=7\/i=8\/i=9\/i=10\/i=11:=AJ
  all_goals(simp at ho;subst ho)
  all_goals try(have hK':=hK w' _ rfl (hx.low _ AK AK AK AK _ Cf) trivial;clear hK;simp[Region.binds] at hdep;rw[AP AN];go_simp;simpa[Ca,hdep] using hK';done)
  ·have d2:t 2=aY (aR ⟨g,0,aS⟩):=by simpa using hdep ⟨2,ag⟩ AL rfl
   clear hdep;have A:=Cr g 0 G3a 0 x iv w' ((HS3.o.el 0 _ _ _ rfl).below hx.below) ((HS3.o.re 0 _ _ rfl).below hx.below);have hK':∀ ww v,EV (ev x*ev iv%fp) v->Below w'.heap.size w' ww->K _ ww:=λww v hv hb=>hK ww v (by simpa using hv) (hx.low 3 AK AK AK AK _ hb) trivial
   clear hK;rw[AP AN];go_simp;try simp only[d2]
   refine A.mono ?_;rintro e w9 ⟨es,hk,hv,rfl,hb⟩;have hK2:=hK' w9 _ ⟨es,hk,hv,rfl⟩ hb;clear hK' A hk hv hb;go_simp;simpa[Ca,d2] using hK2
  ·have d6:t 6=aY (aR ⟨g,5,aS⟩):=by simpa using hdep ⟨6,ag⟩ AL rfl
   clear hdep;have A:=Cr g 5 G3a 0 y iv w' ((HS3.o.el 1 _ _ _ rfl).below hx.below) ((HS3.o.re 0 _ _ rfl).below hx.below);have hK':∀ ww v,EV (ev y*ev iv%fp) v->Below w'.heap.size w' ww->K _ ww:=λww v hv hb=>hK ww v (by simpa using hv) (hx.low 7 AK AK AK AK _ hb) trivial
   clear hK;rw[AP AN];go_simp;try simp only[d6]
   refine A.mono ?_;rintro e w9 ⟨es,hk,hv,rfl,hb⟩;have hK2:=hK' w9 _ ⟨es,hk,hv,rfl⟩ hb;clear hK' A hk hv hb;go_simp;simpa[Ca,d6] using hK2
  {clear hdep;have hK':=hK _ (aY (aR ⟨w'.heap.size,0,aS⟩)) (by simp[CZ]) (hx.alloc1 hLi AK AK AK) trivial;clear hK;rw[AP AN];go_simp;simpa[Ca] using hK'};{clear hdep;have hK':=hK _ (aY (aR ⟨w'.heap.size,0,aS⟩)) (by simp[CZ]) (hx.alloc2 hLi AK AK AK) trivial;clear hK;rw[AP AN];go_simp;simpa[Ca] using hK'}
  ·have l8:L 8=true:=by simpa using hdep ⟨8,ag⟩ AL rfl
   have f3:EV (ev x*ev iv%fp) (t 3):=by simpa using hdep ⟨3,ag⟩ AL rfl
   clear hdep;obtain⟨g9,zs9,e9,r9,k9⟩:=hx.get1 l8;refine f3.elim_ λes9 ke ve ee=>?_
   have hK':∀ ww,Cd ww g9 141 es9->Wr g9 w' ww->K _ ww:=λww rr hw=>hK ww undef (by simp[CZ]) (hx.store1 l8 e9 AK AK AK ke ve hw rr _) trivial
   clear hK;rw[AP AN];refine Ec (ah 4) (ah 14) rfl g9 zs9 es9 e9 ee ke k9 r9 λww rr hw=>?_
   have hK2:=hK' ww rr hw;clear hK';simpa[Ca,Act.put] using hK2
  ·have l9:L 9=true:=by simpa using hdep ⟨9,ag⟩ AL rfl
   have f7:EV (ev y*ev iv%fp) (t 7):=by simpa using hdep ⟨7,ag⟩ AL rfl
   clear hdep;obtain⟨g9,zs9,e9,r9,k9⟩:=hx.swap.get1 l9;refine f7.elim_ λes9 ke ve ee=>?_
   have hK':∀ ww,Cd ww g9 141 es9->Wr g9 w' ww->K _ ww:=λww rr hw=>hK ww undef (by simp[CZ]) (hx.store2 l9 e9 AK AK AK ke ve hw rr _) trivial
   clear hK;rw[AP AN];refine Ec (ah 5) (ah 18) rfl g9 zs9 es9 e9 ee ke k9 r9 λww rr hw=>?_
   have hK2:=hK' ww rr hw;clear hK';simpa[Ca,Act.put] using hK2
 case hdone=>
  intro L t4 w4 hx hg;have l10:L 10=true:=by simpa using hg 10 AK
  have l11:L 11=true:=by simpa using hg 11 AK
  clear hg;obtain⟨G4a,xx,q1,qg1,qr1,qk1,qv1⟩:=hx.fin1 l10;obtain⟨G4b,yy,q2,qg2,qr2,qk2,qv2⟩:=hx.swap.fin1 l11;have qne:=hx.ne (hx.v1.1 l10) (hx.v2.1 l11) _ _ q1 q2;have HS4:=CY <| HS3.o.two hx.below qg1 qr1 qk1 qg2 qr2 qk2 qne
  have HKxx:AO (Cq xx/\ev xx=ev x*ev iv%fp):=⟨qk1,qv1⟩
  have HKyy:AO (Cq yy/\ev yy=ev y*ev iv%fp):=⟨qk2,qv2⟩
  simp only[q1,q2];clear hx q1 q2 qg1 qg2 qr1 qr2 qk1 qk2 qv1 qv2 qne HS3;go_wp2_with fail;refine(OE G4b 0 yy _ (HS4.o.re 0 _ _ rfl)).mono ?_;rintro e wn ⟨ms,hl,hw,hv,rfl,b⟩
  match ms,hl with
  |[n0,n1,n2,n3],_=>
  obtain⟨a0,a1⟩:=hw.get 0;obtain⟨b0,b1⟩:=hw.get 1;obtain⟨c0,c1⟩:=hw.get 2;obtain⟨d0,d1⟩:=hw.get 3;simp only[List.getD_cons_zero,List.getD_cons_succ] at a0 a1 b0 b1 c0 c1 d0 d1;have HSn:AO (D4 w0 (wn.alloc (aa #[aO .u64 n0,aO .u64 n1,aO .u64 n2,aO .u64 n3] 146)) [(G4b,yy),(G4a,xx),(G3a,iv)] [(g,0,x),(g,5,y),(g,10,z)]):=(HS4.o.call b).call (Ct _ _);have HNR:AO (Cd (wn.alloc (aa #[aO .u64 n0,aO .u64 n1,aO .u64 n2,aO .u64 n3] 146)) wn.heap.size 146 [n0,n1,n2,n3]):=AS wn _;have hd3:n3<9223372036854775808:=by
   have e1:=HKyy.o.2;have e2:=Gy yy;have e3:val 18446744073709551616 [n0,n1,n2,n3]<57896044618658097711785492504343953926634992332820282019728792003956564819968:=by
    rw[hv];have:fp<57896044618658097711785492504343953926634992332820282019728792003956564819968:=AK
    omega
   simp only[val] at e3;omega
  have HV:AO (val 18446744073709551616 [n0,n1,n2,n3]=ev y*Ft (ev z)%fp/\ev xx=ev x*Ft (ev z)%fp):=⟨by rw[hv,HKyy.o.2,HKiv.o.2],by rw[HKxx.o.2,HKiv.o.2]⟩
  have HGW:=CY <| Ai HS4.o.below.size b.size
  clear hv b HS4 hw;simp only[List.map_cons,List.map_nil];go_wp2_with fail;generalize wn.alloc (aa #[aO .u64 n0,aO .u64 n1,aO .u64 n2,aO .u64 n3] 146)=w6 at *;refine(Ff G4a 0 xx _ (HSn.o.re 1 _ _ rfl)).mono ?_;rintro e w7 ⟨rfl,b⟩;have HR7:=CY <| (HNR.o.below b HNR.o.lt)
  have HB7:=CY <| HSn.o.below.trans (b.mono HSn.o.below.size)
  have HZ7:AO (w7.heap[w.heap.size]?=aR (aa CK 146 (0,0))):=by show _=_;rw[HB7.o.block _ hs0];exact HR0
  have HSZ:AO ((tP.info? 146).map (·.size)=aR 4):=by show _=_;kernel_rfl
  have HB:=CY <| bw.trans (HB7.o.mono bw.size)
  have hne:wn.heap.size≠w.heap.size:=AG HGW.o
  have hG6:w.heap.size<=wn.heap.size:=AG HGW.o
  clear b HSn HNR HB7 HR0 bw hs0 HKxx HKyy HKiv HGW;generalize wn.heap.size=G6 at *;have hx2:ev xx%2=0\/ev xx%2=1:=AJ
  rcases hx2 with hx2|hx2
  ·have HF:AO (val 18446744073709551616 [n0,n1,n2,n3]=OB (ev x) (ev y) (ev z)):=by
    show _=_
    unfold OB;rw[HV.o.1,<-HV.o.2,hx2];omega
   rw[show(ev xx%2 == 1)=false by rw[hx2];rfl];go_wp2_with (first
    |(refine AZ rfl 146 (ah 6) rfl G6 rfl 146 _ (0,0) _ HR7.o underlying146 rfl HSZ.o ?_)
    |(refine AE 146 (ah 2) (ah 25) w.heap.size #[aO .u64 n0,aO .u64 n1,aO .u64 n2,aO .u64 n3] 146 HZ7.o HSZ.o rfl (by simp[Value.oneCell']) ?_)
    |fail)
   refine AU (v:=af #[aO .u64 n0,aO .u64 n1,aO .u64 n2,aO .u64 n3]) (AY rfl _ _ w.heap.size 146 _ (0,0) _ rfl (AB HZ7.o) underlying146 rfl HSZ.o) rfl ?_;exact⟨[n0,n1,n2,n3],rfl,YS a0 a1 b0 b1 c0 c1 d0 d1,HF.o,rfl,HB.o.trans ((Wr.setRow _ _ _).below Ch)⟩
  ·have HF:AO (val 18446744073709551616 [n0,n1,n2,n3+9223372036854775808]=OB (ev x) (ev y) (ev z)):=by
    show _=_
    have e1:=HV.o.1;unfold OB Hb;rw[<-HV.o.2,hx2,<-e1];simp only[val];omega
   have HOR:AO (bits .or .u64 n3 9223372036854775808=n3+9223372036854775808):=Ea 9223372036854775808 n3 63 AK AK d0 (by show n3<9223372036854775808;exact hd3) d1 1 AK;have HS8:AO ((w7.setCell ⟨G6,3,aS⟩ (aO .u64 (bits .or .u64 n3 9223372036854775808))).heap[G6]?=aR (aa #[aO .u64 n0,aO .u64 n1,aO .u64 n2,aO .u64 (bits .or .u64 n3 9223372036854775808)] 146 (0,0))):=by
    show _=_;rw[Ao w7 G6 3 _ _ _ HR7.o];rfl
   have HZ8:AO ((w7.setCell ⟨G6,3,aS⟩ (aO .u64 (bits .or .u64 n3 9223372036854775808))).heap[w.heap.size]?=aR (aa CK 146 (0,0))):=by
    show _=_;rw[((Wr.refl G6 w7).setCell 3 _).block _ (A9 hne)];exact HZ7.o
   have HB8:AO (Below w.heap.size w (w7.setCell ⟨G6,3,aS⟩ (aO .u64 (bits .or .u64 n3 9223372036854775808)))):=HB.o.trans (((Wr.refl G6 w7).setCell 3 _).below hG6);have c3:w7.cell? ⟨G6,3,aS⟩=aR (aO .u64 n3):=by rw[AA HR7.o 3];rfl
   have f3:w7.frozen? ⟨G6,3,aS⟩=false:=An w7 G6 3 _ _ HR7.o;rw[show(ev xx%2 == 1)=true by rw[hx2];rfl];go_wp2_with (first
    |(refine AZ rfl 146 (ah 6) rfl G6 rfl 146 _ (0,0) _ HS8.o underlying146 rfl HSZ.o ?_)
    |(refine AE 146 (ah 2) (ah 25) w.heap.size #[aO .u64 n0,aO .u64 n1,aO .u64 n2,aO .u64 (bits .or .u64 n3 9223372036854775808)] 146 HZ8.o HSZ.o rfl (by simp[Value.oneCell']) ?_)
    |fail)
   refine AU (v:=af #[aO .u64 n0,aO .u64 n1,aO .u64 n2,aO .u64 (bits .or .u64 n3 9223372036854775808)]) (AY rfl _ _ w.heap.size 146 _ (0,0) _ rfl (AB HZ8.o) underlying146 rfl HSZ.o) rfl ?_;exact⟨[n0,n1,n2,n3+9223372036854775808],rfl,YS a0 a1 b0 b1 c0 c1 AJ AJ,HF.o,by rw[HOR.o];rfl,HB8.o.trans ((Wr.setRow _ _ _).below Ch)⟩
def Se:Array aX->Sem aX:=λargs=>do
 let (x, y, b) ← Extern.MathBitsCarry.three "Sub64" args
 pure (Extern.MathBitsCarry.pair ((x+Extern.MathBitsCarry.m64-y-b)%Extern.MathBitsCarry.m64) (if x<y+b then 1 else 0))
theorem OF (x y b:Nat) (hb:b<=1) (w:aV) :
  (Se #[aO .u64 x,aO .u64 y,aO .u64 b]).run tP w=
   .ok (.tuple #[aO .u64 (((x+18446744073709551616-y-b)%18446744073709551616:Nat):Int),aO .u64 ((if x<y+b then 1 else 0:Nat):Int)]) w:=by
 have:b=0\/b=1:=AJ
 rcases this with rfl|rfl<;>rfl
theorem YT (x y b:Int) (hx:0<=x) (hy:0<=y) (hy':y<18446744073709551616) (hb0:0<=b) (hb:b<=1) (w:aV):(callFunc 155 #[aO .u64 x,aO .u64 y,aO .u64 b]).run tP w=
  .ok (.value (.tuple #[aO .u64 ((x-y-b)%18446744073709551616),aO .u64 (Tp x y b)])) w:=by
 obtain⟨x,rfl⟩:=Ab hx;obtain⟨y,rfl⟩:=Ab hy;obtain⟨b,rfl⟩:=Ab hb0;have e1:(((x+18446744073709551616-y-b)%18446744073709551616:Nat):Int)=((x:Int)-y-b)%18446744073709551616:=AJ
 have e2:((if x<y+b then 1 else 0:Nat):Int)=Tp x y b:=by unfold Tp;split<;>split<;>omega
 rw[run_callFunc_extern func155 AM AM AM (e:=Se) AM,OF x y b AJ,e1,e2];rfl
theorem Sf (g:Nat) (ns:List Int) (bit:Int) (w:aV) (hl:ns.length=4) (hr:Cd w g 146 ns) (hw:IE ns) (hb:bit=0\/bit=1) :
  Calls tP 129 #[aY (aR ⟨g,0,aS⟩),aO .u64 bit] w λe w'=>e=aQ (.tuple #[])/\∃ ms,ms.length=4/\Cd w' g 146 ms/\IE ms/\(∃ c,0<=c/\val 18446744073709551616 ms+c*18446744073709551616^4=2*val 18446744073709551616 ns+bit)/\Wr g w w':=by
 go_enter func129,ntmps129;go_wp2
 go_loopw [1,7] (λc i wr=>∃(k:Nat) (ms:List Int) (b:Int),k<=4/\i=aO aZ k/\c=aO .u64 b/\(b=0\/b=1)/\ms.length=4/\Cd wr g 146 ms/\IE ms/\ms.drop k=ns.drop k/\val 18446744073709551616 (ms.take k)+b*18446744073709551616^k=2*val 18446744073709551616 (ns.take k)+bit/\Wr g w wr) (λ_ i _=>4-(intOf i).toNat)
 case atStart=>exact⟨0,ns,bit,Aw _,rfl,rfl,hb,hl,hr,hw,rfl,by simp[val],Wr.refl _ _⟩
 case round=>
  obtain⟨k,ms,b,hk,rfl,rfl,hb',hml,hmr,hmw,hmd,hv,hwr⟩:=hrel;by_cases hlt:k<4
  ·have ck:=hmr.cell k AJ;have fk:=hmr.frozen k;have hx:=hmw.get k;have hgd:=LN hmd;have hx2:∀ c,0<=c->c<2->0<=2*ms.getD k 0%18446744073709551616+c/\2*ms.getD k 0%18446744073709551616+c<18446744073709551616:=λc h0 h1=>AJ
   have S1:Cd (wr.setCell ⟨g,k,aS⟩ (aO .u64 (2*ms.getD k 0%18446744073709551616+b))) g 146 (ms.set k (2*ms.getD k 0%18446744073709551616+b)):=hmr.set k _;have S2:=hmw.set k _ (hx2 b AJ AJ).1 (hx2 b AJ AJ).2;have S3:=(Kb ms k (2*ms.getD k 0%18446744073709551616+b)).trans (LO hmd);have S4:val 18446744073709551616 ((ms.set k (2*ms.getD k 0%18446744073709551616+b)).take (k+1))+ms.getD k 0/9223372036854775808*18446744073709551616^(k+1)=2*val 18446744073709551616 (ns.take (k+1))+bit:=by
    rw[GT _ _ _ _ AJ,DN _ ns k AJ,<-hgd,Int.pow_succ];have e:(2*ms.getD k 0%18446744073709551616)+ms.getD k 0/9223372036854775808*18446744073709551616=2*ms.getD k 0:=AJ
    generalize ms.getD k 0=x at *;generalize (18446744073709551616:Int)^k=P at *;have e':((2*x%18446744073709551616)+x/9223372036854775808*18446744073709551616)*P=2*x*P:=by rw[e]
    grind
   have HW:AO (Wr g w (wr.setCell ⟨g,k,aS⟩ (aO .u64 (2*ms.getD k 0%18446744073709551616+b)))):=hwr.setCell k _;have HL:AO ((ms.set k (2*ms.getD k 0%18446744073709551616+b)).length=4):=by rw[List.length_set];exact hml
   have HC:AO (bits .or .u64 (IntKind.u64.wrap (ms.getD k 0*2)) b=2*ms.getD k 0%18446744073709551616+b):=by
    show bits .or .u64 (IntKind.u64.wrap (ms.getD k 0*2)) b=_
    rw[IntKind.wrap_u64,Int.mul_comm];exact Fm _ _ 1 AJ AJ AJ AJ AJ (2*ms.getD k 0%18446744073709551616/2) AJ
   have hbb:ms.getD k 0/9223372036854775808=0\/ms.getD k 0/9223372036854775808=1:=AJ
   have HBB:AO _:=hbb;have H1:AO _:=S1;have H2:AO _:=S2;have H3:AO _:=S3;have H4:AO _:=S4;clear hgd hx2 S1 S2 S3 S4 hmr hmw hmd hv hwr hbb hr hw;generalize ms.getD k 0=x at *;obtain⟨hx0,hx1⟩:=hx;have hlt':(k:Int)<4:=AJ
   go_wp2
   go_quiet (fail)
   go_wp2;rw[HC.o];refine⟨⟨k+1,ms.set k (2*x%18446744073709551616+b),x/9223372036854775808,AJ,by go_num,rfl,HBB.o,HL.o,H1.o,H2.o,H3.o,H4.o,?_⟩,by simp[intOf];omega⟩;exact⟨HW.o.os,HW.o.tape,HW.o.output,HW.o.size,HW.o.block⟩
  ·have hk4:k=4:=AJ
   subst hk4;rw[Ad AJ,Ad AJ] at hv;have H:AO (∃ ms,ms.length=4/\Cd wr g 146 ms/\IE ms/\(∃ c,0<=c/\val 18446744073709551616 ms+c*18446744073709551616^4=2*val 18446744073709551616 ns+bit)/\Wr g w wr):=
    ⟨ms,hml,hmr,hmw,⟨b,AJ,hv⟩,hwr⟩
   clear hml hmr hmw hv hwr hmd hr hw hb hb';go_wp2
   go_end0
   exact⟨rfl,H.o⟩
theorem Tryz.sizeNumR:(tP.info? 146).map (·.size)=aR 4:=AM
theorem sizeNumR {ns:List Int} (h:ns.length=4):(tP.info? 146).map (·.size)=aR ((ns.map (Value.int .u64)).toArray).size:=by rw[Tryz.sizeNumR];simp[h]
def lW:List Int:=[6346243789798364141,1503914060200516822,0,1152921504606846976]
theorem Wy:val 18446744073709551616 lW=DZ:=AK
theorem Wz:IE lW:=by unfold IE lW;decide
theorem Sg (w:aV) :
  Calls tP 154 #[] w λe w'=>e=aQ (af (lW.map (Value.int .u64)).toArray)/\Below w.heap.size w w':=by
 have HR:AO (Cd (w.alloc (aa CK 146)) w.heap.size 146 [0,0,0,0]):=AS w _;have HSZ:AO ((tP.info? 146).map (·.size)=aR ((lW.map (Value.int .u64)).toArray).size):=sizeNumR rfl;go_enter func154,ntmps154;go_wp2_with (refine AE 146 (ah 0) (ah 1) w.heap.size ((lW.map (Value.int .u64)).toArray) 146 HR.o HSZ.o rfl (all_oneCell_toArray (Az _ _)) ?_);refine AU (v:=af (lW.map (Value.int .u64)).toArray) (AY rfl _ _ w.heap.size 146 _ (0,0) _ rfl (AB HR.o) underlying146 rfl HSZ.o) rfl ⟨rfl,?_⟩;exact(Ct _ _).trans ((Wr.setRow _ _ _).below Ch)
theorem Qc (cs:Array aX) (k:Nat) (v:aX) (w:aV) (hk:(k:Int)<4) (h:cs[k]?=aR v) :
  (Instr.index 146 (af cs) (aO aZ k)).run tP w=.ok v w:=by
 simp[Instr.index,asIntOf,run_underlying underlying146,part,h,go_sem];omega
def KL (w:aV) (g:Nat) (ns:List Int) (e:Ending) (w':aV):Prop:=
 e=aQ (.tuple #[])/\∃ ms,ms.length=4/\Cd w' g 146 ms/\IE ms/\val 18446744073709551616 ms=(if DZ<=val 18446744073709551616 ns then val 18446744073709551616 ns-DZ else val 18446744073709551616 ns)/\ET g w w'
structure OS (w:aV) (g:Nat) (ns:List Int) (k:Nat) (b:Int) (wr:aV):Prop where
 bd:0<=b/\b<=1
 row:Cd wr g 146 ns
 less:∃ ms,ms.length=4/\Cd wr w.heap.size 146 ms/\IE ms/\val 18446744073709551616 (ns.take k)-val 18446744073709551616 (lW.take k)=val 18446744073709551616 (ms.take k)-b*18446744073709551616^k
 below:Below w.heap.size w wr
theorem Qd (g:Nat) (ns:List Int) (w:aV) (hl:ns.length=4) (hr:Cd w g 146 ns) (hw:IE ns) :
  Calls tP 130 #[aY (aR ⟨g,0,aS⟩)] w (KL w g ns):=by
 have hg:=hr.lt;have HN:=CY <| hr
 have HR:AO (Cd (w.alloc (aa CK 146)) w.heap.size 146 [0,0,0,0]):=AS w _;have HSZ:=CY <| sizeNumR hl
 have HZ4:AO ((#[aO .u64 0,aO .u64 0,aO .u64 0,aO .u64 0]:Array aX).size=((ns.map (Value.int .u64)).toArray).size):=by show _=_;simp[hl]
 have HB:AO (Below w.heap.size w (w.alloc (aa CK 146))):=Ct _ _;go_enter func130,ntmps130;go_wp2_with (first
  |(refine AZ rfl 146 (ah 7) rfl g rfl 146 _ (0,0) _ HN.o underlying146 rfl HSZ.o ?_)
  |(refine AE 146 (ah 2) (ah 8) w.heap.size ((ns.map (Value.int .u64)).toArray) 146 HR.o HSZ.o HZ4.o (all_oneCell_toArray (Az _ _)) ?_)
  |fail)
 have R1:=HR.o.setRow ns;have R2:Cd ((w.alloc (aa CK 146)).setRow w.heap.size (ns.map (Value.int .u64)).toArray) g 146 ns:=(HN.o.below HB.o hg).setRow_other _ AJ;have B1:Below w.heap.size w ((w.alloc (aa CK 146)).setRow w.heap.size (ns.map (Value.int .u64)).toArray):=HB.o.trans ((Wr.setRow _ _ _).below Ch);generalize (w.alloc (aa CK 146)).setRow w.heap.size (ns.map (Value.int .u64)).toArray=w1 at *;refine(Sg _).mono ?_;rintro e w2 ⟨rfl,B2⟩;have s1:=R1.lt;have R1':=R1.below B2 s1;have R2':=R2.below B2 R2.lt;have B12:=B1.trans (B2.mono AJ);have HS:AO (OS w g ns 0 0 w2):=⟨⟨AK,AK⟩,R2',⟨ns,hl,R1',hw,by simp[val]⟩,B12⟩
 go_wp2
 go_loopw [3,10] (λc i wr=>∃(k:Nat) (b:Int),k<=4/\i=aO aZ k/\c=aO .u64 b/\OS w g ns k b wr) (λ_ i _=>4-(intOf i).toNat)
 case atStart=>exact⟨0,0,Aw _,rfl,rfl,HS.o⟩
 case round=>
  obtain⟨k,b,hk,rfl,rfl,⟨hb0,hb1⟩,hrow,⟨ms,hml,hmr,hmw,hv⟩,hbel⟩:=hrel;by_cases hlt:k<4
  ·have cn:=hrow.cell k AJ;have cm:=hmr.cell k AJ;have fm:=hmr.frozen k;have hx:=hw.get k;have hy:=Wz.get k;have hne:g≠w.heap.size:=AJ
   have hbe:=WR _ _ _ hx.1 hx.2 hy.1 hy.2 hb0 hb1;have hbb:=WQ (ns.getD k 0) (lW.getD k 0) b;have hd0:0<=(ns.getD k 0-lW.getD k 0-b)%18446744073709551616:=AJ
   have hd1:(ns.getD k 0-lW.getD k 0-b)%18446744073709551616<18446744073709551616:=AJ
   have S1:=hmr.set k ((ns.getD k 0-lW.getD k 0-b)%18446744073709551616);have S2:=hmw.set k _ hd0 hd1;have S3:=RH _ _ _ _ _ _ _ _ _ _ hv hbe;rw[<-DN _ ns k AJ,<-DN _ lW k (by simpa[lW] using hlt),<-GT _ ms k _ AJ,<-Int.pow_succ] at S3;have R:Cd (wr.setCell ⟨w.heap.size,k,aS⟩ (aO .u64 ((ns.getD k 0-lW.getD k 0-b)%18446744073709551616))) g 146 ns:=((Wr.refl _ _).setCell k _).rowW hrow hne;have HO:AO (OS w g ns (k+1) (Tp (ns.getD k 0) (lW.getD k 0) b) (wr.setCell ⟨w.heap.size,k,aS⟩ (aO .u64 ((ns.getD k 0-lW.getD k 0-b)%18446744073709551616)))):=
    ⟨hbb,R,⟨_,by rw[List.length_set];exact hml,S1,S2,S3⟩,hbel.setCell Ch _⟩
   obtain⟨hx0,hx1⟩:=hx;obtain⟨hy0,hy1⟩:=hy;generalize ns.getD k 0=x at *;have hlt':(k:Int)<4:=AJ
   have hix:(lW.map (Value.int .u64)).toArray[k]?=aR (aO .u64 (lW.getD k 0)):=by
    have:k<lW.length:=by simpa[lW] using hlt
    simp[this]
   have hsz:(lW.map (Value.int .u64)).toArray.size=4:=rfl;generalize (lW.map (Value.int .u64)).toArray=la at *;generalize lW.getD k 0=y at *;go_wp2_with (first|simp only[Qc la k _ _ hlt' hix]|simp only[YT x y b hx0 hy0 hy1 hb0 hb1]);exact⟨⟨k+1,Tp x y b,AJ,by go_num,rfl,HO.o⟩,by simp[intOf];omega⟩
  ·have hk4:k=4:=AJ
   subst hk4;rw[Ad AJ,Ad (by simp[lW]),Ad AJ,Wy] at hv;have m0:0<=val 18446744073709551616 ms:=C0 AK hmw;have m1:val 18446744073709551616 ms<18446744073709551616^4:=by rw[<-hml];exact Eg AK hmw
   have hne:g≠w.heap.size:=AJ
   have HSZ:AO ((tP.info? 146).map (·.size)=aR ((ms.map (Value.int .u64)).toArray).size):=sizeNumR hml;have HSN:AO ((ns.map (Value.int .u64)).toArray.size=(ms.map (Value.int .u64)).toArray.size):=by show _=_;simp[hl,hml]
   have HN:AO (Cd wr g 146 ns):=hrow;have HM:AO (Cd wr w.heap.size 146 ms):=hmr;rcases (show b=0\/b=1 by omega) with rfl|rfl
   ·have HP:AO (KL w g ns (aQ (.tuple #[])) (wr.setRow g (ms.map (Value.int .u64)).toArray)):=by
     refine⟨rfl,ms,hml,hrow.setRow ms,hmw,?_,?_⟩
     {rw[AP AJ];omega};{exact(ET.of_below hbel).trans (Wr.setRow _ _ _).wrH}
    go_wp2_with (first
     |(refine AZ rfl 146 (ah 2) rfl w.heap.size rfl 146 _ (0,0) _ HM.o underlying146 rfl HSZ.o ?_)
     |(refine AE 146 (ah 32) (ah 31) g ((ms.map (Value.int .u64)).toArray) 146 HN.o HSZ.o HSN.o (all_oneCell_toArray (Az _ _)) ?_)
     |fail)
    go_end0
    exact HP.o
   ·have HP:AO (KL w g ns (aQ (.tuple #[])) wr):=by
     refine⟨rfl,ns,hl,hrow,hw,?_,ET.of_below hbel⟩;rw[AQ AJ]
    go_wp2
    go_end0
    exact HP.o
def Sh (w:aV) (v:Int) (e:Ending) (w':aV):Prop:=
 ∃ ms:List Int,ms.length=4/\IE ms/\val 18446744073709551616 ms=v/\e=aQ (af (ms.map (Value.int .u64)).toArray)/\Below w.heap.size w w'
theorem OG {x b:Int} {r:Nat} (h0:0<=x) (h1:x<256) (h:b=x/2^r%2):bits .and .u64 (IntKind.u64.wrap (x/2^r)) 1=b:=by
 have hp:(0:Int)<2^r:=Int.pow_pos AK;have a0:0<=x/2^r:=Int.ediv_nonneg h0 AJ;have a1:x/2^r<=x:=Int.ediv_le_self _ h0;generalize x/2^r=y at *;rw[IntKind.wrap_u64,Int.emod_eq_of_lt a0 AJ,DI y 1 a0 AJ 1 AK AK,h];rfl
structure RN (w:aV) (V:Int) (j:Nat) (wr:aV):Prop where
 res:Cd wr w.heap.size 146 [0,0,0,0]
 row:∃ ns,ns.length=4/\Cd wr (w.heap.size+1) 146 ns/\IE ns/\val 18446744073709551616 ns=Dk V j
 below:Below w.heap.size w wr
theorem Mv (a:Option Addr) (n cap:Nat) (zs:List Int) (w:aV) (hn:zs.length=n) (hm:n<=1048576) (ha:At .u8 w a zs) (hz:Cb zs) :
  Calls tP 107 #[aM a n cap] w (Sh w (val 256 zs%DZ)):=by
 have hV0:=C0 AK hz;have hV1:val 256 zs<2^(8*n):=by rw[<-PO,<-hn];exact Eg AK hz
 have HT:=CY <| KI _ _ hV0 hV1
 have HS:AO (RN w (val 256 zs) (8*n) ((w.alloc (aa CK 146)).alloc (aa CK 146))):=
  ⟨heap_alloc2_old _ _ _,⟨[0,0,0,0],rfl,heap_alloc2_new _ _ _,by unfold IE;decide,by rw[HT.o];decide⟩,(Cf.alloc Ch _).alloc AL _⟩
 go_enter func107,ntmps107;go_wp2
 go_loopw [4] (λi wr=>∃(j:Nat),j<=8*n/\i=aO aZ ((j:Int)-1)/\RN w (val 256 zs) j wr) (λi _=>(intOf i+1).toNat)
 case atStart=>exact⟨8*n,Aa _,by go_num,HS.o⟩
 case round=>
  obtain⟨j,hj,rfl,hres,⟨ns,hl,hrow,hw,hv⟩,hbel⟩:=hrel;by_cases hj0:0<j
  ·obtain⟨j,rfl⟩:∃ i,j=i+1:=⟨j-1,AJ⟩
   have ei:((j+1:Nat):Int)-1=(j:Int):=AJ
   rw[ei];obtain⟨b0,off,rfl,hb0,hc⟩:=(ha.below hbel).get AJ;have c0:=hc (j/8) AJ;have hb:=KJ zs j hz;have hx:=hz.get (j/8);generalize zs.getD (j/8) 0=x at *;obtain⟨hx0,hx1⟩:=hx;have hand:=OG hx0 hx1 hb;have hbd:=Mt (val 256 zs) j;have hst:=JN (val 256 zs) j;have hbL:=K6 (val 256 zs) (j+1);rw[<-hv] at hst hbL;generalize FT (val 256 zs) j=bj at *;have HAND:=CY <| hand
   have HST:=CY <| hst
   have HV:=CY <| hbL
   have HBD:=CY <| hbd
   clear hb hand hst hbL hv hbd;have HRS:=CY <| hres
   have HRO:=CY <| hrow
   have HBE:=CY <| hbel
   clear hres hrow hbel;go_wp2_with fail;rw[HAND.o];refine(Sf _ ns bj _ hl HRO.o hw HBD.o).mono ?_;rintro e w1 ⟨rfl,ms,hml,hmr,hmw,⟨c,hc0,hcv⟩,hwr1⟩;have hc00:c=0:=by
    rcases Int.lt_or_le 0 c with h|h
    ·exfalso
     have:=HV.o;have:=HBD.o;unfold DZ at *;have m0:=C0 AK hmw;have h2:(18446744073709551616:Int)^4=115792089237316195423570985008687907853269984665640564039457584007913129639936:=AK
     rw[h2] at hcv;omega
    ·omega
   subst hc00;have hmv:val 18446744073709551616 ms=2*val 18446744073709551616 ns+bj:=AJ
   have HMR:=CY <| hmr
   have HMV:=CY <| hmv
   have HRS1:=CY <| hwr1.rowW HRS.o AJ
   have HBE1:=CY <| HBE.o.trans (hwr1.below AJ)
   go_wp2_with fail;refine(Qd _ ms _ hml HMR.o hmw).mono ?_;rintro e w2 ⟨rfl,ls,hll,hlr,hlw,hlv,hwr2⟩;rw[HMV.o,<-HST.o] at hlv;have HP:AO (RN w (val 256 zs) j w2):=⟨hwr2.rowW HRS1.o AJ,⟨ls,hll,hlr,hlw,hlv⟩,HBE1.o.trans (hwr2.below _ AJ HBE1.o.size)⟩
   go_wp2;go_roundw
   case rel=>exact⟨j,AJ,rfl,HP.o⟩
   case measure=>first|(simp[intOf];done)|(simp[intOf];omega)
  ·obtain rfl:j=0:=AJ
   rw[JM] at hv;have HSZ:=CY <| sizeNumR hl
   have HZ4:AO (([0,0,0,0].map (Value.int .u64)).toArray.size=((ns.map (Value.int .u64)).toArray).size):=by show _=_;simp[hl]
   have HRS:=CY <| hres
   have HRO:=CY <| hrow
   have HBE:=CY <| hbel
   have HV:=CY <| hv
   go_wp2_with (first
    |(refine AZ rfl 146 (ah 3) rfl (w.heap.size+1) rfl 146 _ (0,0) _ HRO.o underlying146 rfl HSZ.o ?_)
    |(refine AE 146 (ah 2) (ah 25) w.heap.size ((ns.map (Value.int .u64)).toArray) 146 HRS.o HSZ.o HZ4.o (all_oneCell_toArray (Az _ _)) ?_))
   refine AU (v:=af (ns.map (Value.int .u64)).toArray) (AY rfl _ _ w.heap.size 146 _ (0,0) _ rfl (AB HRS.o) underlying146 rfl HSZ.o) rfl ⟨ns,hl,hw,HV.o,rfl,?_⟩;exact HBE.o.trans ((Wr.setRow _ _ _).below Ch)
end Go.Proofs.YtncomnkdlpoelaaGreatDoor
