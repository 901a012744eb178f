import Derived.Test.YtncomnkdlpoelaaGreatDoorMShK
open Go.Proofs.Tryz renaming prog->tP
open Go.Proofs.Tryz
open Go.Value renaming slice->aM,int->aO,pointer->aY,bool->ae,agg->af
open Go.IntKind renaming i64->aZ,u32->ai,u8->aP
open Go.Obj renaming cells->aa
open Go.Ending renaming returned->aQ
open Go.Ground renaming data->ag
open Go.Operand renaming tmp->ah
open Option renaming some->aR,none->aS
open Go renaming World->aV,Value->aX
set_option maxHeartbeats 8000000
set_option maxRecDepth 100000
namespace Go.Proofs.YtncomnkdlpoelaaGreatDoor
open Go.ChangeShapes Go.WideShapes Go.ChangeAt Go.RowKit
set_option linter.unusedVariables false
theorem Eo.bel {g:Nat} {w wr w':aV} (h:Eo g w wr) (hb:Below w.heap.size wr w'):Eo g w w':=
 ⟨hb.os.trans h.os,hb.tape.trans h.tape,hb.output.trans h.output,Ai h.size hb.size,λk hk hg=>(hb.block k hk).trans (h.block k hk hg)⟩
theorem Dc.keepE {w w':aV} {g:Nat} {x:Option Addr} {n cap:Nat} (h:Dc w g x n cap) (hb:w'.heap[g]?=w.heap[g]?):Dc w' g x n cap:=by
 obtain⟨i0,h0,p1,p2,p3,p4,p5⟩:=h;exact⟨i0,h0,p1,p2,p3,p4,by rw[hb];exact p5⟩
theorem DB.keepE {w w':aV} {B:Nat} {v:aX} {zs:List Int} (h:DB w B v zs) (hk:∀ k,B<=k->k<w.heap.size->w'.heap[k]?=w.heap[k]?):DB w' B v zs:=by
 refine⟨⟨h.1.1,?_⟩,h.2⟩;rcases h.1.2 with h'|⟨g',c',cur,h',hBg,hh,r⟩
 ·exact .inl h'
 ·exact .inr ⟨g',c',cur,h',hBg,by rw[hk g' hBg (AR.1 hh).1];exact hh,r⟩
theorem DB.monoE {w:aV} {B B':Nat} {v:aX} {zs:List Int} (h:DB w B v zs) (hB:B'<=B):DB w B' v zs:=by
 refine⟨⟨h.1.1,?_⟩,h.2⟩;rcases h.1.2 with h'|⟨g',c',cur,h',hBg,hh,r⟩
 ·exact .inl h'
 ·exact .inr ⟨g',c',cur,h',Ai hB hBg,hh,r⟩
theorem LH {zs:List Int} (hz:Cb zs) {x:Int} (hx:0<=x/\x<256):Cb (zs++[x]):=λv hv=>by
 rcases Bi.1 hv with h|h
 ·exact hz v h
 ·rw[List.mem_singleton] at h;rw[h];exact hx
theorem Cn {p:Prop} (h:p):AO p:=h
theorem DB.setE {w:aV} {B g c n:Nat} {zs:List Int} (hn:zs.length=n) (h:DB w B (aM (aR ⟨g,0,aS⟩) n c) zs) (i:Nat) (x:Int) (hi:i<n) :
  w.cell? ⟨g,i,aS⟩=aR (aO aP (zs.getD i 0))/\w.frozen? ⟨g,i,aS⟩=false/\DB (w.setCell ⟨g,i,aS⟩ (aO aP x)) B (aM (aR ⟨g,0,aS⟩) n c) (zs.set i x):=by
 subst hn;refine⟨?_,h.1.frozenAt i,?_,?_⟩
 ·rw[h.1.cellAt i AJ];simp[hi]
 ·have:=(h.1.stored i (aO aP x)).1;rw[<-List.map_set] at this;rw[List.length_set];exact this
 ·rw[List.length_set];exact⟨_,_,rfl⟩
theorem Qq {zs:List Int} (hz:Cb zs) (i:Nat) {y:Int} (hy:0<=y/\y<256):Cb (zs.set i y):=λv hv=>by
 rcases List.mem_or_eq_of_mem_set hv with h|h
 ·exact hz v h
 ·rw[h];exact hy
theorem OO {w:aV} {B q i:Nat} {v:aX} (h:B<=q):Below B w (w.setCell ⟨q,i,aS⟩ v):=
 ⟨rfl,rfl,rfl,by simp only[World.setCell,Array.size_modify];exact Aa _,λk hk=>Bj _ _ _ _ (by show k≠q;omega)⟩
theorem OP {zs:List Int} (hz:Cb zs) (i:Nat):0<=zs.getD i 0/\zs.getD i 0<256:=by
 by_cases h:i<zs.length
 ·rw[show zs.getD i 0=zs[i] from by simp[h]];exact hz _ (BL h)
 ·rw[show zs.getD i 0=0 from by simp[h]];decide
theorem TC (x:Int) (w:aV) (hx0:0<=x) (hx1:x<=1000) :
  Calls tP 37 #[aO aZ x] w (λe w'=>∃ v zs,e=aQ v/\DB w' w.heap.size v zs/\Cb zs/\zs.length=32/\val 256 zs=x/\Below w.heap.size w w'):=by
 go_enter func37,ntmps37;go_wp2
 go_loopw [3] (λv wr=>∃ k:Nat,k<=30/\DB wr w.heap.size v ([x%256,x/256%256]++List.replicate k 0)/\Below w.heap.size w wr) (λv _=>match v with|aM _ n _=>32-n|_=>0)
 case atStart=>exact⟨0,AJ,DB.lit w _ [x%256,x/256%256] Ch AL,Cf.alloc Ch _⟩
 case round=>
  obtain⟨k,hk,hown,hbel⟩:=hrel;obtain⟨gq,c,rfl,hq1,hq2,hq3⟩:=hown.base;have hlen:([x%256,x/256%256]++List.replicate k 0).length=k+2:=AL
  rw[hlen] at hown |-;have hsz:=hbel.size;by_cases hlt:k<30
  ·have hlt':((k+2:Nat):Int)<32:=AJ
   go_wp2_with (at_builtin;refine Cv _ rfl _ _ rfl w.heap.size _ _ rfl (hown.alloc _) ⟨wr.heap.size,0,aS⟩ 1 1 [0] rfl rfl ?c1 ?c2 ?c3 ?_);all_goals first|(intro j hj;obtain rfl:j=0:=AJ
                                                                                                                                                           simp[Addr.add];done)|skip
   case c2=>simp;omega
   case c3=>first|omega|(rw[Ay];omega)
   intro v' w1 hown' hbel' _;have HO:AO (DB w1 w.heap.size v' ([x%256,x/256%256]++List.replicate (k+1) 0)):=by rw[List.replicate_succ',<-CB];exact hown'
   have HB:AO (Below w.heap.size w w1):=(hbel.alloc AJ _).trans hbel';clear hown hown' hbel hbel';go_wp2;go_roundw
   case rel=>exact⟨k+1,AJ,HO.o,HB.o⟩
   case measure=>
    obtain⟨gq',c',rfl,_⟩:=HO.o.base;simp;omega
  ·have hkn:k=30:=AJ
   subst hkn;go_wp2
   go_ret
   refine⟨_,_,rfl,hown,?_,rfl,?_,hbel⟩
   ·intro v hv;rcases Bi.1 hv with h|h
    {simp at h;omega};{rw[List.mem_replicate] at h;omega}
   ·rw[show(30:Nat)=30 from rfl];simp[val,List.replicate];omega
theorem TD (ns:List Int) (hw:IE ns) (i:Nat):ns.getD (i/64) 0/2^(i%64)%2=val 18446744073709551616 ns/2^i%2:=by
 have hd:=Es (B:=18446744073709551616) AK hw (i/64);rw[<-hd];generalize val 18446744073709551616 ns=V;have e1:(18446744073709551616:Int)^(i/64)=2^(64*(i/64)):=by rw[Int.pow_mul];rfl
 have e2:(2:Int)^i=2^(64*(i/64))*2^(i%64):=by rw[<-Int.pow_add];congr 1;omega
 have hp:(0:Int)<=2^(64*(i/64)):=Int.le_of_lt (Int.pow_pos AK);rw[e1,e2,<-BY hp];generalize V/2^(64*(i/64))=U;have e3:(18446744073709551616:Int)=2^(i%64)*2^(64-i%64):=by
  rw[<-Int.pow_add,show i%64+(64-i%64)=64 by omega];rfl
 have h1:0<64-i%64:=AJ
 rw[e3];have hq:(0:Int)<2^(i%64):=Int.pow_pos AK;rw[Int.emod_def U,Int.mul_assoc,Int.sub_eq_add_neg,<-Int.mul_neg,Int.add_mul_ediv_left _ _ AJ];obtain⟨m,hm⟩:∃ m,64-i%64=m+1:=⟨63-i%64,AJ⟩
 rw[hm,Int.pow_succ];generalize U/2^(i%64)=A;generalize U/(2^(i%64)*(2^m*2))=B;rw[show -(2^m*2*B)=2*(-(2^m*B)) by grind,Int.add_mul_emod_self_left]
theorem U7 (g:Nat) (ns:List Int) (i:Nat) (w:aV) (hl:ns.length=4) (hi:i<256) (hr:Cd w g 146 ns) (hw:IE ns) :
  Calls tP 121 #[aY (aR ⟨g,0,aS⟩),aO aZ i] w λe w'=>e=aQ (aO .u64 (val 18446744073709551616 ns/2^i%2))/\w'=w:=by
 have c3:=hr.cell (i/64) AJ;obtain⟨h0,h1⟩:=hw.get (i/64);have HB:=CY <| TD ns hw i
 have hp:(0:Int)<2^(i%64):=Int.pow_pos AK;have HA:AO (bits .and .u64 (ns.getD (i/64) 0/2^(i%64)) 1=ns.getD (i/64) 0/2^(i%64)%2):=by
  have q0:0<=ns.getD (i/64) 0/2^(i%64):=Int.ediv_nonneg h0 AJ;have q1:ns.getD (i/64) 0/2^(i%64)<=ns.getD (i/64) 0:=Int.ediv_le_self _ h0;exact DI _ 1 q0 AJ 1 AK AK
 have hlt:(i:Int)/64<4:=AJ
 have hi':(i:Int)<256:=AJ
 generalize ns.getD (i/64) 0=x at *;go_enter func121,ntmps121;go_wp2;rw[HA.o,HB.o]
 go_ret
 exact⟨rfl,rfl⟩
theorem Ut.q4 {w:aV} {g:Nat} {X1 Y1 Z1 T1 X2 Y2 Z2 T2:Int} {e:Ending} {w':aV} (h:Ut w g X1 Y1 Z1 T1 X2 Y2 Z2 T2 e w') :
  ∃ x y z t,Pt w' g x y z t/\ET g w w'/\e=aQ (.tuple #[])/\((ev x,ev y,ev z,ev t):Q4)=F4 (X1,Y1,Z1,T1) (X2,Y2,Z2,T2):=by
 obtain⟨x,y,z,t,h1,h2,h3,h4,h5,h6,h7⟩:=h;exact⟨x,y,z,t,h1,h2,h3,by rw[h4,h5,h6,h7];rfl⟩
theorem Pt.wrh2 {w w':aV} {g V:Nat} {x y z t:List Int} (h:Pt w g x y z t) (hw:ET V w w') (hne:g≠V):Pt w' g x y z t:=⟨hw.rowW h.row hne,h.x,h.y,h.z,h.t⟩
def XC (w:aV) (g:Nat) (Q:Q4) (e:Ending) (w':aV):Prop:=
 ∃ x y z t,Pt w' g x y z t/\ET g w w'/\e=aQ (.tuple #[])/\((ev x,ev y,ev z,ev t):Q4)=Q
structure Y6 (w:aV) (g:Nat) (x y z t ns:List Int) (Q:Q4) (wr:aV):Prop where
 below:Below w.heap.size w wr
 num:Cd wr w.heap.size 146 ns
 pt:Pt wr g x y z t
 lt:g<w.heap.size
 sum:∃ a b c d,Pt wr (w.heap.size+1+1) a b c d/\((ev a,ev b,ev c,ev d):Q4)=Q
theorem Yb:((ev [0,0,0,0,0],ev [1,0,0,0,0],ev [1,0,0,0,0],ev [0,0,0,0,0]):Q4)=NV:=AK
theorem OQ (w:aV) (o1 o2 o3:Obj):(((w.alloc o1).alloc o2).alloc o3).heap[w.heap.size+1+1]?=aR o3:=by
 have:=AS ((w.alloc o1).alloc o2) o3
 rwa [show((w.alloc o1).alloc o2).heap.size=w.heap.size+1+1 by simp] at this
def Zu:List Int:=[0,0,0,0,0,0,0,0,0,0,0,0,0,0,0,0,0,0,0,0]
theorem L5:Cq [1,0,0,0,0]:=El
theorem Tryz.sizePoint2:(tP.info? 143).map (·.size)=aR 20:=AM
theorem L6 (S:Nat->Q4) (g:Nat) (x y z t ns:List Int) (w:aV) (hp:Pt w g x y z t) (hl:ns.length=4) (hw:IE ns) (hS0:AO (S 0=NV))
  (hSs:AO (∀ n,S (n+1)=bif E5 (val 18446744073709551616 ns) (255-n) then F4 (F4 (S n) (S n)) (ev x,ev y,ev z,ev t) else F4 (S n) (S n))) :
  Calls tP 105 #[aY (aR ⟨g,0,aS⟩),af (ns.map (Value.int .u64)).toArray] w (XC w g (S 256)):=by
 match ns,hl with
 |[n0,n1,n2,n3],_=>
 have HB:AO (Below w.heap.size w (((w.alloc (aa #[aO .u64 n0,aO .u64 n1,aO .u64 n2,aO .u64 n3] 146)).alloc (aa CW 141)).alloc (aa CP 143))):=((Cf.alloc Ch _).alloc AL _).alloc (by simp;omega) _;have HNR:AO (Cd (((w.alloc (aa #[aO .u64 n0,aO .u64 n1,aO .u64 n2,aO .u64 n3] 146)).alloc (aa CW 141)).alloc (aa CP 143)) w.heap.size 146 [n0,n1,n2,n3]):=by
  show _=_
  rw[BD _ _ w.heap.size (by simp;omega),BD _ _ w.heap.size AL];exact AS w _
 have HZR:AO (Cd (((w.alloc (aa #[aO .u64 n0,aO .u64 n1,aO .u64 n2,aO .u64 n3] 146)).alloc (aa CW 141)).alloc (aa CP 143)) (w.heap.size+1+1) 143 Zu):=OQ w _ _ _;have HER:AO (Dx ((w.alloc (aa #[aO .u64 n0,aO .u64 n1,aO .u64 n2,aO .u64 n3] 146)).alloc (aa CW 141)) (w.heap.size+1) 0 [1,0,0,0,0]):=by
  have r:Cd ((w.alloc (aa #[aO .u64 n0,aO .u64 n1,aO .u64 n2,aO .u64 n3] 146)).alloc (aa CW 141)) (w.heap.size+1) 141 [1,0,0,0,0]:=by
   have:=AS (w.alloc (aa #[aO .u64 n0,aO .u64 n1,aO .u64 n2,aO .u64 n3] 146)) (aa CW 141)
   rwa [show(w.alloc (aa #[aO .u64 n0,aO .u64 n1,aO .u64 n2,aO .u64 n3] 146)).heap.size=w.heap.size+1 by simp] at this
  exact Dx.of_row r L5
 have HPT:=CY <| hp
 have HWD:=CY <| hw
 simp only[List.map_cons,List.map_nil];go_enter func105,ntmps105;go_wp2_with (first
  |(refine DS rfl (ah 4) rfl (w.heap.size+1) 0 [1,0,0,0,0] rfl HER.o ?_)
  |(refine GA rfl (ah 5) (ah 10) rfl (w.heap.size+1+1) [0,0,0,0,0] [1,0,0,0,0] [1,0,0,0,0] [0,0,0,0,0] Zu rfl rfl FY L5 L5 FY rfl HZR.o ?_)
  |fail)
 intro w0 hp0 hw0;have HS:AO (Y6 w g x y z t [n0,n1,n2,n3] (S 0) w0):=by
  have b0:=HB.o.trans (hw0.below AJ);exact⟨b0,hw0.rowW HNR.o AJ,HPT.o.below b0 HPT.o.row.lt,HPT.o.row.lt,[0,0,0,0,0],[1,0,0,0,0],[1,0,0,0,0],[0,0,0,0,0],hp0,by rw[hS0.o];exact Yb⟩
 go_wp2_with fail
 go_loopw [6] (λi wr=>∃ j:Nat,j<=256/\i=aO aZ ((j:Int)-1)/\Y6 w g x y z t [n0,n1,n2,n3] (S (256-j)) wr) (λi _=>(intOf i+1).toNat)
 case atStart=>exact⟨256,Aa _,by go_num,by rw[Nat.sub_self];exact HS.o⟩
 case round=>
  obtain⟨j,hj,rfl,hst⟩:=hrel;by_cases hj0:0<j
  ·obtain⟨i,rfl⟩:∃ i,j=i+1:=⟨j-1,AJ⟩
   have ei:((i+1:Nat):Int)-1=(i:Int):=AJ
   rw[ei];obtain⟨hbel,hnum,hpt,hlt,a,b,c,d,hsum,hq⟩:=hst;have HST:AO (Below w.heap.size w wr/\Cd wr w.heap.size 146 [n0,n1,n2,n3]/\Pt wr g x y z t/\g<w.heap.size/\Pt wr (w.heap.size+1+1) a b c d/\((ev a,ev b,ev c,ev d):Q4)=S (256-(i+1))):=⟨hbel,hnum,hpt,hlt,hsum,hq⟩
   go_wp2_with fail;refine(Lw (w.heap.size+1+1) (w.heap.size+1+1) a b c d a b c d _ HST.o.2.2.2.2.1 HST.o.2.2.2.2.1).mono ?_;intro e w2 h2;obtain⟨a2,b2,c2,d2,p2,hw2,rfl,q2⟩:=h2.q4;obtain⟨s1,s2,s3,s4,s5,s6⟩:=HST.o;have HST2:AO (Below w.heap.size w w2/\Cd w2 w.heap.size 146 [n0,n1,n2,n3]/\Pt w2 g x y z t/\g<w.heap.size/\Pt w2 (w.heap.size+1+1) a2 b2 c2 d2/\((ev a2,ev b2,ev c2,ev d2):Q4)=F4 (S (256-(i+1))) (S (256-(i+1)))):=
    ⟨s1.trans (hw2.below w.heap.size AJ s1.size),hw2.rowW s2 AJ,s3.wrh2 hw2 AJ,s4,p2,by rw[q2,s6]⟩
   go_wp2_with fail;refine(U7 w.heap.size [n0,n1,n2,n3] i _ rfl AJ HST2.o.2.1 HWD.o).mono ?_;rintro e w3 ⟨rfl,rfl⟩;have hv:val 18446744073709551616 [n0,n1,n2,n3]/2^i%2=0\/val 18446744073709551616 [n0,n1,n2,n3]/2^i%2=1:=AJ
   have en:256-i=256-(i+1)+1:=AJ
   have en2:255-(256-(i+1))=i:=AJ
   rcases hv with hv|hv
   ·have hvb:E5 (val 18446744073709551616 [n0,n1,n2,n3]) i=false:=by unfold E5;rw[hv];rfl
    have HN:AO (Y6 w g x y z t [n0,n1,n2,n3] (S (256-i)) w3):=by
     obtain⟨s1,s2,s3,s4,s5,s6⟩:=HST2.o;refine⟨s1,s2,s3,s4,a2,b2,c2,d2,s5,?_⟩;rw[s6,en,hSs.o,en2,hvb];rfl
    rw[hv];go_wp2;go_roundw
    case rel=>exact⟨i,AJ,by go_num,HN.o⟩
    case measure=>simp[intOf]
   ·have hvb:E5 (val 18446744073709551616 [n0,n1,n2,n3]) i=true:=by unfold E5;rw[hv];rfl
    rw[hv];go_wp2_with fail;refine(Lw (w.heap.size+1+1) g a2 b2 c2 d2 x y z t _ HST2.o.2.2.2.2.1 HST2.o.2.2.1).mono ?_;intro e w4 h4;obtain⟨a4,b4,c4,d4,p4,hw4,rfl,q4⟩:=h4.q4;have HN:AO (Y6 w g x y z t [n0,n1,n2,n3] (S (256-i)) w4):=by
     obtain⟨s1,s2,s3,s4,s5,s6⟩:=HST2.o;refine⟨s1.trans (hw4.below w.heap.size AJ s1.size),hw4.rowW s2 AJ,s3.wrh2 hw4 AJ,s4,a4,b4,c4,d4,p4,?_⟩;rw[q4,s6,en,hSs.o,en2,hvb];rfl
    go_wp2;go_roundw
    case rel=>exact⟨i,AJ,by go_num,HN.o⟩
    case measure=>simp[intOf]
  ·have hj00:j=0:=AJ
   subst hj00;obtain⟨hbel,hnum,hpt,hlt,a,b,c,d,hsum,hq⟩:=hst;rw[Nat.sub_zero] at hq;have HL:=CY <| hsum.row
   have HPX:AO ((pl x y z t).length=20):=by show _=_;unfold pl;simp[HPT.o.x.1,HPT.o.y.1,HPT.o.z.1,HPT.o.t.1]
   have HSZ:AO ((tP.info? 143).map (·.size)=aR ((pl a b c d).map (Value.int .u64)).toArray.size):=by
    show _=_
    rw[Tryz.sizePoint2];unfold pl;simp[hsum.x.1,hsum.y.1,hsum.z.1,hsum.t.1]
   have HOK:AO (Cq a/\Cq b/\Cq c/\Cq d):=⟨hsum.x,hsum.y,hsum.z,hsum.t⟩
   have HPR:=CY <| hpt.row
   have HFF:AO (Below w.heap.size w wr/\((ev a,ev b,ev c,ev d):Q4)=S 256):=⟨hbel,hq⟩
   go_wp2_with (first
    |(refine AZ rfl 143 (ah 5) rfl (w.heap.size+1+1) rfl 143 _ (0,0) _ HL.o underlying143 rfl HSZ.o ?_)
    |(refine GA rfl (ah 23) (ah 22) rfl g a b c d _ rfl rfl HOK.o.1 HOK.o.2.1 HOK.o.2.2.1 HOK.o.2.2.2 HPX.o HPR.o ?_)
    |fail)
   intro w5 hp5 hw5;have HF:AO (XC w g (S 256) (aQ (.tuple #[])) w5):=
    ⟨a,b,c,d,hp5,(ET.of_below HFF.o.1).trans hw5.wrH,rfl,HFF.o.2⟩
   go_wp2
   go_end0
   exact HF.o
theorem Is (g:Nat) (x y z t ns:List Int) (w:aV) (hp:Pt w g x y z t) (hl:ns.length=4) (hw:IE ns) :
  Calls tP 105 #[aY (aR ⟨g,0,aS⟩),af (ns.map (Value.int .u64)).toArray] w (XC w g (pS (val 18446744073709551616 ns) (ev x,ev y,ev z,ev t) 256)):=
 L6 (pS (val 18446744073709551616 ns) (ev x,ev y,ev z,ev t)) g x y z t ns w hp hl hw rfl (λ_=>rfl)
theorem It (ks:List Int) (hw:Cb ks) (i:Nat):ks.getD (i/8) 0/2^(i%8)%2=val 256 ks/2^i%2:=by
 have hd:=Es (B:=256) AK (λz hz=>hw z hz) (i/8);rw[<-hd];generalize val 256 ks=V;have e1:(256:Int)^(i/8)=2^(8*(i/8)):=by rw[Int.pow_mul];rfl
 have e2:(2:Int)^i=2^(8*(i/8))*2^(i%8):=by rw[<-Int.pow_add];congr 1;omega
 have hp:(0:Int)<=2^(8*(i/8)):=Int.le_of_lt (Int.pow_pos AK);rw[e1,e2,<-BY hp];generalize V/2^(8*(i/8))=U;have e3:(256:Int)=2^(i%8)*2^(8-i%8):=by
  rw[<-Int.pow_add,show i%8+(8-i%8)=8 by omega];rfl
 have h1:0<8-i%8:=AJ
 rw[e3];have hq:(0:Int)<2^(i%8):=Int.pow_pos AK;rw[Int.emod_def U,Int.mul_assoc,Int.sub_eq_add_neg,<-Int.mul_neg,Int.add_mul_ediv_left _ _ AJ];obtain⟨m,hm⟩:∃ m,8-i%8=m+1:=⟨7-i%8,AJ⟩
 rw[hm,Int.pow_succ];generalize U/2^(i%8)=A;generalize U/(2^(i%8)*(2^m*2))=B;rw[show -(2^m*2*B)=2*(-(2^m*B)) by grind,Int.add_mul_emod_self_left]
theorem Cy.lt {w:aV} {g:Nat} {x:Int} (h:Cy w (aR ⟨g,0,aS⟩) x):g<w.heap.size:=by
 obtain⟨zs,h1,h2,h3⟩:=h;obtain⟨b,o,e,hb,hc⟩:=h1.get (AG h2.1);cases e;exact hb
def Fd (B:Nat) (wr:aV) (G:Nat) (Q:Q4):Prop:=
 ∃ h0 k0 h1 k1 h2 k2 h3 k3,EM wr G #[aM (aR ⟨h0,0,aS⟩) 16 k0,aM (aR ⟨h1,0,aS⟩) 16 k1,aM (aR ⟨h2,0,aS⟩) 16 k2,aM (aR ⟨h3,0,aS⟩) 16 k3]/\Cy wr (aR ⟨h0,0,aS⟩) Q.1/\Cy wr (aR ⟨h1,0,aS⟩) Q.2.1/\Cy wr (aR ⟨h2,0,aS⟩) Q.2.2.1/\Cy wr (aR ⟨h3,0,aS⟩) Q.2.2.2/\(h0≠G/\h1≠G/\h2≠G/\h3≠G)/\(B<h0/\B<h1/\B<h2/\B<h3)
structure Tw (w:aV) (pc:Array aX) (G:Nat) (wr:aV):Prop where
 below:Below w.heap.size w wr
 pb:EM wr w.heap.size pc
 rs:EM wr (w.heap.size+1) CO
 gt:w.heap.size+1<G
theorem Tw.call {w wr w':aV} {pc:Array aX} {G:Nat} (h:Tw w pc G wr) (b:Below wr.heap.size wr w'):Tw w pc G w':=
 ⟨h.below.trans (b.mono h.below.size),h.pb.below b h.pb.lt,h.rs.below b h.rs.lt,h.gt⟩
theorem EM.wr2 {w w':aV} {g V:Nat} {cs:Array aX} (h:EM w g cs) (hw:Wr V w w') (hne:g≠V):EM w' g cs:=by unfold EM;rw[hw.block g hne];exact h
theorem Tw.wr {w wr w':aV} {pc:Array aX} {G:Nat} (h:Tw w pc G wr) (hw:Wr G wr w'):Tw w pc G w':=
 ⟨h.below.trans (hw.below (AG h.gt)),h.pb.wr2 hw (AG h.gt),h.rs.wr2 hw (AG h.gt),h.gt⟩
def Qr (w:aV) (Q:Q4) (e:Ending) (w':aV):Prop:=
 ∃ h0 k0 h1 k1 h2 k2 h3 k3,e=aQ (af #[aM (aR ⟨h0,0,aS⟩) 16 k0,aM (aR ⟨h1,0,aS⟩) 16 k1,aM (aR ⟨h2,0,aS⟩) 16 k2,aM (aR ⟨h3,0,aS⟩) 16 k3])/\Cy w' (aR ⟨h0,0,aS⟩) Q.1/\Cy w' (aR ⟨h1,0,aS⟩) Q.2.1/\Cy w' (aR ⟨h2,0,aS⟩) Q.2.2.1/\Cy w' (aR ⟨h3,0,aS⟩) Q.2.2.2/\Below w.heap.size w w'
theorem Fd.put {B:Nat} {wr w5 w6:aV} {G:Nat} {P Q:Q4} {v:aX} (hG:G<wr.heap.size) (hB:B<G)
  (h:YQ wr (Lt P.1 P.2.1 Q.1 Q.2.1) (Lu P.1 P.2.1 Q.1 Q.2.1) (KZ Dl P.2.2.2 Q.2.2.2) (Kj P.2.2.1 Q.2.2.1) (aQ v) w5) :
  ∃ s0 s1 s2 s3,v=af #[s0,s1,s2,s3]/\(s0.oneCell'=true/\s1.oneCell'=true/\s2.oneCell'=true/\s3.oneCell'=true)/\(EM w6 G #[s0,s1,s2,s3]->Wr G w5 w6->Fd B w6 G (F4 P Q)):=by
 obtain⟨g1,k1,g2,k2,g3,k3,g4,k4,e,f1,f2,f3,f4,b,q1,q2,q3,q4⟩:=h;cases e;refine⟨_,_,_,_,rfl,⟨rfl,rfl,rfl,rfl⟩,λhp hw=>⟨g1,k1,g2,k2,g3,k3,g4,k4,hp,f1.wr hw AJ,f2.wr hw AJ,f3.wr hw AJ,f4.wr hw AJ,⟨AJ,AJ,AJ,AJ⟩,AJ,AJ,AJ,AJ⟩⟩
theorem OR (M:Nat->Q4×Bool) (kp:Option Addr) (kc:Nat) (ks:List Int) (p0 p1 p2 p3 gd c0 c1 c2 c3 cd:Nat) (P:Q4) (w:aV) (hk:ks.length=32) (hb:Cb ks) (ha:At aP w kp ks)
  (h0:Cy w (aR ⟨p0,0,aS⟩) P.1) (h1:Cy w (aR ⟨p1,0,aS⟩) P.2.1) (h2:Cy w (aR ⟨p2,0,aS⟩) P.2.2.1) (h3:Cy w (aR ⟨p3,0,aS⟩) P.2.2.2) (hd:Cy w (aR ⟨gd,0,aS⟩) Dl) (hM0:AO (M 0=(NV,false)))
  (hMs:AO (∀ n Q b,M n=(Q,b)->M (n+1)=bif E5 (val 256 ks) (255-n) then(F4 (bif b then F4 Q Q else Q) P,true) else(bif b then F4 Q Q else Q,b))) :
  Calls tP 36 #[aM kp 32 kc,af #[aM (aR ⟨p0,0,aS⟩) 16 c0,aM (aR ⟨p1,0,aS⟩) 16 c1,aM (aR ⟨p2,0,aS⟩) 16 c2,aM (aR ⟨p3,0,aS⟩) 16 c3],aM (aR ⟨gd,0,aS⟩) 16 cd] w (Qr w (M 256).1):=by
 have bb:Below w.heap.size w ((w.alloc (aa #[aM (aR ⟨p0,0,aS⟩) 16 c0,aM (aR ⟨p1,0,aS⟩) 16 c1,aM (aR ⟨p2,0,aS⟩) 16 c2,aM (aR ⟨p3,0,aS⟩) 16 c3] 79)).alloc (aa CO 79)):=(Cf.alloc Ch _).alloc AL _;have HP0:AO (EM ((w.alloc (aa #[aM (aR ⟨p0,0,aS⟩) 16 c0,aM (aR ⟨p1,0,aS⟩) 16 c1,aM (aR ⟨p2,0,aS⟩) 16 c2,aM (aR ⟨p3,0,aS⟩) 16 c3] 79)).alloc (aa CO 79)) w.heap.size #[aM (aR ⟨p0,0,aS⟩) 16 c0,aM (aR ⟨p1,0,aS⟩) 16 c1,aM (aR ⟨p2,0,aS⟩) 16 c2,aM (aR ⟨p3,0,aS⟩) 16 c3]):=by
  show _=_
  rw[BD _ _ w.heap.size AL];exact AS w _
 have HZ0:AO (EM ((w.alloc (aa #[aM (aR ⟨p0,0,aS⟩) 16 c0,aM (aR ⟨p1,0,aS⟩) 16 c1,aM (aR ⟨p2,0,aS⟩) 16 c2,aM (aR ⟨p3,0,aS⟩) 16 c3] 79)).alloc (aa CO 79)) (w.heap.size+1) CO):=by
  show _=_
  have:=AS (w.alloc (aa #[aM (aR ⟨p0,0,aS⟩) 16 c0,aM (aR ⟨p1,0,aS⟩) 16 c1,aM (aR ⟨p2,0,aS⟩) 16 c2,aM (aR ⟨p3,0,aS⟩) 16 c3] 79)) (aa CO 79);simpa using this
 have HB0:=CY <| bb
 have HF0:=CY <| h0
 have HF1:=CY <| h1
 have HF2:=CY <| h2
 have HF3:=CY <| h3
 have HFD:=CY <| hd
 obtain⟨kb,ko,rfl,hkb,hkc⟩:=ha.get AJ;have HKB:=CY <| hkb
 have HKC:AO (∀ q,q<32->w.cell? ⟨kb,ko+q,aS⟩=aR (aO aP (ks.getD q 0))):=λq hq=>hkc q AJ
 have HBY:=CY <| hb
 have HKL:=CY <| hk
 go_enter func36,ntmps36;go_wp2_with fail;generalize ((w.alloc (aa #[aM (aR ⟨p0,0,aS⟩) 16 c0,aM (aR ⟨p1,0,aS⟩) 16 c1,aM (aR ⟨p2,0,aS⟩) 16 c2,aM (aR ⟨p3,0,aS⟩) 16 c3] 79)).alloc (aa CO 79))=w0 at *;refine(DA 0 _ AK AK).mono ?_;rintro e w1 ⟨g1,k1,rfl,hr1,_,hf,hb⟩;have hg1:w.heap.size+1<g1:=AG HZ0.o.lt
 have HX:=CY <| hf
 have b1:=HB0.o.trans (hb.mono HB0.o.size);have HP1:=CY <| HP0.o.below hb HP0.o.lt
 have HZ1:=CY <| HZ0.o.below hb HZ0.o.lt
 have HB1:=CY <| b1
 go_wp2_with fail;refine(DA 1 _ AK AK).mono ?_;rintro e w2 ⟨g2,k2,rfl,hr2,_,hf,hb⟩;have hg2:w.heap.size+1<g2:=AG HZ1.o.lt
 have HX2:=CY <| HX.o.below hb
 have HY2:=CY <| hf
 have HP2:=CY <| HP1.o.below hb HP1.o.lt
 have HZ2:=CY <| HZ1.o.below hb HZ1.o.lt
 have HB2:=CY <| HB1.o.trans (hb.mono HB1.o.size)
 go_wp2_with fail;refine(E0 (aR ⟨g1,0,aS⟩) (aR ⟨g2,0,aS⟩) k1 k2 _ _ _ HX2.o HY2.o).mono ?_;rintro e w3 ⟨gz,cz,gt,ct,rfl,f3,f4,hb,hr3,hr4⟩;have hgz:w.heap.size+1<gz:=AG HZ2.o.lt
 have hgt:w.heap.size+1<gt:=AG HZ2.o.lt
 have HX3:AO (Cy w3 (aR ⟨g1,0,aS⟩) (0%fp)/\Cy w3 (aR ⟨g2,0,aS⟩) (1%fp)/\Cy w3 (aR ⟨gz,0,aS⟩) (1%fp)/\Cy w3 (aR ⟨gt,0,aS⟩) (0%fp*(1%fp)%fp)):=⟨HX2.o.below hb,HY2.o.below hb,f3,f4⟩
 have HP3:=CY <| HP2.o.below hb HP2.o.lt
 have HZ3:=CY <| HZ2.o.below hb HZ2.o.lt
 have HB3:=CY <| HB2.o.trans (hb.mono HB2.o.size)
 have HPN:=CY <| EM.new w3
 go_wp2_with (first
  |(refine Cc rfl (ah 7) (ah 12) rfl w3.heap.size _ _ _ _ _ rfl rfl rfl rfl rfl rfl rfl HPN.o ?_)
  |fail)
 intro w4 hp4 hw4;have b34:=(Ce _ _).trans (hw4.below Ch);have HE:AO (Tw w #[aM (aR ⟨p0,0,aS⟩) 16 c0,aM (aR ⟨p1,0,aS⟩) 16 c1,aM (aR ⟨p2,0,aS⟩) 16 c2,aM (aR ⟨p3,0,aS⟩) 16 c3] w3.heap.size w4):=⟨HB3.o.trans (b34.mono HB3.o.size),HP3.o.below b34 HP3.o.lt,HZ3.o.below b34 HZ3.o.lt,HZ3.o.lt⟩
 have HO:AO (Fd (w.heap.size+1) w4 w3.heap.size (M 0).1):=by
  show Fd _ _ _ _
  rw[hM0.o];obtain⟨q1,q2,q3,q4⟩:=HX3.o;refine⟨g1,k1,g2,k2,gz,cz,gt,ct,hp4,?_,?_,?_,?_,⟨?_,?_,?_,?_⟩,hg1,hg2,hgz,hgt⟩
  {exact q1.below b34};{exact q2.below b34};{exact q3.below b34};{exact q4.below b34};{have:=q1.lt;omega};{have:=q2.lt;omega};{have:=q3.lt;omega};{have:=q4.lt;omega}
 generalize w3.heap.size=G at *;go_wp2_with fail
 go_loopw [8,9] (λb i wr=>∃ j:Nat,j<=256/\i=aO aZ ((j:Int)-1)/\b=ae (M (256-j)).2/\Tw w #[aM (aR ⟨p0,0,aS⟩) 16 c0,aM (aR ⟨p1,0,aS⟩) 16 c1,aM (aR ⟨p2,0,aS⟩) 16 c2,aM (aR ⟨p3,0,aS⟩) 16 c3] G wr/\Fd (w.heap.size+1) wr G (M (256-j)).1) (λ_ i _=>(intOf i+1).toNat)
 case atStart=>exact⟨256,Aa _,by go_num,by rw[Nat.sub_self,hM0.o],HE.o,by rw[Nat.sub_self];exact HO.o⟩
 case round=>
  obtain⟨j,hj,rfl,rfl,hE,hO⟩:=hrel;by_cases hj0:0<j
  ·obtain⟨i,rfl⟩:∃ i,j=i+1:=⟨j-1,AJ⟩
   have ei:((i+1:Nat):Int)-1=(i:Int):=AJ
   rw[ei];have en:256-i=256-(i+1)+1:=AJ
   have en2:255-(256-(i+1))=i:=AJ
   have hi8:i<256:=AJ
   generalize hM:M (256-(i+1))=mq at *;obtain⟨Q,bg⟩:=mq;simp only at hO |-;cases bg with
   |false=>
    have hge:¬ ((i:Int)<0):=AJ
    have cK:wr.cell? ⟨kb,ko+i/8,aS⟩=aR (aO aP (ks.getD (i/8) 0)):=by rw[hE.below.cell (p:=⟨kb,ko+i/8,aS⟩) HKB.o];exact HKC.o (i/8) AJ
    have hx:=HBY.o.get (i/8);have HBIT:=CY <| It ks HBY.o i
    have hlt:(i:Int)/8<32:=AJ
    have HE:=CY <| hE
    have HO:AO (Fd (w.heap.size+1) wr G (Q)):=hO;generalize ks.getD (i/8) 0=x at *;obtain⟨hx0,hx1⟩:=hx;have hv:(val 256 ks)/2^i%2=0\/(val 256 ks)/2^i%2=1:=AJ
    have hpp:(0:Int)<2^(i%8):=Int.pow_pos AK;have hy0:0<=x/2^(i%8):=Int.ediv_nonneg hx0 AJ;have hy1:x/2^(i%8)<=x:=Int.ediv_le_self _ hx0;rcases hv with hv|hv
    ·have hvb:E5 (val 256 ks) i=false:=by unfold E5;rw[hv];rfl
     have hb0:x/2^(i%8)%2=0:=by rw[HBIT.o,hv]
     have HN:AO ((M (256-i))=(Q,false)):=by
      show _=_
      rw[en,hMs.o _ _ _ hM,en2,hvb];rfl
     have ht:(x/2^(i%8)).tmod 2=0:=by rw[Ah hy0,hb0]
     go_wp2;go_roundw
     case rel=>exact⟨i,AJ,by go_num,by rw[HN.o],HE.o,by rw[HN.o];exact HO.o⟩
     case measure=>simp[intOf]
    ·have hvb:E5 (val 256 ks) i=true:=by unfold E5;rw[hv];rfl
     have hb0:x/2^(i%8)%2=1:=by rw[HBIT.o,hv]
     have HN:AO ((M (256-i))=(F4 (Q) P,true)):=by
      show _=_
      rw[en,hMs.o _ _ _ hM,en2,hvb];rfl
     have ht:(x/2^(i%8)).tmod 2=1:=by rw[Ah hy0,hb0]
     obtain⟨h0,k0,h1,k1,h2,k2,h3,k3,hp,hf0,hf1,hf2,hf3,hne⟩:=HO.o;have hE:=HE.o;have CS := Gc (aR ⟨h0,0,aS⟩) (aR ⟨h1,0,aS⟩) (aR ⟨h2,0,aS⟩) (aR ⟨h3,0,aS⟩) (aR ⟨p0,0,aS⟩) (aR ⟨p1,0,aS⟩) (aR ⟨p2,0,aS⟩) (aR ⟨p3,0,aS⟩) (aR ⟨gd,0,aS⟩) k0 k1 k2 k3 c0 c1 c2 c3 cd _ _ _ _ _ _ _ _ Dl wr (λe he=>by
                                                                                        simp only[List.mem_cons,List.not_mem_nil,or_false] at he
                                                                                        rcases he with rfl|rfl|rfl|rfl|rfl|rfl|rfl|rfl|rfl
                                                                                        {exact hf0};{exact hf1};{exact hf2};{exact hf3};{exact(HF0.o.below hE.below)};{exact(HF1.o.below hE.below)};{exact(HF2.o.below hE.below)};{exact(HF3.o.below hE.below)}
                                                                                        · exact(HFD.o.below hE.below))
     have HPO:=CY <| hp
     have HPB:=CY <| hE.pb
     go_wp2_with (first
      |(refine AZ rfl 79 (ah 7) rfl G rfl 79 _ (0,0) _ HPO.o underlying79 rfl Tryz.sizePt ?_)
      |(refine AZ rfl 79 (ah 4) rfl w.heap.size rfl 79 _ (0,0) _ HPB.o underlying79 rfl Tryz.sizePt ?_)
      |fail)
     refine CS.mono ?_;intro e w8 h8;have h8b:Below wr.heap.size wr w8:=by obtain⟨_,_,_,_,_,_,_,_,_,_,_,_,_,b,_⟩:=h8;exact b
     have h8e:∃ v,e=aQ v:=by obtain⟨_,_,_,_,_,_,_,_,r,_⟩:=h8;exact⟨_,r⟩
     obtain⟨v8,rfl⟩:=h8e;have hput:=λw9=>Fd.put (B:=w.heap.size+1) (w6:=w9) (P:=Q) (Q:=P) HPO.o.lt HE.o.gt h8
     obtain⟨s0,s1,s2,s3,rfl,hone,_⟩:=hput w8;have HPT:AO (∀ w9,EM w9 G #[s0,s1,s2,s3]->Wr G w8 w9->Fd (w.heap.size+1) w9 G (F4 (Q) P)):=λw9 hp hw=>by
      obtain⟨q0,q1,q2,q3,e,_,k⟩:=hput w9;cases e;exact k hp hw
     have HON:=CY <| hone
     have HP8:=CY <| HPO.o.below h8b HPO.o.lt
     have HE8:=CY <| HE.o.call h8b
     go_wp2_with (first
      |(refine Cc rfl (ah 7) (ah 40) rfl G s0 s1 s2 s3 _ HON.o.1 HON.o.2.1 HON.o.2.2.1 HON.o.2.2.2 rfl rfl rfl HP8.o ?_)
      |fail)
     intro w9 hp9 hw9;have HO9:=CY <| HPT.o w9 hp9 hw9
     have HE9:=CY <| HE8.o.wr hw9
     go_wp2;go_roundw
     case rel=>exact⟨i,AJ,by go_num,by rw[HN.o],HE9.o,by rw[HN.o];exact HO9.o⟩
     case measure=>simp[intOf]
   |true=>
    obtain⟨h0,k0,h1,k1,h2,k2,h3,k3,hp,hf0,hf1,hf2,hf3,hne⟩:=hO;have CS:=Gc (aR ⟨h0,0,aS⟩) (aR ⟨h1,0,aS⟩) (aR ⟨h2,0,aS⟩) (aR ⟨h3,0,aS⟩) (aR ⟨h0,0,aS⟩) (aR ⟨h1,0,aS⟩) (aR ⟨h2,0,aS⟩) (aR ⟨h3,0,aS⟩) (aR ⟨gd,0,aS⟩) k0 k1 k2 k3 k0 k1 k2 k3 cd _ _ _ _ _ _ _ _ Dl wr (λe he=>by
     simp only[List.mem_cons,List.not_mem_nil,or_false] at he;rcases he with rfl|rfl|rfl|rfl|rfl|rfl|rfl|rfl|rfl
     {exact hf0};{exact hf1};{exact hf2};{exact hf3};{exact hf0};{exact hf1};{exact hf2};{exact hf3}
     ·exact(HFD.o.below hE.below))
    have HPO:=CY <| hp
    have HE:=CY <| hE
    go_wp2_with (first
     |(refine AZ rfl 79 (ah 7) rfl G rfl 79 _ (0,0) _ HPO.o underlying79 rfl Tryz.sizePt ?_)
     |fail)
    refine CS.mono ?_;intro e w5 h5;have h5b:Below wr.heap.size wr w5:=by obtain⟨_,_,_,_,_,_,_,_,_,_,_,_,_,b,_⟩:=h5;exact b
    have h5e:∃ v,e=aQ v:=by obtain⟨_,_,_,_,_,_,_,_,r,_⟩:=h5;exact⟨_,r⟩
    obtain⟨v5,rfl⟩:=h5e;have hput:=λw9=>Fd.put (B:=w.heap.size+1) (w6:=w9) (P:=Q) (Q:=Q) HPO.o.lt HE.o.gt h5
    obtain⟨s0,s1,s2,s3,rfl,hone,_⟩:=hput w5;have HPT:AO (∀ w9,EM w9 G #[s0,s1,s2,s3]->Wr G w5 w9->Fd (w.heap.size+1) w9 G (F4 Q Q)):=λw9 hp hw=>by
     obtain⟨q0,q1,q2,q3,e,_,k⟩:=hput w9;cases e;exact k hp hw
    have HON:=CY <| hone
    have HP5:=CY <| HPO.o.below h5b HPO.o.lt
    have HE5:=CY <| HE.o.call h5b
    go_wp2_with (first
     |(refine Cc rfl (ah 7) (ah 25) rfl G s0 s1 s2 s3 _ HON.o.1 HON.o.2.1 HON.o.2.2.1 HON.o.2.2.2 rfl rfl rfl HP5.o ?_)
     |fail)
    intro w6 hp6 hw6;have hO:=HPT.o w6 hp6 hw6;have hE:=HE5.o.wr hw6;have cK:w6.cell? ⟨kb,ko+i/8,aS⟩=aR (aO aP (ks.getD (i/8) 0)):=by rw[hE.below.cell (p:=⟨kb,ko+i/8,aS⟩) HKB.o];exact HKC.o (i/8) AJ
    have hx:=HBY.o.get (i/8);have HBIT:=CY <| It ks HBY.o i
    have hlt:(i:Int)/8<32:=AJ
    have HE:=CY <| hE
    have HO:AO (Fd (w.heap.size+1) w6 G (F4 Q Q)):=hO;generalize ks.getD (i/8) 0=x at *;obtain⟨hx0,hx1⟩:=hx;have hv:(val 256 ks)/2^i%2=0\/(val 256 ks)/2^i%2=1:=AJ
    have hpp:(0:Int)<2^(i%8):=Int.pow_pos AK;have hy0:0<=x/2^(i%8):=Int.ediv_nonneg hx0 AJ;have hy1:x/2^(i%8)<=x:=Int.ediv_le_self _ hx0;rcases hv with hv|hv
    ·have hvb:E5 (val 256 ks) i=false:=by unfold E5;rw[hv];rfl
     have hb0:x/2^(i%8)%2=0:=by rw[HBIT.o,hv]
     have HN:AO ((M (256-i))=(F4 Q Q,true)):=by
      show _=_
      rw[en,hMs.o _ _ _ hM,en2,hvb];rfl
     have ht:(x/2^(i%8)).tmod 2=0:=by rw[Ah hy0,hb0]
     go_wp2;go_roundw
     case rel=>exact⟨i,AJ,by go_num,by rw[HN.o],HE.o,by rw[HN.o];exact HO.o⟩
     case measure=>simp[intOf]
    ·have hvb:E5 (val 256 ks) i=true:=by unfold E5;rw[hv];rfl
     have hb0:x/2^(i%8)%2=1:=by rw[HBIT.o,hv]
     have HN:AO ((M (256-i))=(F4 (F4 Q Q) P,true)):=by
      show _=_
      rw[en,hMs.o _ _ _ hM,en2,hvb];rfl
     have ht:(x/2^(i%8)).tmod 2=1:=by rw[Ah hy0,hb0]
     obtain⟨h0,k0,h1,k1,h2,k2,h3,k3,hp,hf0,hf1,hf2,hf3,hne⟩:=HO.o;have hE:=HE.o;have CS := Gc (aR ⟨h0,0,aS⟩) (aR ⟨h1,0,aS⟩) (aR ⟨h2,0,aS⟩) (aR ⟨h3,0,aS⟩) (aR ⟨p0,0,aS⟩) (aR ⟨p1,0,aS⟩) (aR ⟨p2,0,aS⟩) (aR ⟨p3,0,aS⟩) (aR ⟨gd,0,aS⟩) k0 k1 k2 k3 c0 c1 c2 c3 cd _ _ _ _ _ _ _ _ Dl w6 (λe he=>by
                                                                                        simp only[List.mem_cons,List.not_mem_nil,or_false] at he
                                                                                        rcases he with rfl|rfl|rfl|rfl|rfl|rfl|rfl|rfl|rfl
                                                                                        {exact hf0};{exact hf1};{exact hf2};{exact hf3};{exact(HF0.o.below hE.below)};{exact(HF1.o.below hE.below)};{exact(HF2.o.below hE.below)};{exact(HF3.o.below hE.below)}
                                                                                        · exact(HFD.o.below hE.below))
     have HPO:=CY <| hp
     have HPB:=CY <| hE.pb
     go_wp2_with (first
      |(refine AZ rfl 79 (ah 7) rfl G rfl 79 _ (0,0) _ HPO.o underlying79 rfl Tryz.sizePt ?_)
      |(refine AZ rfl 79 (ah 4) rfl w.heap.size rfl 79 _ (0,0) _ HPB.o underlying79 rfl Tryz.sizePt ?_)
      |fail)
     refine CS.mono ?_;intro e w8 h8;have h8b:Below w6.heap.size w6 w8:=by obtain⟨_,_,_,_,_,_,_,_,_,_,_,_,_,b,_⟩:=h8;exact b
     have h8e:∃ v,e=aQ v:=by obtain⟨_,_,_,_,_,_,_,_,r,_⟩:=h8;exact⟨_,r⟩
     obtain⟨v8,rfl⟩:=h8e;have hput:=λw9=>Fd.put (B:=w.heap.size+1) (w6:=w9) (P:=F4 Q Q) (Q:=P) HPO.o.lt HE.o.gt h8
     obtain⟨s0,s1,s2,s3,rfl,hone,_⟩:=hput w8;have HPT:AO (∀ w9,EM w9 G #[s0,s1,s2,s3]->Wr G w8 w9->Fd (w.heap.size+1) w9 G (F4 (F4 Q Q) P)):=λw9 hp hw=>by
      obtain⟨q0,q1,q2,q3,e,_,k⟩:=hput w9;cases e;exact k hp hw
     have HON:=CY <| hone
     have HP8:=CY <| HPO.o.below h8b HPO.o.lt
     have HE8:=CY <| HE.o.call h8b
     go_wp2_with (first
      |(refine Cc rfl (ah 7) (ah 40) rfl G s0 s1 s2 s3 _ HON.o.1 HON.o.2.1 HON.o.2.2.1 HON.o.2.2.2 rfl rfl rfl HP8.o ?_)
      |fail)
     intro w9 hp9 hw9;have HO9:=CY <| HPT.o w9 hp9 hw9
     have HE9:=CY <| HE8.o.wr hw9
     go_wp2;go_roundw
     case rel=>exact⟨i,AJ,by go_num,by rw[HN.o],HE9.o,by rw[HN.o];exact HO9.o⟩
     case measure=>simp[intOf]
  ·have hj00:j=0:=AJ
   subst hj00;obtain⟨h0,k0,h1,k1,h2,k2,h3,k3,hp,hf0,hf1,hf2,hf3,hne⟩:=hO;have HNE:AO (h0≠w.heap.size+1/\h1≠w.heap.size+1/\h2≠w.heap.size+1/\h3≠w.heap.size+1):=by obtain⟨_,q1,q2,q3,q4⟩:=hne;exact⟨AJ,AJ,AJ,AJ⟩
   have HPO:=CY <| hp
   have HRS:=CY <| hE.rs
   have HFF:AO (Cy wr (aR ⟨h0,0,aS⟩) (M 256).1.1/\Cy wr (aR ⟨h1,0,aS⟩) (M 256).1.2.1/\Cy wr (aR ⟨h2,0,aS⟩) (M 256).1.2.2.1/\Cy wr (aR ⟨h3,0,aS⟩) (M 256).1.2.2.2/\Below w.heap.size w wr):=⟨hf0,hf1,hf2,hf3,hE.below⟩
   go_wp2_with (first
    |(refine AZ rfl 79 (ah 7) rfl G rfl 79 _ (0,0) _ HPO.o underlying79 rfl Tryz.sizePt ?_)
    |(refine Cc rfl (ah 6) (ah 41) rfl (w.heap.size+1) _ _ _ _ _ rfl rfl rfl rfl rfl rfl rfl HRS.o ?_)
    |fail)
   intro w7 hp7 hw7;have HP7:AO (EM w7 (w.heap.size+1) #[aM (aR ⟨h0,0,aS⟩) 16 k0,aM (aR ⟨h1,0,aS⟩) 16 k1,aM (aR ⟨h2,0,aS⟩) 16 k2,aM (aR ⟨h3,0,aS⟩) 16 k3]):=hp7;have HF7:AO (Qr w (M 256).1 (aQ (af #[aM (aR ⟨h0,0,aS⟩) 16 k0,aM (aR ⟨h1,0,aS⟩) 16 k1,aM (aR ⟨h2,0,aS⟩) 16 k2,aM (aR ⟨h3,0,aS⟩) 16 k3])) w7):=by
    obtain⟨q1,q2,q3,q4,q5⟩:=HFF.o;exact⟨h0,k0,h1,k1,h2,k2,h3,k3,rfl,q1.wr hw7 HNE.o.1,q2.wr hw7 HNE.o.2.1,q3.wr hw7 HNE.o.2.2.1,q4.wr hw7 HNE.o.2.2.2,q5.trans (hw7.below AJ)⟩
   go_wp2;exact AU (v:=af #[aM (aR ⟨h0,0,aS⟩) 16 k0,aM (aR ⟨h1,0,aS⟩) 16 k1,aM (aR ⟨h2,0,aS⟩) 16 k2,aM (aR ⟨h3,0,aS⟩) 16 k3]) (AY rfl _ _ (w.heap.size+1) 79 _ (0,0) _ rfl HP7.o underlying79 rfl Tryz.sizePt) rfl HF7.o
theorem KM (kp:Option Addr) (kc:Nat) (ks:List Int) (p0 p1 p2 p3 gd c0 c1 c2 c3 cd:Nat) (P:Q4) (w:aV) (hk:ks.length=32) (hb:Cb ks) (ha:At aP w kp ks)
  (h0:Cy w (aR ⟨p0,0,aS⟩) P.1) (h1:Cy w (aR ⟨p1,0,aS⟩) P.2.1) (h2:Cy w (aR ⟨p2,0,aS⟩) P.2.2.1) (h3:Cy w (aR ⟨p3,0,aS⟩) P.2.2.2) (hd:Cy w (aR ⟨gd,0,aS⟩) Dl) :
  Calls tP 36 #[aM kp 32 kc,af #[aM (aR ⟨p0,0,aS⟩) 16 c0,aM (aR ⟨p1,0,aS⟩) 16 c1,aM (aR ⟨p2,0,aS⟩) 16 c2,aM (aR ⟨p3,0,aS⟩) 16 c3],aM (aR ⟨gd,0,aS⟩) 16 cd] w (Qr w (mS (val 256 ks) P 256).1):=
 OR (mS (val 256 ks) P) kp kc ks p0 p1 p2 p3 gd c0 c1 c2 c3 cd P w hk hb ha h0 h1 h2 h3 hd rfl (λn Q b h=>by simp only[mS,h])
theorem M5 (M:Nat->Q4×Bool) (kp:Option Addr) (kc:Nat) (ks:List Int) (p0 p1 p2 p3 gd c0 c1 c2 c3 cd:Nat) (P:Q4) (w:aV) (hk:ks.length=2) (hb:Cb ks) (ha:At aP w kp ks)
  (h0:Cy w (aR ⟨p0,0,aS⟩) P.1) (h1:Cy w (aR ⟨p1,0,aS⟩) P.2.1) (h2:Cy w (aR ⟨p2,0,aS⟩) P.2.2.1) (h3:Cy w (aR ⟨p3,0,aS⟩) P.2.2.2) (hd:Cy w (aR ⟨gd,0,aS⟩) Dl) (hM0:AO (M 0=(NV,false)))
  (hMs:AO (∀ n Q b,M n=(Q,b)->M (n+1)=bif E5 (val 256 ks) (15-n) then(F4 (bif b then F4 Q Q else Q) P,true) else(bif b then F4 Q Q else Q,b))) :
  Calls tP 36 #[aM kp 2 kc,af #[aM (aR ⟨p0,0,aS⟩) 16 c0,aM (aR ⟨p1,0,aS⟩) 16 c1,aM (aR ⟨p2,0,aS⟩) 16 c2,aM (aR ⟨p3,0,aS⟩) 16 c3],aM (aR ⟨gd,0,aS⟩) 16 cd] w (Qr w (M 16).1):=by
 have bb:Below w.heap.size w ((w.alloc (aa #[aM (aR ⟨p0,0,aS⟩) 16 c0,aM (aR ⟨p1,0,aS⟩) 16 c1,aM (aR ⟨p2,0,aS⟩) 16 c2,aM (aR ⟨p3,0,aS⟩) 16 c3] 79)).alloc (aa CO 79)):=(Cf.alloc Ch _).alloc AL _;have HP0:AO (EM ((w.alloc (aa #[aM (aR ⟨p0,0,aS⟩) 16 c0,aM (aR ⟨p1,0,aS⟩) 16 c1,aM (aR ⟨p2,0,aS⟩) 16 c2,aM (aR ⟨p3,0,aS⟩) 16 c3] 79)).alloc (aa CO 79)) w.heap.size #[aM (aR ⟨p0,0,aS⟩) 16 c0,aM (aR ⟨p1,0,aS⟩) 16 c1,aM (aR ⟨p2,0,aS⟩) 16 c2,aM (aR ⟨p3,0,aS⟩) 16 c3]):=by
  show _=_
  rw[BD _ _ w.heap.size AL];exact AS w _
 have HZ0:AO (EM ((w.alloc (aa #[aM (aR ⟨p0,0,aS⟩) 16 c0,aM (aR ⟨p1,0,aS⟩) 16 c1,aM (aR ⟨p2,0,aS⟩) 16 c2,aM (aR ⟨p3,0,aS⟩) 16 c3] 79)).alloc (aa CO 79)) (w.heap.size+1) CO):=by
  show _=_
  have:=AS (w.alloc (aa #[aM (aR ⟨p0,0,aS⟩) 16 c0,aM (aR ⟨p1,0,aS⟩) 16 c1,aM (aR ⟨p2,0,aS⟩) 16 c2,aM (aR ⟨p3,0,aS⟩) 16 c3] 79)) (aa CO 79);simpa using this
 have HB0:=CY <| bb
 have HF0:=CY <| h0
 have HF1:=CY <| h1
 have HF2:=CY <| h2
 have HF3:=CY <| h3
 have HFD:=CY <| hd
 obtain⟨kb,ko,rfl,hkb,hkc⟩:=ha.get AJ;have HKB:=CY <| hkb
 have HKC:AO (∀ q,q<2->w.cell? ⟨kb,ko+q,aS⟩=aR (aO aP (ks.getD q 0))):=λq hq=>hkc q AJ
 have HBY:=CY <| hb
 have HKL:=CY <| hk
 go_enter func36,ntmps36;go_wp2_with fail;generalize ((w.alloc (aa #[aM (aR ⟨p0,0,aS⟩) 16 c0,aM (aR ⟨p1,0,aS⟩) 16 c1,aM (aR ⟨p2,0,aS⟩) 16 c2,aM (aR ⟨p3,0,aS⟩) 16 c3] 79)).alloc (aa CO 79))=w0 at *;refine(DA 0 _ AK AK).mono ?_;rintro e w1 ⟨g1,k1,rfl,hr1,_,hf,hb⟩;have hg1:w.heap.size+1<g1:=AG HZ0.o.lt
 have HX:=CY <| hf
 have b1:=HB0.o.trans (hb.mono HB0.o.size);have HP1:=CY <| HP0.o.below hb HP0.o.lt
 have HZ1:=CY <| HZ0.o.below hb HZ0.o.lt
 have HB1:=CY <| b1
 go_wp2_with fail;refine(DA 1 _ AK AK).mono ?_;rintro e w2 ⟨g2,k2,rfl,hr2,_,hf,hb⟩;have hg2:w.heap.size+1<g2:=AG HZ1.o.lt
 have HX2:=CY <| HX.o.below hb
 have HY2:=CY <| hf
 have HP2:=CY <| HP1.o.below hb HP1.o.lt
 have HZ2:=CY <| HZ1.o.below hb HZ1.o.lt
 have HB2:=CY <| HB1.o.trans (hb.mono HB1.o.size)
 go_wp2_with fail;refine(E0 (aR ⟨g1,0,aS⟩) (aR ⟨g2,0,aS⟩) k1 k2 _ _ _ HX2.o HY2.o).mono ?_;rintro e w3 ⟨gz,cz,gt,ct,rfl,f3,f4,hb,hr3,hr4⟩;have hgz:w.heap.size+1<gz:=AG HZ2.o.lt
 have hgt:w.heap.size+1<gt:=AG HZ2.o.lt
 have HX3:AO (Cy w3 (aR ⟨g1,0,aS⟩) (0%fp)/\Cy w3 (aR ⟨g2,0,aS⟩) (1%fp)/\Cy w3 (aR ⟨gz,0,aS⟩) (1%fp)/\Cy w3 (aR ⟨gt,0,aS⟩) (0%fp*(1%fp)%fp)):=⟨HX2.o.below hb,HY2.o.below hb,f3,f4⟩
 have HP3:=CY <| HP2.o.below hb HP2.o.lt
 have HZ3:=CY <| HZ2.o.below hb HZ2.o.lt
 have HB3:=CY <| HB2.o.trans (hb.mono HB2.o.size)
 have HPN:=CY <| EM.new w3
 go_wp2_with (first
  |(refine Cc rfl (ah 7) (ah 12) rfl w3.heap.size _ _ _ _ _ rfl rfl rfl rfl rfl rfl rfl HPN.o ?_)
  |fail)
 intro w4 hp4 hw4;have b34:=(Ce _ _).trans (hw4.below Ch);have HE:AO (Tw w #[aM (aR ⟨p0,0,aS⟩) 16 c0,aM (aR ⟨p1,0,aS⟩) 16 c1,aM (aR ⟨p2,0,aS⟩) 16 c2,aM (aR ⟨p3,0,aS⟩) 16 c3] w3.heap.size w4):=⟨HB3.o.trans (b34.mono HB3.o.size),HP3.o.below b34 HP3.o.lt,HZ3.o.below b34 HZ3.o.lt,HZ3.o.lt⟩
 have HO:AO (Fd (w.heap.size+1) w4 w3.heap.size (M 0).1):=by
  show Fd _ _ _ _
  rw[hM0.o];obtain⟨q1,q2,q3,q4⟩:=HX3.o;refine⟨g1,k1,g2,k2,gz,cz,gt,ct,hp4,?_,?_,?_,?_,⟨?_,?_,?_,?_⟩,hg1,hg2,hgz,hgt⟩
  {exact q1.below b34};{exact q2.below b34};{exact q3.below b34};{exact q4.below b34};{have:=q1.lt;omega};{have:=q2.lt;omega};{have:=q3.lt;omega};{have:=q4.lt;omega}
 generalize w3.heap.size=G at *;go_wp2_with fail
 go_loopw [8,9] (λb i wr=>∃ j:Nat,j<=16/\i=aO aZ ((j:Int)-1)/\b=ae (M (16-j)).2/\Tw w #[aM (aR ⟨p0,0,aS⟩) 16 c0,aM (aR ⟨p1,0,aS⟩) 16 c1,aM (aR ⟨p2,0,aS⟩) 16 c2,aM (aR ⟨p3,0,aS⟩) 16 c3] G wr/\Fd (w.heap.size+1) wr G (M (16-j)).1) (λ_ i _=>(intOf i+1).toNat)
 case atStart=>exact⟨16,Aa _,by go_num,by rw[Nat.sub_self,hM0.o],HE.o,by rw[Nat.sub_self];exact HO.o⟩
 case round=>
  obtain⟨j,hj,rfl,rfl,hE,hO⟩:=hrel;by_cases hj0:0<j
  ·obtain⟨i,rfl⟩:∃ i,j=i+1:=⟨j-1,AJ⟩
   have ei:((i+1:Nat):Int)-1=(i:Int):=AJ
   rw[ei];have en:16-i=16-(i+1)+1:=AJ
   have en2:15-(16-(i+1))=i:=AJ
   have hi8:i<16:=AJ
   generalize hM:M (16-(i+1))=mq at *;obtain⟨Q,bg⟩:=mq;simp only at hO |-;cases bg with
   |false=>
    have hge:¬ ((i:Int)<0):=AJ
    have cK:wr.cell? ⟨kb,ko+i/8,aS⟩=aR (aO aP (ks.getD (i/8) 0)):=by rw[hE.below.cell (p:=⟨kb,ko+i/8,aS⟩) HKB.o];exact HKC.o (i/8) AJ
    have hx:=HBY.o.get (i/8);have HBIT:=CY <| It ks HBY.o i
    have hlt:(i:Int)/8<2:=AJ
    have HE:=CY <| hE
    have HO:AO (Fd (w.heap.size+1) wr G (Q)):=hO;generalize ks.getD (i/8) 0=x at *;obtain⟨hx0,hx1⟩:=hx;have hv:(val 256 ks)/2^i%2=0\/(val 256 ks)/2^i%2=1:=AJ
    have hpp:(0:Int)<2^(i%8):=Int.pow_pos AK;have hy0:0<=x/2^(i%8):=Int.ediv_nonneg hx0 AJ;have hy1:x/2^(i%8)<=x:=Int.ediv_le_self _ hx0;rcases hv with hv|hv
    ·have hvb:E5 (val 256 ks) i=false:=by unfold E5;rw[hv];rfl
     have hb0:x/2^(i%8)%2=0:=by rw[HBIT.o,hv]
     have HN:AO ((M (16-i))=(Q,false)):=by
      show _=_
      rw[en,hMs.o _ _ _ hM,en2,hvb];rfl
     have ht:(x/2^(i%8)).tmod 2=0:=by rw[Ah hy0,hb0]
     go_wp2;go_roundw
     case rel=>exact⟨i,AJ,by go_num,by rw[HN.o],HE.o,by rw[HN.o];exact HO.o⟩
     case measure=>simp[intOf]
    ·have hvb:E5 (val 256 ks) i=true:=by unfold E5;rw[hv];rfl
     have hb0:x/2^(i%8)%2=1:=by rw[HBIT.o,hv]
     have HN:AO ((M (16-i))=(F4 (Q) P,true)):=by
      show _=_
      rw[en,hMs.o _ _ _ hM,en2,hvb];rfl
     have ht:(x/2^(i%8)).tmod 2=1:=by rw[Ah hy0,hb0]
     obtain⟨h0,k0,h1,k1,h2,k2,h3,k3,hp,hf0,hf1,hf2,hf3,hne⟩:=HO.o;have hE:=HE.o;have CS := Gc (aR ⟨h0,0,aS⟩) (aR ⟨h1,0,aS⟩) (aR ⟨h2,0,aS⟩) (aR ⟨h3,0,aS⟩) (aR ⟨p0,0,aS⟩) (aR ⟨p1,0,aS⟩) (aR ⟨p2,0,aS⟩) (aR ⟨p3,0,aS⟩) (aR ⟨gd,0,aS⟩) k0 k1 k2 k3 c0 c1 c2 c3 cd _ _ _ _ _ _ _ _ Dl wr (λe he=>by
                                                                                        simp only[List.mem_cons,List.not_mem_nil,or_false] at he
                                                                                        rcases he with rfl|rfl|rfl|rfl|rfl|rfl|rfl|rfl|rfl
                                                                                        {exact hf0};{exact hf1};{exact hf2};{exact hf3};{exact(HF0.o.below hE.below)};{exact(HF1.o.below hE.below)};{exact(HF2.o.below hE.below)};{exact(HF3.o.below hE.below)}
                                                                                        · exact(HFD.o.below hE.below))
     have HPO:=CY <| hp
     have HPB:=CY <| hE.pb
     go_wp2_with (first
      |(refine AZ rfl 79 (ah 7) rfl G rfl 79 _ (0,0) _ HPO.o underlying79 rfl Tryz.sizePt ?_)
      |(refine AZ rfl 79 (ah 4) rfl w.heap.size rfl 79 _ (0,0) _ HPB.o underlying79 rfl Tryz.sizePt ?_)
      |fail)
     refine CS.mono ?_;intro e w8 h8;have h8b:Below wr.heap.size wr w8:=by obtain⟨_,_,_,_,_,_,_,_,_,_,_,_,_,b,_⟩:=h8;exact b
     have h8e:∃ v,e=aQ v:=by obtain⟨_,_,_,_,_,_,_,_,r,_⟩:=h8;exact⟨_,r⟩
     obtain⟨v8,rfl⟩:=h8e;have hput:=λw9=>Fd.put (B:=w.heap.size+1) (w6:=w9) (P:=Q) (Q:=P) HPO.o.lt HE.o.gt h8
     obtain⟨s0,s1,s2,s3,rfl,hone,_⟩:=hput w8;have HPT:AO (∀ w9,EM w9 G #[s0,s1,s2,s3]->Wr G w8 w9->Fd (w.heap.size+1) w9 G (F4 (Q) P)):=λw9 hp hw=>by
      obtain⟨q0,q1,q2,q3,e,_,k⟩:=hput w9;cases e;exact k hp hw
     have HON:=CY <| hone
     have HP8:=CY <| HPO.o.below h8b HPO.o.lt
     have HE8:=CY <| HE.o.call h8b
     go_wp2_with (first
      |(refine Cc rfl (ah 7) (ah 40) rfl G s0 s1 s2 s3 _ HON.o.1 HON.o.2.1 HON.o.2.2.1 HON.o.2.2.2 rfl rfl rfl HP8.o ?_)
      |fail)
     intro w9 hp9 hw9;have HO9:=CY <| HPT.o w9 hp9 hw9
     have HE9:=CY <| HE8.o.wr hw9
     go_wp2;go_roundw
     case rel=>exact⟨i,AJ,by go_num,by rw[HN.o],HE9.o,by rw[HN.o];exact HO9.o⟩
     case measure=>simp[intOf]
   |true=>
    obtain⟨h0,k0,h1,k1,h2,k2,h3,k3,hp,hf0,hf1,hf2,hf3,hne⟩:=hO;have CS:=Gc (aR ⟨h0,0,aS⟩) (aR ⟨h1,0,aS⟩) (aR ⟨h2,0,aS⟩) (aR ⟨h3,0,aS⟩) (aR ⟨h0,0,aS⟩) (aR ⟨h1,0,aS⟩) (aR ⟨h2,0,aS⟩) (aR ⟨h3,0,aS⟩) (aR ⟨gd,0,aS⟩) k0 k1 k2 k3 k0 k1 k2 k3 cd _ _ _ _ _ _ _ _ Dl wr (λe he=>by
     simp only[List.mem_cons,List.not_mem_nil,or_false] at he;rcases he with rfl|rfl|rfl|rfl|rfl|rfl|rfl|rfl|rfl
     {exact hf0};{exact hf1};{exact hf2};{exact hf3};{exact hf0};{exact hf1};{exact hf2};{exact hf3}
     ·exact(HFD.o.below hE.below))
    have HPO:=CY <| hp
    have HE:=CY <| hE
    go_wp2_with (first
     |(refine AZ rfl 79 (ah 7) rfl G rfl 79 _ (0,0) _ HPO.o underlying79 rfl Tryz.sizePt ?_)
     |fail)
    refine CS.mono ?_;intro e w5 h5;have h5b:Below wr.heap.size wr w5:=by obtain⟨_,_,_,_,_,_,_,_,_,_,_,_,_,b,_⟩:=h5;exact b
    have h5e:∃ v,e=aQ v:=by obtain⟨_,_,_,_,_,_,_,_,r,_⟩:=h5;exact⟨_,r⟩
    obtain⟨v5,rfl⟩:=h5e;have hput:=λw9=>Fd.put (B:=w.heap.size+1) (w6:=w9) (P:=Q) (Q:=Q) HPO.o.lt HE.o.gt h5
    obtain⟨s0,s1,s2,s3,rfl,hone,_⟩:=hput w5;have HPT:AO (∀ w9,EM w9 G #[s0,s1,s2,s3]->Wr G w5 w9->Fd (w.heap.size+1) w9 G (F4 Q Q)):=λw9 hp hw=>by
     obtain⟨q0,q1,q2,q3,e,_,k⟩:=hput w9;cases e;exact k hp hw
    have HON:=CY <| hone
    have HP5:=CY <| HPO.o.below h5b HPO.o.lt
    have HE5:=CY <| HE.o.call h5b
    go_wp2_with (first
     |(refine Cc rfl (ah 7) (ah 25) rfl G s0 s1 s2 s3 _ HON.o.1 HON.o.2.1 HON.o.2.2.1 HON.o.2.2.2 rfl rfl rfl HP5.o ?_)
     |fail)
    intro w6 hp6 hw6;have hO:=HPT.o w6 hp6 hw6;have hE:=HE5.o.wr hw6;have cK:w6.cell? ⟨kb,ko+i/8,aS⟩=aR (aO aP (ks.getD (i/8) 0)):=by rw[hE.below.cell (p:=⟨kb,ko+i/8,aS⟩) HKB.o];exact HKC.o (i/8) AJ
    have hx:=HBY.o.get (i/8);have HBIT:=CY <| It ks HBY.o i
    have hlt:(i:Int)/8<2:=AJ
    have HE:=CY <| hE
    have HO:AO (Fd (w.heap.size+1) w6 G (F4 Q Q)):=hO;generalize ks.getD (i/8) 0=x at *;obtain⟨hx0,hx1⟩:=hx;have hv:(val 256 ks)/2^i%2=0\/(val 256 ks)/2^i%2=1:=AJ
    have hpp:(0:Int)<2^(i%8):=Int.pow_pos AK;have hy0:0<=x/2^(i%8):=Int.ediv_nonneg hx0 AJ;have hy1:x/2^(i%8)<=x:=Int.ediv_le_self _ hx0;rcases hv with hv|hv
    ·have hvb:E5 (val 256 ks) i=false:=by unfold E5;rw[hv];rfl
     have hb0:x/2^(i%8)%2=0:=by rw[HBIT.o,hv]
     have HN:AO ((M (16-i))=(F4 Q Q,true)):=by
      show _=_
      rw[en,hMs.o _ _ _ hM,en2,hvb];rfl
     have ht:(x/2^(i%8)).tmod 2=0:=by rw[Ah hy0,hb0]
     go_wp2;go_roundw
     case rel=>exact⟨i,AJ,by go_num,by rw[HN.o],HE.o,by rw[HN.o];exact HO.o⟩
     case measure=>simp[intOf]
    ·have hvb:E5 (val 256 ks) i=true:=by unfold E5;rw[hv];rfl
     have hb0:x/2^(i%8)%2=1:=by rw[HBIT.o,hv]
     have HN:AO ((M (16-i))=(F4 (F4 Q Q) P,true)):=by
      show _=_
      rw[en,hMs.o _ _ _ hM,en2,hvb];rfl
     have ht:(x/2^(i%8)).tmod 2=1:=by rw[Ah hy0,hb0]
     obtain⟨h0,k0,h1,k1,h2,k2,h3,k3,hp,hf0,hf1,hf2,hf3,hne⟩:=HO.o;have hE:=HE.o;have CS := Gc (aR ⟨h0,0,aS⟩) (aR ⟨h1,0,aS⟩) (aR ⟨h2,0,aS⟩) (aR ⟨h3,0,aS⟩) (aR ⟨p0,0,aS⟩) (aR ⟨p1,0,aS⟩) (aR ⟨p2,0,aS⟩) (aR ⟨p3,0,aS⟩) (aR ⟨gd,0,aS⟩) k0 k1 k2 k3 c0 c1 c2 c3 cd _ _ _ _ _ _ _ _ Dl w6 (λe he=>by
                                                                                        simp only[List.mem_cons,List.not_mem_nil,or_false] at he
                                                                                        rcases he with rfl|rfl|rfl|rfl|rfl|rfl|rfl|rfl|rfl
                                                                                        {exact hf0};{exact hf1};{exact hf2};{exact hf3};{exact(HF0.o.below hE.below)};{exact(HF1.o.below hE.below)};{exact(HF2.o.below hE.below)};{exact(HF3.o.below hE.below)}
                                                                                        · exact(HFD.o.below hE.below))
     have HPO:=CY <| hp
     have HPB:=CY <| hE.pb
     go_wp2_with (first
      |(refine AZ rfl 79 (ah 7) rfl G rfl 79 _ (0,0) _ HPO.o underlying79 rfl Tryz.sizePt ?_)
      |(refine AZ rfl 79 (ah 4) rfl w.heap.size rfl 79 _ (0,0) _ HPB.o underlying79 rfl Tryz.sizePt ?_)
      |fail)
     refine CS.mono ?_;intro e w8 h8;have h8b:Below w6.heap.size w6 w8:=by obtain⟨_,_,_,_,_,_,_,_,_,_,_,_,_,b,_⟩:=h8;exact b
     have h8e:∃ v,e=aQ v:=by obtain⟨_,_,_,_,_,_,_,_,r,_⟩:=h8;exact⟨_,r⟩
     obtain⟨v8,rfl⟩:=h8e;have hput:=λw9=>Fd.put (B:=w.heap.size+1) (w6:=w9) (P:=F4 Q Q) (Q:=P) HPO.o.lt HE.o.gt h8
     obtain⟨s0,s1,s2,s3,rfl,hone,_⟩:=hput w8;have HPT:AO (∀ w9,EM w9 G #[s0,s1,s2,s3]->Wr G w8 w9->Fd (w.heap.size+1) w9 G (F4 (F4 Q Q) P)):=λw9 hp hw=>by
      obtain⟨q0,q1,q2,q3,e,_,k⟩:=hput w9;cases e;exact k hp hw
     have HON:=CY <| hone
     have HP8:=CY <| HPO.o.below h8b HPO.o.lt
     have HE8:=CY <| HE.o.call h8b
     go_wp2_with (first
      |(refine Cc rfl (ah 7) (ah 40) rfl G s0 s1 s2 s3 _ HON.o.1 HON.o.2.1 HON.o.2.2.1 HON.o.2.2.2 rfl rfl rfl HP8.o ?_)
      |fail)
     intro w9 hp9 hw9;have HO9:=CY <| HPT.o w9 hp9 hw9
     have HE9:=CY <| HE8.o.wr hw9
     go_wp2;go_roundw
     case rel=>exact⟨i,AJ,by go_num,by rw[HN.o],HE9.o,by rw[HN.o];exact HO9.o⟩
     case measure=>simp[intOf]
  ·have hj00:j=0:=AJ
   subst hj00;obtain⟨h0,k0,h1,k1,h2,k2,h3,k3,hp,hf0,hf1,hf2,hf3,hne⟩:=hO;have HNE:AO (h0≠w.heap.size+1/\h1≠w.heap.size+1/\h2≠w.heap.size+1/\h3≠w.heap.size+1):=by obtain⟨_,q1,q2,q3,q4⟩:=hne;exact⟨AJ,AJ,AJ,AJ⟩
   have HPO:=CY <| hp
   have HRS:=CY <| hE.rs
   have HFF:AO (Cy wr (aR ⟨h0,0,aS⟩) (M 16).1.1/\Cy wr (aR ⟨h1,0,aS⟩) (M 16).1.2.1/\Cy wr (aR ⟨h2,0,aS⟩) (M 16).1.2.2.1/\Cy wr (aR ⟨h3,0,aS⟩) (M 16).1.2.2.2/\Below w.heap.size w wr):=⟨hf0,hf1,hf2,hf3,hE.below⟩
   go_wp2_with (first
    |(refine AZ rfl 79 (ah 7) rfl G rfl 79 _ (0,0) _ HPO.o underlying79 rfl Tryz.sizePt ?_)
    |(refine Cc rfl (ah 6) (ah 41) rfl (w.heap.size+1) _ _ _ _ _ rfl rfl rfl rfl rfl rfl rfl HRS.o ?_)
    |fail)
   intro w7 hp7 hw7;have HP7:AO (EM w7 (w.heap.size+1) #[aM (aR ⟨h0,0,aS⟩) 16 k0,aM (aR ⟨h1,0,aS⟩) 16 k1,aM (aR ⟨h2,0,aS⟩) 16 k2,aM (aR ⟨h3,0,aS⟩) 16 k3]):=hp7;have HF7:AO (Qr w (M 16).1 (aQ (af #[aM (aR ⟨h0,0,aS⟩) 16 k0,aM (aR ⟨h1,0,aS⟩) 16 k1,aM (aR ⟨h2,0,aS⟩) 16 k2,aM (aR ⟨h3,0,aS⟩) 16 k3])) w7):=by
    obtain⟨q1,q2,q3,q4,q5⟩:=HFF.o;exact⟨h0,k0,h1,k1,h2,k2,h3,k3,rfl,q1.wr hw7 HNE.o.1,q2.wr hw7 HNE.o.2.1,q3.wr hw7 HNE.o.2.2.1,q4.wr hw7 HNE.o.2.2.2,q5.trans (hw7.below AJ)⟩
   go_wp2;exact AU (v:=af #[aM (aR ⟨h0,0,aS⟩) 16 k0,aM (aR ⟨h1,0,aS⟩) 16 k1,aM (aR ⟨h2,0,aS⟩) 16 k2,aM (aR ⟨h3,0,aS⟩) 16 k3]) (AY rfl _ _ (w.heap.size+1) 79 _ (0,0) _ rfl HP7.o underlying79 rfl Tryz.sizePt) rfl HF7.o
def Q7 (V:Int) (P:Q4):Nat->Q4×Bool
 |0=>(NV,false)
 |n+1=>bif E5 V (15-n) then(F4 (bif (Q7 V P n).2 then F4 (Q7 V P n).1 (Q7 V P n).1 else(Q7 V P n).1) P,true) else(bif (Q7 V P n).2 then F4 (Q7 V P n).1 (Q7 V P n).1 else(Q7 V P n).1,(Q7 V P n).2)
theorem M6 (kp:Option Addr) (kc:Nat) (ks:List Int) (p0 p1 p2 p3 gd c0 c1 c2 c3 cd:Nat) (P:Q4) (w:aV) (hk:ks.length=2) (hb:Cb ks) (ha:At aP w kp ks)
  (h0:Cy w (aR ⟨p0,0,aS⟩) P.1) (h1:Cy w (aR ⟨p1,0,aS⟩) P.2.1) (h2:Cy w (aR ⟨p2,0,aS⟩) P.2.2.1) (h3:Cy w (aR ⟨p3,0,aS⟩) P.2.2.2) (hd:Cy w (aR ⟨gd,0,aS⟩) Dl) :
  Calls tP 36 #[aM kp 2 kc,af #[aM (aR ⟨p0,0,aS⟩) 16 c0,aM (aR ⟨p1,0,aS⟩) 16 c1,aM (aR ⟨p2,0,aS⟩) 16 c2,aM (aR ⟨p3,0,aS⟩) 16 c3],aM (aR ⟨gd,0,aS⟩) 16 cd] w (Qr w (Q7 (val 256 ks) P 16).1):=
 M5 (Q7 (val 256 ks) P) kp kc ks p0 p1 p2 p3 gd c0 c1 c2 c3 cd P w hk hb ha h0 h1 h2 h3 hd rfl (λn Q b h=>by simp only[Q7,h])
theorem He (xs ys:List Int) (i:Nat):(xs++ys).getD i 0=if i<xs.length then xs.getD i 0 else ys.getD (i-xs.length) 0:=by
 simp only[List.getD_eq_getElem?_getD,List.getElem?_append];split<;>rfl
theorem JE (n i:Nat):(List.replicate n (0:Int)).getD i 0=0:=by
 simp only[List.getD_eq_getElem?_getD,List.getElem?_replicate];split<;>rfl
theorem Iu (xs:List Int) (i:Nat) (h:xs.length<=i):xs.getD i 0=0:=by
 rw[AX,BP h];rfl
theorem Fw (xs:List Int) (m i:Nat):(xs.drop m).getD i 0=xs.getD (m+i) 0:=by
 simp only[List.getD_eq_getElem?_getD,List.getElem?_drop]
theorem IQ (xs:List Int) (m i:Nat) (h:i<m):(xs.take m).getD i 0=xs.getD i 0:=by
 simp only[List.getD_eq_getElem?_getD,List.getElem?_take,if_pos h]
theorem Iv {xs ys:List Int} (n:Nat) (h1:xs.length=n) (h2:ys.length=n) (h:∀ i,i<n->xs.getD i 0=ys.getD i 0):xs=ys:=by
 apply List.ext_getElem AJ;intro i hi hj;have:=h i AJ;simpa[List.getD_eq_getElem?_getD,hi,hj] using this
theorem Pg (bs:List Int) (o:Nat) (v:Int) (k:Nat) (hk:o+k<=bs.length) (i:Nat) :
  (P9 bs o v k).getD i 0=if o<=i/\i<o+k then v/2^(56-8*(i-o))%256 else bs.getD i 0:=by
 induction k with
 |zero=>rw[AQ AJ];rfl
 |succ k ih=>
  have ih:=ih AJ;unfold P9;by_cases e:i=o+k
  ·rw[e,IB _ _ _ (by rw[Hl];omega),AP AJ,show o+k-o=k by omega]
  ·rw[Eh _ _ _ _ e,ih];by_cases c:o<=i/\i<o+k
   {rw[AP c,AP AJ]};{rw[AQ c,AQ AJ]}
theorem LI (zs:List Int) (i:Nat) (h:i<128):(EG zs).getD i 0=zs.getD i 0:=by
 unfold EG;rw[He];split
 ·rw[IQ _ _ _ h]
 ·next c=>rw[JE,Iu];rw[Aq] at c;omega
theorem Ph (zs:List Int) (i:Nat) (h:i<128) (hl:zs.length<128):(Jg zs).getD i 0=if i=zs.length then 128 else zs.getD i 0:=by
 unfold Jg;by_cases e:i=zs.length
 ·rw[e,IB _ _ _ (by rw[EA];exact hl),AP rfl]
 ·rw[Eh _ _ _ _ e,LI _ _ h,AQ e]
theorem M7 (bs:List Int) (n:Nat) (hl:bs.length=128) (hn:n<=2097152) (i:Nat) :
  (Hy bs n).getD i 0=if i<112 then bs.getD i 0 else if i<120 then 0 else if i<128 then(Jb (8*(n:Int))).getD (i-120) 0 else 0:=by
 unfold Hy;rw[Pg _ _ _ _ (by rw[Hl];omega),Pg _ _ _ _ AJ];have hw:IntKind.u64.wrap ((n:Int)*8)=8*(n:Int):=by rw[IntKind.wrap_u64];omega
 have h61:(n:Int)/2^61=0:=AJ
 rw[hw,h61];by_cases a:i<112
 ·rw[AQ AJ,AQ AJ,AP a]
 ·rw[AQ a];by_cases b:i<120
  ·rw[AQ AJ,AP AJ,AP b,Int.zero_ediv];rfl
  ·rw[AQ b];by_cases c:i<128
   {rw[AP AJ,AP c,Oy _ _ AJ]};{rw[AQ AJ,AQ AJ,AQ c,Iu _ _ AJ]}
theorem M8 (zs:List Int):(Ew zs).length=zs.length+1+GW zs.length+16:=by
 unfold Ew;simp[D8];omega
theorem Iw (zs:List Int) (i:Nat):(Ew zs).getD i 0=if i<zs.length then zs.getD i 0 else if i=zs.length then 128 else if i<zs.length+1+GW zs.length+8 then 0 else(Jb (8*(zs.length:Int))).getD (i-(zs.length+1+GW zs.length+8)) 0:=by
 unfold Ew;rw[He,He,He,He];simp only[List.length_append,List.length_replicate,List.length_cons,List.length_nil,JE,Nat.zero_add];by_cases a:i<zs.length
 ·rw[AP AJ,AP AJ,AP AJ,AP a,AP a]
 ·rw[AQ a,AQ a];by_cases b:i=zs.length
  ·rw[AP AJ,AP AJ,AP AJ,AP b,b,Nat.sub_self];rfl
  ·rw[AQ b];by_cases c:i<zs.length+1+GW zs.length+8
   ·rw[AP c,AP c];split
    {rw[AQ AJ]};{rfl}
   ·rw[AQ c,AQ c]
def OT (zs:List Int):Nat->List Int
 |0=>Ns
 |k+1=>EL (OT zs k) (((Ew zs).drop (128*k)).take 128)
theorem OU (zs:List Int) (k:Nat):W8 (OT zs k):=by
 cases k with
 |zero=>exact Lc
 |succ k=>exact F5 _ _
def OV (n:Nat):Nat:=(n+1+GW n+16)/128
theorem Pi (zs:List Int):(Ew zs).length=128*OV zs.length:=by
 have h:=GM zs.length;rw[M8];unfold OV;omega
theorem Ix (zs:List Int) (k:Nat) (h:k<OV zs.length):(((Ew zs).drop (128*k)).take 128).length=128:=by
 rw[Aq,BF,Pi];omega
theorem Hf (zs:List Int) (k i:Nat) (h:i<128):(((Ew zs).drop (128*k)).take 128).getD i 0=(Ew zs).getD (128*k+i) 0:=by
 rw[IQ _ _ _ h,Fw]
theorem XD (zs:List Int) (k:Nat) (h:128*k<=zs.length):OT zs k=Hz zs k:=by
 induction k with
 |zero=>rfl
 |succ k ih=>
  have hs:=GM zs.length;have hk:k<OV zs.length:=by unfold OV;omega
  show EL (OT zs k) _=EL (Hz zs k) _
  rw[ih AJ]
  congr 1
  refine Iv 128 (Ix zs k hk) (EA _) λi hi=>?_
  rw[Hf _ _ _ hi,LI _ _ hi,Fw,Iw,AP AJ]
theorem U8 (zs:List Int) (hn:zs.length<=2097152):OT zs (OV zs.length)=Ig (Hz zs (zs.length/128)) (zs.drop (128*(zs.length/128))) zs.length:=by
 obtain⟨n,hn'⟩:∃ n,n=zs.length:=⟨_,rfl⟩
 obtain⟨q,hq⟩:∃ q,q=n/128:=⟨_,rfl⟩
 rw[<-hn',<-hq];have hs:=GM n;have hdl:(zs.drop (128*q)).length=n-128*q:=by rw[BF,hn']
 have hlo:=XD zs q AJ;unfold Ig;by_cases c:n-128*q<112
 ·have e:OV n=q+1:=by unfold OV;omega
  have eT:n+1+GW n=128*q+112:=AJ
  rw[AP AJ,e];have e1:((Ew zs).drop (128*q)).take 128=Hy (Jg (zs.drop (128*q))) n:=?_
  ·show EL (OT zs q) _=_
   rw[hlo,e1]
  refine Iv 128 (Ix zs q (by rw[<-hn',e];omega)) (Ih (GY _) _) λi hi=>?_
  rw[Hf _ _ _ hi,M7 _ _ (GY _) AJ,Iw,<-hn',eT];by_cases a:i<112
  ·rw[AP a,Ph _ _ hi AJ,hdl,Fw];by_cases b:i<n-128*q
   ·rw[AP AJ,AQ AJ]
   ·rw[AQ AJ];by_cases d:i=n-128*q
    {rw[AP AJ,AP d]};{rw[AQ AJ,AP AJ,AQ d,Iu];omega}
  ·rw[AQ a,AQ AJ,AQ AJ];by_cases b:i<120
   {rw[AP b,AP AJ]};{rw[AQ b,AQ AJ,AP hi];rw[show 128*q+i-(128*q+112+8)=i-120 by omega]}
 ·have e:OV n=q+2:=by unfold OV;omega
  have eT:n+1+GW n=128*q+240:=AJ
  rw[AQ AJ,e];have e1:((Ew zs).drop (128*q)).take 128=Jg (zs.drop (128*q)):=by
   refine Iv 128 (Ix zs q (by rw[<-hn',e];omega)) (GY _) λi hi=>?_
   rw[Hf _ _ _ hi,Iw,<-hn',eT,Ph _ _ hi AJ,hdl,Fw];by_cases b:i<n-128*q
   ·rw[AP AJ,AQ AJ]
   ·rw[AQ AJ];by_cases d:i=n-128*q
    {rw[AP AJ,AP d]};{rw[AQ AJ,AP AJ,AQ d,Iu];omega}
  have e2:((Ew zs).drop (128*(q+1))).take 128=Hy (List.replicate 128 0) n:=by
   refine Iv 128 (Ix zs (q+1) (by rw[<-hn',e];omega)) (Ih AL _) λi hi=>?_
   rw[Hf _ _ _ hi,M7 _ _ AL AJ,Iw,<-hn',eT,AQ AJ,AQ AJ,JE];by_cases b:i<120
   ·rw[AP AJ];by_cases d:i<112
    {rw[AP d]};{rw[AQ d,AP b]}
   ·rw[AQ AJ,AQ AJ,AQ b,AP hi];rw[show 128*(q+1)+i-(128*q+240+8)=i-120 by omega]
  generalize Hy (List.replicate 128 0) (n:Int)=X at *;generalize Jg (zs.drop (128*q))=Y at *;have e3:OT zs (q+1)=EL (Hz zs q) Y:=by rw[<-hlo,<-e1];rfl
  rw[<-e3,<-e2];rfl
theorem VA (zs:List Int) (hn:zs.length<=2097152):Gm (OT zs (OV zs.length))=F0 zs:=by
 rw[U8 zs hn];rfl
theorem Qs {zs:List Int} (hz:Cb zs):Cb (Ew zs):=by
 intro z h;unfold Ew at h;simp only[List.mem_append,List.mem_replicate,List.mem_singleton] at h;rcases h with (((h|rfl)|⟨_,rfl⟩)|⟨_,rfl⟩)|h
 ·exact hz z h
 ·exact⟨AK,AK⟩
 ·exact⟨AK,AK⟩
 ·exact⟨AK,AK⟩
 ·exact ML _ z h
def Jp (zs:List Int):Bool:=decide (zs.length=72) && (decide (zs.getD 0 0=84) && decide (zs.getD 1 0=49))
def E6 (zs:List Int):Int:=zs.getD 2 0+256*zs.getD 3 0
def FN (zs:List Int):Int:=zs.getD 4 0+256*zs.getD 5 0+65536*zs.getD 6 0+16777216*zs.getD 7 0
def Tx (zs:List Int):aX:=bif Jp zs then af #[ae true,aO aZ (E6 zs),aO aZ (FN zs)] else af CF
theorem Hg {zs:List Int} (h:Jp zs=false):Tx zs=af CF:=by unfold Tx;rw[h];rfl
theorem Iy {zs:List Int} (h:Jp zs=true):Tx zs=af #[ae true,aO aZ (E6 zs),aO aZ (FN zs)]:=by unfold Tx;rw[h];rfl
theorem TE (zs:List Int) (k:Nat) (h:k+2<=zs.length):(zs.drop k).take 2=[zs.getD k 0,zs.getD (k+1) 0]:=by
 apply List.ext_getElem
 ·simp;omega
 ·intro i h1 h2;have:i=0\/i=1:=by simp at h2;omega
  rcases this with rfl|rfl
  {simp[List.getD,show k<zs.length by omega]};{simp[List.getD,show k+1<zs.length by omega]}
theorem Qt (zs:List Int) (k:Nat) (h:k+4<=zs.length):(zs.drop k).take 4=[zs.getD k 0,zs.getD (k+1) 0,zs.getD (k+2) 0,zs.getD (k+3) 0]:=by
 apply List.ext_getElem
 ·simp;omega
 ·intro i h1 h2;have:i=0\/i=1\/i=2\/i=3:=by simp at h2;omega
  rcases this with rfl|rfl|rfl|rfl
  {simp[List.getD,show k<zs.length by omega]};{simp[List.getD,show k+1<zs.length by omega]};{simp[List.getD,show k+2<zs.length by omega]};{simp[List.getD,show k+3<zs.length by omega]}
theorem XE {zs:List Int} (h:zs.length=72):val 256 ((zs.drop 2).take 2)=E6 zs:=by
 rw[TE zs 2 AJ];unfold E6;simp only[val,show 2+1=3 from rfl];omega
theorem XF {zs:List Int} (h:zs.length=72):val 256 ((zs.drop 4).take 4)=FN zs:=by
 rw[Qt zs 4 AJ];unfold FN;simp only[val,show 4+1=5 from rfl,show 4+2=6 from rfl,show 4+3=7 from rfl];omega
theorem At.sub {k:IntKind} {w:aV} {b off:Nat} {zs:List Int} (hb:b<w.heap.size) (h:∀ i,i<zs.length->w.cell? ⟨b,off+i,aS⟩=aR (aO k (zs.getD i 0))) (p m:Nat) (hp:p+m<=zs.length) :
  At k w (aR ⟨b,off+p,aS⟩) ((zs.drop p).take m):=by
 refine .inr ⟨b,off+p,rfl,hb,λi hi=>?_⟩;have hi':i<m:=by simp at hi;omega
 rw[A7,h (p+i) AJ];simp[List.getD,hi',show p+i<zs.length by omega]
theorem Cb.sub {zs:List Int} (h:Cb zs) (p m:Nat):Cb ((zs.drop p).take m):=λz hz=>h z (BT (Ax hz))
theorem Hh {B:Nat} {a w:aV} (h:Below B a w) (n:Nat):Below B a (w.drewN n):=⟨h.os,h.tape,h.output,h.size,h.block⟩
theorem VB (a:Option Addr) (n cap:Nat) (zs:List Int) (w:aV) (hn:zs.length=n) (hm:n<=1048576) (hcap:n<=cap) (ha:At aP w a zs) (hz:Cb zs) :
  Calls tP 91 #[aM a n cap] w λe w'=>e=aQ (Tx zs)/\Below w.heap.size w w':=by
 have HBN:AO (Below w.heap.size w (w.alloc (aa CF 86))):=Cf.alloc Ch _;have HSF:AO ((tP.info? 86).map (·.size)=aR 3):=by show _=_;kernel_rfl
 by_cases h72:n=72
 ·subst h72;obtain⟨b,off,rfl,hb,hc⟩:=ha.get AJ;have hb':b≠w.heap.size:=AJ
  have c0:(w.alloc (aa CF 86)).cell? ⟨b,off,aS⟩=aR (aO aP (zs.getD 0 0)):=by rw[World.cell?_alloc_old _ _ _ hb'];exact hc 0 AJ
  have c1:(w.alloc (aa CF 86)).cell? ⟨b,off+1,aS⟩=aR (aO aP (zs.getD 1 0)):=by rw[World.cell?_alloc_old _ _ _ hb'];exact hc 1 AJ
  have HTB:AO (Jp zs=(decide (zs.getD 0 0=84) && decide (zs.getD 1 0=49))):=by show _=_;unfold Jp;rw[hn];rfl
  by_cases h0:zs.getD 0 0=84
  ·rw[h0] at c0;by_cases h1:zs.getD 1 0=49
   ·have HV:=CY <| Iy (by rw[HTB.o,h0,h1];rfl)
    rw[h1] at c1;have AT:∀(p m:Nat) (q:Nat),p+m<=72->At aP ((w.alloc (aa CF 86)).drewN q) (aR ⟨b,off+p,aS⟩) ((zs.drop p).take m):=λp m q h=>
     At.sub (w:=(w.alloc (aa CF 86)).drewN q) (show b<((w.alloc (aa CF 86))).heap.size by simp;omega) (λi hi=>by show((w.alloc (aa CF 86))).cell? _=_;rw[World.cell?_alloc_old _ _ _ hb'];exact hc i hi) p m AJ
    have C2:AO (∀ q,Calls tP 101 #[aM (aR ⟨b,off+2,aS⟩) 2 (cap-2)] ((w.alloc (aa CF 86)).drewN q) λe w'=>e=aQ (aO aZ (E6 zs))/\w'=(w.alloc (aa CF 86)).drewN q):=λq=>by
     rw[<-XE hn];exact S9 _ 2 (cap-2) _ _ (by simp;omega) AK (AT 2 2 q AK) (hz.sub 2 2)
    have C4:AO (∀ q,Calls tP 101 #[aM (aR ⟨b,off+4,aS⟩) 4 (cap-4)] ((w.alloc (aa CF 86)).drewN q) λe w'=>e=aQ (aO aZ (FN zs))/\w'=(w.alloc (aa CF 86)).drewN q):=λq=>by
     rw[<-XF hn];exact S9 _ 4 (cap-4) _ _ (by simp;omega) AK (AT 4 4 q AK) (hz.sub 4 4)
    have x1:(4:Int)<=(cap:Int):=AJ
    have x2:(8:Int)<=(cap:Int):=AJ
    have x3:¬ cap=2:=AJ
    have x4:¬ cap=4:=AJ
    go_enter func91,ntmps91;go_wp2_with fail;refine Ag AM ?_;refine GR 7 (λw w'=>True) (frame:=(λ(a b c d e f g h i j k l m n o p q r s:aX)=>λ(t:Nat->aX)=>({ tmps:=List.toArray [a,b,c,d,e,f,g,h,i,j,k,l,m,n,o,p,q,r,s,t 0,t 1,t 2,t 3,t 4,t 5,t 6],defers:=[] }:Act)) _ _ _ _ _ _ _ _ _ _ _ _ _ _ _ _ _ _ _)
     (Ext:=λw'=>∃ q,w'=(w.alloc (aa CF 86)).drewN q) (Good:=λi _ v=>if i=0 then v=aM (aR ⟨b,off,aS⟩) 72 cap else if i=1 then v=aM (aR ⟨b,off+2,aS⟩) 2 (cap-2) else if i=2 then v=aO aZ (E6 zs) else if i=3 then v=aM (aR ⟨b,off,aS⟩) 72 cap else if i=4 then v=aM (aR ⟨b,off+4,aS⟩) 4 (cap-4) else if i=5 then v=aO aZ (FN zs) else if i=6 then v=af #[ae true,aO aZ (E6 zs),aO aZ (FN zs)] else True) AN AM (λi w w' v _ h=>h) AM AM ?hop ?hend _ _ ((λ(x0 x1 x2 x3 x4 x5 x6:aX)=>λ(i:Nat)=>if i=0 then x0 else if i=1 then x1 else if i=2 then x2 else if i=3 then x3 else if i=4 then x4 else if i=5 then x5 else if i=6 then x6 else undef) _ _ _ _ _ _ _) _ AL AL ?ext ?start AL
    case start=>intro i hi h;exact absurd h Ef
    case ext=>exact⟨1,rfl⟩
    case hop=>
     intro i o t w' hil ho hx hdep K hK;obtain⟨q,rfl⟩:=hx;obtain rfl|rfl|rfl|rfl|rfl|rfl|rfl:i=0\/i=1\/i=2\/i=3\/i=4\/i=5\/i=6:=AJ
     all_goals(simp at ho;subst ho)
     ·clear hdep;have hK':=hK ((w.alloc (aa CF 86)).drewN q) (aM (aR ⟨b,off,aS⟩) 72 cap) AL ⟨q,rfl⟩ trivial;go_simp;simpa[Ca] using hK'
     ·have d0:t 0=aM (aR ⟨b,off,aS⟩) 72 cap:=by simpa using hdep ⟨0,ag⟩ AL rfl
      have hK':=hK ((w.alloc (aa CF 86)).drewN q) (aM (aR ⟨b,off+2,aS⟩) 2 (cap-2)) AL ⟨q,rfl⟩ trivial;go_simp;simpa[Ca,d0] using hK'
     ·have d1:t 1=aM (aR ⟨b,off+2,aS⟩) 2 (cap-2):=by simpa using hdep ⟨1,ag⟩ AL rfl
      have hK':=hK ((w.alloc (aa CF 86)).drewN q) (aO aZ (E6 zs)) AL ⟨q,rfl⟩ trivial;go_simp;try simp only[d1]
      refine(C2.o q).mono ?_;rintro e w9 ⟨rfl,rfl⟩;go_simp;simpa[Ca,d1] using hK'
     ·clear hdep;have hK':=hK ((w.alloc (aa CF 86)).drewN q) (aM (aR ⟨b,off,aS⟩) 72 cap) AL ⟨q,rfl⟩ trivial;go_simp;simpa[Ca] using hK'
     ·have d3:t 3=aM (aR ⟨b,off,aS⟩) 72 cap:=by simpa using hdep ⟨3,ag⟩ AL rfl
      have hK':=hK ((w.alloc (aa CF 86)).drewN q) (aM (aR ⟨b,off+4,aS⟩) 4 (cap-4)) AL ⟨q,rfl⟩ trivial;go_simp;simpa[Ca,d3] using hK'
     ·have d4:t 4=aM (aR ⟨b,off+4,aS⟩) 4 (cap-4):=by simpa using hdep ⟨4,ag⟩ AL rfl
      have hK':=hK ((w.alloc (aa CF 86)).drewN q) (aO aZ (FN zs)) AL ⟨q,rfl⟩ trivial;go_simp;try simp only[d4]
      refine(C4.o q).mono ?_;rintro e w9 ⟨rfl,rfl⟩;go_simp;simpa[Ca,d4] using hK'
     ·have d2:t 2=aO aZ (E6 zs):=by simpa using hdep ⟨2,ag⟩ AL rfl
      have d5:t 5=aO aZ (FN zs):=by simpa using hdep ⟨5,ag⟩ AL rfl
      have hK':=hK ((w.alloc (aa CF 86)).drewN q) (af #[ae true,aO aZ (E6 zs),aO aZ (FN zs)]) AL ⟨q,rfl⟩ trivial;go_simp;simpa[Ca,d2,d5] using hK'
    case hend=>
     intro o t w' ho hx hg K hK;obtain⟨q,rfl⟩:=hx;simp at ho;subst ho;have d0:t 0=aM (aR ⟨b,off,aS⟩) 72 cap:=by simpa using hg 0 AK
     have d1:t 1=aM (aR ⟨b,off+2,aS⟩) 2 (cap-2):=by simpa using hg 1 AK
     have d2:t 2=aO aZ (E6 zs):=by simpa using hg 2 AK
     have d3:t 3=aM (aR ⟨b,off,aS⟩) 72 cap:=by simpa using hg 3 AK
     have d4:t 4=aM (aR ⟨b,off+4,aS⟩) 4 (cap-4):=by simpa using hg 4 AK
     have d5:t 5=aO aZ (FN zs):=by simpa using hg 5 AK
     have d6:t 6=af #[ae true,aO aZ (E6 zs),aO aZ (FN zs)]:=by simpa using hg 6 AK
     refine Be 86 (ah 2) (ah 25) rfl w.heap.size #[ae true,aO aZ (E6 zs),aO aZ (FN zs)] rfl d6 86 _ (show((w.alloc (aa CF 86))).heap[w.heap.size]?=_ from AS w _) HSF.o rfl (by simp[Value.oneCell']) ?_;apply hK;have HR5:AO (((((w.alloc (aa CF 86))).drewN q).setRow w.heap.size #[ae true,aO aZ (E6 zs),aO aZ (FN zs)]).heap[w.heap.size]?=aR (aa #[ae true,aO aZ (E6 zs),aO aZ (FN zs)] 86 (0,0))):=
      AB (show((w.alloc (aa CF 86))).heap[w.heap.size]?=_ from AS w _)
     have HB5:AO (Below w.heap.size w ((((w.alloc (aa CF 86))).drewN q).setRow w.heap.size #[ae true,aO aZ (E6 zs),aO aZ (FN zs)])):=
      (Hh HBN.o q).trans ((Wr.setRow _ _ _).below Ch)
     generalize (((w.alloc (aa CF 86))).drewN q).setRow w.heap.size #[ae true,aO aZ (E6 zs),aO aZ (FN zs)]=w5 at *;go_wp2_with fail;refine AU (v:=af #[ae true,aO aZ (E6 zs),aO aZ (FN zs)]) (AY rfl _ _ w.heap.size 86 _ (0,0) _ rfl HR5.o underlying86 rfl HSF.o) rfl ⟨by rw[HV.o],HB5.o⟩
   ·have HV:=CY <| Hg (by rw[HTB.o,h0];simpa using h1)
    have h1':(zs.getD 1 0 == 49)=false:=by simpa using h1
    generalize zs.getD 1 0=z1 at *;go_enter func91,ntmps91;go_wp2;refine AU (v:=af CF) (AY rfl _ _ w.heap.size 86 _ (0,0) _ rfl (AS w _) underlying86 rfl HSF.o) rfl ⟨by rw[HV.o],HBN.o⟩
  ·have HV:=CY <| Hg (by rw[HTB.o,Ac h0];rfl)
   have h0':(zs.getD 0 0 != 84)=true:=by simpa using h0
   generalize zs.getD 0 0=z0 at *;go_enter func91,ntmps91;go_wp2;refine AU (v:=af CF) (AY rfl _ _ w.heap.size 86 _ (0,0) _ rfl (AS w _) underlying86 rfl HSF.o) rfl ⟨by rw[HV.o],HBN.o⟩
 ·have HV:AO (Tx zs=af CF):=Hg (by unfold Jp;rw[Ac AJ];rfl);have h72':¬ ((n:Int)=72):=AJ
  have h73:((n:Int) != 72)=true:=by simpa using h72'
  go_enter func91,ntmps91;go_wp2;refine AU (v:=af CF) ?res rfl ?post
  case res=>exact(AY rfl _ _ w.heap.size 86 _ (0,0) _ rfl (AS w _) underlying86 rfl HSF.o)
  case post=>exact⟨by rw[HV.o],HBN.o⟩
theorem VC {zs:List Int} (hz:Cb zs):0<=FN zs/\FN zs<4294967296:=by
 have h4:=hz.get 4;have h5:=hz.get 5;have h6:=hz.get 6;have h7:=hz.get 7;unfold FN;omega
theorem TF (b off cap:Nat) (zs:List Int) (w:aV) (hc:∀ i,i<zs.length->w.cell? ⟨b,off+i,aS⟩=aR (aO aP (zs.getD i 0))) (hz:Cb zs) (hl:zs.length=72) :
  Calls tP 68 #[aM (aR ⟨b,off,aS⟩) 72 cap,aO aZ 4] w λe w'=>e=aQ (aO ai (FN zs))/\∃ q,w'=w.drewN q:=by
 have c0:=hc 4 AJ;have c1:=hc 5 AJ;have c2:=hc 6 AJ;have c3:=hc 7 AJ;have b0:=hz.get 4;have b1:=hz.get 5;have b2:=hz.get 6;have b3:=hz.get 7;have HN:AO (FN zs=zs.getD 4 0+256*zs.getD 5 0+65536*zs.getD 6 0+16777216*zs.getD 7 0):=rfl;generalize zs.getD 4 0=x0 at *;generalize zs.getD 5 0=x1 at *;generalize zs.getD 6 0=x2 at *;generalize zs.getD 7 0=x3 at *;clear hc;obtain⟨b01,b02⟩:=b0;obtain⟨b11,b12⟩:=b1;obtain⟨b21,b22⟩:=b2;obtain⟨b31,b32⟩:=b3;go_enter func68,ntmps68;go_wp2
 go_quiet (fail)
 go_wp2
 go_ret
 exact⟨FU (by rw[HN.o]),nq,rfl⟩
theorem Pj (a:Option Addr) (n cap:Nat) (zs:List Int) (w:aV) (hn:zs.length=n) (hm:n<=1048576) (hcap:n<=cap) (ha:At aP w a zs) (hz:Cb zs) :
  Calls tP 42 #[aM a n cap] w λe w'=>e=aQ (Tx zs)/\Below w.heap.size w w':=by
 have HBN:AO (Below w.heap.size w (w.alloc (aa CF 86))):=Cf.alloc Ch _;have HSF:AO ((tP.info? 86).map (·.size)=aR 3):=by show _=_;kernel_rfl
 by_cases h72:n=72
 ·subst h72;obtain⟨b,off,rfl,hb,hc⟩:=ha.get AJ;have hb':b≠w.heap.size:=AJ
  have c0:(w.alloc (aa CF 86)).cell? ⟨b,off,aS⟩=aR (aO aP (zs.getD 0 0)):=by rw[World.cell?_alloc_old _ _ _ hb'];exact hc 0 AJ
  have c1:(w.alloc (aa CF 86)).cell? ⟨b,off+1,aS⟩=aR (aO aP (zs.getD 1 0)):=by rw[World.cell?_alloc_old _ _ _ hb'];exact hc 1 AJ
  have HTB:AO (Jp zs=(decide (zs.getD 0 0=84) && decide (zs.getD 1 0=49))):=by show _=_;unfold Jp;rw[hn];rfl
  by_cases h0:zs.getD 0 0=84
  ·rw[h0] at c0;by_cases h1:zs.getD 1 0=49
   ·have HV:=CY <| Iy (by rw[HTB.o,h0,h1];rfl)
    rw[h1] at c1;have b2:=hz.get 2;have b3:=hz.get 3;have c2:((w.alloc (aa CF 86))).cell? ⟨b,off+2,aS⟩=aR (aO aP (zs.getD 2 0)):=by rw[World.cell?_alloc_old _ _ _ hb'];exact hc 2 AJ
    have c3:((w.alloc (aa CF 86))).cell? ⟨b,off+3,aS⟩=aR (aO aP (zs.getD 3 0)):=by rw[World.cell?_alloc_old _ _ _ hb'];exact hc 3 AJ
    have C4:AO (∀ q,Calls tP 68 #[aM (aR ⟨b,off,aS⟩) 72 cap,aO aZ 4] ((w.alloc (aa CF 86)).drewN q) λe w'=>e=aQ (aO ai (FN zs))/\∃ p,w'=(w.alloc (aa CF 86)).drewN p):=λq=>
     (TF b off cap zs ((w.alloc (aa CF 86)).drewN q) (λi hi=>by show((w.alloc (aa CF 86))).cell? _=_;rw[World.cell?_alloc_old _ _ _ hb'];exact hc i hi) hz hn).mono (λe w' ⟨h,p,h'⟩=>⟨h,q+p,by rw[h'];simp[World.drewN,Nat.add_assoc]⟩)
    have hE:=VC hz;have HS9:AO (zs.getD 2 0+256*zs.getD 3 0=E6 zs):=rfl;obtain⟨hE0,hE1⟩:=hE;obtain⟨b20,b21⟩:=b2;obtain⟨b30,b31⟩:=b3;generalize zs.getD 2 0=z2 at *;generalize zs.getD 3 0=z3 at *;have W1:IntKind.i64.wrap z2=z2:=by rw[Ak];omega
    have W2:IntKind.i64.wrap z3=z3:=by rw[Ak];omega
    have W3:IntKind.i64.wrap (256*z3)=256*z3:=by rw[Ak];omega
    have W4:IntKind.i64.wrap (z2+256*z3)=z2+256*z3:=by rw[Ak];omega
    have W5:IntKind.i64.wrap (FN zs)=FN zs:=by rw[Ak];omega
    go_enter func42,ntmps42;go_wp2_with fail;refine Ag AM ?_;refine GR 14 (λw w'=>True) (frame:=(λ(a b c d e f g h i j k l m n o p q r s:aX)=>λ(t:Nat->aX)=>({ tmps:=List.toArray [a,b,c,d,e,f,g,h,i,j,k,l,m,n,o,p,q,r,s,t 0,t 1,t 2,t 3,t 4,t 5,t 6,t 7,t 8,t 9,t 10,t 11,t 12,t 13],defers:=[] }:Act)) _ _ _ _ _ _ _ _ _ _ _ _ _ _ _ _ _ _ _)
     (Ext:=λw'=>∃ q,w'=(w.alloc (aa CF 86)).drewN q) (Good:=λi _ v=>if i=0 then v=aM (aR ⟨b,off,aS⟩) 72 cap else if i=1 then v=aY (aR ⟨b,off+2,aS⟩) else if i=2 then v=aO aP z2 else if i=3 then v=aO aZ z2 else if i=4 then v=aM (aR ⟨b,off,aS⟩) 72 cap else if i=5 then v=aY (aR ⟨b,off+3,aS⟩) else if i=6 then v=aO aP z3 else if i=7 then v=aO aZ z3 else if i=8 then v=aO aZ (256*z3) else if i=9 then v=aO aZ (z2+256*z3) else if i=10 then v=aM (aR ⟨b,off,aS⟩) 72 cap else if i=11 then v=aO ai (FN zs) else if i=12 then v=aO aZ (FN zs) else if i=13 then v=af #[ae true,aO aZ (z2+256*z3),aO aZ (FN zs)] else True) AN AM (λi w w' v _ h=>h) AM AM ?hop ?hend _ _ ((λ(x0 x1 x2 x3 x4 x5 x6 x7 x8 x9 x10 x11 x12 x13:aX)=>λ(i:Nat)=>if i=0 then x0 else if i=1 then x1 else if i=2 then x2 else if i=3 then x3 else if i=4 then x4 else if i=5 then x5 else if i=6 then x6 else if i=7 then x7 else if i=8 then x8 else if i=9 then x9 else if i=10 then x10 else if i=11 then x11 else if i=12 then x12 else if i=13 then x13 else undef) _ _ _ _ _ _ _ _ _ _ _ _ _ _) _ AL AL ?ext ?start AL
    case start=>intro i hi h;exact absurd h Ef
    case ext=>exact⟨1,rfl⟩
    case hop=>
     intro i o t w' hil ho hx hdep K hK;obtain⟨q,rfl⟩:=hx;obtain rfl|rfl|rfl|rfl|rfl|rfl|rfl|rfl|rfl|rfl|rfl|rfl|rfl|rfl:i=0\/i=1\/i=2\/i=3\/i=4\/i=5\/i=6\/i=7\/i=8\/i=9\/i=10\/i=11\/i=12\/i=13:=AJ
     all_goals(simp at ho;subst ho)
     ·clear hdep;have hK':=hK ((w.alloc (aa CF 86)).drewN q) (aM (aR ⟨b,off,aS⟩) 72 cap) AL ⟨q,rfl⟩ trivial;go_simp;simpa[Ca,W1,W2,W3,W4,W5] using hK'
     ·have d0:t 0=aM (aR ⟨b,off,aS⟩) 72 cap:=by simpa using hdep ⟨0,ag⟩ AL rfl
      have hK':=hK ((w.alloc (aa CF 86)).drewN q) (aY (aR ⟨b,off+2,aS⟩)) AL ⟨q,rfl⟩ trivial;go_simp;simpa[Ca,d0,W1,W2,W3,W4,W5] using hK'
     ·have d1:t 1=aY (aR ⟨b,off+2,aS⟩):=by simpa using hdep ⟨1,ag⟩ AL rfl
      have hK':=hK ((w.alloc (aa CF 86)).drewN q) (aO aP z2) AL ⟨q,rfl⟩ trivial;go_simp;simpa[Ca,d1,W1,W2,W3,W4,W5] using hK'
     ·have d2:t 2=aO aP z2:=by simpa using hdep ⟨2,ag⟩ AL rfl
      have hK':=hK ((w.alloc (aa CF 86)).drewN q) (aO aZ z2) AL ⟨q,rfl⟩ trivial;go_simp;simpa[Ca,d2,W1,W2,W3,W4,W5] using hK'
     ·clear hdep;have hK':=hK ((w.alloc (aa CF 86)).drewN q) (aM (aR ⟨b,off,aS⟩) 72 cap) AL ⟨q,rfl⟩ trivial;go_simp;simpa[Ca,W1,W2,W3,W4,W5] using hK'
     ·have d4:t 4=aM (aR ⟨b,off,aS⟩) 72 cap:=by simpa using hdep ⟨4,ag⟩ AL rfl
      have hK':=hK ((w.alloc (aa CF 86)).drewN q) (aY (aR ⟨b,off+3,aS⟩)) AL ⟨q,rfl⟩ trivial;go_simp;simpa[Ca,d4,W1,W2,W3,W4,W5] using hK'
     ·have d5:t 5=aY (aR ⟨b,off+3,aS⟩):=by simpa using hdep ⟨5,ag⟩ AL rfl
      have hK':=hK ((w.alloc (aa CF 86)).drewN q) (aO aP z3) AL ⟨q,rfl⟩ trivial;go_simp;simpa[Ca,d5,W1,W2,W3,W4,W5] using hK'
     ·have d6:t 6=aO aP z3:=by simpa using hdep ⟨6,ag⟩ AL rfl
      have hK':=hK ((w.alloc (aa CF 86)).drewN q) (aO aZ z3) AL ⟨q,rfl⟩ trivial;go_simp;simpa[Ca,d6,W1,W2,W3,W4,W5] using hK'
     ·have d7:t 7=aO aZ z3:=by simpa using hdep ⟨7,ag⟩ AL rfl
      have hK':=hK ((w.alloc (aa CF 86)).drewN q) (aO aZ (256*z3)) AL ⟨q,rfl⟩ trivial;go_simp;simpa[Ca,d7,W1,W2,W3,W4,W5] using hK'
     ·have d3:t 3=aO aZ z2:=by simpa using hdep ⟨3,ag⟩ AL rfl
      have d8:t 8=aO aZ (256*z3):=by simpa using hdep ⟨8,ag⟩ AL rfl
      have hK':=hK ((w.alloc (aa CF 86)).drewN q) (aO aZ (z2+256*z3)) AL ⟨q,rfl⟩ trivial;go_simp;simpa[Ca,d3,d8,W1,W2,W3,W4,W5] using hK'
     ·clear hdep;have hK':=hK ((w.alloc (aa CF 86)).drewN q) (aM (aR ⟨b,off,aS⟩) 72 cap) AL ⟨q,rfl⟩ trivial;go_simp;simpa[Ca,W1,W2,W3,W4,W5] using hK'
     ·have d10:t 10=aM (aR ⟨b,off,aS⟩) 72 cap:=by simpa using hdep ⟨10,ag⟩ AL rfl
      have hK':=λp=>hK ((w.alloc (aa CF 86)).drewN p) (aO ai (FN zs)) AL ⟨p,rfl⟩ trivial
      go_simp;try simp only[d10]
      refine(C4.o q).mono ?_;rintro e w9 ⟨rfl,p,rfl⟩;have hK2:=hK' p;go_simp;simpa[Ca,d10] using hK2
     ·have d11:t 11=aO ai (FN zs):=by simpa using hdep ⟨11,ag⟩ AL rfl
      have hK':=hK ((w.alloc (aa CF 86)).drewN q) (aO aZ (FN zs)) AL ⟨q,rfl⟩ trivial;go_simp;simpa[Ca,d11,W1,W2,W3,W4,W5] using hK'
     ·have d9:t 9=aO aZ (z2+256*z3):=by simpa using hdep ⟨9,ag⟩ AL rfl
      have d12:t 12=aO aZ (FN zs):=by simpa using hdep ⟨12,ag⟩ AL rfl
      have hK':=hK ((w.alloc (aa CF 86)).drewN q) (af #[ae true,aO aZ (z2+256*z3),aO aZ (FN zs)]) AL ⟨q,rfl⟩ trivial;go_simp;simpa[Ca,d9,d12,W1,W2,W3,W4,W5] using hK'
    case hend=>
     intro o t w' ho hx hg K hK;obtain⟨q,rfl⟩:=hx;simp at ho;subst ho;have d0:t 0=aM (aR ⟨b,off,aS⟩) 72 cap:=by simpa using hg 0 AK
     have d1:t 1=aY (aR ⟨b,off+2,aS⟩):=by simpa using hg 1 AK
     have d2:t 2=aO aP z2:=by simpa using hg 2 AK
     have d3:t 3=aO aZ z2:=by simpa using hg 3 AK
     have d4:t 4=aM (aR ⟨b,off,aS⟩) 72 cap:=by simpa using hg 4 AK
     have d5:t 5=aY (aR ⟨b,off+3,aS⟩):=by simpa using hg 5 AK
     have d6:t 6=aO aP z3:=by simpa using hg 6 AK
     have d7:t 7=aO aZ z3:=by simpa using hg 7 AK
     have d8:t 8=aO aZ (256*z3):=by simpa using hg 8 AK
     have d9:t 9=aO aZ (z2+256*z3):=by simpa using hg 9 AK
     have d10:t 10=aM (aR ⟨b,off,aS⟩) 72 cap:=by simpa using hg 10 AK
     have d11:t 11=aO ai (FN zs):=by simpa using hg 11 AK
     have d12:t 12=aO aZ (FN zs):=by simpa using hg 12 AK
     have d13:t 13=af #[ae true,aO aZ (z2+256*z3),aO aZ (FN zs)]:=by simpa using hg 13 AK
     refine Be 86 (ah 2) (ah 32) rfl w.heap.size #[ae true,aO aZ (z2+256*z3),aO aZ (FN zs)] rfl d13 86 _ (show((w.alloc (aa CF 86))).heap[w.heap.size]?=_ from AS w _) HSF.o rfl (by simp[Value.oneCell']) ?_;apply hK;have HR5:AO (((((w.alloc (aa CF 86))).drewN q).setRow w.heap.size #[ae true,aO aZ (z2+256*z3),aO aZ (FN zs)]).heap[w.heap.size]?=aR (aa #[ae true,aO aZ (z2+256*z3),aO aZ (FN zs)] 86 (0,0))):=
      AB (show((w.alloc (aa CF 86))).heap[w.heap.size]?=_ from AS w _)
     have HB5:AO (Below w.heap.size w ((((w.alloc (aa CF 86))).drewN q).setRow w.heap.size #[ae true,aO aZ (z2+256*z3),aO aZ (FN zs)])):=
      (Hh HBN.o q).trans ((Wr.setRow _ _ _).below Ch)
     generalize (((w.alloc (aa CF 86))).drewN q).setRow w.heap.size #[ae true,aO aZ (z2+256*z3),aO aZ (FN zs)]=w5 at *;go_wp2_with fail;refine AU (v:=af #[ae true,aO aZ (z2+256*z3),aO aZ (FN zs)]) (AY rfl _ _ w.heap.size 86 _ (0,0) _ rfl HR5.o underlying86 rfl HSF.o) rfl ⟨by rw[HV.o,<-HS9.o],HB5.o⟩
   ·have HV:=CY <| Hg (by rw[HTB.o,h0];simpa using h1)
    have h1':(zs.getD 1 0 == 49)=false:=by simpa using h1
    generalize zs.getD 1 0=z1 at *;go_enter func42,ntmps42;go_wp2;refine AU (v:=af CF) (AY rfl _ _ w.heap.size 86 _ (0,0) _ rfl (AS w _) underlying86 rfl HSF.o) rfl ⟨by rw[HV.o],HBN.o⟩
  ·have HV:=CY <| Hg (by rw[HTB.o,Ac h0];rfl)
   have h0':(zs.getD 0 0 != 84)=true:=by simpa using h0
   generalize zs.getD 0 0=z0 at *;go_enter func42,ntmps42;go_wp2;refine AU (v:=af CF) (AY rfl _ _ w.heap.size 86 _ (0,0) _ rfl (AS w _) underlying86 rfl HSF.o) rfl ⟨by rw[HV.o],HBN.o⟩
 ·have HV:AO (Tx zs=af CF):=Hg (by unfold Jp;rw[Ac AJ];rfl);have h72':¬ ((n:Int)=72):=AJ
  have h73:((n:Int) != 72)=true:=by simpa using h72'
  go_enter func42,ntmps42;go_wp2;refine AU (v:=af CF) ?res rfl ?post
  case res=>exact(AY rfl _ _ w.heap.size 86 _ (0,0) _ rfl (AS w _) underlying86 rfl HSF.o)
  case post=>exact⟨by rw[HV.o],HBN.o⟩
theorem M9 (a:Option Addr) (n cap:Nat) (xs:List Int) (w:aV) (hn:xs.length=n) (hm:n<=1048576) (ha:At aZ w a xs) :
  Calls tP 46 #[aM a n cap] w λe w'=>∃ v,e=aQ v/\Iow w.heap.size w' v xs/\Below w.heap.size w w':=by
 have E:=Ms 23 2 underlying23 w a n cap;cases a with
 |none=>
  have hx:xs=[]:=by rcases ha with h|⟨b,o,e,_⟩;exact h;cases e
  have HP:AO (Iow w.heap.size w (aM aS 0 0) xs):=by
   subst hx
   skip
   exact⟨rfl,.inl ⟨rfl,rfl⟩⟩
  go_enter func46,ntmps46;go_wp2
  go_ret
  exact⟨_,rfl,HP.o,A8 _ _⟩
 |some ad=>
  have bb:Below w.heap.size w (w.alloc (aa #[] 2)):=Cf.alloc Ch _;have HA:AO (At aZ (w.alloc (aa #[] 2)) (aR ad) xs/\JC w.heap.size 2 (w.alloc (aa #[] 2)) (aM (aR ⟨w.heap.size,0,aS⟩) 0 0)):=⟨ha.below bb,JC.new _ w Ch⟩
  have HB:=GZ bb;have HN:=GZ (Al hn hm);go_enter func46,ntmps46;go_wp2_with (first
   |(refine wpList_plain rfl λK hK=>Hp 23 2 (aO aZ 0) 1 8 Tryz.infoI64 underlying23 rfl AK AK _ (ah 5) (ah 6) rfl w.heap.size _ rfl HA.o.2 (aR ad) n cap xs rfl (by rw[HN.o.1,Bu]) HA.o.1 HN.o.2 AL λv' w3 ho hb=>hK _ _ ?_)
   |fail)
  have HF:AO (Iow w.heap.size w3 v' xs/\Below w.heap.size w w3):=⟨by first|exact ho|(unfold Iow;rw[HN.o.1];exact ho),HB.o.trans (hb.mono HB.o.size)⟩
  go_wp2
  go_ret
  exact⟨_,rfl,HF.o.1,HF.o.2⟩
theorem JF {w0 w:aV} {tE:TypeId} {k n:Nat} {v:aX} {xs:List aX} (h:w.ownsRow w0.heap.size tE k v n xs):KF w0 w v:=by
 intro j hj;rcases h.2 with⟨rfl,_⟩|⟨g,c,cur,rfl,hb,hh,_⟩
 ·rcases hj with⟨a,e,_⟩|⟨cs,e,_⟩<;>cases e
 ·rcases hj with⟨a,e,rfl⟩|⟨cs,e,_⟩
  {cases e;exact⟨hb,(AR.1 hh).1⟩};{cases e}
theorem V5 {w:aV} {lo lo':Nat} {tE:TypeId} {k n:Nat} {v:aX} {xs:List aX} (h:w.ownsRow lo tE k v n xs) (hl:lo'<=lo):w.ownsRow lo' tE k v n xs:=by
 refine⟨h.1,?_⟩;rcases h.2 with h|⟨g,c,cur,e,hb,r⟩
 ·exact .inl h
 ·exact .inr ⟨g,c,cur,e,Ai hl hb,r⟩
theorem Iow.lo {lo lo':Nat} {w:aV} {v:aX} {xs:List Int} (h:Iow lo w v xs) (hl:lo'<=lo):Iow lo' w v xs:=V5 h hl
theorem Cj.lo {lo lo' n:Nat} {w:aV} {v:aX} {xs:List Int} (h:Cj lo w v xs n) (hl:lo'<=lo):Cj lo' w v xs n:=V5 h hl
theorem Cj.frm {B:Nat} {w:aV} {v:aX} {T:List Int} {m:Nat} (h:Cj B w v T m):∃ a c,v=aM a m c:=by
 rcases h.2 with⟨rfl,h0⟩|⟨g,c,cur,rfl,_⟩
 ·have:=h.1;rw[h0] at this;simp at this;exact⟨aS,0,by rw[show m=0 by omega]⟩
 ·exact⟨_,_,rfl⟩
theorem KN {a a':Option Addr} {n c n' c':Nat} (h:YO (aM a n c) (aM a' n' c')):OK a a':=λx y e e' h'=>h x.block (.inl ⟨x,e,rfl⟩) (.inl ⟨y,e',h'.symm⟩)
theorem S3.lo {lo lo':Nat} {w:aV} {aD aU aT:Option Addr} {nD nU nT:Nat} {D U T:List Int} (h:S3 lo w aD aU aT nD nU nT D U T) (hl:lo'<=lo):S3 lo' w aD aU aT nD nU nT D U T:=
 ⟨h.d,h.u,h.t,h.nd,h.nu,h.nt,h.ld.mono hl Ch,h.lu.mono hl Ch,h.lt.mono hl Ch,h.du,h.dt,h.ut⟩
theorem Yc {lo:Nat} {w:aV} {aD aU aT:Option Addr} {nD cD nU cU nT cT:Nat} {D U T:List Int} (h1:Iow lo w (aM aD nD cD) D) (h2:Iow lo w (aM aU nU cU) U) (h3:Cj lo w (aM aT nT cT) T nT) (a1:OK aD aU) (a2:OK aD aT) (a3:OK aU aT):S3 lo w aD aU aT nD nU nT D U T:=by
 obtain⟨d1,d2,d3⟩:=h1.sat;obtain⟨u1,u2,u3⟩:=h2.sat;obtain⟨t1,t2,t3⟩:=h3.tapV.sat;exact⟨d1,u1,t1,d2,u2,t2,d3,u3,t3,a1,a2,a3⟩
def V6 (lo:Nat) (w:aV) (v:aX) (D U:List Int) (k:Int) (T:List Int) (nT:Nat):Prop:=∃ bD mD dD bU mU dU bT dT,v=af #[aM bD mD dD,aM bU mU dU,aO aZ k,aM bT nT dT]/\S3 lo w bD bU bT mD mU nT D U T
theorem V6.below {lo:Nat} {w w':aV} {v:aX} {D U:List Int} {k:Int} {T:List Int} {nT:Nat} (h:V6 lo w v D U k T nT) (b:Below w.heap.size w w'):V6 lo w' v D U k T nT:=by
 obtain⟨bD,mD,dD,bU,mU,dU,bT,dT,e,h⟩:=h;exact⟨bD,mD,dD,bU,mU,dU,bT,dT,e,h.below b⟩
theorem TH (aD aU aT:Option Addr) (nD cD nU cU nT cT:Nat) (D U:List Int) (k:Int) (T:List Int) (w:aV) (hD:D.length=nD) (hU:U.length=nU) (hT:T.length=nT*2) (mD:nD<=1048576) (mU:nU<=1048576) (mT:nT<=1048576) (haD:At aZ w aD D) (haU:At aZ w aU U) (haT:At aZ w aT T) :
  Calls tP 24 #[af #[aM aD nD cD,aM aU nU cU,aO aZ k,aM aT nT cT]] w λe w'=>∃ v,e=aQ v/\V6 w.heap.size w' v D U k T nT/\Below w.heap.size w w':=by
 have HCD:=GZ (λww (b:Below w.heap.size w ww)=>M9 aD nD cD D ww hD mD (haD.below b));have HCU:=GZ (λww (b:Below w.heap.size w ww)=>M9 aU nU cU U ww hU mU (haU.below b));have HCT:=GZ (λww (b:Below w.heap.size w ww)=>K5 aT nT cT T ww hT mT (haT.below b));have HSZ:AO ((tP.info? 26).map (·.size)=aR 4):=by show _=_;kernel_rfl
 have HE1:AO (BE w 26 #[aM aD nD cD,aM aU nU cU,aO aZ k,aM aT nT cT] CJ ((w.alloc (aa #[aM aD nD cD,aM aU nU cU,aO aZ k,aM aT nT cT] 26)).alloc (aa CJ 26))):=BE.start _ _ _ _;have HL1:=CY <| (AR.1 HE1.o.b0).1
 go_enter func24,ntmps24;go_wp2_with fail;generalize ((w.alloc (aa #[aM aD nD cD,aM aU nU cU,aO aZ k,aM aT nT cT] 26)).alloc (aa CJ 26))=w1 at *;refine Ag AM ?_;refine Lr 12 (λ_ a b=>Below a.heap.size a b) (frame:=(λ(a b c:aX)=>λ(t:Nat->aX)=>({ tmps:=List.toArray [a,b,c,t 0,t 1,t 2,t 3,t 4,t 5,t 6,t 7,t 8,t 9,t 10,t 11],defers:=[] }:Act)) _ _ _)
  (Ext:=λL u w'=>Wv w1 [2,5,10] L u w') (Good:=λi L w' v=>if i=0 then v=aY (aR ⟨w.heap.size,0,aS⟩) else if i=1 then v=aM aD nD cD else if i=2 then Iow w1.heap.size w' v D else if i=3 then v=aY (aR ⟨w.heap.size,1,aS⟩) else if i=4 then v=aM aU nU cU else if i=5 then Iow w1.heap.size w' v U else if i=6 then v=aY (aR ⟨w.heap.size,2,aS⟩) else if i=7 then v=aO aZ k else if i=8 then v=aY (aR ⟨w.heap.size,3,aS⟩) else if i=9 then v=aM aT nT cT else if i=10 then Cj w1.heap.size w' v T nT else if i=11 then V6 w1.heap.size w' v D U k T nT else True) (Fin:=λ_ ww=>∃ bD mD dD bU mU dU bT dT,ww.heap[w.heap.size+1]?=aR (aa #[aM bD mD dD,aM bU mU dU,aO aZ k,aM bT nT dT] 26 (0,0))/\S3 w.heap.size ww bD bU bT mD mU nT D U T/\Below w.heap.size w ww) rfl AM ?hstab AM ?hop ?hend ?hdone _ _ ((λ(x0 x1 x2 x3 x4 x5 x6 x7 x8 x9 x10 x11:aX)=>λ(i:Nat)=>if i=0 then x0 else if i=1 then x1 else if i=2 then x2 else if i=3 then x3 else if i=4 then x4 else if i=5 then x5 else if i=6 then x6 else if i=7 then x7 else if i=8 then x8 else if i=9 then x9 else if i=10 then x10 else if i=11 then x11 else undef) _ _ _ _ _ _ _ _ _ _ _ _) _ AL ?none ?ext AL
 case none=>exact λ_=>NR
 case ext=>exact Wv.start w1 [2,5,10] _ _ (λ_=>NR) ⟨rfl,rfl,rfl,Aa _,λ_ _=>rfl⟩
 case hstab=>
  intro j L w9 w' i v _ hM _ _ h;by_cases h2:j=2
  ·subst h2;simp at h |-;exact h.below hM
  by_cases h5:j=5
  ·subst h5;simp at h |-;exact h.below hM
  by_cases h10:j=10
  ·subst h10;simp at h |-;exact h.below hM
  by_cases h11:j=11
  ·subst h11;simp at h |-;exact h.below hM
  simp only[if_neg h2,if_neg h5,if_neg h10,if_neg h11] at h |-;exact h
 case hop=>
  intro i o L t w' hi ho hLi hx hdep K hK;have cX:∀ q9:Nat,w'.cell? ⟨w.heap.size,q9,aS⟩=(#[aM aD nD cD,aM aU nU cU,aO aZ k,aM aT nT cT]:Array aX)[q9]?:=λq9=>by rw[Af (a:=⟨w.heap.size,q9,aS⟩) (w:=w1) (hx.below.block _ HL1.o),AA HE1.o.b0 q9]
  obtain rfl|rfl|rfl|rfl|rfl|rfl|rfl|rfl|rfl|rfl|rfl|rfl:i=0\/i=1\/i=2\/i=3\/i=4\/i=5\/i=6\/i=7\/i=8\/i=9\/i=10\/i=11:=AJ
  all_goals(simp at ho;subst ho)
  all_goals try(have hK':=hK w' _ rfl (hx.step _ _ Cf ES) Cf;simp[Region.binds] at hdep;rw[AP AN];go_simp;simpa[Ca,hdep] using hK')
  ·have d1:t 1=aM aD nD cD:=by simpa using(hdep ⟨1,ag⟩ AL rfl).2
   have bw:=HE1.o.below.trans (hx.below.mono HE1.o.below.size);have hsz:=hx.below.size;have A:=HCD.o w' bw;have hK':∀ ww v,Iow w1.heap.size ww v D->KF w' ww v->Below w'.heap.size w' ww->K _ ww:=λww v hv hf hb=>hK ww v (by simpa using hv) (hx.step 2 v hb (λ_=>hf)) hb
   rw[AP AN];go_simp;try simp only[d1]
   refine A.mono ?_;rintro e w9 ⟨v9,rfl,h9,hb9⟩;have hK2:=hK' w9 v9 (h9.lo hsz) (JF h9) hb9;go_simp;simpa[Ca,d1] using hK2
  ·have d4:t 4=aM aU nU cU:=by simpa using(hdep ⟨4,ag⟩ AL rfl).2
   have bw:=HE1.o.below.trans (hx.below.mono HE1.o.below.size);have hsz:=hx.below.size;have A:=HCU.o w' bw;have hK':∀ ww v,Iow w1.heap.size ww v U->KF w' ww v->Below w'.heap.size w' ww->K _ ww:=λww v hv hf hb=>hK ww v (by simpa using hv) (hx.step 5 v hb (λ_=>hf)) hb
   rw[AP AN];go_simp;try simp only[d4]
   refine A.mono ?_;rintro e w9 ⟨v9,rfl,h9,hb9⟩;have hK2:=hK' w9 v9 (h9.lo hsz) (JF h9) hb9;go_simp;simpa[Ca,d4] using hK2
  ·have d9:t 9=aM aT nT cT:=by simpa using(hdep ⟨9,ag⟩ AL rfl).2
   have bw:=HE1.o.below.trans (hx.below.mono HE1.o.below.size);have hsz:=hx.below.size;have A:=HCT.o w' bw;have hK':∀ ww v,Cj w1.heap.size ww v T nT->KF w' ww v->Below w'.heap.size w' ww->K _ ww:=λww v hv hf hb=>hK ww v (by simpa using hv) (hx.step 10 v hb (λ_=>hf)) hb
   rw[AP AN];go_simp;try simp only[d9]
   refine A.mono ?_;rintro e w9 ⟨v9,rfl,h9,hb9⟩;have hK2:=hK' w9 v9 (h9.lo hsz) (JF h9) hb9;go_simp;simpa[Ca,d9] using hK2
  ·have l2:=(hdep ⟨2,ag⟩ AL rfl).1;have f2:Iow w1.heap.size w' (t 2) D:=by simpa using(hdep ⟨2,ag⟩ AL rfl).2
   have l5:=(hdep ⟨5,ag⟩ AL rfl).1;have f5:Iow w1.heap.size w' (t 5) U:=by simpa using(hdep ⟨5,ag⟩ AL rfl).2
   have d7:t 7=aO aZ k:=by simpa using(hdep ⟨7,ag⟩ AL rfl).2
   have l10:=(hdep ⟨10,ag⟩ AL rfl).1;have f10:Cj w1.heap.size w' (t 10) T nT:=by simpa using(hdep ⟨10,ag⟩ AL rfl).2
   have a1:=hx.ap 2 AK 5 AK AK l2 l5;have a2:=hx.ap 2 AK 10 AK AK l2 l10;have a3:=hx.ap 5 AK 10 AK AK l5 l10;obtain⟨bD,mD,dD,eD⟩:=f2.form;obtain⟨bU,mU,dU,eU⟩:=f5.form;obtain⟨bT,dT,eT⟩:=f10.frm;rw[eD] at f2 a1 a2;rw[eU] at f5 a1 a3;rw[eT] at f10 a2 a3;have hsv:V6 w1.heap.size w' (af #[aM bD mD dD,aM bU mU dU,aO aZ k,aM bT nT dT]) D U k T nT:=⟨bD,mD,dD,bU,mU,dU,bT,dT,rfl,Yc f2 f5 f10 (KN a1) (KN a2) (KN a3)⟩
   have hK':=hK w' _ (by simpa using hsv) (hx.step 11 _ Cf ES) Cf;rw[AP AN];go_simp;simpa[Ca,d7,eD,eU,eT] using hK'
 case hend=>
  intro o L t w' ho hx hg K hK;simp at ho;subst ho;have f11:V6 w1.heap.size w' (t 11) D U k T nT:=by simpa using(hg 11 AK).2
  obtain⟨bD,mD,dD,bU,mU,dU,bT,dT,e11,s11⟩:=f11;have hrs:=(hx.below.block _ (AR.1 HE1.o.b1).1).trans HE1.o.b1;have hK':∀ ww,Wr (w.heap.size+1) w' ww->ww.heap[w.heap.size+1]?=aR (aa #[aM bD mD dD,aM bU mU dU,aO aZ k,aM bT nT dT] 26 (0,0))->K _ ww:=λww hw hr=>hK ww undef ⟨bD,mD,dD,bU,mU,dU,bT,dT,hr,(s11.keep (Nat.le_of_eq hw.size.symm) (λk hk _=>hw.block k (AG (AR.1 HE1.o.b1).1))).lo (AG HE1.o.below.size),(HE1.o.below.trans (hx.below.mono HE1.o.below.size)).trans (hw.below AJ)⟩
  rw[AP AN];refine Be 26 (ah 2) (ah 14) rfl (w.heap.size+1) #[aM bD mD dD,aM bU mU dU,aO aZ k,aM bT nT dT] rfl e11 26 _ hrs HSZ.o rfl (by simp[Value.oneCell']) ?_;have hK2:=hK' _ (Wr.setRow _ _ _) (AB hrs);simpa[Ca,Act.put] using hK2
 case hdone=>
  intro t w9 hf;obtain⟨bD,mD,dD,bU,mU,dU,bT,dT,hr,hI,hb9⟩:=hf;have HR9:AO (w9.heap[w.heap.size+1]?=aR (aa #[aM bD mD dD,aM bU mU dU,aO aZ k,aM bT nT dT] 26 (0,0))):=hr;have HF:AO (V6 w.heap.size w9 (af #[aM bD mD dD,aM bU mU dU,aO aZ k,aM bT nT dT]) D U k T nT/\Below w.heap.size w w9):=⟨⟨bD,mD,dD,bU,mU,dU,bT,dT,rfl,hI⟩,hb9⟩
  go_wp2_with fail;exact AU (v:=af #[aM bD mD dD,aM bU mU dU,aO aZ k,aM bT nT dT]) (AY rfl _ _ (w.heap.size+1) 26 _ (0,0) _ rfl HR9.o underlying26 rfl HSZ.o) rfl ⟨_,rfl,HF.o.1,HF.o.2⟩
end Go.Proofs.YtncomnkdlpoelaaGreatDoor
