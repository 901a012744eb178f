import Derived.Test.YtjdhhgaelgemcaaGreatDoorMSvF
import Derived.Test.YtjdhhgaelgemcaaGreatDoorMMkB
import Derived.Test.YtjdhhgaelgemcaaGreatDoorMICd
open Go.Proofs.Tryz renaming prog->tP
open Go.Proofs.Tryz
open Go.Value renaming slice->Z7,int->Z8,pointer->aF,bool->aG,agg->aH
open Go.Ground renaming data->aL
open Option renaming some->aE,none->aA
open Go renaming World->aC,Value->aB
set_option maxHeartbeats 16000000
set_option maxRecDepth 100000
namespace Go.Proofs.YtjdhhgaelgemcaaGreatDoor
open Go.ChangeShapes Go.WideShapes Go.ChangeAt Go.RowKit
set_option linter.unusedVariables false
theorem Uw (p m cap:Nat) (vs:List aB) (zss:List (List Int)) (w:aC) (hm:zss.length=m) (hp:p<w.heap.size) (hc:∀ i,i<m->w.cell? ⟨p,i,aA⟩=aE (vs.getD i undef))
  (hz:∀ i,i<m->Qv w (vs.getD i undef) (zss.getD i [])) (ht:zss.flatten.length<=2097152) (hm':m<=1048576) :
  Calls tP 76 #[Z7 (aE ⟨p,0,aA⟩) m cap] w λe w'=>∃ v,e=.returned v/\DM w' w.heap.size v zss.flatten/\Below w.heap.size w w':=by
 go_enter func76,ntmps76;go_wp2
 go_loopw [3,4] (λv i wr=>∃ k:Nat,k<=m/\i=Z8 .i64 k/\DM wr w.heap.size v (zss.take k).flatten/\Below w.heap.size w wr) (λ_ i _=>m-(intOf i).toNat)
 case atStart=>exact⟨0,Au _,rfl,DM.empty _ _ Cl,Cg.alloc Cl _⟩
 case round=>
  obtain⟨k,hk,rfl,hown,hbel⟩:=hrel;by_cases hlt:k<m
  ·have hsz:=hbel.size;obtain⟨b,o,c,hv,hb,hcell⟩:=hz k hlt;have hck:wr.cell? ⟨p,k,aA⟩=aE (Z7 (aE ⟨b,o,aA⟩) (zss.getD k []).length c):=by rw[hbel.cell (p:=⟨p,k,aA⟩) hp,hc k hlt,hv]
   have hnews:∀ j,j<(zss.getD k []).length->wr.cell? ((⟨b,o,aA⟩:Addr).add j)=aE (Z8 .u8 ((zss.getD k []).getD j 0)):=by
    intro j hj;rw[Az,hbel.cell (p:=⟨b,o+j,aA⟩) hb];exact hcell j hj
   have hfl:=Il zss k AJ;have hle:=LN zss (k+1);have hle2:(zss.take k).flatten.length+(zss.getD k []).length<=2097152:=by rw[hfl,Ak] at hle;omega
   have HF:AO _:=hfl;clear hfl hle hv hcell hc hz;generalize zss.getD k []=z at *;generalize (zss.take k).flatten=y at *;generalize hzl:z.length=zl at *;have HL:AO _:=hzl;clear hzl;have HN:AO _:=hnews;clear hnews;go_wp2_with (at_builtin;refine DI _ rfl _ _ rfl w.heap.size _ _ rfl hown ⟨b,o,aA⟩ _ _ z rfl HL.o HN.o ?c2 ?c3 ?_)
   case c2=>omega
   case c3=>omega
   intro v' w1 hown' hbel' _;have HO:AO (DM w1 w.heap.size v' (zss.take (k+1)).flatten):=by rw[HF.o];exact hown'
   have HB:AO (Below w.heap.size w w1):=hbel.trans hbel';clear hown hown' hbel hbel';go_wp2;go_roundw
   case rel=>exact⟨k+1,AJ,by go_num,HO.o,HB.o⟩
   case measure=>simp[intOf];omega
  ·have hkn:zss.take k=zss:=Ad AJ;rw[hkn] at hown;have HO:AO _:=hown;clear hown hkn;go_wp2
   go_ret
   exact⟨_,rfl,HO.o,hbel⟩
def NH (P:Q4):Int:=OA P.1 P.2.1 P.2.2.1
def KF (pub msg sig:List Int):Int:=val 256 (Ge (sig.take 32++pub++msg))%DQ
def Iq (pub msg sig:List Int):Bool:=decide (NH (mS (val 256 (sig.drop 32)) (EM bB) 256).1=NH (F4 (EM (sig.take 32)) (mS (KF pub msg sig) (EM pub) 256).1))
def XE (pub msg sig:List Int):Bool:=decide (NH (pS (val 256 (sig.drop 32)) (EM bB) 256)=NH (F4 (EM (sig.take 32)) (pS (KF pub msg sig) (EM pub) 256)))
def Hj (pub msg sig:List Int):Bool:=decide (sig.length=64) && decide (val 256 (sig.drop 32)<DQ) && mB pub Dy && mB (sig.take 32) Dy && Iq pub msg sig
theorem PP (k:Nat) (P:Q4):NH (M2 (2^k) P)=NH P:=Uu k _ _ _
theorem TD (pub msg sig:List Int) (hp:Rd (EM pub)) (hs:Rd (EM (sig.take 32))) (hb:Rd (EM bB)):XE pub msg sig=Iq pub msg sig:=by
 unfold XE Iq;obtain⟨⟨j,hj⟩,_,_⟩:=S9 (val 256 (sig.drop 32)) (EM bB) hb 256;obtain⟨⟨k,hk⟩,_,_⟩:=S9 (KF pub msg sig) (EM pub) hp 256;rw[hj,hk,PP];have e:F4 (EM (sig.take 32)) (M2 (2^k) (mS (KF pub msg sig) (EM pub) 256).1)=M2 (2^(k+k)) (F4 (EM (sig.take 32)) (mS (KF pub msg sig) (EM pub) 256).1):=by
  conv=>lhs;rw[<-PL hs]
  rw[OG,Int.one_mul,<-Int.pow_add]
 rw[e,PP]
structure Fq (w:aC) (b o:Nat) (zs:List Int):Prop where
 lt:b<w.heap.size
 c:∀ i,i<zs.length->w.cell? ⟨b,o+i,aA⟩=aE (Z8 .u8 (zs.getD i 0))
theorem Fq.below {w w':aC} {b o:Nat} {zs:List Int} (h:Fq w b o zs) (hb:Below w.heap.size w w'):Fq w' b o zs:=
 ⟨As h.lt hb.size,λi hi=>by rw[Ai (w:=w) (hb.block b h.lt)];exact h.c i hi⟩
theorem Fq.at_ {w:aC} {b o:Nat} {zs:List Int} (h:Fq w b o zs):At .u8 w (aE ⟨b,o,aA⟩) zs:=.inr ⟨b,o,rfl,h.lt,h.c⟩
theorem Fq.take {w:aC} {b o:Nat} {zs:List Int} (h:Fq w b o zs) (n:Nat):Fq w b o (zs.take n):=
 ⟨h.lt,λi hi=>by rw[Ap] at hi;rw[h.c i AJ,Hv _ _ _ AJ]⟩
theorem Fq.drop {w:aC} {b o:Nat} {zs:List Int} (h:Fq w b o zs) (n:Nat):Fq w b (o+n) (zs.drop n):=
 ⟨h.lt,λi hi=>by rw[BJ] at hi;rw[Ax,h.c (n+i) AJ,Ff]⟩
theorem Fq.part {w:aC} {b o:Nat} {zs:List Int} (h:Fq w b o zs) (n c:Nat) (hn:zs.length=n):Qv w (Z7 (aE ⟨b,o,aA⟩) n c) zs:=⟨b,o,c,by rw[hn],h.lt,h.c⟩
theorem Fq.of_own {w:aC} {B:Nat} {v:aB} {zs:List Int} (h:DM w B v zs):∃ g c,v=Z7 (aE ⟨g,0,aA⟩) zs.length c/\Fq w g 0 zs/\zs.length<=c:=by
 obtain⟨g,c,e,_,_,hc⟩:=h.base;obtain⟨b',o',c',e',hl,hcc⟩:=h.part;rw[e] at e';cases e';exact⟨g,c,e,⟨hl,hcc⟩,hc⟩
theorem FV {zs:List Int} (h:Ci zs) (n:Nat):Ci (zs.take n):=λz hz=>h z (Ay hz)
theorem Hk {zs:List Int} (h:Ci zs) (n:Nat):Ci (zs.drop n):=λz hz=>h z (Bf hz)
theorem Iz (w:aC) (b o c:Nat) (hc:64<=c):(Instr.sliceAt 26 (Z7 (aE ⟨b,o,aA⟩) 64 c) (aE (Z8 .i64 32)) aA aA).run tP w=.ok (Z7 (aE ⟨b,o+32,aA⟩) 32 (c-32)) w:=by
 have h4:¬ (c=32):=AJ
 unfold Instr.sliceAt;simp[run_underlying underlying26,go_sem,Instr.sliceBounds,h4,Addr.add];try omega
theorem I0 (w:aC) (b o c:Nat) (hc:64<=c):(Instr.sliceAt 26 (Z7 (aE ⟨b,o,aA⟩) 64 c) aA (aE (Z8 .i64 32)) aA).run tP w=.ok (Z7 (aE ⟨b,o,aA⟩) 32 c) w:=by
 have h2:(32:Int)<=(c:Int):=AJ
 unfold Instr.sliceAt;simp[run_underlying underlying26,go_sem,Instr.sliceBounds,h2,Addr.add];try omega
def Tl (w:aC) (g:Nat) (Q:Q4):Prop:=
 ∃ g1 c1 g2 c2 g3 c3 g4 c4,DF w g #[Z7 (aE ⟨g1,0,aA⟩) 16 c1,Z7 (aE ⟨g2,0,aA⟩) 16 c2,Z7 (aE ⟨g3,0,aA⟩) 16 c3,Z7 (aE ⟨g4,0,aA⟩) 16 c4]/\
  Cu w (aE ⟨g1,0,aA⟩) Q.1/\Cu w (aE ⟨g2,0,aA⟩) Q.2.1/\Cu w (aE ⟨g3,0,aA⟩) Q.2.2.1/\Cu w (aE ⟨g4,0,aA⟩) Q.2.2.2
theorem Tl.below {w w':aC} {g:Nat} {Q:Q4} (h:Tl w g Q) (hb:Below w.heap.size w w'):Tl w' g Q:=by
 obtain⟨g1,c1,g2,c2,g3,c3,g4,c4,hp,f1,f2,f3,f4⟩:=h;exact⟨g1,c1,g2,c2,g3,c3,g4,c4,hp.below hb hp.lt,f1.below hb,f2.below hb,f3.below hb,f4.below hb⟩
def OJ (w:aC) (v:aB) (Q:Q4):Prop:=
 ∃ g1 c1 g2 c2 g3 c3 g4 c4,v=aH #[Z7 (aE ⟨g1,0,aA⟩) 16 c1,Z7 (aE ⟨g2,0,aA⟩) 16 c2,Z7 (aE ⟨g3,0,aA⟩) 16 c3,Z7 (aE ⟨g4,0,aA⟩) 16 c4]/\
  Cu w (aE ⟨g1,0,aA⟩) Q.1/\Cu w (aE ⟨g2,0,aA⟩) Q.2.1/\Cu w (aE ⟨g3,0,aA⟩) Q.2.2.1/\Cu w (aE ⟨g4,0,aA⟩) Q.2.2.2
theorem OJ.below {w w':aC} {v:aB} {Q:Q4} (h:OJ w v Q) (hb:Below w.heap.size w w'):OJ w' v Q:=by
 obtain⟨g1,c1,g2,c2,g3,c3,g4,c4,hp,f1,f2,f3,f4⟩:=h;exact⟨g1,c1,g2,c2,g3,c3,g4,c4,hp,f1.below hb,f2.below hb,f3.below hb,f4.below hb⟩
theorem OJ.elim_ {w:aC} {v:aB} {Q:Q4} {C:Prop} (h:OJ w v Q) (k:∀ g1 c1 g2 c2 g3 c3 g4 c4,v=aH #[Z7 (aE ⟨g1,0,aA⟩) 16 c1,Z7 (aE ⟨g2,0,aA⟩) 16 c2,Z7 (aE ⟨g3,0,aA⟩) 16 c3,Z7 (aE ⟨g4,0,aA⟩) 16 c4]->Cu w (aE ⟨g1,0,aA⟩) Q.1->Cu w (aE ⟨g2,0,aA⟩) Q.2.1->Cu w (aE ⟨g3,0,aA⟩) Q.2.2.1->Cu w (aE ⟨g4,0,aA⟩) Q.2.2.2->C):C:=by
 obtain⟨g1,c1,g2,c2,g3,c3,g4,c4,hp,f1,f2,f3,f4⟩:=h;exact k g1 c1 g2 c2 g3 c3 g4 c4 hp f1 f2 f3 f4
theorem DF.fe {w:aC} {G g:Nat} {a:Option Addr} {n c:Nat} {s1 s2 s3:aB} {x:Int} (h:DF w G #[Z7 a n c,s1,s2,s3]) (f:Cu w (aE ⟨g,0,aA⟩) x):g≠G:=by
 intro e;subst e;obtain⟨zs,h1,h2,_⟩:=f;obtain⟨b,o,e,_,hc⟩:=h1.get (AG h2.1);cases e;have c0:=hc 0 (AG h2.1);rw[Aq,h.c0] at c0;cases c0
def z4:Array aB:=CT
def V5 (B:Nat) (w:aC) (v:aB):Prop:=∃ g,v=aF (aE ⟨g,0,aA⟩)/\B<=g/\DF w g CT
theorem V5.below {B:Nat} {w w':aC} {v:aB} (h:V5 B w v) (hb:Below w.heap.size w w'):V5 B w' v:=by
 obtain⟨g,e,h1,h2⟩:=h;exact⟨g,e,h1,h2.below hb h2.lt⟩
def V6 (w:aC) (v:aB) (Q:Q4):Prop:=∃ g,v=aF (aE ⟨g,0,aA⟩)/\Tl w g Q
theorem V6.below {w w':aC} {v:aB} {Q:Q4} (h:V6 w v Q) (hb:Below w.heap.size w w'):V6 w' v Q:=by
 obtain⟨g,e,h1⟩:=h;exact⟨g,e,h1.below hb⟩
structure OK (W:aC) (a s c:Nat) (Q:Q4) (L:Nat->Bool) (u:Nat->aB) (w:aC):Prop where
 below:Below W.heap.size W w
 fin:L s=true->(L a=true/\L c=true)/\V6 w (u a) Q
section
variable {W:aC} {a s c:Nat} {Q:Q4} {L:Nat->Bool} {u:Nat->aB} {w w':aC}
theorem OK.start (h:∀ i,L i=false):OK W a s c Q L u W.drew:=⟨Cg.drew,λh'=>by rw[h] at h';cases h'⟩
theorem Gv (L:Nat->Bool) {i j:Nat} (h:j≠i):Cf L i j=L j:=by unfold Cf;rw[AQ h]
theorem PQ (u:Nat->aB) {i j:Nat} (v:aB) (h:j≠i):Ce u i v j=u j:=by unfold Ce;rw[AQ h]
theorem OK.step (h:OK W a s c Q L u w) (i:Nat) (v:aB) (hb:Below w.heap.size w w') (hs:s≠i) (ha:a≠i):OK W a s c Q (Cf L i) (Ce u i v) w':=
 ⟨h.below.trans (hb.mono h.below.size),by
  rw[Gv L hs,Gv L ha,PQ u v ha];exact λh'=>⟨⟨(h.fin h').1.1,by have:=(h.fin h').1.2;unfold Cf;split<;>simp[this]⟩,(h.fin h').2.below hb⟩⟩
theorem OK.made (h:OK W a s c Q L u w) (v:aB) (hb:Below w.heap.size w w') (hs:s≠a) (hL:L a=false):OK W a s c Q (Cf L a) (Ce u a v) w':=
 ⟨h.below.trans (hb.mono h.below.size),by
  rw[Gv L hs];intro h';have:=(h.fin h').1.1;rw[hL] at this;cases this⟩
theorem OK.set (h:OK W a s c Q L u w) (v:aB) (hb:Below W.heap.size w w') (hs:a≠s) (hc:c≠s) (hL:L a=true) (hLc:L c=true) (hf:V6 w' (u a) Q):OK W a s c Q (Cf L s) (Ce u s v) w':=
 ⟨h.below.trans hb,λ_=>⟨⟨by rw[Gv L hs];exact hL,by rw[Gv L hc];exact hLc⟩,by rw[PQ u v hs];exact hf⟩⟩
end
theorem Kt {w:aC} {o:Oper} {a:Act} {K:Act->aC->Prop} {Q:Exit->Act->aC->Prop} (x y:Operand) (ho:o.op=.store 109 x y) (B:Nat) (R:Q4) (vx vy:aB)
  (hx:a.eval x=vx) (hy:a.eval y=vy) (hz:V5 B w vx) (ht:OJ w vy R) (hK:∀ w',Below B w w'->V6 w' vx R->K (a.put o.dst undef) w'):o.wp tP a w K Q:=by
 obtain⟨g,rfl,h1,h2⟩:=hz;obtain⟨g1,c1,g2,c2,g3,c3,g4,c4,rfl,f1,f2,f3,f4⟩:=ht;have hw:Wr g w (w.setRow g #[Z7 (aE ⟨g1,0,aA⟩) 16 c1,Z7 (aE ⟨g2,0,aA⟩) 16 c2,Z7 (aE ⟨g3,0,aA⟩) 16 c3,Z7 (aE ⟨g4,0,aA⟩) 16 c4]):=Wr.setRow _ _ _;refine Bt 109 x y ho g #[Z7 (aE ⟨g1,0,aA⟩) 16 c1,Z7 (aE ⟨g2,0,aA⟩) 16 c2,Z7 (aE ⟨g3,0,aA⟩) 16 c3,Z7 (aE ⟨g4,0,aA⟩) 16 c4] hx hy 109 _ h2 Tryz.sizePt rfl (by simp[Value.oneCell']) ?_;exact hK _ (hw.below h1) ⟨g,rfl,g1,c1,g2,c2,g3,c3,g4,c4,AB h2,f1.wr hw (h2.fe f1),f2.wr hw (h2.fe f2),f3.wr hw (h2.fe f3),f4.wr hw (h2.fe f4)⟩
def Ux (w:aC) (v:aB) (V:Int):Prop:=∃ g c bs,v=Z7 (aE ⟨g,0,aA⟩) 32 c/\Fq w g 0 bs/\Ci bs/\bs.length=32/\val 256 bs=V
theorem Ux.below {w w':aC} {v:aB} {V:Int} (h:Ux w v V) (hb:Below w.heap.size w w'):Ux w' v V:=by
 obtain⟨g,c,bs,e,h1,h2⟩:=h;exact⟨g,c,bs,e,h1.below hb,h2⟩
def XF (w:aC) (v:aB) (V:Int):Prop:=∃ bs,v=.string (strOfNums bs)/\Ci bs/\bs.length=32/\val 256 bs=V
theorem XF.below {w w':aC} {v:aB} {V:Int} (h:XF w v V) (hb:Below w.heap.size w w'):XF w' v V:=h
theorem TE {xs ys:List Int} (hx:Ci xs) (hy:Ci ys):((strOfNums xs).toList == (strOfNums ys).toList)=decide (xs=ys):=by
 rw[Bool.eq_iff_iff,decide_eq_true_eq,beq_iff_eq,ByteArray.toList_eq,ByteArray.toList_eq,strOfNums_data,strOfNums_data];constructor
 ·intro h;have hl:xs.length=ys.length:=by simpa using congrArg List.length h
  apply List.ext_getElem hl;intro i h1 h2;have e:(xs.map λn=>UInt8.ofNat n.toNat)[i]?=(ys.map λn=>UInt8.ofNat n.toNat)[i]?:=by rw[h]
  simp[h1,h2] at e;have e':=congrArg UInt8.toNat e;have bx:=hx xs[i] (Bl h1);have by':=hy ys[i] (Bl h2);simp only[UInt8.toNat_ofNat'] at e';omega
 ·rintro rfl;rfl
theorem Uy {xs ys:List Int} (hx:Ci xs) (hy:Ci ys) (lx:xs.length=32) (ly:ys.length=32):((strOfNums xs).toList == (strOfNums ys).toList)=decide (val 256 xs=val 256 ys):=by
 rw[TE hx hy];by_cases h:xs=ys
 ·rw[Al h,Al (by rw[h])]
 ·rw[Af h,Af (λe=>h (F6 (B:=256) AK hx hy AJ e))]
theorem Uz {pub msg sig:List Int} (h:¬ sig.length=64):Hj pub msg sig=false:=by unfold Hj;simp[h]
theorem U2 {pub msg sig:List Int} (h:¬ pub.length=32):Hj pub msg sig=false:=by
 have:mB pub Dy=false:=by
  cases hb:mB pub Dy with
  |false=>rfl
  |true=>exact absurd (JN hb).1 h
 unfold Hj;simp[this]
theorem XG {pub msg sig:List Int} (h:decide (val 256 (sig.drop 32)<DQ)=false):Hj pub msg sig=false:=by unfold Hj;simp[h]
theorem XH {pub msg sig:List Int} (h:mB pub Dy=false):Hj pub msg sig=false:=by unfold Hj;simp[h]
theorem XI {pub msg sig:List Int} (h:mB (sig.take 32) Dy=false):Hj pub msg sig=false:=by unfold Hj;simp[h]
theorem XJ {pub msg sig:List Int} (h1:sig.length=64) (h2:decide (val 256 (sig.drop 32)<DQ)=true) (h3:mB pub Dy=true) (h4:mB (sig.take 32) Dy=true):Hj pub msg sig=Iq pub msg sig:=by unfold Hj;rw[h2,h3,h4,Al h1];simp
theorem md_pt {zs:List Int} {s1 s2 s3 s4:aB} {w2 w3:aC} {G:Nat} (hok:mB zs Dy=true->∃ g1 c1 g2 c2 g3 c3 g4 c4,s1=Z7 (aE ⟨g1,0,aA⟩) 16 c1/\s2=Z7 (aE ⟨g2,0,aA⟩) 16 c2/\s3=Z7 (aE ⟨g3,0,aA⟩) 16 c3/\s4=Z7 (aE ⟨g4,0,aA⟩) 16 c4/\
   Cu w2 (aE ⟨g1,0,aA⟩) (mX zs Dy)/\Cu w2 (aE ⟨g2,0,aA⟩) (mY zs)/\Cu w2 (aE ⟨g3,0,aA⟩) (1%fp)/\Cu w2 (aE ⟨g4,0,aA⟩) (mX zs Dy*mY zs%fp))
  (hp:DF w3 G #[s1,s2,s3,s4]) (hb:Below w2.heap.size w2 w3) (h:mB zs Dy=true):Tl w3 G (EM zs):=by
 obtain⟨g1,c1,g2,c2,g3,c3,g4,c4,rfl,rfl,rfl,rfl,f1,f2,f3,f4⟩:=hok h;exact⟨g1,c1,g2,c2,g3,c3,g4,c4,hp,f1.below hb,f2.below hb,f3.below hb,f4.below hb⟩
theorem U3 (bp op cp bm om cm bs os cs np nm ns:Nat) (pub msg sig:List Int) (w:aC) (hpl:pub.length=np) (hml:msg.length=nm) (hsl:sig.length=ns) (hp:Fq w bp op pub) (hm:Fq w bm om msg) (hs:Fq w bs os sig)
  (zp:Ci pub) (zm:Ci msg) (zs:Ci sig) (hcs:ns<=cs) (bnp:np<=1048576) (bnm:nm<=1048576) (bns:ns<=1048576) :
  Calls tP 57 #[Z7 (aE ⟨bp,op,aA⟩) np cp,Z7 (aE ⟨bm,om,aA⟩) nm cm,Z7 (aE ⟨bs,os,aA⟩) ns cs] w λe w'=>e=.returned (aG (Hj pub msg sig))/\Below w.heap.size w w':=by
 have HP:=Cd hp;have HM:=Cd hm;have HS:=Cd hs;have HZ:=Cd (BC zp (BC zm zs));clear hp hm hs zp zm zs;by_cases h32:np=32
 ·subst h32;by_cases h64:ns=64
  ·subst h64;have hslh:=λw=>Iz w bs os cs hcs
   have hsll:=λw=>I0 w bs os cs hcs
   have hdl:(sig.drop 32).length=32:=by rw[BJ,hsl]
   have htl:(sig.take 32).length=32:=by rw[Ap,hsl];rfl
   go_enter func57,ntmps57;go_wp2_with fail;refine(UR (aE ⟨bs,os+32,aA⟩) 32 (cs-32) (sig.drop 32) _ hdl (HS.o.drop 32).at_ (Hk HZ.o.2.2 32)).mono ?_;rintro e w0 ⟨rfl,b0⟩;have HB0:=Cd b0;have hqq:decide (32=32/\val 256 (sig.drop 32)<DQ)=decide (val 256 (sig.drop 32)<DQ):=AL
   rw[hqq];clear b0 hqq;cases hq:decide (val 256 (sig.drop 32)<DQ) with
   |false=>
    have HV:=Cd (XG (pub:=pub) (msg:=msg) hq);clear hq;go_wp2
    go_ret
    exact⟨by rw[HV.o];rfl,HB0.o⟩
   |true=>
    have HQ:=Cd hq;clear hq;go_wp2_with fail;refine(Xy _).mono ?_;rintro e w1 ⟨gd,cd,rfl,_,_,hf,hb⟩;have HB1:AO (Below w.heap.size w w1):=HB0.o.trans (hb.mono HB0.o.size);have HD1:=Cd hf;clear hb hf HB0;go_wp2_with fail;refine(Gc (aE ⟨bp,op,aA⟩) _ 32 cp cd pub Dy _ hpl AK (HP.o.below HB1.o).at_ HZ.o.1 HD1.o).mono ?_;rintro e w2 ⟨s1,s2,s3,s4,rfl,hb2,hone,hok⟩;have HON:=Cd hone;have HOK:=Cd hok;have HPN:=Cd (DF.new w2);have HB2:AO (Below w.heap.size w w2):=HB1.o.trans (hb2.mono HB1.o.size);have HD2:=Cd (HD1.o.below hb2);clear hb2 hone hok HB1 HD1;generalize hqa:mB pub Dy=qa at *;have HQA:=Cd hqa;clear hqa;go_wp2_with (first
     |(refine Cm rfl (.tmp 9) (.tmp 37) rfl w2.heap.size s1 s2 s3 s4 _ HON.o.1 HON.o.2.1 HON.o.2.2.1 HON.o.2.2.2 rfl rfl rfl HPN.o ?_)
     |fail)
    intro w3 hp3 hw3;have b23:Below w2.heap.size w2 w3:=(Ck _ _).trans (hw3.below Cl);have HB3:AO (Below w.heap.size w w3):=HB2.o.trans (b23.mono HB2.o.size);have HD3:=Cd (HD2.o.below b23);have HA3:AO (qa=true->Tl w3 w2.heap.size (EM pub)):=λh=>md_pt (λh'=>HOK.o (by rw[<-HQA.o];exact h')) hp3 b23 (by rw[HQA.o];exact h)
    clear hp3 hw3 b23 HB2 HD2 HPN HON HOK;generalize w2.heap.size=Ga at *;go_wp2_with fail;refine(Gc (aE ⟨bs,os,aA⟩) _ 32 cs cd (sig.take 32) Dy _ htl AK ((HS.o.below HB3.o).take 32).at_ (FV HZ.o.2.2 32) HD3.o).mono ?_;rintro e w4 ⟨r1,r2,r3,r4,rfl,hb4,hone,hok⟩;have HON:=Cd hone;have HOK:=Cd hok;have HPN:=Cd (DF.new w4);have HB4:AO (Below w.heap.size w w4):=HB3.o.trans (hb4.mono HB3.o.size);have HD4:=Cd (HD3.o.below hb4);have HA4:AO (qa=true->Tl w4 Ga (EM pub)):=λh=>(HA3.o h).below hb4
    clear hb4 hone hok HB3 HD3 HA3;generalize hqr:mB (sig.take 32) Dy=qr at *;have HQR:=Cd hqr;clear hqr;go_wp2_with (first
     |(refine Cm rfl (.tmp 11) (.tmp 44) rfl w4.heap.size r1 r2 r3 r4 _ HON.o.1 HON.o.2.1 HON.o.2.2.1 HON.o.2.2.2 rfl rfl rfl HPN.o ?_)
     |fail)
    intro w5 hp5 hw5;have b45:Below w4.heap.size w4 w5:=(Ck _ _).trans (hw5.below Cl);have HB5:AO (Below w.heap.size w w5):=HB4.o.trans (b45.mono HB4.o.size);have HD5:=Cd (HD4.o.below b45);have HA5:AO (qa=true->Tl w5 Ga (EM pub)):=λh=>(HA4.o h).below b45
    have HR5:AO (qr=true->Tl w5 w4.heap.size (EM (sig.take 32))):=λh=>md_pt (λh'=>HOK.o (by rw[<-HQR.o];exact h')) hp5 b45 (by rw[HQR.o];exact h)
    clear hp5 hw5 b45 HB4 HD4 HPN HON HOK HA4;generalize w4.heap.size=Gr at *;cases qa with
    |false=>
     have HV:=Cd (XH (msg:=msg) (sig:=sig) HQA.o);clear HA5 HR5 HQA HQR;go_wp2
     go_ret
     exact⟨by rw[HV.o];rfl,HB5.o⟩
    |true=>
     cases qr with
     |false=>
      have HV:=Cd (XI (msg:=msg) (pub:=pub) HQR.o);clear HA5 HR5 HQA HQR;go_wp2
      go_ret
      exact⟨by rw[HV.o];rfl,HB5.o⟩
     |true=>
      have HVR:=Cd (XJ (msg:=msg) hsl HQ.o HQA.o HQR.o);have HA6:=Cd (HA5.o rfl);have HR6:=Cd (HR5.o rfl);clear HA5 HR5 HQA HQR HQ;go_wp2_with fail;refine(Ry _).mono ?_;rintro e w6 ⟨v6,b6s,rfl,o6,c1,c2,c3,b6⟩;obtain rfl:=V4 c1 c2 c3;obtain⟨g6,c6,rfl,hA6,hc6⟩:=Fq.of_own o6;have HB6:AO (Below w.heap.size w w6):=HB5.o.trans (b6.mono HB5.o.size);have HD6:=Cd (HD5.o.below b6);have HPA6:=Cd (HA6.o.below b6);have HPR6:=Cd (HR6.o.below b6);have HBB6:=Cd hA6;rw[Jv];clear o6 c1 c2 c3 b6 hA6 hc6 HB5 HD5 HA6 HR6;go_wp2_with fail;refine(Gc (aE ⟨g6,0,aA⟩) _ 32 c6 cd bB Dy _ Jv AK HBB6.o.at_ JO HD6.o).mono ?_;rintro e w7 ⟨t1,t2,t3,t4,rfl,hb7,hone,hok⟩;have HON:=Cd hone;have HOK:=Cd hok;have HPN:=Cd (DF.new w7);have HB7:AO (Below w.heap.size w w7):=HB6.o.trans (hb7.mono HB6.o.size);have HD7:=Cd (HD6.o.below hb7);have HPA7:=Cd (HPA6.o.below hb7);have HPR7:=Cd (HPR6.o.below hb7);have HMB:=Cd TA;generalize mB bB Dy=mb at *;clear hb7 hone hok HB6 HD6 HPA6 HPR6 HBB6;go_wp2_with (first
       |(refine Cm rfl (.tmp 13) (.tmp 56) rfl w7.heap.size t1 t2 t3 t4 _ HON.o.1 HON.o.2.1 HON.o.2.2.1 HON.o.2.2.2 rfl rfl rfl HPN.o ?_)
       |fail)
      intro w8 hp8 hw8;have b78:Below w7.heap.size w7 w8:=(Ck _ _).trans (hw8.below Cl);have HB8:AO (Below w.heap.size w w8):=HB7.o.trans (b78.mono HB7.o.size);have HD8:=Cd (HD7.o.below b78);have HPA8:=Cd (HPA7.o.below b78);have HPR8:=Cd (HPR7.o.below b78);have HPB8:AO (Tl w8 w7.heap.size (EM bB)):=md_pt (λ_=>HOK.o HMB.o) hp8 b78 TA;clear hp8 hw8 b78 HB7 HD7 HPN HON HOK HPA7 HPR7 HMB;generalize w7.heap.size=Gb at *;have hfl:[sig.take 32,pub,msg].flatten=sig.take 32++pub++msg:=AL
      have hfn:(sig.take 32++pub++msg).length=32+32+nm:=by rw[Ak,Ak,htl,hpl,hml]
      have HAL:AO (Below w8.heap.size w8 (w8.alloc (.cells #[Z7 (aE ⟨bs,os,aA⟩) 32 cs,Z7 (aE ⟨bp,op,aA⟩) 32 cp,Z7 (aE ⟨bm,om,aA⟩) nm cm] 26))):=Ck _ _;have CC:AO (Calls tP 76 #[Z7 (aE ⟨w8.heap.size,0,aA⟩) 3 3] (w8.alloc (.cells #[Z7 (aE ⟨bs,os,aA⟩) 32 cs,Z7 (aE ⟨bp,op,aA⟩) 32 cp,Z7 (aE ⟨bm,om,aA⟩) nm cm] 26)) _):=
       Uw w8.heap.size 3 3 [Z7 (aE ⟨bs,os,aA⟩) 32 cs,Z7 (aE ⟨bp,op,aA⟩) 32 cp,Z7 (aE ⟨bm,om,aA⟩) nm cm] [sig.take 32,pub,msg] _ rfl AL
        (λi hi=>by
         rw[AA (AX w8 _) i]
         match i,hi with
         |0,_=>rfl
         |1,_=>rfl
         |2,_=>rfl)
        (λi hi=>by
         have bx:=HB8.o.trans (HAL.o.mono HB8.o.size)
         match i,hi with
         |0,_=>exact((HS.o.below bx).take 32).part 32 cs htl
         |1,_=>exact(HP.o.below bx).part 32 cp hpl
         |2,_=>exact(HM.o.below bx).part nm cm hml)
        (by rw[hfl,hfn];omega) AK
      rw[hfl] at CC;have HFN:=Cd hfn;clear hfl hfn;go_wp2_with fail;refine CC.o.mono ?_;rintro e w9 ⟨v9,rfl,o9,b9⟩;obtain⟨g9,c9,rfl,hA9,hc9⟩:=Fq.of_own o9;have b89:Below w8.heap.size w8 w9:=HAL.o.trans (b9.mono HAL.o.size);have HB9:AO (Below w.heap.size w w9):=HB8.o.trans (b89.mono HB8.o.size);have HD9:=Cd (HD8.o.below b89);have HPA9:=Cd (HPA8.o.below b89);have HPR9:=Cd (HPR8.o.below b89);have HPB9:=Cd (HPB8.o.below b89);have HBY:AO (Ci (sig.take 32++pub++msg)):=λz hz=>by
       simp only[List.mem_append] at hz;rcases hz with (h|h)|h
       ·exact FV HZ.o.2.2 32 z h
       ·exact HZ.o.1 z h
       ·exact HZ.o.2.1 z h
      have CH:=Cd (Sj g9 0 c9 _ (sig.take 32++pub++msg) w9 rfl hA9.lt hA9.c HBY.o (by rw[HFN.o];omega));rw[HFN.o] at CH |-;clear o9 b9 b89 hA9 hc9 CC HAL HB8 HD8 HPA8 HPR8 HPB8 HBY;go_wp2_with fail;refine CH.o.mono ?_;rintro e w10 ⟨v10,rfl,o10,b10⟩;obtain⟨g10,c10,rfl,hA10,hc10⟩:=Fq.of_own o10;have HB10:AO (Below w.heap.size w w10):=HB9.o.trans (b10.mono HB9.o.size);have HD10:=Cd (HD9.o.below b10);have HPA10:=Cd (HPA9.o.below b10);have HPR10:=Cd (HPR9.o.below b10);have HPB10:=Cd (HPB9.o.below b10);have hsl9:(Ge (sig.take 32++pub++msg)).length=64:=by unfold Ge;rw[IR,(LM _ _ _).1]
      have CR:=Cd (Rl (aE ⟨g10,0,aA⟩) 64 c10 (Ge (sig.take 32++pub++msg)) w10 hsl9 AK hA10.at_ (by unfold Ge;exact Kd _));rw[hsl9];clear o10 b10 hA10 hc10 CH HB9 HD9 HPA9 HPR9 HPB9 hsl9;go_wp2_with fail;refine CR.o.mono ?_;rintro e w11 ⟨v11,ks,rfl,o11,hkb,hkl,hkv,b11⟩;obtain⟨gk,ck,rfl,hAk,hck⟩:=Fq.of_own o11;rw[hkl];have HB11:AO (Below w.heap.size w w11):=HB10.o.trans (b11.mono HB10.o.size);have HD:=Cd (HD10.o.below b11);have HPA:=Cd (HPA10.o.below b11);have HPR:=Cd (HPR10.o.below b11);have HPB:=Cd (HPB10.o.below b11);have HK:=Cd hAk;have HKV:AO (Ci ks/\ks.length=32/\val 256 ks=KF pub msg sig):=⟨hkb,hkl,hkv⟩
      clear o11 b11 hkb hkl hkv hAk hck CR HB10 HD10 HPA10 HPR10 HPB10;go_wp2_with fail;obtain⟨p1,pc1,p2,pc2,p3,pc3,p4,pc4,pW,pf1,pf2,pf3,pf4⟩:=HPB.o;have PW:=Cd pW;have PF:=Cd (BC pf1 (BC pf2 (BC pf3 pf4)));clear pW pf1 pf2 pf3 pf4;refine Ag AM ?_;refine Cn (λi x y=>i=6\/Below x.heap.size x y) (frame:=(λ(a b c d e f g h i j k l m n o p q r s u v w x y z A B C D E F G H I J K L M N O P Q R S T U V W X Y Z a0 a1 a2 a3 a4 a5 a6 a7 a8 a9 b0 b1 b2 b3 b4 b5 b6 b7 b8 b9 c0 c1 c2 c3 c4 c5 c6:aB)=>λ(t:Nat->aB)=>({ tmps:=List.toArray [a,b,c,d,e,f,g,h,i,j,k,l,m,n,o,t 5,p,q,r,s,u,v,w,x,y,z,A,B,C,D,E,F,G,H,I,J,K,L,M,N,O,P,Q,R,S,T,U,V,W,X,Y,Z,a0,a1,a2,a3,a4,a5,a6,a7,a8,a9,b0,b1,b2,t 0,t 1,t 2,t 3,t 4,b3,b4,b5,b6,b7,b8,b9,c0,c1,c2,c3,c4,c5,c6],defers:=[] }:Act)) _ _ _ _ _ _ _ _ _ _ _ _ _ _ _ _ _ _ _ _ _ _ _ _ _ _ _ _ _ _ _ _ _ _ _ _ _ _ _ _ _ _ _ _ _ _ _ _ _ _ _ _ _ _ _ _ _ _ _ _ _ _ _ _ _ _ _ _ _ _ _ _ _ _ _ _ _ _)
       (Ext:=λL u w'=>OK w11 5 6 4 ((mS (val 256 (sig.drop 32)) (EM bB) 256).1) L u w') (Good:=λi L w' v=>if i=0 then v=Z7 (aE ⟨bs,os,aA⟩) 64 cs else if i=1 then v=Z7 (aE ⟨bs,os+32,aA⟩) 32 (cs-32) else if i=2 then v=aH #[Z7 (aE ⟨p1,0,aA⟩) 16 pc1,Z7 (aE ⟨p2,0,aA⟩) 16 pc2,Z7 (aE ⟨p3,0,aA⟩) 16 pc3,Z7 (aE ⟨p4,0,aA⟩) 16 pc4] else if i=3 then v=Z7 (aE ⟨gd,0,aA⟩) 16 cd else if i=4 then(L 6=true\/OJ w' v ((mS (val 256 (sig.drop 32)) (EM bB) 256).1)) else if i=5 then(L 6=true\/V5 w11.heap.size w' v) else if i=6 then L 6=true else True) ?hstab AM ?hop ?hdone _ _ ((λ(x0 x1 x2 x3 x4 x5:aB)=>λ(i:Nat)=>if i=0 then x0 else if i=1 then x1 else if i=2 then x2 else if i=3 then x3 else if i=4 then x4 else if i=5 then x5 else undef) _ _ _ _ _ _) _ AL ?ext ?start AL
      case start=>intro i hi h;exact absurd h Et
      case ext=>exact OK.start (λ_=>J6)
      case hstab=>
       intro j L w9 w' i v hM hij hLi h;have hu:∀ k,L k=true->Cf L i k=true:=λk hk=>by unfold Cf;split<;>simp[hk]
       by_cases h4:j=4
       ·subst h4;simp at h |-;rcases hM with rfl|hM
        ·exact .inl (by simp[Cf])
        ·rcases h with h|h
         ·exact .inl (hu _ h)
         ·exact .inr (h.below hM)
       by_cases h5:j=5
       ·subst h5;simp at h |-;rcases hM with rfl|hM
        ·exact .inl (by simp[Cf])
        ·rcases h with h|h
         ·exact .inl (hu _ h)
         ·exact .inr (h.below hM)
       by_cases hs:j=6
       ·subst hs;simp at h |-;exact hu _ h
       simp only[if_neg h4,if_neg h5,if_neg hs] at h |-;exact h
      case hop=>
       intro i o L t w' ho hLi hx hdep K hK;have hi:i<7:=(AR.1 ho).1;obtain rfl|rfl|rfl|rfl|rfl|rfl|rfl:i=0\/i=1\/i=2\/i=3\/i=4\/i=5\/i=6:=AJ
       all_goals(simp at ho;subst ho)
       ·clear hdep;have hK':=hK w' (Z7 (aE ⟨bs,os,aA⟩) 64 cs) AL (hx.step 0 _ Cg AK AK) (.inr Cg);clear hK;rw[AP AN];go_simp;simpa[Ce] using hK'
       ·have d0:t 0=Z7 (aE ⟨bs,os,aA⟩) 64 cs:=by simpa using(hdep ⟨0,aL⟩ AL rfl).2
        clear hdep;have hK':=hK w' (Z7 (aE ⟨bs,os+32,aA⟩) 32 (cs-32)) AL (hx.step 1 _ Cg AK AK) (.inr Cg);clear hK;rw[AP AN];go_simp;simpa[Ce,d0] using hK'
       ·clear hdep;have hK':=hK w' (aH #[Z7 (aE ⟨p1,0,aA⟩) 16 pc1,Z7 (aE ⟨p2,0,aA⟩) 16 pc2,Z7 (aE ⟨p3,0,aA⟩) 16 pc3,Z7 (aE ⟨p4,0,aA⟩) 16 pc4]) AL (hx.step 2 _ Cg AK AK) (.inr Cg);clear hK;rw[AP AN];refine BR 109 (.tmp 13) rfl Gb rfl 109 _ (0,0) _ (PW.o.below hx.below PW.o.lt) underlying109 rfl Tryz.sizePt ?_;simpa[Ce,Act.put] using hK'
       ·clear hdep;have hK':=hK w' (Z7 (aE ⟨gd,0,aA⟩) 16 cd) AL (hx.step 3 _ Cg AK AK) (.inr Cg);clear hK;rw[AP AN];go_simp;simpa[Ce] using hK'
       ·have d1:t 1=Z7 (aE ⟨bs,os+32,aA⟩) 32 (cs-32):=by simpa using(hdep ⟨1,aL⟩ AL rfl).2
        have d2:t 2=aH #[Z7 (aE ⟨p1,0,aA⟩) 16 pc1,Z7 (aE ⟨p2,0,aA⟩) 16 pc2,Z7 (aE ⟨p3,0,aA⟩) 16 pc3,Z7 (aE ⟨p4,0,aA⟩) 16 pc4]:=by simpa using(hdep ⟨2,aL⟩ AL rfl).2
        have d3:t 3=Z7 (aE ⟨gd,0,aA⟩) 16 cd:=by simpa using(hdep ⟨3,aL⟩ AL rfl).2
        clear hdep;have A:=Jw (aE ⟨bs,os+32,aA⟩) (cs-32) (sig.drop 32) p1 p2 p3 p4 gd pc1 pc2 pc3 pc4 cd (EM bB) w' hdl (Hk HZ.o.2.2 32) ((HS.o.below (HB11.o.trans (hx.below.mono HB11.o.size))).drop 32).at_ (PF.o.1.below hx.below) (PF.o.2.1.below hx.below) (PF.o.2.2.1.below hx.below) (PF.o.2.2.2.below hx.below) (HD.o.below hx.below);have hK':∀ ww v,OJ ww v ((mS (val 256 (sig.drop 32)) (EM bB) 256).1)->Below w'.heap.size w' ww->K _ ww:=λww v hv hb=>hK ww v (by simp;exact .inr hv) (hx.step 4 v hb AK AK) (.inr hb)
        clear hK;rw[AP AN];go_simp;try simp only[d1,d2,d3]
        refine A.mono ?_;rintro e w9 ⟨h1,k1,h2,k2,h3,k3,h4,k4,rfl,f1,f2,f3,f4,hb9⟩;have hK2:=hK' w9 _ ⟨h1,k1,h2,k2,h3,k3,h4,k4,rfl,f1,f2,f3,f4⟩ hb9;clear hK' A f1 f2 f3 f4 hb9;go_simp;simpa[Ce,d1,d2,d3] using hK2
       ·clear hdep;have hK':=hK (w'.alloc (.cells CT 109)) (aF (aE ⟨w'.heap.size,0,aA⟩)) (by simp;exact .inr ⟨_,rfl,hx.below.size,DF.new w'⟩) (hx.made _ (Ck _ _) AK hLi) (.inr (Ck _ _));clear hK;rw[AP AN];go_simp;simpa[Ce] using hK'
       ·have l4:L 4=true:=(hdep ⟨4,aL⟩ AL rfl).1;have f4:OJ w' (t 4) ((mS (val 256 (sig.drop 32)) (EM bB) 256).1):=by have h:=(hdep ⟨4,aL⟩ AL rfl).2;simp at h;rcases h with h|h;(rw[hLi] at h;cases h);exact h
        have l5:L 5=true:=(hdep ⟨5,aL⟩ AL rfl).1;have f5:V5 w11.heap.size w' (t 5):=by have h:=(hdep ⟨5,aL⟩ AL rfl).2;simp at h;rcases h with h|h;(rw[hLi] at h;cases h);exact h
        clear hdep;have hK':∀ w9,Below w11.heap.size w' w9->V6 w9 (t 5) ((mS (val 256 (sig.drop 32)) (EM bB) 256).1)->K _ w9:=λw9 hb hf=>hK w9 undef (by simp[Cf]) (hx.set undef hb AK AK l5 l4 hf) (.inl rfl)
        clear hK;rw[AP AN];refine Kt (.tmp 15) (.tmp 69) rfl w11.heap.size ((mS (val 256 (sig.drop 32)) (EM bB) 256).1) (t 5) (t 4) rfl rfl f5 f4 ?_;intro w9 hb hf;have hK2:=hK' w9 hb hf;clear hK' hb hf;simpa[Ce,Act.put] using hK2
      case hdone=>
       intro L t w12 hx hg;have hl:L 6=true:=by simpa using hg 6 AK
       obtain⟨_,hf⟩:=hx.fin hl;have hb:=hx.below;clear hg hl hx;obtain⟨Gl,eGl,hGl⟩:=hf;have HB12:AO (Below w.heap.size w w12):=HB11.o.trans (hb.mono HB11.o.size);have HD12:=Cd (HD.o.below hb);have HPA12:=Cd (HPA.o.below hb);have HPR12:=Cd (HPR.o.below hb);have HPL12:=Cd hGl;have HK12:=Cd (HK.o.below hb);clear hb hGl HB11 HD HPA HPR HPB HK PW PF;simp only[eGl];clear eGl;go_wp2_with fail;obtain⟨r1,rc1,r2,rc2,r3,rc3,r4,rc4,rW,rf1,rf2,rf3,rf4⟩:=HPR12.o;have RW:=Cd rW;have RF:=Cd (BC rf1 (BC rf2 (BC rf3 rf4)));clear rW rf1 rf2 rf3 rf4;obtain⟨a1,ac1,a2,ac2,a3,ac3,a4,ac4,aW,af1,af2,af3,af4⟩:=HPA12.o;have AW:=Cd aW;have AF:=Cd (BC af1 (BC af2 (BC af3 af4)));clear aW af1 af2 af3 af4;refine Ag AM ?_;refine Cn (λi x y=>i=8\/Below x.heap.size x y) (frame:=(λ(a b c d e f g h i j k l m n o p q r s u v w x y z A B C D E F G H I J K L M N O P Q R S T U V W X Y Z a0 a1 a2 a3 a4 a5 a6 a7 a8 a9 b0 b1 b2 b3 b4 b5 b6 b7 b8 b9 c0 c1 c2 c3 c4:aB)=>λ(t:Nat->aB)=>({ tmps:=List.toArray [a,b,c,d,e,f,g,h,i,j,k,l,m,n,o,p,t 7,q,r,s,u,v,w,x,y,z,A,B,C,D,E,F,G,H,I,J,K,L,M,N,O,P,Q,R,S,T,U,V,W,X,Y,Z,a0,a1,a2,a3,a4,a5,a6,a7,a8,a9,b0,b1,b2,b3,b4,b5,b6,b7,t 0,t 1,t 2,t 3,t 4,t 5,t 6,b8,b9,c0,c1,c2,c3,c4],defers:=[] }:Act)) _ _ _ _ _ _ _ _ _ _ _ _ _ _ _ _ _ _ _ _ _ _ _ _ _ _ _ _ _ _ _ _ _ _ _ _ _ _ _ _ _ _ _ _ _ _ _ _ _ _ _ _ _ _ _ _ _ _ _ _ _ _ _ _ _ _ _ _ _ _ _ _ _ _ _ _)
        (Ext:=λL u w'=>OK w12 7 8 6 (F4 (EM (sig.take 32)) (mS (KF pub msg sig) (EM pub) 256).1) L u w') (Good:=λi L w' v=>if i=0 then v=aH #[Z7 (aE ⟨r1,0,aA⟩) 16 rc1,Z7 (aE ⟨r2,0,aA⟩) 16 rc2,Z7 (aE ⟨r3,0,aA⟩) 16 rc3,Z7 (aE ⟨r4,0,aA⟩) 16 rc4] else if i=1 then v=Z7 (aE ⟨gk,0,aA⟩) 32 ck else if i=2 then v=aH #[Z7 (aE ⟨a1,0,aA⟩) 16 ac1,Z7 (aE ⟨a2,0,aA⟩) 16 ac2,Z7 (aE ⟨a3,0,aA⟩) 16 ac3,Z7 (aE ⟨a4,0,aA⟩) 16 ac4] else if i=3 then v=Z7 (aE ⟨gd,0,aA⟩) 16 cd else if i=4 then(L 8=true\/OJ w' v ((mS (KF pub msg sig) (EM pub) 256).1)) else if i=5 then v=Z7 (aE ⟨gd,0,aA⟩) 16 cd else if i=6 then(L 8=true\/OJ w' v (F4 (EM (sig.take 32)) (mS (KF pub msg sig) (EM pub) 256).1)) else if i=7 then(L 8=true\/V5 w12.heap.size w' v) else if i=8 then L 8=true else True) ?hstab AM ?hop ?hdone _ _ ((λ(x0 x1 x2 x3 x4 x5 x6 x7:aB)=>λ(i:Nat)=>if i=0 then x0 else if i=1 then x1 else if i=2 then x2 else if i=3 then x3 else if i=4 then x4 else if i=5 then x5 else if i=6 then x6 else if i=7 then x7 else undef) _ _ _ _ _ _ _ _) _ AL ?ext ?start AL
       case start=>intro i hi h;exact absurd h Et
       case ext=>exact OK.start (λ_=>J6)
       case hstab=>
        intro j L w9 w' i v hM hij hLi h;have hu:∀ k,L k=true->Cf L i k=true:=λk hk=>by unfold Cf;split<;>simp[hk]
        by_cases h4:j=4
        ·subst h4;simp at h |-;rcases hM with rfl|hM
         ·exact .inl (by simp[Cf])
         ·rcases h with h|h
          ·exact .inl (hu _ h)
          ·exact .inr (h.below hM)
        by_cases h6:j=6
        ·subst h6;simp at h |-;rcases hM with rfl|hM
         ·exact .inl (by simp[Cf])
         ·rcases h with h|h
          ·exact .inl (hu _ h)
          ·exact .inr (h.below hM)
        by_cases h7:j=7
        ·subst h7;simp at h |-;rcases hM with rfl|hM
         ·exact .inl (by simp[Cf])
         ·rcases h with h|h
          ·exact .inl (hu _ h)
          ·exact .inr (h.below hM)
        by_cases hs:j=8
        ·subst hs;simp at h |-;exact hu _ h
        simp only[if_neg h4,if_neg h6,if_neg h7,if_neg hs] at h |-;exact h
       case hop=>
        intro i o L t w' ho hLi hx hdep K hK;have hi:i<9:=(AR.1 ho).1;obtain rfl|rfl|rfl|rfl|rfl|rfl|rfl|rfl|rfl:i=0\/i=1\/i=2\/i=3\/i=4\/i=5\/i=6\/i=7\/i=8:=AJ
        all_goals(simp at ho;subst ho)
        ·clear hdep;have hK':=hK w' (aH #[Z7 (aE ⟨r1,0,aA⟩) 16 rc1,Z7 (aE ⟨r2,0,aA⟩) 16 rc2,Z7 (aE ⟨r3,0,aA⟩) 16 rc3,Z7 (aE ⟨r4,0,aA⟩) 16 rc4]) AL (hx.step 0 _ Cg AK AK) (.inr Cg);clear hK;rw[AP AN];refine BR 109 (.tmp 11) rfl Gr rfl 109 _ (0,0) _ (RW.o.below hx.below RW.o.lt) underlying109 rfl Tryz.sizePt ?_;simpa[Ce,Act.put] using hK'
        ·clear hdep;have hK':=hK w' (Z7 (aE ⟨gk,0,aA⟩) 32 ck) AL (hx.step 1 _ Cg AK AK) (.inr Cg);clear hK;rw[AP AN];go_simp;simpa[Ce] using hK'
        ·clear hdep;have hK':=hK w' (aH #[Z7 (aE ⟨a1,0,aA⟩) 16 ac1,Z7 (aE ⟨a2,0,aA⟩) 16 ac2,Z7 (aE ⟨a3,0,aA⟩) 16 ac3,Z7 (aE ⟨a4,0,aA⟩) 16 ac4]) AL (hx.step 2 _ Cg AK AK) (.inr Cg);clear hK;rw[AP AN];refine BR 109 (.tmp 9) rfl Ga rfl 109 _ (0,0) _ (AW.o.below hx.below AW.o.lt) underlying109 rfl Tryz.sizePt ?_;simpa[Ce,Act.put] using hK'
        ·clear hdep;have hK':=hK w' (Z7 (aE ⟨gd,0,aA⟩) 16 cd) AL (hx.step 3 _ Cg AK AK) (.inr Cg);clear hK;rw[AP AN];go_simp;simpa[Ce] using hK'
        ·have d1:t 1=Z7 (aE ⟨gk,0,aA⟩) 32 ck:=by simpa using(hdep ⟨1,aL⟩ AL rfl).2
         have d2:t 2=aH #[Z7 (aE ⟨a1,0,aA⟩) 16 ac1,Z7 (aE ⟨a2,0,aA⟩) 16 ac2,Z7 (aE ⟨a3,0,aA⟩) 16 ac3,Z7 (aE ⟨a4,0,aA⟩) 16 ac4]:=by simpa using(hdep ⟨2,aL⟩ AL rfl).2
         have d3:t 3=Z7 (aE ⟨gd,0,aA⟩) 16 cd:=by simpa using(hdep ⟨3,aL⟩ AL rfl).2
         clear hdep;have A:=Cd (Jw (aE ⟨gk,0,aA⟩) ck ks a1 a2 a3 a4 gd ac1 ac2 ac3 ac4 cd (EM pub) w' HKV.o.2.1 HKV.o.1 (HK12.o.below hx.below).at_ (AF.o.1.below hx.below) (AF.o.2.1.below hx.below) (AF.o.2.2.1.below hx.below) (AF.o.2.2.2.below hx.below) (HD12.o.below hx.below));rw[HKV.o.2.2] at A;have A:=A.o;have hK':∀ ww v,OJ ww v ((mS (KF pub msg sig) (EM pub) 256).1)->Below w'.heap.size w' ww->K _ ww:=λww v hv hb=>hK ww v (by simp;exact .inr hv) (hx.step 4 v hb AK AK) (.inr hb)
         clear hK;rw[AP AN];go_simp;try simp only[d1,d2,d3]
         refine A.mono ?_;rintro e w9 ⟨h1,k1,h2,k2,h3,k3,h4,k4,rfl,f1,f2,f3,f4,hb9⟩;have hK2:=hK' w9 _ ⟨h1,k1,h2,k2,h3,k3,h4,k4,rfl,f1,f2,f3,f4⟩ hb9;clear hK' A f1 f2 f3 f4 hb9;go_simp;simpa[Ce,d1,d2,d3] using hK2
        ·clear hdep;have hK':=hK w' (Z7 (aE ⟨gd,0,aA⟩) 16 cd) AL (hx.step 5 _ Cg AK AK) (.inr Cg);clear hK;rw[AP AN];go_simp;simpa[Ce] using hK'
        ·have d0:t 0=aH #[Z7 (aE ⟨r1,0,aA⟩) 16 rc1,Z7 (aE ⟨r2,0,aA⟩) 16 rc2,Z7 (aE ⟨r3,0,aA⟩) 16 rc3,Z7 (aE ⟨r4,0,aA⟩) 16 rc4]:=by simpa using(hdep ⟨0,aL⟩ AL rfl).2
         have l4:L 4=true:=(hdep ⟨4,aL⟩ AL rfl).1;have f4:L 8=true\/OJ w' (t 4) ((mS (KF pub msg sig) (EM pub) 256).1):=by have h:=(hdep ⟨4,aL⟩ AL rfl).2;simpa using h
         have d5:t 5=Z7 (aE ⟨gd,0,aA⟩) 16 cd:=by simpa using(hdep ⟨5,aL⟩ AL rfl).2
         clear hdep;rcases f4 with f4|f4
         ·have:=(hx.fin f4).1.2;rw[hLi] at this;cases this
         refine f4.elim_ λq1 e1 q2 e2 q3 e3 q4 e4 d4 y1 y2 y3 y4=>?_
         have A:=JL (aE ⟨r1,0,aA⟩) (aE ⟨r2,0,aA⟩) (aE ⟨r3,0,aA⟩) (aE ⟨r4,0,aA⟩) (aE ⟨q1,0,aA⟩) (aE ⟨q2,0,aA⟩) (aE ⟨q3,0,aA⟩) (aE ⟨q4,0,aA⟩) (aE ⟨gd,0,aA⟩) rc1 rc2 rc3 rc4 e1 e2 e3 e4 cd _ _ _ _ _ _ _ _ Dy w' (λe he=>by
           simp only[List.mem_cons,List.not_mem_nil,or_false] at he;rcases he with rfl|rfl|rfl|rfl|rfl|rfl|rfl|rfl|rfl
           ·exact RF.o.1.below hx.below
           ·exact RF.o.2.1.below hx.below
           ·exact RF.o.2.2.1.below hx.below
           ·exact RF.o.2.2.2.below hx.below
           ·exact y1
           ·exact y2
           ·exact y3
           ·exact y4
           ·exact HD12.o.below hx.below)
         have hK':∀ ww v,OJ ww v (F4 (EM (sig.take 32)) (mS (KF pub msg sig) (EM pub) 256).1)->Below w'.heap.size w' ww->K _ ww:=λww v hv hb=>hK ww v (by simp;exact .inr hv) (hx.step 6 v hb AK AK) (.inr hb)
         clear hK;rw[AP AN];go_simp;try simp only[d0,d5,d4]
         refine A.mono ?_;rintro e w9 ⟨h1,k1,h2,k2,h3,k3,h4,k4,rfl,f1,f2,f3,f4x,hb9,_⟩;have hK2:=hK' w9 _ ⟨h1,k1,h2,k2,h3,k3,h4,k4,rfl,f1,f2,f3,f4x⟩ hb9;clear hK' A f1 f2 f3 f4x hb9;go_simp;simpa[Ce,d0,d5,d4] using hK2
        ·clear hdep;have hK':=hK (w'.alloc (.cells CT 109)) (aF (aE ⟨w'.heap.size,0,aA⟩)) (by simp;exact .inr ⟨_,rfl,hx.below.size,DF.new w'⟩) (hx.made _ (Ck _ _) AK hLi) (.inr (Ck _ _));clear hK;rw[AP AN];go_simp;simpa[Ce] using hK'
        ·have l6:L 6=true:=(hdep ⟨6,aL⟩ AL rfl).1;have f6:OJ w' (t 6) (F4 (EM (sig.take 32)) (mS (KF pub msg sig) (EM pub) 256).1):=by have h:=(hdep ⟨6,aL⟩ AL rfl).2;simp at h;rcases h with h|h;(rw[hLi] at h;cases h);exact h
         have l7:L 7=true:=(hdep ⟨7,aL⟩ AL rfl).1;have f7:V5 w12.heap.size w' (t 7):=by have h:=(hdep ⟨7,aL⟩ AL rfl).2;simp at h;rcases h with h|h;(rw[hLi] at h;cases h);exact h
         clear hdep;have hK':∀ w9,Below w12.heap.size w' w9->V6 w9 (t 7) (F4 (EM (sig.take 32)) (mS (KF pub msg sig) (EM pub) 256).1)->K _ w9:=λw9 hb hf=>hK w9 undef (by simp[Cf]) (hx.set undef hb AK AK l7 l6 hf) (.inl rfl)
         clear hK;rw[AP AN];refine Kt (.tmp 16) (.tmp 76) rfl w12.heap.size (F4 (EM (sig.take 32)) (mS (KF pub msg sig) (EM pub) 256).1) (t 7) (t 6) rfl rfl f7 f6 ?_;intro w9 hb hf;have hK2:=hK' w9 hb hf;clear hK' hb hf;simpa[Ce,Act.put] using hK2
       case hdone=>
        intro L t w13 hx hg;have hl:L 8=true:=by simpa using hg 8 AK
        obtain⟨_,hf⟩:=hx.fin hl;have hb:=hx.below;clear hg hl hx;obtain⟨Gs,eGs,hGs⟩:=hf;have HB13:AO (Below w.heap.size w w13):=HB12.o.trans (hb.mono HB12.o.size);have HPL13:=Cd (HPL12.o.below hb);have HPS13:=Cd hGs;clear hb hGs HB12 HD12 HPA12 HPR12 HPL12 HK12 RW RF AW AF;simp only[eGs];clear eGs;go_wp2_with fail;obtain⟨l1,lc1,l2,lc2,l3,lc3,l4,lc4,lW,lf1,lf2,lf3,lf4⟩:=HPL13.o;have LW:=Cd lW;have LF:=Cd (BC lf1 (BC lf2 (BC lf3 lf4)));clear lW lf1 lf2 lf3 lf4;obtain⟨s1,sc1,s2,sc2,s3,sc3,s4,sc4,sW,sf1,sf2,sf3,sf4⟩:=HPS13.o;have SW:=Cd sW;have SF:=Cd (BC sf1 (BC sf2 (BC sf3 sf4)));clear sW sf1 sf2 sf3 sf4;refine Ag AM ?_;refine Cn (λ_ a b=>Below a.heap.size a b) (frame:=(λ(a b c d e f g h i j k l m n o p q r s u v w x y z A B C D E F G H I J K L M N O P Q R S T U V W X Y Z a0 a1 a2 a3 a4 a5 a6 a7 a8 a9 b0 b1 b2 b3 b4 b5 b6 b7 b8 b9 c0 c1 c2 c3 c4:aB)=>λ(t:Nat->aB)=>({ tmps:=List.toArray [a,b,c,d,e,f,t 7,g,h,i,j,k,l,m,n,o,p,q,r,s,u,v,w,x,y,z,A,B,C,D,E,F,G,H,I,J,K,L,M,N,O,P,Q,R,S,T,U,V,W,X,Y,Z,a0,a1,a2,a3,a4,a5,a6,a7,a8,a9,b0,b1,b2,b3,b4,b5,b6,b7,b8,b9,c0,c1,c2,c3,c4,t 0,t 1,t 2,t 3,t 4,t 5,t 6],defers:=[] }:Act)) _ _ _ _ _ _ _ _ _ _ _ _ _ _ _ _ _ _ _ _ _ _ _ _ _ _ _ _ _ _ _ _ _ _ _ _ _ _ _ _ _ _ _ _ _ _ _ _ _ _ _ _ _ _ _ _ _ _ _ _ _ _ _ _ _ _ _ _ _ _ _ _ _ _ _ _)
         (Ext:=λL u w'=>JC w13 [] L u w') (Good:=λi L w' v=>if i=0 then v=aH #[Z7 (aE ⟨l1,0,aA⟩) 16 lc1,Z7 (aE ⟨l2,0,aA⟩) 16 lc2,Z7 (aE ⟨l3,0,aA⟩) 16 lc3,Z7 (aE ⟨l4,0,aA⟩) 16 lc4] else if i=1 then Ux w' v (NH ((mS (val 256 (sig.drop 32)) (EM bB) 256).1)) else if i=2 then XF w' v (NH ((mS (val 256 (sig.drop 32)) (EM bB) 256).1)) else if i=3 then v=aH #[Z7 (aE ⟨s1,0,aA⟩) 16 sc1,Z7 (aE ⟨s2,0,aA⟩) 16 sc2,Z7 (aE ⟨s3,0,aA⟩) 16 sc3,Z7 (aE ⟨s4,0,aA⟩) 16 sc4] else if i=4 then Ux w' v (NH (F4 (EM (sig.take 32)) (mS (KF pub msg sig) (EM pub) 256).1)) else if i=5 then XF w' v (NH (F4 (EM (sig.take 32)) (mS (KF pub msg sig) (EM pub) 256).1)) else if i=6 then v=aG (Iq pub msg sig) else if i=7 then v=aG (Iq pub msg sig) else True) ?hstab AM ?hop ?hdone _ _ ((λ(x0 x1 x2 x3 x4 x5 x6 x7:aB)=>λ(i:Nat)=>if i=0 then x0 else if i=1 then x1 else if i=2 then x2 else if i=3 then x3 else if i=4 then x4 else if i=5 then x5 else if i=6 then x6 else if i=7 then x7 else undef) _ _ _ _ _ _ _ _) _ AL ?ext ?start AL
        case start=>intro i hi h;exact absurd h Et
        case ext=>exact(JC.start w13 [] _ _ (λ_=>J6)).drew
        case hstab=>
         intro j L w9 w' i v hM _ _ h;by_cases h1:j=1
         ·subst h1;simp at h |-;exact h.below hM
         by_cases h2:j=2
         ·subst h2;simp at h |-;exact h.below hM
         by_cases h4:j=4
         ·subst h4;simp at h |-;exact h.below hM
         by_cases h5:j=5
         ·subst h5;simp at h |-;exact h.below hM
         simp only[if_neg h1,if_neg h2,if_neg h4,if_neg h5] at h |-;exact h
        case hop=>
         intro i o L t w' ho hLi hx hdep K hK;have hi:i<8:=(AR.1 ho).1;obtain rfl|rfl|rfl|rfl|rfl|rfl|rfl|rfl:i=0\/i=1\/i=2\/i=3\/i=4\/i=5\/i=6\/i=7:=AJ
         all_goals(simp at ho;subst ho)
         ·clear hdep;have hK':=hK w' (aH #[Z7 (aE ⟨l1,0,aA⟩) 16 lc1,Z7 (aE ⟨l2,0,aA⟩) 16 lc2,Z7 (aE ⟨l3,0,aA⟩) 16 lc3,Z7 (aE ⟨l4,0,aA⟩) 16 lc4]) AL (hx.step 0 _ Cg DY) Cg;clear hK;rw[AP AN];refine BR 109 (.tmp 15) rfl Gl rfl 109 _ (0,0) _ (LW.o.below hx.below LW.o.lt) underlying109 rfl Tryz.sizePt ?_;simpa[Ce,Act.put] using hK'
         ·have d0:t 0=aH #[Z7 (aE ⟨l1,0,aA⟩) 16 lc1,Z7 (aE ⟨l2,0,aA⟩) 16 lc2,Z7 (aE ⟨l3,0,aA⟩) 16 lc3,Z7 (aE ⟨l4,0,aA⟩) 16 lc4]:=by simpa using(hdep ⟨0,aL⟩ AL rfl).2
          clear hdep;have A:=Mt (aE ⟨l1,0,aA⟩) (aE ⟨l2,0,aA⟩) (aE ⟨l3,0,aA⟩) (aE ⟨l4,0,aA⟩) lc1 lc2 lc3 lc4 _ _ _ w' (LF.o.1.below hx.below) (LF.o.2.1.below hx.below) (LF.o.2.2.1.below hx.below);have hK':∀ ww v,Ux ww v (NH ((mS (val 256 (sig.drop 32)) (EM bB) 256).1))->Below w'.heap.size w' ww->K _ ww:=λww v hv hb=>hK ww v (by simpa using hv) (hx.step 1 v hb DY) hb
          clear hK;rw[AP AN];go_simp;try simp only[d0]
          refine A.mono ?_;rintro e w9 ⟨v9,bx,rfl,o9,hy,hl,hv,hb9⟩;have hK2:=hK' w9 v9 (by obtain⟨g,c,e,hA,_⟩:=Fq.of_own o9;rw[hl] at e;exact⟨g,c,bx,e,hA,hy,hl,hv⟩) hb9;clear hK' A o9 hy hl hv hb9;go_simp;simpa[Ce,d0] using hK2
         ·have f1:Ux w' (t 1) (NH ((mS (val 256 (sig.drop 32)) (EM bB) 256).1)):=by simpa using(hdep ⟨1,aL⟩ AL rfl).2
          clear hdep;refine Exists.elim f1 λgg hh=>?_
          obtain⟨cc,bx,dj,hA,hy,hl,hv⟩:=hh;have hcv:=run_convert_bytes_arg w' 26 5 underlying26 underlying5 gg 0 32 cc bx hl (λi hi=>hA.c i (by rw[hl];exact hi)) 9 underlying9;have hK':=hK w' (.string (strOfNums bx)) (by simpa using⟨bx,rfl,hy,hl,hv⟩) (hx.step 2 _ Cg DY) Cg;clear hK hA;rw[AP AN];go_simp;simpa[Ce,dj,hcv] using hK'
         ·clear hdep;have hK':=hK w' (aH #[Z7 (aE ⟨s1,0,aA⟩) 16 sc1,Z7 (aE ⟨s2,0,aA⟩) 16 sc2,Z7 (aE ⟨s3,0,aA⟩) 16 sc3,Z7 (aE ⟨s4,0,aA⟩) 16 sc4]) AL (hx.step 3 _ Cg DY) Cg;clear hK;rw[AP AN];refine BR 109 (.tmp 16) rfl Gs rfl 109 _ (0,0) _ (SW.o.below hx.below SW.o.lt) underlying109 rfl Tryz.sizePt ?_;simpa[Ce,Act.put] using hK'
         ·have d3:t 3=aH #[Z7 (aE ⟨s1,0,aA⟩) 16 sc1,Z7 (aE ⟨s2,0,aA⟩) 16 sc2,Z7 (aE ⟨s3,0,aA⟩) 16 sc3,Z7 (aE ⟨s4,0,aA⟩) 16 sc4]:=by simpa using(hdep ⟨3,aL⟩ AL rfl).2
          clear hdep;have A:=Mt (aE ⟨s1,0,aA⟩) (aE ⟨s2,0,aA⟩) (aE ⟨s3,0,aA⟩) (aE ⟨s4,0,aA⟩) sc1 sc2 sc3 sc4 _ _ _ w' (SF.o.1.below hx.below) (SF.o.2.1.below hx.below) (SF.o.2.2.1.below hx.below);have hK':∀ ww v,Ux ww v (NH (F4 (EM (sig.take 32)) (mS (KF pub msg sig) (EM pub) 256).1))->Below w'.heap.size w' ww->K _ ww:=λww v hv hb=>hK ww v (by simpa using hv) (hx.step 4 v hb DY) hb
          clear hK;rw[AP AN];go_simp;try simp only[d3]
          refine A.mono ?_;rintro e w9 ⟨v9,bx,rfl,o9,hy,hl,hv,hb9⟩;have hK2:=hK' w9 v9 (by obtain⟨g,c,e,hA,_⟩:=Fq.of_own o9;rw[hl] at e;exact⟨g,c,bx,e,hA,hy,hl,hv⟩) hb9;clear hK' A o9 hy hl hv hb9;go_simp;simpa[Ce,d3] using hK2
         ·have f4:Ux w' (t 4) (NH (F4 (EM (sig.take 32)) (mS (KF pub msg sig) (EM pub) 256).1)):=by simpa using(hdep ⟨4,aL⟩ AL rfl).2
          clear hdep;refine Exists.elim f4 λgg hh=>?_
          obtain⟨cc,bx,dj,hA,hy,hl,hv⟩:=hh;have hcv:=run_convert_bytes_arg w' 26 5 underlying26 underlying5 gg 0 32 cc bx hl (λi hi=>hA.c i (by rw[hl];exact hi)) 9 underlying9;have hK':=hK w' (.string (strOfNums bx)) (by simpa using⟨bx,rfl,hy,hl,hv⟩) (hx.step 5 _ Cg DY) Cg;clear hK hA;rw[AP AN];go_simp;simpa[Ce,dj,hcv] using hK'
         ·have f2:XF w' (t 2) (NH ((mS (val 256 (sig.drop 32)) (EM bB) 256).1)):=by simpa using(hdep ⟨2,aL⟩ AL rfl).2
          have f5:XF w' (t 5) (NH (F4 (EM (sig.take 32)) (mS (KF pub msg sig) (EM pub) 256).1)):=by simpa using(hdep ⟨5,aL⟩ AL rfl).2
          clear hdep;refine Exists.elim f2 λbx hh=>?_
          obtain⟨d2,hy,hl,hv⟩:=hh;refine Exists.elim f5 λbz hh'=>?_
          obtain⟨d5,hy',hl',hv'⟩:=hh';have hq:((strOfNums bx).toList == (strOfNums bz).toList)=Iq pub msg sig:=by rw[Uy hy hy' hl hl',hv,hv'];rfl
          have hK':=hK w' (aG (Iq pub msg sig)) AL (hx.step 6 _ Cg DY) Cg;clear hK hv hv';generalize Iq pub msg sig=bb at *;rw[AP AN];go_simp;simpa[Ce,d2,d5,hq] using hK'
         ·have d6:t 6=aG (Iq pub msg sig):=by simpa using(hdep ⟨6,aL⟩ AL rfl).2
          clear hdep;have hK':=hK w' (aG (Iq pub msg sig)) AL (hx.step 7 _ Cg DY) Cg;clear hK;rw[AP AN];go_simp;simpa[Ce,d6] using hK'
        case hdone=>
         intro L t w14 hx hg;have e7:t 7=aG (Iq pub msg sig):=by simpa using hg 7 AK
         have HBF:AO (Below w.heap.size w w14):=HB13.o.trans (hx.below.mono HB13.o.size);clear hg hx HB13 LW LF SW SF;simp only[e7];clear e7;go_wp2
         go_ret
         exact⟨by rw[HVR.o];rfl,HBF.o⟩
  ·have HV:=Cd (Uz (pub:=pub) (msg:=msg) (sig:=sig) (by rw[hsl];exact h64));have h65:¬ ((ns:Int)=64):=AJ
   have h66:((ns:Int) != 64)=true:=by simpa using h65
   go_enter func57,ntmps57;go_wp2
   go_ret
   exact⟨by rw[HV.o];rfl,A9 _ _⟩
 ·have HV:=Cd (U2 (pub:=pub) (msg:=msg) (sig:=sig) (by rw[hpl];exact h32));have h65:¬ ((np:Int)=32):=AJ
  have h66:((np:Int) != 32)=true:=by simpa using h65
  go_enter func57,ntmps57;go_wp2
  go_ret
  exact⟨by rw[HV.o];rfl,A9 _ _⟩
end Go.Proofs.YtjdhhgaelgemcaaGreatDoor
