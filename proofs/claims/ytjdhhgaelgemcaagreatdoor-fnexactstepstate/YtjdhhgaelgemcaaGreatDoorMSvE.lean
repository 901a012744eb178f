import Derived.Test.YtjdhhgaelgemcaaGreatDoorMApx
import Derived.Test.YtjdhhgaelgemcaaGreatDoorMSAf
open Go.Proofs.Tryz renaming prog->tP
open Go.Proofs.Tryz
open Go.Value renaming slice->Z7,int->Z8
open Go.IntKind renaming i64->aI
open Option renaming none->aA
open Go renaming World->aC,Value->aB
set_option maxHeartbeats 2000000
set_option maxRecDepth 100000
namespace Go.Proofs.YtjdhhgaelgemcaaGreatDoor
open Go.ChangeShapes Go.WideShapes Go.ChangeAt Go.RowKit
set_option linter.unusedVariables false
theorem UW (a:Option Addr) (n cap:Nat) (zs:List Int) (w:aC) (hn:zs.length=n) (hm:n<=1048576) (ha:At aI w a zs) :
  Calls tP 27 #[Z7 a n cap] w λe w'=>e=.returned (Z7 (some ⟨w.heap.size,0,aA⟩) n n)/\
   w'.ownsRow w.heap.size 2 1 (Z7 (some ⟨w.heap.size,0,aA⟩) n n) n (zs.map (Value.int aI))/\Below w.heap.size w w':=by
 obtain⟨i0,hi,hz0,hz1,hz2⟩:=Bh Tryz.infoI64;have HI:AO (i0.bytes=8):=hz2;clear hz2;go_enter func27,ntmps27;go_wp2_with (first
  |(at_make;refine wpList_make_full _ rfl _ _ 22 rfl w.heap.size 2 i0 (Z8 aI 0) 1 underlying22 hi hz0 hz1 _ _ _ _ n rfl rfl rfl rfl ?c1 ?c2 ?c3 ?_)
  |fail)
 case c1=>rw[HI.o];omega
 case c2=>unfold maxLen;omega
 case c3=>exact Ac _
 intro w1 hown hgrow;have hb1:Below w.heap.size w w1:=Cg.grown hgrow Cl AL;have hown0:w1.ownsRow w.heap.size 2 1 (Z7 (some ⟨w.heap.size,0,aA⟩) n n) n ((cp zs 0).map (Value.int aI)):=by
  have e:(madeCells #[Z8 aI 0] n).toList=(cp zs 0).map (Value.int aI):=by
   rw[OR];simp only[toList_madeCells_one,List.map_replicate,hn]
  rw[<-e];exact hown
 clear hown hgrow;go_wp2
 go_loopw [4] (λi wr=>∃ k:Nat,k<=n/\i=Z8 aI k/\wr.ownsRow w.heap.size 2 1 (Z7 (some ⟨w.heap.size,0,aA⟩) n n) n ((cp zs k).map (Value.int aI))/\Below w.heap.size w wr) (λi _=>n-(intOf i).toNat)
 case atStart=>exact⟨0,Au _,rfl,hown0,hb1⟩
 case round=>
  obtain⟨k,hk,rfl,hown,hbel⟩:=hrel;by_cases hlt:k<n
  ·obtain⟨b,off,rfl,hb,hc⟩:=ha.get AJ;have hck:wr.cell? ⟨b,off+k,aA⟩=some (Z8 aI (zs.getD k 0)):=by rw[hbel.cell (p:=⟨b,off+k,aA⟩) hb];exact hc k AJ
   have hst:=hown.stored k (Z8 aI (zs.getD k 0));have hmem:wr.cell? ⟨w.heap.size,k,aA⟩=some (Z8 aI ((cp zs k).getD k 0)):=by
    rw[hown.cellAt k AJ];have:=Qx zs k AJ;simp[show k<(cp zs k).length by omega]
   have hfz:=hown.frozenAt k;rw[<-List.map_set,OT zs k AJ] at hst;have HX:=hst.1;have HB:Below w.heap.size w (wr.setCell ⟨w.heap.size,k,aA⟩ (Z8 aI (zs.getD k 0))):=hbel.setCell Cl _;clear hst hown hc ha hbel hown0 hb1;generalize zs.getD k 0=x at *;generalize (cp zs k).getD k 0=y at *;have HXX:AO _:=HX;have HBB:AO _:=HB;clear HX HB;go_wp2;go_roundw
   case rel=>exact⟨k+1,AJ,by go_num,HXX.o,HBB.o⟩
   case measure=>simp[intOf];omega
  ·have hkn:k=zs.length:=AJ
   have HO:AO (wr.ownsRow w.heap.size 2 1 (Z7 (some ⟨w.heap.size,0,aA⟩) n n) n (zs.map (Value.int aI))):=by rw[hkn,Qw] at hown;exact hown
   clear hown;go_wp2
   go_ret
   exact⟨rfl,HO.o,hbel⟩
theorem Ov (a:Option Addr) (n cap:Nat) (left:Int) (w:aC) (h0:0<=left) (h1:left<=1048576) (hn:n<=9223372036854775807) :
  Calls tP 20 #[Z7 a n cap,Z8 aI left] w λe w'=>e=.returned (Z8 aI (Hd left n))/\w'=w:=by
 have HZ:AO (Hd left n=if left<n then -1 else left-n):=rfl;by_cases h:left<n
 ·have t:left-(n:Int)<0:=AJ
  go_enter func20,ntmps20;go_wp2
  go_ret
  exact⟨DS (by rw[HZ.o,AP h]),rfl⟩
 ·have t:¬ (left-(n:Int)<0):=AJ
  go_enter func20,ntmps20;go_wp2
  go_ret
  exact⟨DS (by rw[HZ.o,AQ AJ]),rfl⟩
theorem UZ (a:Option Addr) (n cap:Nat) (left:Int) (w:aC) (h0:0<=left) (h1:left<=1048576) (hn:n<=9223372036854775807) :
  Calls tP 21 #[Z7 a n cap,Z8 aI left] w λe w'=>e=.returned (Z8 aI (Hd left n))/\w'=w:=by
 have HZ:AO (Hd left n=if left<n then -1 else left-n):=rfl;by_cases h:left<n
 ·have t:left-(n:Int)<0:=AJ
  go_enter func21,ntmps21;go_wp2
  go_ret
  exact⟨DS (by rw[HZ.o,AP h]),rfl⟩
 ·have t:¬ (left-(n:Int)<0):=AJ
  go_enter func21,ntmps21;go_wp2
  go_ret
  exact⟨DS (by rw[HZ.o,AQ AJ]),rfl⟩
def Ho (zs:List Int):Nat->List Int
 |0=>Nm
 |k+1=>D6 (Ho zs k) (D7 (zs.drop (128*k)))
theorem Ow (zs:List Int) (k:Nat):W8 (Ho zs k):=by
 cases k with
 |zero=>exact LI
 |succ k=>exact Fl _ _
def Ge (zs:List Int):List Int:=GQ (IT (Ho zs (zs.length/128)) (zs.drop (128*(zs.length/128))) zs.length)
theorem LM (hs zs:List Int) (n:Int):W8 (IT hs zs n):=by
 unfold IT;split
 ·exact Fl _ _
 ·exact Fl _ _
structure KS (w:aC) (G:Nat) (hs:List Int) (y:aC):Prop where
 wds:Ch y G 173 hs
 tab:D4 y
 below:Below w.heap.size w y
 hi:w.heap.size<=G
theorem KS.frg {w:aC} {G:Nat} {hs hs':List Int} {y y':aC} (h:KS w G hs y) (hz:1<w.heap.size) (hf:MQ G y y') (hr:Ch y' G 173 hs'):KS w G hs' y':=by
 have:=h.hi;exact⟨hr,h.tab.frg (λk hk e=>hf.block k hk AJ),h.below.trans (hf.below h.hi h.below.size),h.hi⟩
theorem KS.new {w:aC} {G:Nat} {hs:List Int} {y y':aC} (h:KS w G hs y) (hz:1<w.heap.size) (hb:Below y.heap.size y y'):KS w G hs y':=
 ⟨h.wds.below hb h.wds.lt,h.tab.frg (λk hk _=>hb.block k hk),h.below.trans (hb.mono h.below.size),h.hi⟩
theorem DM.lower {w:aC} {B B':Nat} {v:aB} {zs:List Int} (h:DM w B' v zs) (hB:B<=B'):DM w B v zs:=by
 obtain⟨⟨h1,h2⟩,h3⟩:=h;refine⟨⟨h1,?_⟩,h3⟩;rcases h2 with h|⟨g,cap,cur,e,hg,r⟩
 ·exact .inl h
 ·exact .inr ⟨g,cap,cur,e,BG hB hg,r⟩
theorem R5 (a:Option Addr) (n cap:Nat) (zs:List Int) (w:aC) (hn:zs.length=n) (ha:At .u8 w a zs) (hz:Ci zs) (hm:n<=2097152) (hcap:n<=cap) (hT:D4 w) (h0:1<w.heap.size) :
  Calls tP 107 #[Z7 a n cap] w λe w'=>∃ v,e=.returned v/\DM w' w.heap.size v (Ge zs)/\Below w.heap.size w w':=by
 have z1:=Rn;have z2:=Oq;have z3:=Ro;have A:=Cd (QD w hT h0);have HT:=Cd hT;have HA:=Cd ha;have HZ:=Cd hz;have HN:=Cd hn;clear hn ha hz hT;go_enter func107,ntmps107;go_wp2_with fail;refine A.o.mono ?_;rintro e w1 ⟨rfl,b1⟩;have HB1:=Cd b1;clear A b1;have HZN:AO (Ch (w1.alloc (.cells Cb 173)) w1.heap.size 173 [0,0,0,0,0,0,0,0]):=AX w1 _;have HAL:AO (Below w1.heap.size w1 (w1.alloc (.cells Cb 173))):=Cg.alloc Cl _;have HL:=Cd LI.1;go_wp2_with (first
  |(refine Ev rfl (.tmp 3) (.tmp 6) rfl Tryz.sizeWds w1.heap.size Nm [0,0,0,0,0,0,0,0] rfl rfl HL.o rfl HZN.o ?_)
  |fail)
 intro w2 hr2 hw2;have hs1:=HB1.o.size;have HK:AO (KS w w1.heap.size (Ho zs 0) w2):=⟨hr2,((HT.o.frg (λk hk _=>HB1.o.block k hk)).frg (λk hk _=>HAL.o.block k hk)).frg (λk _ e=>hw2.block k AJ),(HB1.o.trans (HAL.o.mono hs1)).trans (hw2.below hs1),hs1⟩
 clear hr2 hw2 HB1 HAL HZN HL HT;go_wp2
 go_loopw [4] (λv wr=>∃(k:Nat) (a':Option Addr) (c':Nat),128*k<=n/\v=Z7 a' (n-128*k) c'/\n-128*k<=c'/\At .u8 w a' (zs.drop (128*k))/\KS w w1.heap.size (Ho zs k) wr) (λv _=>lenOf v)
 case atStart=>exact⟨0,a,cap,AJ,rfl,AJ,HA.o,HK.o⟩
 case round=>
  clear HK;obtain⟨k,a',c',hk,rfl,hc',ha',hst⟩:=hrel;have HK:=Cd hst;have HA':=Cd ha';have hlen:(zs.drop (128*k)).length=n-128*k:=by rw[BJ,HN.o]
  have HBY:AO (Ci (zs.drop (128*k))):=λz h=>HZ.o z (Bf h)
  have HDL:=Cd hlen;clear hst ha' hlen;by_cases hge:128<=n-128*k
  ·have hge':(128:Int)<=((n-128*k:Nat):Int):=AJ
   have HBL:AO (Ho zs (k+1)=D6 (Ho zs k) (D7 (zs.drop (128*k)))):=rfl;obtain⟨b,off,rfl,hb0,hcc⟩:=HA'.o.get (by rw[HDL.o];omega);have HN2:AO (n-128*(k+1)=n-128*k-128):=by show _=_;omega
   have HD2:AO (zs.drop (128*(k+1))=(zs.drop (128*k)).drop 128):=by show _=_;rw[List.drop_drop];congr 1
   have HK1:AO (128*(k+1)<=n):=by show _<=_;omega
   have HCC:=Cd hcc;clear hcc;obtain⟨m,hm'⟩:∃ m,m=n-128*k:=⟨_,rfl⟩
   rw[<-hm'] at HN2 HDL hge hge' hc' |-;have hmm:m<=2097152:=AJ
   clear hm';have B:=Cd (Or (some ⟨b,off,aA⟩) m c' (zs.drop (128*k)) wr HDL.o (HA'.o.below HK.o.below) hmm);go_wp2_with fail;refine B.o.mono ?_;rintro e w3 ⟨rfl,b3⟩;have HK3:=Cd (HK.o.new h0 b3);clear b3 B HK;have HZN:AO (EF (w3.alloc (.cells Ii 176)) w3.heap.size 176 (List.replicate 128 0)):=by show _=_;rw[AX,MO]
   have HAL:AO (Below w3.heap.size w3 (w3.alloc (.cells Ii 176))):=Cg.alloc Cl _;have HLB:=Cd (ED (zs.drop (128*k)));go_wp2_with (first
    |(refine EJ rfl (.tmp 5) (.tmp 12) rfl Tryz.sizeBlk w3.heap.size (D7 (zs.drop (128*k))) (List.replicate 128 0) rfl rfl HLB.o AL HZN.o ?_)
    |fail)
   intro w4 hr4 hw4;have hlt3:=HK3.o.wds.lt;have hsz3:=HK3.o.below.size;have hz3:=HK3.o.hi;have b34:Below w3.heap.size w3 w4:=HAL.o.trans (hw4.below Cl);have HK4:=Cd (HK3.o.new h0 b34);have HG0:AO (w1.heap.size≠1):=by show ¬ _;omega
   have C:=Cd (JG w1.heap.size w3.heap.size (Ho zs k) (D7 (zs.drop (128*k))) w4 HK4.o.wds (Ow _ _) hr4 HLB.o (Jl HBY.o) HK4.o.tab HG0.o);clear hr4 hw4 b34 HK3 HZN HAL;go_wp2_with fail;refine C.o.mono ?_;rintro e w5 ⟨rfl,r5,b5⟩;have HK5:AO (KS w w1.heap.size (Ho zs (k+1)) w5):=by rw[HBL.o];exact HK4.o.frg h0 b5 r5
   clear r5 b5 C HK4;go_wp2;refine⟨⟨k+1,_,c'-128,HK1.o,by rw[HN2.o],by rw[HN2.o];omega,?_,HK5.o⟩,by show m-128<m;omega⟩;rw[HD2.o];by_cases hcc:c'=128
   ·exact .inl (BP (by rw[BJ,HDL.o];omega))
   ·rw[AQ hcc];refine .inr ⟨b,off+128,rfl,hb0,λi hi=>?_⟩;rw[BJ] at hi;rw[Ax,HCC.o (128+i) AJ,AS,AS,List.getElem?_drop,List.getElem?_drop,List.getElem?_drop]
  ·have hge':¬ ((128:Int)<=((n-128*k:Nat):Int)):=AJ
   have HQ:AO (Ge zs=GQ (IT (Ho zs k) (zs.drop (128*k)) (n:Int))):=by
    show _=_
    unfold Ge;rw[HN.o,show n/128=k by omega]
   have HUN:AO (EE (n:Int)):=⟨AJ,AJ⟩
   have HG0:AO (w1.heap.size≠1):=by show ¬ _;omega
   obtain⟨m,hm'⟩:∃ m,m=n-128*k:=⟨_,rfl⟩
   rw[<-hm'] at HDL hge hge' hc' |-;have hmm:m<128:=AJ
   clear hm';have B:=Cd (UV w1.heap.size (Ho zs k) a' m c' (zs.drop (128*k)) (n:Int) wr HK.o.wds (Ow _ _) HDL.o (HA'.o.below HK.o.below) HBY.o hmm HK.o.tab HG0.o HUN.o);go_wp2_with fail;refine B.o.mono ?_;rintro e w3 ⟨rfl,r3,b3⟩;have HK3:AO (KS w w1.heap.size (IT (Ho zs k) (zs.drop (128*k)) n) w3):=HK.o.frg h0 b3 r3;clear r3 b3 B HK;have C:=Cd (QE w1.heap.size _ w3 HK3.o.wds (LM _ _ _));go_wp2_with fail;refine C.o.mono ?_;rintro e w4 ⟨v,rfl,o4,b4⟩;have HO:AO (DM w4 w.heap.size v (Ge zs)):=by rw[HQ.o];exact o4.lower HK3.o.below.size
   have HB:AO (Below w.heap.size w w4):=HK3.o.below.trans (b4.mono HK3.o.below.size);clear o4 b4 C HK3;go_wp2
   go_ret
   exact⟨_,rfl,HO.o,HB.o⟩
def R6 (tb:List (Nat×Nat)) (L:Nat->Bool):Prop:=∀ p,p∈tb->L p.1=true->L p.2=true
theorem Da (L:Nat->Bool) {i j:Nat} (h:j≠i):Cf L i j=L j:=by unfold Cf;rw[AQ h]
theorem Fz (L:Nat->Bool) (i:Nat):Cf L i i=true:=by unfold Cf;rw[AP rfl]
theorem FE (u:Nat->aB) {i j:Nat} (v:aB) (h:j≠i):Ce u i v j=u j:=by unfold Ce;rw[AQ h]
theorem Ma (u:Nat->aB) (i:Nat) (v:aB):Ce u i v i=v:=by unfold Ce;rw[AP rfl]
theorem R6.step {tb:List (Nat×Nat)} {L:Nat->Bool} (h:R6 tb L) (i:Nat) (hd:∀ p,p∈tb->p.1=i->L p.2=true):R6 tb (Cf L i):=by
 intro p hp h1;have hu:∀ k,L k=true->Cf L i k=true:=λk hk=>by unfold Cf;split<;>simp[hk]
 by_cases e:p.1=i
 ·exact hu _ (hd p hp e)
 ·rw[Da L e] at h1;exact hu _ (h p hp h1)
theorem R6.back {tb:List (Nat×Nat)} {L:Nat->Bool} (h:R6 tb L) {a b:Nat} (hp:(a,b)∈tb) (hb:L b=false):L a=false:=by
 cases ha:L a with
 |false=>rfl
 |true=>have:=h _ hp ha;rw[hb] at this;cases this
theorem R6.none {tb:List (Nat×Nat)} {L:Nat->Bool} (h:∀ i,L i=false):R6 tb L:=λp _ h1=>by rw[h] at h1;cases h1
structure AC (tb:List (Nat×Nat)) (b a s:Nat) (V0:aB) (W0 W1:aC) (Fin:aC->aB->Prop) (L:Nat->Bool) (u:Nat->aB) (w':aC):Prop where
 cl:R6 tb L
 old:L s=false->u s=V0
 new:L s=true->u s=u a
 ph:(L a=true/\Fin w' (u a))\/(L a=false/\L b=true/\w'=W1)\/(L a=false/\L b=false/\w'=W0)
section
variable {tb:List (Nat×Nat)} {b a s:Nat} {V0:aB} {W0 W1:aC} {Fin:aC->aB->Prop} {L:Nat->Bool} {u:Nat->aB} {w':aC}
theorem AC.start (h:∀ i,L i=false) (hu:u s=V0):AC tb b a s V0 W0 W1 Fin L u W0:=
 ⟨R6.none h,λ_=>hu,λh'=>(by rw[h] at h';cases h'),.inr (.inr ⟨h _,h _,rfl⟩)⟩
theorem AC.pure (h:AC tb b a s V0 W0 W1 Fin L u w') (i:Nat) (v:aB) (hb:b≠i) (ha:a≠i) (hs:s≠i) (hd:∀ p,p∈tb->p.1=i->L p.2=true):AC tb b a s V0 W0 W1 Fin (Cf L i) (Ce u i v) w':=
 ⟨h.cl.step i hd,by rw[Da L hs,FE u v hs];exact h.old,by rw[Da L hs,FE u v hs,FE u v ha];exact h.new,by rw[Da L ha,Da L hb,FE u v ha];exact h.ph⟩
theorem AC.world (h:AC tb b a s V0 W0 W1 Fin L u w') (hb:L b=false) (hp:(a,b)∈tb):w'=W0:=by
 have ha:=h.cl.back hp hb;rcases h.ph with⟨h1,_⟩|⟨_,h1,_⟩|⟨_,_,h1⟩
 ·rw[ha] at h1;cases h1
 ·rw[hb] at h1;cases h1
 ·exact h1
theorem AC.build (h:AC tb b a s V0 W0 W1 Fin L u w') (v:aB) (hLb:L b=false) (hp:(a,b)∈tb) (ha:a≠b) (hs:s≠b) (hd:∀ p,p∈tb->p.1=b->L p.2=true):AC tb b a s V0 W0 W1 Fin (Cf L b) (Ce u b v) W1:=
 ⟨h.cl.step b hd,by rw[Da L hs,FE u v hs];exact h.old,by rw[Da L hs,FE u v hs,FE u v ha];exact h.new,.inr (.inl ⟨by rw[Da L ha];exact h.cl.back hp hLb,Fz L b,rfl⟩)⟩
theorem AC.mid (h:AC tb b a s V0 W0 W1 Fin L u w') (hb:L b=true) (ha:L a=false):w'=W1:=by
 rcases h.ph with⟨h1,_⟩|⟨_,_,h1⟩|⟨_,h1,_⟩
 ·rw[ha] at h1;cases h1
 ·exact h1
 ·rw[hb] at h1;cases h1
theorem AC.app (h:AC tb b a s V0 W0 W1 Fin L u w') {v:aB} {w9:aC} (hF:Fin w9 v) (hLa:L a=false) (hp:(s,a)∈tb) (hs:s≠a) (hd:∀ p,p∈tb->p.1=a->L p.2=true):AC tb b a s V0 W0 W1 Fin (Cf L a) (Ce u a v) w9:=
 have hls:=h.cl.back hp hLa
 ⟨h.cl.step a hd,by rw[Da L hs,FE u v hs];exact h.old,λh'=>(by rw[Da L hs,hls] at h';cases h'),.inl ⟨Fz L a,by rw[Ma];exact hF⟩⟩
theorem AC.asg (h:AC tb b a s V0 W0 W1 Fin L u w') (ha:a≠s) (hb:b≠s) (hd:∀ p,p∈tb->p.1=s->L p.2=true):AC tb b a s V0 W0 W1 Fin (Cf L s) (Ce u s (u a)) w':=
 ⟨h.cl.step s hd,λh'=>(by rw[Fz] at h';cases h'),λ_=>(by rw[Ma,FE u _ ha]),by rw[Da L ha,Da L hb,FE u _ ha];exact h.ph⟩
theorem AC.fin (h:AC tb b a s V0 W0 W1 Fin L u w') (ha:L a=true) (hs:L s=true):u s=u a/\Fin w' (u a):=by
 refine⟨h.new hs,?_⟩;rcases h.ph with⟨_,h1⟩|⟨h1,_⟩|⟨h1,_⟩
 ·exact h1
 ·rw[ha] at h1;cases h1
 ·rw[ha] at h1;cases h1
end
structure AD (tb:List (Nat×Nat)) (b s:Nat) (V0:aB) (W0 W1:aC) (L:Nat->Bool) (u:Nat->aB) (w':aC):Prop where
 cl:R6 tb L
 old:L s=false->u s=V0
 ph:(L b=true/\w'=W1)\/(L b=false/\w'=W0)
section
variable {tb:List (Nat×Nat)} {b s:Nat} {V0:aB} {W0 W1:aC} {L:Nat->Bool} {u:Nat->aB} {w':aC}
theorem AD.start (h:∀ i,L i=false) (hu:u s=V0):AD tb b s V0 W0 W1 L u W0:=⟨R6.none h,λ_=>hu,.inr ⟨h _,rfl⟩⟩
theorem AD.pure (h:AD tb b s V0 W0 W1 L u w') (i:Nat) (v:aB) (hb:b≠i) (hs:s≠i) (hd:∀ p,p∈tb->p.1=i->L p.2=true):AD tb b s V0 W0 W1 (Cf L i) (Ce u i v) w':=
 ⟨h.cl.step i hd,by rw[Da L hs,FE u v hs];exact h.old,by rw[Da L hb];exact h.ph⟩
theorem AD.world (h:AD tb b s V0 W0 W1 L u w') (hb:L b=false):w'=W0:=by
 rcases h.ph with⟨h1,_⟩|⟨_,h1⟩
 ·rw[hb] at h1;cases h1
 ·exact h1
theorem AD.build (h:AD tb b s V0 W0 W1 L u w') (v:aB) (hs:s≠b) (hd:∀ p,p∈tb->p.1=b->L p.2=true):AD tb b s V0 W0 W1 (Cf L b) (Ce u b v) W1:=
 ⟨h.cl.step b hd,by rw[Da L hs,FE u v hs];exact h.old,.inl ⟨Fz L b,rfl⟩⟩
theorem AD.asg (h:AD tb b s V0 W0 W1 L u w') (v:aB) (hb:b≠s) (hd:∀ p,p∈tb->p.1=s->L p.2=true):AD tb b s V0 W0 W1 (Cf L s) (Ce u s v) w':=
 ⟨h.cl.step s hd,λh'=>(by rw[Fz] at h';cases h'),by rw[Da L hb];exact h.ph⟩
theorem AD.fin (h:AD tb b s V0 W0 W1 L u w') (hb:L b=true):w'=W1:=by
 rcases h.ph with⟨_,h1⟩|⟨h1,_⟩
 ·exact h1
 ·rw[hb] at h1;cases h1
end
theorem Ox (w:aC) {o:Oper} {a:Act} {K:Act->aC->Prop} {Q:Exit->Act->aC->Prop} (sx x:Operand)
  (hop:o.op=Op.call { callee:=Callee.builtin Builtin.append,args:=#[sx,x],argTypes:=#[131,131] }) (B:Nat) (v:aB) (xs:List Int) (hs:a.eval sx=v) (hown:Dt w B v xs)
  (b off m c:Nat) (zs:List Int) (hx:a.eval x=Z7 (some ⟨b,off,aA⟩) m c) (hl:zs.length=m) (hc:∀ i,i<zs.length->w.cell? ⟨b,off+i,aA⟩=some (Z8 .u64 (zs.getD i 0))) (hm:xs.length+m<=1048576) (hB:B<=w.heap.size)
  (hK:∀ v' w',Dt w' B v' (xs++zs)->Below B w w'->K (a.put o.dst v') w'):o.wp tP a w K Q:=by
 obtain⟨i0,hi,hz0,hz1,hz2⟩:=Bh XX.info;have hbase:=hown.base;obtain⟨v',w',hr,h2,h3,h4,h5⟩:=run_append_own_at (P:=tP) w B 131 o.type 132 i0 (Z8 .u64 0) 1 8 underlying131 hi hz0 hz1 hz2 rfl AK v xs.length _ hown.1 ⟨b,off,aA⟩ m c (zs.map (Value.int .u64)) (by simp[hl]) (by
  intro j u hu;have hj:j<zs.length:=by have:=(Ao.1 hu).1;simpa using this
  rw[Az,hc j hj];simp[hj] at hu;simp[hj,hu]) (Aw _ _) (by unfold maxLen;omega) AJ hB
 obtain⟨g,c0,hv,hBg,_,_⟩:=hbase;have hbel:Below B w w':=Cg.grown h3 hB (λk hk=>by rw[hv] at hk;simp[Value.ownBlock] at hk;omega);have hk:=hK v' w' ⟨by rw[BS,Ak,hl];exact h2,by
  rcases h2.2 with⟨h',h''⟩|⟨g',c',cur,h',_⟩
  ·exact absurd (h4.1 h').1 (by rw[hv];simp)
  ·exact⟨g',c',by rw[h',Ak,hl]⟩⟩ hbel
 unfold Oper.wp execOp;simp only[hop,resolve,invoke,builtin,Sem.run_bind,Sem.run_pure,Result.andThen_ok,List.map_toArray,List.map_cons,List.map_nil,hs,hx,hr];exact hk
theorem Gf (xs ys:List Int) (i:Nat):(xs++ys).getD i 0=if i<xs.length then xs.getD i 0 else ys.getD (i-xs.length) 0:=by
 simp only[List.getD_eq_getElem?_getD,List.getElem?_append];split<;>rfl
theorem Ik (n i:Nat):(List.replicate n (0:Int)).getD i 0=0:=by
 simp only[List.getD_eq_getElem?_getD,List.getElem?_replicate];split<;>rfl
theorem IW (xs:List Int) (i:Nat) (h:xs.length<=i):xs.getD i 0=0:=by
 rw[AS,BX h];rfl
theorem Ff (xs:List Int) (m i:Nat):(xs.drop m).getD i 0=xs.getD (m+i) 0:=by
 simp only[List.getD_eq_getElem?_getD,List.getElem?_drop]
theorem Hv (xs:List Int) (m i:Nat) (h:i<m):(xs.take m).getD i 0=xs.getD i 0:=by
 simp only[List.getD_eq_getElem?_getD,List.getElem?_take,if_pos h]
theorem IY {xs ys:List Int} (n:Nat) (h1:xs.length=n) (h2:ys.length=n) (h:∀ i,i<n->xs.getD i 0=ys.getD i 0):xs=ys:=by
 apply List.ext_getElem AJ;intro i hi hj;have:=h i AJ;simpa[List.getD_eq_getElem?_getD,hi,hj] using this
theorem Oy (bs:List Int) (o:Nat) (v:Int) (k:Nat) (hk:o+k<=bs.length) (i:Nat) :
  (Py bs o v k).getD i 0=if o<=i/\i<o+k then v/2^(56-8*(i-o))%256 else bs.getD i 0:=by
 induction k with
 |zero=>rw[AQ AJ];rfl
 |succ k ih=>
  have ih:=ih AJ;unfold Py;by_cases e:i=o+k
  ·rw[e,Hq _ _ _ (by rw[He];omega),AP AJ,show o+k-o=k by omega]
  ·rw[Ed _ _ _ _ e,ih];by_cases c:o<=i/\i<o+k
   ·rw[AP c,AP AJ]
   ·rw[AQ c,AQ AJ]
theorem Kf (zs:List Int) (i:Nat) (h:i<128):(D7 zs).getD i 0=zs.getD i 0:=by
 unfold D7;rw[Gf];split
 ·rw[Hv _ _ _ h]
 ·next c=>rw[Ik,IW];rw[Ap] at c;omega
theorem Oz (zs:List Int) (i:Nat) (h:i<128) (hl:zs.length<128):(IS zs).getD i 0=if i=zs.length then 128 else zs.getD i 0:=by
 unfold IS;by_cases e:i=zs.length
 ·rw[e,Hq _ _ _ (by rw[ED];exact hl),AP rfl]
 ·rw[Ed _ _ _ _ e,Kf _ _ h,AQ e]
theorem Mb (bs:List Int) (n:Nat) (hl:bs.length=128) (hn:n<=2097152) (i:Nat) :
  (GR bs n).getD i 0=if i<112 then bs.getD i 0 else if i<120 then 0 else if i<128 then(JE (8*(n:Int))).getD (i-120) 0 else 0:=by
 unfold GR;rw[Oy _ _ _ _ (by rw[He];omega),Oy _ _ _ _ AJ];have hw:IntKind.u64.wrap ((n:Int)*8)=8*(n:Int):=by rw[IntKind.wrap_u64];omega
 have h61:(n:Int)/2^61=0:=AJ
 rw[hw,h61];by_cases a:i<112
 ·rw[AQ AJ,AQ AJ,AP a]
 ·rw[AQ a];by_cases b:i<120
  ·rw[AQ AJ,AP AJ,AP b,Int.zero_ediv];rfl
  ·rw[AQ b];by_cases c:i<128
   ·rw[AP AJ,AP c,On _ _ AJ]
   ·rw[AQ AJ,AQ AJ,AQ c,IW _ _ AJ]
theorem Mc (zs:List Int):(Eq zs).length=zs.length+1+GH zs.length+16:=by
 unfold Eq;simp[EB];omega
theorem IZ (zs:List Int) (i:Nat):(Eq zs).getD i 0=if i<zs.length then zs.getD i 0 else if i=zs.length then 128 else if i<zs.length+1+GH zs.length+8 then 0 else(JE (8*(zs.length:Int))).getD (i-(zs.length+1+GH zs.length+8)) 0:=by
 unfold Eq;rw[Gf,Gf,Gf,Gf];simp only[List.length_append,List.length_replicate,List.length_cons,List.length_nil,Ik,Nat.zero_add];by_cases a:i<zs.length
 ·rw[AP AJ,AP AJ,AP AJ,AP a,AP a]
 ·rw[AQ a,AQ a];by_cases b:i=zs.length
  ·rw[AP AJ,AP AJ,AP AJ,AP b,b,Nat.sub_self];rfl
  ·rw[AQ b];by_cases c:i<zs.length+1+GH zs.length+8
   ·rw[AP c,AP c];split
    ·rw[AQ AJ]
    ·rfl
   ·rw[AQ c,AQ c]
def Nn (zs:List Int):Nat->List Int
 |0=>Nm
 |k+1=>D6 (Nn zs k) (((Eq zs).drop (128*k)).take 128)
theorem No (zs:List Int) (k:Nat):W8 (Nn zs k):=by
 cases k with
 |zero=>exact LI
 |succ k=>exact Fl _ _
def Np (n:Nat):Nat:=(n+1+GH n+16)/128
theorem O0 (zs:List Int):(Eq zs).length=128*Np zs.length:=by
 have h:=Fy zs.length;rw[Mc];unfold Np;omega
theorem Ia (zs:List Int) (k:Nat) (h:k<Np zs.length):(((Eq zs).drop (128*k)).take 128).length=128:=by
 rw[Ap,BJ,O0];omega
theorem Gg (zs:List Int) (k i:Nat) (h:i<128):(((Eq zs).drop (128*k)).take 128).getD i 0=(Eq zs).getD (128*k+i) 0:=by
 rw[Hv _ _ _ h,Ff]
theorem Wd (zs:List Int) (k:Nat) (h:128*k<=zs.length):Nn zs k=Ho zs k:=by
 induction k with
 |zero=>rfl
 |succ k ih=>
  have hs:=Fy zs.length;have hk:k<Np zs.length:=by unfold Np;omega
  show D6 (Nn zs k) _=D6 (Ho zs k) _
  rw[ih AJ]
  congr 1
  refine IY 128 (Ia zs k hk) (ED _) λi hi=>?_
  rw[Gg _ _ _ hi,Kf _ _ hi,Ff,IZ,AP AJ]
theorem Ua (zs:List Int) (hn:zs.length<=2097152):Nn zs (Np zs.length)=IT (Ho zs (zs.length/128)) (zs.drop (128*(zs.length/128))) zs.length:=by
 obtain⟨n,hn'⟩:∃ n,n=zs.length:=⟨_,rfl⟩
 obtain⟨q,hq⟩:∃ q,q=n/128:=⟨_,rfl⟩
 rw[<-hn',<-hq];have hs:=Fy n;have hdl:(zs.drop (128*q)).length=n-128*q:=by rw[BJ,hn']
 have hlo:=Wd zs q AJ;unfold IT;by_cases c:n-128*q<112
 ·have e:Np n=q+1:=by unfold Np;omega
  have eT:n+1+GH n=128*q+112:=AJ
  rw[AP AJ,e];have e1:((Eq zs).drop (128*q)).take 128=GR (IS (zs.drop (128*q))) n:=?_
  ·show D6 (Nn zs q) _=_
   rw[hlo,e1]
  refine IY 128 (Ia zs q (by rw[<-hn',e];omega)) (IU (GG _) _) λi hi=>?_
  rw[Gg _ _ _ hi,Mb _ _ (GG _) AJ,IZ,<-hn',eT];by_cases a:i<112
  ·rw[AP a,Oz _ _ hi AJ,hdl,Ff];by_cases b:i<n-128*q
   ·rw[AP AJ,AQ AJ]
   ·rw[AQ AJ];by_cases d:i=n-128*q
    ·rw[AP AJ,AP d]
    ·rw[AQ AJ,AP AJ,AQ d,IW];omega
  ·rw[AQ a,AQ AJ,AQ AJ];by_cases b:i<120
   ·rw[AP b,AP AJ]
   ·rw[AQ b,AQ AJ,AP hi];rw[show 128*q+i-(128*q+112+8)=i-120 by omega]
 ·have e:Np n=q+2:=by unfold Np;omega
  have eT:n+1+GH n=128*q+240:=AJ
  rw[AQ AJ,e];have e1:((Eq zs).drop (128*q)).take 128=IS (zs.drop (128*q)):=by
   refine IY 128 (Ia zs q (by rw[<-hn',e];omega)) (GG _) λi hi=>?_
   rw[Gg _ _ _ hi,IZ,<-hn',eT,Oz _ _ hi AJ,hdl,Ff];by_cases b:i<n-128*q
   ·rw[AP AJ,AQ AJ]
   ·rw[AQ AJ];by_cases d:i=n-128*q
    ·rw[AP AJ,AP d]
    ·rw[AQ AJ,AP AJ,AQ d,IW];omega
  have e2:((Eq zs).drop (128*(q+1))).take 128=GR (List.replicate 128 0) n:=by
   refine IY 128 (Ia zs (q+1) (by rw[<-hn',e];omega)) (IU AL _) λi hi=>?_
   rw[Gg _ _ _ hi,Mb _ _ AL AJ,IZ,<-hn',eT,AQ AJ,AQ AJ,Ik];by_cases b:i<120
   ·rw[AP AJ];by_cases d:i<112
    ·rw[AP d]
    ·rw[AQ d,AP b]
   ·rw[AQ AJ,AQ AJ,AQ b,AP hi];rw[show 128*(q+1)+i-(128*q+240+8)=i-120 by omega]
  generalize GR (List.replicate 128 0) (n:Int)=X at *;generalize IS (zs.drop (128*q))=Y at *;have e3:Nn zs (q+1)=D6 (Ho zs q) Y:=by rw[<-hlo,<-e1];rfl
  rw[<-e3,<-e2];rfl
theorem Ub (zs:List Int) (hn:zs.length<=2097152):GQ (Nn zs (Np zs.length))=Ge zs:=by
 rw[Ua zs hn];rfl
theorem QG {zs:List Int} (hz:Ci zs):Ci (Eq zs):=by
 intro z h;unfold Eq at h;simp only[List.mem_append,List.mem_replicate,List.mem_singleton] at h;rcases h with (((h|rfl)|⟨_,rfl⟩)|⟨_,rfl⟩)|h
 ·exact hz z h
 ·exact⟨AK,AK⟩
 ·exact⟨AK,AK⟩
 ·exact⟨AK,AK⟩
 ·exact ML _ z h
end Go.Proofs.YtjdhhgaelgemcaaGreatDoor
