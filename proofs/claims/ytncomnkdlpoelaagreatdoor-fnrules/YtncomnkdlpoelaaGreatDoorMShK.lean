import Derived.Test.YtncomnkdlpoelaaGreatDoorMMuM
open Go.Proofs.Tryz renaming prog->tP
open Go.Proofs.Tryz
open Go.Value renaming slice->aM,int->aO,pointer->aY,agg->af
open Go.IntKind renaming i64->aZ
open Go.Obj renaming cells->aa
open Go.Ending renaming returned->aQ
open Go.Ground renaming data->ag
open Go.Operand renaming tmp->ah
open Option renaming some->aR,none->aS
open Go renaming World->aV,Value->aX
set_option maxHeartbeats 4000000
set_option maxRecDepth 100000
namespace Go.Proofs.YtncomnkdlpoelaaGreatDoor
open Go.ChangeShapes Go.WideShapes Go.ChangeAt Go.RowKit
set_option linter.unusedVariables false
def Hz (zs:List Int):Nat->List Int
 |0=>Ns
 |k+1=>EL (Hz zs k) (EG (zs.drop (128*k)))
theorem Pa (zs:List Int) (k:Nat):W8 (Hz zs k):=by
 cases k with
 |zero=>exact Lc
 |succ k=>exact F5 _ _
def F0 (zs:List Int):List Int:=Gm (Ig (Hz zs (zs.length/128)) (zs.drop (128*(zs.length/128))) zs.length)
theorem Jo (hs zs:List Int) (n:Int):W8 (Ig hs zs n):=by
 unfold Ig;split
 ·exact F5 _ _
 ·exact F5 _ _
structure KS (w:aV) (G:Nat) (hs:List Int) (y:aV):Prop where
 wds:Cd y G 175 hs
 tab:EF y
 below:Below w.heap.size w y
 hi:w.heap.size<=G
theorem KS.frg {w:aV} {G:Nat} {hs hs':List Int} {y y':aV} (h:KS w G hs y) (hz:1<w.heap.size) (hf:MQ G y y') (hr:Cd y' G 175 hs'):KS w G hs' y':=by
 have:=h.hi;exact⟨hr,h.tab.frg (λk hk e=>hf.block k hk AJ),h.below.trans (hf.below h.hi h.below.size),h.hi⟩
theorem KS.new {w:aV} {G:Nat} {hs:List Int} {y y':aV} (h:KS w G hs y) (hz:1<w.heap.size) (hb:Below y.heap.size y y'):KS w G hs y':=
 ⟨h.wds.below hb h.wds.lt,h.tab.frg (λk hk _=>hb.block k hk),h.below.trans (hb.mono h.below.size),h.hi⟩
theorem DB.lowK {w:aV} {B B':Nat} {v:aX} {zs:List Int} (h:DB w B' v zs) (hB:B<=B'):DB w B v zs:=by
 obtain⟨⟨h1,h2⟩,h3⟩:=h;refine⟨⟨h1,?_⟩,h3⟩;rcases h2 with h|⟨g,cap,cur,e,hg,r⟩
 ·exact .inl h
 ·exact .inr ⟨g,cap,cur,e,Ai hB hg,r⟩
theorem Sx (a:Option Addr) (n cap:Nat) (zs:List Int) (w:aV) (hn:zs.length=n) (ha:At .u8 w a zs) (hz:Cb zs) (hm:n<=2097152) (hcap:n<=cap) (hT:EF w) (h0:1<w.heap.size) :
  Calls tP 108 #[aM a n cap] w λe w'=>∃ v,e=aQ v/\DB w' w.heap.size v (F0 zs)/\Below w.heap.size w w':=by
 have z1:=Rn;have z2:=O8;have z3:=Ro;have A:=CX (QJ w hT h0);have HT:=CX hT;have HA:=CX ha;have HZ:=CX hz;have HN:=CX hn;clear hn ha hz hT;go_enter func108,ntmps108;go_wp2_with fail;refine A.o.mono ?_;rintro e w1 ⟨rfl,b1⟩;have HB1:=CX b1;clear A b1;have HZN:AO (Cd (w1.alloc (aa CV 175)) w1.heap.size 175 [0,0,0,0,0,0,0,0]):=AS w1 _;have HAL:AO (Below w1.heap.size w1 (w1.alloc (aa CV 175))):=Cf.alloc Ch _;have HL:=CX Lc.1;go_wp2_with (first
  |(refine E8 rfl (ah 3) (ah 6) rfl Tryz.sizeWds w1.heap.size Ns [0,0,0,0,0,0,0,0] rfl rfl HL.o rfl HZN.o ?_)
  |fail)
 intro w2 hr2 hw2;have hs1:=HB1.o.size;have HK:AO (KS w w1.heap.size (Hz zs 0) w2):=⟨hr2,((HT.o.frg (λk hk _=>HB1.o.block k hk)).frg (λk hk _=>HAL.o.block k hk)).frg (λk _ e=>hw2.block k AJ),(HB1.o.trans (HAL.o.mono hs1)).trans (hw2.below hs1),hs1⟩
 clear hr2 hw2 HB1 HAL HZN HL HT;go_wp2
 go_loopw [4] (λv wr=>∃(k:Nat) (a':Option Addr) (c':Nat),128*k<=n/\v=aM a' (n-128*k) c'/\n-128*k<=c'/\At .u8 w a' (zs.drop (128*k))/\KS w w1.heap.size (Hz zs k) wr) (λv _=>lenOf v)
 case atStart=>exact⟨0,a,cap,AJ,rfl,AJ,HA.o,HK.o⟩
 case round=>
  clear HK;obtain⟨k,a',c',hk,rfl,hc',ha',hst⟩:=hrel;have HK:=CX hst;have HA':=CX ha';have hlen:(zs.drop (128*k)).length=n-128*k:=by rw[BF,HN.o]
  have HBY:AO (Cb (zs.drop (128*k))):=λz h=>HZ.o z (BT h)
  have HDL:=CX hlen;clear hst ha' hlen;by_cases hge:128<=n-128*k
  ·have hge':(128:Int)<=((n-128*k:Nat):Int):=AJ
   have HBL:AO (Hz zs (k+1)=EL (Hz zs k) (EG (zs.drop (128*k)))):=rfl;obtain⟨b,off,rfl,hb0,hcc⟩:=HA'.o.get (by rw[HDL.o];omega);have HN2:AO (n-128*(k+1)=n-128*k-128):=by show _=_;omega
   have HD2:AO (zs.drop (128*(k+1))=(zs.drop (128*k)).drop 128):=by show _=_;rw[List.drop_drop];congr 1
   have HK1:AO (128*(k+1)<=n):=by show _<=_;omega
   have HCC:=CX hcc;clear hcc;obtain⟨m,hm'⟩:∃ m,m=n-128*k:=⟨_,rfl⟩
   rw[<-hm'] at HN2 HDL hge hge' hc' |-;have hmm:m<=2097152:=AJ
   clear hm';have B:=CX (PD (aR ⟨b,off,aS⟩) m c' (zs.drop (128*k)) wr HDL.o (HA'.o.below HK.o.below) hmm);go_wp2_with fail;refine B.o.mono ?_;rintro e w3 ⟨rfl,b3⟩;have HK3:=CX (HK.o.new h0 b3);clear b3 B HK;have HZN:AO (Er (w3.alloc (aa I4 178)) w3.heap.size 178 (List.replicate 128 0)):=by show _=_;rw[AS,MN]
   have HAL:AO (Below w3.heap.size w3 (w3.alloc (aa I4 178))):=Cf.alloc Ch _;have HLB:=CX (EA (zs.drop (128*k)));go_wp2_with (first
    |(refine EK rfl (ah 5) (ah 12) rfl Tryz.sizeBlk w3.heap.size (EG (zs.drop (128*k))) (List.replicate 128 0) rfl rfl HLB.o AL HZN.o ?_)
    |fail)
   intro w4 hr4 hw4;have hlt3:=HK3.o.wds.lt;have hsz3:=HK3.o.below.size;have hz3:=HK3.o.hi;have b34:=HAL.o.trans (hw4.below Ch);have HK4:=CX (HK3.o.new h0 b34);have HG0:AO (w1.heap.size≠1):=by show ¬ _;omega
   have C:=CX (Je w1.heap.size w3.heap.size (Hz zs k) (EG (zs.drop (128*k))) w4 HK4.o.wds (Pa _ _) hr4 HLB.o (J6 HBY.o) HK4.o.tab HG0.o);clear hr4 hw4 b34 HK3 HZN HAL;go_wp2_with fail;refine C.o.mono ?_;rintro e w5 ⟨rfl,r5,b5⟩;have HK5:AO (KS w w1.heap.size (Hz zs (k+1)) w5):=by rw[HBL.o];exact HK4.o.frg h0 b5 r5
   clear r5 b5 C HK4;go_wp2;refine⟨⟨k+1,_,c'-128,HK1.o,by rw[HN2.o],by rw[HN2.o];omega,?_,HK5.o⟩,by show m-128<m;omega⟩;rw[HD2.o];by_cases hcc:c'=128
   {exact .inl (BU (by rw[BF,HDL.o];omega))};{rw[AQ hcc];refine .inr ⟨b,off+128,rfl,hb0,λi hi=>?_⟩;rw[BF] at hi;rw[A7,HCC.o (128+i) AJ,AX,AX,List.getElem?_drop,List.getElem?_drop,List.getElem?_drop]}
  ·have hge':¬ ((128:Int)<=((n-128*k:Nat):Int)):=AJ
   have HQ:AO (F0 zs=Gm (Ig (Hz zs k) (zs.drop (128*k)) (n:Int))):=by
    show _=_
    unfold F0;rw[HN.o,show n/128=k by omega]
   have HUN:AO (EQ (n:Int)):=⟨AJ,AJ⟩
   have HG0:AO (w1.heap.size≠1):=by show ¬ _;omega
   obtain⟨m,hm'⟩:∃ m,m=n-128*k:=⟨_,rfl⟩
   rw[<-hm'] at HDL hge hge' hc' |-;have hmm:m<128:=AJ
   clear hm';have B:=CX (Um w1.heap.size (Hz zs k) a' m c' (zs.drop (128*k)) (n:Int) wr HK.o.wds (Pa _ _) HDL.o (HA'.o.below HK.o.below) HBY.o hmm HK.o.tab HG0.o HUN.o);go_wp2_with fail;refine B.o.mono ?_;rintro e w3 ⟨rfl,r3,b3⟩;have HK3:AO (KS w w1.heap.size (Ig (Hz zs k) (zs.drop (128*k)) n) w3):=HK.o.frg h0 b3 r3;clear r3 b3 B HK;have C:=CX (QK w1.heap.size _ w3 HK3.o.wds (Jo _ _ _));go_wp2_with fail;refine C.o.mono ?_;rintro e w4 ⟨v,rfl,o4,b4⟩;have HO:AO (DB w4 w.heap.size v (F0 zs)):=by rw[HQ.o];exact o4.lowK HK3.o.below.size
   have HB:AO (Below w.heap.size w w4):=HK3.o.below.trans (b4.mono HK3.o.below.size);clear o4 b4 C HK3;go_wp2
   go_ret
   exact⟨_,rfl,HO.o,HB.o⟩
structure Y5 (w:aV) (xs:List Int) (a k:Nat) (v:aX) (wr:aV):Prop where
 own:Iow w.heap.size wr v (Dq (xs.take k) a)
 below:Below w.heap.size w wr
theorem Sy {xs:List Int} {a k:Nat} (h:k<xs.length) (hne:¬ xs.getD k 0=(a:Int)):Dq (xs.take (k+1)) a=Dq (xs.take k) a++[xs.getD k 0]:=by
 unfold Dq;rw[I1 xs k h,List.filter_append];simp;simpa[List.getD] using hne
theorem U4 {xs:List Int} {a k:Nat} (h:k<xs.length) (he:xs.getD k 0=(a:Int)):Dq (xs.take (k+1)) a=Dq (xs.take k) a:=by
 unfold Dq;rw[I1 xs k h,List.filter_append];simp;simpa[List.getD] using he
theorem Sz (xs:List Int) (a k:Nat):(Dq (xs.take k) a).length<=k:=by
 unfold Dq;exact Ai (List.length_filter_le _ _) (by rw[Aq];omega)
theorem S5 (ad:Option Addr) (n cap:Nat) (xs:List Int) (a:Nat) (w:aV) (hn:xs.length=n) (hm:n<=1048576) (ha:At aZ w ad xs) :
  Calls tP 33 #[aM ad n cap,aO aZ a] w λe w'=>∃ v,e=aQ v/\Iow w.heap.size w' v (Dq xs a)/\Below w.heap.size w w':=by
 have HA:=CY <| ha
 have HNX:=CY <| hn
 have H0:AO (Y5 w xs a 0 (aM (aR ⟨w.heap.size,0,aS⟩) 0 0) (w.alloc (aa #[] 2))):=
  ⟨⟨by simp[Dq],.inr ⟨w.heap.size,0,#[],rfl,Aa _,AS w _,Aa _,by simp[maxLen],rfl,rfl⟩⟩,Cf.alloc Ch _⟩
 clear ha hn;go_enter func33,ntmps33;go_wp2_with fail
 go_loopw [5,6] (λl i wr=>∃(k:Nat) (v:aX),k<=n/\i=aO aZ k/\v=l/\Y5 w xs a k v wr) (λ_ i _=>n-(intOf i).toNat)
 case atStart=>exact⟨0,_,AJ,rfl,rfl,H0.o⟩
 case round=>
  clear H0;obtain⟨k,l,hk,rfl,rfl,hst⟩:=hrel;by_cases hlt:k<n
  ·have hlt':(k:Int)<n:=AJ
   have HST:=CY <| hst
   obtain⟨b,off,ea,hb,hc⟩:=(HA.o.below hst.below).get (AG HNX.o);have hck:=hc k (AG HNX.o);subst ea;clear hst hc hb;have HLT:AO (k<xs.length):=by show _<_;have:=HNX.o;omega
   by_cases hne:xs.getD k 0=(a:Int)
   ·have HF:AO (Y5 w xs a (k+1) l wr):=⟨by rw[U4 HLT.o hne];exact HST.o.own,HST.o.below⟩
    rw[hne] at hck;clear hne;go_wp2;go_roundw
    case rel=>exact⟨k+1,_,AJ,by go_num,rfl,HF.o⟩
    case measure=>simp[intOf];omega
   ·have HN:=CY <| Sy HLT.o hne
    have HL:AO ((Dq (xs.take k) a).length<=1048576):=Ai (Sz xs a k) AJ;generalize xs.getD k 0=z at *;have HO:AO (Iow w.heap.size (wr.alloc (aa #[aO aZ z] 2)) l (Dq (xs.take k) a)):=HST.o.own.alloc _;have HZ:AO (w.heap.size<=(wr.alloc (aa #[aO aZ z] 2)).heap.size):=by
     show _<=_
     have:=HST.o.below.size;simp;omega
    go_wp2_with (first
     |(refine F7 _ rfl (ah 20) (ah 25) rfl w.heap.size _ (Dq (xs.take k) a) rfl HO.o wr z rfl rfl HL.o HZ.o ?_)
     |fail)
    intro v' w3 h1 h2;have HF:AO (Y5 w xs a (k+1) v' w3):=⟨by rw[HN.o];exact h1,(HST.o.below.alloc HST.o.below.size _).trans h2⟩
    clear h1 h2 HO HZ HL hck;go_wp2;go_roundw
    case rel=>exact⟨k+1,_,AJ,by go_num,rfl,HF.o⟩
    case measure=>simp[intOf];omega
  ·have hke:k=n:=AJ
   have hlt':¬ ((k:Int)<n):=AJ
   have HF:AO (∃ v,aQ l=aQ v/\Iow w.heap.size wr v (Dq xs a)/\Below w.heap.size w wr):=⟨l,rfl,by
    have:=hst.own
    rwa [Ad (AG HNX.o)] at this,hst.below⟩
   clear hst hke;go_wp2
   go_ret
   exact HF.o
def OJ (w:aV) (a:Option Addr) (zs:List Int):Prop:=
 zs=[]\/∃ b off,a=aR ⟨b,off,aS⟩/\b<w.heap.size/\∀ i,i<zs.length->w.cell? ⟨b,off+i,aS⟩=aR (aO aZ (zs.getD i 0))/\w.frozen? ⟨b,off+i,aS⟩=false
theorem OJ.at_ {w:aV} {a:Option Addr} {zs:List Int} (h:OJ w a zs):At aZ w a zs:=by
 rcases h with h|⟨b,off,e,hl,hc⟩
 ·exact .inl h
 ·exact .inr ⟨b,off,e,hl,λi hi=>(hc i hi).1⟩
def GC (lo:Nat) (w:aV) (a:Option Addr):Prop:=∀ ad,a=aR ad->lo<=ad.block/\ad.block<w.heap.size
def OK (a b:Option Addr):Prop:=∀ x y,a=aR x->b=aR y->x.block≠y.block
theorem GC.mono {lo lo':Nat} {w w':aV} {a:Option Addr} (h:GC lo w a) (hl:lo'<=lo) (hs:w.heap.size<=w'.heap.size):GC lo' w' a:=λad e=>AG (h ad e)
theorem OJ.keep {w w':aV} {a:Option Addr} {zs:List Int} (h:OJ w a zs) (hs:w.heap.size<=w'.heap.size) (hb:∀ ad,a=aR ad->ad.block<w.heap.size->w'.heap[ad.block]?=w.heap[ad.block]?):OJ w' a zs:=by
 rcases h with h|⟨b,off,e,hl,hc⟩
 ·exact .inl h
 ·have hk:=hb _ e hl;refine .inr ⟨b,off,e,AJ,λi hi=>?_⟩;rw[Af (a:=⟨b,off+i,aS⟩) (w:=w) hk,World.frozen?_of_block (a:=⟨b,off+i,aS⟩) (w:=w) hk];exact hc i hi
theorem At.keepT {w w':aV} {a:Option Addr} {zs:List Int} (h:At aZ w a zs) (hs:w.heap.size<=w'.heap.size) (hb:∀ ad,a=aR ad->ad.block<w.heap.size->w'.heap[ad.block]?=w.heap[ad.block]?):At aZ w' a zs:=by
 rcases h with h|⟨b,off,e,hl,hc⟩
 ·exact .inl h
 ·have hk:=hb _ e hl;refine .inr ⟨b,off,e,AJ,λi hi=>?_⟩;rw[Af (a:=⟨b,off+i,aS⟩) (w:=w) hk];exact hc i hi
theorem OJ.below {w w':aV} {a:Option Addr} {zs:List Int} (h:OJ w a zs) (b:Below w.heap.size w w'):OJ w' a zs:=h.keep b.size (λad _ hl=>b.block _ hl)
structure S3 (lo:Nat) (w:aV) (aD aU aT:Option Addr) (nD nU nT:Nat) (D U T:List Int):Prop where
 d:OJ w aD D
 u:OJ w aU U
 t:OJ w aT T
 nd:D.length=nD
 nu:U.length=nU
 nt:T.length=nT*2
 ld:GC lo w aD
 lu:GC lo w aU
 lt:GC lo w aT
 du:OK aD aU
 dt:OK aD aT
 ut:OK aU aT
theorem S3.keep {lo:Nat} {w w':aV} {aD aU aT:Option Addr} {nD nU nT:Nat} {D U T:List Int} (h:S3 lo w aD aU aT nD nU nT D U T) (hs:w.heap.size<=w'.heap.size) (hb:∀ k,lo<=k->k<w.heap.size->w'.heap[k]?=w.heap[k]?):S3 lo w' aD aU aT nD nU nT D U T:=
 ⟨h.d.keep hs (λad e hl=>hb _ (h.ld ad e).1 hl),h.u.keep hs (λad e hl=>hb _ (h.lu ad e).1 hl),h.t.keep hs (λad e hl=>hb _ (h.lt ad e).1 hl),h.nd,h.nu,h.nt,h.ld.mono Ch hs,h.lu.mono Ch hs,h.lt.mono Ch hs,h.du,h.dt,h.ut⟩
theorem S3.below {lo:Nat} {w w':aV} {aD aU aT:Option Addr} {nD nU nT:Nat} {D U T:List Int} (h:S3 lo w aD aU aT nD nU nT D U T) (b:Below w.heap.size w w'):S3 lo w' aD aU aT nD nU nT D U T:=h.keep b.size (λk _ hk=>b.block k hk)
theorem Iow.mono {B B':Nat} {w:aV} {v:aX} {xs:List Int} (h:Iow B' w v xs) (hB:B<=B'):Iow B w v xs:=by
 refine⟨h.1,?_⟩;rcases h.2 with h'|⟨g,c,cur,h1,h2,h3⟩
 ·exact .inl h'
 ·exact .inr ⟨g,c,cur,h1,AJ,h3⟩
theorem Iow.fresh {w w':aV} {v:aX} {xs:List Int} (h:Iow w.heap.size w' v xs):ME w w' v:=λk hk=>by
 rcases h.2 with⟨h',_⟩|⟨g,c,cur,h',hb,hh,_⟩
 ·rw[h'] at hk;simp[Value.ownBlock] at hk
 ·rw[h'] at hk;simp[Value.ownBlock] at hk;have:=(AR.1 hh).1;omega
theorem Iow.form {B:Nat} {w:aV} {v:aX} {xs:List Int} (h:Iow B w v xs):∃ a n c,v=aM a n c:=by
 rcases h.2 with⟨h',_⟩|⟨g,c,cur,h',_⟩
 ·exact⟨_,_,_,h'⟩
 ·exact⟨_,_,_,h'⟩
theorem Iow.keep {B:Nat} {w w':aV} {v:aX} {xs:List Int} (h:Iow B w v xs) (hb:∀ k,B<=k->k<w.heap.size->w'.heap[k]?=w.heap[k]?):Iow B w' v xs:=by
 refine⟨h.1,?_⟩;rcases h.2 with h'|⟨g,c,cur,h1,h2,h3,h4⟩
 ·exact .inl h'
 ·exact .inr ⟨g,c,cur,h1,h2,by rw[hb g h2 (AR.1 h3).1];exact h3,h4⟩
theorem Iow.below {B:Nat} {w w':aV} {v:aX} {xs:List Int} (h:Iow B w v xs) (b:Below w.heap.size w w'):Iow B w' v xs:=h.keep (λk _ hk=>b.block k hk)
theorem Iow.wr {B R:Nat} {w w':aV} {v:aX} {xs:List Int} (h:Iow B w v xs) (hw:Wr R w w') (hR:R<B):Iow B w' v xs:=h.keep (λk hk _=>hw.block k AJ)
def M1 (lo:Nat) (k:Int) (aT:Option Addr) (nT cT:Nat) (X Y:List Int) (w:aV) (cs:Array aX):Prop:=
 ∃ aD nD cD aU nU cU,cs=#[aM aD nD cD,aM aU nU cU,aO aZ k,aM aT nT cT]/\Iow lo w (aM aD nD cD) X/\Iow lo w (aM aU nU cU) Y/\Ko (aM aD nD cD) (aM aU nU cU)
theorem M1.below {lo:Nat} {k:Int} {aT:Option Addr} {nT cT:Nat} {X Y:List Int} {w w':aV} {cs:Array aX} (h:M1 lo k aT nT cT X Y w cs) (b:Below w.heap.size w w'):M1 lo k aT nT cT X Y w' cs:=by
 obtain⟨aD,nD,cD,aU,nU,cU,e,h1,h2,h3⟩:=h;exact⟨aD,nD,cD,aU,nU,cU,e,h1.below b,h2.below b,h3⟩
def M2 (lo:Nat) (k:Int) (aT:Option Addr) (nT cT:Nat) (X Y:List Int) (w:aV) (v:aX):Prop:=∃ cs,v=af cs/\M1 lo k aT nT cT X Y w cs
theorem M2.below {lo:Nat} {k:Int} {aT:Option Addr} {nT cT:Nat} {X Y:List Int} {w w':aV} {v:aX} (h:M2 lo k aT nT cT X Y w v) (b:Below w.heap.size w w'):M2 lo k aT nT cT X Y w' v:=by
 obtain⟨cs,e,h⟩:=h;exact⟨cs,e,h.below b⟩
theorem M2.wr {lo R:Nat} {k:Int} {aT:Option Addr} {nT cT:Nat} {X Y:List Int} {w w':aV} {v:aX} (h:M2 lo k aT nT cT X Y w v) (hw:Wr R w w') (hR:R<lo):M2 lo k aT nT cT X Y w' v:=by
 obtain⟨cs,e,aD,nD,cD,aU,nU,cU,e2,h1,h2,h3⟩:=h;exact⟨cs,e,aD,nD,cD,aU,nU,cU,e2,h1.wr hw hR,h2.wr hw hR,h3⟩
theorem LG {w:aV} {g:Nat} {d u:List Int} {k:Int} (aT:Option Addr) (nT cT:Nat) (P Q:Nat->Bool) (hb:Bk w g d u k (aM aT nT cT)) (hd:DM d (λv=>P v=true)) (hu:DM u (λv=>Q v=true)) :
  Calls tP 26 #[aY (aR ⟨g,0,aS⟩)] w λe w'=>∃ aD nD cD aU nU cU,e=aQ (af #[aM aD nD cD,aM aU nU cU,aO aZ k,aM aT nT cT])/\Iow w.heap.size w' (aM aD nD cD) (DT P 256)/\Iow w.heap.size w' (aM aU nU cU) (DT Q 256)/\Ko (aM aD nD cD) (aM aU nU cU)/\Below w.heap.size w w':=by
 have HBK:=CY <| hb
 have HGL:=CY <| hb.lt
 have HSD:=CY <| hd
 have HSU:=CY <| hu
 have HSZ:AO ((tP.info? 26).map (·.size)=aR 4):=by show _=_;kernel_rfl
 have HW0:AO (Below w.heap.size w (w.alloc (aa CJ 26)).drew):=by
  have h1:Below w.heap.size w (w.alloc (aa CJ 26)):=Cf.alloc Ch _;exact⟨h1.os,h1.tape,h1.output,h1.size,h1.block⟩
 have HR0:AO ((w.alloc (aa CJ 26)).drew.heap[w.heap.size]?=aR (aa CJ 26 (0,0))):=AS w _;clear hb hd hu;go_enter func26,ntmps26;go_wp2_with fail;refine Ag AM ?_;refine Cg (λi a b=>if i=17 then Wr (w.heap.size) a b else Below a.heap.size a b) (frame:=(λ(a b c:aX)=>λ(t:Nat->aX)=>({ tmps:=List.toArray [a,b,c,t 0,t 1,t 2,t 3,t 4,t 5,t 6,t 7,t 8,t 9,t 10,t 11,t 12,t 13,t 14,t 15,t 16],defers:=[] }:Act)) _ _ _)
  (Ext:=λL u w'=>NS w (w.heap.size) 17 26 CJ (M1 (w.heap.size+1) k aT nT cT (DT P 256) (DT Q 256)) [3,7] L u w') (Good:=λi L w' v=>if i=0 then v=aY (aR ⟨g,0,aS⟩) else if i=1 then v=aY (aR ⟨g,0,aS⟩) else if i=2 then v=aY (aR ⟨g,0,aS⟩) else if i=3 then Iow (w.heap.size+1) w' v (DT P 256) else if i=4 then v=aY (aR ⟨g,0,aS⟩) else if i=5 then v=aY (aR ⟨g,0,aS⟩) else if i=6 then v=aY (aR ⟨g,32,aS⟩) else if i=7 then Iow (w.heap.size+1) w' v (DT Q 256) else if i=8 then v=aY (aR ⟨g,0,aS⟩) else if i=9 then v=aY (aR ⟨g,0,aS⟩) else if i=10 then v=aY (aR ⟨g,64,aS⟩) else if i=11 then v=aO aZ k else if i=12 then v=aY (aR ⟨g,0,aS⟩) else if i=13 then v=aY (aR ⟨g,0,aS⟩) else if i=14 then v=aY (aR ⟨g,65,aS⟩) else if i=15 then v=aM aT nT cT else if i=16 then M2 (w.heap.size+1) k aT nT cT (DT P 256) (DT Q 256) w' v else if i=17 then L 17=true else True) ?hstab AM ?hop ?hdone _ _ ((λ(x0 x1 x2 x3 x4 x5 x6 x7 x8 x9 x10 x11 x12 x13 x14 x15 x16:aX)=>λ(i:Nat)=>if i=0 then x0 else if i=1 then x1 else if i=2 then x2 else if i=3 then x3 else if i=4 then x4 else if i=5 then x5 else if i=6 then x6 else if i=7 then x7 else if i=8 then x8 else if i=9 then x9 else if i=10 then x10 else if i=11 then x11 else if i=12 then x12 else if i=13 then x13 else if i=14 then x14 else if i=15 then x15 else if i=16 then x16 else undef) _ _ _ _ _ _ _ _ _ _ _ _ _ _ _ _ _) _ AL ?ext ?start AL
 case start=>intro i hi h;exact absurd h Ef
 case ext=>exact NS.start ⟨HW0.o,λp _ hp=>absurd hp Ef,λp _ q _ _ hp=>absurd hp Ef⟩ (λ_=>NR) HR0.o
 case hstab=>
  intro j L w9 w' i v hM hij hLi h;by_cases h3:j=3
  ·subst h3;by_cases hl:i=17
   {subst hl;simp at h hM |-;exact h.wr hM AJ};{rw[AQ hl] at hM;simp at h |-;exact h.below hM}
  by_cases h7:j=7
  ·subst h7;by_cases hl:i=17
   {subst hl;simp at h hM |-;exact h.wr hM AJ};{rw[AQ hl] at hM;simp at h |-;exact h.below hM}
  by_cases h16:j=16
  ·subst h16;by_cases hl:i=17
   {subst hl;simp at h hM |-;exact h.wr hM AJ};{rw[AQ hl] at hM;simp at h |-;exact h.below hM}
  by_cases hl:j=17
  ·subst hl;simp at h |-;unfold CZ;simp[h]
  simp only[if_neg h3,if_neg h7,if_neg h16,if_neg hl] at h |-;exact h
 case hop=>
  intro i o L t w' ho hLi hx hdep K hK;have hi:i<18:=(AR.1 ho).1;obtain rfl|rfl|rfl|rfl|rfl|rfl|rfl|rfl|rfl|rfl|rfl|rfl|rfl|rfl|rfl|rfl|rfl|rfl:i=0\/i=1\/i=2\/i=3\/i=4\/i=5\/i=6\/i=7\/i=8\/i=9\/i=10\/i=11\/i=12\/i=13\/i=14\/i=15\/i=16\/i=17:=AJ
  all_goals(simp at ho;subst ho)
  all_goals try(have hK':=hK w' _ rfl (hx.step (λ_ _ _ b h=>h.below b) _ AK _ Cf ES) (by rw[AQ AK];exact Cf);clear hK;simp[Region.binds] at hdep;rw[AP AN];go_simp;simpa[Ca,hdep] using hK';done)
  ·have d2:t 2=aY (aR ⟨g,0,aS⟩):=by simpa using(hdep ⟨2,ag⟩ AL rfl).2
   clear hdep;have hsz:=hx.lt;have bw:=hx.ax.below;have A:=Mx g 0 d P w' (λww hb=>(HBK.o.below (bw.trans (hb.mono bw.size)) HGL.o).batd) HSD.o;have hK':∀ ww v,Iow (w.heap.size+1) ww v (DT P 256)->ME w' ww v->Below w'.heap.size w' ww->K _ ww:=λww v hv hf hb=>hK ww v (by simpa using hv) (hx.step (λ_ _ _ b h=>h.below b) 3 AK v hb (λ_=>hf)) (by rw[AQ AK];exact hb)
   clear hK;rw[AP AN];go_simp;try simp only[d2]
   refine A.mono ?_;rintro e w9 ⟨v9,rfl,hv9,hb9⟩;have hK2:=hK' w9 v9 (hv9.mono hsz) hv9.fresh hb9;clear hK' A hv9 bw hb9;go_simp;simpa[Ca,d2] using hK2
  ·have d6:t 6=aY (aR ⟨g,32,aS⟩):=by simpa using(hdep ⟨6,ag⟩ AL rfl).2
   clear hdep;have hsz:=hx.lt;have bw:=hx.ax.below;have A:=Mx g 32 u Q w' (λww hb=>(HBK.o.below (bw.trans (hb.mono bw.size)) HGL.o).batu) HSU.o;have hK':∀ ww v,Iow (w.heap.size+1) ww v (DT Q 256)->ME w' ww v->Below w'.heap.size w' ww->K _ ww:=λww v hv hf hb=>hK ww v (by simpa using hv) (hx.step (λ_ _ _ b h=>h.below b) 7 AK v hb (λ_=>hf)) (by rw[AQ AK];exact hb)
   clear hK;rw[AP AN];go_simp;try simp only[d6]
   refine A.mono ?_;rintro e w9 ⟨v9,rfl,hv9,hb9⟩;have hK2:=hK' w9 v9 (hv9.mono hsz) hv9.fresh hb9;clear hK' A hv9 bw hb9;go_simp;simpa[Ca,d6] using hK2
  ·have d10:t 10=aY (aR ⟨g,64,aS⟩):=by simpa using(hdep ⟨10,ag⟩ AL rfl).2
   clear hdep;have cc:=(HBK.o.below hx.ax.below HGL.o).ck;have hK':=hK w' (aO aZ k) AL (hx.step (λ_ _ _ b h=>h.below b) 11 AK _ Cf ES) (by rw[AQ AK];exact Cf);clear hK;rw[AP AN];go_simp;simpa[Ca,d10] using hK'
  ·have d14:t 14=aY (aR ⟨g,65,aS⟩):=by simpa using(hdep ⟨14,ag⟩ AL rfl).2
   clear hdep;have cc:=(HBK.o.below hx.ax.below HGL.o).cv;have hK':=hK w' (aM aT nT cT) AL (hx.step (λ_ _ _ b h=>h.below b) 15 AK _ Cf ES) (by rw[AQ AK];exact Cf);clear hK;rw[AP AN];go_simp;simpa[Ca,d14] using hK'
  ·have l3:=(hdep ⟨3,ag⟩ AL rfl).1;have f3:Iow (w.heap.size+1) w' (t 3) (DT P 256):=by simpa using(hdep ⟨3,ag⟩ AL rfl).2
   have l7:L 7=true:=(hdep ⟨7,ag⟩ AL rfl).1;have f7:Iow (w.heap.size+1) w' (t 7) (DT Q 256):=by simpa using(hdep ⟨7,ag⟩ AL rfl).2
   have d11:t 11=aO aZ k:=by simpa using(hdep ⟨11,ag⟩ AL rfl).2
   have d15:t 15=aM aT nT cT:=by simpa using(hdep ⟨15,ag⟩ AL rfl).2
   clear hdep;obtain⟨aD,nD,cD,d3⟩:=f3.form;obtain⟨aU,nU,cU,d7⟩:=f7.form;have hap:=hx.ax.ap 3 AK 7 AK AK l3 l7;rw[d3] at f3 hap;rw[d7] at f7 hap;have hK':=hK w' (af #[aM aD nD cD,aM aU nU cU,aO aZ k,aM aT nT cT]) (by simpa using⟨_,rfl,aD,nD,cD,aU,nU,cU,rfl,f3,f7,hap⟩) (hx.step (λ_ _ _ b h=>h.below b) 16 AK _ Cf ES) (by rw[AQ AK];exact Cf);clear hK f3 f7 hap;rw[AP AN];go_simp;simpa[Ca,d3,d7,d11,d15] using hK'
  ·have f16:M2 (w.heap.size+1) k aT nT cT (DT P 256) (DT Q 256) w' (t 16):=by simpa using(hdep ⟨16,ag⟩ AL rfl).2
   clear hdep;obtain⟨cs,e9,aD,nD,cD,aU,nU,cU,rfl,f3,f7,hap⟩:=f16;have hrs:=hx.pre hLi;have hK':∀ ww,Wr w.heap.size w' ww->ww.heap[w.heap.size]?=aR (aa #[aM aD nD cD,aM aU nU cU,aO aZ k,aM aT nT cT] 26 (0,0))->K _ ww:=λww hw hr=>hK ww undef (by simp[CZ]) (hx.put Ch AK _ hw hr ⟨aD,nD,cD,aU,nU,cU,rfl,f3.wr hw AJ,f7.wr hw AJ,hap⟩) (by rw[AP rfl];exact hw)
   clear hK f3 f7 hap;rw[AP AN];refine Be 26 (ah 2) (ah 19) rfl w.heap.size _ rfl e9 26 _ hrs HSZ.o rfl (by simp[Value.oneCell']) ?_;have hK2:=hK' _ (Wr.setRow _ _ _) (AB hrs);clear hK';simpa[Ca,Act.put] using hK2
 case hdone=>
  intro L t w' hx hg;have l17:L 17=true:=by simpa using hg 17 AK
  clear hg;obtain⟨cs,hr,aD,nD,cD,aU,nU,cU,rfl,h1,h2,h3⟩:=hx.fin l17;have HR9:AO (w'.heap[w.heap.size]?=aR (aa #[aM aD nD cD,aM aU nU cU,aO aZ k,aM aT nT cT] 26 (0,0))):=hr;have HF:AO (Iow w.heap.size w' (aM aD nD cD) (DT P 256)/\Iow w.heap.size w' (aM aU nU cU) (DT Q 256)/\Ko (aM aD nD cD) (aM aU nU cU)/\Below w.heap.size w w'):=⟨h1.mono AJ,h2.mono AJ,h3,hx.ax.below⟩
  clear hx hr h1 h2 h3;go_wp2_with fail;exact AU (v:=af #[aM aD nD cD,aM aU nU cU,aO aZ k,aM aT nT cT]) (AY rfl _ _ w.heap.size 26 _ (0,0) _ rfl HR9.o underlying26 rfl HSZ.o) rfl ⟨aD,nD,cD,aU,nU,cU,rfl,HF.o.1,HF.o.2.1,HF.o.2.2.1,HF.o.2.2.2⟩
theorem XB {D U:List Int} {k:Int} {T:List Int} {n:Nat} {kind:Int} {a b:Nat} (h:(Dy D U k T n kind a b).ok=false):Dy D U k T n kind a b=EE:=by
 unfold Dy at h |-;split
 ·split
  {rename_i h1 h2;rw[AP h1,AP h2] at h;cases h};{rfl}
 ·split
  ·rename_i h1 h2
   rw[AQ h1,AP h2] at h;split
   ·rename_i h3;rw[AP h3] at h;cases h
   ·rename_i h3
    rw[AQ h3] at h;split
    {rename_i h4;rw[AP h4] at h;cases h};{rfl}
  ·rename_i h1 h2
   rw[AQ h1,AQ h2] at h;split
   ·rename_i h3
    rw[AP h3] at h;split
    {rename_i h4;rw[AP h4] at h;cases h};{rfl}
   ·rfl
theorem Fi (xs:List Int) (a:Nat):DO (DF xs a):=Sl _
theorem L3 {D U:List Int} {k:Int} {T:List Int} {n:Nat} {kind:Int} {a b:Nat} (hD:DO D) (hU:DO U):DO (Dy D U k T n kind a b).D/\DO (Dy D U k T n kind a b).U:=by
 have hn:DO ([]:List Int):=λi hi=>by simp at hi
 unfold Dy;split
 ·split
  {exact⟨hD,Fi _ _⟩};{exact⟨hn,hn⟩}
 ·split
  ·split
   ·exact⟨Fi _ _,hU⟩
   ·split
    {exact⟨JQ hD _,hU⟩};{exact⟨hn,hn⟩}
  ·split
   ·split
    {exact⟨hD,hU⟩};{exact⟨hn,hn⟩}
   ·exact⟨hn,hn⟩
open Classical in
noncomputable def EY (D U:List Int) (k:Int) (T:List Int) (n:Nat) (kind:Int) (a b:Nat):Xi:=if Ep D U k T n=true then Dy D U k T n kind a b else EE
theorem GD {D U:List Int} {k:Int} {T:List Int} {n:Nat} (h:Ep D U k T n=true):Tt D U k T n:=by
 unfold Ep at h;simpa using h
def V4 (lo:Nat) (w:aV) (v:aX) (r:Xi):Prop:=
 ∃ aD nD cD aU nU cU aT nT cT,v=af #[.bool r.ok,aM aD nD cD,aM aU nU cU,aO aZ r.k,aM aT nT cT]/\S3 lo w aD aU aT nD nU nT r.D r.U r.T
theorem V4.no (lo:Nat) (w:aV):V4 lo w (af CE) EE:=
 ⟨aS,0,0,aS,0,0,aS,0,0,rfl,.inl rfl,.inl rfl,.inl rfl,rfl,rfl,rfl,λ_ h=>(by cases h),λ_ h=>(by cases h),λ_ h=>(by cases h),λ_ _ h=>(by cases h),λ_ _ h=>(by cases h),λ_ _ h=>(by cases h)⟩
theorem Iow.sat {B:Nat} {w:aV} {a:Option Addr} {n c:Nat} {xs:List Int} (h:Iow B w (aM a n c) xs):OJ w a xs/\xs.length=n/\GC B w a:=by
 rcases h.2 with⟨h',h0⟩|⟨g,cap,cur,h',hb,hh,hc,hm,hs,ht⟩
 ·cases h';have:xs=[]:=BU h0;exact⟨.inl this,h0,λ_ e=>(by cases e)⟩
 ·cases h';have hlt:=(AR.1 hh).1;refine⟨.inr ⟨g,0,rfl,hlt,λi hi=>?_⟩,rfl,λad e=>(by cases e;exact⟨hb,hlt⟩)⟩;rw[Ar];refine⟨?_,An _ _ _ _ _ hh⟩;have:=World.ownsRow.cellAt h i AJ;rw[this];simp[hi]
theorem Dg.sat {B:Nat} {w:aV} {a:Option Addr} {n c:Nat} {T:List Int} (h:Dg B w (aM a n c) T n):OJ w a T/\T.length=n*2/\GC B w a:=by
 obtain⟨hl,⟨h1,h2⟩|⟨t,o,c',h1,hB,ht,hc,hm,hx⟩⟩:=h
 ·cases h1;exact⟨.inl (BU AJ),hl,λ_ e=>(by cases e)⟩
 ·cases h1;exact⟨.inr ⟨t,o,rfl,ht,λi hi=>hx.1 i AJ⟩,hl,λad e=>(by cases e;exact⟨hB,ht⟩)⟩
structure IX (w:aV) (fr:Array aX) (wr:aV):Prop where
 below:Below w.heap.size w wr
 fb:wr.heap[w.heap.size+1]?=aR (aa fr 38 (0,0))
 rb:wr.heap[w.heap.size+2]?=aR (aa CE 42 (0,0))
theorem IX.call {w wr w':aV} {fr:Array aX} {B:Nat} (h:IX w fr wr) (b:Below B wr w') (hB:w.heap.size+3<=B):IX w fr w':=
 ⟨h.below.trans (b.mono AJ),by rw[b.block _ AJ];exact h.fb,by rw[b.block _ AJ];exact h.rb⟩
theorem IX.start (w:aV) (sc fr:Array aX):IX w fr (((w.alloc (aa sc 26)).alloc (aa fr 38)).alloc (aa CE 42)):=by
 refine⟨((Cf.alloc Ch _).alloc AL _).alloc (by simp;omega) _,?_,?_⟩
 ·rw[BD _ _ (w.heap.size+1) AL];have:=AS (w.alloc (aa sc 26)) (aa fr 38)
  rwa [show(w.alloc (aa sc 26)).heap.size=w.heap.size+1 by simp] at this
 ·have:=AS ((w.alloc (aa sc 26)).alloc (aa fr 38)) (aa CE 42)
  rwa [show((w.alloc (aa sc 26)).alloc (aa fr 38)).heap.size=w.heap.size+2 by simp] at this
theorem Cj.keep {B:Nat} {w w':aV} {v:aX} {T:List Int} {n:Nat} (h:Cj B w v T n) (hb:∀ k,B<=k->k<w.heap.size->w'.heap[k]?=w.heap[k]?):Cj B w' v T n:=by
 refine⟨h.1,?_⟩;rcases h.2 with h'|⟨g,c,cur,h1,h2,h3,h4⟩
 ·exact .inl h'
 ·exact .inr ⟨g,c,cur,h1,h2,by rw[hb g h2 (AR.1 h3).1];exact h3,h4⟩
theorem Cj.below {B:Nat} {w w':aV} {v:aX} {T:List Int} {n:Nat} (h:Cj B w v T n) (b:Below w.heap.size w w'):Cj B w' v T n:=h.keep (λk _ hk=>b.block k hk)
theorem Cj.wrk {B R:Nat} {w w':aV} {v:aX} {T:List Int} {n:Nat} (h:Cj B w v T n) (hw:Wr R w w') (hR:R<B):Cj B w' v T n:=h.keep (λk hk _=>hw.block k AJ)
theorem Cj.wr {B R:Nat} {w w':aV} {v:aX} {T:List Int} {n:Nat} (h:Cj B w v T n) (hw:Wr R w w') (hR:R<B):Cj B w' v T n:=h.wrk hw hR
def Hd (lo:Nat) (k:Int) (D U T:List Int) (nT:Nat) (w:aV) (cs:Array aX):Prop:=
 ∃ aD nD cD aU nU cU aT cT,cs=#[aM aD nD cD,aM aU nU cU,aO aZ k,aM aT nT cT]/\Iow lo w (aM aD nD cD) D/\Iow lo w (aM aU nU cU) U/\Cj lo w (aM aT nT cT) T nT
section
variable {lo lo' R:Nat} {k:Int} {D U T:List Int} {nT:Nat} {w w':aV} {cs:Array aX} {v:aX}
theorem Hd.below (h:Hd lo k D U T nT w cs) (b:Below w.heap.size w w'):Hd lo k D U T nT w' cs:=by
 obtain⟨aD,nD,cD,aU,nU,cU,aT,cT,e,h1,h2,h3⟩:=h;exact⟨aD,nD,cD,aU,nU,cU,aT,cT,e,h1.below b,h2.below b,h3.below b⟩
theorem Hd.mono (h:Hd lo k D U T nT w cs) (hl:lo'<=lo):Hd lo' k D U T nT w cs:=by
 obtain⟨aD,nD,cD,aU,nU,cU,aT,cT,e,h1,h2,h3⟩:=h;exact⟨aD,nD,cD,aU,nU,cU,aT,cT,e,h1.mono hl,h2.mono hl,Cj.mono h3 hl⟩
def M3 (lo:Nat) (k:Int) (D U T:List Int) (nT:Nat) (w:aV) (v:aX):Prop:=∃ cs,v=af cs/\Hd lo k D U T nT w cs
theorem M3.below (h:M3 lo k D U T nT w v) (b:Below w.heap.size w w'):M3 lo k D U T nT w' v:=by obtain⟨cs,e,h⟩:=h;exact⟨cs,e,h.below b⟩
theorem M3.wr (h:M3 lo k D U T nT w v) (hw:Wr R w w') (hR:R<lo):M3 lo k D U T nT w' v:=by
 obtain⟨cs,e,aD,nD,cD,aU,nU,cU,aT,cT,e2,h1,h2,h3⟩:=h;exact⟨cs,e,aD,nD,cD,aU,nU,cU,aT,cT,e2,h1.wr hw hR,h2.wr hw hR,h3.wr hw hR⟩
end
structure aK (w wb:aV) (sc:Array aX):Prop where
 p1:w.heap.size<wb.heap.size
 p2:wb.heap[w.heap.size]?=aR (aa sc 26 (0,0))
 p3:w.heap.size<=wb.heap.size
 p4:wb.heap.size<=w.heap.size+1
theorem L4 (aD aU aT:Option Addr) (nD cD nU cU nT cT:Nat) (D U:List Int) (k:Int) (T:List Int) (w:aV) (hD:D.length=nD) (hU:U.length=nU) (hT:T.length=nT*2) (mD:nD<=1048576) (mU:nU<=1048576) (mT:nT<=1048576)
  (haD:At aZ w aD D) (haU:At aZ w aU U) (haT:At aZ w aT T) :
  Calls tP 21 #[af #[aM aD nD cD,aM aU nU cU,aO aZ k,aM aT nT cT]] w λe w'=>∃ cs,e=aQ (af cs)/\Hd w.heap.size k D U T nT w' cs/\Below w.heap.size w w':=by
 obtain⟨wb,hwb⟩:∃ wb,wb=w.alloc (aa #[aM aD nD cD,aM aU nU cU,aO aZ k,aM aT nT cT] 26):=⟨_,rfl⟩
 have HWB:AO (aK w wb #[aM aD nD cD,aM aU nU cU,aO aZ k,aM aT nT cT]):=⟨by rw[hwb];simp,by rw[hwb];exact AS w _,by rw[hwb];simp,by rw[hwb];simp⟩
 have HBW:AO (Below w.heap.size w wb):=by show Below _ _ _;rw[hwb];exact Cf.alloc Ch _
 have HAD:=CY <| haD
 have HAU:=CY <| haU
 have HAT:=CY <| haT
 have HLN:AO (D.length=nD/\U.length=nU/\T.length=nT*2):=⟨hD,hU,hT⟩
 have HSZ:AO ((tP.info? 26).map (·.size)=aR 4):=by show _=_;kernel_rfl
 have HW0:AO (Below wb.heap.size wb ((w.alloc (aa #[aM aD nD cD,aM aU nU cU,aO aZ k,aM aT nT cT] 26)).alloc (aa CJ 26)).drew):=by
  have h1:Below wb.heap.size wb (wb.alloc (aa CJ 26)):=Cf.alloc Ch _;rw[hwb] at h1 |-;exact⟨h1.os,h1.tape,h1.output,h1.size,h1.block⟩
 have HR0:AO (((w.alloc (aa #[aM aD nD cD,aM aU nU cU,aO aZ k,aM aT nT cT] 26)).alloc (aa CJ 26)).drew.heap[w.heap.size+1]?=aR (aa CJ 26 (0,0))):=by
  have:=AS (w.alloc (aa #[aM aD nD cD,aM aU nU cU,aO aZ k,aM aT nT cT] 26)) (aa CJ 26)
  rwa [show(w.alloc (aa #[aM aD nD cD,aM aU nU cU,aO aZ k,aM aT nT cT] 26)).heap.size=w.heap.size+1 by simp] at this
 clear haD haU haT hD hU hT hwb;go_enter func21,ntmps21;go_wp2_with fail;refine Ag AM ?_;refine Cg (λi a b=>if i=15 then Wr (w.heap.size+1) a b else Below a.heap.size a b) (frame:=(λ(a b c:aX)=>λ(t:Nat->aX)=>({ tmps:=List.toArray [a,b,c,t 0,t 1,t 2,t 3,t 4,t 5,t 6,t 7,t 8,t 9,t 10,t 11,t 12,t 13,t 14],defers:=[] }:Act)) _ _ _)
  (Ext:=λL u w'=>NS wb (w.heap.size+1) 15 26 CJ (Hd (w.heap.size+2) k D U T nT) [] L u w') (Good:=λi L w' v=>if i=0 then JC (w.heap.size+2) 2 w' v else if i=1 then v=aY (aR ⟨w.heap.size,0,aS⟩) else if i=2 then v=aM aD nD cD else if i=3 then Iow (w.heap.size+2) w' v D else if i=4 then JC (w.heap.size+2) 2 w' v else if i=5 then v=aY (aR ⟨w.heap.size,1,aS⟩) else if i=6 then v=aM aU nU cU else if i=7 then Iow (w.heap.size+2) w' v U else if i=8 then v=aY (aR ⟨w.heap.size,2,aS⟩) else if i=9 then v=aO aZ k else if i=10 then JC (w.heap.size+2) 70 w' v else if i=11 then v=aY (aR ⟨w.heap.size,3,aS⟩) else if i=12 then v=aM aT nT cT else if i=13 then Cj (w.heap.size+2) w' v T nT else if i=14 then M3 (w.heap.size+2) k D U T nT w' v else if i=15 then L 15=true else True) ?hstab AM ?hop ?hdone _ _ ((λ(x0 x1 x2 x3 x4 x5 x6 x7 x8 x9 x10 x11 x12 x13 x14:aX)=>λ(i:Nat)=>if i=0 then x0 else if i=1 then x1 else if i=2 then x2 else if i=3 then x3 else if i=4 then x4 else if i=5 then x5 else if i=6 then x6 else if i=7 then x7 else if i=8 then x8 else if i=9 then x9 else if i=10 then x10 else if i=11 then x11 else if i=12 then x12 else if i=13 then x13 else if i=14 then x14 else undef) _ _ _ _ _ _ _ _ _ _ _ _ _ _ _) _ AL ?ext ?start AL
 case start=>intro i hi h;exact absurd h Ef
 case ext=>exact NS.start ⟨HW0.o,λp _ hp=>absurd hp Ef,λp _ q _ _ hp=>absurd hp Ef⟩ (λ_=>NR) HR0.o
 case hstab=>
  intro j L w9 w' i v hM hij hLi h;by_cases h0:j=0
  ·subst h0;by_cases hl:i=15
   {subst hl;simp at h hM |-;exact h.wr hM AJ};{rw[AQ hl] at hM;simp at h |-;exact h.below hM}
  by_cases h3:j=3
  ·subst h3;by_cases hl:i=15
   {subst hl;simp at h hM |-;exact h.wr hM AJ};{rw[AQ hl] at hM;simp at h |-;exact h.below hM}
  by_cases h4:j=4
  ·subst h4;by_cases hl:i=15
   {subst hl;simp at h hM |-;exact h.wr hM AJ};{rw[AQ hl] at hM;simp at h |-;exact h.below hM}
  by_cases h7:j=7
  ·subst h7;by_cases hl:i=15
   {subst hl;simp at h hM |-;exact h.wr hM AJ};{rw[AQ hl] at hM;simp at h |-;exact h.below hM}
  by_cases h10:j=10
  ·subst h10;by_cases hl:i=15
   {subst hl;simp at h hM |-;exact h.wr hM AJ};{rw[AQ hl] at hM;simp at h |-;exact h.below hM}
  by_cases h13:j=13
  ·subst h13;by_cases hl:i=15
   {subst hl;simp at h hM |-;exact h.wr hM AJ};{rw[AQ hl] at hM;simp at h |-;exact h.below hM}
  by_cases h14:j=14
  ·subst h14;by_cases hl:i=15
   {subst hl;simp at h hM |-;exact h.wr hM AJ};{rw[AQ hl] at hM;simp at h |-;exact h.below hM}
  by_cases hl:j=15
  ·subst hl;simp at h |-;unfold CZ;simp[h]
  simp only[if_neg h0,if_neg h3,if_neg h4,if_neg h7,if_neg h10,if_neg h13,if_neg h14,if_neg hl] at h |-;exact h
 case hop=>
  intro i o L t w' ho hLi hx hdep K hK;have hi:i<16:=(AR.1 ho).1;obtain rfl|rfl|rfl|rfl|rfl|rfl|rfl|rfl|rfl|rfl|rfl|rfl|rfl|rfl|rfl|rfl:i=0\/i=1\/i=2\/i=3\/i=4\/i=5\/i=6\/i=7\/i=8\/i=9\/i=10\/i=11\/i=12\/i=13\/i=14\/i=15:=AJ
  all_goals(simp at ho;subst ho)
  all_goals try(have hK':=hK w' _ rfl (hx.step (λ_ _ _ b h=>h.below b) _ AK _ Cf ES) (by rw[AQ AK];exact Cf);clear hK;simp[Region.binds] at hdep;rw[AP AN];go_simp;simpa[Ca,hdep] using hK';done)
  ·clear hdep;have hsz:w.heap.size+2<=w'.heap.size:=AG hx.lt
   have bb:Below w'.heap.size w' (w'.alloc (aa #[] 2)):=Cf.alloc Ch _;have hK':=hK (w'.alloc (aa #[] 2)) (aM (aR ⟨w'.heap.size,0,aS⟩) 0 0) (by simpa using JC.new 2 w' hsz) (hx.step (λ_ _ _ b h=>h.below b) 0 AK _ bb ES) (by rw[AQ AK];exact bb);clear hK bb;rw[AP AN];go_simp;simpa[Ca] using hK'
  ·have d1:t 1=aY (aR ⟨w.heap.size,0,aS⟩):=by simpa using(hdep ⟨1,ag⟩ AL rfl).2
   clear hdep;have cc:w'.cell? ⟨w.heap.size,0,aS⟩=aR (aM aD nD cD):=by rw[Af (a:=⟨w.heap.size,0,aS⟩) (w:=wb) (hx.ax.below.block _ HWB.o.p1),AA HWB.o.p2 0];rfl
   have hK':=hK w' (aM aD nD cD) AL (hx.step (λ_ _ _ b h=>h.below b) 2 AK _ Cf ES) (by rw[AQ AK];exact Cf);clear hK;rw[AP AN];go_simp;simpa[Ca,d1] using hK'
  ·have f0:JC (w.heap.size+2) 2 w' (t 0):=by simpa using(hdep ⟨0,ag⟩ AL rfl).2
   have d2:t 2=aM aD nD cD:=by simpa using(hdep ⟨2,ag⟩ AL rfl).2
   clear hdep;have hsz:w.heap.size+2<=w'.heap.size:=AG hx.lt
   have bw:=HBW.o.trans (hx.ax.below.mono HWB.o.p3);have hK':∀ ww v,Iow (w.heap.size+2) ww v D->Below w'.heap.size w' ww->K _ ww:=λww v hv hb=>hK ww v (by simpa using hv) (hx.step (λ_ _ _ b h=>h.below b) 3 AK _ hb ES) (by rw[AQ AK];exact hb)
   clear hK;rw[AP AN];refine Hp 23 2 (aO aZ 0) 1 8 Tryz.infoI64 underlying23 rfl AK AK w' (ah 3) (ah 5) rfl (w.heap.size+2) (t 0) rfl f0 aD nD cD D d2 (by rw[HLN.o.1,Bu]) (HAD.o.below bw) mD hsz ?_;intro v' ww h1 h2;have hK2:=hK' ww v' (by unfold Iow;rw[HLN.o.1];exact h1) h2;clear hK' h1 h2;simpa[Ca,Act.put] using hK2
  ·clear hdep;have hsz:w.heap.size+2<=w'.heap.size:=AG hx.lt
   have bb:Below w'.heap.size w' (w'.alloc (aa #[] 2)):=Cf.alloc Ch _;have hK':=hK (w'.alloc (aa #[] 2)) (aM (aR ⟨w'.heap.size,0,aS⟩) 0 0) (by simpa using JC.new 2 w' hsz) (hx.step (λ_ _ _ b h=>h.below b) 4 AK _ bb ES) (by rw[AQ AK];exact bb);clear hK bb;rw[AP AN];go_simp;simpa[Ca] using hK'
  ·have d5:t 5=aY (aR ⟨w.heap.size,1,aS⟩):=by simpa using(hdep ⟨5,ag⟩ AL rfl).2
   clear hdep;have cc:w'.cell? ⟨w.heap.size,1,aS⟩=aR (aM aU nU cU):=by rw[Af (a:=⟨w.heap.size,1,aS⟩) (w:=wb) (hx.ax.below.block _ HWB.o.p1),AA HWB.o.p2 1];rfl
   have hK':=hK w' (aM aU nU cU) AL (hx.step (λ_ _ _ b h=>h.below b) 6 AK _ Cf ES) (by rw[AQ AK];exact Cf);clear hK;rw[AP AN];go_simp;simpa[Ca,d5] using hK'
  ·have f4:JC (w.heap.size+2) 2 w' (t 4):=by simpa using(hdep ⟨4,ag⟩ AL rfl).2
   have d6:t 6=aM aU nU cU:=by simpa using(hdep ⟨6,ag⟩ AL rfl).2
   clear hdep;have hsz:w.heap.size+2<=w'.heap.size:=AG hx.lt
   have bw:=HBW.o.trans (hx.ax.below.mono HWB.o.p3);have hK':∀ ww v,Iow (w.heap.size+2) ww v U->Below w'.heap.size w' ww->K _ ww:=λww v hv hb=>hK ww v (by simpa using hv) (hx.step (λ_ _ _ b h=>h.below b) 7 AK _ hb ES) (by rw[AQ AK];exact hb)
   clear hK;rw[AP AN];refine Hp 23 2 (aO aZ 0) 1 8 Tryz.infoI64 underlying23 rfl AK AK w' (ah 7) (ah 9) rfl (w.heap.size+2) (t 4) rfl f4 aU nU cU U d6 (by rw[HLN.o.2.1,Bu]) (HAU.o.below bw) mU hsz ?_;intro v' ww h1 h2;have hK2:=hK' ww v' (by unfold Iow;rw[HLN.o.2.1];exact h1) h2;clear hK' h1 h2;simpa[Ca,Act.put] using hK2
  ·have d8:t 8=aY (aR ⟨w.heap.size,2,aS⟩):=by simpa using(hdep ⟨8,ag⟩ AL rfl).2
   clear hdep;have cc:w'.cell? ⟨w.heap.size,2,aS⟩=aR (aO aZ k):=by rw[Af (a:=⟨w.heap.size,2,aS⟩) (w:=wb) (hx.ax.below.block _ HWB.o.p1),AA HWB.o.p2 2];rfl
   have hK':=hK w' (aO aZ k) AL (hx.step (λ_ _ _ b h=>h.below b) 9 AK _ Cf ES) (by rw[AQ AK];exact Cf);clear hK;rw[AP AN];go_simp;simpa[Ca,d8] using hK'
  ·clear hdep;have hsz:w.heap.size+2<=w'.heap.size:=AG hx.lt
   have bb:Below w'.heap.size w' (w'.alloc (aa #[] 70)):=Cf.alloc Ch _;have hK':=hK (w'.alloc (aa #[] 70)) (aM (aR ⟨w'.heap.size,0,aS⟩) 0 0) (by simpa using JC.new 70 w' hsz) (hx.step (λ_ _ _ b h=>h.below b) 10 AK _ bb ES) (by rw[AQ AK];exact bb);clear hK bb;rw[AP AN];go_simp;simpa[Ca] using hK'
  ·have d11:t 11=aY (aR ⟨w.heap.size,3,aS⟩):=by simpa using(hdep ⟨11,ag⟩ AL rfl).2
   clear hdep;have cc:w'.cell? ⟨w.heap.size,3,aS⟩=aR (aM aT nT cT):=by rw[Af (a:=⟨w.heap.size,3,aS⟩) (w:=wb) (hx.ax.below.block _ HWB.o.p1),AA HWB.o.p2 3];rfl
   have hK':=hK w' (aM aT nT cT) AL (hx.step (λ_ _ _ b h=>h.below b) 12 AK _ Cf ES) (by rw[AQ AK];exact Cf);clear hK;rw[AP AN];go_simp;simpa[Ca,d11] using hK'
  ·have f10:JC (w.heap.size+2) 70 w' (t 10):=by simpa using(hdep ⟨10,ag⟩ AL rfl).2
   have d12:t 12=aM aT nT cT:=by simpa using(hdep ⟨12,ag⟩ AL rfl).2
   clear hdep;have hsz:w.heap.size+2<=w'.heap.size:=AG hx.lt
   have bw:=HBW.o.trans (hx.ax.below.mono HWB.o.p3);have hK':∀ ww v,Cj (w.heap.size+2) ww v T nT->Below w'.heap.size w' ww->K _ ww:=λww v hv hb=>hK ww v (by simpa using hv) (hx.step (λ_ _ _ b h=>h.below b) 13 AK _ hb ES) (by rw[AQ AK];exact hb)
   clear hK;rw[AP AN];refine Hp 24 70 (af #[aO aZ 0,aO aZ 0]) 2 16 Tryz.infoTap underlying24 rfl AK AK w' (ah 13) (ah 15) rfl (w.heap.size+2) (t 10) rfl f10 aT nT cT T d12 HLN.o.2.2 (HAT.o.below bw) mT hsz ?_;intro v' ww h1 h2;have hK2:=hK' ww v' h1 h2;clear hK' h1 h2;simpa[Ca,Act.put] using hK2
  ·have f3:Iow (w.heap.size+2) w' (t 3) D:=by simpa using(hdep ⟨3,ag⟩ AL rfl).2
   have f7:Iow (w.heap.size+2) w' (t 7) U:=by simpa using(hdep ⟨7,ag⟩ AL rfl).2
   have d9:t 9=aO aZ k:=by simpa using(hdep ⟨9,ag⟩ AL rfl).2
   have f13:Cj (w.heap.size+2) w' (t 13) T nT:=by simpa using(hdep ⟨13,ag⟩ AL rfl).2
   clear hdep;obtain⟨aD',nD',cD',d3⟩:=f3.form;obtain⟨aU',nU',cU',d7⟩:=f7.form;obtain⟨aT',cT',d13⟩:=f13.tapV.slice;rw[d3] at f3;rw[d7] at f7;rw[d13] at f13;have hK':=hK w' (af #[aM aD' nD' cD',aM aU' nU' cU',aO aZ k,aM aT' nT cT']) (by simpa using⟨_,rfl,aD',nD',cD',aU',nU',cU',aT',cT',rfl,f3,f7,f13⟩) (hx.step (λ_ _ _ b h=>h.below b) 14 AK _ Cf ES) (by rw[AQ AK];exact Cf);clear hK f3 f7 f13;rw[AP AN];go_simp;simpa[Ca,d3,d7,d9,d13] using hK'
  ·have f14:M3 (w.heap.size+2) k D U T nT w' (t 14):=by simpa using(hdep ⟨14,ag⟩ AL rfl).2
   clear hdep;obtain⟨cs,e9,aD',nD',cD',aU',nU',cU',aT',cT',rfl,f3,f7,f13⟩:=f14;have hrs:=hx.pre hLi;have hK':∀ ww,Wr (w.heap.size+1) w' ww->ww.heap[w.heap.size+1]?=aR (aa #[aM aD' nD' cD',aM aU' nU' cU',aO aZ k,aM aT' nT cT'] 26 (0,0))->K _ ww:=λww hw hr=>hK ww undef (by simp[CZ]) (hx.put HWB.o.p4 AK _ hw hr ⟨aD',nD',cD',aU',nU',cU',aT',cT',rfl,f3.wr hw AJ,f7.wr hw AJ,f13.wrk hw AJ⟩) (by rw[AP rfl];exact hw)
   clear hK f3 f7 f13;rw[AP AN];refine Be 26 (ah 2) (ah 17) rfl (w.heap.size+1) _ rfl e9 26 _ hrs HSZ.o rfl (by simp[Value.oneCell']) ?_;have hK2:=hK' _ (Wr.setRow _ _ _) (AB hrs);clear hK';simpa[Ca,Act.put] using hK2
 case hdone=>
  intro L t w' hx hg;have l15:L 15=true:=by simpa using hg 15 AK
  clear hg;obtain⟨cs,hr,hfin⟩:=hx.fin l15;have HR9:=CY <| hr
  have HF:AO (Hd w.heap.size k D U T nT w' cs/\Below w.heap.size w w'):=⟨hfin.mono AJ,HBW.o.trans (hx.ax.below.mono HWB.o.p3)⟩
  have HS4:AO ((tP.info? 26).map (·.size)=aR cs.size):=by
   obtain⟨aD',nD',cD',aU',nU',cU',aT',cT',e,_⟩:=hfin;rw[e];exact HSZ.o
  clear hx hr hfin;go_wp2_with fail;exact AU (v:=af cs) (AY rfl _ _ (w.heap.size+1) 26 _ (0,0) _ rfl HR9.o underlying26 rfl HS4.o) rfl ⟨cs,rfl,HF.o.1,HF.o.2⟩
theorem OL (a b:Nat) (ha:a<4611686018427387904) (hb:b<4611686018427387904):bits .or aZ (a:Int) (b:Int)=((a ||| b:Nat):Int):=by
 have hx:a ||| b<2^62:=Nat.or_lt_two_pow AJ AJ;show IntKind.i64.wrap ((BitVec.ofInt 64 (a:Int) ||| BitVec.ofInt 64 (b:Int)).toNat:Int)=_
 rw[BitVec.toNat_or,ofInt_u64 a AJ,ofInt_u64 b AJ,Ak];omega
theorem OM (a b:Int) (k:Nat) (ha:0<=a) (ha':a<4611686018427387904) (hb:0<=b) (hb':b<2^k) (hb'':b<4611686018427387904) (q:Int) (hd:a=q*2^k):bits .or aZ b a=b+a:=by
 have h:=Fm a b k ha AJ hb hb' AJ q hd;obtain⟨a,rfl⟩:=Ab ha;obtain⟨b,rfl⟩:=Ab hb;rw[u64_or_nat a b AJ AJ] at h;rw[OL b a AJ AJ,Nat.or_comm];omega
theorem U5 (v x:Int) (j:Nat) (hj:j<7) (h0:0<=v) (h1:v<256^j) (x0:0<=x) (x1:x<256) :
  bits .or aZ v (wrap64 (x*2^(8*j)))=v+x*256^j:=by
 have e:(2:Int)^(8*j)=256^j:=by rw[Int.pow_mul];rfl
 have hle:(256:Int)^j<=256^6:=by
  have:j=0\/j=1\/j=2\/j=3\/j=4\/j=5\/j=6:=AJ
  rcases this with h|h|h|h|h|h|h<;>rw[h]<;>decide
 have hP0:(0:Int)<256^j:=Int.pow_pos AK;have e7:(256:Int)^6=281474976710656:=AK
 rw[e7] at hle;have m0:0<=x*256^j:=Int.mul_nonneg x0 AJ;have m1:x*256^j<=255*256^j:=Int.mul_le_mul_of_nonneg_right AJ AJ;rw[e];unfold wrap64;have e2:(x*256^j+9223372036854775808)%18446744073709551616-9223372036854775808=x*256^j:=AJ
 rw[e2];exact OM _ _ (8*j) m0 AJ h0 (by rw[e];exact h1) AJ x (by rw[e])
theorem S9 (a:Option Addr) (n cap:Nat) (zs:List Int) (w:aV) (hn:zs.length=n) (hm:n<=7) (ha:At .u8 w a zs) (hz:Cb zs) :
  Calls tP 101 #[aM a n cap] w λe w'=>e=aQ (aO aZ (val 256 zs))/\w'=w:=by
 go_enter func101,ntmps101;go_wp2
 go_loop [3,8] (λc i=>∃ k:Nat,k<=n/\i=aO aZ k/\c=aO aZ (val 256 (zs.take k))) (λ_ i=>n-(intOf i).toNat)
 case atStart=>exact⟨0,Aw _,rfl,rfl⟩
 case round=>
  obtain⟨k,hk,rfl,rfl⟩:=hrel;by_cases hlt:k<n
  ·obtain⟨b,off,rfl,hb,hc⟩:=ha.get AJ;have hck:=hc k AJ;have hx:=hz.get k;have ht0:0<=val 256 (zs.take k):=C0 AK (λz hz'=>hz z (Ax hz'));have ht1:val 256 (zs.take k)<256^k:=by
    have:=Eg (B:=256) AK (xs:=zs.take k) (λz hz'=>hz z (Ax hz'))
    rwa [Aq,Nat.min_eq_left AJ] at this
   have hs:=U5 _ _ k AJ ht0 ht1 hx.1 hx.2;rw[<-DN 256 zs k AJ] at hs;have HS:AO (bits .or aZ (val 256 (zs.take k)) (wrap64 (zs.getD k 0*2^(8*k)))=val 256 (zs.take (k+1))):=hs;clear hs hc ht0 ht1;generalize zs.getD k 0=x at *;generalize val 256 (zs.take k)=c at *;obtain⟨hx0,hx1⟩:=hx;go_wp2
   go_round
   case rel=>exact⟨k+1,AJ,by go_num,by rw[<-HS.o]⟩
   case measure=>simp[intOf];omega
  ·have hk':k=n:=AJ
   subst hk';have HT:AO (zs.take k=zs):=Ad AJ;go_wp2
   go_ret
   exact⟨FU (by rw[HT.o]),rfl⟩
end Go.Proofs.YtncomnkdlpoelaaGreatDoor
