import Derived.Test.YthmeoilbmfdhfaaGreatMArgDev
import Derived.Test.YthmeoilbmfdhfaaGreatMSvC
open Go.Value renaming int->UE,pointer->UM
open Go.IntKind renaming i64->UO,u8->UH
open Go.Ending renaming returned->UQ
open Option renaming some->UI,none->UJ
open Go renaming World->UK,Value->UL
namespace Go.Proofs.YthmeoilbmfdhfaaGreat
set_option maxHeartbeats 1000000
set_option maxRecDepth 100000
open Go.ChangeShapes Go.WideShapes Go.ChangeAt Go.RowKit
set_option linter.unusedVariables false
theorem Tryz.infoI64q:(Tryz.prog.info? 2).map (λi=>(i.zero,i.size,i.bytes))=UI (UI (UE UO 0),1,8):=AN
def Iow (B:Nat) (w:UK) (v:UL) (xs:List Int):Prop:=w.ownsRow B 2 1 v xs.length (xs.map (Value.int UO))
theorem Iow.nil (B:Nat) (w:UK):Iow B w (.slice UJ 0 0) []:=⟨AM,.inl ⟨rfl,rfl⟩⟩
theorem Iow.ownBlock {B:Nat} {w:UK} {v:UL} {xs:List Int} (h:Iow B w v xs):∀ k,v.ownBlock=UI k->B<=k:=λk hk=>by
 rcases h.2 with⟨h',_⟩|⟨g,c,cur,h',hb,_⟩
 ·rw[h'] at hk;simp[Value.ownBlock] at hk
 ·rw[h'] at hk;simp[Value.ownBlock] at hk;omega
theorem Iow.one {B:Nat} {w:UK} {v:UL} {xs:List Int} (h:Iow B w v xs):v.oneCell'=true:=by
 rcases h.2 with⟨h,_⟩|⟨g,c,cur,h,_⟩
 ·rw[h];rfl
 ·rw[h];rfl
theorem Eg (w:UK) {ops:Array Oper} {rest:List Oper} {o:Oper} {a:Act} {Q:Exit->Act->UK->Prop} (hg:o.guard=UJ) (sx x:Operand)
  (hop:o.op=Op.call { callee:=Callee.builtin Builtin.append,args:=#[sx,x],argTypes:=#[28,28] }) (B:Nat) (v:UL) (xs:List Int) (hs:a.eval sx=v) (hown:Iow B w v xs)
  (wb:UK) (z:Int) (hw:w=wb.alloc (.cells #[UE UO z] 2)) (hx:a.eval x=.slice (UI ⟨wb.heap.size,0,UJ⟩) 1 1) (hm:xs.length<=1048576) (hB:B<=w.heap.size)
  (hK:∀ v' w',Iow B w' v' (xs++[z])->Below B w w'->wpList Tryz.prog ops Q rest (a.put o.dst v') w') :
  wpList Tryz.prog ops Q (o::rest) a w:=by
 obtain⟨i0,hi,hz0,hz1,hz2⟩:=Be Tryz.infoI64q;refine wpList_append_own_at w hg sx x 28 hop B 2 i0 (UE UO 0) 1 8 Tryz.underlying28 hi hz0 hz1 hz2 rfl AL v xs.length _ hs hown ⟨wb.heap.size,0,UJ⟩ 1 1 [UE UO z] hx rfl (by rw[hw];exact cell_one_new wb _ _) (by simp[Value.oneCell']) (by unfold maxLen;omega) AK hB ?_;intro v' w' h1 h2 _ _;refine hK v' w' ?_ (Cs.grown h2 hB hown.ownBlock);unfold Iow;rw[BY,Al];exact h1
theorem Iow.alloc {B:Nat} {w:UK} {v:UL} {xs:List Int} (h:Iow B w v xs) (o:Obj):Iow B (w.alloc o) v xs:=World.ownsRow.alloc h _
structure Og (w:UK) (P:Nat->Bool) (k:Nat) (v:UL) (wr:UK):Prop where
 own:Iow w.heap.size wr v (Dg P k)
 below:Below w.heap.size w wr
theorem Iv (g o:Nat) (bs:List Int) (P:Nat->Bool) (w:UK) (hb:∀ w',Below w.heap.size w w'->LY w' g o bs) (hs:DV bs (λv=>P v=true)) :
  Calls Tryz.prog 87 #[UM (UI ⟨g,o,UJ⟩)] w λe w'=>∃ v,e=UQ v/\Iow w.heap.size w' v (Dg P 256)/\Below w.heap.size w w':=by
 have HB:AP (∀ w',Below w.heap.size w w'->LY w' g o bs):=hb;have HS:AP (DV bs (λv=>P v=true)):=hs;have H0:AP (Og w P 0 (.slice UJ 0 0) w):=⟨Iow.nil _ _,Ad _ _⟩
 clear hb hs;go_enter Tryz.func87,Tryz.ntmps87;go_wp2_with fail
 go_loopw [3,5] (λl i wr=>∃(k:Nat) (v:UL),k<=256/\i=UE UO k/\v=l/\Og w P k v wr) (λ_ i _=>256-(intOf i).toNat)
 case atStart=>exact⟨0,_,AK,rfl,rfl,H0.o⟩
 case round=>
  clear H0;obtain⟨k,l,hk,rfl,rfl,hst⟩:=hrel;by_cases hlt:k<256
  ·have hlt':(k:Int)<256:=AK
   have HST:AP (Og w P k l wr):=hst;have HQ:AP (P k=true↔(0<=(k:Int)/\(k:Int)<256/\P (k:Int).toNat=true)):=by
    show _↔_
    rw[Bw];exact⟨λh=>⟨AK,AK,h⟩,λh=>h.2.2⟩
   clear hst;go_wp2_with fail;refine(Hh g o k bs _ (P k) _ (HB.o _ HST.o.below) HS.o HQ.o).mono ?_;rintro e w2 ⟨rfl,rfl⟩;by_cases hp:P k=true
   ·have HN:AP (Dg P (k+1)=Dg P k++[(k:Int)]):=by show _=_;rw[EI,AR hp]
    rw[hp];have HL:AP ((Dg P k).length<=1048576):=BC (Fu P k) AK;have HO:AP (Iow w.heap.size (w2.alloc (.cells #[UE UO (k:Int)] 2)) l (Dg P k)):=HST.o.own.alloc _;have HZ:AP (w.heap.size<=(w2.alloc (.cells #[UE UO (k:Int)] 2)).heap.size):=by
     show _<=_
     have:=HST.o.below.size;simp;omega
    clear hp HQ;go_wp2_with (first
     |(refine Eg _ rfl (.tmp 11) (.tmp 13) rfl w.heap.size _ (Dg P k) rfl HO.o w2 k rfl rfl HL.o HZ.o ?_)
     |fail)
    intro v' w3 h1 h2;have HF:AP (Og w P (k+1) v' w3):=⟨by rw[HN.o];exact h1,(HST.o.below.alloc HST.o.below.size _).trans h2⟩
    clear h1 h2 HO HZ HL;go_wp2;go_roundw
    case rel=>exact⟨k+1,_,AK,by go_num,rfl,HF.o⟩
    case measure=>simp[intOf];omega
   ·have HF:AP (Og w P (k+1) l w2):=⟨by rw[EI,AS hp];exact HST.o.own,HST.o.below⟩
    rw[Bool.not_eq_true] at hp;rw[hp];clear hp HQ;go_wp2;go_roundw
    case rel=>exact⟨k+1,_,AK,by go_num,rfl,HF.o⟩
    case measure=>simp[intOf];omega
  ·have hke:k=256:=AK
   subst hke;have HF:AP (∃ v,UQ l=UQ v/\Iow w.heap.size wr v (Dg P 256)/\Below w.heap.size w wr):=⟨l,rfl,hst.own,hst.below⟩
   clear hst;go_wp2
   go_ret
   exact HF.o
theorem MT (x:Nat):IY x<=8:=by
 unfold IY;exact BC (List.length_filter_le _ _) AM
theorem Qg (T:ByteArray) (h:∀ y:Fin T.size,(T[y.val]).toNat=IY y.val) (x:Nat) (hx:x<T.size):wrap64 ((T[x]).toNat:Int)=IY x:=by
 have e:(T[x]).toNat=IY x:=h ⟨x,hx⟩;rw[e];have:=MT x;unfold wrap64;omega
theorem NE (x:Nat) (hx:x<256) (w:UK):Calls Tryz.prog 169 #[UE UH x] w λe w'=>e=UQ (UE UO (IY x))/\w'=w:=by
 have hx':(x:Int)<256:=AK
 go_enter Tryz.func169,Tryz.ntmps169;go_wp2
 go_ret
 exact⟨congrArg (λz=>UQ (UE UO z)) (Qg _ (by decide +kernel) x _),rfl⟩
theorem Oh (g o:Nat) (bs:List Int) (w:UK) (hb:LY w g o bs) :
  Calls Tryz.prog 164 #[UM (UI ⟨g,o,UJ⟩)] w λe w'=>e=UQ (UE UO (FK bs 32))/\w'=w:=by
 have HB:AP (LY w g o bs):=hb;clear hb;go_enter Tryz.func164,Tryz.ntmps164;go_wp2_with fail
 go_loopw [3,7] (λs i wr=>∃ k:Nat,k<=32/\i=UE UO k/\s=UE UO (FK bs k)/\FK bs k<=8*k/\wr=w) (λ_ i _=>32-(intOf i).toNat)
 case atStart=>exact⟨0,AK,rfl,rfl,AY _,rfl⟩
 case round=>
  obtain⟨k,hk,rfl,rfl,hle,rfl⟩:=hrel;by_cases hlt:k<32
  ·have hlt':(k:Int)<32:=AK
   obtain⟨h1,h2,h3⟩:=HB.o;obtain⟨c0,f0⟩:=h3 k hlt;obtain⟨x0,x1⟩:=h2.get k;have HS:AP (FK bs (k+1)=FK bs k+IY (bs.getD k 0).toNat):=JU bs k;obtain⟨x,hx⟩:=Ai x0;rw[hx] at c0 x1;have HX:AP ((bs.getD k 0).toNat=x):=by show _=_;rw[hx];exact Bw x
   have hx256:x<256:=AK
   have hp8:IY x<=8:=MT x;rw[HX.o] at HS;clear h1 h2 h3 hx x0 HX f0 x1;generalize FK bs k=s at *;go_wp2_with fail;refine(NE x hx256 _).mono ?_;rintro e w2 ⟨rfl,rfl⟩;generalize IY x=p at *;go_wp2;go_roundw
   case rel=>exact⟨k+1,AK,by go_num,by rw[HS.o,Int.natCast_add],AG HS.o,trivial⟩
   case measure=>simp[intOf];omega
  ·have hke:k=32:=AK
   subst hke;go_wp2
   go_ret
   exact⟨rfl,rfl⟩
end Go.Proofs.YthmeoilbmfdhfaaGreat
namespace Go.Proofs.YthmeoilbmfdhfaaGreat
open Go.ChangeShapes Go.WideShapes Go.ChangeAt Go.RowKit
set_option linter.unusedVariables false
theorem If (d u:List Int) (k:Int) (v:UL) (i:Nat):(Fe d u k v)[i]?=(d.map (Value.int UH)++u.map (Value.int UH)++[UE UO k,v])[i]?:=by unfold Fe;simp
theorem S1 {d u:List Int} (hd:d.length=32) (hu:u.length=32) (k:Int) (v:UL) (i:Nat) (hi:i<32):(Fe d u k v)[i]?=UI (UE UH (d.getD i 0)):=by
 rw[If,By,A0 (by simp[hd,hi])];simp[hd,hi]
theorem S2 {d u:List Int} (hd:d.length=32) (hu:u.length=32) (k:Int) (v:UL) (i:Nat) (hi:i<32):(Fe d u k v)[32+i]?=UI (UE UH (u.getD i 0)):=by
 rw[If,A0 (by simp[hd,hu];omega),Am (by simp[hd])];simp[hd,hu,hi]
theorem S4 {d u:List Int} (hd:d.length=32) (hu:u.length=32) (k:Int) (v:UL):(Fe d u k v)[64]?=UI (UE UO k):=by
 rw[If,Am (by simp[hd,hu])];simp[hd,hu]
theorem S5 {d u:List Int} (hd:d.length=32) (hu:u.length=32) (k:Int) (v:UL):(Fe d u k v)[65]?=UI v:=by
 rw[If,Am (by simp[hd,hu])];simp[hd,hu]
theorem JV {d u:List Int} (hd:d.length=32) (k:Int) (v:UL) (i:Nat) (hi:i<32) (x:Int):(Fe d u k v).setIfInBounds i (UE UH x)=Fe (d.set i x) u k v:=by
 unfold Fe;rw[CI,By,List.set_append_left _ _ (by simp[hd,hi]),<-By,<-List.map_set]
theorem NF {d u:List Int} (hd:d.length=32) (hu:u.length=32) (k:Int) (v:UL) (i:Nat) (hi:i<32) (x:Int):(Fe d u k v).setIfInBounds (32+i) (UE UH x)=Fe d (u.set i x) k v:=by
 unfold Fe;rw[CI,List.set_append_left _ _ (by simp[hd,hu];omega),B6 _ _ (by simp[hd]),BI,hd,Bt,<-List.map_set]
theorem NG {d u:List Int} (hd:d.length=32) (hu:u.length=32) (k:Int) (v:UL) (k':Int):(Fe d u k v).setIfInBounds 64 (UE UO k')=Fe d u k' v:=by
 unfold Fe;rw[CI,B6 _ _ (by simp[hd,hu])];simp[hd,hu]
theorem NH {d u:List Int} (hd:d.length=32) (hu:u.length=32) (k:Int) (v v':UL):(Fe d u k v).setIfInBounds 65 v'=Fe d u k v':=by
 unfold Fe;rw[CI,B6 _ _ (by simp[hd,hu])];simp[hd,hu]
structure Bk (w:UK) (g:Nat) (d u:List Int) (k:Int) (v:UL):Prop where
 row:w.heap[g]?=UI (.cells (Fe d u k v) 77 (0,0))
 ld:d.length=32
 lu:u.length=32
 bd:Cu d
 bu:Cu u
variable {w w':UK} {g:Nat} {d u:List Int} {k:Int} {v:UL}
theorem Bk.lt (h:Bk w g d u k v):g<w.heap.size:=(AQ.1 h.row).1
theorem Bk.batd (h:Bk w g d u k v):LY w g 0 d:=⟨h.ld,h.bd,λi hi=>by
 rw[Ak];exact⟨(AA h.row _).trans (S1 h.ld h.lu k v i hi),Ag _ _ _ _ _ h.row⟩⟩
theorem Bk.batu (h:Bk w g d u k v):LY w g 32 u:=⟨h.lu,h.bu,λi hi=>⟨(AA h.row _).trans (S2 h.ld h.lu k v i hi),Ag _ _ _ _ _ h.row⟩⟩
theorem Bk.ck (h:Bk w g d u k v):w.cell? ⟨g,64,UJ⟩=UI (UE UO k):=(AA h.row _).trans (S4 h.ld h.lu k v)
theorem Bk.cv (h:Bk w g d u k v):w.cell? ⟨g,65,UJ⟩=UI v:=(AA h.row _).trans (S5 h.ld h.lu k v)
theorem Bk.fz (h:Bk w g d u k v) (i:Nat):w.frozen? ⟨g,i,UJ⟩=false:=Ag _ _ _ _ _ h.row
theorem Bk.below (h:Bk w g d u k v) {B:Nat} (b:Below B w w') (hg:g<B):Bk w' g d u k v:=⟨by rw[b.block g hg];exact h.row,h.ld,h.lu,h.bd,h.bu⟩
theorem Bk.drew (h:Bk w g d u k v) (q:Nat):Bk (w.drewN q) g d u k v:=⟨h.row,h.ld,h.lu,h.bd,h.bu⟩
theorem Kn (bs:List Int) (i:Nat):(EC bs i).length=bs.length:=by unfold EC;simp
theorem Oi (bs:List Int) (i:Nat):(FD bs i).length=bs.length:=by unfold FD;simp
theorem JW {bs:List Int} (h:Cu bs) (i:Nat):Cu (EC bs i):=by
 have hx:=h.get (i/8);obtain⟨a,b,c⟩:=JQ _ (i%8) hx.1 hx.2 AK;exact Hg h _ _ a b
theorem NI {bs:List Int} (h:Cu bs) (i:Nat):Cu (FD bs i):=by
 have hx:=h.get (i/8);obtain⟨a,b,c⟩:=Ip _ (i%8) hx.1 hx.2 AK;exact Hg h _ _ a b
theorem JY (bs:List Int) (i:Nat) (h:i/8<bs.length):bs.set (i/8) ((EC bs i).getD (i/8) 0)=EC bs i:=by
 unfold EC;rw[Ed _ _ _ _ h,AR rfl]
theorem NJ (bs:List Int) (i:Nat) (h:i/8<bs.length):bs.set (i/8) ((FD bs i).getD (i/8) 0)=FD bs i:=by
 unfold FD;rw[Ed _ _ _ _ h,AR rfl]
theorem Bk.addD (h:Bk w g d u k v) (i:Nat) (hi:i<256):Bk (w.setCell ⟨g,0+i/8,UJ⟩ (UE UH ((EC d i).getD (i/8) 0))) g (EC d i) u k v:=
 ⟨by rw[Ak,A9 _ _ _ _ _ _ h.row,JV h.ld _ _ _ AK,JY _ _ (AG h.ld)],by rw[Kn];exact h.ld,h.lu,JW h.bd i,h.bu⟩
theorem Bk.remD (h:Bk w g d u k v) (i:Nat) (hi:i<256):Bk (w.setCell ⟨g,0+i/8,UJ⟩ (UE UH ((FD d i).getD (i/8) 0))) g (FD d i) u k v:=
 ⟨by rw[Ak,A9 _ _ _ _ _ _ h.row,JV h.ld _ _ _ AK,NJ _ _ (AG h.ld)],by rw[Oi];exact h.ld,h.lu,NI h.bd i,h.bu⟩
theorem Bk.addU (h:Bk w g d u k v) (i:Nat) (hi:i<256):Bk (w.setCell ⟨g,32+i/8,UJ⟩ (UE UH ((EC u i).getD (i/8) 0))) g d (EC u i) k v:=
 ⟨by rw[A9 _ _ _ _ _ _ h.row,NF h.ld h.lu _ _ _ AK,JY _ _ (AG h.lu)],h.ld,by rw[Kn];exact h.lu,h.bd,JW h.bu i⟩
theorem Bk.setK (h:Bk w g d u k v) (k':Int):Bk (w.setCell ⟨g,64,UJ⟩ (UE UO k')) g d u k' v:=
 ⟨by rw[A9 _ _ _ _ _ _ h.row,NG h.ld h.lu],h.ld,h.lu,h.bd,h.bu⟩
theorem Bk.setV (h:Bk w g d u k v) (v':UL):Bk (w.setCell ⟨g,65,UJ⟩ v') g d u k v':=
 ⟨by rw[A9 _ _ _ _ _ _ h.row,NH h.ld h.lu],h.ld,h.lu,h.bd,h.bu⟩
theorem Jy (a:Option Addr) (n c:Nat) (hb:Bk w g d u k (.slice a n c)) (h0:0<=k) (h1:k<=1048576) (hn:n<=1048576) :
  Calls Tryz.prog 160 #[UM (UI ⟨g,0,UJ⟩)] w λe w'=>e=UQ (UE UO (k+n))/\∃ q,w'=w.drewN q:=by
 have c0:=hb.ck;have c1:=hb.cv;clear hb;go_enter Tryz.func160,Tryz.ntmps160;go_wp2_with fail
 go_region
 go_wp2
 go_ret
 exact⟨rfl,1,rfl⟩
theorem Ko (hb:Bk w g d u k v) :
  Calls Tryz.prog 159 #[UM (UI ⟨g,0,UJ⟩)] w λe w'=>e=UQ (.bool (decide (FK d 32=16)))/\w'=w:=by
 have HB:AP (LY w g 0 d):=hb.batd;clear hb;go_enter Tryz.func159,Tryz.ntmps159;go_wp2_with fail;refine(Oh g 0 d _ HB.o).mono ?_;rintro e w2 ⟨rfl,rfl⟩;clear HB;by_cases hs:FK d 32=16
 ·have HD:AP (decide (FK d 32=16)=true):=BJ hs;rw[hs];go_wp2
  go_ret
  exact⟨by rw[HD.o];rfl,rfl⟩
 ·have HD:AP (decide (FK d 32=16)=false):=Ar hs;have HE:AP ((((FK d 32:Nat):Int) == 16)=false):=by
   show _=_
   have:¬ (((FK d 32:Nat):Int)=16):=AK
   simpa using this
  clear hs;go_wp2
  go_ret
  exact⟨by rw[HD.o,<-HE.o];rfl,rfl⟩
end Go.Proofs.YthmeoilbmfdhfaaGreat
namespace Go.Proofs.YthmeoilbmfdhfaaGreat
open Go.ChangeShapes Go.WideShapes Go.ChangeAt Go.RowKit
set_option linter.unusedVariables false
def Dc (zs:List Int) (s:Nat) (z:List Int):List Int:=zs.take (s*64)++(z++zs.drop (s*64+z.length))
theorem Eh (zs:List Int) (s:Nat) (z:List Int) (h:s*64+z.length<=zs.length):(Dc zs s z).length=zs.length:=by simp[Dc];omega
theorem NK (b off n cap:Nat) (s:Nat) (b' off' m cap':Nat) (zs z:List Int) (w:UK) (hn:zs.length=n) (hm:z.length=m) (hn2:n<=1048576) (hcap:n<=cap) (hs:s*64+m<=n) (hA:At UH w (UI ⟨b,off,UJ⟩) zs) (hz:At UH w (UI ⟨b',off',UJ⟩) z) :
  Calls Tryz.prog 104 #[.slice (UI ⟨b,off,UJ⟩) n cap,UE UO s,.slice (UI ⟨b',off',UJ⟩) m cap'] w λe w'=>∃ v,e=UQ v/\DT w' w.heap.size v (Dc zs s z)/\Below w.heap.size w w':=by
 have HA:AP _:=hA;have HZ:AP _:=hz;have HN:AP _:=hn;have HM:AP _:=hm;clear hA hz hn hm;have t1:(s:Int)*64<=cap:=AK
 go_enter Tryz.func104,Tryz.ntmps104;have hL1:(zs.take (s*64)).length=s*64:=by have:=HN.o;simp;omega
 have hN1:∀ j,j<s*64->(w.alloc (.cells #[] 5)).cell? ((⟨b,off,UJ⟩:Addr).add j)=UI (UE UH ((zs.take (s*64)).getD j 0)):=by
  intro j hj;have hn:=HN.o;obtain⟨b1,o1,e1,hb1,hc1⟩:=At.get HA.o AK;cases e1;rw[Ay,((Ad w.heap.size w).alloc Cw _).cell (p:=⟨b,off+j,UJ⟩) hb1,hc1 j AK];simp[List.getD,hj]
 have HL1:AP _:=hL1;have HN1:AP _:=hN1;clear hL1 hN1;go_wp2_with (at_builtin;refine Dh _ rfl _ _ rfl w.heap.size _ _ rfl (DT.empty w w.heap.size Cw) ⟨b,off,UJ⟩ (s*64) _ (zs.take (s*64)) rfl HL1.o HN1.o ?c2 ?c3 ?_)
 (try(case c2=>first|omega|(simp;omega)))
 (try(case c3=>first|omega|(simp;try omega)))
 intro v1 w1 ho1 hb1 _;have hB1:Below w.heap.size w w1:=(Cs.alloc Cw _).trans hb1;have ho1':DT w1 w.heap.size v1 (zs.take (s*64)):=by simpa using ho1
 have hs1:=hB1.size;have HO1:AP _:=ho1';have HB1:AP _:=hB1;have hN2:∀ j,j<m->w1.cell? ((⟨b',off',UJ⟩:Addr).add j)=UI (UE UH (z.getD j 0)):=by
  intro j hj;have hm:=HM.o;obtain⟨b2,o2,e2,hb2,hc2⟩:=At.get HZ.o AK;cases e2;rw[Ay,hB1.cell (p:=⟨b',off'+j,UJ⟩) hb2];exact hc2 j AK
 have HN2:AP _:=hN2;clear hN2 ho1 ho1' hb1 hB1;have hll:(zs.take (s*64)).length+m<=1099511627776:=AG HL1.o
 go_wp2_with (at_builtin;refine Dh _ rfl _ _ rfl w.heap.size _ _ rfl HO1.o ⟨b',off',UJ⟩ m cap' z rfl HM.o HN2.o ?d2 ?d3 ?_)
 (try(case d2=>first|omega|(simp;omega)))
 (try(case d3=>first|omega|(simp;try omega)))
 intro v2 w2 ho2 hb2 _;have hB2:Below w.heap.size w w2:=HB1.o.trans hb2;have hs2:=hB2.size;have hl2:(zs.take (s*64)++z).length=s*64+m:=by have:=HN.o;have:=HM.o;simp;omega
 have HO2:AP _:=ho2;have HB2:AP _:=hB2;have HL2:AP _:=hl2;have hfin:∀ v3 w3,DT w3 w.heap.size v3 (zs.take (s*64)++(z++zs.drop (s*64+m)))->DT w3 w.heap.size v3 (Dc zs s z):=λv3 w3 h=>by
  have e:Dc zs s z=zs.take (s*64)++(z++zs.drop (s*64+m)):=by unfold Dc;rw[HM.o]
  rw[e];exact h
 have HFIN:AP _:=hfin;have hL3:(zs.drop (s*64+m)).length=n-(s*64+m):=by have:=HN.o;simp;omega
 have HL3:AP _:=hL3;have t2:(s:Int)*64+m<=n:=AK
 have t3:(n:Int)<=cap:=AK
 clear ho2 hb2 hB2 hl2 hfin hL3 HN2 HO1 HB1 hll;by_cases hcl:cap=s*64+m
 ·have hn0:n-(s*64+m)=0:=AK
  have hN3:∀ j,j<n-(s*64+m)->w2.cell? ((⟨b,off,UJ⟩:Addr).add j)=UI (UE UH ((zs.drop (s*64+m)).getD j 0)):=λj hj=>AK
  have HN3:AP _:=hN3;have HN0:AP _:=hn0;clear hN3 hn0;go_wp2_with (at_builtin;refine Dh _ rfl _ _ rfl w.heap.size _ _ rfl HO2.o ⟨b,off,UJ⟩ (n-(s*64+m)) _ (zs.drop (s*64+m)) rfl HL3.o HN3.o ?e2 ?e3 ?_)
  (try(case e2=>have:=HL2.o;first|omega|(simp;omega)))
  (try(case e3=>first|omega|(simp;try omega)))
  intro v3 w3 ho3 hb3 _;have HO3:AP _:=HFIN.o v3 w3 ho3;have HB3:AP _:=HB2.o.trans hb3;clear ho3 hb3;go_wp2
  go_ret
  exact⟨_,rfl,HO3.o,HB3.o⟩
 ·have hN3:∀ j,j<n-(s*64+m)->w2.cell? ((⟨b,off+(s*64+m),UJ⟩:Addr).add j)=UI (UE UH ((zs.drop (s*64+m)).getD j 0)):=λj hj=>by
   have hn:=HN.o;obtain⟨b1,o1,e1,hb1,hc1⟩:=At.get HA.o AK;cases e1;rw[Ay,Ap,HB2.o.cell (p:=⟨b,off+(s*64+m+j),UJ⟩) hb1,hc1 (s*64+m+j) AK];simp[List.getD]
  have HN3:AP _:=hN3;clear hN3;go_wp2_with (at_builtin;refine Dh _ rfl _ _ rfl w.heap.size _ _ rfl HO2.o ⟨b,off+(s*64+m),UJ⟩ (n-(s*64+m)) _ (zs.drop (s*64+m)) rfl HL3.o HN3.o ?e2 ?e3 ?_)
  (try(case e2=>have:=HL2.o;first|omega|(simp;omega)))
  (try(case e3=>first|omega|(simp;try omega)))
  intro v3 w3 ho3 hb3 _;have HO3:AP _:=HFIN.o v3 w3 ho3;have HB3:AP _:=HB2.o.trans hb3;clear ho3 hb3;go_wp2
  go_ret
  exact⟨_,rfl,HO3.o,HB3.o⟩
end Go.Proofs.YthmeoilbmfdhfaaGreat
