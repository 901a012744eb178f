import Derived.Test.YthmeoilbmfdhfaaGreatMSwI
import Derived.Test.YthmeoilbmfdhfaaGreatMSwD
import Derived.Test.YthmeoilbmfdhfaaGreatSnX
open Go.Value renaming slice->UD,int->UE,pointer->UM
open Go.Obj renaming cells->UP
open Option renaming some->UI,none->UJ
open Go renaming World->UK,Value->UL
namespace Go.Proofs.YthmeoilbmfdhfaaGreat
set_option maxHeartbeats 2000000
set_option maxRecDepth 100000
open Go.ChangeShapes Go.WideShapes Go.ChangeAt Go.RowKit
set_option linter.unusedVariables false
theorem SD {D U:List Int} {k:Int} {T:List Int} {n:Nat} {kind:Int} {a b:Nat} (h:(Ea D U k T n kind a b).ok=false):Ea D U k T n kind a b=EL:=by
 unfold Ea at h |-;split
 ·split
  ·rename_i h1 h2;rw[AR h1,AR h2] at h;cases h
  ·rfl
 ·split
  ·rename_i h1 h2
   rw[AS h1,AR h2] at h;split
   ·rename_i h3;rw[AR h3] at h;cases h
   ·rename_i h3
    rw[AS h3] at h;split
    ·rename_i h4;rw[AR h4] at h;cases h
    ·rfl
  ·rename_i h1 h2
   rw[AS h1,AS h2] at h;split
   ·rename_i h3
    rw[AR h3] at h;split
    ·rename_i h4;rw[AR h4] at h;cases h
    ·rfl
   ·rfl
theorem Jf (xs:List Int) (a:Nat):Dj (Dy xs a):=OO _
theorem Qp {D U:List Int} {k:Int} {T:List Int} {n:Nat} {kind:Int} {a b:Nat} (hD:Dj D) (hU:Dj U):Dj (Ea D U k T n kind a b).D/\Dj (Ea D U k T n kind a b).U:=by
 have hn:Dj ([]:List Int):=λi hi=>by simp at hi
 unfold Ea;split
 ·split
  ·exact⟨hD,Jf _ _⟩
  ·exact⟨hn,hn⟩
 ·split
  ·split
   ·exact⟨Jf _ _,hU⟩
   ·split
    ·exact⟨Kh hD _,hU⟩
    ·exact⟨hn,hn⟩
  ·split
   ·split
    ·exact⟨hD,hU⟩
    ·exact⟨hn,hn⟩
   ·exact⟨hn,hn⟩
open Classical in
noncomputable def Ff (D U:List Int) (k:Int) (T:List Int) (n:Nat) (kind:Int) (a b:Nat):GN:=if GI D U k T n=true then Ea D U k T n kind a b else EL
theorem SE {D U:List Int} {k:Int} {T:List Int} {n:Nat} (h:GI D U k T n=true):JE D U k T n:=by
 unfold GI at h;simpa using h
theorem Iow.sat {B:Nat} {w:UK} {a:Option Addr} {n c:Nat} {xs:List Int} (h:Iow B w (UD a n c) xs):Ly w a xs/\xs.length=n/\De B w a:=by
 rcases h.2 with⟨h',h0⟩|⟨g,cap,cur,h',hb,hh,hc,hm,hs,ht⟩
 ·cases h';have:xs=[]:=Aq h0;exact⟨.inl this,h0,λ_ e=>(by cases e)⟩
 ·cases h';have hlt:=(AQ.1 hh).1;refine⟨.inr ⟨g,0,rfl,hlt,λi hi=>?_⟩,rfl,λad e=>(by cases e;exact⟨hb,hlt⟩)⟩;rw[Ak];refine⟨?_,Ag _ _ _ _ _ hh⟩;have:=World.ownsRow.cellAt h i AK;rw[this];simp[hi]
theorem Ds.sat {B:Nat} {w:UK} {a:Option Addr} {n c:Nat} {T:List Int} (h:Ds B w (UD a n c) T n):Ly w a T/\T.length=n*2/\De B w a:=by
 obtain⟨hl,⟨h1,h2⟩|⟨t,o,c',h1,hB,ht,hc,hm,hx⟩⟩:=h
 ·cases h1;exact⟨.inl (Aq AK),hl,λ_ e=>(by cases e)⟩
 ·cases h1;exact⟨.inr ⟨t,o,rfl,ht,λi hi=>hx.1 i AK⟩,hl,λad e=>(by cases e;exact⟨hB,ht⟩)⟩
structure IX (w:UK) (fr:Array UL) (wr:UK):Prop where
 below:Below w.heap.size w wr
 fb:wr.heap[w.heap.size+1]?=UI (UP fr 112 (0,0))
 rb:wr.heap[w.heap.size+2]?=UI (UP Cc 68 (0,0))
theorem IX.start (w:UK) (sc fr:Array UL):IX w fr (((w.alloc (UP sc 34)).alloc (UP fr 112)).alloc (UP Cc 68)):=by
 refine⟨((Cs.alloc Cw _).alloc AM _).alloc (by simp;omega) _,?_,?_⟩
 ·rw[BH _ _ (w.heap.size+1) AM];have:=AV (w.alloc (UP sc 34)) (UP fr 112)
  rwa [show(w.alloc (UP sc 34)).heap.size=w.heap.size+1 by simp] at this
 ·have:=AV ((w.alloc (UP sc 34)).alloc (UP fr 112)) (UP Cc 68)
  rwa [show((w.alloc (UP sc 34)).alloc (UP fr 112)).heap.size=w.heap.size+2 by simp] at this
def J2 (i:Nat):Nat:=if i<8 then 44+2*i else 56+2*i
def S9 (zs:List Int) (i:Nat):Int:=zs.getD (J2 i) 0+256*zs.getD (J2 i+1) 0
def Fp (zs:List Int) (k:Nat):List Int:=(List.range k).map (S9 zs)
theorem K4 (zs:List Int) (k:Nat):Fp zs (k+1)=Fp zs k++[S9 zs k]:=by unfold Fp;rw[CW,BY];rfl
theorem Ii (zs:List Int) (k:Nat):(Fp zs k).length=k:=by simp[Fp]
theorem PG {i:Nat} (h:i<16):J2 i+1<128:=by unfold J2;split<;>omega
def KL (zs:List Int) (v:Nat):Bool:=decide (zs.getD (12+v/8) 0/2^(v%8)%2=1)
def La (zs:List Int):Nat:=(zs.getD 6 0).toNat
def Lz (zs:List Int):List Int:=Dg (KL zs) 256
def OB (zs:List Int):List Int:=(zs.drop 12).take 32
theorem GF {zs:List Int} (h:zs.length=128):(OB zs).length=32:=by simp[OB];omega
theorem Ma {zs:List Int} (h:zs.length=128) (i:Nat) (hi:i<32):(OB zs).getD i 0=zs.getD (12+i) 0:=by
 unfold OB;rw[Ao,BS hi,List.getElem?_drop,<-Ao]
theorem K5 {zs:List Int} (hz:Cu zs):Cu (OB zs):=λz h=>hz z (List.mem_of_mem_drop (Bi h))
theorem Qq {zs:List Int} (h:zs.length=128) (hz:Cu zs):DV (OB zs) (λv=>KL zs v=true):=by
 refine⟨GF h,K5 hz,λv hv=>?_⟩;rw[Ma h (v/8) AK];unfold KL;simp
structure K6 where
 ok:Bool
 g:Int
 t:Int
 D:List Int
 U:List Int
def Fg:K6:=⟨false,0,0,[],[]⟩
noncomputable def L0 (zs:List Int):List Int:=O5 (DD zs 0) (DD zs 8) (Fp zs (La zs)) (Lz zs)
def K7 (zs:List Int):K6:=⟨true,DD zs 0,DD zs 8,Fp zs (La zs),Lz zs⟩
open Classical in
noncomputable def Fh (zs:List Int):K6:=if zs.length=128/\zs.getD 6 0<=16/\L0 zs=zs then K7 zs else Fg
theorem J3 {zs:List Int} (h1:zs.length=128) (h2:zs.getD 6 0<=16) (h3:L0 zs=zs):Fh zs=K7 zs:=by unfold Fh;rw[AR ⟨h1,h2,h3⟩]
theorem Qr {zs:List Int} (h:zs.length≠128):Fh zs=Fg:=by unfold Fh;rw[AS (λq=>h q.1)]
theorem Mb {zs:List Int} (h:¬ zs.getD 6 0<=16):Fh zs=Fg:=by unfold Fh;rw[AS (λq=>h q.2.1)]
theorem L1 {zs:List Int} (h:L0 zs≠zs):Fh zs=Fg:=by unfold Fh;rw[AS (λq=>h q.2.2)]
theorem Gi (zs:List Int) (h:Cu zs) (p:Nat):D8 (DD zs p):=by
 have h0:=h.get p;have h1:=h.get (p+1);have h2:=h.get (p+2);have h3:=h.get (p+3);unfold DD D8;omega
def I0 (lo:Nat) (w:UK) (v:UL) (r:K6):Prop:=
 ∃ aD nD cD aU nU cU,v=.agg #[.bool r.ok,UE .u32 r.g,UE .u32 r.t,UD aD nD cD,UD aU nU cU]/\At .i64 w aD r.D/\At .i64 w aU r.U/\r.D.length=nD/\r.U.length=nU/\De lo w aD/\De lo w aU
def Rt (lo:Nat) (w:UK) (v:UL) (r:K6):Prop:=
 ∃ aD nD cD aU nU cU,v=.agg #[.bool r.ok,UE .u32 r.g,UE .u32 r.t,UD aD nD cD,UD aU nU cU]/\S3 lo w aD aU UJ nD nU 0 r.D r.U []
def Tv:Array UL:=Ce
theorem I0.no (lo:Nat) (w:UK):I0 lo w (.agg Tv) Fg:=⟨UJ,0,0,UJ,0,0,rfl,.inl rfl,.inl rfl,rfl,rfl,λ_ h=>(by cases h),λ_ h=>(by cases h)⟩
theorem Rt.no (lo:Nat) (w:UK):Rt lo w (.agg Tv) Fg:=
 ⟨UJ,0,0,UJ,0,0,rfl,.inl rfl,.inl rfl,.inl rfl,rfl,rfl,rfl,λ_ h=>(by cases h),λ_ h=>(by cases h),λ_ h=>(by cases h),λ_ _ h=>(by cases h),λ_ _ h=>(by cases h),λ_ _ h=>(by cases h)⟩
theorem I0.below {lo:Nat} {w w':UK} {v:UL} {r:K6} (h:I0 lo w v r) (b:Below w.heap.size w w'):I0 lo w' v r:=by
 obtain⟨aD,nD,cD,aU,nU,cU,e,h1,h2,h3,h4,l1,l2⟩:=h;exact⟨aD,nD,cD,aU,nU,cU,e,h1.below b,h2.below b,h3,h4,l1.mono Cw b.size,l2.mono Cw b.size⟩
theorem S3.of_io {lo:Nat} {w:UK} {aD aU:Option Addr} {nD cD nU cU:Nat} {D U:List Int} (h1:Iow lo w (UD aD nD cD) D) (h2:Iow lo w (UD aU nU cU) U) (h3:Ej aD aU):S3 lo w aD aU UJ nD nU 0 D U []:=by
 obtain⟨s1,n1,l1⟩:=h1.sat;obtain⟨s2,n2,l2⟩:=h2.sat;exact⟨s1,s2,.inl rfl,n1,n2,rfl,l1,l2,λ_ h=>(by cases h),h3,λ_ _ _ h=>(by cases h),λ_ _ _ h=>(by cases h)⟩
theorem Iow.ne {lo G:Nat} {w:UK} {a:Option Addr} {n c:Nat} {xs:List Int} {cs:Array UL} {T:TypeId} {fr:Nat×Nat} (h:Iow lo w (UD a n c) xs) (hG:w.heap[G]?=UI (UP cs T fr)) (hT:T≠2):∀ ad,a=UI ad->ad.block≠G:=by
 rintro ad rfl e;rcases h.2 with⟨h',_⟩|⟨g,cap,cur,h',hb,hh,_⟩
 ·cases h'
 ·cases h';subst e;rw[hG] at hh;simp at hh;exact hT hh.2.1
theorem Iow.keepN {lo G:Nat} {w w':UK} {v:UL} {xs:List Int} {cs:Array UL} {T:TypeId} {fr:Nat×Nat} (h:Iow lo w v xs) (hG:w.heap[G]?=UI (UP cs T fr)) (hT:T≠2) (hw:Wr G w w'):Iow lo w' v xs:=by
 obtain⟨a,n,c,rfl⟩:=h.form;refine⟨h.1,?_⟩;have hne:=h.ne hG hT;rcases h.2 with h'|⟨g,cap,cur,h1,h2,h3,h4⟩
 ·exact .inl h'
 ·refine .inr ⟨g,cap,cur,h1,h2,?_,h4⟩;cases h1;rw[hw.block g (hne _ rfl)];exact h3
theorem K8 (g:Nat) (t:TypeId) (p:Int) (zs:List Int) (w:UK) (hr:DP w g t zs) (hz:Cu zs) (hl:zs.length=128) (hp:0<=p) (hp':p<=60) :
  Calls Tryz.prog 127 #[UM (UI ⟨g,0,UJ⟩),UE .i64 p] w λe w'=>e=.returned (UE .u32 (DD zs p.toNat))/\Below w.heap.size w w':=by
 obtain⟨p,rfl⟩:=Ai hp;have c0:=hr.cell p AK;have c1:=hr.cell (p+1) AK;have c2:=hr.cell (p+2) AK;have c3:=hr.cell (p+3) AK;have b0:=hz.get p;have b1:=hz.get (p+1);have b2:=hz.get (p+2);have b3:=hz.get (p+3);have HN:AP (DD zs p=zs.getD p 0+256*zs.getD (p+1) 0+65536*zs.getD (p+2) 0+16777216*zs.getD (p+3) 0):=rfl;generalize zs.getD p 0=a at *;generalize zs.getD (p+1) 0=b at *;generalize zs.getD (p+2) 0=c at *;generalize zs.getD (p+3) 0=d at *;have HB:=KS a b c d b0 b1 b2 b3;have HH:AP _:=HB;clear HB;obtain⟨b01,b02⟩:=b0;obtain⟨b11,b12⟩:=b1;obtain⟨b21,b22⟩:=b2;obtain⟨b31,b32⟩:=b3;go_enter Tryz.func127,Tryz.ntmps127;go_wp2
 go_quiet (fail)
 go_wp2
 go_ret
 exact⟨DW (by rw[HH.o,Bw,HN.o]),⟨rfl,rfl,rfl,AY _,λ_ _=>rfl⟩⟩
structure TT (w:UK) (zs:List Int) (k:Nat) (v:UL) (wr:UK):Prop where
 own:Iow w.heap.size wr v (Fp zs k)
 below:Below w.heap.size w wr
theorem L2 (g:Nat) (zs:List Int) (w:UK) (hr:DP w g 124 zs) (hl:zs.length=128) (hz:Cu zs) (hn:zs.getD 6 0<=16) :
  Calls Tryz.prog 128 #[UM (UI ⟨g,0,UJ⟩)] w λe w'=>∃ v,e=.returned v/\Iow w.heap.size w' v (Fp zs (La zs))/\Below w.heap.size w w':=by
 have c6:=hr.cell 6 AK;have b6:=hz.get 6;obtain⟨n,hn6⟩:∃ n:Nat,zs.getD 6 0=n:=⟨(zs.getD 6 0).toNat,AK⟩
 have HN:AP (La zs=n):=by show _=_;unfold La;omega
 rw[hn6] at c6 hn;have hn':n<=16:=AK
 have HR:AP (DP w g 124 zs/\zs.length=128/\Cu zs):=⟨hr,hl,hz⟩
 have H0:AP (TT w zs 0 (UD UJ 0 0) w):=⟨Iow.nil _ _,Ad _ _⟩
 clear hr hl hz b6 hn6 hn;go_enter Tryz.func128,Tryz.ntmps128;go_wp2_with fail;clear c6
 go_loopw [3,11] (λl i wr=>∃(k:Nat) (v:UL),k<=n/\i=UE .i64 k/\v=l/\TT w zs k v wr) (λ_ i _=>n-(intOf i).toNat)
 case atStart=>exact⟨0,_,Aj _,rfl,rfl,H0.o⟩
 case round=>
  clear H0;obtain⟨k,l,hk,rfl,rfl,hst⟩:=hrel;by_cases hlt:k<n
  ·have hlt':(k:Int)<n:=AK
   have HST:AP (TT w zs k l wr):=hst;clear hst;go_wp2_with fail;refine(Jc g k _ AK).mono ?_;rintro e w2 ⟨c,rfl,hw2⟩;subst w2;have hA1:J2 k+1<128:=PG AK;have hrw:DP wr g 124 zs:=by
    have:=HST.o.below.block g HR.o.1.lt;unfold DP;rw[this];exact HR.o.1
   have HAt:AP (At .u8 wr (UI ⟨g,J2 k,UJ⟩) [zs.getD (J2 k) 0,zs.getD (J2 k+1) 0]):=.inr ⟨g,J2 k,rfl,hrw.lt,λi hi=>by
    have:i=0\/i=1:=by simp at hi;omega
    rcases this with rfl|rfl
    ·rw[Nat.add_zero,hrw.cell _ (by rw[HR.o.2.1];omega)];rfl
    ·rw[hrw.cell _ (by rw[HR.o.2.1];omega)];rfl⟩
   have HBy:AP (Cu [zs.getD (J2 k) 0,zs.getD (J2 k+1) 0]):=Hs (HR.o.2.2.get _) (HR.o.2.2.get _);have HV:AP (val 256 [zs.getD (J2 k) 0,zs.getD (J2 k+1) 0]=S9 zs k):=by show _=_;unfold S9;simp[val]
   have e8:(if k<8 then 44+2*k else 56+2*k)=J2 k:=rfl;rw[e8];generalize J2 k=A at *;generalize zs.getD A 0=x at *;generalize zs.getD (A+1) 0=y at *;clear e8 hA1 hrw;go_wp2_with fail;refine(R5 (UI ⟨g,A,UJ⟩) 2 c [x,y] _ rfl AL HAt.o HBy.o).mono ?_;rintro e w3 ⟨rfl,hw3⟩;subst w3;generalize val 256 [x,y]=s at *;have HNX:AP (Fp zs (k+1)=Fp zs k++[s]):=by show _=_;rw[K4,HV.o]
   have HL:AP ((Fp zs k).length<=1048576):=by show _<=_;rw[Ii];omega
   have HO:AP (Iow w.heap.size (wr.alloc (UP #[UE .i64 s] 2)) l (Fp zs k)):=HST.o.own.alloc _;have HZ:AP (w.heap.size<=(wr.alloc (UP #[UE .i64 s] 2)).heap.size):=by
    show _<=_
    have:=HST.o.below.size;simp;omega
   clear HAt HBy HV;go_wp2_with (first
    |(refine Eg _ rfl (.tmp 14) (.tmp 19) rfl w.heap.size _ (Fp zs k) rfl HO.o wr s rfl rfl HL.o HZ.o ?_)
    |fail)
   intro v' w3 h1 h2;have HF:AP (TT w zs (k+1) v' w3):=⟨by rw[HNX.o];exact h1,(HST.o.below.alloc HST.o.below.size _).trans h2⟩
   clear h1 h2 HO HZ HL;go_wp2;go_roundw
   case rel=>exact⟨k+1,_,AK,by go_num,rfl,HF.o⟩
   case measure=>simp[intOf];omega
  ·have hke:k=n:=AK
   subst hke;have HF:AP (∃ v,Ending.returned l=.returned v/\Iow w.heap.size wr v (Fp zs (La zs))/\Below w.heap.size w wr):=⟨l,rfl,by rw[HN.o];exact hst.own,hst.below⟩
   clear hst;go_wp2
   go_ret
   exact HF.o
theorem PH (g:Nat) (zs:List Int) (w:UK) (hr:DP w g 124 zs) (hl:zs.length=128) (hz:Cu zs) :
  Calls Tryz.prog 129 #[UM (UI ⟨g,0,UJ⟩)] w λe w'=>∃ v,e=.returned v/\Iow w.heap.size w' v (Lz zs)/\Below w.heap.size w w':=by
 have HR:AP (DP w g 124 zs/\zs.length=128/\Cu zs):=⟨hr,hl,hz⟩
 have HX0:AP (Below w.heap.size w (w.alloc (UP Ck 75))/\DP (w.alloc (UP Ck 75)) g 124 zs/\(w.alloc (UP Ck 75)).heap[w.heap.size]?=UI (UP Ck 75 (0,0))):=⟨Cv w _,by unfold DP;rw[(Cv w _).block g hr.lt];exact hr,AV w _⟩
 clear hr hl hz;go_enter Tryz.func129,Tryz.ntmps129;go_wp2_with fail;generalize (w.alloc (UP Ck 75))=w0 at *;refine Ae AN ?_;refine C3 (λ_ _ _=>True) (frame:=(λ(a b c d e:UL)=>λ(t:Nat->UL)=>({ tmps:=List.toArray [a,b,c,d,t 0,t 1,t 2,t 3,t 4,t 5,e],defers:=[] }:Act)) _ _ _ _ _)
  (Ext:=λL u w'=>if L 5=true then Below w.heap.size w w'/\DP w' w.heap.size 75 (OB zs) else Below w.heap.size w w'/\DP w' g 124 zs/\w'.heap[w.heap.size]?=UI (UP Ck 75 (0,0))) (Good:=λi L w' v=>if i=0 then v=UD (UI ⟨w.heap.size,0,UJ⟩) 32 32 else if i=1 then v=UM (UI ⟨g,0,UJ⟩) else if i=2 then v=UM (UI ⟨g,0,UJ⟩) else if i=3 then v=UM (UI ⟨g,0,UJ⟩) else if i=4 then v=UD (UI ⟨g,12,UJ⟩) 52 52 else if i=5 then L 5=true else True) ?hstab AN ?hop ?hdone _ _ ((λ(x0 x1 x2 x3 x4 x5:UL)=>λ(i:Nat)=>if i=0 then x0 else if i=1 then x1 else if i=2 then x2 else if i=3 then x3 else if i=4 then x4 else if i=5 then x5 else undef) _ _ _ _ _ _) _ AM ?ext ?start AM
 case start=>intro i hi h;exact absurd h E0
 case ext=>
  rw[AS (by show ¬ (Array.getD _ _ _=true);rw[A7,BR];split<;>simp)];exact⟨HX0.o.1.drew,HX0.o.2.1,HX0.o.2.2⟩
 case hstab=>
  intro j L w9 w' i v hM hij hLi h;by_cases hl:j=5
  ·subst hl;simp at h |-;unfold Ct;simp[h]
  ·simp only[if_neg hl] at h |-;exact h
 case hop=>
  intro i o L t w' ho hLi hx hdep K hK;have hi:i<6:=(AQ.1 ho).1;obtain rfl|rfl|rfl|rfl|rfl|rfl:i=0\/i=1\/i=2\/i=3\/i=4\/i=5:=AK
  all_goals(simp at ho;subst ho)
  ·clear hdep;have hK':=hK w' (UD (UI ⟨w.heap.size,0,UJ⟩) 32 32) AM (by simpa[Ct] using hx) trivial;clear hK;rw[AR AO];go_simp;simpa[Cr] using hK'
  ·clear hdep;have hK':=hK w' (UM (UI ⟨g,0,UJ⟩)) AM (by simpa[Ct] using hx) trivial;clear hK;rw[AR AO];go_simp;simpa[Cr] using hK'
  ·have d1:t 1=UM (UI ⟨g,0,UJ⟩):=by simpa using(hdep ⟨1,.data⟩ AM rfl).2
   clear hdep;have hK':=hK w' (UM (UI ⟨g,0,UJ⟩)) AM (by simpa[Ct] using hx) trivial;clear hK;rw[AR AO];go_simp;simpa[Cr,d1] using hK'
  ·have d2:t 2=UM (UI ⟨g,0,UJ⟩):=by simpa using(hdep ⟨2,.data⟩ AM rfl).2
   clear hdep;have hK':=hK w' (UM (UI ⟨g,0,UJ⟩)) AM (by simpa[Ct] using hx) trivial;clear hK;rw[AR AO];go_simp;simpa[Cr,d2] using hK'
  ·have d3:t 3=UM (UI ⟨g,0,UJ⟩):=by simpa using(hdep ⟨3,.data⟩ AM rfl).2
   clear hdep;have hK':=hK w' (UD (UI ⟨g,12,UJ⟩) 52 52) AM (by simpa[Ct] using hx) trivial;clear hK;rw[AR AO];go_simp;simpa[Cr,d3] using hK'
  ·have d0:t 0=UD (UI ⟨w.heap.size,0,UJ⟩) 32 32:=by simpa using(hdep ⟨0,.data⟩ AM rfl).2
   have d4:t 4=UD (UI ⟨g,12,UJ⟩) 52 52:=by simpa using(hdep ⟨4,.data⟩ AM rfl).2
   clear hdep;rw[hLi,AS AL] at hx;rw[AR AO];refine Ix (.tmp 4) (.tmp 8) rfl (UI ⟨w.heap.size,0,UJ⟩) (UI ⟨g,12,UJ⟩) (w.heap.size) 0 32 32 52 52 d0 d4 _ 75 hx.2.2 (OB zs) (by rw[GF HR.o.2.1];rfl) (λ_=>⟨rfl,_,rfl,λj hj=>?_⟩) (by rw[GF HR.o.2.1];decide) ?_
   ·rw[GF HR.o.2.1] at hj;rw[Ay,DP.cell hx.2.1 (12+j) (by rw[HR.o.2.1];omega),Ma HR.o.2.1 j hj]
   ·intro w2 h2 hw2;have hrow:DP w2 w.heap.size 75 (OB zs):=by
     unfold DP;rw[h2];simp[GF HR.o.2.1]
    exact hK w2 _ (by simp[Ct]) (by rw[AR (by simp[Ct])];exact⟨hx.1.trans (hw2.below Cw),hrow⟩) trivial
 case hdone=>
  intro L t w2 hx hg;have hlast:L 5=true:=by simpa using hg 5 AL
  rw[AR hlast] at hx;clear hg hlast;have HX:=DQ hx;clear hx HX0;have hbt:∀ w',Below w2.heap.size w2 w'->LY w' w.heap.size 0 (OB zs):=λw' b=>by
   have hr':DP w' w.heap.size 75 (OB zs):=by unfold DP;rw[b.block _ (DP.lt HX.o.2)];exact HX.o.2
   refine⟨GF HR.o.2.1,K5 HR.o.2.2,λi hi=>?_⟩;rw[Ak];exact⟨hr'.cell i (by rw[GF HR.o.2.1];exact hi),hr'.frozen i⟩
  have A:=DQ (Iv w.heap.size 0 (OB zs) (KL zs) w2 hbt (Qq HR.o.2.1 HR.o.2.2));clear hbt;go_wp2_with fail;refine A.o.mono ?_;rintro e w3 ⟨v,rfl,hio,hb3⟩;have HF:AP (Iow w.heap.size w3 v (Lz zs)/\Below w.heap.size w w3):=⟨Iow.mono hio HX.o.1.size,HX.o.1.trans (hb3.mono HX.o.1.size)⟩
  clear hio hb3 A HX;go_wp2
  go_ret
  exact⟨_,rfl,HF.o⟩
end Go.Proofs.YthmeoilbmfdhfaaGreat
