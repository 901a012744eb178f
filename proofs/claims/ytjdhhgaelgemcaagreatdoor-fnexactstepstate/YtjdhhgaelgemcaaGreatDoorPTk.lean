import Derived.Test.YtjdhhgaelgemcaaGreatDoorMLe
open Go.Proofs.Tryz renaming prog->tP
open Go.Proofs.Tryz
open Go.Value renaming slice->Z7,int->Z8,pointer->aF,bool->aG,agg->aH
open Go.IntKind renaming i64->aI,u32->aN,u8->Z9
open Go.Obj renaming cells->aJ
open Go.Ending renaming returned->aK
open Go.Ground renaming data->aL
open Option renaming some->aE,none->aA
set_option maxHeartbeats 1000000
set_option maxRecDepth 100000
namespace Go.Proofs.YtjdhhgaelgemcaaGreatDoor
open Go.ChangeShapes Go.WideShapes Go.ChangeAt Go.RowKit
set_option linter.unusedVariables false
def I1 (zs:List Int):Bool:=decide (zs.length=72) && (decide (zs.getD 0 0=84) && decide (zs.getD 1 0=49))
def Ej (zs:List Int):Int:=zs.getD 2 0+256*zs.getD 3 0
def Ez (zs:List Int):Int:=zs.getD 4 0+256*zs.getD 5 0+65536*zs.getD 6 0+16777216*zs.getD 7 0
def NI (zs:List Int):Value:=bif I1 zs then aH #[aG true,Z8 aI (Ej zs),Z8 aI (Ez zs)] else aH CO
theorem Gw {zs:List Int} (h:I1 zs=false):NI zs=aH CO:=by unfold NI;rw[h];rfl
theorem If {zs:List Int} (h:I1 zs=true):NI zs=aH #[aG true,Z8 aI (Ej zs),Z8 aI (Ez zs)]:=by unfold NI;rw[h];rfl
theorem TF (zs:List Int) (k:Nat) (h:k+2<=zs.length):(zs.drop k).take 2=[zs.getD k 0,zs.getD (k+1) 0]:=by
 apply List.ext_getElem
 ·simp;omega
 ·intro i h1 h2;have:i=0\/i=1:=by simp at h2;omega
  rcases this with rfl|rfl
  ·simp[List.getD,show k<zs.length by omega]
  ·simp[List.getD,show k+1<zs.length by omega]
theorem Qf (zs:List Int) (k:Nat) (h:k+4<=zs.length):(zs.drop k).take 4=[zs.getD k 0,zs.getD (k+1) 0,zs.getD (k+2) 0,zs.getD (k+3) 0]:=by
 apply List.ext_getElem
 ·simp;omega
 ·intro i h1 h2;have:i=0\/i=1\/i=2\/i=3:=by simp at h2;omega
  rcases this with rfl|rfl|rfl|rfl
  ·simp[List.getD,show k<zs.length by omega]
  ·simp[List.getD,show k+1<zs.length by omega]
  ·simp[List.getD,show k+2<zs.length by omega]
  ·simp[List.getD,show k+3<zs.length by omega]
theorem XK {zs:List Int} (h:zs.length=72):val 256 ((zs.drop 2).take 2)=Ej zs:=by
 rw[TF zs 2 AJ];unfold Ej;simp only[val,show 2+1=3 from rfl];omega
theorem XL {zs:List Int} (h:zs.length=72):val 256 ((zs.drop 4).take 4)=Ez zs:=by
 rw[Qf zs 4 AJ];unfold Ez;simp only[val,show 4+1=5 from rfl,show 4+2=6 from rfl,show 4+3=7 from rfl];omega
theorem At.sub {k:IntKind} {w:World} {b off:Nat} {zs:List Int} (hb:b<w.heap.size) (h:∀ i,i<zs.length->w.cell? ⟨b,off+i,aA⟩=aE (Z8 k (zs.getD i 0))) (p m:Nat) (hp:p+m<=zs.length) :
  At k w (aE ⟨b,off+p,aA⟩) ((zs.drop p).take m):=by
 refine .inr ⟨b,off+p,rfl,hb,λi hi=>?_⟩;have hi':i<m:=by simp at hi;omega
 rw[Ax,h (p+i) AJ];simp[List.getD,hi',show p+i<zs.length by omega]
theorem Ci.sub {zs:List Int} (h:Ci zs) (p m:Nat):Ci ((zs.drop p).take m):=λz hz=>h z (Bf (Ay hz))
theorem Gx {B:Nat} {a w:World} (h:Below B a w) (n:Nat):Below B a (w.drewN n):=⟨h.os,h.tape,h.output,h.size,h.block⟩
theorem U4 (a:Option Addr) (n cap:Nat) (zs:List Int) (w:World) (hn:zs.length=n) (hm:n<=1048576) (hcap:n<=cap) (ha:At Z9 w a zs) (hz:Ci zs) :
  Calls tP 80 #[Z7 a n cap] w λe w'=>e=aK (NI zs)/\Below w.heap.size w w':=by
 have HBN:AO (Below w.heap.size w (w.alloc (aJ CO 81))):=Cg.alloc Cl _;have HSF:AO ((tP.info? 81).map (·.size)=aE 3):=by show _=_;kernel_rfl
 by_cases h72:n=72
 ·subst h72;obtain⟨b,off,rfl,hb,hc⟩:=ha.get AJ;have hb':b≠w.heap.size:=AJ
  have c0:(w.alloc (aJ CO 81)).cell? ⟨b,off,aA⟩=aE (Z8 Z9 (zs.getD 0 0)):=by rw[World.cell?_alloc_old _ _ _ hb'];exact hc 0 AJ
  have c1:(w.alloc (aJ CO 81)).cell? ⟨b,off+1,aA⟩=aE (Z8 Z9 (zs.getD 1 0)):=by rw[World.cell?_alloc_old _ _ _ hb'];exact hc 1 AJ
  have HTB:AO (I1 zs=(decide (zs.getD 0 0=84) && decide (zs.getD 1 0=49))):=by show _=_;unfold I1;rw[hn];rfl
  by_cases h0:zs.getD 0 0=84
  ·rw[h0] at c0;by_cases h1:zs.getD 1 0=49
   ·have HV:AO (NI zs=aH #[aG true,Z8 aI (Ej zs),Z8 aI (Ez zs)]):=If (by rw[HTB.o,h0,h1];rfl);rw[h1] at c1;clear h0 h1;clear HTB;have AT:∀(p m:Nat) (q:Nat),p+m<=72->At Z9 ((w.alloc (aJ CO 81)).drewN q) (aE ⟨b,off+p,aA⟩) ((zs.drop p).take m):=λp m q h=>
     At.sub (w:=(w.alloc (aJ CO 81)).drewN q) (show b<((w.alloc (aJ CO 81))).heap.size by simp;omega) (λi hi=>by show((w.alloc (aJ CO 81))).cell? _=_;rw[World.cell?_alloc_old _ _ _ hb'];exact hc i hi) p m AJ
    have C2:AO (∀ q,Calls tP 100 #[Z7 (aE ⟨b,off+2,aA⟩) 2 (cap-2)] ((w.alloc (aJ CO 81)).drewN q) λe w'=>e=aK (Z8 aI (Ej zs))/\w'=(w.alloc (aJ CO 81)).drewN q):=λq=>by
     rw[<-XK hn];exact Sb _ 2 (cap-2) _ _ (by simp;omega) AK (AT 2 2 q AK) (hz.sub 2 2)
    have C4:AO (∀ q,Calls tP 100 #[Z7 (aE ⟨b,off+4,aA⟩) 4 (cap-4)] ((w.alloc (aJ CO 81)).drewN q) λe w'=>e=aK (Z8 aI (Ez zs))/\w'=(w.alloc (aJ CO 81)).drewN q):=λq=>by
     rw[<-XL hn];exact Sb _ 4 (cap-4) _ _ (by simp;omega) AK (AT 4 4 q AK) (hz.sub 4 4)
    clear AT;have x1:(4:Int)<=(cap:Int):=AJ
    have x2:(8:Int)<=(cap:Int):=AJ
    have x3:¬ cap=2:=AJ
    have x4:¬ cap=4:=AJ
    go_enter func80,ntmps80;go_wp2_with fail;refine Ag AM ?_;refine F9 7 (λw w'=>True) (frame:=(λ(a b c d e f g h i j k l m n o p q r s:Value)=>λ(t:Nat->Value)=>({ tmps:=List.toArray [a,b,c,d,e,f,g,h,i,j,k,l,m,n,o,p,q,r,s,t 0,t 1,t 2,t 3,t 4,t 5,t 6],defers:=[] }:Act)) _ _ _ _ _ _ _ _ _ _ _ _ _ _ _ _ _ _ _)
     (Ext:=λw'=>∃ q,w'=(w.alloc (aJ CO 81)).drewN q) (Good:=λi _ v=>if i=0 then v=Z7 (aE ⟨b,off,aA⟩) 72 cap else if i=1 then v=Z7 (aE ⟨b,off+2,aA⟩) 2 (cap-2) else if i=2 then v=Z8 aI (Ej zs) else if i=3 then v=Z7 (aE ⟨b,off,aA⟩) 72 cap else if i=4 then v=Z7 (aE ⟨b,off+4,aA⟩) 4 (cap-4) else if i=5 then v=Z8 aI (Ez zs) else if i=6 then v=aH #[aG true,Z8 aI (Ej zs),Z8 aI (Ez zs)] else True) AN AM (λi w w' v _ h=>h) AM AM ?hop ?hend _ _ ((λ(x0 x1 x2 x3 x4 x5 x6:Value)=>λ(i:Nat)=>if i=0 then x0 else if i=1 then x1 else if i=2 then x2 else if i=3 then x3 else if i=4 then x4 else if i=5 then x5 else if i=6 then x6 else undef) _ _ _ _ _ _ _) _ AL AL ?ext ?start AL
    case start=>intro i hi h;exact absurd h Et
    case ext=>exact⟨1,rfl⟩
    case hop=>
     intro i o t w' hil ho hx hdep K hK;obtain⟨q,rfl⟩:=hx;obtain rfl|rfl|rfl|rfl|rfl|rfl|rfl:i=0\/i=1\/i=2\/i=3\/i=4\/i=5\/i=6:=AJ
     all_goals(simp at ho;subst ho)
     ·clear hdep;have hK':=hK ((w.alloc (aJ CO 81)).drewN q) (Z7 (aE ⟨b,off,aA⟩) 72 cap) AL ⟨q,rfl⟩ trivial;clear hK;go_simp;simpa[Ce] using hK'
     ·have d0:t 0=Z7 (aE ⟨b,off,aA⟩) 72 cap:=by simpa using hdep ⟨0,aL⟩ AL rfl
      clear hdep;have hK':=hK ((w.alloc (aJ CO 81)).drewN q) (Z7 (aE ⟨b,off+2,aA⟩) 2 (cap-2)) AL ⟨q,rfl⟩ trivial;clear hK;go_simp;simpa[Ce,d0] using hK'
     ·have d1:t 1=Z7 (aE ⟨b,off+2,aA⟩) 2 (cap-2):=by simpa using hdep ⟨1,aL⟩ AL rfl
      clear hdep;have hK':=hK ((w.alloc (aJ CO 81)).drewN q) (Z8 aI (Ej zs)) AL ⟨q,rfl⟩ trivial;clear hK;go_simp;try simp only[d1]
      refine(C2.o q).mono ?_;rintro e w9 ⟨rfl,rfl⟩;go_simp;simpa[Ce,d1] using hK'
     ·clear hdep;have hK':=hK ((w.alloc (aJ CO 81)).drewN q) (Z7 (aE ⟨b,off,aA⟩) 72 cap) AL ⟨q,rfl⟩ trivial;clear hK;go_simp;simpa[Ce] using hK'
     ·have d3:t 3=Z7 (aE ⟨b,off,aA⟩) 72 cap:=by simpa using hdep ⟨3,aL⟩ AL rfl
      clear hdep;have hK':=hK ((w.alloc (aJ CO 81)).drewN q) (Z7 (aE ⟨b,off+4,aA⟩) 4 (cap-4)) AL ⟨q,rfl⟩ trivial;clear hK;go_simp;simpa[Ce,d3] using hK'
     ·have d4:t 4=Z7 (aE ⟨b,off+4,aA⟩) 4 (cap-4):=by simpa using hdep ⟨4,aL⟩ AL rfl
      clear hdep;have hK':=hK ((w.alloc (aJ CO 81)).drewN q) (Z8 aI (Ez zs)) AL ⟨q,rfl⟩ trivial;clear hK;go_simp;try simp only[d4]
      refine(C4.o q).mono ?_;rintro e w9 ⟨rfl,rfl⟩;go_simp;simpa[Ce,d4] using hK'
     ·have d2:t 2=Z8 aI (Ej zs):=by simpa using hdep ⟨2,aL⟩ AL rfl
      have d5:t 5=Z8 aI (Ez zs):=by simpa using hdep ⟨5,aL⟩ AL rfl
      clear hdep;have hK':=hK ((w.alloc (aJ CO 81)).drewN q) (aH #[aG true,Z8 aI (Ej zs),Z8 aI (Ez zs)]) AL ⟨q,rfl⟩ trivial;clear hK;go_simp;simpa[Ce,d2,d5] using hK'
    case hend=>
     intro o t w' ho hx hg K hK;obtain⟨q,rfl⟩:=hx;simp at ho;subst ho;have d0:t 0=Z7 (aE ⟨b,off,aA⟩) 72 cap:=by simpa using hg 0 AK
     have d1:t 1=Z7 (aE ⟨b,off+2,aA⟩) 2 (cap-2):=by simpa using hg 1 AK
     have d2:t 2=Z8 aI (Ej zs):=by simpa using hg 2 AK
     have d3:t 3=Z7 (aE ⟨b,off,aA⟩) 72 cap:=by simpa using hg 3 AK
     have d4:t 4=Z7 (aE ⟨b,off+4,aA⟩) 4 (cap-4):=by simpa using hg 4 AK
     have d5:t 5=Z8 aI (Ez zs):=by simpa using hg 5 AK
     have d6:t 6=aH #[aG true,Z8 aI (Ej zs),Z8 aI (Ez zs)]:=by simpa using hg 6 AK
     clear hg;refine Bt 81 (.tmp 2) (.tmp 25) rfl w.heap.size #[aG true,Z8 aI (Ej zs),Z8 aI (Ez zs)] rfl d6 81 _ (show((w.alloc (aJ CO 81))).heap[w.heap.size]?=_ from AX w _) HSF.o rfl (by simp[Value.oneCell']) ?_;apply hK;have HR5:AO (((((w.alloc (aJ CO 81))).drewN q).setRow w.heap.size #[aG true,Z8 aI (Ej zs),Z8 aI (Ez zs)]).heap[w.heap.size]?=aE (aJ #[aG true,Z8 aI (Ej zs),Z8 aI (Ez zs)] 81 (0,0))):=
      AB (show((w.alloc (aJ CO 81))).heap[w.heap.size]?=_ from AX w _)
     have HB5:AO (Below w.heap.size w ((((w.alloc (aJ CO 81))).drewN q).setRow w.heap.size #[aG true,Z8 aI (Ej zs),Z8 aI (Ez zs)])):=
      (Gx HBN.o q).trans ((Wr.setRow _ _ _).below Cl)
     generalize (((w.alloc (aJ CO 81))).drewN q).setRow w.heap.size #[aG true,Z8 aI (Ej zs),Z8 aI (Ez zs)]=w5 at *;clear hK d0 d1 d2 d3 d4 d5;go_wp2_with fail;refine Ab (v:=aH #[aG true,Z8 aI (Ej zs),Z8 aI (Ez zs)]) (Ah rfl _ _ w.heap.size 81 _ (0,0) _ rfl HR5.o underlying81 rfl HSF.o) rfl ⟨by rw[HV.o],HB5.o⟩
   ·have HV:AO (NI zs=aH CO):=Gw (by rw[HTB.o,h0];simpa using h1);have h1':(zs.getD 1 0 == 49)=false:=by simpa using h1
    clear hc HTB h0 h1;generalize zs.getD 1 0=z1 at *;go_enter func80,ntmps80;go_wp2;refine Ab (v:=aH CO) (Ah rfl _ _ w.heap.size 81 _ (0,0) _ rfl (AX w _) underlying81 rfl HSF.o) rfl ⟨by rw[HV.o],HBN.o⟩
  ·have HV:AO (NI zs=aH CO):=Gw (by rw[HTB.o,Af h0];rfl);have h0':(zs.getD 0 0 != 84)=true:=by simpa using h0
   clear hc HTB c1;generalize zs.getD 0 0=z0 at *;go_enter func80,ntmps80;go_wp2;refine Ab (v:=aH CO) (Ah rfl _ _ w.heap.size 81 _ (0,0) _ rfl (AX w _) underlying81 rfl HSF.o) rfl ⟨by rw[HV.o],HBN.o⟩
 ·have HV:AO (NI zs=aH CO):=Gw (by unfold I1;rw[Af AJ];rfl);have h72':¬ ((n:Int)=72):=AJ
  have h73:((n:Int) != 72)=true:=by simpa using h72'
  clear ha h72;go_enter func80,ntmps80;go_wp2;refine Ab (v:=aH CO) ?res rfl ?post
  case res=>exact(Ah rfl _ _ w.heap.size 81 _ (0,0) _ rfl (AX w _) underlying81 rfl HSF.o)
  case post=>exact⟨by rw[HV.o],HBN.o⟩
theorem U5 {zs:List Int} (hz:Ci zs):0<=Ez zs/\Ez zs<4294967296:=by
 have h4:=hz.get 4;have h5:=hz.get 5;have h6:=hz.get 6;have h7:=hz.get 7;unfold Ez;omega
theorem TH (b off cap:Nat) (zs:List Int) (w:World) (hc:∀ i,i<zs.length->w.cell? ⟨b,off+i,aA⟩=aE (Z8 Z9 (zs.getD i 0))) (hz:Ci zs) (hl:zs.length=72) :
  Calls tP 58 #[Z7 (aE ⟨b,off,aA⟩) 72 cap,Z8 aI 4] w λe w'=>e=aK (Z8 aN (Ez zs))/\∃ q,w'=w.drewN q:=by
 have c0:=hc 4 AJ;have c1:=hc 5 AJ;have c2:=hc 6 AJ;have c3:=hc 7 AJ;have b0:=hz.get 4;have b1:=hz.get 5;have b2:=hz.get 6;have b3:=hz.get 7;have HN:AO (Ez zs=zs.getD 4 0+256*zs.getD 5 0+65536*zs.getD 6 0+16777216*zs.getD 7 0):=rfl;generalize zs.getD 4 0=x0 at *;generalize zs.getD 5 0=x1 at *;generalize zs.getD 6 0=x2 at *;generalize zs.getD 7 0=x3 at *;clear hc;obtain⟨b01,b02⟩:=b0;obtain⟨b11,b12⟩:=b1;obtain⟨b21,b22⟩:=b2;obtain⟨b31,b32⟩:=b3;go_enter func58,ntmps58;go_wp2
 go_quiet (fail)
 go_wp2
 go_ret
 exact⟨DS (by rw[HN.o]),nq,rfl⟩
theorem PR (a:Option Addr) (n cap:Nat) (zs:List Int) (w:World) (hn:zs.length=n) (hm:n<=1048576) (hcap:n<=cap) (ha:At Z9 w a zs) (hz:Ci zs) :
  Calls tP 41 #[Z7 a n cap] w λe w'=>e=aK (NI zs)/\Below w.heap.size w w':=by
 have HBN:AO (Below w.heap.size w (w.alloc (aJ CO 81))):=Cg.alloc Cl _;have HSF:AO ((tP.info? 81).map (·.size)=aE 3):=by show _=_;kernel_rfl
 by_cases h72:n=72
 ·subst h72;obtain⟨b,off,rfl,hb,hc⟩:=ha.get AJ;have hb':b≠w.heap.size:=AJ
  have c0:(w.alloc (aJ CO 81)).cell? ⟨b,off,aA⟩=aE (Z8 Z9 (zs.getD 0 0)):=by rw[World.cell?_alloc_old _ _ _ hb'];exact hc 0 AJ
  have c1:(w.alloc (aJ CO 81)).cell? ⟨b,off+1,aA⟩=aE (Z8 Z9 (zs.getD 1 0)):=by rw[World.cell?_alloc_old _ _ _ hb'];exact hc 1 AJ
  have HTB:AO (I1 zs=(decide (zs.getD 0 0=84) && decide (zs.getD 1 0=49))):=by show _=_;unfold I1;rw[hn];rfl
  by_cases h0:zs.getD 0 0=84
  ·rw[h0] at c0;by_cases h1:zs.getD 1 0=49
   ·have HV:AO (NI zs=aH #[aG true,Z8 aI (Ej zs),Z8 aI (Ez zs)]):=If (by rw[HTB.o,h0,h1];rfl);rw[h1] at c1;clear h0 h1;clear HTB;have b2:=hz.get 2;have b3:=hz.get 3;have c2:((w.alloc (aJ CO 81))).cell? ⟨b,off+2,aA⟩=aE (Z8 Z9 (zs.getD 2 0)):=by rw[World.cell?_alloc_old _ _ _ hb'];exact hc 2 AJ
    have c3:((w.alloc (aJ CO 81))).cell? ⟨b,off+3,aA⟩=aE (Z8 Z9 (zs.getD 3 0)):=by rw[World.cell?_alloc_old _ _ _ hb'];exact hc 3 AJ
    have C4:AO (∀ q,Calls tP 58 #[Z7 (aE ⟨b,off,aA⟩) 72 cap,Z8 aI 4] ((w.alloc (aJ CO 81)).drewN q) λe w'=>e=aK (Z8 aN (Ez zs))/\∃ p,w'=(w.alloc (aJ CO 81)).drewN p):=λq=>
     (TH b off cap zs ((w.alloc (aJ CO 81)).drewN q) (λi hi=>by show((w.alloc (aJ CO 81))).cell? _=_;rw[World.cell?_alloc_old _ _ _ hb'];exact hc i hi) hz hn).mono (λe w' ⟨h,p,h'⟩=>⟨h,q+p,by rw[h'];simp[World.drewN,Nat.add_assoc]⟩)
    have hE:=U5 hz;have HS9:AO (zs.getD 2 0+256*zs.getD 3 0=Ej zs):=rfl;obtain⟨hE0,hE1⟩:=hE;obtain⟨b20,b21⟩:=b2;obtain⟨b30,b31⟩:=b3;clear hc;generalize zs.getD 2 0=z2 at *;generalize zs.getD 3 0=z3 at *;have W1:IntKind.i64.wrap z2=z2:=by rw[An];omega
    have W2:IntKind.i64.wrap z3=z3:=by rw[An];omega
    have W3:IntKind.i64.wrap (256*z3)=256*z3:=by rw[An];omega
    have W4:IntKind.i64.wrap (z2+256*z3)=z2+256*z3:=by rw[An];omega
    have W5:IntKind.i64.wrap (Ez zs)=Ez zs:=by rw[An];omega
    go_enter func41,ntmps41;go_wp2_with fail;refine Ag AM ?_;refine F9 14 (λw w'=>True) (frame:=(λ(a b c d e f g h i j k l m n o p q r s:Value)=>λ(t:Nat->Value)=>({ tmps:=List.toArray [a,b,c,d,e,f,g,h,i,j,k,l,m,n,o,p,q,r,s,t 0,t 1,t 2,t 3,t 4,t 5,t 6,t 7,t 8,t 9,t 10,t 11,t 12,t 13],defers:=[] }:Act)) _ _ _ _ _ _ _ _ _ _ _ _ _ _ _ _ _ _ _)
     (Ext:=λw'=>∃ q,w'=(w.alloc (aJ CO 81)).drewN q) (Good:=λi _ v=>if i=0 then v=Z7 (aE ⟨b,off,aA⟩) 72 cap else if i=1 then v=aF (aE ⟨b,off+2,aA⟩) else if i=2 then v=Z8 Z9 z2 else if i=3 then v=Z8 aI z2 else if i=4 then v=Z7 (aE ⟨b,off,aA⟩) 72 cap else if i=5 then v=aF (aE ⟨b,off+3,aA⟩) else if i=6 then v=Z8 Z9 z3 else if i=7 then v=Z8 aI z3 else if i=8 then v=Z8 aI (256*z3) else if i=9 then v=Z8 aI (z2+256*z3) else if i=10 then v=Z7 (aE ⟨b,off,aA⟩) 72 cap else if i=11 then v=Z8 aN (Ez zs) else if i=12 then v=Z8 aI (Ez zs) else if i=13 then v=aH #[aG true,Z8 aI (z2+256*z3),Z8 aI (Ez zs)] else True) AN AM (λi w w' v _ h=>h) AM AM ?hop ?hend _ _ ((λ(x0 x1 x2 x3 x4 x5 x6 x7 x8 x9 x10 x11 x12 x13:Value)=>λ(i:Nat)=>if i=0 then x0 else if i=1 then x1 else if i=2 then x2 else if i=3 then x3 else if i=4 then x4 else if i=5 then x5 else if i=6 then x6 else if i=7 then x7 else if i=8 then x8 else if i=9 then x9 else if i=10 then x10 else if i=11 then x11 else if i=12 then x12 else if i=13 then x13 else undef) _ _ _ _ _ _ _ _ _ _ _ _ _ _) _ AL AL ?ext ?start AL
    case start=>intro i hi h;exact absurd h Et
    case ext=>exact⟨1,rfl⟩
    case hop=>
     intro i o t w' hil ho hx hdep K hK;obtain⟨q,rfl⟩:=hx;obtain rfl|rfl|rfl|rfl|rfl|rfl|rfl|rfl|rfl|rfl|rfl|rfl|rfl|rfl:i=0\/i=1\/i=2\/i=3\/i=4\/i=5\/i=6\/i=7\/i=8\/i=9\/i=10\/i=11\/i=12\/i=13:=AJ
     all_goals(simp at ho;subst ho)
     ·clear hdep;have hK':=hK ((w.alloc (aJ CO 81)).drewN q) (Z7 (aE ⟨b,off,aA⟩) 72 cap) AL ⟨q,rfl⟩ trivial;clear hK;go_simp;simpa[Ce,W1,W2,W3,W4,W5] using hK'
     ·have d0:t 0=Z7 (aE ⟨b,off,aA⟩) 72 cap:=by simpa using hdep ⟨0,aL⟩ AL rfl
      clear hdep;have hK':=hK ((w.alloc (aJ CO 81)).drewN q) (aF (aE ⟨b,off+2,aA⟩)) AL ⟨q,rfl⟩ trivial;clear hK;go_simp;simpa[Ce,d0,W1,W2,W3,W4,W5] using hK'
     ·have d1:t 1=aF (aE ⟨b,off+2,aA⟩):=by simpa using hdep ⟨1,aL⟩ AL rfl
      clear hdep;have hK':=hK ((w.alloc (aJ CO 81)).drewN q) (Z8 Z9 z2) AL ⟨q,rfl⟩ trivial;clear hK;go_simp;simpa[Ce,d1,W1,W2,W3,W4,W5] using hK'
     ·have d2:t 2=Z8 Z9 z2:=by simpa using hdep ⟨2,aL⟩ AL rfl
      clear hdep;have hK':=hK ((w.alloc (aJ CO 81)).drewN q) (Z8 aI z2) AL ⟨q,rfl⟩ trivial;clear hK;go_simp;simpa[Ce,d2,W1,W2,W3,W4,W5] using hK'
     ·clear hdep;have hK':=hK ((w.alloc (aJ CO 81)).drewN q) (Z7 (aE ⟨b,off,aA⟩) 72 cap) AL ⟨q,rfl⟩ trivial;clear hK;go_simp;simpa[Ce,W1,W2,W3,W4,W5] using hK'
     ·have d4:t 4=Z7 (aE ⟨b,off,aA⟩) 72 cap:=by simpa using hdep ⟨4,aL⟩ AL rfl
      clear hdep;have hK':=hK ((w.alloc (aJ CO 81)).drewN q) (aF (aE ⟨b,off+3,aA⟩)) AL ⟨q,rfl⟩ trivial;clear hK;go_simp;simpa[Ce,d4,W1,W2,W3,W4,W5] using hK'
     ·have d5:t 5=aF (aE ⟨b,off+3,aA⟩):=by simpa using hdep ⟨5,aL⟩ AL rfl
      clear hdep;have hK':=hK ((w.alloc (aJ CO 81)).drewN q) (Z8 Z9 z3) AL ⟨q,rfl⟩ trivial;clear hK;go_simp;simpa[Ce,d5,W1,W2,W3,W4,W5] using hK'
     ·have d6:t 6=Z8 Z9 z3:=by simpa using hdep ⟨6,aL⟩ AL rfl
      clear hdep;have hK':=hK ((w.alloc (aJ CO 81)).drewN q) (Z8 aI z3) AL ⟨q,rfl⟩ trivial;clear hK;go_simp;simpa[Ce,d6,W1,W2,W3,W4,W5] using hK'
     ·have d7:t 7=Z8 aI z3:=by simpa using hdep ⟨7,aL⟩ AL rfl
      clear hdep;have hK':=hK ((w.alloc (aJ CO 81)).drewN q) (Z8 aI (256*z3)) AL ⟨q,rfl⟩ trivial;clear hK;go_simp;simpa[Ce,d7,W1,W2,W3,W4,W5] using hK'
     ·have d3:t 3=Z8 aI z2:=by simpa using hdep ⟨3,aL⟩ AL rfl
      have d8:t 8=Z8 aI (256*z3):=by simpa using hdep ⟨8,aL⟩ AL rfl
      clear hdep;have hK':=hK ((w.alloc (aJ CO 81)).drewN q) (Z8 aI (z2+256*z3)) AL ⟨q,rfl⟩ trivial;clear hK;go_simp;simpa[Ce,d3,d8,W1,W2,W3,W4,W5] using hK'
     ·clear hdep;have hK':=hK ((w.alloc (aJ CO 81)).drewN q) (Z7 (aE ⟨b,off,aA⟩) 72 cap) AL ⟨q,rfl⟩ trivial;clear hK;go_simp;simpa[Ce,W1,W2,W3,W4,W5] using hK'
     ·have d10:t 10=Z7 (aE ⟨b,off,aA⟩) 72 cap:=by simpa using hdep ⟨10,aL⟩ AL rfl
      clear hdep;have hK':=λp=>hK ((w.alloc (aJ CO 81)).drewN p) (Z8 aN (Ez zs)) AL ⟨p,rfl⟩ trivial
      clear hK;go_simp;try simp only[d10]
      refine(C4.o q).mono ?_;rintro e w9 ⟨rfl,p,rfl⟩;have hK2:=hK' p;clear hK';go_simp;simpa[Ce,d10] using hK2
     ·have d11:t 11=Z8 aN (Ez zs):=by simpa using hdep ⟨11,aL⟩ AL rfl
      clear hdep;have hK':=hK ((w.alloc (aJ CO 81)).drewN q) (Z8 aI (Ez zs)) AL ⟨q,rfl⟩ trivial;clear hK;go_simp;simpa[Ce,d11,W1,W2,W3,W4,W5] using hK'
     ·have d9:t 9=Z8 aI (z2+256*z3):=by simpa using hdep ⟨9,aL⟩ AL rfl
      have d12:t 12=Z8 aI (Ez zs):=by simpa using hdep ⟨12,aL⟩ AL rfl
      clear hdep;have hK':=hK ((w.alloc (aJ CO 81)).drewN q) (aH #[aG true,Z8 aI (z2+256*z3),Z8 aI (Ez zs)]) AL ⟨q,rfl⟩ trivial;clear hK;go_simp;simpa[Ce,d9,d12,W1,W2,W3,W4,W5] using hK'
    case hend=>
     intro o t w' ho hx hg K hK;obtain⟨q,rfl⟩:=hx;simp at ho;subst ho;have d0:t 0=Z7 (aE ⟨b,off,aA⟩) 72 cap:=by simpa using hg 0 AK
     have d1:t 1=aF (aE ⟨b,off+2,aA⟩):=by simpa using hg 1 AK
     have d2:t 2=Z8 Z9 z2:=by simpa using hg 2 AK
     have d3:t 3=Z8 aI z2:=by simpa using hg 3 AK
     have d4:t 4=Z7 (aE ⟨b,off,aA⟩) 72 cap:=by simpa using hg 4 AK
     have d5:t 5=aF (aE ⟨b,off+3,aA⟩):=by simpa using hg 5 AK
     have d6:t 6=Z8 Z9 z3:=by simpa using hg 6 AK
     have d7:t 7=Z8 aI z3:=by simpa using hg 7 AK
     have d8:t 8=Z8 aI (256*z3):=by simpa using hg 8 AK
     have d9:t 9=Z8 aI (z2+256*z3):=by simpa using hg 9 AK
     have d10:t 10=Z7 (aE ⟨b,off,aA⟩) 72 cap:=by simpa using hg 10 AK
     have d11:t 11=Z8 aN (Ez zs):=by simpa using hg 11 AK
     have d12:t 12=Z8 aI (Ez zs):=by simpa using hg 12 AK
     have d13:t 13=aH #[aG true,Z8 aI (z2+256*z3),Z8 aI (Ez zs)]:=by simpa using hg 13 AK
     clear hg;refine Bt 81 (.tmp 2) (.tmp 32) rfl w.heap.size #[aG true,Z8 aI (z2+256*z3),Z8 aI (Ez zs)] rfl d13 81 _ (show((w.alloc (aJ CO 81))).heap[w.heap.size]?=_ from AX w _) HSF.o rfl (by simp[Value.oneCell']) ?_;apply hK;have HR5:AO (((((w.alloc (aJ CO 81))).drewN q).setRow w.heap.size #[aG true,Z8 aI (z2+256*z3),Z8 aI (Ez zs)]).heap[w.heap.size]?=aE (aJ #[aG true,Z8 aI (z2+256*z3),Z8 aI (Ez zs)] 81 (0,0))):=
      AB (show((w.alloc (aJ CO 81))).heap[w.heap.size]?=_ from AX w _)
     have HB5:AO (Below w.heap.size w ((((w.alloc (aJ CO 81))).drewN q).setRow w.heap.size #[aG true,Z8 aI (z2+256*z3),Z8 aI (Ez zs)])):=
      (Gx HBN.o q).trans ((Wr.setRow _ _ _).below Cl)
     generalize (((w.alloc (aJ CO 81))).drewN q).setRow w.heap.size #[aG true,Z8 aI (z2+256*z3),Z8 aI (Ez zs)]=w5 at *;clear hK d0 d1 d2 d3 d4 d5 d6 d7 d8 d9 d10 d11 d12;go_wp2_with fail;refine Ab (v:=aH #[aG true,Z8 aI (z2+256*z3),Z8 aI (Ez zs)]) (Ah rfl _ _ w.heap.size 81 _ (0,0) _ rfl HR5.o underlying81 rfl HSF.o) rfl ⟨by rw[HV.o,<-HS9.o],HB5.o⟩
   ·have HV:AO (NI zs=aH CO):=Gw (by rw[HTB.o,h0];simpa using h1);have h1':(zs.getD 1 0 == 49)=false:=by simpa using h1
    clear hc HTB h0 h1;generalize zs.getD 1 0=z1 at *;go_enter func41,ntmps41;go_wp2;refine Ab (v:=aH CO) (Ah rfl _ _ w.heap.size 81 _ (0,0) _ rfl (AX w _) underlying81 rfl HSF.o) rfl ⟨by rw[HV.o],HBN.o⟩
  ·have HV:AO (NI zs=aH CO):=Gw (by rw[HTB.o,Af h0];rfl);have h0':(zs.getD 0 0 != 84)=true:=by simpa using h0
   clear hc HTB c1;generalize zs.getD 0 0=z0 at *;go_enter func41,ntmps41;go_wp2;refine Ab (v:=aH CO) (Ah rfl _ _ w.heap.size 81 _ (0,0) _ rfl (AX w _) underlying81 rfl HSF.o) rfl ⟨by rw[HV.o],HBN.o⟩
 ·have HV:AO (NI zs=aH CO):=Gw (by unfold I1;rw[Af AJ];rfl);have h72':¬ ((n:Int)=72):=AJ
  have h73:((n:Int) != 72)=true:=by simpa using h72'
  clear ha h72;go_enter func41,ntmps41;go_wp2;refine Ab (v:=aH CO) ?res rfl ?post
  case res=>exact(Ah rfl _ _ w.heap.size 81 _ (0,0) _ rfl (AX w _) underlying81 rfl HSF.o)
  case post=>exact⟨by rw[HV.o],HBN.o⟩
end Go.Proofs.YtjdhhgaelgemcaaGreatDoor
