import Derived.Test.YtjdhhgaelgemcaaGreatDoorMSwA
open Go.Proofs.Tryz renaming prog->tP
open Go.Proofs.Tryz
open Go.Value renaming slice->Z7,int->Z8,pointer->aF,agg->aH
open Go.Obj renaming cells->aJ
open Go.Ending renaming returned->aK
open Go.Operand renaming tmp->aM
open Option renaming some->aE,none->aA
open Go renaming World->aC
set_option maxHeartbeats 16000000
set_option maxRecDepth 100000
namespace Go.Proofs.YtjdhhgaelgemcaaGreatDoor
open Go.ChangeShapes Go.WideShapes Go.ChangeAt Go.RowKit
set_option linter.unusedVariables false
theorem YQ {a b c d:Int} (a0:0<=a) (a1:a<18446744073709551616) (b0:0<=b) (b1:b<18446744073709551616) (c0:0<=c) (c1:c<18446744073709551616) (d0:0<=d) (d1:d<18446744073709551616):G4 [a,b,c,d]:=by
 intro z hz;simp only[List.mem_cons,List.not_mem_nil,or_false] at hz;rcases hz with rfl|rfl|rfl|rfl<;>exact⟨by assumption,by assumption⟩
theorem Ks (g:Nat) (x y z t:List Int) (w:aC) (hp:Pt w g x y z t) :
  Calls tP 110 #[aF (aE ⟨g,0,aA⟩)] w (K9 w (OA (ev x) (ev y) (ev z))):=by
 have bw:Below w.heap.size w (w.alloc (aJ CV 143)):=Cx _ _;have hp0:Pt (w.alloc (aJ CV 143)) g x y z t:=hp.below bw hp.row.lt;have HS0:AO (C5 (w.alloc (aJ CV 143)) (w.alloc (aJ CV 143)) [] [(g,0,x),(g,5,y),(g,10,z)]):=C5.start _ _ (λe he=>by
  simp only[List.mem_cons,List.not_mem_nil,or_false] at he;rcases he with rfl|rfl|rfl
  ·exact hp0.ex
  ·exact hp0.ey
  ·exact hp0.ez)
 have HR0:(w.alloc (aJ CV 143)).heap[w.heap.size]?=aE (aJ CV 143 (0,0)):=AX w _;have hs0:w.heap.size<(w.alloc (aJ CV 143)).heap.size:=AL
 clear hp hp0;go_enter func110,ntmps110;go_wp2_with fail;generalize w.alloc (aJ CV 143)=w0 at *;refine(Ms g 10 z _ (HS0.o.el 2 _ _ _ rfl)).mono ?_;rintro e w1 ⟨iv,hk,hv,rfl,b⟩;have HKiv:AO (Cs iv/\ev iv=Dm (ev z)):=⟨hk,hv⟩
 have HS1:AO (C5 w0 w1 [] [(g,0,x),(g,5,y),(g,10,z)]):=HS0.o.call b;clear hk hv b HS0;have HA2:AO (C5 w0 (w1.alloc (aJ CQ 138)) [(w1.heap.size,[0,0,0,0,0])] [(g,0,x),(g,5,y),(g,10,z)]):=HS1.o.room;clear HS1;go_wp2_with (first
  |(refine DG HA2.o rfl (aM 3) (aM 10) rfl 0 (w1.heap.size) [0,0,0,0,0] iv rfl rfl rfl HKiv.o.1 rfl ?_)
  |fail)
 intro w3 S;have HS3:AO (C5 w0 w3 [(w1.heap.size,iv)] [(g,0,x),(g,5,y),(g,10,z)]):=S;clear S HA2;generalize w1.heap.size=G3a at *;go_wp2_with fail;refine Ag AM ?_;refine Ec (λ_ _ _=>True) (frame:=(λ(a b c d e f g h i j k l m n o p:Value)=>λ(t:Nat->Value)=>({ tmps:=List.toArray [a,b,c,d,t 8,t 9,e,f,g,h,i,t 0,t 1,t 2,t 3,t 4,t 5,t 6,t 7,j,k,l,m,n,o,p],defers:=[] }:Act)) _ _ _ _ _ _ _ _ _ _ _ _ _ _ _ _)
  (Ext:=Hh w3 8 9 10 11 (ev x*ev iv%fp) (ev y*ev iv%fp)) (Good:=λi L _ v=>if i=0 then v=aF (aE ⟨g,0,aA⟩) else if i=1 then v=aF (aE ⟨g,0,aA⟩) else if i=2 then v=aF (aE ⟨g,0,aA⟩) else if i=3 then EV (ev x*ev iv%fp) v else if i=4 then v=aF (aE ⟨g,0,aA⟩) else if i=5 then v=aF (aE ⟨g,0,aA⟩) else if i=6 then v=aF (aE ⟨g,5,aA⟩) else if i=7 then EV (ev y*ev iv%fp) v else if i=8 then L 8=true else if i=9 then L 9=true else if i=10 then L 10=true else if i=11 then L 11=true else True) ?hstab AM ?hop ?hdone _ _ ((λ(x0 x1 x2 x3 x4 x5 x6 x7 x8 x9:Value)=>λ(i:Nat)=>if i=0 then x0 else if i=1 then x1 else if i=2 then x2 else if i=3 then x3 else if i=4 then x4 else if i=5 then x5 else if i=6 then x6 else if i=7 then x7 else if i=8 then x8 else if i=9 then x9 else undef) _ _ _ _ _ _ _ _ _ _) _ AL ?ext ?start AL
 case start=>intro i hi h;exact absurd h Et
 case ext=>exact Hh.start _ _ _ AL AL AL AL ⟨rfl,rfl,rfl,Ac _,λ_ _=>rfl⟩
 case hstab=>
  intro j L w9 w' i v _ _ _ h;by_cases h8:j=8
  ·subst h8;simp at h |-;unfold Cf;simp[h]
  by_cases h9:j=9
  ·subst h9;simp at h |-;unfold Cf;simp[h]
  by_cases h10:j=10
  ·subst h10;simp at h |-;unfold Cf;simp[h]
  by_cases h11:j=11
  ·subst h11;simp at h |-;unfold Cf;simp[h]
  simp only[if_neg h8,if_neg h9,if_neg h10,if_neg h11] at h |-;exact h
 case hop=>
  intro i o L t w' ho hLi hx hdep K hK;have hi:i<12:=(AR.1 ho).1;obtain rfl|rfl|rfl|rfl|rfl|rfl|rfl|rfl|rfl|rfl|rfl|rfl:i=0\/i=1\/i=2\/i=3\/i=4\/i=5\/i=6\/i=7\/i=8\/i=9\/i=10\/i=11:=AJ
  all_goals(simp at ho;subst ho)
  ·clear hdep;have hK':=hK w' (aF (aE ⟨g,0,aA⟩)) AL (hx.low 0 AK AK AK AK _ Cg) trivial;clear hK;rw[AP AN];go_simp;simpa[Ce] using hK'
  ·have d0:t 0=aF (aE ⟨g,0,aA⟩):=by simpa using hdep ⟨0,.data⟩ AL rfl
   clear hdep;have hK':=hK w' (aF (aE ⟨g,0,aA⟩)) AL (hx.low 1 AK AK AK AK _ Cg) trivial;clear hK;rw[AP AN];go_simp;simpa[Ce,d0] using hK'
  ·have d1:t 1=aF (aE ⟨g,0,aA⟩):=by simpa using hdep ⟨1,.data⟩ AL rfl
   clear hdep;have hK':=hK w' (aF (aE ⟨g,0,aA⟩)) AL (hx.low 2 AK AK AK AK _ Cg) trivial;clear hK;rw[AP AN];go_simp;simpa[Ce,d1] using hK'
  ·have d2:t 2=aF (aE ⟨g,0,aA⟩):=by simpa using hdep ⟨2,.data⟩ AL rfl
   clear hdep;have A:=Ct g 0 G3a 0 x iv w' ((HS3.o.el 0 _ _ _ rfl).below hx.below) ((HS3.o.re 0 _ _ rfl).below hx.below);have hK':∀ ww v,EV (ev x*ev iv%fp) v->Below w'.heap.size w' ww->K _ ww:=λww v hv hb=>hK ww v (by simpa using hv) (hx.low 3 AK AK AK AK _ hb) trivial
   clear hK;rw[AP AN];go_simp;try simp only[d2]
   refine A.mono ?_;rintro e w9 ⟨es,hk,hv,rfl,hb⟩;have hK2:=hK' w9 _ ⟨es,hk,hv,rfl⟩ hb;clear hK' A hk hv hb;go_simp;simpa[Ce,d2] using hK2
  ·clear hdep;have hK':=hK w' (aF (aE ⟨g,0,aA⟩)) AL (hx.low 4 AK AK AK AK _ Cg) trivial;clear hK;rw[AP AN];go_simp;simpa[Ce] using hK'
  ·have d4:t 4=aF (aE ⟨g,0,aA⟩):=by simpa using hdep ⟨4,.data⟩ AL rfl
   clear hdep;have hK':=hK w' (aF (aE ⟨g,0,aA⟩)) AL (hx.low 5 AK AK AK AK _ Cg) trivial;clear hK;rw[AP AN];go_simp;simpa[Ce,d4] using hK'
  ·have d5:t 5=aF (aE ⟨g,0,aA⟩):=by simpa using hdep ⟨5,.data⟩ AL rfl
   clear hdep;have hK':=hK w' (aF (aE ⟨g,5,aA⟩)) AL (hx.low 6 AK AK AK AK _ Cg) trivial;clear hK;rw[AP AN];go_simp;simpa[Ce,d5] using hK'
  ·have d6:t 6=aF (aE ⟨g,5,aA⟩):=by simpa using hdep ⟨6,.data⟩ AL rfl
   clear hdep;have A:=Ct g 5 G3a 0 y iv w' ((HS3.o.el 1 _ _ _ rfl).below hx.below) ((HS3.o.re 0 _ _ rfl).below hx.below);have hK':∀ ww v,EV (ev y*ev iv%fp) v->Below w'.heap.size w' ww->K _ ww:=λww v hv hb=>hK ww v (by simpa using hv) (hx.low 7 AK AK AK AK _ hb) trivial
   clear hK;rw[AP AN];go_simp;try simp only[d6]
   refine A.mono ?_;rintro e w9 ⟨es,hk,hv,rfl,hb⟩;have hK2:=hK' w9 _ ⟨es,hk,hv,rfl⟩ hb;clear hK' A hk hv hb;go_simp;simpa[Ce,d6] using hK2
  ·clear hdep;have hK':=hK _ (aF (aE ⟨w'.heap.size,0,aA⟩)) (by simp[Cf]) (hx.alloc1 hLi AK AK AK) trivial;clear hK;rw[AP AN];go_simp;simpa[Ce] using hK'
  ·clear hdep;have hK':=hK _ (aF (aE ⟨w'.heap.size,0,aA⟩)) (by simp[Cf]) (hx.alloc2 hLi AK AK AK) trivial;clear hK;rw[AP AN];go_simp;simpa[Ce] using hK'
  ·have l8:L 8=true:=by simpa using hdep ⟨8,.data⟩ AL rfl
   have f3:EV (ev x*ev iv%fp) (t 3):=by simpa using hdep ⟨3,.data⟩ AL rfl
   clear hdep;obtain⟨g9,zs9,e9,r9,k9⟩:=hx.get1 l8;refine f3.elim_ λes9 ke ve ee=>?_
   have hK':∀ ww,Ch ww g9 138 es9->Wr g9 w' ww->K _ ww:=λww rr hw=>hK ww undef (by simp[Cf]) (hx.store1 l8 e9 AK AK AK ke ve hw rr _) trivial
   clear hK;rw[AP AN];refine EW (aM 4) (aM 14) rfl g9 zs9 es9 e9 ee ke k9 r9 λww rr hw=>?_
   have hK2:=hK' ww rr hw;clear hK';simpa[Ce,Act.put] using hK2
  ·have l9:L 9=true:=by simpa using hdep ⟨9,.data⟩ AL rfl
   have f7:EV (ev y*ev iv%fp) (t 7):=by simpa using hdep ⟨7,.data⟩ AL rfl
   clear hdep;obtain⟨g9,zs9,e9,r9,k9⟩:=hx.swap.get1 l9;refine f7.elim_ λes9 ke ve ee=>?_
   have hK':∀ ww,Ch ww g9 138 es9->Wr g9 w' ww->K _ ww:=λww rr hw=>hK ww undef (by simp[Cf]) (hx.store2 l9 e9 AK AK AK ke ve hw rr _) trivial
   clear hK;rw[AP AN];refine EW (aM 5) (aM 18) rfl g9 zs9 es9 e9 ee ke k9 r9 λww rr hw=>?_
   have hK2:=hK' ww rr hw;clear hK';simpa[Ce,Act.put] using hK2
 case hdone=>
  intro L t4 w4 hx hg;have l10:L 10=true:=by simpa using hg 10 AK
  have l11:L 11=true:=by simpa using hg 11 AK
  clear hg;obtain⟨G4a,xx,q1,qg1,qr1,qk1,qv1⟩:=hx.fin1 l10;obtain⟨G4b,yy,q2,qg2,qr2,qk2,qv2⟩:=hx.swap.fin1 l11;have qne:=hx.ne (hx.v1.1 l10) (hx.v2.1 l11) _ _ q1 q2;have HS4:AO (C5 w0 w4 [(G4b,yy),(G4a,xx),(G3a,iv)] [(g,0,x),(g,5,y),(g,10,z)]):=HS3.o.two hx.below qg1 qr1 qk1 qg2 qr2 qk2 qne;have HKxx:AO (Cs xx/\ev xx=ev x*ev iv%fp):=⟨qk1,qv1⟩
  have HKyy:AO (Cs yy/\ev yy=ev y*ev iv%fp):=⟨qk2,qv2⟩
  simp only[q1,q2];clear hx q1 q2 qg1 qg2 qr1 qr2 qk1 qk2 qv1 qv2 qne HS3;go_wp2_with fail;refine(N9 G4b 0 yy _ (HS4.o.re 0 _ _ rfl)).mono ?_;rintro e wn ⟨ms,hl,hw,hv,rfl,b⟩
  match ms,hl with
  |[n0,n1,n2,n3],_=>
  obtain⟨a0,a1⟩:=hw.get 0;obtain⟨b0,b1⟩:=hw.get 1;obtain⟨c0,c1⟩:=hw.get 2;obtain⟨d0,d1⟩:=hw.get 3;simp only[List.getD_cons_zero,List.getD_cons_succ] at a0 a1 b0 b1 c0 c1 d0 d1;have HSn:AO (C5 w0 (wn.alloc (aJ #[Z8 .u64 n0,Z8 .u64 n1,Z8 .u64 n2,Z8 .u64 n3] 143)) [(G4b,yy),(G4a,xx),(G3a,iv)] [(g,0,x),(g,5,y),(g,10,z)]):=(HS4.o.call b).call (Cx _ _);have HNR:AO (Ch (wn.alloc (aJ #[Z8 .u64 n0,Z8 .u64 n1,Z8 .u64 n2,Z8 .u64 n3] 143)) wn.heap.size 143 [n0,n1,n2,n3]):=AX wn _;have hd3:n3<9223372036854775808:=by
   have e1:=HKyy.o.2;have e2:=Gk yy;have e3:val 18446744073709551616 [n0,n1,n2,n3]<57896044618658097711785492504343953926634992332820282019728792003956564819968:=by
    rw[hv];have:fp<57896044618658097711785492504343953926634992332820282019728792003956564819968:=AK
    omega
   simp only[val] at e3;omega
  have HV:AO (val 18446744073709551616 [n0,n1,n2,n3]=ev y*Dm (ev z)%fp/\ev xx=ev x*Dm (ev z)%fp):=⟨by rw[hv,HKyy.o.2,HKiv.o.2],by rw[HKxx.o.2,HKiv.o.2]⟩
  have HGW:AO (w0.heap.size<=wn.heap.size):=BG HS4.o.below.size b.size;clear hv b HS4 hw;simp only[List.map_cons,List.map_nil];go_wp2_with fail;generalize wn.alloc (aJ #[Z8 .u64 n0,Z8 .u64 n1,Z8 .u64 n2,Z8 .u64 n3] 143)=w6 at *;refine(FT G4a 0 xx _ (HSn.o.re 1 _ _ rfl)).mono ?_;rintro e w7 ⟨rfl,b⟩;have HR7:AO (w7.heap[wn.heap.size]?=aE (aJ #[Z8 .u64 n0,Z8 .u64 n1,Z8 .u64 n2,Z8 .u64 n3] 143 (0,0))):=(HNR.o.below b HNR.o.lt)
  have HB7:AO (Below w0.heap.size w0 w7):=HSn.o.below.trans (b.mono HSn.o.below.size);have HZ7:AO (w7.heap[w.heap.size]?=aE (aJ CV 143 (0,0))):=by show _=_;rw[HB7.o.block _ hs0];exact HR0
  have HSZ:AO ((tP.info? 143).map (·.size)=aE 4):=by show _=_;kernel_rfl
  have HB:AO (Below w.heap.size w w7):=bw.trans (HB7.o.mono bw.size);have hne:wn.heap.size≠w.heap.size:=AG HGW.o
  have hG6:w.heap.size<=wn.heap.size:=AG HGW.o
  clear b HSn HNR HB7 HR0 bw hs0 HKxx HKyy HKiv HGW;generalize wn.heap.size=G6 at *;have hx2:ev xx%2=0\/ev xx%2=1:=AJ
  rcases hx2 with hx2|hx2
  ·have HF:AO (val 18446744073709551616 [n0,n1,n2,n3]=OA (ev x) (ev y) (ev z)):=by
    show _=_
    unfold OA;rw[HV.o.1,<-HV.o.2,hx2];omega
   rw[show(ev xx%2 == 1)=false by rw[hx2];rfl];go_wp2_with (first
    |(refine Ae rfl 143 (aM 6) rfl G6 rfl 143 _ (0,0) _ HR7.o underlying143 rfl HSZ.o ?_)
    |(refine AE 143 (aM 2) (aM 25) w.heap.size #[Z8 .u64 n0,Z8 .u64 n1,Z8 .u64 n2,Z8 .u64 n3] 143 HZ7.o HSZ.o rfl (by simp[Value.oneCell']) ?_)
    |fail)
   refine Ab (v:=aH #[Z8 .u64 n0,Z8 .u64 n1,Z8 .u64 n2,Z8 .u64 n3]) (Ah rfl _ _ w.heap.size 143 _ (0,0) _ rfl (AB HZ7.o) underlying143 rfl HSZ.o) rfl ?_;exact⟨[n0,n1,n2,n3],rfl,YQ a0 a1 b0 b1 c0 c1 d0 d1,HF.o,rfl,HB.o.trans ((Wr.setRow _ _ _).below Cl)⟩
  ·have HF:AO (val 18446744073709551616 [n0,n1,n2,n3+9223372036854775808]=OA (ev x) (ev y) (ev z)):=by
    show _=_
    have e1:=HV.o.1;unfold OA Gp;rw[<-HV.o.2,hx2,<-e1];simp only[val];omega
   have HOR:AO (bits .or .u64 n3 9223372036854775808=n3+9223372036854775808):=EU 9223372036854775808 n3 63 AK AK d0 (by show n3<9223372036854775808;exact hd3) d1 1 AK;have HS8:AO ((w7.setCell ⟨G6,3,aA⟩ (Z8 .u64 (bits .or .u64 n3 9223372036854775808))).heap[G6]?=aE (aJ #[Z8 .u64 n0,Z8 .u64 n1,Z8 .u64 n2,Z8 .u64 (bits .or .u64 n3 9223372036854775808)] 143 (0,0))):=by
    show _=_;rw[A8 w7 G6 3 _ _ _ HR7.o];rfl
   have HZ8:AO ((w7.setCell ⟨G6,3,aA⟩ (Z8 .u64 (bits .or .u64 n3 9223372036854775808))).heap[w.heap.size]?=aE (aJ CV 143 (0,0))):=by
    show _=_;rw[((Wr.refl G6 w7).setCell 3 _).block _ (BA hne)];exact HZ7.o
   have HB8:AO (Below w.heap.size w (w7.setCell ⟨G6,3,aA⟩ (Z8 .u64 (bits .or .u64 n3 9223372036854775808)))):=HB.o.trans (((Wr.refl G6 w7).setCell 3 _).below hG6);have c3:w7.cell? ⟨G6,3,aA⟩=aE (Z8 .u64 n3):=by rw[AA HR7.o 3];rfl
   have f3:w7.frozen? ⟨G6,3,aA⟩=false:=Ar w7 G6 3 _ _ HR7.o;rw[show(ev xx%2 == 1)=true by rw[hx2];rfl];go_wp2_with (first
    |(refine Ae rfl 143 (aM 6) rfl G6 rfl 143 _ (0,0) _ HS8.o underlying143 rfl HSZ.o ?_)
    |(refine AE 143 (aM 2) (aM 25) w.heap.size #[Z8 .u64 n0,Z8 .u64 n1,Z8 .u64 n2,Z8 .u64 (bits .or .u64 n3 9223372036854775808)] 143 HZ8.o HSZ.o rfl (by simp[Value.oneCell']) ?_)
    |fail)
   refine Ab (v:=aH #[Z8 .u64 n0,Z8 .u64 n1,Z8 .u64 n2,Z8 .u64 (bits .or .u64 n3 9223372036854775808)]) (Ah rfl _ _ w.heap.size 143 _ (0,0) _ rfl (AB HZ8.o) underlying143 rfl HSZ.o) rfl ?_;exact⟨[n0,n1,n2,n3+9223372036854775808],rfl,YQ a0 a1 b0 b1 c0 c1 AJ AJ,HF.o,by rw[HOR.o];rfl,HB8.o.trans ((Wr.setRow _ _ _).below Cl)⟩
end Go.Proofs.YtjdhhgaelgemcaaGreatDoor
namespace Go.Proofs.YtjdhhgaelgemcaaGreatDoor
set_option linter.unusedVariables false
abbrev Q4:Type:=Int×Int×Int×Int
theorem al (a b:Int):(a%fp+b)%fp=(a+b)%fp:=by rw[Int.add_emod,Int.emod_emod_of_dvd _ (Int.dvd_refl fp),<-Int.add_emod]
theorem ar (a b:Int):(a+b%fp)%fp=(a+b)%fp:=by rw[Int.add_emod,Int.emod_emod_of_dvd _ (Int.dvd_refl fp),<-Int.add_emod]
theorem sl (a b:Int):(a%fp-b)%fp=(a-b)%fp:=by rw[Int.sub_emod,Int.emod_emod_of_dvd _ (Int.dvd_refl fp),<-Int.sub_emod]
theorem Yu (a b:Int):(a-b%fp)%fp=(a-b)%fp:=by rw[Int.sub_emod,Int.emod_emod_of_dvd _ (Int.dvd_refl fp),<-Int.sub_emod]
def fX (A B C G:Int):Int:=(B-A)%fp*((G-C)%fp)%fp
def fY (A B C G:Int):Int:=(G+C)%fp*((B+A)%fp)%fp
def fZ (A B C G:Int):Int:=(G-C)%fp*((G+C)%fp)%fp
def fT (A B C G:Int):Int:=(B-A)%fp*((B+A)%fp)%fp
def F4 (P Q:Q4):Q4:=
 (fX (E7 P.1 P.2.1 Q.1 Q.2.1) (E9 P.1 P.2.1 Q.1 Q.2.1) (Ek Dy P.2.2.2 Q.2.2.2) (Ey P.2.2.1 Q.2.2.1),
  fY (E7 P.1 P.2.1 Q.1 Q.2.1) (E9 P.1 P.2.1 Q.1 Q.2.1) (Ek Dy P.2.2.2 Q.2.2.2) (Ey P.2.2.1 Q.2.2.1),
  fZ (E7 P.1 P.2.1 Q.1 Q.2.1) (E9 P.1 P.2.1 Q.1 Q.2.1) (Ek Dy P.2.2.2 Q.2.2.2) (Ey P.2.2.1 Q.2.2.1),
  fT (E7 P.1 P.2.1 Q.1 Q.2.1) (E9 P.1 P.2.1 Q.1 Q.2.1) (Ek Dy P.2.2.2 Q.2.2.2) (Ey P.2.2.1 Q.2.2.1))
def M2 (l:Int) (P:Q4):Q4:=(l*P.1%fp,l*P.2.1%fp,l*P.2.2.1%fp,l*P.2.2.2%fp)
theorem Zx (l m X1 Y1 X2 Y2:Int):E7 (l*X1%fp) (l*Y1%fp) (m*X2%fp) (m*Y2%fp)=l*m*E7 X1 Y1 X2 Y2%fp:=by
 unfold E7;simp only[ml,mr,sl,Yu]
 congr 1;grind
theorem Zy (l m X1 Y1 X2 Y2:Int):E9 (l*X1%fp) (l*Y1%fp) (m*X2%fp) (m*Y2%fp)=l*m*E9 X1 Y1 X2 Y2%fp:=by
 unfold E9;simp only[ml,mr,al,ar]
 congr 1;grind
theorem Zz (l m D T1 T2:Int):Ek D (l*T1%fp) (m*T2%fp)=l*m*Ek D T1 T2%fp:=by
 unfold Ek;simp only[ml,mr]
 congr 1;grind
theorem Z5 (l m Z1 Z2:Int):Ey (l*Z1%fp) (m*Z2%fp)=l*m*Ey Z1 Z2%fp:=by
 unfold Ey;simp only[ml,mr,al,ar]
 congr 1;grind
theorem ZW (k A B C G:Int):fX (k*A%fp) (k*B%fp) (k*C%fp) (k*G%fp)=k*k*fX A B C G%fp:=by
 unfold fX;simp only[ml,mr,sl,Yu]
 congr 1;grind
theorem ZX (k A B C G:Int):fY (k*A%fp) (k*B%fp) (k*C%fp) (k*G%fp)=k*k*fY A B C G%fp:=by
 unfold fY;simp only[ml,mr,al,ar]
 congr 1;grind
theorem ZY (k A B C G:Int):fZ (k*A%fp) (k*B%fp) (k*C%fp) (k*G%fp)=k*k*fZ A B C G%fp:=by
 unfold fZ;simp only[ml,mr,al,ar,sl,Yu]
 congr 1;grind
theorem ZZ (k A B C G:Int):fT (k*A%fp) (k*B%fp) (k*C%fp) (k*G%fp)=k*k*fT A B C G%fp:=by
 unfold fT;simp only[ml,mr,al,ar,sl,Yu]
 congr 1;grind
theorem OG (l m:Int) (P Q:Q4):F4 (M2 l P) (M2 m Q)=M2 (l*m*(l*m)) (F4 P Q):=by
 obtain⟨x,y,z,t⟩:=P;obtain⟨x',y',z',t'⟩:=Q;simp only[F4,M2,Zx,Zy,Zz,Z5,ZW,ZX,ZY,ZZ]
theorem Us (l m:Int) (P:Q4):M2 l (M2 m P)=M2 (l*m) P:=by
 obtain⟨x,y,z,t⟩:=P;simp only[M2,mr,Int.mul_assoc]
def Rd (P:Q4):Prop:=(0<=P.1/\P.1<fp)/\(0<=P.2.1/\P.2.1<fp)/\(0<=P.2.2.1/\P.2.2.1<fp)/\(0<=P.2.2.2/\P.2.2.2<fp)
theorem PL {P:Q4} (h:Rd P):M2 1 P=P:=by
 obtain⟨x,y,z,t⟩:=P;obtain⟨h1,h2,h3,h4⟩:=h;simp only[M2,Int.one_mul];simp only at h1 h2 h3 h4;rw[Int.emod_eq_of_lt h1.1 h1.2,Int.emod_eq_of_lt h2.1 h2.2,Int.emod_eq_of_lt h3.1 h3.2,Int.emod_eq_of_lt h4.1 h4.2]
theorem PM (a:Int):0<=a%fp/\a%fp<fp:=⟨Int.emod_nonneg _ AK,Int.emod_lt_of_pos _ AK⟩
theorem V3 (P Q:Q4):Rd (F4 P Q):=⟨PM _,PM _,PM _,PM _⟩
def PN:Q4:=(0,1,1,0)
theorem Ut:F4 PN PN=M2 4 PN:=by
 have h:E7 0 1 0 1=1/\E9 0 1 0 1=1/\Ek Dy 0 0=0/\Ey 1 1=2:=by
  refine⟨AK,AK,?_,AK⟩;unfold Ek;rw[Int.mul_zero];decide
 unfold PN;simp only[F4,h.1,h.2.1,h.2.2.1,h.2.2.2];decide
def Gt (V:Int) (i:Nat):Bool:=V/2^i%2 == 1
def pS (V:Int) (P:Q4):Nat->Q4
 |0=>PN
 |n+1=>bif Gt V (255-n) then F4 (F4 (pS V P n) (pS V P n)) P else F4 (pS V P n) (pS V P n)
def mS (V:Int) (P:Q4):Nat->Q4×Bool
 |0=>(PN,false)
 |n+1=>
  let d:=bif (mS V P n).2 then F4 (mS V P n).1 (mS V P n).1 else(mS V P n).1
  bif Gt V (255-n) then(F4 d P,true) else(d,(mS V P n).2)
theorem S9 (V:Int) (P:Q4) (hP:Rd P) (n:Nat):(∃ k:Nat,pS V P n=M2 (2^k) (mS V P n).1)/\((mS V P n).2=false->(mS V P n).1=PN)/\Rd (mS V P n).1:=by
 induction n with
 |zero=>exact⟨⟨0,by show PN=M2 1 PN;decide⟩,λ_=>rfl,by show Rd PN;unfold Rd PN;decide⟩
 |succ n ih=>
  obtain⟨⟨k,hk⟩,hi,hr⟩:=ih;have hd:∃ j:Nat,F4 (pS V P n) (pS V P n)=M2 (2^j) (bif (mS V P n).2 then F4 (mS V P n).1 (mS V P n).1 else(mS V P n).1):=by
   rw[hk,OG];cases hb:(mS V P n).2 with
   |true=>exact⟨k+k+(k+k),by rw[cond_true,Int.pow_add,Int.pow_add]⟩
   |false=>
    rw[hi hb,Ut,Us,cond_false];exact⟨k+k+(k+k)+2,by rw[Int.pow_add,Int.pow_add,Int.pow_add];rfl⟩
  obtain⟨j,hj⟩:=hd;have hrd:Rd (bif (mS V P n).2 then F4 (mS V P n).1 (mS V P n).1 else(mS V P n).1):=by
   cases (mS V P n).2 with
   |true=>exact V3 _ _
   |false=>exact hr
  cases hv:Gt V (255-n) with
  |true=>
   refine⟨⟨j+j,?_⟩,?_,?_⟩
   ·simp only[pS,mS,hv,cond_true];rw[hj];have e:=OG (2^j) 1 (bif (mS V P n).2 then F4 (mS V P n).1 (mS V P n).1 else(mS V P n).1) P;rw[PL hP,Int.mul_one] at e;rw[e,Int.pow_add]
   ·simp only[mS,hv,cond_true];intro h;cases h
   ·simp only[mS,hv,cond_true];exact V3 _ _
  |false=>
   refine⟨⟨j,?_⟩,?_,?_⟩
   ·simp only[pS,mS,hv,cond_false];exact hj
   ·simp only[mS,hv,cond_false];intro h;rw[h];exact hi h
   ·simp only[mS,hv,cond_false];exact hrd
theorem PO (n k:Nat) (X Z:Int) (h:(2:Int)^(n+1)%fp=1):(2^k*X%fp)*((2^k*Z%fp)^n%fp)%fp=X*(Z^n%fp)%fp:=by
 rw[ml,mr,mr,<-mr,N4,mr,Int.mul_pow];have e:(2:Int)^k*X*((2^k)^n*Z^n)=(2^(n+1))^k*(X*Z^n):=by
  have e1:(2:Int)^k*(2^k)^n=(2^(n+1))^k:=by
   rw[<-Int.pow_mul,<-Int.pow_add,<-Int.pow_mul];congr 1;grind
  rw[<-e1];grind
 rw[e,<-ml,<-N4,h,Int.one_pow,show(1:Int)%fp=1 from by decide,Int.one_mul]
theorem Uu (k:Nat) (X Y Z:Int):OA (2^k*X%fp) (2^k*Y%fp) (2^k*Z%fp)=OA X Y Z:=by
 have h:(2:Int)^(Ft-2+1)%fp=1:=by
  have:=JK 2 AK AK
  rwa [show Ft-2+1=Ft-1 from by decide +kernel]
 unfold OA;rw[Id,Id,PO _ k X Z h,PO _ k Y Z h]
end Go.Proofs.YtjdhhgaelgemcaaGreatDoor
namespace Go.Proofs.YtjdhhgaelgemcaaGreatDoor
open Go.ChangeShapes Go.WideShapes Go.ChangeAt Go.RowKit
set_option linter.unusedVariables false
def EM (zs:List Int):Q4:=(mX zs Dy,mY zs,1%fp,mX zs Dy*mY zs%fp)
theorem JN {zs:List Int} (h:mB zs Dy=true):zs.length=32/\mY zs<fp:=by
 unfold mB at h;simp only[Bool.and_eq_true] at h;exact⟨by simpa using h.1.1.1,by simpa using h.1.1.2⟩
def bB:List Int:=[88,102,102,102,102,102,102,102,102,102,102,102,102,102,102,102,102,102,102,102,102,102,102,102,102,102,102,102,102,102,102,102]
theorem Jv:bB.length=32:=rfl
theorem XB:val 256 bB=GZ:=by decide +kernel
theorem JO:Ci bB:=by unfold Ci bB;decide
theorem TA:mB bB Dy=true:=by decide +kernel
theorem V4 {bs:List Int} (hb:Ci bs) (hl:bs.length=32) (hv:val 256 bs=GZ):bs=bB:=
 F6 (B:=256) AK hb JO (by rw[hl,Jv]) (by rw[hv,XB])
theorem TC (ns:List Int) (hw:G4 ns) (i:Nat):ns.getD (i/64) 0/2^(i%64)%2=val 18446744073709551616 ns/2^i%2:=by
 have hd:=Em (B:=18446744073709551616) AK hw (i/64);rw[<-hd];generalize val 18446744073709551616 ns=V;have e1:(18446744073709551616:Int)^(i/64)=2^(64*(i/64)):=by rw[Int.pow_mul];rfl
 have e2:(2:Int)^i=2^(64*(i/64))*2^(i%64):=by rw[<-Int.pow_add];congr 1;omega
 have hp:(0:Int)<=2^(64*(i/64)):=Int.le_of_lt (Int.pow_pos AK);rw[e1,e2,<-Bj hp];generalize V/2^(64*(i/64))=U;have e3:(18446744073709551616:Int)=2^(i%64)*2^(64-i%64):=by
  rw[<-Int.pow_add,show i%64+(64-i%64)=64 by omega];rfl
 have h1:0<64-i%64:=AJ
 rw[e3];have hq:(0:Int)<2^(i%64):=Int.pow_pos AK;rw[Int.emod_def U,Int.mul_assoc,Int.sub_eq_add_neg,<-Int.mul_neg,Int.add_mul_ediv_left _ _ AJ];obtain⟨m,hm⟩:∃ m,64-i%64=m+1:=⟨63-i%64,AJ⟩
 rw[hm,Int.pow_succ];generalize U/2^(i%64)=A;generalize U/(2^(i%64)*(2^m*2))=B;rw[show -(2^m*2*B)=2*(-(2^m*B)) by grind,Int.add_mul_emod_self_left]
theorem Uv (g:Nat) (ns:List Int) (i:Nat) (w:aC) (hl:ns.length=4) (hi:i<256) (hr:Ch w g 143 ns) (hw:G4 ns) :
  Calls tP 122 #[aF (aE ⟨g,0,aA⟩),Z8 .i64 i] w λe w'=>e=aK (Z8 .u64 (val 18446744073709551616 ns/2^i%2))/\w'=w:=by
 have c3:=hr.cell (i/64) AJ;obtain⟨h0,h1⟩:=hw.get (i/64);have HB:AO (ns.getD (i/64) 0/2^(i%64)%2=val 18446744073709551616 ns/2^i%2):=TC ns hw i;have hp:(0:Int)<2^(i%64):=Int.pow_pos AK;have HA:AO (bits .and .u64 (ns.getD (i/64) 0/2^(i%64)) 1=ns.getD (i/64) 0/2^(i%64)%2):=by
  have q0:0<=ns.getD (i/64) 0/2^(i%64):=Int.ediv_nonneg h0 AJ;have q1:ns.getD (i/64) 0/2^(i%64)<=ns.getD (i/64) 0:=Int.ediv_le_self _ h0;exact DH _ 1 q0 AJ 1 AK AK
 have hlt:(i:Int)/64<4:=AJ
 have hi':(i:Int)<256:=AJ
 clear hr hw hl hp;generalize ns.getD (i/64) 0=x at *;go_enter func122,ntmps122;go_wp2;rw[HA.o,HB.o]
 go_ret
 exact⟨rfl,rfl⟩
theorem Uo.q4 {w:aC} {g:Nat} {X1 Y1 Z1 T1 X2 Y2 Z2 T2:Int} {e:Ending} {w':aC} (h:Uo w g X1 Y1 Z1 T1 X2 Y2 Z2 T2 e w') :
  ∃ x y z t,Pt w' g x y z t/\EN g w w'/\e=aK (.tuple #[])/\((ev x,ev y,ev z,ev t):Q4)=F4 (X1,Y1,Z1,T1) (X2,Y2,Z2,T2):=by
 obtain⟨x,y,z,t,h1,h2,h3,h4,h5,h6,h7⟩:=h;exact⟨x,y,z,t,h1,h2,h3,by rw[h4,h5,h6,h7];rfl⟩
theorem Pt.wrh2 {w w':aC} {g V:Nat} {x y z t:List Int} (h:Pt w g x y z t) (hw:EN V w w') (hne:g≠V):Pt w' g x y z t:=⟨hw.rowW h.row hne,h.x,h.y,h.z,h.t⟩
def XC (w:aC) (g:Nat) (Q:Q4) (e:Ending) (w':aC):Prop:=
 ∃ x y z t,Pt w' g x y z t/\EN g w w'/\e=aK (.tuple #[])/\((ev x,ev y,ev z,ev t):Q4)=Q
structure Yv (w:aC) (g:Nat) (x y z t ns:List Int) (Q:Q4) (wr:aC):Prop where
 below:Below w.heap.size w wr
 num:Ch wr w.heap.size 143 ns
 pt:Pt wr g x y z t
 lt:g<w.heap.size
 sum:∃ a b c d,Pt wr (w.heap.size+1+1) a b c d/\((ev a,ev b,ev c,ev d):Q4)=Q
theorem YR:((ev [0,0,0,0,0],ev [1,0,0,0,0],ev [1,0,0,0,0],ev [0,0,0,0,0]):Q4)=PN:=AK
theorem OH (w:aC) (o1 o2 o3:Obj):(((w.alloc o1).alloc o2).alloc o3).heap[w.heap.size+1+1]?=aE o3:=by
 have:=AX ((w.alloc o1).alloc o2) o3
 rwa [show((w.alloc o1).alloc o2).heap.size=w.heap.size+1+1 by simp] at this
def Zg:List Int:=[0,0,0,0,0,0,0,0,0,0,0,0,0,0,0,0,0,0,0,0]
theorem Le:Cs [1,0,0,0,0]:=Ei
theorem Tryz.sizePoint2:(tP.info? 140).map (·.size)=aE 20:=AM
theorem Lf (S:Nat->Q4) (g:Nat) (x y z t ns:List Int) (w:aC) (hp:Pt w g x y z t) (hl:ns.length=4) (hw:G4 ns) (hS0:AO (S 0=PN))
  (hSs:AO (∀ n,S (n+1)=bif Gt (val 18446744073709551616 ns) (255-n) then F4 (F4 (S n) (S n)) (ev x,ev y,ev z,ev t) else F4 (S n) (S n))) :
  Calls tP 104 #[aF (aE ⟨g,0,aA⟩),aH (ns.map (Value.int .u64)).toArray] w (XC w g (S 256)):=by
 match ns,hl with
 |[n0,n1,n2,n3],_=>
 have HB:AO (Below w.heap.size w (((w.alloc (aJ #[Z8 .u64 n0,Z8 .u64 n1,Z8 .u64 n2,Z8 .u64 n3] 143)).alloc (aJ Cc 138)).alloc (aJ CW 140))):=((Cg.alloc Cl _).alloc AL _).alloc (by simp;omega) _;have HNR:AO (Ch (((w.alloc (aJ #[Z8 .u64 n0,Z8 .u64 n1,Z8 .u64 n2,Z8 .u64 n3] 143)).alloc (aJ Cc 138)).alloc (aJ CW 140)) w.heap.size 143 [n0,n1,n2,n3]):=by
  show _=_
  rw[A5 _ _ w.heap.size (by simp;omega),A5 _ _ w.heap.size AL];exact AX w _
 have HZR:AO (Ch (((w.alloc (aJ #[Z8 .u64 n0,Z8 .u64 n1,Z8 .u64 n2,Z8 .u64 n3] 143)).alloc (aJ Cc 138)).alloc (aJ CW 140)) (w.heap.size+1+1) 140 Zg):=OH w _ _ _;have HER:AO (Dj ((w.alloc (aJ #[Z8 .u64 n0,Z8 .u64 n1,Z8 .u64 n2,Z8 .u64 n3] 143)).alloc (aJ Cc 138)) (w.heap.size+1) 0 [1,0,0,0,0]):=by
  have r:Ch ((w.alloc (aJ #[Z8 .u64 n0,Z8 .u64 n1,Z8 .u64 n2,Z8 .u64 n3] 143)).alloc (aJ Cc 138)) (w.heap.size+1) 138 [1,0,0,0,0]:=by
   have:=AX (w.alloc (aJ #[Z8 .u64 n0,Z8 .u64 n1,Z8 .u64 n2,Z8 .u64 n3] 143)) (aJ Cc 138)
   rwa [show(w.alloc (aJ #[Z8 .u64 n0,Z8 .u64 n1,Z8 .u64 n2,Z8 .u64 n3] 143)).heap.size=w.heap.size+1 by simp] at this
  exact Dj.of_row r Le
 have HPT:AO (Pt w g x y z t):=hp;have HWD:AO (G4 [n0,n1,n2,n3]):=hw;clear hp hw;simp only[List.map_cons,List.map_nil];go_enter func104,ntmps104;go_wp2_with (first
  |(refine DT rfl (aM 4) rfl (w.heap.size+1) 0 [1,0,0,0,0] rfl HER.o ?_)
  |(refine Fp rfl (aM 5) (aM 10) rfl (w.heap.size+1+1) [0,0,0,0,0] [1,0,0,0,0] [1,0,0,0,0] [0,0,0,0,0] Zg rfl rfl FN Le Le FN rfl HZR.o ?_)
  |fail)
 intro w0 hp0 hw0;have HS:AO (Yv w g x y z t [n0,n1,n2,n3] (S 0) w0):=by
  have b0:Below w.heap.size w w0:=HB.o.trans (hw0.below AJ);exact⟨b0,hw0.rowW HNR.o AJ,HPT.o.below b0 HPT.o.row.lt,HPT.o.row.lt,[0,0,0,0,0],[1,0,0,0,0],[1,0,0,0,0],[0,0,0,0,0],hp0,by rw[hS0.o];exact YR⟩
 clear hp0 hw0 HB HNR HZR HER;go_wp2_with fail
 go_loopw [6] (λi wr=>∃ j:Nat,j<=256/\i=Z8 .i64 ((j:Int)-1)/\Yv w g x y z t [n0,n1,n2,n3] (S (256-j)) wr) (λi _=>(intOf i+1).toNat)
 case atStart=>exact⟨256,Ac _,by go_num,by rw[Nat.sub_self];exact HS.o⟩
 case round=>
  clear HS;obtain⟨j,hj,rfl,hst⟩:=hrel;by_cases hj0:0<j
  ·obtain⟨i,rfl⟩:∃ i,j=i+1:=⟨j-1,AJ⟩
   have ei:((i+1:Nat):Int)-1=(i:Int):=AJ
   rw[ei];clear ei;obtain⟨hbel,hnum,hpt,hlt,a,b,c,d,hsum,hq⟩:=hst;have HST:AO (Below w.heap.size w wr/\Ch wr w.heap.size 143 [n0,n1,n2,n3]/\Pt wr g x y z t/\g<w.heap.size/\Pt wr (w.heap.size+1+1) a b c d/\((ev a,ev b,ev c,ev d):Q4)=S (256-(i+1))):=⟨hbel,hnum,hpt,hlt,hsum,hq⟩
   clear hbel hnum hpt hlt hsum hq;go_wp2_with fail;refine(LZ (w.heap.size+1+1) (w.heap.size+1+1) a b c d a b c d _ HST.o.2.2.2.2.1 HST.o.2.2.2.2.1).mono ?_;intro e w2 h2;obtain⟨a2,b2,c2,d2,p2,hw2,rfl,q2⟩:=h2.q4;obtain⟨s1,s2,s3,s4,s5,s6⟩:=HST.o;have HST2:AO (Below w.heap.size w w2/\Ch w2 w.heap.size 143 [n0,n1,n2,n3]/\Pt w2 g x y z t/\g<w.heap.size/\Pt w2 (w.heap.size+1+1) a2 b2 c2 d2/\((ev a2,ev b2,ev c2,ev d2):Q4)=F4 (S (256-(i+1))) (S (256-(i+1)))):=
    ⟨s1.trans (hw2.below w.heap.size AJ s1.size),hw2.rowW s2 AJ,s3.wrh2 hw2 AJ,s4,p2,by rw[q2,s6]⟩
   clear h2 p2 hw2 q2 s1 s2 s3 s4 s5 s6 HST;go_wp2_with fail;refine(Uv w.heap.size [n0,n1,n2,n3] i _ rfl AJ HST2.o.2.1 HWD.o).mono ?_;rintro e w3 ⟨rfl,rfl⟩;have hv:val 18446744073709551616 [n0,n1,n2,n3]/2^i%2=0\/val 18446744073709551616 [n0,n1,n2,n3]/2^i%2=1:=AJ
   have en:256-i=256-(i+1)+1:=AJ
   have en2:255-(256-(i+1))=i:=AJ
   rcases hv with hv|hv
   ·have hvb:Gt (val 18446744073709551616 [n0,n1,n2,n3]) i=false:=by unfold Gt;rw[hv];rfl
    have HN:AO (Yv w g x y z t [n0,n1,n2,n3] (S (256-i)) w3):=by
     obtain⟨s1,s2,s3,s4,s5,s6⟩:=HST2.o;refine⟨s1,s2,s3,s4,a2,b2,c2,d2,s5,?_⟩;rw[s6,en,hSs.o,en2,hvb];rfl
    rw[hv];clear hv HST2 en en2 hvb;go_wp2;go_roundw
    case rel=>exact⟨i,AJ,by go_num,HN.o⟩
    case measure=>simp[intOf]
   ·have hvb:Gt (val 18446744073709551616 [n0,n1,n2,n3]) i=true:=by unfold Gt;rw[hv];rfl
    rw[hv];clear hv;go_wp2_with fail;refine(LZ (w.heap.size+1+1) g a2 b2 c2 d2 x y z t _ HST2.o.2.2.2.2.1 HST2.o.2.2.1).mono ?_;intro e w4 h4;obtain⟨a4,b4,c4,d4,p4,hw4,rfl,q4⟩:=h4.q4;have HN:AO (Yv w g x y z t [n0,n1,n2,n3] (S (256-i)) w4):=by
     obtain⟨s1,s2,s3,s4,s5,s6⟩:=HST2.o;refine⟨s1.trans (hw4.below w.heap.size AJ s1.size),hw4.rowW s2 AJ,s3.wrh2 hw4 AJ,s4,a4,b4,c4,d4,p4,?_⟩;rw[q4,s6,en,hSs.o,en2,hvb];rfl
    clear HST2 en en2 hvb h4 p4 hw4 q4;go_wp2;go_roundw
    case rel=>exact⟨i,AJ,by go_num,HN.o⟩
    case measure=>simp[intOf]
  ·have hj00:j=0:=AJ
   subst hj00;obtain⟨hbel,hnum,hpt,hlt,a,b,c,d,hsum,hq⟩:=hst;rw[Nat.sub_zero] at hq;have HL:AO (wr.heap[w.heap.size+1+1]?=aE (aJ ((pl a b c d).map (Value.int .u64)).toArray 140 (0,0))):=hsum.row;have HPX:AO ((pl x y z t).length=20):=by show _=_;unfold pl;simp[HPT.o.x.1,HPT.o.y.1,HPT.o.z.1,HPT.o.t.1]
   have HSZ:AO ((tP.info? 140).map (·.size)=aE ((pl a b c d).map (Value.int .u64)).toArray.size):=by
    show _=_
    rw[Tryz.sizePoint2];unfold pl;simp[hsum.x.1,hsum.y.1,hsum.z.1,hsum.t.1]
   have HOK:AO (Cs a/\Cs b/\Cs c/\Cs d):=⟨hsum.x,hsum.y,hsum.z,hsum.t⟩
   have HPR:AO (Ch wr g 140 (pl x y z t)):=hpt.row;have HFF:AO (Below w.heap.size w wr/\((ev a,ev b,ev c,ev d):Q4)=S 256):=⟨hbel,hq⟩
   clear hbel hnum hpt hsum hq;go_wp2_with (first
    |(refine Ae rfl 140 (aM 5) rfl (w.heap.size+1+1) rfl 140 _ (0,0) _ HL.o underlying140 rfl HSZ.o ?_)
    |(refine Fp rfl (aM 23) (aM 22) rfl g a b c d _ rfl rfl HOK.o.1 HOK.o.2.1 HOK.o.2.2.1 HOK.o.2.2.2 HPX.o HPR.o ?_)
    |fail)
   intro w5 hp5 hw5;have HF:AO (XC w g (S 256) (aK (.tuple #[])) w5):=
    ⟨a,b,c,d,hp5,(EN.of_below HFF.o.1).trans hw5.wrH,rfl,HFF.o.2⟩
   clear hp5 hw5 HFF HPR HOK HSZ HPX HL;go_wp2
   go_end0
   exact HF.o
theorem Ie (g:Nat) (x y z t ns:List Int) (w:aC) (hp:Pt w g x y z t) (hl:ns.length=4) (hw:G4 ns) :
  Calls tP 104 #[aF (aE ⟨g,0,aA⟩),aH (ns.map (Value.int .u64)).toArray] w (XC w g (pS (val 18446744073709551616 ns) (ev x,ev y,ev z,ev t) 256)):=
 Lf (pS (val 18446744073709551616 ns) (ev x,ev y,ev z,ev t)) g x y z t ns w hp hl hw rfl (λ_=>rfl)
theorem M3 (ks:List Int) (hw:Ci ks) (i:Nat):ks.getD (i/8) 0/2^(i%8)%2=val 256 ks/2^i%2:=by
 have hd:=Em (B:=256) AK (λz hz=>hw z hz) (i/8);rw[<-hd];generalize val 256 ks=V;have e1:(256:Int)^(i/8)=2^(8*(i/8)):=by rw[Int.pow_mul];rfl
 have e2:(2:Int)^i=2^(8*(i/8))*2^(i%8):=by rw[<-Int.pow_add];congr 1;omega
 have hp:(0:Int)<=2^(8*(i/8)):=Int.le_of_lt (Int.pow_pos AK);rw[e1,e2,<-Bj hp];generalize V/2^(8*(i/8))=U;have e3:(256:Int)=2^(i%8)*2^(8-i%8):=by
  rw[<-Int.pow_add,show i%8+(8-i%8)=8 by omega];rfl
 have h1:0<8-i%8:=AJ
 rw[e3];have hq:(0:Int)<2^(i%8):=Int.pow_pos AK;rw[Int.emod_def U,Int.mul_assoc,Int.sub_eq_add_neg,<-Int.mul_neg,Int.add_mul_ediv_left _ _ AJ];obtain⟨m,hm⟩:∃ m,8-i%8=m+1:=⟨7-i%8,AJ⟩
 rw[hm,Int.pow_succ];generalize U/2^(i%8)=A;generalize U/(2^(i%8)*(2^m*2))=B;rw[show -(2^m*2*B)=2*(-(2^m*B)) by grind,Int.add_mul_emod_self_left]
theorem Cu.lt {w:aC} {g:Nat} {x:Int} (h:Cu w (aE ⟨g,0,aA⟩) x):g<w.heap.size:=by
 obtain⟨zs,h1,h2,h3⟩:=h;obtain⟨b,o,e,hb,hc⟩:=h1.get (AG h2.1);cases e;exact hb
def Hp (B:Nat) (wr:aC) (G:Nat) (Q:Q4):Prop:=
 ∃ h0 k0 h1 k1 h2 k2 h3 k3,DF wr G #[Z7 (aE ⟨h0,0,aA⟩) 16 k0,Z7 (aE ⟨h1,0,aA⟩) 16 k1,Z7 (aE ⟨h2,0,aA⟩) 16 k2,Z7 (aE ⟨h3,0,aA⟩) 16 k3]/\Cu wr (aE ⟨h0,0,aA⟩) Q.1/\Cu wr (aE ⟨h1,0,aA⟩) Q.2.1/\Cu wr (aE ⟨h2,0,aA⟩) Q.2.2.1/\Cu wr (aE ⟨h3,0,aA⟩) Q.2.2.2/\(h0≠G/\h1≠G/\h2≠G/\h3≠G)/\(B<h0/\B<h1/\B<h2/\B<h3)
structure M4 (w:aC) (pc:Array Value) (G:Nat) (wr:aC):Prop where
 below:Below w.heap.size w wr
 pb:DF wr w.heap.size pc
 rs:DF wr (w.heap.size+1) CT
 gt:w.heap.size+1<G
theorem M4.call {w wr w':aC} {pc:Array Value} {G:Nat} (h:M4 w pc G wr) (b:Below wr.heap.size wr w'):M4 w pc G w':=
 ⟨h.below.trans (b.mono h.below.size),h.pb.below b h.pb.lt,h.rs.below b h.rs.lt,h.gt⟩
theorem DF.wr2 {w w':aC} {g V:Nat} {cs:Array Value} (h:DF w g cs) (hw:Wr V w w') (hne:g≠V):DF w' g cs:=by unfold DF;rw[hw.block g hne];exact h
theorem M4.wr {w wr w':aC} {pc:Array Value} {G:Nat} (h:M4 w pc G wr) (hw:Wr G wr w'):M4 w pc G w':=
 ⟨h.below.trans (hw.below (AG h.gt)),h.pb.wr2 hw (AG h.gt),h.rs.wr2 hw (AG h.gt),h.gt⟩
def XD (w:aC) (Q:Q4) (e:Ending) (w':aC):Prop:=
 ∃ h0 k0 h1 k1 h2 k2 h3 k3,e=aK (aH #[Z7 (aE ⟨h0,0,aA⟩) 16 k0,Z7 (aE ⟨h1,0,aA⟩) 16 k1,Z7 (aE ⟨h2,0,aA⟩) 16 k2,Z7 (aE ⟨h3,0,aA⟩) 16 k3])/\Cu w' (aE ⟨h0,0,aA⟩) Q.1/\Cu w' (aE ⟨h1,0,aA⟩) Q.2.1/\Cu w' (aE ⟨h2,0,aA⟩) Q.2.2.1/\Cu w' (aE ⟨h3,0,aA⟩) Q.2.2.2/\Below w.heap.size w w'
theorem Hp.put {B:Nat} {wr w5 w6:aC} {G:Nat} {P Q:Q4} {v:Value} (hG:G<wr.heap.size) (hB:B<G)
  (h:YN wr (E7 P.1 P.2.1 Q.1 Q.2.1) (E9 P.1 P.2.1 Q.1 Q.2.1) (Ek Dy P.2.2.2 Q.2.2.2) (Ey P.2.2.1 Q.2.2.1) (aK v) w5) :
  ∃ s0 s1 s2 s3,v=aH #[s0,s1,s2,s3]/\(s0.oneCell'=true/\s1.oneCell'=true/\s2.oneCell'=true/\s3.oneCell'=true)/\(DF w6 G #[s0,s1,s2,s3]->Wr G w5 w6->Hp B w6 G (F4 P Q)):=by
 obtain⟨g1,k1,g2,k2,g3,k3,g4,k4,e,f1,f2,f3,f4,b,q1,q2,q3,q4⟩:=h;cases e;refine⟨_,_,_,_,rfl,⟨rfl,rfl,rfl,rfl⟩,λhp hw=>⟨g1,k1,g2,k2,g3,k3,g4,k4,hp,f1.wr hw AJ,f2.wr hw AJ,f3.wr hw AJ,f4.wr hw AJ,⟨AJ,AJ,AJ,AJ⟩,AJ,AJ,AJ,AJ⟩⟩
theorem OI (M:Nat->Q4×Bool) (kp:Option Addr) (kc:Nat) (ks:List Int) (p0 p1 p2 p3 gd c0 c1 c2 c3 cd:Nat) (P:Q4) (w:aC) (hk:ks.length=32) (hb:Ci ks) (ha:At .u8 w kp ks)
  (h0:Cu w (aE ⟨p0,0,aA⟩) P.1) (h1:Cu w (aE ⟨p1,0,aA⟩) P.2.1) (h2:Cu w (aE ⟨p2,0,aA⟩) P.2.2.1) (h3:Cu w (aE ⟨p3,0,aA⟩) P.2.2.2) (hd:Cu w (aE ⟨gd,0,aA⟩) Dy) (hM0:AO (M 0=(PN,false)))
  (hMs:AO (∀ n Q b,M n=(Q,b)->M (n+1)=bif Gt (val 256 ks) (255-n) then(F4 (bif b then F4 Q Q else Q) P,true) else(bif b then F4 Q Q else Q,b))) :
  Calls tP 77 #[Z7 kp 32 kc,aH #[Z7 (aE ⟨p0,0,aA⟩) 16 c0,Z7 (aE ⟨p1,0,aA⟩) 16 c1,Z7 (aE ⟨p2,0,aA⟩) 16 c2,Z7 (aE ⟨p3,0,aA⟩) 16 c3],Z7 (aE ⟨gd,0,aA⟩) 16 cd] w (XD w (M 256).1):=by
 have bb:Below w.heap.size w ((w.alloc (aJ #[Z7 (aE ⟨p0,0,aA⟩) 16 c0,Z7 (aE ⟨p1,0,aA⟩) 16 c1,Z7 (aE ⟨p2,0,aA⟩) 16 c2,Z7 (aE ⟨p3,0,aA⟩) 16 c3] 109)).alloc (aJ CT 109)):=(Cg.alloc Cl _).alloc AL _;have HP0:AO (DF ((w.alloc (aJ #[Z7 (aE ⟨p0,0,aA⟩) 16 c0,Z7 (aE ⟨p1,0,aA⟩) 16 c1,Z7 (aE ⟨p2,0,aA⟩) 16 c2,Z7 (aE ⟨p3,0,aA⟩) 16 c3] 109)).alloc (aJ CT 109)) w.heap.size #[Z7 (aE ⟨p0,0,aA⟩) 16 c0,Z7 (aE ⟨p1,0,aA⟩) 16 c1,Z7 (aE ⟨p2,0,aA⟩) 16 c2,Z7 (aE ⟨p3,0,aA⟩) 16 c3]):=by
  show _=_
  rw[A5 _ _ w.heap.size AL];exact AX w _
 have HZ0:AO (DF ((w.alloc (aJ #[Z7 (aE ⟨p0,0,aA⟩) 16 c0,Z7 (aE ⟨p1,0,aA⟩) 16 c1,Z7 (aE ⟨p2,0,aA⟩) 16 c2,Z7 (aE ⟨p3,0,aA⟩) 16 c3] 109)).alloc (aJ CT 109)) (w.heap.size+1) CT):=by
  show _=_
  have:=AX (w.alloc (aJ #[Z7 (aE ⟨p0,0,aA⟩) 16 c0,Z7 (aE ⟨p1,0,aA⟩) 16 c1,Z7 (aE ⟨p2,0,aA⟩) 16 c2,Z7 (aE ⟨p3,0,aA⟩) 16 c3] 109)) (aJ CT 109);simpa using this
 have HB0:AO (Below w.heap.size w ((w.alloc (aJ #[Z7 (aE ⟨p0,0,aA⟩) 16 c0,Z7 (aE ⟨p1,0,aA⟩) 16 c1,Z7 (aE ⟨p2,0,aA⟩) 16 c2,Z7 (aE ⟨p3,0,aA⟩) 16 c3] 109)).alloc (aJ CT 109))):=bb;have HF0:AO (Cu w (aE ⟨p0,0,aA⟩) P.1):=h0;have HF1:AO (Cu w (aE ⟨p1,0,aA⟩) P.2.1):=h1;have HF2:AO (Cu w (aE ⟨p2,0,aA⟩) P.2.2.1):=h2;have HF3:AO (Cu w (aE ⟨p3,0,aA⟩) P.2.2.2):=h3;have HFD:AO (Cu w (aE ⟨gd,0,aA⟩) Dy):=hd;obtain⟨kb,ko,rfl,hkb,hkc⟩:=ha.get AJ;have HKB:AO (kb<w.heap.size):=hkb;have HKC:AO (∀ q,q<32->w.cell? ⟨kb,ko+q,aA⟩=aE (Z8 .u8 (ks.getD q 0))):=λq hq=>hkc q AJ
 have HBY:AO (Ci ks):=hb;have HKL:AO (ks.length=32):=hk;clear bb h0 h1 h2 h3 hd ha hb hk hkb hkc;go_enter func77,ntmps77;go_wp2_with fail;generalize ((w.alloc (aJ #[Z7 (aE ⟨p0,0,aA⟩) 16 c0,Z7 (aE ⟨p1,0,aA⟩) 16 c1,Z7 (aE ⟨p2,0,aA⟩) 16 c2,Z7 (aE ⟨p3,0,aA⟩) 16 c3] 109)).alloc (aJ CT 109))=w0 at *;refine(DK 0 _ AK AK).mono ?_;rintro e w1 ⟨g1,k1,rfl,hr1,_,hf,hb⟩;have hg1:w.heap.size+1<g1:=AG HZ0.o.lt
 have HX:AO (Cu w1 (aE ⟨g1,0,aA⟩) (0%fp)):=hf;have b1:Below w.heap.size w w1:=HB0.o.trans (hb.mono HB0.o.size);have HP1:AO (DF w1 w.heap.size #[Z7 (aE ⟨p0,0,aA⟩) 16 c0,Z7 (aE ⟨p1,0,aA⟩) 16 c1,Z7 (aE ⟨p2,0,aA⟩) 16 c2,Z7 (aE ⟨p3,0,aA⟩) 16 c3]):=HP0.o.below hb HP0.o.lt;have HZ1:AO (DF w1 (w.heap.size+1) CT):=HZ0.o.below hb HZ0.o.lt;have HB1:AO (Below w.heap.size w w1):=b1;clear hf hb HB0 HP0 HZ0 b1;go_wp2_with fail;refine(DK 1 _ AK AK).mono ?_;rintro e w2 ⟨g2,k2,rfl,hr2,_,hf,hb⟩;have hg2:w.heap.size+1<g2:=AG HZ1.o.lt
 have HX2:AO (Cu w2 (aE ⟨g1,0,aA⟩) (0%fp)):=HX.o.below hb;have HY2:AO (Cu w2 (aE ⟨g2,0,aA⟩) (1%fp)):=hf;have HP2:AO (DF w2 w.heap.size #[Z7 (aE ⟨p0,0,aA⟩) 16 c0,Z7 (aE ⟨p1,0,aA⟩) 16 c1,Z7 (aE ⟨p2,0,aA⟩) 16 c2,Z7 (aE ⟨p3,0,aA⟩) 16 c3]):=HP1.o.below hb HP1.o.lt;have HZ2:AO (DF w2 (w.heap.size+1) CT):=HZ1.o.below hb HZ1.o.lt;have HB2:AO (Below w.heap.size w w2):=HB1.o.trans (hb.mono HB1.o.size);clear hf hb HB1 HP1 HZ1 HX;go_wp2_with fail;refine(Fe (aE ⟨g1,0,aA⟩) (aE ⟨g2,0,aA⟩) k1 k2 _ _ _ HX2.o HY2.o).mono ?_;rintro e w3 ⟨gz,cz,gt,ct,rfl,f3,f4,hb,hr3,hr4⟩;have hgz:w.heap.size+1<gz:=AG HZ2.o.lt
 have hgt:w.heap.size+1<gt:=AG HZ2.o.lt
 have HX3:AO (Cu w3 (aE ⟨g1,0,aA⟩) (0%fp)/\Cu w3 (aE ⟨g2,0,aA⟩) (1%fp)/\Cu w3 (aE ⟨gz,0,aA⟩) (1%fp)/\Cu w3 (aE ⟨gt,0,aA⟩) (0%fp*(1%fp)%fp)):=⟨HX2.o.below hb,HY2.o.below hb,f3,f4⟩
 have HP3:AO (DF w3 w.heap.size #[Z7 (aE ⟨p0,0,aA⟩) 16 c0,Z7 (aE ⟨p1,0,aA⟩) 16 c1,Z7 (aE ⟨p2,0,aA⟩) 16 c2,Z7 (aE ⟨p3,0,aA⟩) 16 c3]):=HP2.o.below hb HP2.o.lt;have HZ3:AO (DF w3 (w.heap.size+1) CT):=HZ2.o.below hb HZ2.o.lt;have HB3:AO (Below w.heap.size w w3):=HB2.o.trans (hb.mono HB2.o.size);have HPN:AO (DF (w3.alloc (aJ CT 109)) w3.heap.size CT):=DF.new w3;clear f3 f4 hb HB2 HP2 HZ2 HX2 HY2;go_wp2_with (first
  |(refine Cm rfl (aM 7) (aM 12) rfl w3.heap.size _ _ _ _ _ rfl rfl rfl rfl rfl rfl rfl HPN.o ?_)
  |fail)
 intro w4 hp4 hw4;have b34:Below w3.heap.size w3 w4:=(Ck _ _).trans (hw4.below Cl);have HE:AO (M4 w #[Z7 (aE ⟨p0,0,aA⟩) 16 c0,Z7 (aE ⟨p1,0,aA⟩) 16 c1,Z7 (aE ⟨p2,0,aA⟩) 16 c2,Z7 (aE ⟨p3,0,aA⟩) 16 c3] w3.heap.size w4):=⟨HB3.o.trans (b34.mono HB3.o.size),HP3.o.below b34 HP3.o.lt,HZ3.o.below b34 HZ3.o.lt,HZ3.o.lt⟩
 have HO:AO (Hp (w.heap.size+1) w4 w3.heap.size (M 0).1):=by
  show Hp _ _ _ _
  rw[hM0.o];obtain⟨q1,q2,q3,q4⟩:=HX3.o;refine⟨g1,k1,g2,k2,gz,cz,gt,ct,hp4,?_,?_,?_,?_,⟨?_,?_,?_,?_⟩,hg1,hg2,hgz,hgt⟩
  ·exact q1.below b34
  ·exact q2.below b34
  ·exact q3.below b34
  ·exact q4.below b34
  ·have:=q1.lt;omega
  ·have:=q2.lt;omega
  ·have:=q3.lt;omega
  ·have:=q4.lt;omega
 clear hp4 hw4 b34 HPN HX3 HP3 HZ3 HB3;generalize w3.heap.size=G at *;go_wp2_with fail
 go_loopw [8,9] (λb i wr=>∃ j:Nat,j<=256/\i=Z8 .i64 ((j:Int)-1)/\b=.bool (M (256-j)).2/\M4 w #[Z7 (aE ⟨p0,0,aA⟩) 16 c0,Z7 (aE ⟨p1,0,aA⟩) 16 c1,Z7 (aE ⟨p2,0,aA⟩) 16 c2,Z7 (aE ⟨p3,0,aA⟩) 16 c3] G wr/\Hp (w.heap.size+1) wr G (M (256-j)).1) (λ_ i _=>(intOf i+1).toNat)
 case atStart=>exact⟨256,Ac _,by go_num,by rw[Nat.sub_self,hM0.o],HE.o,by rw[Nat.sub_self];exact HO.o⟩
 case round=>
  clear HE HO;obtain⟨j,hj,rfl,rfl,hE,hO⟩:=hrel;by_cases hj0:0<j
  ·obtain⟨i,rfl⟩:∃ i,j=i+1:=⟨j-1,AJ⟩
   have ei:((i+1:Nat):Int)-1=(i:Int):=AJ
   rw[ei];clear ei;have en:256-i=256-(i+1)+1:=AJ
   have en2:255-(256-(i+1))=i:=AJ
   have hi8:i<256:=AJ
   generalize hM:M (256-(i+1))=mq at *;obtain⟨Q,bg⟩:=mq;simp only at hO |-;cases bg with
   |false=>
    have hge:¬ ((i:Int)<0):=AJ
    have cK:wr.cell? ⟨kb,ko+i/8,aA⟩=aE (Z8 .u8 (ks.getD (i/8) 0)):=by rw[hE.below.cell (p:=⟨kb,ko+i/8,aA⟩) HKB.o];exact HKC.o (i/8) AJ
    have hx:=HBY.o.get (i/8);have HBIT:AO (ks.getD (i/8) 0/2^(i%8)%2=(val 256 ks)/2^i%2):=M3 ks HBY.o i;have hlt:(i:Int)/8<32:=AJ
    have HE:AO (M4 w #[Z7 (aE ⟨p0,0,aA⟩) 16 c0,Z7 (aE ⟨p1,0,aA⟩) 16 c1,Z7 (aE ⟨p2,0,aA⟩) 16 c2,Z7 (aE ⟨p3,0,aA⟩) 16 c3] G wr):=hE;have HO:AO (Hp (w.heap.size+1) wr G (Q)):=hO;clear hE hO;generalize ks.getD (i/8) 0=x at *;obtain⟨hx0,hx1⟩:=hx;have hv:(val 256 ks)/2^i%2=0\/(val 256 ks)/2^i%2=1:=AJ
    have hpp:(0:Int)<2^(i%8):=Int.pow_pos AK;have hy0:0<=x/2^(i%8):=Int.ediv_nonneg hx0 AJ;have hy1:x/2^(i%8)<=x:=Int.ediv_le_self _ hx0;rcases hv with hv|hv
    ·have hvb:Gt (val 256 ks) i=false:=by unfold Gt;rw[hv];rfl
     have hb0:x/2^(i%8)%2=0:=by rw[HBIT.o,hv]
     have HN:AO ((M (256-i))=(Q,false)):=by
      show _=_
      rw[en,hMs.o _ _ _ hM,en2,hvb];rfl
     clear hv HBIT hvb;have ht:(x/2^(i%8)).tmod 2=0:=by rw[Am hy0,hb0]
     clear hb0;go_wp2;go_roundw
     case rel=>exact⟨i,AJ,by go_num,by rw[HN.o],HE.o,by rw[HN.o];exact HO.o⟩
     case measure=>simp[intOf]
    ·have hvb:Gt (val 256 ks) i=true:=by unfold Gt;rw[hv];rfl
     have hb0:x/2^(i%8)%2=1:=by rw[HBIT.o,hv]
     have HN:AO ((M (256-i))=(F4 (Q) P,true)):=by
      show _=_
      rw[en,hMs.o _ _ _ hM,en2,hvb];rfl
     clear hv HBIT hvb;have ht:(x/2^(i%8)).tmod 2=1:=by rw[Am hy0,hb0]
     clear hb0;obtain⟨h0,k0,h1,k1,h2,k2,h3,k3,hp,hf0,hf1,hf2,hf3,hne⟩:=HO.o;have hE:=HE.o;have CS := JL (aE ⟨h0,0,aA⟩) (aE ⟨h1,0,aA⟩) (aE ⟨h2,0,aA⟩) (aE ⟨h3,0,aA⟩) (aE ⟨p0,0,aA⟩) (aE ⟨p1,0,aA⟩) (aE ⟨p2,0,aA⟩) (aE ⟨p3,0,aA⟩) (aE ⟨gd,0,aA⟩) k0 k1 k2 k3 c0 c1 c2 c3 cd _ _ _ _ _ _ _ _ Dy wr (λe he=>by
                                                                                                  simp only[List.mem_cons,List.not_mem_nil,or_false] at he
                                                                                                  rcases he with rfl|rfl|rfl|rfl|rfl|rfl|rfl|rfl|rfl
                                                                                                  · exact hf0
                                                                                                  · exact hf1
                                                                                                  · exact hf2
                                                                                                  · exact hf3
                                                                                                  · exact(HF0.o.below hE.below)
                                                                                                  · exact(HF1.o.below hE.below)
                                                                                                  · exact(HF2.o.below hE.below)
                                                                                                  · exact(HF3.o.below hE.below)
                                                                                                  · exact(HFD.o.below hE.below))
     have HPO:AO (DF wr G #[Z7 (aE ⟨h0,0,aA⟩) 16 k0,Z7 (aE ⟨h1,0,aA⟩) 16 k1,Z7 (aE ⟨h2,0,aA⟩) 16 k2,Z7 (aE ⟨h3,0,aA⟩) 16 k3]):=hp;have HPB:AO (DF wr w.heap.size #[Z7 (aE ⟨p0,0,aA⟩) 16 c0,Z7 (aE ⟨p1,0,aA⟩) 16 c1,Z7 (aE ⟨p2,0,aA⟩) 16 c2,Z7 (aE ⟨p3,0,aA⟩) 16 c3]):=hE.pb;clear hp hf0 hf1 hf2 hf3 hne hE HO;go_wp2_with (first
      |(refine Ae rfl 109 (aM 7) rfl G rfl 109 _ (0,0) _ HPO.o underlying109 rfl Tryz.sizePt ?_)
      |(refine Ae rfl 109 (aM 4) rfl w.heap.size rfl 109 _ (0,0) _ HPB.o underlying109 rfl Tryz.sizePt ?_)
      |fail)
     refine CS.mono ?_;intro e w8 h8;have h8b:Below wr.heap.size wr w8:=by obtain⟨_,_,_,_,_,_,_,_,_,_,_,_,_,b,_⟩:=h8;exact b
     have h8e:∃ v,e=aK v:=by obtain⟨_,_,_,_,_,_,_,_,r,_⟩:=h8;exact⟨_,r⟩
     obtain⟨v8,rfl⟩:=h8e;have hput:=λw9=>Hp.put (B:=w.heap.size+1) (w6:=w9) (P:=Q) (Q:=P) HPO.o.lt HE.o.gt h8
     obtain⟨s0,s1,s2,s3,rfl,hone,_⟩:=hput w8;have HPT:AO (∀ w9,DF w9 G #[s0,s1,s2,s3]->Wr G w8 w9->Hp (w.heap.size+1) w9 G (F4 (Q) P)):=λw9 hp hw=>by
      obtain⟨q0,q1,q2,q3,e,_,k⟩:=hput w9;cases e;exact k hp hw
     have HON:AO (s0.oneCell'=true/\s1.oneCell'=true/\s2.oneCell'=true/\s3.oneCell'=true):=hone;have HP8:AO (DF w8 G #[Z7 (aE ⟨h0,0,aA⟩) 16 k0,Z7 (aE ⟨h1,0,aA⟩) 16 k1,Z7 (aE ⟨h2,0,aA⟩) 16 k2,Z7 (aE ⟨h3,0,aA⟩) 16 k3]):=HPO.o.below h8b HPO.o.lt;have HE8:AO (M4 w #[Z7 (aE ⟨p0,0,aA⟩) 16 c0,Z7 (aE ⟨p1,0,aA⟩) 16 c1,Z7 (aE ⟨p2,0,aA⟩) 16 c2,Z7 (aE ⟨p3,0,aA⟩) 16 c3] G w8):=HE.o.call h8b;clear h8 h8b hput hone CS HE HPO HPB;go_wp2_with (first
      |(refine Cm rfl (aM 7) (aM 40) rfl G s0 s1 s2 s3 _ HON.o.1 HON.o.2.1 HON.o.2.2.1 HON.o.2.2.2 rfl rfl rfl HP8.o ?_)
      |fail)
     intro w9 hp9 hw9;have HO9:AO (Hp (w.heap.size+1) w9 G (F4 (Q) P)):=HPT.o w9 hp9 hw9;have HE9:AO (M4 w #[Z7 (aE ⟨p0,0,aA⟩) 16 c0,Z7 (aE ⟨p1,0,aA⟩) 16 c1,Z7 (aE ⟨p2,0,aA⟩) 16 c2,Z7 (aE ⟨p3,0,aA⟩) 16 c3] G w9):=HE8.o.wr hw9;clear hp9 hw9 HPT HON HP8 HE8;go_wp2;go_roundw
     case rel=>exact⟨i,AJ,by go_num,by rw[HN.o],HE9.o,by rw[HN.o];exact HO9.o⟩
     case measure=>simp[intOf]
   |true=>
    obtain⟨h0,k0,h1,k1,h2,k2,h3,k3,hp,hf0,hf1,hf2,hf3,hne⟩:=hO;have CS:=JL (aE ⟨h0,0,aA⟩) (aE ⟨h1,0,aA⟩) (aE ⟨h2,0,aA⟩) (aE ⟨h3,0,aA⟩) (aE ⟨h0,0,aA⟩) (aE ⟨h1,0,aA⟩) (aE ⟨h2,0,aA⟩) (aE ⟨h3,0,aA⟩) (aE ⟨gd,0,aA⟩) k0 k1 k2 k3 k0 k1 k2 k3 cd _ _ _ _ _ _ _ _ Dy wr (λe he=>by
     simp only[List.mem_cons,List.not_mem_nil,or_false] at he;rcases he with rfl|rfl|rfl|rfl|rfl|rfl|rfl|rfl|rfl
     ·exact hf0
     ·exact hf1
     ·exact hf2
     ·exact hf3
     ·exact hf0
     ·exact hf1
     ·exact hf2
     ·exact hf3
     ·exact(HFD.o.below hE.below))
    have HPO:AO (DF wr G #[Z7 (aE ⟨h0,0,aA⟩) 16 k0,Z7 (aE ⟨h1,0,aA⟩) 16 k1,Z7 (aE ⟨h2,0,aA⟩) 16 k2,Z7 (aE ⟨h3,0,aA⟩) 16 k3]):=hp;have HE:AO (M4 w #[Z7 (aE ⟨p0,0,aA⟩) 16 c0,Z7 (aE ⟨p1,0,aA⟩) 16 c1,Z7 (aE ⟨p2,0,aA⟩) 16 c2,Z7 (aE ⟨p3,0,aA⟩) 16 c3] G wr):=hE;clear hp hf0 hf1 hf2 hf3 hne hE;go_wp2_with (first
     |(refine Ae rfl 109 (aM 7) rfl G rfl 109 _ (0,0) _ HPO.o underlying109 rfl Tryz.sizePt ?_)
     |fail)
    refine CS.mono ?_;intro e w5 h5;have h5b:Below wr.heap.size wr w5:=by obtain⟨_,_,_,_,_,_,_,_,_,_,_,_,_,b,_⟩:=h5;exact b
    have h5e:∃ v,e=aK v:=by obtain⟨_,_,_,_,_,_,_,_,r,_⟩:=h5;exact⟨_,r⟩
    obtain⟨v5,rfl⟩:=h5e;have hput:=λw9=>Hp.put (B:=w.heap.size+1) (w6:=w9) (P:=Q) (Q:=Q) HPO.o.lt HE.o.gt h5
    obtain⟨s0,s1,s2,s3,rfl,hone,_⟩:=hput w5;have HPT:AO (∀ w9,DF w9 G #[s0,s1,s2,s3]->Wr G w5 w9->Hp (w.heap.size+1) w9 G (F4 Q Q)):=λw9 hp hw=>by
     obtain⟨q0,q1,q2,q3,e,_,k⟩:=hput w9;cases e;exact k hp hw
    have HON:AO (s0.oneCell'=true/\s1.oneCell'=true/\s2.oneCell'=true/\s3.oneCell'=true):=hone;have HP5:AO (DF w5 G #[Z7 (aE ⟨h0,0,aA⟩) 16 k0,Z7 (aE ⟨h1,0,aA⟩) 16 k1,Z7 (aE ⟨h2,0,aA⟩) 16 k2,Z7 (aE ⟨h3,0,aA⟩) 16 k3]):=HPO.o.below h5b HPO.o.lt;have HE5:AO (M4 w #[Z7 (aE ⟨p0,0,aA⟩) 16 c0,Z7 (aE ⟨p1,0,aA⟩) 16 c1,Z7 (aE ⟨p2,0,aA⟩) 16 c2,Z7 (aE ⟨p3,0,aA⟩) 16 c3] G w5):=HE.o.call h5b;clear h5 h5b hput hone CS HE HPO;go_wp2_with (first
     |(refine Cm rfl (aM 7) (aM 25) rfl G s0 s1 s2 s3 _ HON.o.1 HON.o.2.1 HON.o.2.2.1 HON.o.2.2.2 rfl rfl rfl HP5.o ?_)
     |fail)
    intro w6 hp6 hw6;have hO:Hp (w.heap.size+1) w6 G (F4 Q Q):=HPT.o w6 hp6 hw6;have hE:M4 w #[Z7 (aE ⟨p0,0,aA⟩) 16 c0,Z7 (aE ⟨p1,0,aA⟩) 16 c1,Z7 (aE ⟨p2,0,aA⟩) 16 c2,Z7 (aE ⟨p3,0,aA⟩) 16 c3] G w6:=HE5.o.wr hw6;clear hp6 hw6 HPT HON HP5 HE5;have cK:w6.cell? ⟨kb,ko+i/8,aA⟩=aE (Z8 .u8 (ks.getD (i/8) 0)):=by rw[hE.below.cell (p:=⟨kb,ko+i/8,aA⟩) HKB.o];exact HKC.o (i/8) AJ
    have hx:=HBY.o.get (i/8);have HBIT:AO (ks.getD (i/8) 0/2^(i%8)%2=(val 256 ks)/2^i%2):=M3 ks HBY.o i;have hlt:(i:Int)/8<32:=AJ
    have HE:AO (M4 w #[Z7 (aE ⟨p0,0,aA⟩) 16 c0,Z7 (aE ⟨p1,0,aA⟩) 16 c1,Z7 (aE ⟨p2,0,aA⟩) 16 c2,Z7 (aE ⟨p3,0,aA⟩) 16 c3] G w6):=hE;have HO:AO (Hp (w.heap.size+1) w6 G (F4 Q Q)):=hO;clear hE hO;generalize ks.getD (i/8) 0=x at *;obtain⟨hx0,hx1⟩:=hx;have hv:(val 256 ks)/2^i%2=0\/(val 256 ks)/2^i%2=1:=AJ
    have hpp:(0:Int)<2^(i%8):=Int.pow_pos AK;have hy0:0<=x/2^(i%8):=Int.ediv_nonneg hx0 AJ;have hy1:x/2^(i%8)<=x:=Int.ediv_le_self _ hx0;rcases hv with hv|hv
    ·have hvb:Gt (val 256 ks) i=false:=by unfold Gt;rw[hv];rfl
     have hb0:x/2^(i%8)%2=0:=by rw[HBIT.o,hv]
     have HN:AO ((M (256-i))=(F4 Q Q,true)):=by
      show _=_
      rw[en,hMs.o _ _ _ hM,en2,hvb];rfl
     clear hv HBIT hvb;have ht:(x/2^(i%8)).tmod 2=0:=by rw[Am hy0,hb0]
     clear hb0;go_wp2;go_roundw
     case rel=>exact⟨i,AJ,by go_num,by rw[HN.o],HE.o,by rw[HN.o];exact HO.o⟩
     case measure=>simp[intOf]
    ·have hvb:Gt (val 256 ks) i=true:=by unfold Gt;rw[hv];rfl
     have hb0:x/2^(i%8)%2=1:=by rw[HBIT.o,hv]
     have HN:AO ((M (256-i))=(F4 (F4 Q Q) P,true)):=by
      show _=_
      rw[en,hMs.o _ _ _ hM,en2,hvb];rfl
     clear hv HBIT hvb;have ht:(x/2^(i%8)).tmod 2=1:=by rw[Am hy0,hb0]
     clear hb0;obtain⟨h0,k0,h1,k1,h2,k2,h3,k3,hp,hf0,hf1,hf2,hf3,hne⟩:=HO.o;have hE:=HE.o;have CS := JL (aE ⟨h0,0,aA⟩) (aE ⟨h1,0,aA⟩) (aE ⟨h2,0,aA⟩) (aE ⟨h3,0,aA⟩) (aE ⟨p0,0,aA⟩) (aE ⟨p1,0,aA⟩) (aE ⟨p2,0,aA⟩) (aE ⟨p3,0,aA⟩) (aE ⟨gd,0,aA⟩) k0 k1 k2 k3 c0 c1 c2 c3 cd _ _ _ _ _ _ _ _ Dy w6 (λe he=>by
                                                                                                  simp only[List.mem_cons,List.not_mem_nil,or_false] at he
                                                                                                  rcases he with rfl|rfl|rfl|rfl|rfl|rfl|rfl|rfl|rfl
                                                                                                  · exact hf0
                                                                                                  · exact hf1
                                                                                                  · exact hf2
                                                                                                  · exact hf3
                                                                                                  · exact(HF0.o.below hE.below)
                                                                                                  · exact(HF1.o.below hE.below)
                                                                                                  · exact(HF2.o.below hE.below)
                                                                                                  · exact(HF3.o.below hE.below)
                                                                                                  · exact(HFD.o.below hE.below))
     have HPO:AO (DF w6 G #[Z7 (aE ⟨h0,0,aA⟩) 16 k0,Z7 (aE ⟨h1,0,aA⟩) 16 k1,Z7 (aE ⟨h2,0,aA⟩) 16 k2,Z7 (aE ⟨h3,0,aA⟩) 16 k3]):=hp;have HPB:AO (DF w6 w.heap.size #[Z7 (aE ⟨p0,0,aA⟩) 16 c0,Z7 (aE ⟨p1,0,aA⟩) 16 c1,Z7 (aE ⟨p2,0,aA⟩) 16 c2,Z7 (aE ⟨p3,0,aA⟩) 16 c3]):=hE.pb;clear hp hf0 hf1 hf2 hf3 hne hE HO;go_wp2_with (first
      |(refine Ae rfl 109 (aM 7) rfl G rfl 109 _ (0,0) _ HPO.o underlying109 rfl Tryz.sizePt ?_)
      |(refine Ae rfl 109 (aM 4) rfl w.heap.size rfl 109 _ (0,0) _ HPB.o underlying109 rfl Tryz.sizePt ?_)
      |fail)
     refine CS.mono ?_;intro e w8 h8;have h8b:Below w6.heap.size w6 w8:=by obtain⟨_,_,_,_,_,_,_,_,_,_,_,_,_,b,_⟩:=h8;exact b
     have h8e:∃ v,e=aK v:=by obtain⟨_,_,_,_,_,_,_,_,r,_⟩:=h8;exact⟨_,r⟩
     obtain⟨v8,rfl⟩:=h8e;have hput:=λw9=>Hp.put (B:=w.heap.size+1) (w6:=w9) (P:=F4 Q Q) (Q:=P) HPO.o.lt HE.o.gt h8
     obtain⟨s0,s1,s2,s3,rfl,hone,_⟩:=hput w8;have HPT:AO (∀ w9,DF w9 G #[s0,s1,s2,s3]->Wr G w8 w9->Hp (w.heap.size+1) w9 G (F4 (F4 Q Q) P)):=λw9 hp hw=>by
      obtain⟨q0,q1,q2,q3,e,_,k⟩:=hput w9;cases e;exact k hp hw
     have HON:AO (s0.oneCell'=true/\s1.oneCell'=true/\s2.oneCell'=true/\s3.oneCell'=true):=hone;have HP8:AO (DF w8 G #[Z7 (aE ⟨h0,0,aA⟩) 16 k0,Z7 (aE ⟨h1,0,aA⟩) 16 k1,Z7 (aE ⟨h2,0,aA⟩) 16 k2,Z7 (aE ⟨h3,0,aA⟩) 16 k3]):=HPO.o.below h8b HPO.o.lt;have HE8:AO (M4 w #[Z7 (aE ⟨p0,0,aA⟩) 16 c0,Z7 (aE ⟨p1,0,aA⟩) 16 c1,Z7 (aE ⟨p2,0,aA⟩) 16 c2,Z7 (aE ⟨p3,0,aA⟩) 16 c3] G w8):=HE.o.call h8b;clear h8 h8b hput hone CS HE HPO HPB;go_wp2_with (first
      |(refine Cm rfl (aM 7) (aM 40) rfl G s0 s1 s2 s3 _ HON.o.1 HON.o.2.1 HON.o.2.2.1 HON.o.2.2.2 rfl rfl rfl HP8.o ?_)
      |fail)
     intro w9 hp9 hw9;have HO9:AO (Hp (w.heap.size+1) w9 G (F4 (F4 Q Q) P)):=HPT.o w9 hp9 hw9;have HE9:AO (M4 w #[Z7 (aE ⟨p0,0,aA⟩) 16 c0,Z7 (aE ⟨p1,0,aA⟩) 16 c1,Z7 (aE ⟨p2,0,aA⟩) 16 c2,Z7 (aE ⟨p3,0,aA⟩) 16 c3] G w9):=HE8.o.wr hw9;clear hp9 hw9 HPT HON HP8 HE8;go_wp2;go_roundw
     case rel=>exact⟨i,AJ,by go_num,by rw[HN.o],HE9.o,by rw[HN.o];exact HO9.o⟩
     case measure=>simp[intOf]
  ·have hj00:j=0:=AJ
   subst hj00;obtain⟨h0,k0,h1,k1,h2,k2,h3,k3,hp,hf0,hf1,hf2,hf3,hne⟩:=hO;have HNE:AO (h0≠w.heap.size+1/\h1≠w.heap.size+1/\h2≠w.heap.size+1/\h3≠w.heap.size+1):=by obtain⟨_,q1,q2,q3,q4⟩:=hne;exact⟨AJ,AJ,AJ,AJ⟩
   clear hne;have HPO:AO (DF wr G #[Z7 (aE ⟨h0,0,aA⟩) 16 k0,Z7 (aE ⟨h1,0,aA⟩) 16 k1,Z7 (aE ⟨h2,0,aA⟩) 16 k2,Z7 (aE ⟨h3,0,aA⟩) 16 k3]):=hp;have HRS:AO (DF wr (w.heap.size+1) CT):=hE.rs;have HFF:AO (Cu wr (aE ⟨h0,0,aA⟩) (M 256).1.1/\Cu wr (aE ⟨h1,0,aA⟩) (M 256).1.2.1/\Cu wr (aE ⟨h2,0,aA⟩) (M 256).1.2.2.1/\Cu wr (aE ⟨h3,0,aA⟩) (M 256).1.2.2.2/\Below w.heap.size w wr):=⟨hf0,hf1,hf2,hf3,hE.below⟩
   clear hp hf0 hf1 hf2 hf3;go_wp2_with (first
    |(refine Ae rfl 109 (aM 7) rfl G rfl 109 _ (0,0) _ HPO.o underlying109 rfl Tryz.sizePt ?_)
    |(refine Cm rfl (aM 6) (aM 41) rfl (w.heap.size+1) _ _ _ _ _ rfl rfl rfl rfl rfl rfl rfl HRS.o ?_)
    |fail)
   intro w7 hp7 hw7;have HP7:AO (DF w7 (w.heap.size+1) #[Z7 (aE ⟨h0,0,aA⟩) 16 k0,Z7 (aE ⟨h1,0,aA⟩) 16 k1,Z7 (aE ⟨h2,0,aA⟩) 16 k2,Z7 (aE ⟨h3,0,aA⟩) 16 k3]):=hp7;have HF7:AO (XD w (M 256).1 (aK (aH #[Z7 (aE ⟨h0,0,aA⟩) 16 k0,Z7 (aE ⟨h1,0,aA⟩) 16 k1,Z7 (aE ⟨h2,0,aA⟩) 16 k2,Z7 (aE ⟨h3,0,aA⟩) 16 k3])) w7):=by
    obtain⟨q1,q2,q3,q4,q5⟩:=HFF.o;exact⟨h0,k0,h1,k1,h2,k2,h3,k3,rfl,q1.wr hw7 HNE.o.1,q2.wr hw7 HNE.o.2.1,q3.wr hw7 HNE.o.2.2.1,q4.wr hw7 HNE.o.2.2.2,q5.trans (hw7.below AJ)⟩
   clear hp7 hw7 HPO HRS HFF HNE;go_wp2;exact Ab (v:=aH #[Z7 (aE ⟨h0,0,aA⟩) 16 k0,Z7 (aE ⟨h1,0,aA⟩) 16 k1,Z7 (aE ⟨h2,0,aA⟩) 16 k2,Z7 (aE ⟨h3,0,aA⟩) 16 k3]) (Ah rfl _ _ (w.heap.size+1) 109 _ (0,0) _ rfl HP7.o underlying109 rfl Tryz.sizePt) rfl HF7.o
theorem Jw (kp:Option Addr) (kc:Nat) (ks:List Int) (p0 p1 p2 p3 gd c0 c1 c2 c3 cd:Nat) (P:Q4) (w:aC) (hk:ks.length=32) (hb:Ci ks) (ha:At .u8 w kp ks)
  (h0:Cu w (aE ⟨p0,0,aA⟩) P.1) (h1:Cu w (aE ⟨p1,0,aA⟩) P.2.1) (h2:Cu w (aE ⟨p2,0,aA⟩) P.2.2.1) (h3:Cu w (aE ⟨p3,0,aA⟩) P.2.2.2) (hd:Cu w (aE ⟨gd,0,aA⟩) Dy) :
  Calls tP 77 #[Z7 kp 32 kc,aH #[Z7 (aE ⟨p0,0,aA⟩) 16 c0,Z7 (aE ⟨p1,0,aA⟩) 16 c1,Z7 (aE ⟨p2,0,aA⟩) 16 c2,Z7 (aE ⟨p3,0,aA⟩) 16 c3],Z7 (aE ⟨gd,0,aA⟩) 16 cd] w (XD w (mS (val 256 ks) P 256).1):=
 OI (mS (val 256 ks) P) kp kc ks p0 p1 p2 p3 gd c0 c1 c2 c3 cd P w hk hb ha h0 h1 h2 h3 hd rfl (λn Q b h=>by simp only[mS,h])
end Go.Proofs.YtjdhhgaelgemcaaGreatDoor
