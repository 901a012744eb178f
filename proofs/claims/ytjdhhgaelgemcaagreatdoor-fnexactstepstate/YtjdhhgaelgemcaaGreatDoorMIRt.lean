import Derived.Test.YtjdhhgaelgemcaaGreatDoorMISt
import Derived.Test.YtjdhhgaelgemcaaGreatDoorMSvC
open Go.Proofs.Tryz renaming prog->tP
open Go.Proofs.Tryz
open Go.Value renaming int->Z8,pointer->aF,bool->aG,agg->aH
open Go.Ground renaming data->aL
open Go.Operand renaming tmp->aM
open Option renaming some->aE,none->aA
open Go renaming World->aC,Value->aB
set_option maxHeartbeats 8000000
namespace Go.Proofs.YtjdhhgaelgemcaaGreatDoor
open Go.ChangeShapes Go.WideShapes Go.ChangeAt Go.RowKit
set_option linter.unusedVariables false
def Ys (x:Int):Int:=x^(H9*4+1)%fp
def J5 (u v:Int):Int:=(u*(GT v 1*v%fp)%fp)*Ys (u*(GT v 1*v%fp)%fp*GT v 2%fp)%fp
def Ui (u v:Int):Int:=GT (J5 u v) 1*v%fp
def Jq:List Int:=[1718705420411056,234908883556509,2233514472574048,2117202627021982,765476049583133]
def Ex:List Int:=[929955233495203,466365720129213,1662059464998953,2033849074728123,1442794654840575]
def Eh:List Int:=[1859910466990425,932731440258426,1072319116312658,1815898335770999,633789495995903]
def KD (u v:Int):Bool:=decide (Ui u v=u) || decide (Ui u v=(0-u)%fp)
def Wm (u v:Int):Int:=if Ui u v=u then J5 u v else J5 u v*ev Jq%fp
def DP (w:aC) (g:Nat) (y z t:List Int) (u v:Int) (e:Ending) (w':aC):Prop:=
 ∃ xs,Cs xs/\e=.returned (aG (KD u v))/\ev xs=Wm u v/\Pt w' g xs y z t/\EN g w w'
theorem YI (a b c d e:Int) (ha:0<=a/\a<2251799813685504) (hb:0<=b/\b<2251799813685248) (hc:0<=c/\c<2251799813685248) (hd:0<=d/\d<2251799813685248) (he:0<=e/\e<2251799813685248):Cs [a,b,c,d,e]:=by
 refine⟨rfl,λi=>?_,λi hi=>?_,ha.2⟩
 ·rcases i with _|_|_|_|_|i<;>simp<;>omega
 ·rcases i with _|_|_|_|_|i<;>simp<;>omega
def Cr:List Int:=[1,0,0,0,0]
theorem Ei:Cs Cr:=YI _ _ _ _ _ AK AK AK AK AK
theorem SV:Cs Jq:=YI _ _ _ _ _ AK AK AK AK AK
theorem Kh:Cs Ex:=YI _ _ _ _ _ AK AK AK AK AK
theorem Jr:Cs Eh:=YI _ _ _ _ _ AK AK AK AK AK
theorem N0 (w:aC):Calls tP 150 #[] w (EP w (ev Ex)):=by
 have HS0:AO (EL w (w.alloc (.cells CQ 138)) [(w.heap.size,[0,0,0,0,0])] []):=(EL.start w [] AL).room;go_enter func150,ntmps150;go_wp2_with (first
  |(refine Dc HS0.o rfl (aM 0) (aM 1) rfl 0 w.heap.size [0,0,0,0,0] Ex rfl rfl rfl Kh rfl ?_)
  |fail)
 intro w1 S1;have H1:AO (EL w w1 [(w.heap.size,Ex)] []):=S1;clear S1 HS0;go_wp2;exact Ab (v:=aH (Ex.map (Value.int .u64)).toArray) (H1.o.ret rfl _ 0 w.heap.size Ex rfl rfl) rfl ⟨Ex,Kh,rfl,rfl,H1.o.below⟩
theorem Mm (w:aC):Calls tP 138 #[] w (EP w (ev Eh)):=by
 have HS0:AO (EL w (w.alloc (.cells CQ 138)) [(w.heap.size,[0,0,0,0,0])] []):=(EL.start w [] AL).room;go_enter func138,ntmps138;go_wp2_with (first
  |(refine Dc HS0.o rfl (aM 0) (aM 1) rfl 0 w.heap.size [0,0,0,0,0] Eh rfl rfl rfl Jr rfl ?_)
  |fail)
 intro w1 S1;have H1:AO (EL w w1 [(w.heap.size,Eh)] []):=S1;clear S1 HS0;go_wp2;exact Ab (v:=aH (Eh.map (Value.int .u64)).toArray) (H1.o.ret rfl _ 0 w.heap.size Eh rfl rfl) rfl ⟨Eh,Jr,rfl,rfl,H1.o.below⟩
theorem Uj (w:aC):Calls tP 164 #[] w (EP w (ev Jq)):=by
 have HS0:AO (EL w (w.alloc (.cells CQ 138)) [(w.heap.size,[0,0,0,0,0])] []):=(EL.start w [] AL).room;go_enter func164,ntmps164;go_wp2_with (first
  |(refine Dc HS0.o rfl (aM 0) (aM 1) rfl 0 w.heap.size [0,0,0,0,0] Jq rfl rfl rfl SV rfl ?_)
  |fail)
 intro w1 S1;have H1:AO (EL w w1 [(w.heap.size,Jq)] []):=S1;clear S1 HS0;go_wp2;exact Ab (v:=aH (Jq.map (Value.int .u64)).toArray) (H1.o.ret rfl _ 0 w.heap.size Jq rfl rfl) rfl ⟨Jq,SV,rfl,rfl,H1.o.below⟩
def uF (Y:Int):Int:=(GT Y 1-ev Cr)%fp
def vF (Y:Int):Int:=(GT Y 1*ev Ex%fp+ev Cr)%fp
theorem Js (g:Nat) (x y z t:List Int) (g1 o1 g2 o2:Nat) (us vs:List Int) (w:aC) (hp:Pt w g x y z t) (hu:Dj w g1 o1 us) (hv:Dj w g2 o2 vs) (hg1:g1≠g) (hg2:g2≠g) :
  Calls tP 152 #[aF (aE ⟨g,0,aA⟩),aF (aE ⟨g1,o1,aA⟩),aF (aE ⟨g2,o2,aA⟩)] w (DP w g y z t (ev us) (ev vs)):=by
 have HS0:AO (Cv w w g x y z t [] [(g1,o1,us),(g2,o2,vs)]):=Cv.start hp _ (λe he=>by
  simp only[List.mem_cons,List.not_mem_nil,or_false] at he;rcases he with rfl|rfl
  ·exact⟨hg1,hu⟩
  ·exact⟨hg2,hv⟩)
 clear hp hu hv hg1 hg2;go_enter func152,ntmps152;go_wp2_with fail;refine(Dq g2 o2 vs 1 _ AK (HS0.o.el 1 _ _ _ rfl)).mono ?_;rintro e w1 ⟨c1,hk,hv,rfl,b⟩;have HKc1:AO (Cs c1/\ev c1=GT (ev vs) 1):=⟨hk,hv⟩
 have HS1:AO (Cv w w1 g x y z t [] [(g1,o1,us),(g2,o2,vs)]):=HS0.o.call b;clear hk hv b HS0;go_wp2_with (first
  |(refine DA HS1.o rfl (aM 7) (aM 17) rfl c1 rfl rfl HKc1.o.1 rfl ?_)
  |fail)
 intro w2 S;have HS2:AO (Cv w w2 g x y z t [(w1.heap.size,c1)] [(g1,o1,us),(g2,o2,vs)]):=S;clear S HS1;generalize w1.heap.size=G2 at *;go_wp2_with fail;refine(Ct G2 0 g2 o2 c1 vs _ (HS2.o.re 0 _ _ rfl) (HS2.o.el 1 _ _ _ rfl)).mono ?_;rintro e w3 ⟨c2,hk,hv,rfl,b⟩;have HKc2:AO (Cs c2/\ev c2=ev c1*ev vs%fp):=⟨hk,hv⟩
 have HS3:AO (Cv w w3 g x y z t [(G2,c1)] [(g1,o1,us),(g2,o2,vs)]):=HS2.o.call b;clear hk hv b HS2;go_wp2_with (first
  |(refine Iy HS3.o rfl (aM 7) (aM 19) rfl 0 G2 c1 c2 rfl rfl rfl HKc2.o.1 rfl ?_)
  |fail)
 intro w4 S;have HS4:AO (Cv w w4 g x y z t [(G2,c2)] [(g1,o1,us),(g2,o2,vs)]):=S;clear S HS3;go_wp2_with fail;refine(Ct g1 o1 G2 0 us c2 _ (HS4.o.el 0 _ _ _ rfl) (HS4.o.re 0 _ _ rfl)).mono ?_;rintro e w5 ⟨st,hk,hv,rfl,b⟩;have HKst:AO (Cs st/\ev st=ev us*ev c2%fp):=⟨hk,hv⟩
 have HS5:AO (Cv w w5 g x y z t [(G2,c2)] [(g1,o1,us),(g2,o2,vs)]):=HS4.o.call b;clear hk hv b HS4;go_wp2_with (first
  |(refine DA HS5.o rfl (aM 8) (aM 21) rfl st rfl rfl HKst.o.1 rfl ?_)
  |fail)
 intro w6 S;have HS6:AO (Cv w w6 g x y z t [(w5.heap.size,st),(G2,c2)] [(g1,o1,us),(g2,o2,vs)]):=S;clear S HS5;generalize w5.heap.size=G6 at *;go_wp2_with fail;refine(Dq g2 o2 vs 2 _ AK (HS6.o.el 1 _ _ _ rfl)).mono ?_;rintro e w7 ⟨f4,hk,hv,rfl,b⟩;have HKf4:AO (Cs f4/\ev f4=GT (ev vs) 2):=⟨hk,hv⟩
 have HS7:AO (Cv w w7 g x y z t [(G6,st),(G2,c2)] [(g1,o1,us),(g2,o2,vs)]):=HS6.o.call b;clear hk hv b HS6;go_wp2_with (first
  |(refine DA HS7.o rfl (aM 9) (aM 23) rfl f4 rfl rfl HKf4.o.1 rfl ?_)
  |fail)
 intro w8 S;have HS8:AO (Cv w w8 g x y z t [(w7.heap.size,f4),(G6,st),(G2,c2)] [(g1,o1,us),(g2,o2,vs)]):=S;clear S HS7;generalize w7.heap.size=G8 at *;go_wp2_with fail;refine(Ct G6 0 G8 0 st f4 _ (HS8.o.re 1 _ _ rfl) (HS8.o.re 0 _ _ rfl)).mono ?_;rintro e w9 ⟨bs,hk,hv,rfl,b⟩;have HKbs:AO (Cs bs/\ev bs=ev st*ev f4%fp):=⟨hk,hv⟩
 have HS9:AO (Cv w w9 g x y z t [(G8,f4),(G6,st),(G2,c2)] [(g1,o1,us),(g2,o2,vs)]):=HS8.o.call b;clear hk hv b HS8;go_wp2_with (first
  |(refine DA HS9.o rfl (aM 10) (aM 24) rfl bs rfl rfl HKbs.o.1 rfl ?_)
  |fail)
 intro w10 S;have HS10:AO (Cv w w10 g x y z t [(w9.heap.size,bs),(G8,f4),(G6,st),(G2,c2)] [(g1,o1,us),(g2,o2,vs)]):=S;clear S HS9;generalize w9.heap.size=G10 at *;go_wp2_with fail;refine(KC G10 0 bs _ (HS10.o.re 0 _ _ rfl)).mono ?_;rintro e w11 ⟨pw,hk,hv,rfl,b⟩;have HKpw:AO (Cs pw/\ev pw=Ys (ev bs)):=⟨hk,hv⟩
 have HS11:AO (Cv w w11 g x y z t [(G10,bs),(G8,f4),(G6,st),(G2,c2)] [(g1,o1,us),(g2,o2,vs)]):=HS10.o.call b;clear hk hv b HS10;go_wp2_with (first
  |(refine DA HS11.o rfl (aM 11) (aM 25) rfl pw rfl rfl HKpw.o.1 rfl ?_)
  |fail)
 intro w12 S;have HS12:AO (Cv w w12 g x y z t [(w11.heap.size,pw),(G10,bs),(G8,f4),(G6,st),(G2,c2)] [(g1,o1,us),(g2,o2,vs)]):=S;clear S HS11;generalize w11.heap.size=G12 at *;go_wp2_with fail;refine(Ct G6 0 G12 0 st pw _ (HS12.o.re 3 _ _ rfl) (HS12.o.re 0 _ _ rfl)).mono ?_;rintro e w13 ⟨rt,hk,hv,rfl,b⟩;have HKrt:AO (Cs rt/\ev rt=ev st*ev pw%fp):=⟨hk,hv⟩
 have HS13:AO (Cv w w13 g x y z t [(G12,pw),(G10,bs),(G8,f4),(G6,st),(G2,c2)] [(g1,o1,us),(g2,o2,vs)]):=HS12.o.call b;clear hk hv b HS12;go_wp2_with (first
  |(refine Di HS13.o rfl (aM 28) (aM 27) rfl 0 AK rt rt y z t (LT HS13.o.pt.x.1 HKrt.o.1.1) ⟨HKrt.o.1,HS13.o.pt.y,HS13.o.pt.z,HS13.o.pt.t⟩ rfl rfl HKrt.o.1 rfl ?_)
  |fail)
 intro w14 S;have HS14:AO (Cv w w14 g rt y z t [(G12,pw),(G10,bs),(G8,f4),(G6,st),(G2,c2)] [(g1,o1,us),(g2,o2,vs)]):=S;clear S HS13;go_wp2_with fail;refine(Dq g 0 rt 1 _ AK HS14.o.pt.ex).mono ?_;rintro e w15 ⟨sq,hk,hv,rfl,b⟩;have HKsq:AO (Cs sq/\ev sq=GT (ev rt) 1):=⟨hk,hv⟩
 have HS15:AO (Cv w w15 g rt y z t [(G12,pw),(G10,bs),(G8,f4),(G6,st),(G2,c2)] [(g1,o1,us),(g2,o2,vs)]):=HS14.o.call b;clear hk hv b HS14;go_wp2_with (first
  |(refine DA HS15.o rfl (aM 12) (aM 30) rfl sq rfl rfl HKsq.o.1 rfl ?_)
  |fail)
 intro w16 S;have HS16:AO (Cv w w16 g rt y z t [(w15.heap.size,sq),(G12,pw),(G10,bs),(G8,f4),(G6,st),(G2,c2)] [(g1,o1,us),(g2,o2,vs)]):=S;clear S HS15;generalize w15.heap.size=G16 at *;go_wp2_with fail;refine(Ct G16 0 g2 o2 sq vs _ (HS16.o.re 0 _ _ rfl) (HS16.o.el 1 _ _ _ rfl)).mono ?_;rintro e w17 ⟨rc,hk,hv,rfl,b⟩;have HKrc:AO (Cs rc/\ev rc=ev sq*ev vs%fp):=⟨hk,hv⟩
 have HS17:AO (Cv w w17 g rt y z t [(G16,sq),(G12,pw),(G10,bs),(G8,f4),(G6,st),(G2,c2)] [(g1,o1,us),(g2,o2,vs)]):=HS16.o.call b;clear hk hv b HS16;go_wp2_with (first
  |(refine DA HS17.o rfl (aM 13) (aM 32) rfl rc rfl rfl HKrc.o.1 rfl ?_)
  |fail)
 intro w18 S;have HS18:AO (Cv w w18 g rt y z t [(w17.heap.size,rc),(G16,sq),(G12,pw),(G10,bs),(G8,f4),(G6,st),(G2,c2)] [(g1,o1,us),(g2,o2,vs)]):=S;clear S HS17;generalize w17.heap.size=G18 at *;have HRT:AO (ev rt=J5 (ev us) (ev vs)):=by
  show _=_
  unfold J5;rw[HKrt.o.2,HKpw.o.2,HKbs.o.2,HKst.o.2,HKf4.o.2,HKc2.o.2,HKc1.o.2]
 have HRC:AO (ev rc=Ui (ev us) (ev vs)):=by
  show _=_
  unfold Ui;rw[HKrc.o.2,HKsq.o.2,HRT.o]
 clear HKpw HKbs HKst HKf4 HKc2 HKc1 HKsq HKrc;go_wp2_with fail;refine(Ix G18 0 g1 o1 rc us _ (HS18.o.re 0 _ _ rfl) (HS18.o.el 0 _ _ _ rfl)).mono ?_;rintro e wq ⟨rfl,b⟩;have HSq:AO (Cv w wq g rt y z t [(G18,rc),(G16,sq),(G12,pw),(G10,bs),(G8,f4),(G6,st),(G2,c2)] [(g1,o1,us),(g2,o2,vs)]):=HS18.o.call b;clear b HS18;by_cases hq:ev rc=ev us
 ·have HQ:AO (ev rc=ev us):=hq;rw[Al hq];clear hq;go_wp2
  go_ret
  refine⟨rt,HKrt.o.1,?_,?_,HSq.o.pt,HSq.o.wrh⟩
  ·show _=Ending.returned (aG (KD (ev us) (ev vs)))
   have:KD (ev us) (ev vs)=true:=by unfold KD;rw[<-HRC.o,HQ.o];simp
   rw[this];rfl
  ·unfold Wm;rw[<-HRC.o,HQ.o,AP rfl];exact HRT.o
 ·have HQ:AO (¬ (ev rc=ev us)):=hq;rw[Af hq];clear hq;go_wp2_with fail;refine(Gm g1 o1 us _ (HSq.o.el 0 _ _ _ rfl)).mono ?_;rintro e w19 ⟨op,hk,hv,rfl,b⟩;have HKop:AO (Cs op/\ev op=(0-ev us)%fp):=⟨hk,hv⟩
  have HS19:AO (Cv w w19 g rt y z t [(G18,rc),(G16,sq),(G12,pw),(G10,bs),(G8,f4),(G6,st),(G2,c2)] [(g1,o1,us),(g2,o2,vs)]):=HSq.o.call b;clear hk hv b HSq;go_wp2_with (first
   |(refine DA HS19.o rfl (aM 14) (aM 36) rfl op rfl rfl HKop.o.1 rfl ?_)
   |fail)
  intro w20 S;have HS20:AO (Cv w w20 g rt y z t [(w19.heap.size,op),(G18,rc),(G16,sq),(G12,pw),(G10,bs),(G8,f4),(G6,st),(G2,c2)] [(g1,o1,us),(g2,o2,vs)]):=S;clear S HS19;generalize w19.heap.size=G20 at *;go_wp2_with fail;refine(Uj _).mono ?_;rintro e w21 ⟨tn,hk,hv,rfl,b⟩;have HKtn:AO (Cs tn/\ev tn=ev Jq):=⟨hk,hv⟩
  have HS21:AO (Cv w w21 g rt y z t [(G20,op),(G18,rc),(G16,sq),(G12,pw),(G10,bs),(G8,f4),(G6,st),(G2,c2)] [(g1,o1,us),(g2,o2,vs)]):=HS20.o.call b;clear hk hv b HS20;go_wp2_with (first
   |(refine DA HS21.o rfl (aM 15) (aM 37) rfl tn rfl rfl HKtn.o.1 rfl ?_)
   |fail)
  intro w22 S;have HS22:AO (Cv w w22 g rt y z t [(w21.heap.size,tn),(G20,op),(G18,rc),(G16,sq),(G12,pw),(G10,bs),(G8,f4),(G6,st),(G2,c2)] [(g1,o1,us),(g2,o2,vs)]):=S;clear S HS21;generalize w21.heap.size=G22 at *;go_wp2_with fail;refine(Ct g 0 G22 0 rt tn _ HS22.o.pt.ex (HS22.o.re 0 _ _ rfl)).mono ?_;rintro e w23 ⟨xx,hk,hv,rfl,b⟩;have HKxx:AO (Cs xx/\ev xx=ev rt*ev tn%fp):=⟨hk,hv⟩
  have HS23:AO (Cv w w23 g rt y z t [(G22,tn),(G20,op),(G18,rc),(G16,sq),(G12,pw),(G10,bs),(G8,f4),(G6,st),(G2,c2)] [(g1,o1,us),(g2,o2,vs)]):=HS22.o.call b;clear hk hv b HS22;go_wp2_with (first
   |(refine Di HS23.o rfl (aM 41) (aM 40) rfl 0 AK xx xx y z t (LT HS23.o.pt.x.1 HKxx.o.1.1) ⟨HKxx.o.1,HS23.o.pt.y,HS23.o.pt.z,HS23.o.pt.t⟩ rfl rfl HKxx.o.1 rfl ?_)
   |fail)
  intro w24 S;have HS24:AO (Cv w w24 g xx y z t [(G22,tn),(G20,op),(G18,rc),(G16,sq),(G12,pw),(G10,bs),(G8,f4),(G6,st),(G2,c2)] [(g1,o1,us),(g2,o2,vs)]):=S;clear S HS23;have HXX:AO (ev xx=J5 (ev us) (ev vs)*ev Jq%fp):=by
   show _=_
   rw[HKxx.o.2,HKtn.o.2,HRT.o]
  clear HKtn;go_wp2_with fail;refine(Ix G18 0 G20 0 rc op _ (HS24.o.re 2 _ _ rfl) (HS24.o.re 1 _ _ rfl)).mono ?_;rintro e wz ⟨rfl,b⟩;have HSz:AO (Cv w wz g xx y z t [(G22,tn),(G20,op),(G18,rc),(G16,sq),(G12,pw),(G10,bs),(G8,f4),(G6,st),(G2,c2)] [(g1,o1,us),(g2,o2,vs)]):=HS24.o.call b;clear b HS24;have HD:AO (decide (ev rc=ev op)=KD (ev us) (ev vs)):=by
   show _=_
   unfold KD;rw[<-HRC.o,HKop.o.2];simp[HQ.o]
  rw[HD.o];clear HD;go_wp2
  go_ret
  refine⟨xx,HKxx.o.1,rfl,?_,HSz.o.pt,HSz.o.wrh⟩;unfold Wm;rw[<-HRC.o,AQ HQ.o];exact HXX.o
theorem QN (g:Nat) (x y z t:List Int) (w:aC) (hp:Pt w g x y z t) :
  Calls tP 125 #[aF (aE ⟨g,0,aA⟩)] w (DP w g y z t (uF (ev y)) (vF (ev y))):=by
 have HS0:AO (Cv w w g x y z t [] []):=Cv.start hp _ (λe he=>by simp at he);clear hp;go_enter func125,ntmps125;go_wp2_with (first
  |(refine DA HS0.o rfl (aM 3) (aM 8) rfl Cr rfl rfl Ei rfl ?_)
  |fail)
 intro w1 S;have HS1:AO (Cv w w1 g x y z t [(w.heap.size,Cr)] []):=S;clear S HS0;generalize w.heap.size=G1 at *;go_wp2_with fail;refine(N0 _).mono ?_;rintro e w2 ⟨dd,hk,hv,rfl,b⟩;have HKdd:AO (Cs dd/\ev dd=ev Ex):=⟨hk,hv⟩
 have HS2:AO (Cv w w2 g x y z t [(G1,Cr)] []):=HS1.o.call b;clear hk hv b HS1;go_wp2_with (first
  |(refine DA HS2.o rfl (aM 4) (aM 9) rfl dd rfl rfl HKdd.o.1 rfl ?_)
  |fail)
 intro w3 S;have HS3:AO (Cv w w3 g x y z t [(w2.heap.size,dd),(G1,Cr)] []):=S;clear S HS2;generalize w2.heap.size=G3 at *;go_wp2_with fail;refine(Dq g 5 y 1 _ AK HS3.o.pt.ey).mono ?_;rintro e w4 ⟨sq,hk,hv,rfl,b⟩;have HKsq:AO (Cs sq/\ev sq=GT (ev y) 1):=⟨hk,hv⟩
 have HS4:AO (Cv w w4 g x y z t [(G3,dd),(G1,Cr)] []):=HS3.o.call b;clear hk hv b HS3;go_wp2_with (first
  |(refine DA HS4.o rfl (aM 5) (aM 13) rfl sq rfl rfl HKsq.o.1 rfl ?_)
  |fail)
 intro w5 S;have HS5:AO (Cv w w5 g x y z t [(w4.heap.size,sq),(G3,dd),(G1,Cr)] []):=S;clear S HS4;generalize w4.heap.size=G5 at *;go_wp2_with fail;refine(FR G5 0 G1 0 sq Cr _ (HS5.o.re 0 _ _ rfl) (HS5.o.re 2 _ _ rfl)).mono ?_;rintro e w6 ⟨ov,hk,hv,rfl,b⟩;have HKov:AO (Cs ov/\ev ov=(ev sq-ev Cr)%fp):=⟨hk,hv⟩
 have HS6:AO (Cv w w6 g x y z t [(G5,sq),(G3,dd),(G1,Cr)] []):=HS5.o.call b;clear hk hv b HS5;go_wp2_with (first
  |(refine DA HS6.o rfl (aM 6) (aM 14) rfl ov rfl rfl HKov.o.1 rfl ?_)
  |fail)
 intro w7 S;have HS7:AO (Cv w w7 g x y z t [(w6.heap.size,ov),(G5,sq),(G3,dd),(G1,Cr)] []):=S;clear S HS6;generalize w6.heap.size=G7 at *;go_wp2_with fail;refine(Ct G5 0 G3 0 sq dd _ (HS7.o.re 1 _ _ rfl) (HS7.o.re 2 _ _ rfl)).mono ?_;rintro e w8 ⟨ua,hk,hv,rfl,b⟩;have HKua:AO (Cs ua/\ev ua=ev sq*ev dd%fp):=⟨hk,hv⟩
 have HS8:AO (Cv w w8 g x y z t [(G7,ov),(G5,sq),(G3,dd),(G1,Cr)] []):=HS7.o.call b;clear hk hv b HS7;go_wp2_with (first
  |(refine DA HS8.o rfl (aM 7) (aM 15) rfl ua rfl rfl HKua.o.1 rfl ?_)
  |fail)
 intro w9 S;have HS9:AO (Cv w w9 g x y z t [(w8.heap.size,ua),(G7,ov),(G5,sq),(G3,dd),(G1,Cr)] []):=S;clear S HS8;generalize w8.heap.size=G9 at *;go_wp2_with fail;refine(F0 G9 0 G1 0 ua Cr _ (HS9.o.re 0 _ _ rfl) (HS9.o.re 4 _ _ rfl)).mono ?_;rintro e w10 ⟨un,hk,hv,rfl,b⟩;have HKun:AO (Cs un/\ev un=(ev ua+ev Cr)%fp):=⟨hk,hv⟩
 have HS10:AO (Cv w w10 g x y z t [(G9,ua),(G7,ov),(G5,sq),(G3,dd),(G1,Cr)] []):=HS9.o.call b;clear hk hv b HS9;go_wp2_with (first
  |(refine Iy HS10.o rfl (aM 7) (aM 16) rfl 0 G9 ua un rfl rfl rfl HKun.o.1 rfl ?_)
  |fail)
 intro w11 S;have HS11:AO (Cv w w11 g x y z t [(G9,un),(G7,ov),(G5,sq),(G3,dd),(G1,Cr)] []):=S;clear S HS10;have HUF:AO (ev ov=uF (ev y)):=by
  show _=_
  unfold uF;rw[HKov.o.2,HKsq.o.2]
 have HVF:AO (ev un=vF (ev y)):=by
  show _=_
  unfold vF;rw[HKun.o.2,HKua.o.2,HKsq.o.2,HKdd.o.2]
 have hlt:=HS11.o.lt;have hn1:=(HS11.o.rows _ (List.mem_of_getElem? (i:=1) rfl)).1;have hn2:=(HS11.o.rows _ (List.mem_of_getElem? (i:=0) rfl)).1;dsimp only at hn1 hn2;clear HKov HKsq HKun HKua HKdd;go_wp2_with fail;refine(Js g x y z t G7 0 G9 0 ov un _ HS11.o.pt (HS11.o.re 1 _ _ rfl) (HS11.o.re 0 _ _ rfl) AJ AJ).mono ?_;rintro e wd ⟨xs,hk,rfl,hx,hp,hw⟩;rw[HUF.o,HVF.o] at hx |-;have HX:AO (Cs xs/\ev xs=Wm (uF (ev y)) (vF (ev y))/\Pt wd g xs y z t/\EN g w wd):=⟨hk,hx,hp,HS11.o.wrh.trans hw⟩
 clear hk hx hp hw HUF HVF hlt hn1 hn2 HS11;go_wp2
 go_ret
 exact⟨xs,HX.o.1,rfl,HX.o.2.1,HX.o.2.2.1,HX.o.2.2.2⟩
theorem Zm (a b:Int) (ha:0<=a) (ha':a<18446744073709551616) (hb:0<=b) (hb':b<18446744073709551616) :
  bits .and .u64 (bits .or .u64 (a/2251799813685248) (IntKind.u64.wrap (b*8192))) 2251799813685247=(a/2251799813685248+b%2251799813685248*8192)%2251799813685248:=by
 have e:IntKind.u64.wrap (b*8192)=b%2251799813685248*8192:=by rw[IntKind.wrap_u64];omega
 rw[e,EU (b%2251799813685248*8192) (a/2251799813685248) 13 AJ AJ AJ (by rw[show(2:Int)^13=8192 from by decide];omega) AJ (b%2251799813685248) (by rw[show(2:Int)^13=8192 from by decide])];exact DH _ 51 AJ AJ _ AK AK
theorem Zn (a b:Int) (ha:0<=a) (ha':a<18446744073709551616) (hb:0<=b) (hb':b<18446744073709551616) :
  bits .and .u64 (bits .or .u64 (a/274877906944) (IntKind.u64.wrap (b*67108864))) 2251799813685247=(a/274877906944+b%274877906944*67108864)%2251799813685248:=by
 have e:IntKind.u64.wrap (b*67108864)=b%274877906944*67108864:=by rw[IntKind.wrap_u64];omega
 rw[e,EU (b%274877906944*67108864) (a/274877906944) 26 AJ AJ AJ (by rw[show(2:Int)^26=67108864 from by decide];omega) AJ (b%274877906944) (by rw[show(2:Int)^26=67108864 from by decide])];exact DH _ 51 AJ AJ _ AK AK
theorem Zo (a b:Int) (ha:0<=a) (ha':a<18446744073709551616) (hb:0<=b) (hb':b<18446744073709551616) :
  bits .and .u64 (bits .or .u64 (a/33554432) (IntKind.u64.wrap (b*549755813888))) 2251799813685247=(a/33554432+b%33554432*549755813888)%2251799813685248:=by
 have e:IntKind.u64.wrap (b*549755813888)=b%33554432*549755813888:=by rw[IntKind.wrap_u64];omega
 rw[e,EU (b%33554432*549755813888) (a/33554432) 39 AJ AJ AJ (by rw[show(2:Int)^39=549755813888 from by decide];omega) AJ (b%33554432) (by rw[show(2:Int)^39=549755813888 from by decide])];exact DH _ 51 AJ AJ _ AK AK
def Lj (a b c d:Int):List Int:=[a%2251799813685248,(a/2251799813685248+b%2251799813685248*8192)%2251799813685248,(b/274877906944+c%274877906944*67108864)%2251799813685248,(c/33554432+d%33554432*549755813888)%2251799813685248,d/4096%2251799813685248]
theorem SY (a b c d:Int):Cs (Lj a b c d):=YI _ _ _ _ _ AJ AJ AJ AJ AJ
theorem PC (a b c d:Int):J2 C3 (Lj a b c d):=by
 intro z hz;unfold C3;simp only[Lj,List.mem_cons,List.not_mem_nil,or_false] at hz;rcases hz with rfl|rfl|rfl|rfl|rfl<;>omega
theorem Uk (a b c d:Int) (ha:0<=a) (ha':a<18446744073709551616) (hb:0<=b) (hb':b<18446744073709551616) (hc:0<=c) (hc':c<18446744073709551616) (hd:0<=d) (hd':d<18446744073709551616) :
  val C3 (Lj a b c d)=val 18446744073709551616 [a,b,c,d]%(fp+19):=by
 simp only[Lj,val,C3,Er];omega
theorem QO (a b c d:Int):Fo (Lj a b c d)=Lj a b c d↔val C3 (Lj a b c d)<fp:=by
 have h:=FO (SY a b c d);have hb:=Gk (Lj a b c d);constructor
 ·intro e;have e2:=h.2.2;rw[e] at e2;rw[e2];exact hb.2
 ·intro e;refine F6 (B:=C3) AK (JH _) (PC _ _ _ _) (by rw[Eg];rfl) ?_;rw[h.2.2];exact Int.emod_eq_of_lt (C0 AK (PC _ _ _ _)) e
theorem KE (a b c d:Int) (w:aC) (ha:0<=a) (ha':a<18446744073709551616) (hb:0<=b) (hb':b<18446744073709551616) (hc:0<=c) (hc':c<18446744073709551616) (hd:0<=d) (hd':d<18446744073709551616) :
  Calls tP 123 #[aH #[Z8 .u64 a,Z8 .u64 b,Z8 .u64 c,Z8 .u64 d]] w λe w'=>e=.returned (aH ((Lj a b c d).map (Value.int .u64)).toArray)/\Below w.heap.size w w':=by
 have l0:bits .and .u64 a 2251799813685247=a%2251799813685248:=DH _ 51 AJ AJ _ AK AK;have l1:=Zm a b ha ha' hb hb';have l2:=Zn b c hb hb' hc hc';have l3:=Zo c d hc hc' hd hd';have l4:bits .and .u64 (d/4096) 2251799813685247=d/4096%2251799813685248:=DH _ 51 AJ AJ _ AK AK;have H0:AO (bits .and .u64 a 2251799813685247=a%2251799813685248/\bits .and .u64 (bits .or .u64 (a/2251799813685248) (IntKind.u64.wrap (b*8192))) 2251799813685247=(a/2251799813685248+b%2251799813685248*8192)%2251799813685248/\bits .and .u64 (bits .or .u64 (b/274877906944) (IntKind.u64.wrap (c*67108864))) 2251799813685247=(b/274877906944+c%274877906944*67108864)%2251799813685248/\bits .and .u64 (bits .or .u64 (c/33554432) (IntKind.u64.wrap (d*549755813888))) 2251799813685247=(c/33554432+d%33554432*549755813888)%2251799813685248/\bits .and .u64 (d/4096) 2251799813685247=d/4096%2251799813685248):=⟨l0,l1,l2,l3,l4⟩
 clear l0 l1 l2 l3 l4;go_enter func123,ntmps123;go_wp2_with fail;obtain⟨l0,l1,l2,l3,l4⟩:=H0.o;rw[l0,l1,l2,l3,l4];exact Ab (v:=aH ((Lj a b c d).map (Value.int .u64)).toArray) (Nv rfl _ _ (w.heap.size+1) (Lj a b c d) rfl rfl (heap_alloc2_new _ _ _)) rfl ⟨rfl,(Cg.alloc Cl _).alloc AL _⟩
theorem N1 (g:Nat) (ns:List Int) (w:aC) (hl:ns.length=4) (hr:Ch w g 143 ns) (hw:G4 ns) :
  Calls tP 122 #[aF (aE ⟨g,0,aA⟩),Z8 .i64 255] w λe w'=>e=.returned (Z8 .u64 (ns.getD 3 0/9223372036854775808))/\w'=w:=by
 have c3:=hr.cell 3 AJ;obtain⟨h0,h1⟩:=hw.get 3;have HA:AO (bits .and .u64 (ns.getD 3 0/9223372036854775808) 1=ns.getD 3 0/9223372036854775808):=by
  show _=_
  rw[DH _ 1 AJ AJ 1 AK AK];omega
 clear hr hw hl;generalize ns.getD 3 0=x at *;go_enter func122,ntmps122;go_wp2;rw[HA.o]
 go_ret
 exact⟨rfl,rfl⟩
theorem JI {L:Nat->Bool} {i j:Nat} (h:j≠i):Cf L i j=L j:=by unfold Cf;simp[h]
theorem F1 {L:Nat->Bool} {i:Nat}:Cf L i i=true:=by unfold Cf;simp
def FU (w0:aC) (g k:Nat) (A B:aC->Prop) (L:Nat->Bool) (w':aC):Prop:=EN g w0 w'/\(L k=false->A w')/\(L k=true->B w')
theorem FU.ref {w0:aC} {g k:Nat} {A B:aC->Prop} {L:Nat->Bool} {w':aC} (i:Nat) (hi:i≠k) (h:FU w0 g k A B L w'):FU w0 g k A B (Cf L i) w':=
 ⟨h.1,by rw[JI (BA hi)];exact h.2.1,by rw[JI (BA hi)];exact h.2.2⟩
theorem FU.low {w0:aC} {g k:Nat} {A B:aC->Prop} {L:Nat->Bool} {w' ww:aC} (i:Nat) (hi:i≠k) (h:FU w0 g k A B L w') (hA:A w'->A ww) (hB:B w'->B ww) (b:Below w'.heap.size w' ww):FU w0 g k A B (Cf L i) ww:=
 ⟨h.1.trans (EN.of_below b),by rw[JI (BA hi)];exact λq=>hA (h.2.1 q),by rw[JI (BA hi)];exact λq=>hB (h.2.2 q)⟩
theorem Mn {w:aC} {o:Oper} {a:Act} {K:Act->aC->Prop} {Q:Exit->Act->aC->Prop} (x:Operand) (ho:o.op=.load 138 x)
  (g p:Nat) (es:List Int) (hx:a.eval x=aF (aE ⟨g,p,aA⟩)) (h:Dj w g p es) (hK:K (a.put o.dst (aH (es.map (Value.int .u64)).toArray)) w):o.wp tP a w K Q:=by
 have hr:w.rangeAt g p (es.map (Value.int .u64)):=λj v hv=>by
  have hj:j<es.length:=by have:=(Ao.1 hv).1;simpa using this
  rw[h.2.2 j (AG h.2.1.1)];simp[hj] at hv;simp[hj,hv]
 have hl:=h.2.1.1;exact wp_load_mid 138 x ho g p hx (es.map (Value.int .u64)) _ hr underlying138 rfl (by rw[Tryz.sizeEl];simp[hl]) hK
theorem JJ {w:aC} {g:Nat} {x y z t:List Int} {o:Oper} {a:Act} {K:Act->aC->Prop} {Q:Exit->Act->aC->Prop} (pt:Pt w g x y z t) (px py:Operand) (ho:o.op=.store 138 px py)
  (es:List Int) (hx:a.eval px=aF (aE ⟨g,15,aA⟩)) (hy:a.eval py=aH (es.map (Value.int .u64)).toArray) (hk:Cs es)
  (hK:∀ w',Pt w' g x y z es->Wr g w w'->K (a.put o.dst undef) w'):o.wp tP a w K Q:=by
 have hsz:((es.map (Value.int .u64)).toArray).size=5:=by simp[hk.1]
 have hl:(pl x y z t).length=20:=by unfold pl;simp[pt.x.1,pt.y.1,pt.z.1,pt.t.1]
 refine wp_store_mid 138 px py ho g 15 ((es.map (Value.int .u64)).toArray) hx hy (by rw[hsz];exact λj hj=>⟨by rw[pt.row.cell (15+j) AJ];rfl,pt.row.frozen _⟩) (sizeEl hk.1) (all_oneCell_toArray (Aw _ _)) (hK _ ?_ (Wr.setCells _ _ 15 (Wr.refl _ _)));have hr:=Ch.setCells es (pl x y z t) w 15 pt.row;rw[Wi pt.x.1 pt.y.1 pt.z.1 pt.t.1 hk.1] at hr;exact⟨hr,pt.x,pt.y,pt.z,hk⟩
def TG (X Y:Int) (v:aB):Prop:=∃ ts,Cs ts/\ev ts=X*Y%fp/\v=aH (ts.map (Value.int .u64)).toArray
def Fh (zs:List Int):Int:=val 256 zs%(fp+19)
def SZ (zs:List Int):Bool:=val 256 zs/(fp+19) == 1
def Ki (zs:List Int):Int:=Wm (uF (Fh zs)) (vF (Fh zs))
def I7 (zs:List Int):Int:=if((Ki zs%2 == 1) != SZ zs)=true then(0-Ki zs)%fp else Ki zs
def LV (zs:List Int):Bool:=zs.length == 32 && decide (Fh zs<fp) && KD (uF (Fh zs)) (vF (Fh zs)) && ((I7 zs%2 == 1) == SZ zs)
def DC (w:aC) (g:Nat) (zs:List Int) (e:Ending) (w':aC):Prop:=
 ∃ x y z t,Pt w' g x y z t/\EN g w w'/\e=.returned (aG (LV zs))/\(LV zs=true->ev x=I7 zs/\ev y=Fh zs/\ev z=1/\ev t=I7 zs*Fh zs%fp)
theorem Wn (a b c d V:Int) (ha:0<=a) (ha':a<18446744073709551616) (hb:0<=b) (hb':b<18446744073709551616) (hc:0<=c) (hc':c<18446744073709551616) (hd:0<=d) (hd':d<18446744073709551616) (hV:val 18446744073709551616 [a,b,c,d]=V) :
  (d/9223372036854775808 == 1)=(V/(fp+19) == 1):=by
 have:d/9223372036854775808=V/(fp+19):=by
  subst hV;simp only[val,Er];omega
 rw[this]
theorem IA (g:Nat) (x y z t0:List Int) (p:Option Addr) (n cap:Nat) (zs:List Int) (w:aC) (hn:zs.length=n) (hm:n<=1048576) (ha:At .u8 w p zs) (hz:Ci zs) (hp:Pt w g x y z t0) :
  Calls tP 102 #[aF (aE ⟨g,0,aA⟩),.slice p n cap] w (DC w g zs):=by
 have HP:AO (Pt w g x y z t0):=hp;have hlt:=hp.row.lt;clear hp;by_cases h32:n=32
 ·have h32':((n:Int) == 32)=true:=by rw[h32];rfl
  have H32:AO (32<=n):=by show _<=_;omega
  have HLN:AO (zs.length=32):=by show _=_;omega
  have htk:zs.take 32=zs:=Ad AJ;clear h32;go_enter func102,ntmps102;go_wp2_with fail;have cl:=LA p n cap zs w hn H32.o hm ha hz;refine cl.mono ?_;rintro e w1 ⟨ms,hl,hw,hv,rfl,b1⟩;rw[htk] at hv
  match ms,hl with
  |[a,b,c,d],_=>
  obtain⟨a0,a1⟩:=hw.get 0;obtain⟨b0,b1'⟩:=hw.get 1;obtain⟨c0,c1⟩:=hw.get 2;obtain⟨d0,d1⟩:=hw.get 3;simp only[List.getD_cons_zero,List.getD_cons_succ] at a0 a1 b0 b1' c0 c1 d0 d1;have HO:AO ((d/9223372036854775808 == 1)=SZ zs):=Wn a b c d _ a0 a1 b0 b1' c0 c1 d0 d1 hv;have HY:AO (val C3 (Lj a b c d)=Fh zs):=by
   show _=_
   rw[Uk a b c d a0 a1 b0 b1' c0 c1 d0 d1,hv];rfl
  have HP1:AO (Pt w1 g x y z t0):=HP.o.below b1 hlt;have HW1:AO (EN g w w1):=EN.of_below b1;have HWD:AO (G4 [a,b,c,d]):=hw;clear HP b1 hv cl hw ha hz htk;have HZN:AO (Ch (w1.alloc (.cells CV 143)) w1.heap.size 143 [0,0,0,0]):=AX w1 _;have HSZ:AO ((tP.info? 143).map (·.size)=aE (([a,b,c,d].map (Value.int .u64)).toArray).size):=sizeNum rfl;go_wp2_with (first
   |(refine AE 143 (aM 5) (aM 11) w1.heap.size (([a,b,c,d].map (Value.int .u64)).toArray) 143 HZN.o HSZ.o rfl (all_oneCell_toArray (Aw _ _)) ?_)
   |fail)
  have R2:Ch ((w1.alloc (.cells CV 143)).setRow w1.heap.size #[Z8 .u64 a,Z8 .u64 b,Z8 .u64 c,Z8 .u64 d]) w1.heap.size 143 [a,b,c,d]:=HZN.o.setRow [a,b,c,d];have B2:Below w1.heap.size w1 ((w1.alloc (.cells CV 143)).setRow w1.heap.size #[Z8 .u64 a,Z8 .u64 b,Z8 .u64 c,Z8 .u64 d]):=(Cx _ _).trans ((Wr.setRow _ _ _).below Cl);have hlt1:=HP1.o.row.lt;generalize (w1.alloc (.cells CV 143)).setRow w1.heap.size #[Z8 .u64 a,Z8 .u64 b,Z8 .u64 c,Z8 .u64 d]=w2 at *;have HP2:AO (Pt w2 g x y z t0):=HP1.o.below B2 hlt1;have HW2:AO (EN g w w2):=HW1.o.trans (EN.of_below B2);have HR2:AO (Ch w2 w1.heap.size 143 [a,b,c,d]):=R2;clear R2 B2 HP1 HW1 HZN;generalize w1.heap.size=Gn at *;go_wp2_with fail;refine(N1 Gn [a,b,c,d] _ rfl HR2.o HWD.o).mono ?_;rintro e w2' ⟨rfl,rfl⟩;simp only[List.getD_cons_zero,List.getD_cons_succ];go_wp2_with (first
   |(refine Ae rfl 143 (aM 5) rfl Gn rfl 143 _ (0,0) _ HR2.o underlying143 rfl HSZ.o ?_)
   |fail)
  rw[HO.o];refine(KE a b c d _ a0 a1 b0 b1' c0 c1 d0 d1).mono ?_;rintro e w3 ⟨rfl,b3⟩;have HS3:AO (Cv w w3 g x y z t0 [] []):=⟨HW2.o.trans (EN.of_below b3),hlt,HP2.o.below b3 HP2.o.row.lt,AL,List.Pairwise.nil,AL⟩
  have HKlm:AO (Cs (Lj a b c d)/\val C3 (Lj a b c d)=Fh zs):=⟨SY a b c d,HY.o⟩
  have HLS:AO (Fo (Lj a b c d)=Lj a b c d↔Fh zs<fp):=by
   show _↔_
   rw[<-HY.o];exact QO a b c d
  clear b3 HP2 HW2 HR2 HO HSZ HWD HY;generalize Lj a b c d=ys at *;clear a0 a1 b0 b1' c0 c1 d0 d1;have HKys:AO (Cs ys/\ev ys=ev ys):=⟨HKlm.o.1,rfl⟩
  go_wp2_with (first
   |(refine Di HS3.o rfl (aM 18) (aM 16) rfl 5 AK ys x ys z t0 (Wh HS3.o.pt.x.1 HS3.o.pt.y.1 HKlm.o.1.1) ⟨HS3.o.pt.x,HKlm.o.1,HS3.o.pt.z,HS3.o.pt.t⟩ rfl rfl HKlm.o.1 rfl ?_)
   |fail)
  intro w4 S4;have HS4:AO (Cv w w4 g x ys z t0 [] []):=S4;clear S4 HS3;have HA:AO (∀(w' ww:aC),Below w'.heap.size w' ww->Pt w' g x ys z t0->Pt ww g x ys z t0):=λw' ww b h=>h.below b h.row.lt
  have hyl:=HKys.o.1.1;have hll:=Eg ys;by_cases hle:Fo ys=ys
  ·have HQ:AO (decide (ys=Fo ys)=true):=Al hle.symm;have HYL:AO (Fh zs<fp):=HLS.o.1 hle;have HEV:AO (ev ys=Fh zs):=by
    show _=_
    have:=(FO HKys.o.1).2.2;rw[hle,HKlm.o.2] at this;exact this.symm
   clear hle;have EX0:AO (FU w g 11 (λw1=>Pt w1 g x ys z t0) (λw1=>∃ xs,Cs xs/\ev xs=Ki zs/\Pt w1 g xs ys z t0) (λn=>(Array.replicate 14 false).getD n false) w4.drew):=⟨HS4.o.wrh.trans (EN.of_below Cg.drew),λ_=>⟨HS4.o.pt.row,HS4.o.pt.x,HS4.o.pt.y,HS4.o.pt.z,HS4.o.pt.t⟩,λq=>absurd q AL⟩
   have HB:AO (∀(w' ww:aC),Below w'.heap.size w' ww->(∃ xs,Cs xs/\ev xs=Ki zs/\Pt w' g xs ys z t0)->(∃ xs,Cs xs/\ev xs=Ki zs/\Pt ww g xs ys z t0)):=λw' ww b ⟨xs,h1,h2,h⟩=>⟨xs,h1,h2,h.below b h.row.lt⟩
   have REF:AO (∀ i,i≠11->∀(L:Nat->Bool) (w':aC),FU w g 11 (λw1=>Pt w1 g x ys z t0) (λw1=>∃ xs,Cs xs/\ev xs=Ki zs/\Pt w1 g xs ys z t0) L w'->FU w g 11 (λw1=>Pt w1 g x ys z t0) (λw1=>∃ xs,Cs xs/\ev xs=Ki zs/\Pt w1 g xs ys z t0) (Cf L i) w'):=λi hi L w' h=>FU.ref i hi h
   have YY:AO (∀(L:Nat->Bool) (w':aC),FU w g 11 (λw1=>Pt w1 g x ys z t0) (λw1=>∃ xs,Cs xs/\ev xs=Ki zs/\Pt w1 g xs ys z t0) L w'->Dj w' g 5 ys):=λL w' h=>by
    cases hL:L 11
    ·exact(h.2.1 hL).ey
    ·obtain⟨_,_,_,q⟩:=h.2.2 hL;exact q.ey
   go_wp2;refine Ag AM ?_;refine DE (λ_ _ _=>True) (frame:=(λ(a b c d e f g h i j k l m n o p q r s u v w x y z A B C D E F G H I J K L M N O P Q R S T U V W X Y Z a0:aB)=>λ(t:Nat->aB)=>({ tmps:=List.toArray [a,b,c,d,e,f,g,h,i,j,k,l,m,n,o,p,q,r,s,t 0,t 1,t 2,t 3,t 4,t 5,t 6,t 7,t 8,t 9,t 10,t 11,t 12,t 13,u,v,w,x,y,z,A,B,C,D,E,F,G,H,I,J,K,L,M,N,O,P,Q,R,S,T,U,V,W,X,Y,Z,a0],defers:=[] }:Act)) _ _ _ _ _ _ _ _ _ _ _ _ _ _ _ _ _ _ _ _ _ _ _ _ _ _ _ _ _ _ _ _ _ _ _ _ _ _ _ _ _ _ _ _ _ _ _ _ _ _ _ _)
    (Ext:=λL w'=>FU w g 11 (λw1=>Pt w1 g x ys z t0) (λw1=>∃ xs,Cs xs/\ev xs=Ki zs/\Pt w1 g xs ys z t0) L w') (Good:=λi L _ v=>if i=0 then v=aF (aE ⟨g,0,aA⟩) else if i=1 then v=aF (aE ⟨g,0,aA⟩) else if i=2 then v=aF (aE ⟨g,5,aA⟩) else if i=3 then v=aH (ys.map (Value.int .u64)).toArray else if i=4 then v=aF (aE ⟨g,0,aA⟩) else if i=5 then v=aF (aE ⟨g,0,aA⟩) else if i=6 then v=aF (aE ⟨g,5,aA⟩) else if i=7 then v=aH ((Fo ys).map (Value.int .u64)).toArray else if i=8 then v=aG false else if i=9 then v=aG false else if i=10 then v=aF (aE ⟨g,0,aA⟩) else if i=11 then v=aG (KD (uF (Fh zs)) (vF (Fh zs)))/\L 11=true else if i=12 then v=aG (!(KD (uF (Fh zs)) (vF (Fh zs)))) else if i=13 then v=aG (!(KD (uF (Fh zs)) (vF (Fh zs)))) else True) ?hstab AM ?hop ?hdone _ _ ((λ(x0 x1 x2 x3 x4 x5 x6 x7 x8 x9 x10 x11 x12 x13:aB)=>λ(i:Nat)=>if i=0 then x0 else if i=1 then x1 else if i=2 then x2 else if i=3 then x3 else if i=4 then x4 else if i=5 then x5 else if i=6 then x6 else if i=7 then x7 else if i=8 then x8 else if i=9 then x9 else if i=10 then x10 else if i=11 then x11 else if i=12 then x12 else if i=13 then x13 else undef) _ _ _ _ _ _ _ _ _ _ _ _ _ _) _ AL ?ext ?start AL
   case start=>intro i hi h;exact absurd h Et
   case ext=>exact EX0.o
   case hstab=>
    intro j L w w' i v _ _ _ h;by_cases hj:j=11
    ·subst hj;simp at h |-;exact⟨h.1,by unfold Cf;simp[h.2]⟩
    ·simp only[if_neg hj] at h |-;exact h
   case hop=>
    intro i o L t w' ho hLi hx hdep K hK;have hi:i<14:=(AR.1 ho).1;obtain rfl|rfl|rfl|rfl|rfl|rfl|rfl|rfl|rfl|rfl|rfl|rfl|rfl|rfl:i=0\/i=1\/i=2\/i=3\/i=4\/i=5\/i=6\/i=7\/i=8\/i=9\/i=10\/i=11\/i=12\/i=13:=AJ
    all_goals(simp at ho;subst ho)
    ·clear hdep;have hK':=hK w' (aF (aE ⟨g,0,aA⟩)) AL (REF.o 0 AK L w' hx) trivial;clear hK;rw[AP AN];go_simp;simpa[Ce] using hK'
    ·have d0:t 0=aF (aE ⟨g,0,aA⟩):=by simpa using hdep ⟨0,aL⟩ AL rfl
     clear hdep;have hK':=hK w' (aF (aE ⟨g,0,aA⟩)) AL (REF.o 1 AK L w' hx) trivial;clear hK;rw[AP AN];go_simp;simpa[Ce,d0] using hK'
    ·have d1:t 1=aF (aE ⟨g,0,aA⟩):=by simpa using hdep ⟨1,aL⟩ AL rfl
     clear hdep;have hK':=hK w' (aF (aE ⟨g,5,aA⟩)) AL (REF.o 2 AK L w' hx) trivial;clear hK;rw[AP AN];go_simp;simpa[Ce,d1] using hK'
    ·have d2:t 2=aF (aE ⟨g,5,aA⟩):=by simpa using hdep ⟨2,aL⟩ AL rfl
     clear hdep;have hK':=hK w' (aH (ys.map (Value.int .u64)).toArray) AL (REF.o 3 AK L w' hx) trivial;have ex:=YY.o L w' hx;clear hK;rw[AP AN];refine Mn (aM 21) rfl g 5 ys (show t 2=_ from d2) ex ?_;go_simp;simpa[Ce,d2] using hK'
    ·clear hdep;have hK':=hK w' (aF (aE ⟨g,0,aA⟩)) AL (REF.o 4 AK L w' hx) trivial;clear hK;rw[AP AN];go_simp;simpa[Ce] using hK'
    ·have d4:t 4=aF (aE ⟨g,0,aA⟩):=by simpa using hdep ⟨4,aL⟩ AL rfl
     clear hdep;have hK':=hK w' (aF (aE ⟨g,0,aA⟩)) AL (REF.o 5 AK L w' hx) trivial;clear hK;rw[AP AN];go_simp;simpa[Ce,d4] using hK'
    ·have d5:t 5=aF (aE ⟨g,0,aA⟩):=by simpa using hdep ⟨5,aL⟩ AL rfl
     clear hdep;have hK':=hK w' (aF (aE ⟨g,5,aA⟩)) AL (REF.o 6 AK L w' hx) trivial;clear hK;rw[AP AN];go_simp;simpa[Ce,d5] using hK'
    ·have d6:t 6=aF (aE ⟨g,5,aA⟩):=by simpa using hdep ⟨6,aL⟩ AL rfl
     clear hdep;have A:=Es g 5 ys w' (YY.o L w' hx);have hK':∀ ww,Below w'.heap.size w' ww->K _ ww:=λww b=>hK ww (aH ((Fo ys).map (Value.int .u64)).toArray) AL (FU.low 7 AK hx (λq=>HA.o _ _ b q) (λq=>HB.o _ _ b q) b) trivial
     clear hK;rw[AP AN];go_simp;refine A.mono ?_;rintro e w9 ⟨rfl,hb⟩;have hK2:=hK' w9 hb;clear hK' A hb;go_simp;simpa[Ce,d6] using hK2
    ·have d3:t 3=aH (ys.map (Value.int .u64)).toArray:=by simpa using hdep ⟨3,aL⟩ AL rfl
     have d7:t 7=aH ((Fo ys).map (Value.int .u64)).toArray:=by simpa using hdep ⟨7,aL⟩ AL rfl
     clear hdep;have hK':=hK w' (aG false) AL (REF.o 8 AK L w' hx) trivial;clear hK;rw[AP AN];go_simp;simp only[IF _ 9998 5 138 underlying138 ys (Fo ys) hyl hll,HQ.o,Result.andThen_ok];go_simp;simpa[Ce,d3,d7] using hK'
    ·have d8:t 8=aG false:=by simpa using hdep ⟨8,aL⟩ AL rfl
     clear hdep;have hK':=hK w' (aG false) AL (REF.o 9 AK L w' hx) trivial;clear hK;rw[AP AN];go_simp;simpa[Ce,d8] using hK'
    ·have d9:t 9=aG false:=by simpa using hdep ⟨9,.guard⟩ AL rfl
     clear hdep;have hK':=hK w' (aF (aE ⟨g,0,aA⟩)) AL (REF.o 10 AK L w' hx) trivial;clear hK;rw[AP (by simp[Region.wanted,yielded,d9])];go_simp;simpa[Ce,d9] using hK'
    ·have d10:t 10=aF (aE ⟨g,0,aA⟩):=by simpa using hdep ⟨10,aL⟩ AL rfl
     have d9:t 9=aG false:=by simpa using hdep ⟨9,.guard⟩ AL rfl
     clear hdep;have A:=QN g x ys z t0 w' (hx.2.1 hLi);rw[HEV.o] at A;have hK':∀ ww,(∃ xs,Cs xs/\ev xs=Ki zs/\Pt ww g xs ys z t0)->EN g w' ww->K _ ww:=λww hq hw=>hK ww (aG (KD (uF (Fh zs)) (vF (Fh zs)))) (by simp[Cf]) ⟨hx.1.trans hw,λq=>absurd q (by rw[F1];decide),λ_=>hq⟩ trivial
     clear hK;rw[AP (by simp[Region.wanted,yielded,d9])];go_simp;refine A.mono ?_;rintro e w9 ⟨xs,hk,rfl,hv,hp,hw⟩;have hK2:=hK' w9 ⟨xs,hk,hv,hp⟩ hw;clear hK' A hk hv hp hw;go_simp;simpa[Ce,d9,d10] using hK2
    ·have d11:t 11=aG (KD (uF (Fh zs)) (vF (Fh zs)))/\L 11=true:=by simpa using hdep ⟨11,aL⟩ AL rfl
     have d9:t 9=aG false:=by simpa using hdep ⟨9,.guard⟩ AL rfl
     clear hdep;have hK':=hK w' (aG (!(KD (uF (Fh zs)) (vF (Fh zs))))) AL (REF.o 12 AK L w' hx) trivial;clear hK;rw[AP (by simp[Region.wanted,yielded,d9])];go_simp;simpa[Ce,d9,d11] using hK'
    ·have d9:t 9=aG false:=by simpa using hdep ⟨9,aL⟩ AL rfl
     have d12:t 12=aG (!(KD (uF (Fh zs)) (vF (Fh zs)))):=by simpa using hdep ⟨12,aL⟩ AL rfl
     clear hdep;have hK':=hK w' (aG (!(KD (uF (Fh zs)) (vF (Fh zs))))) AL (REF.o 13 AK L w' hx) trivial;clear hK;rw[AP AN];go_simp;simpa[Ce,d9,d12] using hK'
   case hdone=>
    intro L t w' hx hg;have d0:t 0=aF (aE ⟨g,0,aA⟩):=by simpa using hg 0 AK
    have d1:t 1=aF (aE ⟨g,0,aA⟩):=by simpa using hg 1 AK
    have d2:t 2=aF (aE ⟨g,5,aA⟩):=by simpa using hg 2 AK
    have d3:t 3=aH (ys.map (Value.int .u64)).toArray:=by simpa using hg 3 AK
    have d4:t 4=aF (aE ⟨g,0,aA⟩):=by simpa using hg 4 AK
    have d5:t 5=aF (aE ⟨g,0,aA⟩):=by simpa using hg 5 AK
    have d6:t 6=aF (aE ⟨g,5,aA⟩):=by simpa using hg 6 AK
    have d7:t 7=aH ((Fo ys).map (Value.int .u64)).toArray:=by simpa using hg 7 AK
    have d8:t 8=aG false:=by simpa using hg 8 AK
    have d9:t 9=aG false:=by simpa using hg 9 AK
    have d10:t 10=aF (aE ⟨g,0,aA⟩):=by simpa using hg 10 AK
    have d11:t 11=aG (KD (uF (Fh zs)) (vF (Fh zs)))/\L 11=true:=by simpa using hg 11 AK
    have d12:t 12=aG (!(KD (uF (Fh zs)) (vF (Fh zs)))):=by simpa using hg 12 AK
    have d13:t 13=aG (!(KD (uF (Fh zs)) (vF (Fh zs)))):=by simpa using hg 13 AK
    clear hg;obtain⟨xs,hk,hv,hpt⟩:=hx.2.2 d11.2;have HS5:AO (Cv w w' g xs ys z t0 [] []):=⟨hx.1,hlt,hpt,AL,List.Pairwise.nil,AL⟩
    have HKxs:AO (Cs xs/\ev xs=Ki zs):=⟨hk,hv⟩
    clear hx HS4 HA EX0 REF YY HQ HB hk hv hpt;dsimp only;rw[d0,d1,d2,d3,d4,d5,d6,d7,d8,d9,d10,d11.1,d12,d13];clear d0 d1 d2 d3 d4 d5 d6 d7 d8 d9 d10 d11 d12 d13;cases hr:KD (uF (Fh zs)) (vF (Fh zs))
    ·have HDR:AO (LV zs=false):=by
      show _=_
      unfold LV;rw[hr];simp
     clear hr;go_wp2
     go_ret
     refine⟨xs,ys,z,t0,HS5.o.pt,HS5.o.wrh,by rw[HDR.o];rfl,λh=>?_⟩;rw[HDR.o] at h;cases h
    ·have HDR:AO (LV zs=((I7 zs%2 == 1) == SZ zs)):=by
      show _=_
      unfold LV;rw[hr,Al HYL.o,show(zs.length == 32)=true from by rw[HLN.o];rfl];simp
     clear hr;go_wp2_with fail;refine(FT g 0 xs _ HS5.o.pt.ex).mono ?_;rintro e w6 ⟨rfl,b⟩;rw[HKxs.o.2];have HS6:AO (Cv w w6 g xs ys z t0 [] []):=HS5.o.call b;clear b HS5 HKlm HLS HYL HKys;have HXD:AO (I7 zs=if((Ki zs%2 == 1) != SZ zs)=true then(0-Ki zs)%fp else Ki zs):=rfl;obtain⟨od,hod⟩:∃ od,od=SZ zs:=⟨_,rfl⟩
     obtain⟨o1,ho1⟩:∃ o1,o1=(Ki zs%2 == 1):=⟨_,rfl⟩
     rw[<-hod,<-ho1];have HOD:AO (od=SZ zs):=hod;have HXE:AO (I7 zs=if(o1 != od)=true then(0-Ki zs)%fp else Ki zs):=by
      show _=_
      rw[HXD.o,<-hod,<-ho1]
     clear hod ho1 HXD;cases od
     ·cases o1
      ·have HKns:AO (Cs xs/\ev xs=I7 zs):=⟨HKxs.o.1,by rw[HKxs.o.2,HXE.o];rfl⟩
       have HS8:AO (Cv w w6 g xs ys z t0 [] []):=HS6.o;clear HS6 HKxs;generalize hxn:xs=ns at *;clear hxn;go_wp2_with (first
        |(refine Di HS8.o rfl (aM 49) (aM 47) rfl 10 AK Cr ns ys Cr t0 (LU HS8.o.pt.x.1 HS8.o.pt.y.1 HS8.o.pt.z.1 Ei.1) ⟨HS8.o.pt.x,HS8.o.pt.y,Ei,HS8.o.pt.t⟩ rfl rfl Ei rfl ?_)
        |fail)
       intro wa Sa;have HSa:AO (Cv w wa g ns ys Cr t0 [] []):=Sa;clear Sa HS8;have EX0:AO (FU w g 10 (λw1=>Pt w1 g ns ys Cr t0) (λw1=>∃ ts,Cs ts/\ev ts=ev ns*ev ys%fp/\Pt w1 g ns ys Cr ts) (λn=>(Array.replicate 11 false).getD n false) wa.drew):=⟨HSa.o.wrh.trans (EN.of_below Cg.drew),λ_=>⟨HSa.o.pt.row,HSa.o.pt.x,HSa.o.pt.y,HSa.o.pt.z,HSa.o.pt.t⟩,λq=>absurd q AL⟩
       have HA:AO (∀(w' ww:aC),Below w'.heap.size w' ww->Pt w' g ns ys Cr t0->Pt ww g ns ys Cr t0):=λw' ww b h=>h.below b h.row.lt
       have HB:AO (∀(w' ww:aC),Below w'.heap.size w' ww->(∃ ts,Cs ts/\ev ts=ev ns*ev ys%fp/\Pt w' g ns ys Cr ts)->(∃ ts,Cs ts/\ev ts=ev ns*ev ys%fp/\Pt ww g ns ys Cr ts)):=λw' ww b ⟨ts,h1,h2,h⟩=>⟨ts,h1,h2,h.below b h.row.lt⟩
       have REF:AO (∀ i,i≠10->∀(L:Nat->Bool) (w':aC),FU w g 10 (λw1=>Pt w1 g ns ys Cr t0) (λw1=>∃ ts,Cs ts/\ev ts=ev ns*ev ys%fp/\Pt w1 g ns ys Cr ts) L w'->FU w g 10 (λw1=>Pt w1 g ns ys Cr t0) (λw1=>∃ ts,Cs ts/\ev ts=ev ns*ev ys%fp/\Pt w1 g ns ys Cr ts) (Cf L i) w'):=λi hi L w' h=>FU.ref i hi h
       have YY:AO (∀(L:Nat->Bool) (w':aC),FU w g 10 (λw1=>Pt w1 g ns ys Cr t0) (λw1=>∃ ts,Cs ts/\ev ts=ev ns*ev ys%fp/\Pt w1 g ns ys Cr ts) L w'->Dj w' g 0 ns/\Dj w' g 5 ys):=λL w' h=>by
        cases hL:L 10
        ·exact⟨(h.2.1 hL).ex,(h.2.1 hL).ey⟩
        ·obtain⟨_,_,_,q⟩:=h.2.2 hL;exact⟨q.ex,q.ey⟩
       go_wp2;refine Ag AM ?_;refine DE (λ_ _ _=>True) (frame:=(λ(a b c d e f g h i j k l m n o p q r s u v w x y z A B C D E F G H I J K L M N O P Q R S T U V W X Y Z a0 a1 a2 a3 a4:aB)=>λ(t:Nat->aB)=>({ tmps:=List.toArray [a,b,c,d,e,f,g,h,i,j,k,l,m,n,o,p,q,r,s,u,v,w,x,y,z,A,B,C,D,E,F,G,H,I,J,K,L,M,N,O,P,Q,R,S,T,U,V,W,X,Y,t 0,t 1,t 2,t 3,t 4,t 5,t 6,t 7,t 8,t 9,Z,a0,a1,a2,a3,a4],defers:=[] }:Act)) _ _ _ _ _ _ _ _ _ _ _ _ _ _ _ _ _ _ _ _ _ _ _ _ _ _ _ _ _ _ _ _ _ _ _ _ _ _ _ _ _ _ _ _ _ _ _ _ _ _ _ _ _ _ _ _)
        (Ext:=λL w'=>FU w g 10 (λw1=>Pt w1 g ns ys Cr t0) (λw1=>∃ ts,Cs ts/\ev ts=ev ns*ev ys%fp/\Pt w1 g ns ys Cr ts) L w') (Good:=λi L _ v=>if i=0 then v=aF (aE ⟨g,0,aA⟩) else if i=1 then v=aF (aE ⟨g,0,aA⟩) else if i=2 then v=aF (aE ⟨g,0,aA⟩) else if i=3 then v=aF (aE ⟨g,0,aA⟩) else if i=4 then v=aF (aE ⟨g,0,aA⟩) else if i=5 then v=aF (aE ⟨g,0,aA⟩) else if i=6 then v=aF (aE ⟨g,5,aA⟩) else if i=7 then TG (ev ns) (ev ys) (v) else if i=8 then v=aF (aE ⟨g,0,aA⟩) else if i=9 then v=aF (aE ⟨g,15,aA⟩) else if i=10 then v=undef/\L 10=true else True) ?hstab AM ?hop ?hdone _ _ ((λ(x0 x1 x2 x3 x4 x5 x6 x7 x8 x9:aB)=>λ(i:Nat)=>if i=0 then x0 else if i=1 then x1 else if i=2 then x2 else if i=3 then x3 else if i=4 then x4 else if i=5 then x5 else if i=6 then x6 else if i=7 then x7 else if i=8 then x8 else if i=9 then x9 else undef) _ _ _ _ _ _ _ _ _ _) _ AL ?ext ?start AL
       case start=>intro i hi h;exact absurd h Et
       case ext=>exact EX0.o
       case hstab=>
        intro j L w w' i v _ _ _ h;by_cases hj:j=10
        ·subst hj;simp at h |-;exact⟨h.1,by unfold Cf;simp[h.2]⟩
        ·simp only[if_neg hj] at h |-;exact h
       case hop=>
        intro i o L t w' ho hLi hx hdep K hK;have hi:i<11:=(AR.1 ho).1;obtain rfl|rfl|rfl|rfl|rfl|rfl|rfl|rfl|rfl|rfl|rfl:i=0\/i=1\/i=2\/i=3\/i=4\/i=5\/i=6\/i=7\/i=8\/i=9\/i=10:=AJ
        all_goals(simp at ho;subst ho)
        ·clear hdep;have hK':=hK w' (aF (aE ⟨g,0,aA⟩)) AL (REF.o 0 AK L w' hx) trivial;clear hK;rw[AP AN];go_simp;simpa[Ce] using hK'
        ·clear hdep;have hK':=hK w' (aF (aE ⟨g,0,aA⟩)) AL (REF.o 1 AK L w' hx) trivial;clear hK;rw[AP AN];go_simp;simpa[Ce] using hK'
        ·have d1:t 1=aF (aE ⟨g,0,aA⟩):=by simpa using hdep ⟨1,aL⟩ AL rfl
         clear hdep;have hK':=hK w' (aF (aE ⟨g,0,aA⟩)) AL (REF.o 2 AK L w' hx) trivial;clear hK;rw[AP AN];go_simp;simpa[Ce,d1] using hK'
        ·have d2:t 2=aF (aE ⟨g,0,aA⟩):=by simpa using hdep ⟨2,aL⟩ AL rfl
         clear hdep;have hK':=hK w' (aF (aE ⟨g,0,aA⟩)) AL (REF.o 3 AK L w' hx) trivial;clear hK;rw[AP AN];go_simp;simpa[Ce,d2] using hK'
        ·clear hdep;have hK':=hK w' (aF (aE ⟨g,0,aA⟩)) AL (REF.o 4 AK L w' hx) trivial;clear hK;rw[AP AN];go_simp;simpa[Ce] using hK'
        ·have d4:t 4=aF (aE ⟨g,0,aA⟩):=by simpa using hdep ⟨4,aL⟩ AL rfl
         clear hdep;have hK':=hK w' (aF (aE ⟨g,0,aA⟩)) AL (REF.o 5 AK L w' hx) trivial;clear hK;rw[AP AN];go_simp;simpa[Ce,d4] using hK'
        ·have d5:t 5=aF (aE ⟨g,0,aA⟩):=by simpa using hdep ⟨5,aL⟩ AL rfl
         clear hdep;have hK':=hK w' (aF (aE ⟨g,5,aA⟩)) AL (REF.o 6 AK L w' hx) trivial;clear hK;rw[AP AN];go_simp;simpa[Ce,d5] using hK'
        ·have d3:t 3=aF (aE ⟨g,0,aA⟩):=by simpa using hdep ⟨3,aL⟩ AL rfl
         have d6:t 6=aF (aE ⟨g,5,aA⟩):=by simpa using hdep ⟨6,aL⟩ AL rfl
         clear hdep;have A:=Ct g 0 g 5 ns ys w' (YY.o L w' hx).1 (YY.o L w' hx).2;have hK':∀ ww ts,Cs ts->ev ts=ev ns*ev ys%fp->Below w'.heap.size w' ww->K _ ww:=λww ts h1 h2 b=>hK ww (aH (ts.map (Value.int .u64)).toArray) (by simp;exact⟨ts,h1,h2,rfl⟩) (FU.low 7 AK hx (λq=>HA.o _ _ b q) (λq=>HB.o _ _ b q) b) trivial
         clear hK;rw[AP AN];go_simp;refine A.mono ?_;rintro e w9 ⟨ts,h1,h2,rfl,hb⟩;have hK2:=hK' w9 ts h1 h2 hb;clear hK' A hb h1 h2;go_simp;simpa[Ce,d3,d6] using hK2
        ·have d0:t 0=aF (aE ⟨g,0,aA⟩):=by simpa using hdep ⟨0,aL⟩ AL rfl
         clear hdep;have hK':=hK w' (aF (aE ⟨g,0,aA⟩)) AL (REF.o 8 AK L w' hx) trivial;clear hK;rw[AP AN];go_simp;simpa[Ce,d0] using hK'
        ·have d8:t 8=aF (aE ⟨g,0,aA⟩):=by simpa using hdep ⟨8,aL⟩ AL rfl
         clear hdep;have hK':=hK w' (aF (aE ⟨g,15,aA⟩)) AL (REF.o 9 AK L w' hx) trivial;clear hK;rw[AP AN];go_simp;simpa[Ce,d8] using hK'
        ·have d9:t 9=aF (aE ⟨g,15,aA⟩):=by simpa using hdep ⟨9,aL⟩ AL rfl
         have d7:TG (ev ns) (ev ys) (t 7):=by simpa using hdep ⟨7,aL⟩ AL rfl
         clear hdep;obtain⟨ts,h1,h2,h3⟩:=d7;rw[AP AN];refine JJ (hx.2.1 hLi) (aM 59) (aM 57) rfl ts (show t 9=_ from d9) (show t 7=_ from h3) h1 ?_;intro ww hp hw;have hK':=hK ww undef (by simp[Cf]) ⟨hx.1.trans hw.wrH,λq=>absurd q (by rw[F1];decide),λ_=>⟨ts,h1,h2,hp⟩⟩ trivial;clear hK;go_simp;simpa[Ce,d9,h3] using hK'
       case hdone=>
        intro L t w' hx hg;have d0:t 0=aF (aE ⟨g,0,aA⟩):=by simpa using hg 0 AK
        have d1:t 1=aF (aE ⟨g,0,aA⟩):=by simpa using hg 1 AK
        have d2:t 2=aF (aE ⟨g,0,aA⟩):=by simpa using hg 2 AK
        have d3:t 3=aF (aE ⟨g,0,aA⟩):=by simpa using hg 3 AK
        have d4:t 4=aF (aE ⟨g,0,aA⟩):=by simpa using hg 4 AK
        have d5:t 5=aF (aE ⟨g,0,aA⟩):=by simpa using hg 5 AK
        have d6:t 6=aF (aE ⟨g,5,aA⟩):=by simpa using hg 6 AK
        have d7:TG (ev ns) (ev ys) (t 7):=by simpa using hg 7 AK
        have d8:t 8=aF (aE ⟨g,0,aA⟩):=by simpa using hg 8 AK
        have d9:t 9=aF (aE ⟨g,15,aA⟩):=by simpa using hg 9 AK
        have d10:t 10=undef/\L 10=true:=by simpa using hg 10 AK
        clear hg;obtain⟨ts,hk,hv,hpt⟩:=hx.2.2 d10.2;obtain⟨ts',_,_,e7⟩:=d7;have HSb:AO (Cv w w' g ns ys Cr ts [] []):=⟨hx.1,hlt,hpt,AL,List.Pairwise.nil,AL⟩
        have HKts:AO (Cs ts/\ev ts=I7 zs*Fh zs%fp):=⟨hk,by rw[hv,HKns.o.2,HEV.o]⟩
        clear hx HSa HA EX0 REF YY HB hk hv hpt;dsimp only;rw[d0,d1,d2,d3,d4,d5,d6,e7,d8,d9];clear d0 d1 d2 d3 d4 d5 d6 e7 d8 d9 d10;go_wp2_with fail;refine(FT g 0 ns _ HSb.o.pt.ex).mono ?_;rintro e wc ⟨rfl,b⟩;rw[HKns.o.2];have HSc:AO (Cv w wc g ns ys Cr ts [] []):=HSb.o.call b;clear b HSb;obtain⟨o2,ho2⟩:∃ o2,o2=(I7 zs%2 == 1):=⟨_,rfl⟩
        rw[<-ho2];have HDD:AO (LV zs=(o2 == false)):=by
         show _=_
         rw[HDR.o,<-ho2,<-HOD.o]
        clear ho2;go_wp2
        go_ret
        exact⟨ns,ys,Cr,ts,HSc.o.pt,HSc.o.wrh,by rw[HDD.o];cases o2<;>rfl,λ_=>⟨HKns.o.2,HEV.o,AK,HKts.o.2⟩⟩
      ·go_wp2_with fail;refine(Gm g 0 xs _ HS6.o.pt.ex).mono ?_;rintro e w7 ⟨ns,hk,hv,rfl,b⟩;have HKns:AO (Cs ns/\ev ns=I7 zs):=⟨hk,by rw[hv,HKxs.o.2,HXE.o];rfl⟩
       have HS7:AO (Cv w w7 g xs ys z t0 [] []):=HS6.o.call b;clear hk hv b HS6;go_wp2_with (first
        |(refine Di HS7.o rfl (aM 45) (aM 43) rfl 0 AK ns ns ys z t0 (LT HS7.o.pt.x.1 HKns.o.1.1) ⟨HKns.o.1,HS7.o.pt.y,HS7.o.pt.z,HS7.o.pt.t⟩ rfl rfl HKns.o.1 rfl ?_)
        |fail)
       intro w8 S8;have HS8:AO (Cv w w8 g ns ys z t0 [] []):=S8;clear S8 HS7;go_wp2_with (first
        |(refine Di HS8.o rfl (aM 49) (aM 47) rfl 10 AK Cr ns ys Cr t0 (LU HS8.o.pt.x.1 HS8.o.pt.y.1 HS8.o.pt.z.1 Ei.1) ⟨HS8.o.pt.x,HS8.o.pt.y,Ei,HS8.o.pt.t⟩ rfl rfl Ei rfl ?_)
        |fail)
       intro wa Sa;have HSa:AO (Cv w wa g ns ys Cr t0 [] []):=Sa;clear Sa HS8;have EX0:AO (FU w g 10 (λw1=>Pt w1 g ns ys Cr t0) (λw1=>∃ ts,Cs ts/\ev ts=ev ns*ev ys%fp/\Pt w1 g ns ys Cr ts) (λn=>(Array.replicate 11 false).getD n false) wa.drew):=⟨HSa.o.wrh.trans (EN.of_below Cg.drew),λ_=>⟨HSa.o.pt.row,HSa.o.pt.x,HSa.o.pt.y,HSa.o.pt.z,HSa.o.pt.t⟩,λq=>absurd q AL⟩
       have HA:AO (∀(w' ww:aC),Below w'.heap.size w' ww->Pt w' g ns ys Cr t0->Pt ww g ns ys Cr t0):=λw' ww b h=>h.below b h.row.lt
       have HB:AO (∀(w' ww:aC),Below w'.heap.size w' ww->(∃ ts,Cs ts/\ev ts=ev ns*ev ys%fp/\Pt w' g ns ys Cr ts)->(∃ ts,Cs ts/\ev ts=ev ns*ev ys%fp/\Pt ww g ns ys Cr ts)):=λw' ww b ⟨ts,h1,h2,h⟩=>⟨ts,h1,h2,h.below b h.row.lt⟩
       have REF:AO (∀ i,i≠10->∀(L:Nat->Bool) (w':aC),FU w g 10 (λw1=>Pt w1 g ns ys Cr t0) (λw1=>∃ ts,Cs ts/\ev ts=ev ns*ev ys%fp/\Pt w1 g ns ys Cr ts) L w'->FU w g 10 (λw1=>Pt w1 g ns ys Cr t0) (λw1=>∃ ts,Cs ts/\ev ts=ev ns*ev ys%fp/\Pt w1 g ns ys Cr ts) (Cf L i) w'):=λi hi L w' h=>FU.ref i hi h
       have YY:AO (∀(L:Nat->Bool) (w':aC),FU w g 10 (λw1=>Pt w1 g ns ys Cr t0) (λw1=>∃ ts,Cs ts/\ev ts=ev ns*ev ys%fp/\Pt w1 g ns ys Cr ts) L w'->Dj w' g 0 ns/\Dj w' g 5 ys):=λL w' h=>by
        cases hL:L 10
        ·exact⟨(h.2.1 hL).ex,(h.2.1 hL).ey⟩
        ·obtain⟨_,_,_,q⟩:=h.2.2 hL;exact⟨q.ex,q.ey⟩
       go_wp2;refine Ag AM ?_;refine DE (λ_ _ _=>True) (frame:=(λ(a b c d e f g h i j k l m n o p q r s u v w x y z A B C D E F G H I J K L M N O P Q R S T U V W X Y Z a0 a1 a2 a3 a4:aB)=>λ(t:Nat->aB)=>({ tmps:=List.toArray [a,b,c,d,e,f,g,h,i,j,k,l,m,n,o,p,q,r,s,u,v,w,x,y,z,A,B,C,D,E,F,G,H,I,J,K,L,M,N,O,P,Q,R,S,T,U,V,W,X,Y,t 0,t 1,t 2,t 3,t 4,t 5,t 6,t 7,t 8,t 9,Z,a0,a1,a2,a3,a4],defers:=[] }:Act)) _ _ _ _ _ _ _ _ _ _ _ _ _ _ _ _ _ _ _ _ _ _ _ _ _ _ _ _ _ _ _ _ _ _ _ _ _ _ _ _ _ _ _ _ _ _ _ _ _ _ _ _ _ _ _ _)
        (Ext:=λL w'=>FU w g 10 (λw1=>Pt w1 g ns ys Cr t0) (λw1=>∃ ts,Cs ts/\ev ts=ev ns*ev ys%fp/\Pt w1 g ns ys Cr ts) L w') (Good:=λi L _ v=>if i=0 then v=aF (aE ⟨g,0,aA⟩) else if i=1 then v=aF (aE ⟨g,0,aA⟩) else if i=2 then v=aF (aE ⟨g,0,aA⟩) else if i=3 then v=aF (aE ⟨g,0,aA⟩) else if i=4 then v=aF (aE ⟨g,0,aA⟩) else if i=5 then v=aF (aE ⟨g,0,aA⟩) else if i=6 then v=aF (aE ⟨g,5,aA⟩) else if i=7 then TG (ev ns) (ev ys) (v) else if i=8 then v=aF (aE ⟨g,0,aA⟩) else if i=9 then v=aF (aE ⟨g,15,aA⟩) else if i=10 then v=undef/\L 10=true else True) ?hstab AM ?hop ?hdone _ _ ((λ(x0 x1 x2 x3 x4 x5 x6 x7 x8 x9:aB)=>λ(i:Nat)=>if i=0 then x0 else if i=1 then x1 else if i=2 then x2 else if i=3 then x3 else if i=4 then x4 else if i=5 then x5 else if i=6 then x6 else if i=7 then x7 else if i=8 then x8 else if i=9 then x9 else undef) _ _ _ _ _ _ _ _ _ _) _ AL ?ext ?start AL
       case start=>intro i hi h;exact absurd h Et
       case ext=>exact EX0.o
       case hstab=>
        intro j L w w' i v _ _ _ h;by_cases hj:j=10
        ·subst hj;simp at h |-;exact⟨h.1,by unfold Cf;simp[h.2]⟩
        ·simp only[if_neg hj] at h |-;exact h
       case hop=>
        intro i o L t w' ho hLi hx hdep K hK;have hi:i<11:=(AR.1 ho).1;obtain rfl|rfl|rfl|rfl|rfl|rfl|rfl|rfl|rfl|rfl|rfl:i=0\/i=1\/i=2\/i=3\/i=4\/i=5\/i=6\/i=7\/i=8\/i=9\/i=10:=AJ
        all_goals(simp at ho;subst ho)
        ·clear hdep;have hK':=hK w' (aF (aE ⟨g,0,aA⟩)) AL (REF.o 0 AK L w' hx) trivial;clear hK;rw[AP AN];go_simp;simpa[Ce] using hK'
        ·clear hdep;have hK':=hK w' (aF (aE ⟨g,0,aA⟩)) AL (REF.o 1 AK L w' hx) trivial;clear hK;rw[AP AN];go_simp;simpa[Ce] using hK'
        ·have d1:t 1=aF (aE ⟨g,0,aA⟩):=by simpa using hdep ⟨1,aL⟩ AL rfl
         clear hdep;have hK':=hK w' (aF (aE ⟨g,0,aA⟩)) AL (REF.o 2 AK L w' hx) trivial;clear hK;rw[AP AN];go_simp;simpa[Ce,d1] using hK'
        ·have d2:t 2=aF (aE ⟨g,0,aA⟩):=by simpa using hdep ⟨2,aL⟩ AL rfl
         clear hdep;have hK':=hK w' (aF (aE ⟨g,0,aA⟩)) AL (REF.o 3 AK L w' hx) trivial;clear hK;rw[AP AN];go_simp;simpa[Ce,d2] using hK'
        ·clear hdep;have hK':=hK w' (aF (aE ⟨g,0,aA⟩)) AL (REF.o 4 AK L w' hx) trivial;clear hK;rw[AP AN];go_simp;simpa[Ce] using hK'
        ·have d4:t 4=aF (aE ⟨g,0,aA⟩):=by simpa using hdep ⟨4,aL⟩ AL rfl
         clear hdep;have hK':=hK w' (aF (aE ⟨g,0,aA⟩)) AL (REF.o 5 AK L w' hx) trivial;clear hK;rw[AP AN];go_simp;simpa[Ce,d4] using hK'
        ·have d5:t 5=aF (aE ⟨g,0,aA⟩):=by simpa using hdep ⟨5,aL⟩ AL rfl
         clear hdep;have hK':=hK w' (aF (aE ⟨g,5,aA⟩)) AL (REF.o 6 AK L w' hx) trivial;clear hK;rw[AP AN];go_simp;simpa[Ce,d5] using hK'
        ·have d3:t 3=aF (aE ⟨g,0,aA⟩):=by simpa using hdep ⟨3,aL⟩ AL rfl
         have d6:t 6=aF (aE ⟨g,5,aA⟩):=by simpa using hdep ⟨6,aL⟩ AL rfl
         clear hdep;have A:=Ct g 0 g 5 ns ys w' (YY.o L w' hx).1 (YY.o L w' hx).2;have hK':∀ ww ts,Cs ts->ev ts=ev ns*ev ys%fp->Below w'.heap.size w' ww->K _ ww:=λww ts h1 h2 b=>hK ww (aH (ts.map (Value.int .u64)).toArray) (by simp;exact⟨ts,h1,h2,rfl⟩) (FU.low 7 AK hx (λq=>HA.o _ _ b q) (λq=>HB.o _ _ b q) b) trivial
         clear hK;rw[AP AN];go_simp;refine A.mono ?_;rintro e w9 ⟨ts,h1,h2,rfl,hb⟩;have hK2:=hK' w9 ts h1 h2 hb;clear hK' A hb h1 h2;go_simp;simpa[Ce,d3,d6] using hK2
        ·have d0:t 0=aF (aE ⟨g,0,aA⟩):=by simpa using hdep ⟨0,aL⟩ AL rfl
         clear hdep;have hK':=hK w' (aF (aE ⟨g,0,aA⟩)) AL (REF.o 8 AK L w' hx) trivial;clear hK;rw[AP AN];go_simp;simpa[Ce,d0] using hK'
        ·have d8:t 8=aF (aE ⟨g,0,aA⟩):=by simpa using hdep ⟨8,aL⟩ AL rfl
         clear hdep;have hK':=hK w' (aF (aE ⟨g,15,aA⟩)) AL (REF.o 9 AK L w' hx) trivial;clear hK;rw[AP AN];go_simp;simpa[Ce,d8] using hK'
        ·have d9:t 9=aF (aE ⟨g,15,aA⟩):=by simpa using hdep ⟨9,aL⟩ AL rfl
         have d7:TG (ev ns) (ev ys) (t 7):=by simpa using hdep ⟨7,aL⟩ AL rfl
         clear hdep;obtain⟨ts,h1,h2,h3⟩:=d7;rw[AP AN];refine JJ (hx.2.1 hLi) (aM 59) (aM 57) rfl ts (show t 9=_ from d9) (show t 7=_ from h3) h1 ?_;intro ww hp hw;have hK':=hK ww undef (by simp[Cf]) ⟨hx.1.trans hw.wrH,λq=>absurd q (by rw[F1];decide),λ_=>⟨ts,h1,h2,hp⟩⟩ trivial;clear hK;go_simp;simpa[Ce,d9,h3] using hK'
       case hdone=>
        intro L t w' hx hg;have d0:t 0=aF (aE ⟨g,0,aA⟩):=by simpa using hg 0 AK
        have d1:t 1=aF (aE ⟨g,0,aA⟩):=by simpa using hg 1 AK
        have d2:t 2=aF (aE ⟨g,0,aA⟩):=by simpa using hg 2 AK
        have d3:t 3=aF (aE ⟨g,0,aA⟩):=by simpa using hg 3 AK
        have d4:t 4=aF (aE ⟨g,0,aA⟩):=by simpa using hg 4 AK
        have d5:t 5=aF (aE ⟨g,0,aA⟩):=by simpa using hg 5 AK
        have d6:t 6=aF (aE ⟨g,5,aA⟩):=by simpa using hg 6 AK
        have d7:TG (ev ns) (ev ys) (t 7):=by simpa using hg 7 AK
        have d8:t 8=aF (aE ⟨g,0,aA⟩):=by simpa using hg 8 AK
        have d9:t 9=aF (aE ⟨g,15,aA⟩):=by simpa using hg 9 AK
        have d10:t 10=undef/\L 10=true:=by simpa using hg 10 AK
        clear hg;obtain⟨ts,hk,hv,hpt⟩:=hx.2.2 d10.2;obtain⟨ts',_,_,e7⟩:=d7;have HSb:AO (Cv w w' g ns ys Cr ts [] []):=⟨hx.1,hlt,hpt,AL,List.Pairwise.nil,AL⟩
        have HKts:AO (Cs ts/\ev ts=I7 zs*Fh zs%fp):=⟨hk,by rw[hv,HKns.o.2,HEV.o]⟩
        clear hx HSa HA EX0 REF YY HB hk hv hpt;dsimp only;rw[d0,d1,d2,d3,d4,d5,d6,e7,d8,d9];clear d0 d1 d2 d3 d4 d5 d6 e7 d8 d9 d10;go_wp2_with fail;refine(FT g 0 ns _ HSb.o.pt.ex).mono ?_;rintro e wc ⟨rfl,b⟩;rw[HKns.o.2];have HSc:AO (Cv w wc g ns ys Cr ts [] []):=HSb.o.call b;clear b HSb;obtain⟨o2,ho2⟩:∃ o2,o2=(I7 zs%2 == 1):=⟨_,rfl⟩
        rw[<-ho2];have HDD:AO (LV zs=(o2 == false)):=by
         show _=_
         rw[HDR.o,<-ho2,<-HOD.o]
        clear ho2;go_wp2
        go_ret
        exact⟨ns,ys,Cr,ts,HSc.o.pt,HSc.o.wrh,by rw[HDD.o];cases o2<;>rfl,λ_=>⟨HKns.o.2,HEV.o,AK,HKts.o.2⟩⟩
     ·cases o1
      ·go_wp2_with fail;refine(Gm g 0 xs _ HS6.o.pt.ex).mono ?_;rintro e w7 ⟨ns,hk,hv,rfl,b⟩;have HKns:AO (Cs ns/\ev ns=I7 zs):=⟨hk,by rw[hv,HKxs.o.2,HXE.o];rfl⟩
       have HS7:AO (Cv w w7 g xs ys z t0 [] []):=HS6.o.call b;clear hk hv b HS6;go_wp2_with (first
        |(refine Di HS7.o rfl (aM 45) (aM 43) rfl 0 AK ns ns ys z t0 (LT HS7.o.pt.x.1 HKns.o.1.1) ⟨HKns.o.1,HS7.o.pt.y,HS7.o.pt.z,HS7.o.pt.t⟩ rfl rfl HKns.o.1 rfl ?_)
        |fail)
       intro w8 S8;have HS8:AO (Cv w w8 g ns ys z t0 [] []):=S8;clear S8 HS7;go_wp2_with (first
        |(refine Di HS8.o rfl (aM 49) (aM 47) rfl 10 AK Cr ns ys Cr t0 (LU HS8.o.pt.x.1 HS8.o.pt.y.1 HS8.o.pt.z.1 Ei.1) ⟨HS8.o.pt.x,HS8.o.pt.y,Ei,HS8.o.pt.t⟩ rfl rfl Ei rfl ?_)
        |fail)
       intro wa Sa;have HSa:AO (Cv w wa g ns ys Cr t0 [] []):=Sa;clear Sa HS8;have EX0:AO (FU w g 10 (λw1=>Pt w1 g ns ys Cr t0) (λw1=>∃ ts,Cs ts/\ev ts=ev ns*ev ys%fp/\Pt w1 g ns ys Cr ts) (λn=>(Array.replicate 11 false).getD n false) wa.drew):=⟨HSa.o.wrh.trans (EN.of_below Cg.drew),λ_=>⟨HSa.o.pt.row,HSa.o.pt.x,HSa.o.pt.y,HSa.o.pt.z,HSa.o.pt.t⟩,λq=>absurd q AL⟩
       have HA:AO (∀(w' ww:aC),Below w'.heap.size w' ww->Pt w' g ns ys Cr t0->Pt ww g ns ys Cr t0):=λw' ww b h=>h.below b h.row.lt
       have HB:AO (∀(w' ww:aC),Below w'.heap.size w' ww->(∃ ts,Cs ts/\ev ts=ev ns*ev ys%fp/\Pt w' g ns ys Cr ts)->(∃ ts,Cs ts/\ev ts=ev ns*ev ys%fp/\Pt ww g ns ys Cr ts)):=λw' ww b ⟨ts,h1,h2,h⟩=>⟨ts,h1,h2,h.below b h.row.lt⟩
       have REF:AO (∀ i,i≠10->∀(L:Nat->Bool) (w':aC),FU w g 10 (λw1=>Pt w1 g ns ys Cr t0) (λw1=>∃ ts,Cs ts/\ev ts=ev ns*ev ys%fp/\Pt w1 g ns ys Cr ts) L w'->FU w g 10 (λw1=>Pt w1 g ns ys Cr t0) (λw1=>∃ ts,Cs ts/\ev ts=ev ns*ev ys%fp/\Pt w1 g ns ys Cr ts) (Cf L i) w'):=λi hi L w' h=>FU.ref i hi h
       have YY:AO (∀(L:Nat->Bool) (w':aC),FU w g 10 (λw1=>Pt w1 g ns ys Cr t0) (λw1=>∃ ts,Cs ts/\ev ts=ev ns*ev ys%fp/\Pt w1 g ns ys Cr ts) L w'->Dj w' g 0 ns/\Dj w' g 5 ys):=λL w' h=>by
        cases hL:L 10
        ·exact⟨(h.2.1 hL).ex,(h.2.1 hL).ey⟩
        ·obtain⟨_,_,_,q⟩:=h.2.2 hL;exact⟨q.ex,q.ey⟩
       go_wp2;refine Ag AM ?_;refine DE (λ_ _ _=>True) (frame:=(λ(a b c d e f g h i j k l m n o p q r s u v w x y z A B C D E F G H I J K L M N O P Q R S T U V W X Y Z a0 a1 a2 a3 a4:aB)=>λ(t:Nat->aB)=>({ tmps:=List.toArray [a,b,c,d,e,f,g,h,i,j,k,l,m,n,o,p,q,r,s,u,v,w,x,y,z,A,B,C,D,E,F,G,H,I,J,K,L,M,N,O,P,Q,R,S,T,U,V,W,X,Y,t 0,t 1,t 2,t 3,t 4,t 5,t 6,t 7,t 8,t 9,Z,a0,a1,a2,a3,a4],defers:=[] }:Act)) _ _ _ _ _ _ _ _ _ _ _ _ _ _ _ _ _ _ _ _ _ _ _ _ _ _ _ _ _ _ _ _ _ _ _ _ _ _ _ _ _ _ _ _ _ _ _ _ _ _ _ _ _ _ _ _)
        (Ext:=λL w'=>FU w g 10 (λw1=>Pt w1 g ns ys Cr t0) (λw1=>∃ ts,Cs ts/\ev ts=ev ns*ev ys%fp/\Pt w1 g ns ys Cr ts) L w') (Good:=λi L _ v=>if i=0 then v=aF (aE ⟨g,0,aA⟩) else if i=1 then v=aF (aE ⟨g,0,aA⟩) else if i=2 then v=aF (aE ⟨g,0,aA⟩) else if i=3 then v=aF (aE ⟨g,0,aA⟩) else if i=4 then v=aF (aE ⟨g,0,aA⟩) else if i=5 then v=aF (aE ⟨g,0,aA⟩) else if i=6 then v=aF (aE ⟨g,5,aA⟩) else if i=7 then TG (ev ns) (ev ys) (v) else if i=8 then v=aF (aE ⟨g,0,aA⟩) else if i=9 then v=aF (aE ⟨g,15,aA⟩) else if i=10 then v=undef/\L 10=true else True) ?hstab AM ?hop ?hdone _ _ ((λ(x0 x1 x2 x3 x4 x5 x6 x7 x8 x9:aB)=>λ(i:Nat)=>if i=0 then x0 else if i=1 then x1 else if i=2 then x2 else if i=3 then x3 else if i=4 then x4 else if i=5 then x5 else if i=6 then x6 else if i=7 then x7 else if i=8 then x8 else if i=9 then x9 else undef) _ _ _ _ _ _ _ _ _ _) _ AL ?ext ?start AL
       case start=>intro i hi h;exact absurd h Et
       case ext=>exact EX0.o
       case hstab=>
        intro j L w w' i v _ _ _ h;by_cases hj:j=10
        ·subst hj;simp at h |-;exact⟨h.1,by unfold Cf;simp[h.2]⟩
        ·simp only[if_neg hj] at h |-;exact h
       case hop=>
        intro i o L t w' ho hLi hx hdep K hK;have hi:i<11:=(AR.1 ho).1;obtain rfl|rfl|rfl|rfl|rfl|rfl|rfl|rfl|rfl|rfl|rfl:i=0\/i=1\/i=2\/i=3\/i=4\/i=5\/i=6\/i=7\/i=8\/i=9\/i=10:=AJ
        all_goals(simp at ho;subst ho)
        ·clear hdep;have hK':=hK w' (aF (aE ⟨g,0,aA⟩)) AL (REF.o 0 AK L w' hx) trivial;clear hK;rw[AP AN];go_simp;simpa[Ce] using hK'
        ·clear hdep;have hK':=hK w' (aF (aE ⟨g,0,aA⟩)) AL (REF.o 1 AK L w' hx) trivial;clear hK;rw[AP AN];go_simp;simpa[Ce] using hK'
        ·have d1:t 1=aF (aE ⟨g,0,aA⟩):=by simpa using hdep ⟨1,aL⟩ AL rfl
         clear hdep;have hK':=hK w' (aF (aE ⟨g,0,aA⟩)) AL (REF.o 2 AK L w' hx) trivial;clear hK;rw[AP AN];go_simp;simpa[Ce,d1] using hK'
        ·have d2:t 2=aF (aE ⟨g,0,aA⟩):=by simpa using hdep ⟨2,aL⟩ AL rfl
         clear hdep;have hK':=hK w' (aF (aE ⟨g,0,aA⟩)) AL (REF.o 3 AK L w' hx) trivial;clear hK;rw[AP AN];go_simp;simpa[Ce,d2] using hK'
        ·clear hdep;have hK':=hK w' (aF (aE ⟨g,0,aA⟩)) AL (REF.o 4 AK L w' hx) trivial;clear hK;rw[AP AN];go_simp;simpa[Ce] using hK'
        ·have d4:t 4=aF (aE ⟨g,0,aA⟩):=by simpa using hdep ⟨4,aL⟩ AL rfl
         clear hdep;have hK':=hK w' (aF (aE ⟨g,0,aA⟩)) AL (REF.o 5 AK L w' hx) trivial;clear hK;rw[AP AN];go_simp;simpa[Ce,d4] using hK'
        ·have d5:t 5=aF (aE ⟨g,0,aA⟩):=by simpa using hdep ⟨5,aL⟩ AL rfl
         clear hdep;have hK':=hK w' (aF (aE ⟨g,5,aA⟩)) AL (REF.o 6 AK L w' hx) trivial;clear hK;rw[AP AN];go_simp;simpa[Ce,d5] using hK'
        ·have d3:t 3=aF (aE ⟨g,0,aA⟩):=by simpa using hdep ⟨3,aL⟩ AL rfl
         have d6:t 6=aF (aE ⟨g,5,aA⟩):=by simpa using hdep ⟨6,aL⟩ AL rfl
         clear hdep;have A:=Ct g 0 g 5 ns ys w' (YY.o L w' hx).1 (YY.o L w' hx).2;have hK':∀ ww ts,Cs ts->ev ts=ev ns*ev ys%fp->Below w'.heap.size w' ww->K _ ww:=λww ts h1 h2 b=>hK ww (aH (ts.map (Value.int .u64)).toArray) (by simp;exact⟨ts,h1,h2,rfl⟩) (FU.low 7 AK hx (λq=>HA.o _ _ b q) (λq=>HB.o _ _ b q) b) trivial
         clear hK;rw[AP AN];go_simp;refine A.mono ?_;rintro e w9 ⟨ts,h1,h2,rfl,hb⟩;have hK2:=hK' w9 ts h1 h2 hb;clear hK' A hb h1 h2;go_simp;simpa[Ce,d3,d6] using hK2
        ·have d0:t 0=aF (aE ⟨g,0,aA⟩):=by simpa using hdep ⟨0,aL⟩ AL rfl
         clear hdep;have hK':=hK w' (aF (aE ⟨g,0,aA⟩)) AL (REF.o 8 AK L w' hx) trivial;clear hK;rw[AP AN];go_simp;simpa[Ce,d0] using hK'
        ·have d8:t 8=aF (aE ⟨g,0,aA⟩):=by simpa using hdep ⟨8,aL⟩ AL rfl
         clear hdep;have hK':=hK w' (aF (aE ⟨g,15,aA⟩)) AL (REF.o 9 AK L w' hx) trivial;clear hK;rw[AP AN];go_simp;simpa[Ce,d8] using hK'
        ·have d9:t 9=aF (aE ⟨g,15,aA⟩):=by simpa using hdep ⟨9,aL⟩ AL rfl
         have d7:TG (ev ns) (ev ys) (t 7):=by simpa using hdep ⟨7,aL⟩ AL rfl
         clear hdep;obtain⟨ts,h1,h2,h3⟩:=d7;rw[AP AN];refine JJ (hx.2.1 hLi) (aM 59) (aM 57) rfl ts (show t 9=_ from d9) (show t 7=_ from h3) h1 ?_;intro ww hp hw;have hK':=hK ww undef (by simp[Cf]) ⟨hx.1.trans hw.wrH,λq=>absurd q (by rw[F1];decide),λ_=>⟨ts,h1,h2,hp⟩⟩ trivial;clear hK;go_simp;simpa[Ce,d9,h3] using hK'
       case hdone=>
        intro L t w' hx hg;have d0:t 0=aF (aE ⟨g,0,aA⟩):=by simpa using hg 0 AK
        have d1:t 1=aF (aE ⟨g,0,aA⟩):=by simpa using hg 1 AK
        have d2:t 2=aF (aE ⟨g,0,aA⟩):=by simpa using hg 2 AK
        have d3:t 3=aF (aE ⟨g,0,aA⟩):=by simpa using hg 3 AK
        have d4:t 4=aF (aE ⟨g,0,aA⟩):=by simpa using hg 4 AK
        have d5:t 5=aF (aE ⟨g,0,aA⟩):=by simpa using hg 5 AK
        have d6:t 6=aF (aE ⟨g,5,aA⟩):=by simpa using hg 6 AK
        have d7:TG (ev ns) (ev ys) (t 7):=by simpa using hg 7 AK
        have d8:t 8=aF (aE ⟨g,0,aA⟩):=by simpa using hg 8 AK
        have d9:t 9=aF (aE ⟨g,15,aA⟩):=by simpa using hg 9 AK
        have d10:t 10=undef/\L 10=true:=by simpa using hg 10 AK
        clear hg;obtain⟨ts,hk,hv,hpt⟩:=hx.2.2 d10.2;obtain⟨ts',_,_,e7⟩:=d7;have HSb:AO (Cv w w' g ns ys Cr ts [] []):=⟨hx.1,hlt,hpt,AL,List.Pairwise.nil,AL⟩
        have HKts:AO (Cs ts/\ev ts=I7 zs*Fh zs%fp):=⟨hk,by rw[hv,HKns.o.2,HEV.o]⟩
        clear hx HSa HA EX0 REF YY HB hk hv hpt;dsimp only;rw[d0,d1,d2,d3,d4,d5,d6,e7,d8,d9];clear d0 d1 d2 d3 d4 d5 d6 e7 d8 d9 d10;go_wp2_with fail;refine(FT g 0 ns _ HSb.o.pt.ex).mono ?_;rintro e wc ⟨rfl,b⟩;rw[HKns.o.2];have HSc:AO (Cv w wc g ns ys Cr ts [] []):=HSb.o.call b;clear b HSb;obtain⟨o2,ho2⟩:∃ o2,o2=(I7 zs%2 == 1):=⟨_,rfl⟩
        rw[<-ho2];have HDD:AO (LV zs=(o2 == true)):=by
         show _=_
         rw[HDR.o,<-ho2,<-HOD.o]
        clear ho2;go_wp2
        go_ret
        exact⟨ns,ys,Cr,ts,HSc.o.pt,HSc.o.wrh,by rw[HDD.o];cases o2<;>rfl,λ_=>⟨HKns.o.2,HEV.o,AK,HKts.o.2⟩⟩
      ·have HKns:AO (Cs xs/\ev xs=I7 zs):=⟨HKxs.o.1,by rw[HKxs.o.2,HXE.o];rfl⟩
       have HS8:AO (Cv w w6 g xs ys z t0 [] []):=HS6.o;clear HS6 HKxs;generalize hxn:xs=ns at *;clear hxn;go_wp2_with (first
        |(refine Di HS8.o rfl (aM 49) (aM 47) rfl 10 AK Cr ns ys Cr t0 (LU HS8.o.pt.x.1 HS8.o.pt.y.1 HS8.o.pt.z.1 Ei.1) ⟨HS8.o.pt.x,HS8.o.pt.y,Ei,HS8.o.pt.t⟩ rfl rfl Ei rfl ?_)
        |fail)
       intro wa Sa;have HSa:AO (Cv w wa g ns ys Cr t0 [] []):=Sa;clear Sa HS8;have EX0:AO (FU w g 10 (λw1=>Pt w1 g ns ys Cr t0) (λw1=>∃ ts,Cs ts/\ev ts=ev ns*ev ys%fp/\Pt w1 g ns ys Cr ts) (λn=>(Array.replicate 11 false).getD n false) wa.drew):=⟨HSa.o.wrh.trans (EN.of_below Cg.drew),λ_=>⟨HSa.o.pt.row,HSa.o.pt.x,HSa.o.pt.y,HSa.o.pt.z,HSa.o.pt.t⟩,λq=>absurd q AL⟩
       have HA:AO (∀(w' ww:aC),Below w'.heap.size w' ww->Pt w' g ns ys Cr t0->Pt ww g ns ys Cr t0):=λw' ww b h=>h.below b h.row.lt
       have HB:AO (∀(w' ww:aC),Below w'.heap.size w' ww->(∃ ts,Cs ts/\ev ts=ev ns*ev ys%fp/\Pt w' g ns ys Cr ts)->(∃ ts,Cs ts/\ev ts=ev ns*ev ys%fp/\Pt ww g ns ys Cr ts)):=λw' ww b ⟨ts,h1,h2,h⟩=>⟨ts,h1,h2,h.below b h.row.lt⟩
       have REF:AO (∀ i,i≠10->∀(L:Nat->Bool) (w':aC),FU w g 10 (λw1=>Pt w1 g ns ys Cr t0) (λw1=>∃ ts,Cs ts/\ev ts=ev ns*ev ys%fp/\Pt w1 g ns ys Cr ts) L w'->FU w g 10 (λw1=>Pt w1 g ns ys Cr t0) (λw1=>∃ ts,Cs ts/\ev ts=ev ns*ev ys%fp/\Pt w1 g ns ys Cr ts) (Cf L i) w'):=λi hi L w' h=>FU.ref i hi h
       have YY:AO (∀(L:Nat->Bool) (w':aC),FU w g 10 (λw1=>Pt w1 g ns ys Cr t0) (λw1=>∃ ts,Cs ts/\ev ts=ev ns*ev ys%fp/\Pt w1 g ns ys Cr ts) L w'->Dj w' g 0 ns/\Dj w' g 5 ys):=λL w' h=>by
        cases hL:L 10
        ·exact⟨(h.2.1 hL).ex,(h.2.1 hL).ey⟩
        ·obtain⟨_,_,_,q⟩:=h.2.2 hL;exact⟨q.ex,q.ey⟩
       go_wp2;refine Ag AM ?_;refine DE (λ_ _ _=>True) (frame:=(λ(a b c d e f g h i j k l m n o p q r s u v w x y z A B C D E F G H I J K L M N O P Q R S T U V W X Y Z a0 a1 a2 a3 a4:aB)=>λ(t:Nat->aB)=>({ tmps:=List.toArray [a,b,c,d,e,f,g,h,i,j,k,l,m,n,o,p,q,r,s,u,v,w,x,y,z,A,B,C,D,E,F,G,H,I,J,K,L,M,N,O,P,Q,R,S,T,U,V,W,X,Y,t 0,t 1,t 2,t 3,t 4,t 5,t 6,t 7,t 8,t 9,Z,a0,a1,a2,a3,a4],defers:=[] }:Act)) _ _ _ _ _ _ _ _ _ _ _ _ _ _ _ _ _ _ _ _ _ _ _ _ _ _ _ _ _ _ _ _ _ _ _ _ _ _ _ _ _ _ _ _ _ _ _ _ _ _ _ _ _ _ _ _)
        (Ext:=λL w'=>FU w g 10 (λw1=>Pt w1 g ns ys Cr t0) (λw1=>∃ ts,Cs ts/\ev ts=ev ns*ev ys%fp/\Pt w1 g ns ys Cr ts) L w') (Good:=λi L _ v=>if i=0 then v=aF (aE ⟨g,0,aA⟩) else if i=1 then v=aF (aE ⟨g,0,aA⟩) else if i=2 then v=aF (aE ⟨g,0,aA⟩) else if i=3 then v=aF (aE ⟨g,0,aA⟩) else if i=4 then v=aF (aE ⟨g,0,aA⟩) else if i=5 then v=aF (aE ⟨g,0,aA⟩) else if i=6 then v=aF (aE ⟨g,5,aA⟩) else if i=7 then TG (ev ns) (ev ys) (v) else if i=8 then v=aF (aE ⟨g,0,aA⟩) else if i=9 then v=aF (aE ⟨g,15,aA⟩) else if i=10 then v=undef/\L 10=true else True) ?hstab AM ?hop ?hdone _ _ ((λ(x0 x1 x2 x3 x4 x5 x6 x7 x8 x9:aB)=>λ(i:Nat)=>if i=0 then x0 else if i=1 then x1 else if i=2 then x2 else if i=3 then x3 else if i=4 then x4 else if i=5 then x5 else if i=6 then x6 else if i=7 then x7 else if i=8 then x8 else if i=9 then x9 else undef) _ _ _ _ _ _ _ _ _ _) _ AL ?ext ?start AL
       case start=>intro i hi h;exact absurd h Et
       case ext=>exact EX0.o
       case hstab=>
        intro j L w w' i v _ _ _ h;by_cases hj:j=10
        ·subst hj;simp at h |-;exact⟨h.1,by unfold Cf;simp[h.2]⟩
        ·simp only[if_neg hj] at h |-;exact h
       case hop=>
        intro i o L t w' ho hLi hx hdep K hK;have hi:i<11:=(AR.1 ho).1;obtain rfl|rfl|rfl|rfl|rfl|rfl|rfl|rfl|rfl|rfl|rfl:i=0\/i=1\/i=2\/i=3\/i=4\/i=5\/i=6\/i=7\/i=8\/i=9\/i=10:=AJ
        all_goals(simp at ho;subst ho)
        ·clear hdep;have hK':=hK w' (aF (aE ⟨g,0,aA⟩)) AL (REF.o 0 AK L w' hx) trivial;clear hK;rw[AP AN];go_simp;simpa[Ce] using hK'
        ·clear hdep;have hK':=hK w' (aF (aE ⟨g,0,aA⟩)) AL (REF.o 1 AK L w' hx) trivial;clear hK;rw[AP AN];go_simp;simpa[Ce] using hK'
        ·have d1:t 1=aF (aE ⟨g,0,aA⟩):=by simpa using hdep ⟨1,aL⟩ AL rfl
         clear hdep;have hK':=hK w' (aF (aE ⟨g,0,aA⟩)) AL (REF.o 2 AK L w' hx) trivial;clear hK;rw[AP AN];go_simp;simpa[Ce,d1] using hK'
        ·have d2:t 2=aF (aE ⟨g,0,aA⟩):=by simpa using hdep ⟨2,aL⟩ AL rfl
         clear hdep;have hK':=hK w' (aF (aE ⟨g,0,aA⟩)) AL (REF.o 3 AK L w' hx) trivial;clear hK;rw[AP AN];go_simp;simpa[Ce,d2] using hK'
        ·clear hdep;have hK':=hK w' (aF (aE ⟨g,0,aA⟩)) AL (REF.o 4 AK L w' hx) trivial;clear hK;rw[AP AN];go_simp;simpa[Ce] using hK'
        ·have d4:t 4=aF (aE ⟨g,0,aA⟩):=by simpa using hdep ⟨4,aL⟩ AL rfl
         clear hdep;have hK':=hK w' (aF (aE ⟨g,0,aA⟩)) AL (REF.o 5 AK L w' hx) trivial;clear hK;rw[AP AN];go_simp;simpa[Ce,d4] using hK'
        ·have d5:t 5=aF (aE ⟨g,0,aA⟩):=by simpa using hdep ⟨5,aL⟩ AL rfl
         clear hdep;have hK':=hK w' (aF (aE ⟨g,5,aA⟩)) AL (REF.o 6 AK L w' hx) trivial;clear hK;rw[AP AN];go_simp;simpa[Ce,d5] using hK'
        ·have d3:t 3=aF (aE ⟨g,0,aA⟩):=by simpa using hdep ⟨3,aL⟩ AL rfl
         have d6:t 6=aF (aE ⟨g,5,aA⟩):=by simpa using hdep ⟨6,aL⟩ AL rfl
         clear hdep;have A:=Ct g 0 g 5 ns ys w' (YY.o L w' hx).1 (YY.o L w' hx).2;have hK':∀ ww ts,Cs ts->ev ts=ev ns*ev ys%fp->Below w'.heap.size w' ww->K _ ww:=λww ts h1 h2 b=>hK ww (aH (ts.map (Value.int .u64)).toArray) (by simp;exact⟨ts,h1,h2,rfl⟩) (FU.low 7 AK hx (λq=>HA.o _ _ b q) (λq=>HB.o _ _ b q) b) trivial
         clear hK;rw[AP AN];go_simp;refine A.mono ?_;rintro e w9 ⟨ts,h1,h2,rfl,hb⟩;have hK2:=hK' w9 ts h1 h2 hb;clear hK' A hb h1 h2;go_simp;simpa[Ce,d3,d6] using hK2
        ·have d0:t 0=aF (aE ⟨g,0,aA⟩):=by simpa using hdep ⟨0,aL⟩ AL rfl
         clear hdep;have hK':=hK w' (aF (aE ⟨g,0,aA⟩)) AL (REF.o 8 AK L w' hx) trivial;clear hK;rw[AP AN];go_simp;simpa[Ce,d0] using hK'
        ·have d8:t 8=aF (aE ⟨g,0,aA⟩):=by simpa using hdep ⟨8,aL⟩ AL rfl
         clear hdep;have hK':=hK w' (aF (aE ⟨g,15,aA⟩)) AL (REF.o 9 AK L w' hx) trivial;clear hK;rw[AP AN];go_simp;simpa[Ce,d8] using hK'
        ·have d9:t 9=aF (aE ⟨g,15,aA⟩):=by simpa using hdep ⟨9,aL⟩ AL rfl
         have d7:TG (ev ns) (ev ys) (t 7):=by simpa using hdep ⟨7,aL⟩ AL rfl
         clear hdep;obtain⟨ts,h1,h2,h3⟩:=d7;rw[AP AN];refine JJ (hx.2.1 hLi) (aM 59) (aM 57) rfl ts (show t 9=_ from d9) (show t 7=_ from h3) h1 ?_;intro ww hp hw;have hK':=hK ww undef (by simp[Cf]) ⟨hx.1.trans hw.wrH,λq=>absurd q (by rw[F1];decide),λ_=>⟨ts,h1,h2,hp⟩⟩ trivial;clear hK;go_simp;simpa[Ce,d9,h3] using hK'
       case hdone=>
        intro L t w' hx hg;have d0:t 0=aF (aE ⟨g,0,aA⟩):=by simpa using hg 0 AK
        have d1:t 1=aF (aE ⟨g,0,aA⟩):=by simpa using hg 1 AK
        have d2:t 2=aF (aE ⟨g,0,aA⟩):=by simpa using hg 2 AK
        have d3:t 3=aF (aE ⟨g,0,aA⟩):=by simpa using hg 3 AK
        have d4:t 4=aF (aE ⟨g,0,aA⟩):=by simpa using hg 4 AK
        have d5:t 5=aF (aE ⟨g,0,aA⟩):=by simpa using hg 5 AK
        have d6:t 6=aF (aE ⟨g,5,aA⟩):=by simpa using hg 6 AK
        have d7:TG (ev ns) (ev ys) (t 7):=by simpa using hg 7 AK
        have d8:t 8=aF (aE ⟨g,0,aA⟩):=by simpa using hg 8 AK
        have d9:t 9=aF (aE ⟨g,15,aA⟩):=by simpa using hg 9 AK
        have d10:t 10=undef/\L 10=true:=by simpa using hg 10 AK
        clear hg;obtain⟨ts,hk,hv,hpt⟩:=hx.2.2 d10.2;obtain⟨ts',_,_,e7⟩:=d7;have HSb:AO (Cv w w' g ns ys Cr ts [] []):=⟨hx.1,hlt,hpt,AL,List.Pairwise.nil,AL⟩
        have HKts:AO (Cs ts/\ev ts=I7 zs*Fh zs%fp):=⟨hk,by rw[hv,HKns.o.2,HEV.o]⟩
        clear hx HSa HA EX0 REF YY HB hk hv hpt;dsimp only;rw[d0,d1,d2,d3,d4,d5,d6,e7,d8,d9];clear d0 d1 d2 d3 d4 d5 d6 e7 d8 d9 d10;go_wp2_with fail;refine(FT g 0 ns _ HSb.o.pt.ex).mono ?_;rintro e wc ⟨rfl,b⟩;rw[HKns.o.2];have HSc:AO (Cv w wc g ns ys Cr ts [] []):=HSb.o.call b;clear b HSb;obtain⟨o2,ho2⟩:∃ o2,o2=(I7 zs%2 == 1):=⟨_,rfl⟩
        rw[<-ho2];have HDD:AO (LV zs=(o2 == true)):=by
         show _=_
         rw[HDR.o,<-ho2,<-HOD.o]
        clear ho2;go_wp2
        go_ret
        exact⟨ns,ys,Cr,ts,HSc.o.pt,HSc.o.wrh,by rw[HDD.o];cases o2<;>rfl,λ_=>⟨HKns.o.2,HEV.o,AK,HKts.o.2⟩⟩
  ·have HQ:AO (decide (ys=Fo ys)=false):=Af (λh=>hle h.symm);have HDR:AO (LV zs=false):=by
    show _=_
    have:decide (Fh zs<fp)=false:=Af (λh=>hle (HLS.o.2 h));unfold LV;rw[this];simp
   clear hle;have EX0:AO (FU w g 99 (λw1=>Pt w1 g x ys z t0) (λw1=>Pt w1 g x ys z t0) (λn=>(Array.replicate 14 false).getD n false) w4.drew):=⟨HS4.o.wrh.trans (EN.of_below Cg.drew),λ_=>⟨HS4.o.pt.row,HS4.o.pt.x,HS4.o.pt.y,HS4.o.pt.z,HS4.o.pt.t⟩,λ_=>⟨HS4.o.pt.row,HS4.o.pt.x,HS4.o.pt.y,HS4.o.pt.z,HS4.o.pt.t⟩⟩
   have REF:AO (∀ i,i≠99->∀(L:Nat->Bool) (w':aC),FU w g 99 (λw1=>Pt w1 g x ys z t0) (λw1=>Pt w1 g x ys z t0) L w'->FU w g 99 (λw1=>Pt w1 g x ys z t0) (λw1=>Pt w1 g x ys z t0) (Cf L i) w'):=λi hi L w' h=>FU.ref i hi h
   have YY:AO (∀(L:Nat->Bool) (w':aC),FU w g 99 (λw1=>Pt w1 g x ys z t0) (λw1=>Pt w1 g x ys z t0) L w'->Dj w' g 5 ys):=λL w' h=>by
    cases hL:L 99
    ·exact(h.2.1 hL).ey
    ·exact(h.2.2 hL).ey
   go_wp2;refine Ag AM ?_;refine DE (λ_ _ _=>True) (frame:=(λ(a b c d e f g h i j k l m n o p q r s u v w x y z A B C D E F G H I J K L M N O P Q R S T U V W X Y Z a0:aB)=>λ(t:Nat->aB)=>({ tmps:=List.toArray [a,b,c,d,e,f,g,h,i,j,k,l,m,n,o,p,q,r,s,t 0,t 1,t 2,t 3,t 4,t 5,t 6,t 7,t 8,t 9,t 10,t 11,t 12,t 13,u,v,w,x,y,z,A,B,C,D,E,F,G,H,I,J,K,L,M,N,O,P,Q,R,S,T,U,V,W,X,Y,Z,a0],defers:=[] }:Act)) _ _ _ _ _ _ _ _ _ _ _ _ _ _ _ _ _ _ _ _ _ _ _ _ _ _ _ _ _ _ _ _ _ _ _ _ _ _ _ _ _ _ _ _ _ _ _ _ _ _ _ _)
    (Ext:=λL w'=>FU w g 99 (λw1=>Pt w1 g x ys z t0) (λw1=>Pt w1 g x ys z t0) L w') (Good:=λi L _ v=>if i=0 then v=aF (aE ⟨g,0,aA⟩) else if i=1 then v=aF (aE ⟨g,0,aA⟩) else if i=2 then v=aF (aE ⟨g,5,aA⟩) else if i=3 then v=aH (ys.map (Value.int .u64)).toArray else if i=4 then v=aF (aE ⟨g,0,aA⟩) else if i=5 then v=aF (aE ⟨g,0,aA⟩) else if i=6 then v=aF (aE ⟨g,5,aA⟩) else if i=7 then v=aH ((Fo ys).map (Value.int .u64)).toArray else if i=8 then v=aG true else if i=9 then v=aG true else if i=10 then True else if i=11 then True else if i=12 then True else if i=13 then v=aG true else True) ?hstab AM ?hop ?hdone _ _ ((λ(x0 x1 x2 x3 x4 x5 x6 x7 x8 x9 x10 x11 x12 x13:aB)=>λ(i:Nat)=>if i=0 then x0 else if i=1 then x1 else if i=2 then x2 else if i=3 then x3 else if i=4 then x4 else if i=5 then x5 else if i=6 then x6 else if i=7 then x7 else if i=8 then x8 else if i=9 then x9 else if i=10 then x10 else if i=11 then x11 else if i=12 then x12 else if i=13 then x13 else undef) _ _ _ _ _ _ _ _ _ _ _ _ _ _) _ AL ?ext ?start AL
   case start=>intro i hi h;exact absurd h Et
   case ext=>exact EX0.o
   case hstab=>intro j L w w' i v _ _ _ h;exact h
   case hop=>
    intro i o L t w' ho hLi hx hdep K hK;have hi:i<14:=(AR.1 ho).1;obtain rfl|rfl|rfl|rfl|rfl|rfl|rfl|rfl|rfl|rfl|rfl|rfl|rfl|rfl:i=0\/i=1\/i=2\/i=3\/i=4\/i=5\/i=6\/i=7\/i=8\/i=9\/i=10\/i=11\/i=12\/i=13:=AJ
    all_goals(simp at ho;subst ho)
    ·clear hdep;have hK':=hK w' (aF (aE ⟨g,0,aA⟩)) AL (REF.o 0 AK L w' hx) trivial;clear hK;rw[AP AN];go_simp;simpa[Ce] using hK'
    ·have d0:t 0=aF (aE ⟨g,0,aA⟩):=by simpa using hdep ⟨0,aL⟩ AL rfl
     clear hdep;have hK':=hK w' (aF (aE ⟨g,0,aA⟩)) AL (REF.o 1 AK L w' hx) trivial;clear hK;rw[AP AN];go_simp;simpa[Ce,d0] using hK'
    ·have d1:t 1=aF (aE ⟨g,0,aA⟩):=by simpa using hdep ⟨1,aL⟩ AL rfl
     clear hdep;have hK':=hK w' (aF (aE ⟨g,5,aA⟩)) AL (REF.o 2 AK L w' hx) trivial;clear hK;rw[AP AN];go_simp;simpa[Ce,d1] using hK'
    ·have d2:t 2=aF (aE ⟨g,5,aA⟩):=by simpa using hdep ⟨2,aL⟩ AL rfl
     clear hdep;have hK':=hK w' (aH (ys.map (Value.int .u64)).toArray) AL (REF.o 3 AK L w' hx) trivial;have ex:=YY.o L w' hx;clear hK;rw[AP AN];refine Mn (aM 21) rfl g 5 ys (show t 2=_ from d2) ex ?_;go_simp;simpa[Ce,d2] using hK'
    ·clear hdep;have hK':=hK w' (aF (aE ⟨g,0,aA⟩)) AL (REF.o 4 AK L w' hx) trivial;clear hK;rw[AP AN];go_simp;simpa[Ce] using hK'
    ·have d4:t 4=aF (aE ⟨g,0,aA⟩):=by simpa using hdep ⟨4,aL⟩ AL rfl
     clear hdep;have hK':=hK w' (aF (aE ⟨g,0,aA⟩)) AL (REF.o 5 AK L w' hx) trivial;clear hK;rw[AP AN];go_simp;simpa[Ce,d4] using hK'
    ·have d5:t 5=aF (aE ⟨g,0,aA⟩):=by simpa using hdep ⟨5,aL⟩ AL rfl
     clear hdep;have hK':=hK w' (aF (aE ⟨g,5,aA⟩)) AL (REF.o 6 AK L w' hx) trivial;clear hK;rw[AP AN];go_simp;simpa[Ce,d5] using hK'
    ·have d6:t 6=aF (aE ⟨g,5,aA⟩):=by simpa using hdep ⟨6,aL⟩ AL rfl
     clear hdep;have A:=Es g 5 ys w' (YY.o L w' hx);have hK':∀ ww,Below w'.heap.size w' ww->K _ ww:=λww b=>hK ww (aH ((Fo ys).map (Value.int .u64)).toArray) AL (FU.low 7 AK hx (λq=>HA.o _ _ b q) (λq=>HA.o _ _ b q) b) trivial
     clear hK;rw[AP AN];go_simp;refine A.mono ?_;rintro e w9 ⟨rfl,hb⟩;have hK2:=hK' w9 hb;clear hK' A hb;go_simp;simpa[Ce,d6] using hK2
    ·have d3:t 3=aH (ys.map (Value.int .u64)).toArray:=by simpa using hdep ⟨3,aL⟩ AL rfl
     have d7:t 7=aH ((Fo ys).map (Value.int .u64)).toArray:=by simpa using hdep ⟨7,aL⟩ AL rfl
     clear hdep;have hK':=hK w' (aG true) AL (REF.o 8 AK L w' hx) trivial;clear hK;rw[AP AN];go_simp;simp only[IF _ 9998 5 138 underlying138 ys (Fo ys) hyl hll,HQ.o,Result.andThen_ok];go_simp;simpa[Ce,d3,d7] using hK'
    ·have d8:t 8=aG true:=by simpa using hdep ⟨8,aL⟩ AL rfl
     clear hdep;have hK':=hK w' (aG true) AL (REF.o 9 AK L w' hx) trivial;clear hK;rw[AP AN];go_simp;simpa[Ce,d8] using hK'
    ·have d9:t 9=aG true:=by simpa using hdep ⟨9,.guard⟩ AL rfl
     clear hdep;have hK':=hK w' undef AL (REF.o 10 AK L w' hx) trivial;clear hK;rw[AQ (by simp[Region.wanted,yielded,d9])];go_simp;simpa[Ce,d9] using hK'
    ·have d9:t 9=aG true:=by simpa using hdep ⟨9,.guard⟩ AL rfl
     clear hdep;have hK':=hK w' undef AL (REF.o 11 AK L w' hx) trivial;clear hK;rw[AQ (by simp[Region.wanted,yielded,d9])];go_simp;simpa[Ce,d9] using hK'
    ·have d9:t 9=aG true:=by simpa using hdep ⟨9,.guard⟩ AL rfl
     clear hdep;have hK':=hK w' undef AL (REF.o 12 AK L w' hx) trivial;clear hK;rw[AQ (by simp[Region.wanted,yielded,d9])];go_simp;simpa[Ce,d9] using hK'
    ·have d9:t 9=aG true:=by simpa using hdep ⟨9,aL⟩ AL rfl
     clear hdep;have hK':=hK w' (aG true) AL (REF.o 13 AK L w' hx) trivial;clear hK;rw[AP AN];go_simp;simpa[Ce,d9] using hK'
   case hdone=>
    intro L t w' hx hg;have d0:t 0=aF (aE ⟨g,0,aA⟩):=by simpa using hg 0 AK
    have d1:t 1=aF (aE ⟨g,0,aA⟩):=by simpa using hg 1 AK
    have d2:t 2=aF (aE ⟨g,5,aA⟩):=by simpa using hg 2 AK
    have d3:t 3=aH (ys.map (Value.int .u64)).toArray:=by simpa using hg 3 AK
    have d4:t 4=aF (aE ⟨g,0,aA⟩):=by simpa using hg 4 AK
    have d5:t 5=aF (aE ⟨g,0,aA⟩):=by simpa using hg 5 AK
    have d6:t 6=aF (aE ⟨g,5,aA⟩):=by simpa using hg 6 AK
    have d7:t 7=aH ((Fo ys).map (Value.int .u64)).toArray:=by simpa using hg 7 AK
    have d8:t 8=aG true:=by simpa using hg 8 AK
    have d9:t 9=aG true:=by simpa using hg 9 AK
    have d13:t 13=aG true:=by simpa using hg 13 AK
    clear hg;have HF:AO (EN g w w'/\Pt w' g x ys z t0):=⟨hx.1,by
     cases hL:L 99
     ·exact hx.2.1 hL
     ·exact hx.2.2 hL⟩
    clear hx HS4 HA EX0 REF YY HQ HKys HKlm HLS;dsimp only;rw[d0,d1,d2,d3,d4,d5,d6,d7,d8,d9,d13];clear d0 d1 d2 d3 d4 d5 d6 d7 d8 d9 d13;go_wp2
    go_ret
    refine⟨x,ys,z,t0,HF.o.2,HF.o.1,by rw[HDR.o];rfl,λh=>?_⟩;rw[HDR.o] at h;cases h
 ·have h32':((n:Int) == 32)=false:=by simp;omega
  have HR:AO (LV zs=false):=by
   show _=_
   unfold LV;have:(zs.length == 32)=false:=by simp;omega
   rw[this];rfl
  go_enter func102,ntmps102;go_wp2
  go_ret
  refine⟨x,y,z,t0,HP.o,EN.refl _ _,by rw[HR.o];rfl,λh=>?_⟩;rw[HR.o] at h;cases h
end Go.Proofs.YtjdhhgaelgemcaaGreatDoor
