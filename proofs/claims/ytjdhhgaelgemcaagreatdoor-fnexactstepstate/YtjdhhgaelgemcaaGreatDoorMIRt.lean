import Derived.Test.YtjdhhgaelgemcaaGreatDoorMISt
import Derived.Test.YtjdhhgaelgemcaaGreatDoorMSvC
import Derived.Test.YtjdhhgaelgemcaaGreatDoorMReg
namespace Go.Proofs.YtjdhhgaelgemcaaGreatDoor
open Go.ChangeShapes Go.WideShapes Go.ChangeAt Go.RowKit
set_option linter.unusedVariables false
def rpF (x:Int):Int:=x^(M250*4+1)%fp
def rtF (u v:Int):Int:=(u*(sqN v 1*v%fp)%fp)*rpF (u*(sqN v 1*v%fp)%fp*sqN v 2%fp)%fp
def rcF (u v:Int):Int:=sqN (rtF u v) 1*v%fp
def sm1L:List Int:=[1718705420411056,234908883556509,2233514472574048,2117202627021982,765476049583133]
def curveDL:List Int:=[929955233495203,466365720129213,1662059464998953,2033849074728123,1442794654840575]
def curveD2L:List Int:=[1859910466990425,932731440258426,1072319116312658,1815898335770999,633789495995903]
def drR (u v:Int):Bool:=decide (rcF u v=u) || decide (rcF u v=(0-u)%fp)
def drX (u v:Int):Int:=if rcF u v=u then rtF u v else rtF u v*ev sm1L%fp
def DP (w:World) (g:Nat) (y z t:List Int) (u v:Int) (e:Ending) (w':World):Prop:=
 ∃ xs,EOk xs∧e=.returned (.bool (drR u v))∧ev xs=drX u v∧Pt w' g xs y z t∧WrH g w w'
theorem ok5 (a b c d e:Int) (ha:0≤a∧a<2251799813685504) (hb:0≤b∧b<2251799813685248) (hc:0≤c∧c<2251799813685248) (hd:0≤d∧d<2251799813685248) (he:0≤e∧e<2251799813685248):EOk [a,b,c,d,e]:=by
 refine⟨rfl,fun i=>?_,fun i hi=>?_,ha.2⟩
 ·rcases i with _|_|_|_|_|i<;>simp<;>omega
 ·rcases i with _|_|_|_|_|i<;>simp<;>omega
def oneL:List Int:=[1,0,0,0,0]
theorem one_ok:EOk oneL:=ok5 _ _ _ _ _ (by decide) (by decide) (by decide) (by decide) (by decide)
theorem sm1_ok:EOk sm1L:=ok5 _ _ _ _ _ (by decide) (by decide) (by decide) (by decide) (by decide)
theorem curveD_ok:EOk curveDL:=ok5 _ _ _ _ _ (by decide) (by decide) (by decide) (by decide) (by decide)
theorem curveD2_ok:EOk curveD2L:=ok5 _ _ _ _ _ (by decide) (by decide) (by decide) (by decide) (by decide)
set_option maxHeartbeats 1000000 in
theorem curveD_any (w:World):Calls Tryz.prog 150 #[] w (EP w (ev curveDL)):=by
 have HS0:Hid (Run w (w.alloc (.cells #[.int .u64 0,.int .u64 0,.int .u64 0,.int .u64 0,.int .u64 0] 138)) [(w.heap.size,[0,0,0,0,0])] []):=(Run.start w [] (by simp)).room;go_enter Tryz.func150,Tryz.ntmps150;go_wp2_with (first
  |(refine wpList_storeR HS0.out rfl (.tmp 0) (.tmp 1) rfl 0 w.heap.size [0,0,0,0,0] curveDL rfl rfl rfl curveD_ok rfl ?_)
  |fail)
 intro w1 S1;have H1:Hid (Run w w1 [(w.heap.size,curveDL)] []):=S1;clear S1 HS0;go_wp2;exact bodyPost_ret (v:=.agg (curveDL.map (Value.int .u64)).toArray) (H1.out.ret rfl _ 0 w.heap.size curveDL rfl rfl) rfl ⟨curveDL,curveD_ok,rfl,rfl,H1.out.below⟩
set_option maxHeartbeats 1000000 in
theorem curveD2_any (w:World):Calls Tryz.prog 138 #[] w (EP w (ev curveD2L)):=by
 have HS0:Hid (Run w (w.alloc (.cells #[.int .u64 0,.int .u64 0,.int .u64 0,.int .u64 0,.int .u64 0] 138)) [(w.heap.size,[0,0,0,0,0])] []):=(Run.start w [] (by simp)).room;go_enter Tryz.func138,Tryz.ntmps138;go_wp2_with (first
  |(refine wpList_storeR HS0.out rfl (.tmp 0) (.tmp 1) rfl 0 w.heap.size [0,0,0,0,0] curveD2L rfl rfl rfl curveD2_ok rfl ?_)
  |fail)
 intro w1 S1;have H1:Hid (Run w w1 [(w.heap.size,curveD2L)] []):=S1;clear S1 HS0;go_wp2;exact bodyPost_ret (v:=.agg (curveD2L.map (Value.int .u64)).toArray) (H1.out.ret rfl _ 0 w.heap.size curveD2L rfl rfl) rfl ⟨curveD2L,curveD2_ok,rfl,rfl,H1.out.below⟩
set_option maxHeartbeats 1000000 in
theorem sm1_any (w:World):Calls Tryz.prog 164 #[] w (EP w (ev sm1L)):=by
 have HS0:Hid (Run w (w.alloc (.cells #[.int .u64 0,.int .u64 0,.int .u64 0,.int .u64 0,.int .u64 0] 138)) [(w.heap.size,[0,0,0,0,0])] []):=(Run.start w [] (by simp)).room;go_enter Tryz.func164,Tryz.ntmps164;go_wp2_with (first
  |(refine wpList_storeR HS0.out rfl (.tmp 0) (.tmp 1) rfl 0 w.heap.size [0,0,0,0,0] sm1L rfl rfl rfl sm1_ok rfl ?_)
  |fail)
 intro w1 S1;have H1:Hid (Run w w1 [(w.heap.size,sm1L)] []):=S1;clear S1 HS0;go_wp2;exact bodyPost_ret (v:=.agg (sm1L.map (Value.int .u64)).toArray) (H1.out.ret rfl _ 0 w.heap.size sm1L rfl rfl) rfl ⟨sm1L,sm1_ok,rfl,rfl,H1.out.below⟩
def uF (Y:Int):Int:=(sqN Y 1-ev oneL)%fp
def vF (Y:Int):Int:=(sqN Y 1*ev curveDL%fp+ev oneL)%fp
set_option maxHeartbeats 4000000 in
theorem divideRoot_any (g:Nat) (x y z t:List Int) (g1 o1 g2 o2:Nat) (us vs:List Int) (w:World) (hp:Pt w g x y z t) (hu:EAt w g1 o1 us) (hv:EAt w g2 o2 vs) (hg1:g1≠g) (hg2:g2≠g) :
  Calls Tryz.prog 152 #[.pointer (some ⟨g,0,none⟩),.pointer (some ⟨g1,o1,none⟩),.pointer (some ⟨g2,o2,none⟩)] w (DP w g y z t (ev us) (ev vs)):=by
 have HS0:Hid (RunP w w g x y z t [] [(g1,o1,us),(g2,o2,vs)]):=RunP.start hp _ (fun e he=>by
  simp only[List.mem_cons,List.not_mem_nil,or_false] at he;rcases he with rfl|rfl
  ·exact⟨hg1,hu⟩
  ·exact⟨hg2,hv⟩)
 clear hp hu hv hg1 hg2;go_enter Tryz.func152,Tryz.ntmps152;go_wp2_with fail;refine(squared_any g2 o2 vs 1 _ (by decide) (HS0.out.el 1 _ _ _ rfl)).mono ?_;rintro e w1 ⟨c1,hk,hv,rfl,b⟩;have HKc1:Hid (EOk c1∧ev c1=sqN (ev vs) 1):=⟨hk,hv⟩
 have HS1:Hid (RunP w w1 g x y z t [] [(g1,o1,us),(g2,o2,vs)]):=HS0.out.call b;clear hk hv b HS0;go_wp2_with (first
  |(refine wpList_newP HS1.out rfl (.tmp 7) (.tmp 17) rfl c1 rfl rfl HKc1.out.1 rfl ?_)
  |fail)
 intro w2 S;have HS2:Hid (RunP w w2 g x y z t [(w1.heap.size,c1)] [(g1,o1,us),(g2,o2,vs)]):=S;clear S HS1;generalize w1.heap.size=G2 at *;go_wp2_with fail;refine(times_any G2 0 g2 o2 c1 vs _ (HS2.out.re 0 _ _ rfl) (HS2.out.el 1 _ _ _ rfl)).mono ?_;rintro e w3 ⟨c2,hk,hv,rfl,b⟩;have HKc2:Hid (EOk c2∧ev c2=ev c1*ev vs%fp):=⟨hk,hv⟩
 have HS3:Hid (RunP w w3 g x y z t [(G2,c1)] [(g1,o1,us),(g2,o2,vs)]):=HS2.out.call b;clear hk hv b HS2;go_wp2_with (first
  |(refine wpList_rowP HS3.out rfl (.tmp 7) (.tmp 19) rfl 0 G2 c1 c2 rfl rfl rfl HKc2.out.1 rfl ?_)
  |fail)
 intro w4 S;have HS4:Hid (RunP w w4 g x y z t [(G2,c2)] [(g1,o1,us),(g2,o2,vs)]):=S;clear S HS3;go_wp2_with fail;refine(times_any g1 o1 G2 0 us c2 _ (HS4.out.el 0 _ _ _ rfl) (HS4.out.re 0 _ _ rfl)).mono ?_;rintro e w5 ⟨st,hk,hv,rfl,b⟩;have HKst:Hid (EOk st∧ev st=ev us*ev c2%fp):=⟨hk,hv⟩
 have HS5:Hid (RunP w w5 g x y z t [(G2,c2)] [(g1,o1,us),(g2,o2,vs)]):=HS4.out.call b;clear hk hv b HS4;go_wp2_with (first
  |(refine wpList_newP HS5.out rfl (.tmp 8) (.tmp 21) rfl st rfl rfl HKst.out.1 rfl ?_)
  |fail)
 intro w6 S;have HS6:Hid (RunP w w6 g x y z t [(w5.heap.size,st),(G2,c2)] [(g1,o1,us),(g2,o2,vs)]):=S;clear S HS5;generalize w5.heap.size=G6 at *;go_wp2_with fail;refine(squared_any g2 o2 vs 2 _ (by decide) (HS6.out.el 1 _ _ _ rfl)).mono ?_;rintro e w7 ⟨f4,hk,hv,rfl,b⟩;have HKf4:Hid (EOk f4∧ev f4=sqN (ev vs) 2):=⟨hk,hv⟩
 have HS7:Hid (RunP w w7 g x y z t [(G6,st),(G2,c2)] [(g1,o1,us),(g2,o2,vs)]):=HS6.out.call b;clear hk hv b HS6;go_wp2_with (first
  |(refine wpList_newP HS7.out rfl (.tmp 9) (.tmp 23) rfl f4 rfl rfl HKf4.out.1 rfl ?_)
  |fail)
 intro w8 S;have HS8:Hid (RunP w w8 g x y z t [(w7.heap.size,f4),(G6,st),(G2,c2)] [(g1,o1,us),(g2,o2,vs)]):=S;clear S HS7;generalize w7.heap.size=G8 at *;go_wp2_with fail;refine(times_any G6 0 G8 0 st f4 _ (HS8.out.re 1 _ _ rfl) (HS8.out.re 0 _ _ rfl)).mono ?_;rintro e w9 ⟨bs,hk,hv,rfl,b⟩;have HKbs:Hid (EOk bs∧ev bs=ev st*ev f4%fp):=⟨hk,hv⟩
 have HS9:Hid (RunP w w9 g x y z t [(G8,f4),(G6,st),(G2,c2)] [(g1,o1,us),(g2,o2,vs)]):=HS8.out.call b;clear hk hv b HS8;go_wp2_with (first
  |(refine wpList_newP HS9.out rfl (.tmp 10) (.tmp 24) rfl bs rfl rfl HKbs.out.1 rfl ?_)
  |fail)
 intro w10 S;have HS10:Hid (RunP w w10 g x y z t [(w9.heap.size,bs),(G8,f4),(G6,st),(G2,c2)] [(g1,o1,us),(g2,o2,vs)]):=S;clear S HS9;generalize w9.heap.size=G10 at *;go_wp2_with fail;refine(rootPower_any G10 0 bs _ (HS10.out.re 0 _ _ rfl)).mono ?_;rintro e w11 ⟨pw,hk,hv,rfl,b⟩;have HKpw:Hid (EOk pw∧ev pw=rpF (ev bs)):=⟨hk,hv⟩
 have HS11:Hid (RunP w w11 g x y z t [(G10,bs),(G8,f4),(G6,st),(G2,c2)] [(g1,o1,us),(g2,o2,vs)]):=HS10.out.call b;clear hk hv b HS10;go_wp2_with (first
  |(refine wpList_newP HS11.out rfl (.tmp 11) (.tmp 25) rfl pw rfl rfl HKpw.out.1 rfl ?_)
  |fail)
 intro w12 S;have HS12:Hid (RunP w w12 g x y z t [(w11.heap.size,pw),(G10,bs),(G8,f4),(G6,st),(G2,c2)] [(g1,o1,us),(g2,o2,vs)]):=S;clear S HS11;generalize w11.heap.size=G12 at *;go_wp2_with fail;refine(times_any G6 0 G12 0 st pw _ (HS12.out.re 3 _ _ rfl) (HS12.out.re 0 _ _ rfl)).mono ?_;rintro e w13 ⟨rt,hk,hv,rfl,b⟩;have HKrt:Hid (EOk rt∧ev rt=ev st*ev pw%fp):=⟨hk,hv⟩
 have HS13:Hid (RunP w w13 g x y z t [(G12,pw),(G10,bs),(G8,f4),(G6,st),(G2,c2)] [(g1,o1,us),(g2,o2,vs)]):=HS12.out.call b;clear hk hv b HS12;go_wp2_with (first
  |(refine wpList_midP HS13.out rfl (.tmp 28) (.tmp 27) rfl 0 (by decide) rt rt y z t (over_x HS13.out.pt.x.1 HKrt.out.1.1) ⟨HKrt.out.1,HS13.out.pt.y,HS13.out.pt.z,HS13.out.pt.t⟩ rfl rfl HKrt.out.1 rfl ?_)
  |fail)
 intro w14 S;have HS14:Hid (RunP w w14 g rt y z t [(G12,pw),(G10,bs),(G8,f4),(G6,st),(G2,c2)] [(g1,o1,us),(g2,o2,vs)]):=S;clear S HS13;go_wp2_with fail;refine(squared_any g 0 rt 1 _ (by decide) HS14.out.pt.ex).mono ?_;rintro e w15 ⟨sq,hk,hv,rfl,b⟩;have HKsq:Hid (EOk sq∧ev sq=sqN (ev rt) 1):=⟨hk,hv⟩
 have HS15:Hid (RunP w w15 g rt y z t [(G12,pw),(G10,bs),(G8,f4),(G6,st),(G2,c2)] [(g1,o1,us),(g2,o2,vs)]):=HS14.out.call b;clear hk hv b HS14;go_wp2_with (first
  |(refine wpList_newP HS15.out rfl (.tmp 12) (.tmp 30) rfl sq rfl rfl HKsq.out.1 rfl ?_)
  |fail)
 intro w16 S;have HS16:Hid (RunP w w16 g rt y z t [(w15.heap.size,sq),(G12,pw),(G10,bs),(G8,f4),(G6,st),(G2,c2)] [(g1,o1,us),(g2,o2,vs)]):=S;clear S HS15;generalize w15.heap.size=G16 at *;go_wp2_with fail;refine(times_any G16 0 g2 o2 sq vs _ (HS16.out.re 0 _ _ rfl) (HS16.out.el 1 _ _ _ rfl)).mono ?_;rintro e w17 ⟨rc,hk,hv,rfl,b⟩;have HKrc:Hid (EOk rc∧ev rc=ev sq*ev vs%fp):=⟨hk,hv⟩
 have HS17:Hid (RunP w w17 g rt y z t [(G16,sq),(G12,pw),(G10,bs),(G8,f4),(G6,st),(G2,c2)] [(g1,o1,us),(g2,o2,vs)]):=HS16.out.call b;clear hk hv b HS16;go_wp2_with (first
  |(refine wpList_newP HS17.out rfl (.tmp 13) (.tmp 32) rfl rc rfl rfl HKrc.out.1 rfl ?_)
  |fail)
 intro w18 S;have HS18:Hid (RunP w w18 g rt y z t [(w17.heap.size,rc),(G16,sq),(G12,pw),(G10,bs),(G8,f4),(G6,st),(G2,c2)] [(g1,o1,us),(g2,o2,vs)]):=S;clear S HS17;generalize w17.heap.size=G18 at *;have HRT:Hid (ev rt=rtF (ev us) (ev vs)):=by
  show _=_
  unfold rtF;rw[HKrt.out.2,HKpw.out.2,HKbs.out.2,HKst.out.2,HKf4.out.2,HKc2.out.2,HKc1.out.2]
 have HRC:Hid (ev rc=rcF (ev us) (ev vs)):=by
  show _=_
  unfold rcF;rw[HKrc.out.2,HKsq.out.2,HRT.out]
 clear HKpw HKbs HKst HKf4 HKc2 HKc1 HKsq HKrc;go_wp2_with fail;refine(equalsE_any G18 0 g1 o1 rc us _ (HS18.out.re 0 _ _ rfl) (HS18.out.el 0 _ _ _ rfl)).mono ?_;rintro e wq ⟨rfl,b⟩;have HSq:Hid (RunP w wq g rt y z t [(G18,rc),(G16,sq),(G12,pw),(G10,bs),(G8,f4),(G6,st),(G2,c2)] [(g1,o1,us),(g2,o2,vs)]):=HS18.out.call b;clear b HS18;by_cases hq:ev rc=ev us
 ·have HQ:Hid (ev rc=ev us):=hq;rw[decide_eq_true hq];clear hq;go_wp2
  go_ret
  refine⟨rt,HKrt.out.1,?_,?_,HSq.out.pt,HSq.out.wrh⟩
  ·show _=Ending.returned (.bool (drR (ev us) (ev vs)))
   have:drR (ev us) (ev vs)=true:=by unfold drR;rw[←HRC.out,HQ.out];simp
   rw[this];rfl
  ·unfold drX;rw[←HRC.out,HQ.out,if_pos rfl];exact HRT.out
 ·have HQ:Hid (¬ (ev rc=ev us)):=hq;rw[decide_eq_false hq];clear hq;go_wp2_with fail;refine(negated_any g1 o1 us _ (HSq.out.el 0 _ _ _ rfl)).mono ?_;rintro e w19 ⟨op,hk,hv,rfl,b⟩;have HKop:Hid (EOk op∧ev op=(0-ev us)%fp):=⟨hk,hv⟩
  have HS19:Hid (RunP w w19 g rt y z t [(G18,rc),(G16,sq),(G12,pw),(G10,bs),(G8,f4),(G6,st),(G2,c2)] [(g1,o1,us),(g2,o2,vs)]):=HSq.out.call b;clear hk hv b HSq;go_wp2_with (first
   |(refine wpList_newP HS19.out rfl (.tmp 14) (.tmp 36) rfl op rfl rfl HKop.out.1 rfl ?_)
   |fail)
  intro w20 S;have HS20:Hid (RunP w w20 g rt y z t [(w19.heap.size,op),(G18,rc),(G16,sq),(G12,pw),(G10,bs),(G8,f4),(G6,st),(G2,c2)] [(g1,o1,us),(g2,o2,vs)]):=S;clear S HS19;generalize w19.heap.size=G20 at *;go_wp2_with fail;refine(sm1_any _).mono ?_;rintro e w21 ⟨tn,hk,hv,rfl,b⟩;have HKtn:Hid (EOk tn∧ev tn=ev sm1L):=⟨hk,hv⟩
  have HS21:Hid (RunP w w21 g rt y z t [(G20,op),(G18,rc),(G16,sq),(G12,pw),(G10,bs),(G8,f4),(G6,st),(G2,c2)] [(g1,o1,us),(g2,o2,vs)]):=HS20.out.call b;clear hk hv b HS20;go_wp2_with (first
   |(refine wpList_newP HS21.out rfl (.tmp 15) (.tmp 37) rfl tn rfl rfl HKtn.out.1 rfl ?_)
   |fail)
  intro w22 S;have HS22:Hid (RunP w w22 g rt y z t [(w21.heap.size,tn),(G20,op),(G18,rc),(G16,sq),(G12,pw),(G10,bs),(G8,f4),(G6,st),(G2,c2)] [(g1,o1,us),(g2,o2,vs)]):=S;clear S HS21;generalize w21.heap.size=G22 at *;go_wp2_with fail;refine(times_any g 0 G22 0 rt tn _ HS22.out.pt.ex (HS22.out.re 0 _ _ rfl)).mono ?_;rintro e w23 ⟨xx,hk,hv,rfl,b⟩;have HKxx:Hid (EOk xx∧ev xx=ev rt*ev tn%fp):=⟨hk,hv⟩
  have HS23:Hid (RunP w w23 g rt y z t [(G22,tn),(G20,op),(G18,rc),(G16,sq),(G12,pw),(G10,bs),(G8,f4),(G6,st),(G2,c2)] [(g1,o1,us),(g2,o2,vs)]):=HS22.out.call b;clear hk hv b HS22;go_wp2_with (first
   |(refine wpList_midP HS23.out rfl (.tmp 41) (.tmp 40) rfl 0 (by decide) xx xx y z t (over_x HS23.out.pt.x.1 HKxx.out.1.1) ⟨HKxx.out.1,HS23.out.pt.y,HS23.out.pt.z,HS23.out.pt.t⟩ rfl rfl HKxx.out.1 rfl ?_)
   |fail)
  intro w24 S;have HS24:Hid (RunP w w24 g xx y z t [(G22,tn),(G20,op),(G18,rc),(G16,sq),(G12,pw),(G10,bs),(G8,f4),(G6,st),(G2,c2)] [(g1,o1,us),(g2,o2,vs)]):=S;clear S HS23;have HXX:Hid (ev xx=rtF (ev us) (ev vs)*ev sm1L%fp):=by
   show _=_
   rw[HKxx.out.2,HKtn.out.2,HRT.out]
  clear HKtn;go_wp2_with fail;refine(equalsE_any G18 0 G20 0 rc op _ (HS24.out.re 2 _ _ rfl) (HS24.out.re 1 _ _ rfl)).mono ?_;rintro e wz ⟨rfl,b⟩;have HSz:Hid (RunP w wz g xx y z t [(G22,tn),(G20,op),(G18,rc),(G16,sq),(G12,pw),(G10,bs),(G8,f4),(G6,st),(G2,c2)] [(g1,o1,us),(g2,o2,vs)]):=HS24.out.call b;clear b HS24;have HD:Hid (decide (ev rc=ev op)=drR (ev us) (ev vs)):=by
   show _=_
   unfold drR;rw[←HRC.out,HKop.out.2];simp[HQ.out]
  rw[HD.out];clear HD;go_wp2
  go_ret
  refine⟨xx,HKxx.out.1,rfl,?_,HSz.out.pt,HSz.out.wrh⟩;unfold drX;rw[←HRC.out,if_neg HQ.out];exact HXX.out
set_option maxHeartbeats 4000000 in
theorem findX_any (g:Nat) (x y z t:List Int) (w:World) (hp:Pt w g x y z t) :
  Calls Tryz.prog 125 #[.pointer (some ⟨g,0,none⟩)] w (DP w g y z t (uF (ev y)) (vF (ev y))):=by
 have HS0:Hid (RunP w w g x y z t [] []):=RunP.start hp _ (fun e he=>by simp at he);clear hp;go_enter Tryz.func125,Tryz.ntmps125;go_wp2_with (first
  |(refine wpList_newP HS0.out rfl (.tmp 3) (.tmp 8) rfl oneL rfl rfl one_ok rfl ?_)
  |fail)
 intro w1 S;have HS1:Hid (RunP w w1 g x y z t [(w.heap.size,oneL)] []):=S;clear S HS0;generalize w.heap.size=G1 at *;go_wp2_with fail;refine(curveD_any _).mono ?_;rintro e w2 ⟨dd,hk,hv,rfl,b⟩;have HKdd:Hid (EOk dd∧ev dd=ev curveDL):=⟨hk,hv⟩
 have HS2:Hid (RunP w w2 g x y z t [(G1,oneL)] []):=HS1.out.call b;clear hk hv b HS1;go_wp2_with (first
  |(refine wpList_newP HS2.out rfl (.tmp 4) (.tmp 9) rfl dd rfl rfl HKdd.out.1 rfl ?_)
  |fail)
 intro w3 S;have HS3:Hid (RunP w w3 g x y z t [(w2.heap.size,dd),(G1,oneL)] []):=S;clear S HS2;generalize w2.heap.size=G3 at *;go_wp2_with fail;refine(squared_any g 5 y 1 _ (by decide) HS3.out.pt.ey).mono ?_;rintro e w4 ⟨sq,hk,hv,rfl,b⟩;have HKsq:Hid (EOk sq∧ev sq=sqN (ev y) 1):=⟨hk,hv⟩
 have HS4:Hid (RunP w w4 g x y z t [(G3,dd),(G1,oneL)] []):=HS3.out.call b;clear hk hv b HS3;go_wp2_with (first
  |(refine wpList_newP HS4.out rfl (.tmp 5) (.tmp 13) rfl sq rfl rfl HKsq.out.1 rfl ?_)
  |fail)
 intro w5 S;have HS5:Hid (RunP w w5 g x y z t [(w4.heap.size,sq),(G3,dd),(G1,oneL)] []):=S;clear S HS4;generalize w4.heap.size=G5 at *;go_wp2_with fail;refine(minus_any G5 0 G1 0 sq oneL _ (HS5.out.re 0 _ _ rfl) (HS5.out.re 2 _ _ rfl)).mono ?_;rintro e w6 ⟨ov,hk,hv,rfl,b⟩;have HKov:Hid (EOk ov∧ev ov=(ev sq-ev oneL)%fp):=⟨hk,hv⟩
 have HS6:Hid (RunP w w6 g x y z t [(G5,sq),(G3,dd),(G1,oneL)] []):=HS5.out.call b;clear hk hv b HS5;go_wp2_with (first
  |(refine wpList_newP HS6.out rfl (.tmp 6) (.tmp 14) rfl ov rfl rfl HKov.out.1 rfl ?_)
  |fail)
 intro w7 S;have HS7:Hid (RunP w w7 g x y z t [(w6.heap.size,ov),(G5,sq),(G3,dd),(G1,oneL)] []):=S;clear S HS6;generalize w6.heap.size=G7 at *;go_wp2_with fail;refine(times_any G5 0 G3 0 sq dd _ (HS7.out.re 1 _ _ rfl) (HS7.out.re 2 _ _ rfl)).mono ?_;rintro e w8 ⟨ua,hk,hv,rfl,b⟩;have HKua:Hid (EOk ua∧ev ua=ev sq*ev dd%fp):=⟨hk,hv⟩
 have HS8:Hid (RunP w w8 g x y z t [(G7,ov),(G5,sq),(G3,dd),(G1,oneL)] []):=HS7.out.call b;clear hk hv b HS7;go_wp2_with (first
  |(refine wpList_newP HS8.out rfl (.tmp 7) (.tmp 15) rfl ua rfl rfl HKua.out.1 rfl ?_)
  |fail)
 intro w9 S;have HS9:Hid (RunP w w9 g x y z t [(w8.heap.size,ua),(G7,ov),(G5,sq),(G3,dd),(G1,oneL)] []):=S;clear S HS8;generalize w8.heap.size=G9 at *;go_wp2_with fail;refine(plus_any G9 0 G1 0 ua oneL _ (HS9.out.re 0 _ _ rfl) (HS9.out.re 4 _ _ rfl)).mono ?_;rintro e w10 ⟨un,hk,hv,rfl,b⟩;have HKun:Hid (EOk un∧ev un=(ev ua+ev oneL)%fp):=⟨hk,hv⟩
 have HS10:Hid (RunP w w10 g x y z t [(G9,ua),(G7,ov),(G5,sq),(G3,dd),(G1,oneL)] []):=HS9.out.call b;clear hk hv b HS9;go_wp2_with (first
  |(refine wpList_rowP HS10.out rfl (.tmp 7) (.tmp 16) rfl 0 G9 ua un rfl rfl rfl HKun.out.1 rfl ?_)
  |fail)
 intro w11 S;have HS11:Hid (RunP w w11 g x y z t [(G9,un),(G7,ov),(G5,sq),(G3,dd),(G1,oneL)] []):=S;clear S HS10;have HUF:Hid (ev ov=uF (ev y)):=by
  show _=_
  unfold uF;rw[HKov.out.2,HKsq.out.2]
 have HVF:Hid (ev un=vF (ev y)):=by
  show _=_
  unfold vF;rw[HKun.out.2,HKua.out.2,HKsq.out.2,HKdd.out.2]
 have hlt:=HS11.out.lt;have hn1:=(HS11.out.rows _ (List.mem_of_getElem? (i:=1) rfl)).1;have hn2:=(HS11.out.rows _ (List.mem_of_getElem? (i:=0) rfl)).1;dsimp only at hn1 hn2;clear HKov HKsq HKun HKua HKdd;go_wp2_with fail;refine(divideRoot_any g x y z t G7 0 G9 0 ov un _ HS11.out.pt (HS11.out.re 1 _ _ rfl) (HS11.out.re 0 _ _ rfl) (by omega) (by omega)).mono ?_;rintro e wd ⟨xs,hk,rfl,hx,hp,hw⟩;rw[HUF.out,HVF.out] at hx ⊢;have HX:Hid (EOk xs∧ev xs=drX (uF (ev y)) (vF (ev y))∧Pt wd g xs y z t∧WrH g w wd):=⟨hk,hx,hp,HS11.out.wrh.trans hw⟩
 clear hk hx hp hw HUF HVF hlt hn1 hn2 HS11;go_wp2
 go_ret
 exact⟨xs,HX.out.1,rfl,HX.out.2.1,HX.out.2.2.1,HX.out.2.2.2⟩
theorem lm1 (a b:Int) (ha:0≤a) (ha':a<18446744073709551616) (hb:0≤b) (hb':b<18446744073709551616) :
  bits .and .u64 (bits .or .u64 (a/2251799813685248) (IntKind.u64.wrap (b*8192))) 2251799813685247=(a/2251799813685248+b%2251799813685248*8192)%2251799813685248:=by
 have e:IntKind.u64.wrap (b*8192)=b%2251799813685248*8192:=by rw[IntKind.wrap_u64];omega
 rw[e,u64_or_add' (b%2251799813685248*8192) (a/2251799813685248) 13 (by omega) (by omega) (by omega) (by rw[show(2:Int)^13=8192 from by decide];omega) (by omega) (b%2251799813685248) (by rw[show(2:Int)^13=8192 from by decide])];exact u64_and_mask _ 51 (by omega) (by omega) _ (by decide) (by decide)
theorem lm2 (a b:Int) (ha:0≤a) (ha':a<18446744073709551616) (hb:0≤b) (hb':b<18446744073709551616) :
  bits .and .u64 (bits .or .u64 (a/274877906944) (IntKind.u64.wrap (b*67108864))) 2251799813685247=(a/274877906944+b%274877906944*67108864)%2251799813685248:=by
 have e:IntKind.u64.wrap (b*67108864)=b%274877906944*67108864:=by rw[IntKind.wrap_u64];omega
 rw[e,u64_or_add' (b%274877906944*67108864) (a/274877906944) 26 (by omega) (by omega) (by omega) (by rw[show(2:Int)^26=67108864 from by decide];omega) (by omega) (b%274877906944) (by rw[show(2:Int)^26=67108864 from by decide])];exact u64_and_mask _ 51 (by omega) (by omega) _ (by decide) (by decide)
theorem lm3 (a b:Int) (ha:0≤a) (ha':a<18446744073709551616) (hb:0≤b) (hb':b<18446744073709551616) :
  bits .and .u64 (bits .or .u64 (a/33554432) (IntKind.u64.wrap (b*549755813888))) 2251799813685247=(a/33554432+b%33554432*549755813888)%2251799813685248:=by
 have e:IntKind.u64.wrap (b*549755813888)=b%33554432*549755813888:=by rw[IntKind.wrap_u64];omega
 rw[e,u64_or_add' (b%33554432*549755813888) (a/33554432) 39 (by omega) (by omega) (by omega) (by rw[show(2:Int)^39=549755813888 from by decide];omega) (by omega) (b%33554432) (by rw[show(2:Int)^39=549755813888 from by decide])];exact u64_and_mask _ 51 (by omega) (by omega) _ (by decide) (by decide)
def lmb (a b c d:Int):List Int:=[a%2251799813685248,(a/2251799813685248+b%2251799813685248*8192)%2251799813685248,(b/274877906944+c%274877906944*67108864)%2251799813685248,(c/33554432+d%33554432*549755813888)%2251799813685248,d/4096%2251799813685248]
theorem lmb_ok (a b c d:Int):EOk (lmb a b c d):=ok5 _ _ _ _ _ (by omega) (by omega) (by omega) (by omega) (by omega)
theorem lmb_dig (a b c d:Int):Dig B51 (lmb a b c d):=by
 intro z hz;unfold B51;simp only[lmb,List.mem_cons,List.not_mem_nil,or_false] at hz;rcases hz with rfl|rfl|rfl|rfl|rfl<;>omega
theorem lmb_val (a b c d:Int) (ha:0≤a) (ha':a<18446744073709551616) (hb:0≤b) (hb':b<18446744073709551616) (hc:0≤c) (hc':c<18446744073709551616) (hd:0≤d) (hd':d<18446744073709551616) :
  val B51 (lmb a b c d)=val 18446744073709551616 [a,b,c,d]%(fp+19):=by
 simp only[lmb,val,B51,fp_lit];omega
theorem lmb_least (a b c d:Int):lsE (lmb a b c d)=lmb a b c d↔val B51 (lmb a b c d)<fp:=by
 have h:=lsE_all (lmb_ok a b c d);have hb:=ev_bd (lmb a b c d);constructor
 ·intro e;have e2:=h.2.2;rw[e] at e2;rw[e2];exact hb.2
 ·intro e;refine val_inj (B:=B51) (by decide) (sst_dig _) (lmb_dig _ _ _ _) (by rw[lsE_len];rfl) ?_;rw[h.2.2];exact Int.emod_eq_of_lt (val_nonneg (by decide) (lmb_dig _ _ _ _)) e
set_option maxHeartbeats 1000000 in
theorem elementOf_any (a b c d:Int) (w:World) (ha:0≤a) (ha':a<18446744073709551616) (hb:0≤b) (hb':b<18446744073709551616) (hc:0≤c) (hc':c<18446744073709551616) (hd:0≤d) (hd':d<18446744073709551616) :
  Calls Tryz.prog 123 #[.agg #[.int .u64 a,.int .u64 b,.int .u64 c,.int .u64 d]] w fun e w'=>e=.returned (.agg ((lmb a b c d).map (Value.int .u64)).toArray)∧Below w.heap.size w w':=by
 have l0:bits .and .u64 a 2251799813685247=a%2251799813685248:=u64_and_mask _ 51 (by omega) (by omega) _ (by decide) (by decide);have l1:=lm1 a b ha ha' hb hb';have l2:=lm2 b c hb hb' hc hc';have l3:=lm3 c d hc hc' hd hd';have l4:bits .and .u64 (d/4096) 2251799813685247=d/4096%2251799813685248:=u64_and_mask _ 51 (by omega) (by omega) _ (by decide) (by decide);have H0:Hid (bits .and .u64 a 2251799813685247=a%2251799813685248∧bits .and .u64 (bits .or .u64 (a/2251799813685248) (IntKind.u64.wrap (b*8192))) 2251799813685247=(a/2251799813685248+b%2251799813685248*8192)%2251799813685248∧bits .and .u64 (bits .or .u64 (b/274877906944) (IntKind.u64.wrap (c*67108864))) 2251799813685247=(b/274877906944+c%274877906944*67108864)%2251799813685248∧bits .and .u64 (bits .or .u64 (c/33554432) (IntKind.u64.wrap (d*549755813888))) 2251799813685247=(c/33554432+d%33554432*549755813888)%2251799813685248∧bits .and .u64 (d/4096) 2251799813685247=d/4096%2251799813685248):=⟨l0,l1,l2,l3,l4⟩
 clear l0 l1 l2 l3 l4;go_enter Tryz.func123,Tryz.ntmps123;go_wp2_with fail;obtain⟨l0,l1,l2,l3,l4⟩:=H0.out;rw[l0,l1,l2,l3,l4];exact bodyPost_ret (v:=.agg ((lmb a b c d).map (Value.int .u64)).toArray) (resE rfl _ _ (w.heap.size+1) (lmb a b c d) rfl rfl (heap_alloc2_new _ _ _)) rfl ⟨rfl,((Below.refl _ _).alloc (Nat.le_refl _) _).alloc (by simp) _⟩
set_option maxHeartbeats 1000000 in
theorem bit255_any (g:Nat) (ns:List Int) (w:World) (hl:ns.length=4) (hr:RowW w g 143 ns) (hw:Wrd ns) :
  Calls Tryz.prog 122 #[.pointer (some ⟨g,0,none⟩),.int .i64 255] w fun e w'=>e=.returned (.int .u64 (ns.getD 3 0/9223372036854775808))∧w'=w:=by
 have c3:=hr.cell 3 (by omega);obtain⟨h0,h1⟩:=hw.get 3;have HA:Hid (bits .and .u64 (ns.getD 3 0/9223372036854775808) 1=ns.getD 3 0/9223372036854775808):=by
  show _=_
  rw[u64_and_mask _ 1 (by omega) (by omega) 1 (by decide) (by decide)];omega
 clear hr hw hl;generalize ns.getD 3 0=x at *;go_enter Tryz.func122,Tryz.ntmps122;go_wp2;rw[HA.out]
 go_ret
 exact⟨rfl,rfl⟩
theorem updK_ne {L:Nat→Bool} {i j:Nat} (h:j≠i):updK L i j=L j:=by unfold updK;simp[h]
theorem updK_same {L:Nat→Bool} {i:Nat}:updK L i i=true:=by unfold updK;simp
def ExD (w0:World) (g k:Nat) (A B:World→Prop) (L:Nat→Bool) (w':World):Prop:=WrH g w0 w'∧(L k=false→A w')∧(L k=true→B w')
theorem ExD.ref {w0:World} {g k:Nat} {A B:World→Prop} {L:Nat→Bool} {w':World} (i:Nat) (hi:i≠k) (h:ExD w0 g k A B L w'):ExD w0 g k A B (updK L i) w':=
 ⟨h.1,by rw[updK_ne (Ne.symm hi)];exact h.2.1,by rw[updK_ne (Ne.symm hi)];exact h.2.2⟩
theorem ExD.low {w0:World} {g k:Nat} {A B:World→Prop} {L:Nat→Bool} {w' ww:World} (i:Nat) (hi:i≠k) (h:ExD w0 g k A B L w') (hA:A w'→A ww) (hB:B w'→B ww) (b:Below w'.heap.size w' ww):ExD w0 g k A B (updK L i) ww:=
 ⟨h.1.trans (WrH.of_below b),by rw[updK_ne (Ne.symm hi)];exact fun q=>hA (h.2.1 q),by rw[updK_ne (Ne.symm hi)];exact fun q=>hB (h.2.2 q)⟩
theorem wp_loadE {w:World} {o:Oper} {a:Act} {K:Act→World→Prop} {Q:Exit→Act→World→Prop} (x:Operand) (ho:o.op=.load 138 x)
  (g p:Nat) (es:List Int) (hx:a.eval x=.pointer (some ⟨g,p,none⟩)) (h:EAt w g p es) (hK:K (a.put o.dst (.agg (es.map (Value.int .u64)).toArray)) w):o.wp Tryz.prog a w K Q:=by
 have hr:w.rangeAt g p (es.map (Value.int .u64)):=fun j v hv=>by
  have hj:j<es.length:=by have:=(List.getElem?_eq_some_iff.1 hv).1;simpa using this
  rw[h.2.2 j (by have:=h.2.1.1;omega)];simp[hj] at hv;simp[hj,hv]
 have hl:=h.2.1.1;exact wp_load_mid 138 x ho g p hx (es.map (Value.int .u64)) _ hr Tryz.underlying138 rfl (by rw[Tryz.sizeEl];simp[hl]) hK
theorem wp_midT {w:World} {g:Nat} {x y z t:List Int} {o:Oper} {a:Act} {K:Act→World→Prop} {Q:Exit→Act→World→Prop} (pt:Pt w g x y z t) (px py:Operand) (ho:o.op=.store 138 px py)
  (es:List Int) (hx:a.eval px=.pointer (some ⟨g,15,none⟩)) (hy:a.eval py=.agg (es.map (Value.int .u64)).toArray) (hk:EOk es)
  (hK:∀ w',Pt w' g x y z es→Wr g w w'→K (a.put o.dst undef) w'):o.wp Tryz.prog a w K Q:=by
 have hsz:((es.map (Value.int .u64)).toArray).size=5:=by simp[hk.1]
 have hl:(pl x y z t).length=20:=by unfold pl;simp[pt.x.1,pt.y.1,pt.z.1,pt.t.1]
 refine wp_store_mid 138 px py ho g 15 ((es.map (Value.int .u64)).toArray) hx hy (by rw[hsz];exact fun j hj=>⟨by rw[pt.row.cell (15+j) (by omega)];rfl,pt.row.frozen _⟩) (sizeEl hk.1) (all_oneCell_toArray (ints_oneCell _ _)) (hK _ ?_ (Wr.setCells _ _ 15 (Wr.refl _ _)));have hr:=RowW.setCells es (pl x y z t) w 15 pt.row;rw[over_t pt.x.1 pt.y.1 pt.z.1 pt.t.1 hk.1] at hr;exact⟨hr,pt.x,pt.y,pt.z,hk⟩
def TG (X Y:Int) (v:Value):Prop:=∃ ts,EOk ts∧ev ts=X*Y%fp∧v=.agg (ts.map (Value.int .u64)).toArray
def dcY (zs:List Int):Int:=val 256 zs%(fp+19)
def dcO (zs:List Int):Bool:=val 256 zs/(fp+19) == 1
def dc1 (zs:List Int):Int:=drX (uF (dcY zs)) (vF (dcY zs))
def dcX (zs:List Int):Int:=if((dc1 zs%2 == 1) != dcO zs)=true then(0-dc1 zs)%fp else dc1 zs
def dcR (zs:List Int):Bool:=zs.length == 32 && decide (dcY zs<fp) && drR (uF (dcY zs)) (vF (dcY zs)) && ((dcX zs%2 == 1) == dcO zs)
def DC (w:World) (g:Nat) (zs:List Int) (e:Ending) (w':World):Prop:=
 ∃ x y z t,Pt w' g x y z t∧WrH g w w'∧e=.returned (.bool (dcR zs))∧(dcR zs=true→ev x=dcX zs∧ev y=dcY zs∧ev z=1∧ev t=dcX zs*dcY zs%fp)
theorem dc_num (a b c d V:Int) (ha:0≤a) (ha':a<18446744073709551616) (hb:0≤b) (hb':b<18446744073709551616) (hc:0≤c) (hc':c<18446744073709551616) (hd:0≤d) (hd':d<18446744073709551616) (hV:val 18446744073709551616 [a,b,c,d]=V) :
  (d/9223372036854775808 == 1)=(V/(fp+19) == 1):=by
 have:d/9223372036854775808=V/(fp+19):=by
  subst hV;simp only[val,fp_lit];omega
 rw[this]
set_option maxHeartbeats 8000000 in
theorem decode_any (g:Nat) (x y z t0:List Int) (p:Option Addr) (n cap:Nat) (zs:List Int) (w:World) (hn:zs.length=n) (hm:n≤1048576) (ha:At .u8 w p zs) (hz:Byte zs) (hp:Pt w g x y z t0) :
  Calls Tryz.prog 102 #[.pointer (some ⟨g,0,none⟩),.slice p n cap] w (DC w g zs):=by
 have HP:Hid (Pt w g x y z t0):=hp;have hlt:=hp.row.lt;clear hp;by_cases h32:n=32
 ·have h32':((n:Int) == 32)=true:=by rw[h32];rfl
  have H32:Hid (32≤n):=by show _≤_;omega
  have HLN:Hid (zs.length=32):=by show _=_;omega
  have htk:zs.take 32=zs:=List.take_of_length_le (by omega);clear h32;go_enter Tryz.func102,Tryz.ntmps102;go_wp2_with fail;have cl:=nof_any p n cap zs w hn H32.out hm ha hz;refine cl.mono ?_;rintro e w1 ⟨ms,hl,hw,hv,rfl,b1⟩;rw[htk] at hv
  match ms,hl with
  |[a,b,c,d],_=>
  obtain⟨a0,a1⟩:=hw.get 0;obtain⟨b0,b1'⟩:=hw.get 1;obtain⟨c0,c1⟩:=hw.get 2;obtain⟨d0,d1⟩:=hw.get 3;simp only[List.getD_cons_zero,List.getD_cons_succ] at a0 a1 b0 b1' c0 c1 d0 d1;have HO:Hid ((d/9223372036854775808 == 1)=dcO zs):=dc_num a b c d _ a0 a1 b0 b1' c0 c1 d0 d1 hv;have HY:Hid (val B51 (lmb a b c d)=dcY zs):=by
   show _=_
   rw[lmb_val a b c d a0 a1 b0 b1' c0 c1 d0 d1,hv];rfl
  have HP1:Hid (Pt w1 g x y z t0):=HP.out.below b1 hlt;have HW1:Hid (WrH g w w1):=WrH.of_below b1;have HWD:Hid (Wrd [a,b,c,d]):=hw;clear HP b1 hv cl hw ha hz htk;have HZN:Hid (RowW (w1.alloc (.cells #[.int .u64 0,.int .u64 0,.int .u64 0,.int .u64 0] 143)) w1.heap.size 143 [0,0,0,0]):=heap_alloc_new w1 _;have HSZ:Hid ((Tryz.prog.info? 143).map (·.size)=some (([a,b,c,d].map (Value.int .u64)).toArray).size):=sizeNum rfl;go_wp2_with (first
   |(refine wpList_store_row rfl 143 (.tmp 5) (.tmp 11) rfl w1.heap.size (([a,b,c,d].map (Value.int .u64)).toArray) rfl rfl 143 _ HZN.out HSZ.out rfl (all_oneCell_toArray (ints_oneCell _ _)) ?_)
   |fail)
  have R2:RowW ((w1.alloc (.cells #[.int .u64 0,.int .u64 0,.int .u64 0,.int .u64 0] 143)).setRow w1.heap.size #[.int .u64 a,.int .u64 b,.int .u64 c,.int .u64 d]) w1.heap.size 143 [a,b,c,d]:=HZN.out.setRow [a,b,c,d];have B2:Below w1.heap.size w1 ((w1.alloc (.cells #[.int .u64 0,.int .u64 0,.int .u64 0,.int .u64 0] 143)).setRow w1.heap.size #[.int .u64 a,.int .u64 b,.int .u64 c,.int .u64 d]):=(below_new2 _ _).trans ((Wr.setRow _ _ _).below (Nat.le_refl _));have hlt1:=HP1.out.row.lt;generalize (w1.alloc (.cells #[.int .u64 0,.int .u64 0,.int .u64 0,.int .u64 0] 143)).setRow w1.heap.size #[.int .u64 a,.int .u64 b,.int .u64 c,.int .u64 d]=w2 at *;have HP2:Hid (Pt w2 g x y z t0):=HP1.out.below B2 hlt1;have HW2:Hid (WrH g w w2):=HW1.out.trans (WrH.of_below B2);have HR2:Hid (RowW w2 w1.heap.size 143 [a,b,c,d]):=R2;clear R2 B2 HP1 HW1 HZN;generalize w1.heap.size=Gn at *;go_wp2_with fail;refine(bit255_any Gn [a,b,c,d] _ rfl HR2.out HWD.out).mono ?_;rintro e w2' ⟨rfl,rfl⟩;simp only[List.getD_cons_zero,List.getD_cons_succ];go_wp2_with (first
   |(refine wpList_load_row rfl 143 (.tmp 5) rfl Gn rfl 143 _ (0,0) _ HR2.out Tryz.underlying143 rfl HSZ.out ?_)
   |fail)
  rw[HO.out];refine(elementOf_any a b c d _ a0 a1 b0 b1' c0 c1 d0 d1).mono ?_;rintro e w3 ⟨rfl,b3⟩;have HS3:Hid (RunP w w3 g x y z t0 [] []):=⟨HW2.out.trans (WrH.of_below b3),hlt,HP2.out.below b3 HP2.out.row.lt,by simp,List.Pairwise.nil,by simp⟩
  have HKlm:Hid (EOk (lmb a b c d)∧val B51 (lmb a b c d)=dcY zs):=⟨lmb_ok a b c d,HY.out⟩
  have HLS:Hid (lsE (lmb a b c d)=lmb a b c d↔dcY zs<fp):=by
   show _↔_
   rw[←HY.out];exact lmb_least a b c d
  clear b3 HP2 HW2 HR2 HO HSZ HWD HY;generalize lmb a b c d=ys at *;clear a0 a1 b0 b1' c0 c1 d0 d1;have HKys:Hid (EOk ys∧ev ys=ev ys):=⟨HKlm.out.1,rfl⟩
  go_wp2_with (first
   |(refine wpList_midP HS3.out rfl (.tmp 18) (.tmp 16) rfl 5 (by decide) ys x ys z t0 (over_y HS3.out.pt.x.1 HS3.out.pt.y.1 HKlm.out.1.1) ⟨HS3.out.pt.x,HKlm.out.1,HS3.out.pt.z,HS3.out.pt.t⟩ rfl rfl HKlm.out.1 rfl ?_)
   |fail)
  intro w4 S4;have HS4:Hid (RunP w w4 g x ys z t0 [] []):=S4;clear S4 HS3;have HA:Hid (∀(w' ww:World),Below w'.heap.size w' ww→Pt w' g x ys z t0→Pt ww g x ys z t0):=fun w' ww b h=>h.below b h.row.lt
  have hyl:=HKys.out.1.1;have hll:=lsE_len ys;by_cases hle:lsE ys=ys
  ·have HQ:Hid (decide (ys=lsE ys)=true):=decide_eq_true hle.symm;have HYL:Hid (dcY zs<fp):=HLS.out.1 hle;have HEV:Hid (ev ys=dcY zs):=by
    show _=_
    have:=(lsE_all HKys.out.1).2.2;rw[hle,HKlm.out.2] at this;exact this.symm
   clear hle;have EX0:Hid (ExD w g 11 (fun w1=>Pt w1 g x ys z t0) (fun w1=>∃ xs,EOk xs∧ev xs=dc1 zs∧Pt w1 g xs ys z t0) (fun n=>(Array.replicate 14 false).getD n false) w4.drew):=⟨HS4.out.wrh.trans (WrH.of_below (Below.refl _ _).drew),fun _=>⟨HS4.out.pt.row,HS4.out.pt.x,HS4.out.pt.y,HS4.out.pt.z,HS4.out.pt.t⟩,fun q=>absurd q (by simp)⟩
   have HB:Hid (∀(w' ww:World),Below w'.heap.size w' ww→(∃ xs,EOk xs∧ev xs=dc1 zs∧Pt w' g xs ys z t0)→(∃ xs,EOk xs∧ev xs=dc1 zs∧Pt ww g xs ys z t0)):=fun w' ww b ⟨xs,h1,h2,h⟩=>⟨xs,h1,h2,h.below b h.row.lt⟩
   have REF:Hid (∀ i,i≠11→∀(L:Nat→Bool) (w':World),ExD w g 11 (fun w1=>Pt w1 g x ys z t0) (fun w1=>∃ xs,EOk xs∧ev xs=dc1 zs∧Pt w1 g xs ys z t0) L w'→ExD w g 11 (fun w1=>Pt w1 g x ys z t0) (fun w1=>∃ xs,EOk xs∧ev xs=dc1 zs∧Pt w1 g xs ys z t0) (updK L i) w'):=fun i hi L w' h=>ExD.ref i hi h
   have YY:Hid (∀(L:Nat→Bool) (w':World),ExD w g 11 (fun w1=>Pt w1 g x ys z t0) (fun w1=>∃ xs,EOk xs∧ev xs=dc1 zs∧Pt w1 g xs ys z t0) L w'→EAt w' g 5 ys):=fun L w' h=>by
    cases hL:L 11
    ·exact(h.2.1 hL).ey
    ·obtain⟨_,_,_,q⟩:=h.2.2 hL;exact q.ey
   go_wp2;refine wp_region_any (by kernel_rfl) ?_;refine wpAny_slotsG (fun _ _ _=>True) (frame:=(fun (a b c d e f g h i j k l m n o p q r s u v w x y z A B C D E F G H I J K L M N O P Q R S T U V W X Y Z a0:Value)=>fun (t:Nat→Value)=>({ tmps:=List.toArray [a,b,c,d,e,f,g,h,i,j,k,l,m,n,o,p,q,r,s,t 0,t 1,t 2,t 3,t 4,t 5,t 6,t 7,t 8,t 9,t 10,t 11,t 12,t 13,u,v,w,x,y,z,A,B,C,D,E,F,G,H,I,J,K,L,M,N,O,P,Q,R,S,T,U,V,W,X,Y,Z,a0],defers:=[] }:Act)) _ _ _ _ _ _ _ _ _ _ _ _ _ _ _ _ _ _ _ _ _ _ _ _ _ _ _ _ _ _ _ _ _ _ _ _ _ _ _ _ _ _ _ _ _ _ _ _ _ _ _ _)
    (Ext:=fun L w'=>ExD w g 11 (fun w1=>Pt w1 g x ys z t0) (fun w1=>∃ xs,EOk xs∧ev xs=dc1 zs∧Pt w1 g xs ys z t0) L w') (Good:=fun i L _ v=>if i=0 then v=.pointer (some ⟨g,0,none⟩) else if i=1 then v=.pointer (some ⟨g,0,none⟩) else if i=2 then v=.pointer (some ⟨g,5,none⟩) else if i=3 then v=.agg (ys.map (Value.int .u64)).toArray else if i=4 then v=.pointer (some ⟨g,0,none⟩) else if i=5 then v=.pointer (some ⟨g,0,none⟩) else if i=6 then v=.pointer (some ⟨g,5,none⟩) else if i=7 then v=.agg ((lsE ys).map (Value.int .u64)).toArray else if i=8 then v=.bool false else if i=9 then v=.bool false else if i=10 then v=.pointer (some ⟨g,0,none⟩) else if i=11 then v=.bool (drR (uF (dcY zs)) (vF (dcY zs)))∧L 11=true else if i=12 then v=.bool (!(drR (uF (dcY zs)) (vF (dcY zs)))) else if i=13 then v=.bool (!(drR (uF (dcY zs)) (vF (dcY zs)))) else True) ?hstab (by kernel_rfl) ?hop ?hdone _ _ ((fun (x0 x1 x2 x3 x4 x5 x6 x7 x8 x9 x10 x11 x12 x13:Value)=>fun (i:Nat)=>if i=0 then x0 else if i=1 then x1 else if i=2 then x2 else if i=3 then x3 else if i=4 then x4 else if i=5 then x5 else if i=6 then x6 else if i=7 then x7 else if i=8 then x8 else if i=9 then x9 else if i=10 then x10 else if i=11 then x11 else if i=12 then x12 else if i=13 then x13 else undef) _ _ _ _ _ _ _ _ _ _ _ _ _ _) _ (by simp) ?ext ?start (by simp)
   case start=>intro i hi h;exact absurd h (by rw[Array.getD_eq_getD_getElem?,Array.getElem?_replicate];split<;>simp)
   case ext=>exact EX0.out
   case hstab=>
    intro j L w w' i v _ _ _ h;by_cases hj:j=11
    ·subst hj;simp at h ⊢;exact⟨h.1,by unfold updK;simp[h.2]⟩
    ·simp only[if_neg hj] at h ⊢;exact h
   case hop=>
    intro i o L t w' ho hLi hx hdep K hK;have hi:i<14:=(Array.getElem?_eq_some_iff.1 ho).1;obtain rfl|rfl|rfl|rfl|rfl|rfl|rfl|rfl|rfl|rfl|rfl|rfl|rfl|rfl:i=0∨i=1∨i=2∨i=3∨i=4∨i=5∨i=6∨i=7∨i=8∨i=9∨i=10∨i=11∨i=12∨i=13:=by omega
    all_goals(simp at ho;subst ho)
    ·clear hdep;have hK':=hK w' (.pointer (some ⟨g,0,none⟩)) (by simp) (REF.out 0 (by decide) L w' hx) trivial;clear hK;rw[if_pos (by rfl)];go_simp;simpa[upd] using hK'
    ·have d0:t 0=.pointer (some ⟨g,0,none⟩):=by simpa using hdep ⟨0,.data⟩ (by simp) rfl
     clear hdep;have hK':=hK w' (.pointer (some ⟨g,0,none⟩)) (by simp) (REF.out 1 (by decide) L w' hx) trivial;clear hK;rw[if_pos (by rfl)];go_simp;simpa[upd,d0] using hK'
    ·have d1:t 1=.pointer (some ⟨g,0,none⟩):=by simpa using hdep ⟨1,.data⟩ (by simp) rfl
     clear hdep;have hK':=hK w' (.pointer (some ⟨g,5,none⟩)) (by simp) (REF.out 2 (by decide) L w' hx) trivial;clear hK;rw[if_pos (by rfl)];go_simp;simpa[upd,d1] using hK'
    ·have d2:t 2=.pointer (some ⟨g,5,none⟩):=by simpa using hdep ⟨2,.data⟩ (by simp) rfl
     clear hdep;have hK':=hK w' (.agg (ys.map (Value.int .u64)).toArray) (by simp) (REF.out 3 (by decide) L w' hx) trivial;have ex:=YY.out L w' hx;clear hK;rw[if_pos (by rfl)];refine wp_loadE (.tmp 21) rfl g 5 ys (show t 2=_ from d2) ex ?_;go_simp;simpa[upd,d2] using hK'
    ·clear hdep;have hK':=hK w' (.pointer (some ⟨g,0,none⟩)) (by simp) (REF.out 4 (by decide) L w' hx) trivial;clear hK;rw[if_pos (by rfl)];go_simp;simpa[upd] using hK'
    ·have d4:t 4=.pointer (some ⟨g,0,none⟩):=by simpa using hdep ⟨4,.data⟩ (by simp) rfl
     clear hdep;have hK':=hK w' (.pointer (some ⟨g,0,none⟩)) (by simp) (REF.out 5 (by decide) L w' hx) trivial;clear hK;rw[if_pos (by rfl)];go_simp;simpa[upd,d4] using hK'
    ·have d5:t 5=.pointer (some ⟨g,0,none⟩):=by simpa using hdep ⟨5,.data⟩ (by simp) rfl
     clear hdep;have hK':=hK w' (.pointer (some ⟨g,5,none⟩)) (by simp) (REF.out 6 (by decide) L w' hx) trivial;clear hK;rw[if_pos (by rfl)];go_simp;simpa[upd,d5] using hK'
    ·have d6:t 6=.pointer (some ⟨g,5,none⟩):=by simpa using hdep ⟨6,.data⟩ (by simp) rfl
     clear hdep;have A:=leastE_any g 5 ys w' (YY.out L w' hx);have hK':∀ ww,Below w'.heap.size w' ww→K _ ww:=fun ww b=>hK ww (.agg ((lsE ys).map (Value.int .u64)).toArray) (by simp) (ExD.low 7 (by decide) hx (fun q=>HA.out _ _ b q) (fun q=>HB.out _ _ b q) b) trivial
     clear hK;rw[if_pos (by rfl)];go_simp;refine A.mono ?_;rintro e w9 ⟨rfl,hb⟩;have hK2:=hK' w9 hb;clear hK' A hb;go_simp;simpa[upd,d6] using hK2
    ·have d3:t 3=.agg (ys.map (Value.int .u64)).toArray:=by simpa using hdep ⟨3,.data⟩ (by simp) rfl
     have d7:t 7=.agg ((lsE ys).map (Value.int .u64)).toArray:=by simpa using hdep ⟨7,.data⟩ (by simp) rfl
     clear hdep;have hK':=hK w' (.bool false) (by simp) (REF.out 8 (by decide) L w' hx) trivial;clear hK;rw[if_pos (by rfl)];go_simp;simp only[run_eqW _ 9998 5 138 Tryz.underlying138 ys (lsE ys) hyl hll,HQ.out,Result.andThen_ok];go_simp;simpa[upd,d3,d7] using hK'
    ·have d8:t 8=.bool false:=by simpa using hdep ⟨8,.data⟩ (by simp) rfl
     clear hdep;have hK':=hK w' (.bool false) (by simp) (REF.out 9 (by decide) L w' hx) trivial;clear hK;rw[if_pos (by rfl)];go_simp;simpa[upd,d8] using hK'
    ·have d9:t 9=.bool false:=by simpa using hdep ⟨9,.guard⟩ (by simp) rfl
     clear hdep;have hK':=hK w' (.pointer (some ⟨g,0,none⟩)) (by simp) (REF.out 10 (by decide) L w' hx) trivial;clear hK;rw[if_pos (by simp[Region.wanted,yielded,d9])];go_simp;simpa[upd,d9] using hK'
    ·have d10:t 10=.pointer (some ⟨g,0,none⟩):=by simpa using hdep ⟨10,.data⟩ (by simp) rfl
     have d9:t 9=.bool false:=by simpa using hdep ⟨9,.guard⟩ (by simp) rfl
     clear hdep;have A:=findX_any g x ys z t0 w' (hx.2.1 hLi);rw[HEV.out] at A;have hK':∀ ww,(∃ xs,EOk xs∧ev xs=dc1 zs∧Pt ww g xs ys z t0)→WrH g w' ww→K _ ww:=fun ww hq hw=>hK ww (.bool (drR (uF (dcY zs)) (vF (dcY zs)))) (by simp[updK]) ⟨hx.1.trans hw,fun q=>absurd q (by rw[updK_same];decide),fun _=>hq⟩ trivial
     clear hK;rw[if_pos (by simp[Region.wanted,yielded,d9])];go_simp;refine A.mono ?_;rintro e w9 ⟨xs,hk,rfl,hv,hp,hw⟩;have hK2:=hK' w9 ⟨xs,hk,hv,hp⟩ hw;clear hK' A hk hv hp hw;go_simp;simpa[upd,d9,d10] using hK2
    ·have d11:t 11=.bool (drR (uF (dcY zs)) (vF (dcY zs)))∧L 11=true:=by simpa using hdep ⟨11,.data⟩ (by simp) rfl
     have d9:t 9=.bool false:=by simpa using hdep ⟨9,.guard⟩ (by simp) rfl
     clear hdep;have hK':=hK w' (.bool (!(drR (uF (dcY zs)) (vF (dcY zs))))) (by simp) (REF.out 12 (by decide) L w' hx) trivial;clear hK;rw[if_pos (by simp[Region.wanted,yielded,d9])];go_simp;simpa[upd,d9,d11] using hK'
    ·have d9:t 9=.bool false:=by simpa using hdep ⟨9,.data⟩ (by simp) rfl
     have d12:t 12=.bool (!(drR (uF (dcY zs)) (vF (dcY zs)))):=by simpa using hdep ⟨12,.data⟩ (by simp) rfl
     clear hdep;have hK':=hK w' (.bool (!(drR (uF (dcY zs)) (vF (dcY zs))))) (by simp) (REF.out 13 (by decide) L w' hx) trivial;clear hK;rw[if_pos (by rfl)];go_simp;simpa[upd,d9,d12] using hK'
   case hdone=>
    intro L t w' hx hg;have d0:t 0=.pointer (some ⟨g,0,none⟩):=by simpa using hg 0 (by decide)
    have d1:t 1=.pointer (some ⟨g,0,none⟩):=by simpa using hg 1 (by decide)
    have d2:t 2=.pointer (some ⟨g,5,none⟩):=by simpa using hg 2 (by decide)
    have d3:t 3=.agg (ys.map (Value.int .u64)).toArray:=by simpa using hg 3 (by decide)
    have d4:t 4=.pointer (some ⟨g,0,none⟩):=by simpa using hg 4 (by decide)
    have d5:t 5=.pointer (some ⟨g,0,none⟩):=by simpa using hg 5 (by decide)
    have d6:t 6=.pointer (some ⟨g,5,none⟩):=by simpa using hg 6 (by decide)
    have d7:t 7=.agg ((lsE ys).map (Value.int .u64)).toArray:=by simpa using hg 7 (by decide)
    have d8:t 8=.bool false:=by simpa using hg 8 (by decide)
    have d9:t 9=.bool false:=by simpa using hg 9 (by decide)
    have d10:t 10=.pointer (some ⟨g,0,none⟩):=by simpa using hg 10 (by decide)
    have d11:t 11=.bool (drR (uF (dcY zs)) (vF (dcY zs)))∧L 11=true:=by simpa using hg 11 (by decide)
    have d12:t 12=.bool (!(drR (uF (dcY zs)) (vF (dcY zs)))):=by simpa using hg 12 (by decide)
    have d13:t 13=.bool (!(drR (uF (dcY zs)) (vF (dcY zs)))):=by simpa using hg 13 (by decide)
    clear hg;obtain⟨xs,hk,hv,hpt⟩:=hx.2.2 d11.2;have HS5:Hid (RunP w w' g xs ys z t0 [] []):=⟨hx.1,hlt,hpt,by simp,List.Pairwise.nil,by simp⟩
    have HKxs:Hid (EOk xs∧ev xs=dc1 zs):=⟨hk,hv⟩
    clear hx HS4 HA EX0 REF YY HQ HB hk hv hpt;dsimp only;rw[d0,d1,d2,d3,d4,d5,d6,d7,d8,d9,d10,d11.1,d12,d13];clear d0 d1 d2 d3 d4 d5 d6 d7 d8 d9 d10 d11 d12 d13;cases hr:drR (uF (dcY zs)) (vF (dcY zs))
    ·have HDR:Hid (dcR zs=false):=by
      show _=_
      unfold dcR;rw[hr];simp
     clear hr;go_wp2
     go_ret
     refine⟨xs,ys,z,t0,HS5.out.pt,HS5.out.wrh,by rw[HDR.out];rfl,fun h=>?_⟩;rw[HDR.out] at h;cases h
    ·have HDR:Hid (dcR zs=((dcX zs%2 == 1) == dcO zs)):=by
      show _=_
      unfold dcR;rw[hr,decide_eq_true HYL.out,show(zs.length == 32)=true from by rw[HLN.out];rfl];simp
     clear hr;go_wp2_with fail;refine(isOdd_any g 0 xs _ HS5.out.pt.ex).mono ?_;rintro e w6 ⟨rfl,b⟩;rw[HKxs.out.2];have HS6:Hid (RunP w w6 g xs ys z t0 [] []):=HS5.out.call b;clear b HS5 HKlm HLS HYL HKys;have HXD:Hid (dcX zs=if((dc1 zs%2 == 1) != dcO zs)=true then(0-dc1 zs)%fp else dc1 zs):=rfl;obtain⟨od,hod⟩:∃ od,od=dcO zs:=⟨_,rfl⟩
     obtain⟨o1,ho1⟩:∃ o1,o1=(dc1 zs%2 == 1):=⟨_,rfl⟩
     rw[←hod,←ho1];have HOD:Hid (od=dcO zs):=hod;have HXE:Hid (dcX zs=if(o1 != od)=true then(0-dc1 zs)%fp else dc1 zs):=by
      show _=_
      rw[HXD.out,←hod,←ho1]
     clear hod ho1 HXD;cases od
     ·cases o1
      ·have HKns:Hid (EOk xs∧ev xs=dcX zs):=⟨HKxs.out.1,by rw[HKxs.out.2,HXE.out];rfl⟩
       have HS8:Hid (RunP w w6 g xs ys z t0 [] []):=HS6.out;clear HS6 HKxs;generalize hxn:xs=ns at *;clear hxn;go_wp2_with (first
        |(refine wpList_midP HS8.out rfl (.tmp 49) (.tmp 47) rfl 10 (by decide) oneL ns ys oneL t0 (over_z HS8.out.pt.x.1 HS8.out.pt.y.1 HS8.out.pt.z.1 one_ok.1) ⟨HS8.out.pt.x,HS8.out.pt.y,one_ok,HS8.out.pt.t⟩ rfl rfl one_ok rfl ?_)
        |fail)
       intro wa Sa;have HSa:Hid (RunP w wa g ns ys oneL t0 [] []):=Sa;clear Sa HS8;have EX0:Hid (ExD w g 10 (fun w1=>Pt w1 g ns ys oneL t0) (fun w1=>∃ ts,EOk ts∧ev ts=ev ns*ev ys%fp∧Pt w1 g ns ys oneL ts) (fun n=>(Array.replicate 11 false).getD n false) wa.drew):=⟨HSa.out.wrh.trans (WrH.of_below (Below.refl _ _).drew),fun _=>⟨HSa.out.pt.row,HSa.out.pt.x,HSa.out.pt.y,HSa.out.pt.z,HSa.out.pt.t⟩,fun q=>absurd q (by simp)⟩
       have HA:Hid (∀(w' ww:World),Below w'.heap.size w' ww→Pt w' g ns ys oneL t0→Pt ww g ns ys oneL t0):=fun w' ww b h=>h.below b h.row.lt
       have HB:Hid (∀(w' ww:World),Below w'.heap.size w' ww→(∃ ts,EOk ts∧ev ts=ev ns*ev ys%fp∧Pt w' g ns ys oneL ts)→(∃ ts,EOk ts∧ev ts=ev ns*ev ys%fp∧Pt ww g ns ys oneL ts)):=fun w' ww b ⟨ts,h1,h2,h⟩=>⟨ts,h1,h2,h.below b h.row.lt⟩
       have REF:Hid (∀ i,i≠10→∀(L:Nat→Bool) (w':World),ExD w g 10 (fun w1=>Pt w1 g ns ys oneL t0) (fun w1=>∃ ts,EOk ts∧ev ts=ev ns*ev ys%fp∧Pt w1 g ns ys oneL ts) L w'→ExD w g 10 (fun w1=>Pt w1 g ns ys oneL t0) (fun w1=>∃ ts,EOk ts∧ev ts=ev ns*ev ys%fp∧Pt w1 g ns ys oneL ts) (updK L i) w'):=fun i hi L w' h=>ExD.ref i hi h
       have YY:Hid (∀(L:Nat→Bool) (w':World),ExD w g 10 (fun w1=>Pt w1 g ns ys oneL t0) (fun w1=>∃ ts,EOk ts∧ev ts=ev ns*ev ys%fp∧Pt w1 g ns ys oneL ts) L w'→EAt w' g 0 ns∧EAt w' g 5 ys):=fun L w' h=>by
        cases hL:L 10
        ·exact⟨(h.2.1 hL).ex,(h.2.1 hL).ey⟩
        ·obtain⟨_,_,_,q⟩:=h.2.2 hL;exact⟨q.ex,q.ey⟩
       go_wp2;refine wp_region_any (by kernel_rfl) ?_;refine wpAny_slotsG (fun _ _ _=>True) (frame:=(fun (a b c d e f g h i j k l m n o p q r s u v w x y z A B C D E F G H I J K L M N O P Q R S T U V W X Y Z a0 a1 a2 a3 a4:Value)=>fun (t:Nat→Value)=>({ tmps:=List.toArray [a,b,c,d,e,f,g,h,i,j,k,l,m,n,o,p,q,r,s,u,v,w,x,y,z,A,B,C,D,E,F,G,H,I,J,K,L,M,N,O,P,Q,R,S,T,U,V,W,X,Y,t 0,t 1,t 2,t 3,t 4,t 5,t 6,t 7,t 8,t 9,Z,a0,a1,a2,a3,a4],defers:=[] }:Act)) _ _ _ _ _ _ _ _ _ _ _ _ _ _ _ _ _ _ _ _ _ _ _ _ _ _ _ _ _ _ _ _ _ _ _ _ _ _ _ _ _ _ _ _ _ _ _ _ _ _ _ _ _ _ _ _)
        (Ext:=fun L w'=>ExD w g 10 (fun w1=>Pt w1 g ns ys oneL t0) (fun w1=>∃ ts,EOk ts∧ev ts=ev ns*ev ys%fp∧Pt w1 g ns ys oneL ts) L w') (Good:=fun i L _ v=>if i=0 then v=.pointer (some ⟨g,0,none⟩) else if i=1 then v=.pointer (some ⟨g,0,none⟩) else if i=2 then v=.pointer (some ⟨g,0,none⟩) else if i=3 then v=.pointer (some ⟨g,0,none⟩) else if i=4 then v=.pointer (some ⟨g,0,none⟩) else if i=5 then v=.pointer (some ⟨g,0,none⟩) else if i=6 then v=.pointer (some ⟨g,5,none⟩) else if i=7 then TG (ev ns) (ev ys) (v) else if i=8 then v=.pointer (some ⟨g,0,none⟩) else if i=9 then v=.pointer (some ⟨g,15,none⟩) else if i=10 then v=undef∧L 10=true else True) ?hstab (by kernel_rfl) ?hop ?hdone _ _ ((fun (x0 x1 x2 x3 x4 x5 x6 x7 x8 x9:Value)=>fun (i:Nat)=>if i=0 then x0 else if i=1 then x1 else if i=2 then x2 else if i=3 then x3 else if i=4 then x4 else if i=5 then x5 else if i=6 then x6 else if i=7 then x7 else if i=8 then x8 else if i=9 then x9 else undef) _ _ _ _ _ _ _ _ _ _) _ (by simp) ?ext ?start (by simp)
       case start=>intro i hi h;exact absurd h (by rw[Array.getD_eq_getD_getElem?,Array.getElem?_replicate];split<;>simp)
       case ext=>exact EX0.out
       case hstab=>
        intro j L w w' i v _ _ _ h;by_cases hj:j=10
        ·subst hj;simp at h ⊢;exact⟨h.1,by unfold updK;simp[h.2]⟩
        ·simp only[if_neg hj] at h ⊢;exact h
       case hop=>
        intro i o L t w' ho hLi hx hdep K hK;have hi:i<11:=(Array.getElem?_eq_some_iff.1 ho).1;obtain rfl|rfl|rfl|rfl|rfl|rfl|rfl|rfl|rfl|rfl|rfl:i=0∨i=1∨i=2∨i=3∨i=4∨i=5∨i=6∨i=7∨i=8∨i=9∨i=10:=by omega
        all_goals(simp at ho;subst ho)
        ·clear hdep;have hK':=hK w' (.pointer (some ⟨g,0,none⟩)) (by simp) (REF.out 0 (by decide) L w' hx) trivial;clear hK;rw[if_pos (by rfl)];go_simp;simpa[upd] using hK'
        ·clear hdep;have hK':=hK w' (.pointer (some ⟨g,0,none⟩)) (by simp) (REF.out 1 (by decide) L w' hx) trivial;clear hK;rw[if_pos (by rfl)];go_simp;simpa[upd] using hK'
        ·have d1:t 1=.pointer (some ⟨g,0,none⟩):=by simpa using hdep ⟨1,.data⟩ (by simp) rfl
         clear hdep;have hK':=hK w' (.pointer (some ⟨g,0,none⟩)) (by simp) (REF.out 2 (by decide) L w' hx) trivial;clear hK;rw[if_pos (by rfl)];go_simp;simpa[upd,d1] using hK'
        ·have d2:t 2=.pointer (some ⟨g,0,none⟩):=by simpa using hdep ⟨2,.data⟩ (by simp) rfl
         clear hdep;have hK':=hK w' (.pointer (some ⟨g,0,none⟩)) (by simp) (REF.out 3 (by decide) L w' hx) trivial;clear hK;rw[if_pos (by rfl)];go_simp;simpa[upd,d2] using hK'
        ·clear hdep;have hK':=hK w' (.pointer (some ⟨g,0,none⟩)) (by simp) (REF.out 4 (by decide) L w' hx) trivial;clear hK;rw[if_pos (by rfl)];go_simp;simpa[upd] using hK'
        ·have d4:t 4=.pointer (some ⟨g,0,none⟩):=by simpa using hdep ⟨4,.data⟩ (by simp) rfl
         clear hdep;have hK':=hK w' (.pointer (some ⟨g,0,none⟩)) (by simp) (REF.out 5 (by decide) L w' hx) trivial;clear hK;rw[if_pos (by rfl)];go_simp;simpa[upd,d4] using hK'
        ·have d5:t 5=.pointer (some ⟨g,0,none⟩):=by simpa using hdep ⟨5,.data⟩ (by simp) rfl
         clear hdep;have hK':=hK w' (.pointer (some ⟨g,5,none⟩)) (by simp) (REF.out 6 (by decide) L w' hx) trivial;clear hK;rw[if_pos (by rfl)];go_simp;simpa[upd,d5] using hK'
        ·have d3:t 3=.pointer (some ⟨g,0,none⟩):=by simpa using hdep ⟨3,.data⟩ (by simp) rfl
         have d6:t 6=.pointer (some ⟨g,5,none⟩):=by simpa using hdep ⟨6,.data⟩ (by simp) rfl
         clear hdep;have A:=times_any g 0 g 5 ns ys w' (YY.out L w' hx).1 (YY.out L w' hx).2;have hK':∀ ww ts,EOk ts→ev ts=ev ns*ev ys%fp→Below w'.heap.size w' ww→K _ ww:=fun ww ts h1 h2 b=>hK ww (.agg (ts.map (Value.int .u64)).toArray) (by simp;exact⟨ts,h1,h2,rfl⟩) (ExD.low 7 (by decide) hx (fun q=>HA.out _ _ b q) (fun q=>HB.out _ _ b q) b) trivial
         clear hK;rw[if_pos (by rfl)];go_simp;refine A.mono ?_;rintro e w9 ⟨ts,h1,h2,rfl,hb⟩;have hK2:=hK' w9 ts h1 h2 hb;clear hK' A hb h1 h2;go_simp;simpa[upd,d3,d6] using hK2
        ·have d0:t 0=.pointer (some ⟨g,0,none⟩):=by simpa using hdep ⟨0,.data⟩ (by simp) rfl
         clear hdep;have hK':=hK w' (.pointer (some ⟨g,0,none⟩)) (by simp) (REF.out 8 (by decide) L w' hx) trivial;clear hK;rw[if_pos (by rfl)];go_simp;simpa[upd,d0] using hK'
        ·have d8:t 8=.pointer (some ⟨g,0,none⟩):=by simpa using hdep ⟨8,.data⟩ (by simp) rfl
         clear hdep;have hK':=hK w' (.pointer (some ⟨g,15,none⟩)) (by simp) (REF.out 9 (by decide) L w' hx) trivial;clear hK;rw[if_pos (by rfl)];go_simp;simpa[upd,d8] using hK'
        ·have d9:t 9=.pointer (some ⟨g,15,none⟩):=by simpa using hdep ⟨9,.data⟩ (by simp) rfl
         have d7:TG (ev ns) (ev ys) (t 7):=by simpa using hdep ⟨7,.data⟩ (by simp) rfl
         clear hdep;obtain⟨ts,h1,h2,h3⟩:=d7;rw[if_pos (by rfl)];refine wp_midT (hx.2.1 hLi) (.tmp 59) (.tmp 57) rfl ts (show t 9=_ from d9) (show t 7=_ from h3) h1 ?_;intro ww hp hw;have hK':=hK ww undef (by simp[updK]) ⟨hx.1.trans hw.wrH,fun q=>absurd q (by rw[updK_same];decide),fun _=>⟨ts,h1,h2,hp⟩⟩ trivial;clear hK;go_simp;simpa[upd,d9,h3] using hK'
       case hdone=>
        intro L t w' hx hg;have d0:t 0=.pointer (some ⟨g,0,none⟩):=by simpa using hg 0 (by decide)
        have d1:t 1=.pointer (some ⟨g,0,none⟩):=by simpa using hg 1 (by decide)
        have d2:t 2=.pointer (some ⟨g,0,none⟩):=by simpa using hg 2 (by decide)
        have d3:t 3=.pointer (some ⟨g,0,none⟩):=by simpa using hg 3 (by decide)
        have d4:t 4=.pointer (some ⟨g,0,none⟩):=by simpa using hg 4 (by decide)
        have d5:t 5=.pointer (some ⟨g,0,none⟩):=by simpa using hg 5 (by decide)
        have d6:t 6=.pointer (some ⟨g,5,none⟩):=by simpa using hg 6 (by decide)
        have d7:TG (ev ns) (ev ys) (t 7):=by simpa using hg 7 (by decide)
        have d8:t 8=.pointer (some ⟨g,0,none⟩):=by simpa using hg 8 (by decide)
        have d9:t 9=.pointer (some ⟨g,15,none⟩):=by simpa using hg 9 (by decide)
        have d10:t 10=undef∧L 10=true:=by simpa using hg 10 (by decide)
        clear hg;obtain⟨ts,hk,hv,hpt⟩:=hx.2.2 d10.2;obtain⟨ts',_,_,e7⟩:=d7;have HSb:Hid (RunP w w' g ns ys oneL ts [] []):=⟨hx.1,hlt,hpt,by simp,List.Pairwise.nil,by simp⟩
        have HKts:Hid (EOk ts∧ev ts=dcX zs*dcY zs%fp):=⟨hk,by rw[hv,HKns.out.2,HEV.out]⟩
        clear hx HSa HA EX0 REF YY HB hk hv hpt;dsimp only;rw[d0,d1,d2,d3,d4,d5,d6,e7,d8,d9];clear d0 d1 d2 d3 d4 d5 d6 e7 d8 d9 d10;go_wp2_with fail;refine(isOdd_any g 0 ns _ HSb.out.pt.ex).mono ?_;rintro e wc ⟨rfl,b⟩;rw[HKns.out.2];have HSc:Hid (RunP w wc g ns ys oneL ts [] []):=HSb.out.call b;clear b HSb;obtain⟨o2,ho2⟩:∃ o2,o2=(dcX zs%2 == 1):=⟨_,rfl⟩
        rw[←ho2];have HDD:Hid (dcR zs=(o2 == false)):=by
         show _=_
         rw[HDR.out,←ho2,←HOD.out]
        clear ho2;go_wp2
        go_ret
        exact⟨ns,ys,oneL,ts,HSc.out.pt,HSc.out.wrh,by rw[HDD.out];cases o2<;>rfl,fun _=>⟨HKns.out.2,HEV.out,by decide,HKts.out.2⟩⟩
      ·go_wp2_with fail;refine(negated_any g 0 xs _ HS6.out.pt.ex).mono ?_;rintro e w7 ⟨ns,hk,hv,rfl,b⟩;have HKns:Hid (EOk ns∧ev ns=dcX zs):=⟨hk,by rw[hv,HKxs.out.2,HXE.out];rfl⟩
       have HS7:Hid (RunP w w7 g xs ys z t0 [] []):=HS6.out.call b;clear hk hv b HS6;go_wp2_with (first
        |(refine wpList_midP HS7.out rfl (.tmp 45) (.tmp 43) rfl 0 (by decide) ns ns ys z t0 (over_x HS7.out.pt.x.1 HKns.out.1.1) ⟨HKns.out.1,HS7.out.pt.y,HS7.out.pt.z,HS7.out.pt.t⟩ rfl rfl HKns.out.1 rfl ?_)
        |fail)
       intro w8 S8;have HS8:Hid (RunP w w8 g ns ys z t0 [] []):=S8;clear S8 HS7;go_wp2_with (first
        |(refine wpList_midP HS8.out rfl (.tmp 49) (.tmp 47) rfl 10 (by decide) oneL ns ys oneL t0 (over_z HS8.out.pt.x.1 HS8.out.pt.y.1 HS8.out.pt.z.1 one_ok.1) ⟨HS8.out.pt.x,HS8.out.pt.y,one_ok,HS8.out.pt.t⟩ rfl rfl one_ok rfl ?_)
        |fail)
       intro wa Sa;have HSa:Hid (RunP w wa g ns ys oneL t0 [] []):=Sa;clear Sa HS8;have EX0:Hid (ExD w g 10 (fun w1=>Pt w1 g ns ys oneL t0) (fun w1=>∃ ts,EOk ts∧ev ts=ev ns*ev ys%fp∧Pt w1 g ns ys oneL ts) (fun n=>(Array.replicate 11 false).getD n false) wa.drew):=⟨HSa.out.wrh.trans (WrH.of_below (Below.refl _ _).drew),fun _=>⟨HSa.out.pt.row,HSa.out.pt.x,HSa.out.pt.y,HSa.out.pt.z,HSa.out.pt.t⟩,fun q=>absurd q (by simp)⟩
       have HA:Hid (∀(w' ww:World),Below w'.heap.size w' ww→Pt w' g ns ys oneL t0→Pt ww g ns ys oneL t0):=fun w' ww b h=>h.below b h.row.lt
       have HB:Hid (∀(w' ww:World),Below w'.heap.size w' ww→(∃ ts,EOk ts∧ev ts=ev ns*ev ys%fp∧Pt w' g ns ys oneL ts)→(∃ ts,EOk ts∧ev ts=ev ns*ev ys%fp∧Pt ww g ns ys oneL ts)):=fun w' ww b ⟨ts,h1,h2,h⟩=>⟨ts,h1,h2,h.below b h.row.lt⟩
       have REF:Hid (∀ i,i≠10→∀(L:Nat→Bool) (w':World),ExD w g 10 (fun w1=>Pt w1 g ns ys oneL t0) (fun w1=>∃ ts,EOk ts∧ev ts=ev ns*ev ys%fp∧Pt w1 g ns ys oneL ts) L w'→ExD w g 10 (fun w1=>Pt w1 g ns ys oneL t0) (fun w1=>∃ ts,EOk ts∧ev ts=ev ns*ev ys%fp∧Pt w1 g ns ys oneL ts) (updK L i) w'):=fun i hi L w' h=>ExD.ref i hi h
       have YY:Hid (∀(L:Nat→Bool) (w':World),ExD w g 10 (fun w1=>Pt w1 g ns ys oneL t0) (fun w1=>∃ ts,EOk ts∧ev ts=ev ns*ev ys%fp∧Pt w1 g ns ys oneL ts) L w'→EAt w' g 0 ns∧EAt w' g 5 ys):=fun L w' h=>by
        cases hL:L 10
        ·exact⟨(h.2.1 hL).ex,(h.2.1 hL).ey⟩
        ·obtain⟨_,_,_,q⟩:=h.2.2 hL;exact⟨q.ex,q.ey⟩
       go_wp2;refine wp_region_any (by kernel_rfl) ?_;refine wpAny_slotsG (fun _ _ _=>True) (frame:=(fun (a b c d e f g h i j k l m n o p q r s u v w x y z A B C D E F G H I J K L M N O P Q R S T U V W X Y Z a0 a1 a2 a3 a4:Value)=>fun (t:Nat→Value)=>({ tmps:=List.toArray [a,b,c,d,e,f,g,h,i,j,k,l,m,n,o,p,q,r,s,u,v,w,x,y,z,A,B,C,D,E,F,G,H,I,J,K,L,M,N,O,P,Q,R,S,T,U,V,W,X,Y,t 0,t 1,t 2,t 3,t 4,t 5,t 6,t 7,t 8,t 9,Z,a0,a1,a2,a3,a4],defers:=[] }:Act)) _ _ _ _ _ _ _ _ _ _ _ _ _ _ _ _ _ _ _ _ _ _ _ _ _ _ _ _ _ _ _ _ _ _ _ _ _ _ _ _ _ _ _ _ _ _ _ _ _ _ _ _ _ _ _ _)
        (Ext:=fun L w'=>ExD w g 10 (fun w1=>Pt w1 g ns ys oneL t0) (fun w1=>∃ ts,EOk ts∧ev ts=ev ns*ev ys%fp∧Pt w1 g ns ys oneL ts) L w') (Good:=fun i L _ v=>if i=0 then v=.pointer (some ⟨g,0,none⟩) else if i=1 then v=.pointer (some ⟨g,0,none⟩) else if i=2 then v=.pointer (some ⟨g,0,none⟩) else if i=3 then v=.pointer (some ⟨g,0,none⟩) else if i=4 then v=.pointer (some ⟨g,0,none⟩) else if i=5 then v=.pointer (some ⟨g,0,none⟩) else if i=6 then v=.pointer (some ⟨g,5,none⟩) else if i=7 then TG (ev ns) (ev ys) (v) else if i=8 then v=.pointer (some ⟨g,0,none⟩) else if i=9 then v=.pointer (some ⟨g,15,none⟩) else if i=10 then v=undef∧L 10=true else True) ?hstab (by kernel_rfl) ?hop ?hdone _ _ ((fun (x0 x1 x2 x3 x4 x5 x6 x7 x8 x9:Value)=>fun (i:Nat)=>if i=0 then x0 else if i=1 then x1 else if i=2 then x2 else if i=3 then x3 else if i=4 then x4 else if i=5 then x5 else if i=6 then x6 else if i=7 then x7 else if i=8 then x8 else if i=9 then x9 else undef) _ _ _ _ _ _ _ _ _ _) _ (by simp) ?ext ?start (by simp)
       case start=>intro i hi h;exact absurd h (by rw[Array.getD_eq_getD_getElem?,Array.getElem?_replicate];split<;>simp)
       case ext=>exact EX0.out
       case hstab=>
        intro j L w w' i v _ _ _ h;by_cases hj:j=10
        ·subst hj;simp at h ⊢;exact⟨h.1,by unfold updK;simp[h.2]⟩
        ·simp only[if_neg hj] at h ⊢;exact h
       case hop=>
        intro i o L t w' ho hLi hx hdep K hK;have hi:i<11:=(Array.getElem?_eq_some_iff.1 ho).1;obtain rfl|rfl|rfl|rfl|rfl|rfl|rfl|rfl|rfl|rfl|rfl:i=0∨i=1∨i=2∨i=3∨i=4∨i=5∨i=6∨i=7∨i=8∨i=9∨i=10:=by omega
        all_goals(simp at ho;subst ho)
        ·clear hdep;have hK':=hK w' (.pointer (some ⟨g,0,none⟩)) (by simp) (REF.out 0 (by decide) L w' hx) trivial;clear hK;rw[if_pos (by rfl)];go_simp;simpa[upd] using hK'
        ·clear hdep;have hK':=hK w' (.pointer (some ⟨g,0,none⟩)) (by simp) (REF.out 1 (by decide) L w' hx) trivial;clear hK;rw[if_pos (by rfl)];go_simp;simpa[upd] using hK'
        ·have d1:t 1=.pointer (some ⟨g,0,none⟩):=by simpa using hdep ⟨1,.data⟩ (by simp) rfl
         clear hdep;have hK':=hK w' (.pointer (some ⟨g,0,none⟩)) (by simp) (REF.out 2 (by decide) L w' hx) trivial;clear hK;rw[if_pos (by rfl)];go_simp;simpa[upd,d1] using hK'
        ·have d2:t 2=.pointer (some ⟨g,0,none⟩):=by simpa using hdep ⟨2,.data⟩ (by simp) rfl
         clear hdep;have hK':=hK w' (.pointer (some ⟨g,0,none⟩)) (by simp) (REF.out 3 (by decide) L w' hx) trivial;clear hK;rw[if_pos (by rfl)];go_simp;simpa[upd,d2] using hK'
        ·clear hdep;have hK':=hK w' (.pointer (some ⟨g,0,none⟩)) (by simp) (REF.out 4 (by decide) L w' hx) trivial;clear hK;rw[if_pos (by rfl)];go_simp;simpa[upd] using hK'
        ·have d4:t 4=.pointer (some ⟨g,0,none⟩):=by simpa using hdep ⟨4,.data⟩ (by simp) rfl
         clear hdep;have hK':=hK w' (.pointer (some ⟨g,0,none⟩)) (by simp) (REF.out 5 (by decide) L w' hx) trivial;clear hK;rw[if_pos (by rfl)];go_simp;simpa[upd,d4] using hK'
        ·have d5:t 5=.pointer (some ⟨g,0,none⟩):=by simpa using hdep ⟨5,.data⟩ (by simp) rfl
         clear hdep;have hK':=hK w' (.pointer (some ⟨g,5,none⟩)) (by simp) (REF.out 6 (by decide) L w' hx) trivial;clear hK;rw[if_pos (by rfl)];go_simp;simpa[upd,d5] using hK'
        ·have d3:t 3=.pointer (some ⟨g,0,none⟩):=by simpa using hdep ⟨3,.data⟩ (by simp) rfl
         have d6:t 6=.pointer (some ⟨g,5,none⟩):=by simpa using hdep ⟨6,.data⟩ (by simp) rfl
         clear hdep;have A:=times_any g 0 g 5 ns ys w' (YY.out L w' hx).1 (YY.out L w' hx).2;have hK':∀ ww ts,EOk ts→ev ts=ev ns*ev ys%fp→Below w'.heap.size w' ww→K _ ww:=fun ww ts h1 h2 b=>hK ww (.agg (ts.map (Value.int .u64)).toArray) (by simp;exact⟨ts,h1,h2,rfl⟩) (ExD.low 7 (by decide) hx (fun q=>HA.out _ _ b q) (fun q=>HB.out _ _ b q) b) trivial
         clear hK;rw[if_pos (by rfl)];go_simp;refine A.mono ?_;rintro e w9 ⟨ts,h1,h2,rfl,hb⟩;have hK2:=hK' w9 ts h1 h2 hb;clear hK' A hb h1 h2;go_simp;simpa[upd,d3,d6] using hK2
        ·have d0:t 0=.pointer (some ⟨g,0,none⟩):=by simpa using hdep ⟨0,.data⟩ (by simp) rfl
         clear hdep;have hK':=hK w' (.pointer (some ⟨g,0,none⟩)) (by simp) (REF.out 8 (by decide) L w' hx) trivial;clear hK;rw[if_pos (by rfl)];go_simp;simpa[upd,d0] using hK'
        ·have d8:t 8=.pointer (some ⟨g,0,none⟩):=by simpa using hdep ⟨8,.data⟩ (by simp) rfl
         clear hdep;have hK':=hK w' (.pointer (some ⟨g,15,none⟩)) (by simp) (REF.out 9 (by decide) L w' hx) trivial;clear hK;rw[if_pos (by rfl)];go_simp;simpa[upd,d8] using hK'
        ·have d9:t 9=.pointer (some ⟨g,15,none⟩):=by simpa using hdep ⟨9,.data⟩ (by simp) rfl
         have d7:TG (ev ns) (ev ys) (t 7):=by simpa using hdep ⟨7,.data⟩ (by simp) rfl
         clear hdep;obtain⟨ts,h1,h2,h3⟩:=d7;rw[if_pos (by rfl)];refine wp_midT (hx.2.1 hLi) (.tmp 59) (.tmp 57) rfl ts (show t 9=_ from d9) (show t 7=_ from h3) h1 ?_;intro ww hp hw;have hK':=hK ww undef (by simp[updK]) ⟨hx.1.trans hw.wrH,fun q=>absurd q (by rw[updK_same];decide),fun _=>⟨ts,h1,h2,hp⟩⟩ trivial;clear hK;go_simp;simpa[upd,d9,h3] using hK'
       case hdone=>
        intro L t w' hx hg;have d0:t 0=.pointer (some ⟨g,0,none⟩):=by simpa using hg 0 (by decide)
        have d1:t 1=.pointer (some ⟨g,0,none⟩):=by simpa using hg 1 (by decide)
        have d2:t 2=.pointer (some ⟨g,0,none⟩):=by simpa using hg 2 (by decide)
        have d3:t 3=.pointer (some ⟨g,0,none⟩):=by simpa using hg 3 (by decide)
        have d4:t 4=.pointer (some ⟨g,0,none⟩):=by simpa using hg 4 (by decide)
        have d5:t 5=.pointer (some ⟨g,0,none⟩):=by simpa using hg 5 (by decide)
        have d6:t 6=.pointer (some ⟨g,5,none⟩):=by simpa using hg 6 (by decide)
        have d7:TG (ev ns) (ev ys) (t 7):=by simpa using hg 7 (by decide)
        have d8:t 8=.pointer (some ⟨g,0,none⟩):=by simpa using hg 8 (by decide)
        have d9:t 9=.pointer (some ⟨g,15,none⟩):=by simpa using hg 9 (by decide)
        have d10:t 10=undef∧L 10=true:=by simpa using hg 10 (by decide)
        clear hg;obtain⟨ts,hk,hv,hpt⟩:=hx.2.2 d10.2;obtain⟨ts',_,_,e7⟩:=d7;have HSb:Hid (RunP w w' g ns ys oneL ts [] []):=⟨hx.1,hlt,hpt,by simp,List.Pairwise.nil,by simp⟩
        have HKts:Hid (EOk ts∧ev ts=dcX zs*dcY zs%fp):=⟨hk,by rw[hv,HKns.out.2,HEV.out]⟩
        clear hx HSa HA EX0 REF YY HB hk hv hpt;dsimp only;rw[d0,d1,d2,d3,d4,d5,d6,e7,d8,d9];clear d0 d1 d2 d3 d4 d5 d6 e7 d8 d9 d10;go_wp2_with fail;refine(isOdd_any g 0 ns _ HSb.out.pt.ex).mono ?_;rintro e wc ⟨rfl,b⟩;rw[HKns.out.2];have HSc:Hid (RunP w wc g ns ys oneL ts [] []):=HSb.out.call b;clear b HSb;obtain⟨o2,ho2⟩:∃ o2,o2=(dcX zs%2 == 1):=⟨_,rfl⟩
        rw[←ho2];have HDD:Hid (dcR zs=(o2 == false)):=by
         show _=_
         rw[HDR.out,←ho2,←HOD.out]
        clear ho2;go_wp2
        go_ret
        exact⟨ns,ys,oneL,ts,HSc.out.pt,HSc.out.wrh,by rw[HDD.out];cases o2<;>rfl,fun _=>⟨HKns.out.2,HEV.out,by decide,HKts.out.2⟩⟩
     ·cases o1
      ·go_wp2_with fail;refine(negated_any g 0 xs _ HS6.out.pt.ex).mono ?_;rintro e w7 ⟨ns,hk,hv,rfl,b⟩;have HKns:Hid (EOk ns∧ev ns=dcX zs):=⟨hk,by rw[hv,HKxs.out.2,HXE.out];rfl⟩
       have HS7:Hid (RunP w w7 g xs ys z t0 [] []):=HS6.out.call b;clear hk hv b HS6;go_wp2_with (first
        |(refine wpList_midP HS7.out rfl (.tmp 45) (.tmp 43) rfl 0 (by decide) ns ns ys z t0 (over_x HS7.out.pt.x.1 HKns.out.1.1) ⟨HKns.out.1,HS7.out.pt.y,HS7.out.pt.z,HS7.out.pt.t⟩ rfl rfl HKns.out.1 rfl ?_)
        |fail)
       intro w8 S8;have HS8:Hid (RunP w w8 g ns ys z t0 [] []):=S8;clear S8 HS7;go_wp2_with (first
        |(refine wpList_midP HS8.out rfl (.tmp 49) (.tmp 47) rfl 10 (by decide) oneL ns ys oneL t0 (over_z HS8.out.pt.x.1 HS8.out.pt.y.1 HS8.out.pt.z.1 one_ok.1) ⟨HS8.out.pt.x,HS8.out.pt.y,one_ok,HS8.out.pt.t⟩ rfl rfl one_ok rfl ?_)
        |fail)
       intro wa Sa;have HSa:Hid (RunP w wa g ns ys oneL t0 [] []):=Sa;clear Sa HS8;have EX0:Hid (ExD w g 10 (fun w1=>Pt w1 g ns ys oneL t0) (fun w1=>∃ ts,EOk ts∧ev ts=ev ns*ev ys%fp∧Pt w1 g ns ys oneL ts) (fun n=>(Array.replicate 11 false).getD n false) wa.drew):=⟨HSa.out.wrh.trans (WrH.of_below (Below.refl _ _).drew),fun _=>⟨HSa.out.pt.row,HSa.out.pt.x,HSa.out.pt.y,HSa.out.pt.z,HSa.out.pt.t⟩,fun q=>absurd q (by simp)⟩
       have HA:Hid (∀(w' ww:World),Below w'.heap.size w' ww→Pt w' g ns ys oneL t0→Pt ww g ns ys oneL t0):=fun w' ww b h=>h.below b h.row.lt
       have HB:Hid (∀(w' ww:World),Below w'.heap.size w' ww→(∃ ts,EOk ts∧ev ts=ev ns*ev ys%fp∧Pt w' g ns ys oneL ts)→(∃ ts,EOk ts∧ev ts=ev ns*ev ys%fp∧Pt ww g ns ys oneL ts)):=fun w' ww b ⟨ts,h1,h2,h⟩=>⟨ts,h1,h2,h.below b h.row.lt⟩
       have REF:Hid (∀ i,i≠10→∀(L:Nat→Bool) (w':World),ExD w g 10 (fun w1=>Pt w1 g ns ys oneL t0) (fun w1=>∃ ts,EOk ts∧ev ts=ev ns*ev ys%fp∧Pt w1 g ns ys oneL ts) L w'→ExD w g 10 (fun w1=>Pt w1 g ns ys oneL t0) (fun w1=>∃ ts,EOk ts∧ev ts=ev ns*ev ys%fp∧Pt w1 g ns ys oneL ts) (updK L i) w'):=fun i hi L w' h=>ExD.ref i hi h
       have YY:Hid (∀(L:Nat→Bool) (w':World),ExD w g 10 (fun w1=>Pt w1 g ns ys oneL t0) (fun w1=>∃ ts,EOk ts∧ev ts=ev ns*ev ys%fp∧Pt w1 g ns ys oneL ts) L w'→EAt w' g 0 ns∧EAt w' g 5 ys):=fun L w' h=>by
        cases hL:L 10
        ·exact⟨(h.2.1 hL).ex,(h.2.1 hL).ey⟩
        ·obtain⟨_,_,_,q⟩:=h.2.2 hL;exact⟨q.ex,q.ey⟩
       go_wp2;refine wp_region_any (by kernel_rfl) ?_;refine wpAny_slotsG (fun _ _ _=>True) (frame:=(fun (a b c d e f g h i j k l m n o p q r s u v w x y z A B C D E F G H I J K L M N O P Q R S T U V W X Y Z a0 a1 a2 a3 a4:Value)=>fun (t:Nat→Value)=>({ tmps:=List.toArray [a,b,c,d,e,f,g,h,i,j,k,l,m,n,o,p,q,r,s,u,v,w,x,y,z,A,B,C,D,E,F,G,H,I,J,K,L,M,N,O,P,Q,R,S,T,U,V,W,X,Y,t 0,t 1,t 2,t 3,t 4,t 5,t 6,t 7,t 8,t 9,Z,a0,a1,a2,a3,a4],defers:=[] }:Act)) _ _ _ _ _ _ _ _ _ _ _ _ _ _ _ _ _ _ _ _ _ _ _ _ _ _ _ _ _ _ _ _ _ _ _ _ _ _ _ _ _ _ _ _ _ _ _ _ _ _ _ _ _ _ _ _)
        (Ext:=fun L w'=>ExD w g 10 (fun w1=>Pt w1 g ns ys oneL t0) (fun w1=>∃ ts,EOk ts∧ev ts=ev ns*ev ys%fp∧Pt w1 g ns ys oneL ts) L w') (Good:=fun i L _ v=>if i=0 then v=.pointer (some ⟨g,0,none⟩) else if i=1 then v=.pointer (some ⟨g,0,none⟩) else if i=2 then v=.pointer (some ⟨g,0,none⟩) else if i=3 then v=.pointer (some ⟨g,0,none⟩) else if i=4 then v=.pointer (some ⟨g,0,none⟩) else if i=5 then v=.pointer (some ⟨g,0,none⟩) else if i=6 then v=.pointer (some ⟨g,5,none⟩) else if i=7 then TG (ev ns) (ev ys) (v) else if i=8 then v=.pointer (some ⟨g,0,none⟩) else if i=9 then v=.pointer (some ⟨g,15,none⟩) else if i=10 then v=undef∧L 10=true else True) ?hstab (by kernel_rfl) ?hop ?hdone _ _ ((fun (x0 x1 x2 x3 x4 x5 x6 x7 x8 x9:Value)=>fun (i:Nat)=>if i=0 then x0 else if i=1 then x1 else if i=2 then x2 else if i=3 then x3 else if i=4 then x4 else if i=5 then x5 else if i=6 then x6 else if i=7 then x7 else if i=8 then x8 else if i=9 then x9 else undef) _ _ _ _ _ _ _ _ _ _) _ (by simp) ?ext ?start (by simp)
       case start=>intro i hi h;exact absurd h (by rw[Array.getD_eq_getD_getElem?,Array.getElem?_replicate];split<;>simp)
       case ext=>exact EX0.out
       case hstab=>
        intro j L w w' i v _ _ _ h;by_cases hj:j=10
        ·subst hj;simp at h ⊢;exact⟨h.1,by unfold updK;simp[h.2]⟩
        ·simp only[if_neg hj] at h ⊢;exact h
       case hop=>
        intro i o L t w' ho hLi hx hdep K hK;have hi:i<11:=(Array.getElem?_eq_some_iff.1 ho).1;obtain rfl|rfl|rfl|rfl|rfl|rfl|rfl|rfl|rfl|rfl|rfl:i=0∨i=1∨i=2∨i=3∨i=4∨i=5∨i=6∨i=7∨i=8∨i=9∨i=10:=by omega
        all_goals(simp at ho;subst ho)
        ·clear hdep;have hK':=hK w' (.pointer (some ⟨g,0,none⟩)) (by simp) (REF.out 0 (by decide) L w' hx) trivial;clear hK;rw[if_pos (by rfl)];go_simp;simpa[upd] using hK'
        ·clear hdep;have hK':=hK w' (.pointer (some ⟨g,0,none⟩)) (by simp) (REF.out 1 (by decide) L w' hx) trivial;clear hK;rw[if_pos (by rfl)];go_simp;simpa[upd] using hK'
        ·have d1:t 1=.pointer (some ⟨g,0,none⟩):=by simpa using hdep ⟨1,.data⟩ (by simp) rfl
         clear hdep;have hK':=hK w' (.pointer (some ⟨g,0,none⟩)) (by simp) (REF.out 2 (by decide) L w' hx) trivial;clear hK;rw[if_pos (by rfl)];go_simp;simpa[upd,d1] using hK'
        ·have d2:t 2=.pointer (some ⟨g,0,none⟩):=by simpa using hdep ⟨2,.data⟩ (by simp) rfl
         clear hdep;have hK':=hK w' (.pointer (some ⟨g,0,none⟩)) (by simp) (REF.out 3 (by decide) L w' hx) trivial;clear hK;rw[if_pos (by rfl)];go_simp;simpa[upd,d2] using hK'
        ·clear hdep;have hK':=hK w' (.pointer (some ⟨g,0,none⟩)) (by simp) (REF.out 4 (by decide) L w' hx) trivial;clear hK;rw[if_pos (by rfl)];go_simp;simpa[upd] using hK'
        ·have d4:t 4=.pointer (some ⟨g,0,none⟩):=by simpa using hdep ⟨4,.data⟩ (by simp) rfl
         clear hdep;have hK':=hK w' (.pointer (some ⟨g,0,none⟩)) (by simp) (REF.out 5 (by decide) L w' hx) trivial;clear hK;rw[if_pos (by rfl)];go_simp;simpa[upd,d4] using hK'
        ·have d5:t 5=.pointer (some ⟨g,0,none⟩):=by simpa using hdep ⟨5,.data⟩ (by simp) rfl
         clear hdep;have hK':=hK w' (.pointer (some ⟨g,5,none⟩)) (by simp) (REF.out 6 (by decide) L w' hx) trivial;clear hK;rw[if_pos (by rfl)];go_simp;simpa[upd,d5] using hK'
        ·have d3:t 3=.pointer (some ⟨g,0,none⟩):=by simpa using hdep ⟨3,.data⟩ (by simp) rfl
         have d6:t 6=.pointer (some ⟨g,5,none⟩):=by simpa using hdep ⟨6,.data⟩ (by simp) rfl
         clear hdep;have A:=times_any g 0 g 5 ns ys w' (YY.out L w' hx).1 (YY.out L w' hx).2;have hK':∀ ww ts,EOk ts→ev ts=ev ns*ev ys%fp→Below w'.heap.size w' ww→K _ ww:=fun ww ts h1 h2 b=>hK ww (.agg (ts.map (Value.int .u64)).toArray) (by simp;exact⟨ts,h1,h2,rfl⟩) (ExD.low 7 (by decide) hx (fun q=>HA.out _ _ b q) (fun q=>HB.out _ _ b q) b) trivial
         clear hK;rw[if_pos (by rfl)];go_simp;refine A.mono ?_;rintro e w9 ⟨ts,h1,h2,rfl,hb⟩;have hK2:=hK' w9 ts h1 h2 hb;clear hK' A hb h1 h2;go_simp;simpa[upd,d3,d6] using hK2
        ·have d0:t 0=.pointer (some ⟨g,0,none⟩):=by simpa using hdep ⟨0,.data⟩ (by simp) rfl
         clear hdep;have hK':=hK w' (.pointer (some ⟨g,0,none⟩)) (by simp) (REF.out 8 (by decide) L w' hx) trivial;clear hK;rw[if_pos (by rfl)];go_simp;simpa[upd,d0] using hK'
        ·have d8:t 8=.pointer (some ⟨g,0,none⟩):=by simpa using hdep ⟨8,.data⟩ (by simp) rfl
         clear hdep;have hK':=hK w' (.pointer (some ⟨g,15,none⟩)) (by simp) (REF.out 9 (by decide) L w' hx) trivial;clear hK;rw[if_pos (by rfl)];go_simp;simpa[upd,d8] using hK'
        ·have d9:t 9=.pointer (some ⟨g,15,none⟩):=by simpa using hdep ⟨9,.data⟩ (by simp) rfl
         have d7:TG (ev ns) (ev ys) (t 7):=by simpa using hdep ⟨7,.data⟩ (by simp) rfl
         clear hdep;obtain⟨ts,h1,h2,h3⟩:=d7;rw[if_pos (by rfl)];refine wp_midT (hx.2.1 hLi) (.tmp 59) (.tmp 57) rfl ts (show t 9=_ from d9) (show t 7=_ from h3) h1 ?_;intro ww hp hw;have hK':=hK ww undef (by simp[updK]) ⟨hx.1.trans hw.wrH,fun q=>absurd q (by rw[updK_same];decide),fun _=>⟨ts,h1,h2,hp⟩⟩ trivial;clear hK;go_simp;simpa[upd,d9,h3] using hK'
       case hdone=>
        intro L t w' hx hg;have d0:t 0=.pointer (some ⟨g,0,none⟩):=by simpa using hg 0 (by decide)
        have d1:t 1=.pointer (some ⟨g,0,none⟩):=by simpa using hg 1 (by decide)
        have d2:t 2=.pointer (some ⟨g,0,none⟩):=by simpa using hg 2 (by decide)
        have d3:t 3=.pointer (some ⟨g,0,none⟩):=by simpa using hg 3 (by decide)
        have d4:t 4=.pointer (some ⟨g,0,none⟩):=by simpa using hg 4 (by decide)
        have d5:t 5=.pointer (some ⟨g,0,none⟩):=by simpa using hg 5 (by decide)
        have d6:t 6=.pointer (some ⟨g,5,none⟩):=by simpa using hg 6 (by decide)
        have d7:TG (ev ns) (ev ys) (t 7):=by simpa using hg 7 (by decide)
        have d8:t 8=.pointer (some ⟨g,0,none⟩):=by simpa using hg 8 (by decide)
        have d9:t 9=.pointer (some ⟨g,15,none⟩):=by simpa using hg 9 (by decide)
        have d10:t 10=undef∧L 10=true:=by simpa using hg 10 (by decide)
        clear hg;obtain⟨ts,hk,hv,hpt⟩:=hx.2.2 d10.2;obtain⟨ts',_,_,e7⟩:=d7;have HSb:Hid (RunP w w' g ns ys oneL ts [] []):=⟨hx.1,hlt,hpt,by simp,List.Pairwise.nil,by simp⟩
        have HKts:Hid (EOk ts∧ev ts=dcX zs*dcY zs%fp):=⟨hk,by rw[hv,HKns.out.2,HEV.out]⟩
        clear hx HSa HA EX0 REF YY HB hk hv hpt;dsimp only;rw[d0,d1,d2,d3,d4,d5,d6,e7,d8,d9];clear d0 d1 d2 d3 d4 d5 d6 e7 d8 d9 d10;go_wp2_with fail;refine(isOdd_any g 0 ns _ HSb.out.pt.ex).mono ?_;rintro e wc ⟨rfl,b⟩;rw[HKns.out.2];have HSc:Hid (RunP w wc g ns ys oneL ts [] []):=HSb.out.call b;clear b HSb;obtain⟨o2,ho2⟩:∃ o2,o2=(dcX zs%2 == 1):=⟨_,rfl⟩
        rw[←ho2];have HDD:Hid (dcR zs=(o2 == true)):=by
         show _=_
         rw[HDR.out,←ho2,←HOD.out]
        clear ho2;go_wp2
        go_ret
        exact⟨ns,ys,oneL,ts,HSc.out.pt,HSc.out.wrh,by rw[HDD.out];cases o2<;>rfl,fun _=>⟨HKns.out.2,HEV.out,by decide,HKts.out.2⟩⟩
      ·have HKns:Hid (EOk xs∧ev xs=dcX zs):=⟨HKxs.out.1,by rw[HKxs.out.2,HXE.out];rfl⟩
       have HS8:Hid (RunP w w6 g xs ys z t0 [] []):=HS6.out;clear HS6 HKxs;generalize hxn:xs=ns at *;clear hxn;go_wp2_with (first
        |(refine wpList_midP HS8.out rfl (.tmp 49) (.tmp 47) rfl 10 (by decide) oneL ns ys oneL t0 (over_z HS8.out.pt.x.1 HS8.out.pt.y.1 HS8.out.pt.z.1 one_ok.1) ⟨HS8.out.pt.x,HS8.out.pt.y,one_ok,HS8.out.pt.t⟩ rfl rfl one_ok rfl ?_)
        |fail)
       intro wa Sa;have HSa:Hid (RunP w wa g ns ys oneL t0 [] []):=Sa;clear Sa HS8;have EX0:Hid (ExD w g 10 (fun w1=>Pt w1 g ns ys oneL t0) (fun w1=>∃ ts,EOk ts∧ev ts=ev ns*ev ys%fp∧Pt w1 g ns ys oneL ts) (fun n=>(Array.replicate 11 false).getD n false) wa.drew):=⟨HSa.out.wrh.trans (WrH.of_below (Below.refl _ _).drew),fun _=>⟨HSa.out.pt.row,HSa.out.pt.x,HSa.out.pt.y,HSa.out.pt.z,HSa.out.pt.t⟩,fun q=>absurd q (by simp)⟩
       have HA:Hid (∀(w' ww:World),Below w'.heap.size w' ww→Pt w' g ns ys oneL t0→Pt ww g ns ys oneL t0):=fun w' ww b h=>h.below b h.row.lt
       have HB:Hid (∀(w' ww:World),Below w'.heap.size w' ww→(∃ ts,EOk ts∧ev ts=ev ns*ev ys%fp∧Pt w' g ns ys oneL ts)→(∃ ts,EOk ts∧ev ts=ev ns*ev ys%fp∧Pt ww g ns ys oneL ts)):=fun w' ww b ⟨ts,h1,h2,h⟩=>⟨ts,h1,h2,h.below b h.row.lt⟩
       have REF:Hid (∀ i,i≠10→∀(L:Nat→Bool) (w':World),ExD w g 10 (fun w1=>Pt w1 g ns ys oneL t0) (fun w1=>∃ ts,EOk ts∧ev ts=ev ns*ev ys%fp∧Pt w1 g ns ys oneL ts) L w'→ExD w g 10 (fun w1=>Pt w1 g ns ys oneL t0) (fun w1=>∃ ts,EOk ts∧ev ts=ev ns*ev ys%fp∧Pt w1 g ns ys oneL ts) (updK L i) w'):=fun i hi L w' h=>ExD.ref i hi h
       have YY:Hid (∀(L:Nat→Bool) (w':World),ExD w g 10 (fun w1=>Pt w1 g ns ys oneL t0) (fun w1=>∃ ts,EOk ts∧ev ts=ev ns*ev ys%fp∧Pt w1 g ns ys oneL ts) L w'→EAt w' g 0 ns∧EAt w' g 5 ys):=fun L w' h=>by
        cases hL:L 10
        ·exact⟨(h.2.1 hL).ex,(h.2.1 hL).ey⟩
        ·obtain⟨_,_,_,q⟩:=h.2.2 hL;exact⟨q.ex,q.ey⟩
       go_wp2;refine wp_region_any (by kernel_rfl) ?_;refine wpAny_slotsG (fun _ _ _=>True) (frame:=(fun (a b c d e f g h i j k l m n o p q r s u v w x y z A B C D E F G H I J K L M N O P Q R S T U V W X Y Z a0 a1 a2 a3 a4:Value)=>fun (t:Nat→Value)=>({ tmps:=List.toArray [a,b,c,d,e,f,g,h,i,j,k,l,m,n,o,p,q,r,s,u,v,w,x,y,z,A,B,C,D,E,F,G,H,I,J,K,L,M,N,O,P,Q,R,S,T,U,V,W,X,Y,t 0,t 1,t 2,t 3,t 4,t 5,t 6,t 7,t 8,t 9,Z,a0,a1,a2,a3,a4],defers:=[] }:Act)) _ _ _ _ _ _ _ _ _ _ _ _ _ _ _ _ _ _ _ _ _ _ _ _ _ _ _ _ _ _ _ _ _ _ _ _ _ _ _ _ _ _ _ _ _ _ _ _ _ _ _ _ _ _ _ _)
        (Ext:=fun L w'=>ExD w g 10 (fun w1=>Pt w1 g ns ys oneL t0) (fun w1=>∃ ts,EOk ts∧ev ts=ev ns*ev ys%fp∧Pt w1 g ns ys oneL ts) L w') (Good:=fun i L _ v=>if i=0 then v=.pointer (some ⟨g,0,none⟩) else if i=1 then v=.pointer (some ⟨g,0,none⟩) else if i=2 then v=.pointer (some ⟨g,0,none⟩) else if i=3 then v=.pointer (some ⟨g,0,none⟩) else if i=4 then v=.pointer (some ⟨g,0,none⟩) else if i=5 then v=.pointer (some ⟨g,0,none⟩) else if i=6 then v=.pointer (some ⟨g,5,none⟩) else if i=7 then TG (ev ns) (ev ys) (v) else if i=8 then v=.pointer (some ⟨g,0,none⟩) else if i=9 then v=.pointer (some ⟨g,15,none⟩) else if i=10 then v=undef∧L 10=true else True) ?hstab (by kernel_rfl) ?hop ?hdone _ _ ((fun (x0 x1 x2 x3 x4 x5 x6 x7 x8 x9:Value)=>fun (i:Nat)=>if i=0 then x0 else if i=1 then x1 else if i=2 then x2 else if i=3 then x3 else if i=4 then x4 else if i=5 then x5 else if i=6 then x6 else if i=7 then x7 else if i=8 then x8 else if i=9 then x9 else undef) _ _ _ _ _ _ _ _ _ _) _ (by simp) ?ext ?start (by simp)
       case start=>intro i hi h;exact absurd h (by rw[Array.getD_eq_getD_getElem?,Array.getElem?_replicate];split<;>simp)
       case ext=>exact EX0.out
       case hstab=>
        intro j L w w' i v _ _ _ h;by_cases hj:j=10
        ·subst hj;simp at h ⊢;exact⟨h.1,by unfold updK;simp[h.2]⟩
        ·simp only[if_neg hj] at h ⊢;exact h
       case hop=>
        intro i o L t w' ho hLi hx hdep K hK;have hi:i<11:=(Array.getElem?_eq_some_iff.1 ho).1;obtain rfl|rfl|rfl|rfl|rfl|rfl|rfl|rfl|rfl|rfl|rfl:i=0∨i=1∨i=2∨i=3∨i=4∨i=5∨i=6∨i=7∨i=8∨i=9∨i=10:=by omega
        all_goals(simp at ho;subst ho)
        ·clear hdep;have hK':=hK w' (.pointer (some ⟨g,0,none⟩)) (by simp) (REF.out 0 (by decide) L w' hx) trivial;clear hK;rw[if_pos (by rfl)];go_simp;simpa[upd] using hK'
        ·clear hdep;have hK':=hK w' (.pointer (some ⟨g,0,none⟩)) (by simp) (REF.out 1 (by decide) L w' hx) trivial;clear hK;rw[if_pos (by rfl)];go_simp;simpa[upd] using hK'
        ·have d1:t 1=.pointer (some ⟨g,0,none⟩):=by simpa using hdep ⟨1,.data⟩ (by simp) rfl
         clear hdep;have hK':=hK w' (.pointer (some ⟨g,0,none⟩)) (by simp) (REF.out 2 (by decide) L w' hx) trivial;clear hK;rw[if_pos (by rfl)];go_simp;simpa[upd,d1] using hK'
        ·have d2:t 2=.pointer (some ⟨g,0,none⟩):=by simpa using hdep ⟨2,.data⟩ (by simp) rfl
         clear hdep;have hK':=hK w' (.pointer (some ⟨g,0,none⟩)) (by simp) (REF.out 3 (by decide) L w' hx) trivial;clear hK;rw[if_pos (by rfl)];go_simp;simpa[upd,d2] using hK'
        ·clear hdep;have hK':=hK w' (.pointer (some ⟨g,0,none⟩)) (by simp) (REF.out 4 (by decide) L w' hx) trivial;clear hK;rw[if_pos (by rfl)];go_simp;simpa[upd] using hK'
        ·have d4:t 4=.pointer (some ⟨g,0,none⟩):=by simpa using hdep ⟨4,.data⟩ (by simp) rfl
         clear hdep;have hK':=hK w' (.pointer (some ⟨g,0,none⟩)) (by simp) (REF.out 5 (by decide) L w' hx) trivial;clear hK;rw[if_pos (by rfl)];go_simp;simpa[upd,d4] using hK'
        ·have d5:t 5=.pointer (some ⟨g,0,none⟩):=by simpa using hdep ⟨5,.data⟩ (by simp) rfl
         clear hdep;have hK':=hK w' (.pointer (some ⟨g,5,none⟩)) (by simp) (REF.out 6 (by decide) L w' hx) trivial;clear hK;rw[if_pos (by rfl)];go_simp;simpa[upd,d5] using hK'
        ·have d3:t 3=.pointer (some ⟨g,0,none⟩):=by simpa using hdep ⟨3,.data⟩ (by simp) rfl
         have d6:t 6=.pointer (some ⟨g,5,none⟩):=by simpa using hdep ⟨6,.data⟩ (by simp) rfl
         clear hdep;have A:=times_any g 0 g 5 ns ys w' (YY.out L w' hx).1 (YY.out L w' hx).2;have hK':∀ ww ts,EOk ts→ev ts=ev ns*ev ys%fp→Below w'.heap.size w' ww→K _ ww:=fun ww ts h1 h2 b=>hK ww (.agg (ts.map (Value.int .u64)).toArray) (by simp;exact⟨ts,h1,h2,rfl⟩) (ExD.low 7 (by decide) hx (fun q=>HA.out _ _ b q) (fun q=>HB.out _ _ b q) b) trivial
         clear hK;rw[if_pos (by rfl)];go_simp;refine A.mono ?_;rintro e w9 ⟨ts,h1,h2,rfl,hb⟩;have hK2:=hK' w9 ts h1 h2 hb;clear hK' A hb h1 h2;go_simp;simpa[upd,d3,d6] using hK2
        ·have d0:t 0=.pointer (some ⟨g,0,none⟩):=by simpa using hdep ⟨0,.data⟩ (by simp) rfl
         clear hdep;have hK':=hK w' (.pointer (some ⟨g,0,none⟩)) (by simp) (REF.out 8 (by decide) L w' hx) trivial;clear hK;rw[if_pos (by rfl)];go_simp;simpa[upd,d0] using hK'
        ·have d8:t 8=.pointer (some ⟨g,0,none⟩):=by simpa using hdep ⟨8,.data⟩ (by simp) rfl
         clear hdep;have hK':=hK w' (.pointer (some ⟨g,15,none⟩)) (by simp) (REF.out 9 (by decide) L w' hx) trivial;clear hK;rw[if_pos (by rfl)];go_simp;simpa[upd,d8] using hK'
        ·have d9:t 9=.pointer (some ⟨g,15,none⟩):=by simpa using hdep ⟨9,.data⟩ (by simp) rfl
         have d7:TG (ev ns) (ev ys) (t 7):=by simpa using hdep ⟨7,.data⟩ (by simp) rfl
         clear hdep;obtain⟨ts,h1,h2,h3⟩:=d7;rw[if_pos (by rfl)];refine wp_midT (hx.2.1 hLi) (.tmp 59) (.tmp 57) rfl ts (show t 9=_ from d9) (show t 7=_ from h3) h1 ?_;intro ww hp hw;have hK':=hK ww undef (by simp[updK]) ⟨hx.1.trans hw.wrH,fun q=>absurd q (by rw[updK_same];decide),fun _=>⟨ts,h1,h2,hp⟩⟩ trivial;clear hK;go_simp;simpa[upd,d9,h3] using hK'
       case hdone=>
        intro L t w' hx hg;have d0:t 0=.pointer (some ⟨g,0,none⟩):=by simpa using hg 0 (by decide)
        have d1:t 1=.pointer (some ⟨g,0,none⟩):=by simpa using hg 1 (by decide)
        have d2:t 2=.pointer (some ⟨g,0,none⟩):=by simpa using hg 2 (by decide)
        have d3:t 3=.pointer (some ⟨g,0,none⟩):=by simpa using hg 3 (by decide)
        have d4:t 4=.pointer (some ⟨g,0,none⟩):=by simpa using hg 4 (by decide)
        have d5:t 5=.pointer (some ⟨g,0,none⟩):=by simpa using hg 5 (by decide)
        have d6:t 6=.pointer (some ⟨g,5,none⟩):=by simpa using hg 6 (by decide)
        have d7:TG (ev ns) (ev ys) (t 7):=by simpa using hg 7 (by decide)
        have d8:t 8=.pointer (some ⟨g,0,none⟩):=by simpa using hg 8 (by decide)
        have d9:t 9=.pointer (some ⟨g,15,none⟩):=by simpa using hg 9 (by decide)
        have d10:t 10=undef∧L 10=true:=by simpa using hg 10 (by decide)
        clear hg;obtain⟨ts,hk,hv,hpt⟩:=hx.2.2 d10.2;obtain⟨ts',_,_,e7⟩:=d7;have HSb:Hid (RunP w w' g ns ys oneL ts [] []):=⟨hx.1,hlt,hpt,by simp,List.Pairwise.nil,by simp⟩
        have HKts:Hid (EOk ts∧ev ts=dcX zs*dcY zs%fp):=⟨hk,by rw[hv,HKns.out.2,HEV.out]⟩
        clear hx HSa HA EX0 REF YY HB hk hv hpt;dsimp only;rw[d0,d1,d2,d3,d4,d5,d6,e7,d8,d9];clear d0 d1 d2 d3 d4 d5 d6 e7 d8 d9 d10;go_wp2_with fail;refine(isOdd_any g 0 ns _ HSb.out.pt.ex).mono ?_;rintro e wc ⟨rfl,b⟩;rw[HKns.out.2];have HSc:Hid (RunP w wc g ns ys oneL ts [] []):=HSb.out.call b;clear b HSb;obtain⟨o2,ho2⟩:∃ o2,o2=(dcX zs%2 == 1):=⟨_,rfl⟩
        rw[←ho2];have HDD:Hid (dcR zs=(o2 == true)):=by
         show _=_
         rw[HDR.out,←ho2,←HOD.out]
        clear ho2;go_wp2
        go_ret
        exact⟨ns,ys,oneL,ts,HSc.out.pt,HSc.out.wrh,by rw[HDD.out];cases o2<;>rfl,fun _=>⟨HKns.out.2,HEV.out,by decide,HKts.out.2⟩⟩
  ·have HQ:Hid (decide (ys=lsE ys)=false):=decide_eq_false (fun h=>hle h.symm);have HDR:Hid (dcR zs=false):=by
    show _=_
    have:decide (dcY zs<fp)=false:=decide_eq_false (fun h=>hle (HLS.out.2 h));unfold dcR;rw[this];simp
   clear hle;have EX0:Hid (ExD w g 99 (fun w1=>Pt w1 g x ys z t0) (fun w1=>Pt w1 g x ys z t0) (fun n=>(Array.replicate 14 false).getD n false) w4.drew):=⟨HS4.out.wrh.trans (WrH.of_below (Below.refl _ _).drew),fun _=>⟨HS4.out.pt.row,HS4.out.pt.x,HS4.out.pt.y,HS4.out.pt.z,HS4.out.pt.t⟩,fun _=>⟨HS4.out.pt.row,HS4.out.pt.x,HS4.out.pt.y,HS4.out.pt.z,HS4.out.pt.t⟩⟩
   have REF:Hid (∀ i,i≠99→∀(L:Nat→Bool) (w':World),ExD w g 99 (fun w1=>Pt w1 g x ys z t0) (fun w1=>Pt w1 g x ys z t0) L w'→ExD w g 99 (fun w1=>Pt w1 g x ys z t0) (fun w1=>Pt w1 g x ys z t0) (updK L i) w'):=fun i hi L w' h=>ExD.ref i hi h
   have YY:Hid (∀(L:Nat→Bool) (w':World),ExD w g 99 (fun w1=>Pt w1 g x ys z t0) (fun w1=>Pt w1 g x ys z t0) L w'→EAt w' g 5 ys):=fun L w' h=>by
    cases hL:L 99
    ·exact(h.2.1 hL).ey
    ·exact(h.2.2 hL).ey
   go_wp2;refine wp_region_any (by kernel_rfl) ?_;refine wpAny_slotsG (fun _ _ _=>True) (frame:=(fun (a b c d e f g h i j k l m n o p q r s u v w x y z A B C D E F G H I J K L M N O P Q R S T U V W X Y Z a0:Value)=>fun (t:Nat→Value)=>({ tmps:=List.toArray [a,b,c,d,e,f,g,h,i,j,k,l,m,n,o,p,q,r,s,t 0,t 1,t 2,t 3,t 4,t 5,t 6,t 7,t 8,t 9,t 10,t 11,t 12,t 13,u,v,w,x,y,z,A,B,C,D,E,F,G,H,I,J,K,L,M,N,O,P,Q,R,S,T,U,V,W,X,Y,Z,a0],defers:=[] }:Act)) _ _ _ _ _ _ _ _ _ _ _ _ _ _ _ _ _ _ _ _ _ _ _ _ _ _ _ _ _ _ _ _ _ _ _ _ _ _ _ _ _ _ _ _ _ _ _ _ _ _ _ _)
    (Ext:=fun L w'=>ExD w g 99 (fun w1=>Pt w1 g x ys z t0) (fun w1=>Pt w1 g x ys z t0) L w') (Good:=fun i L _ v=>if i=0 then v=.pointer (some ⟨g,0,none⟩) else if i=1 then v=.pointer (some ⟨g,0,none⟩) else if i=2 then v=.pointer (some ⟨g,5,none⟩) else if i=3 then v=.agg (ys.map (Value.int .u64)).toArray else if i=4 then v=.pointer (some ⟨g,0,none⟩) else if i=5 then v=.pointer (some ⟨g,0,none⟩) else if i=6 then v=.pointer (some ⟨g,5,none⟩) else if i=7 then v=.agg ((lsE ys).map (Value.int .u64)).toArray else if i=8 then v=.bool true else if i=9 then v=.bool true else if i=10 then True else if i=11 then True else if i=12 then True else if i=13 then v=.bool true else True) ?hstab (by kernel_rfl) ?hop ?hdone _ _ ((fun (x0 x1 x2 x3 x4 x5 x6 x7 x8 x9 x10 x11 x12 x13:Value)=>fun (i:Nat)=>if i=0 then x0 else if i=1 then x1 else if i=2 then x2 else if i=3 then x3 else if i=4 then x4 else if i=5 then x5 else if i=6 then x6 else if i=7 then x7 else if i=8 then x8 else if i=9 then x9 else if i=10 then x10 else if i=11 then x11 else if i=12 then x12 else if i=13 then x13 else undef) _ _ _ _ _ _ _ _ _ _ _ _ _ _) _ (by simp) ?ext ?start (by simp)
   case start=>intro i hi h;exact absurd h (by rw[Array.getD_eq_getD_getElem?,Array.getElem?_replicate];split<;>simp)
   case ext=>exact EX0.out
   case hstab=>intro j L w w' i v _ _ _ h;exact h
   case hop=>
    intro i o L t w' ho hLi hx hdep K hK;have hi:i<14:=(Array.getElem?_eq_some_iff.1 ho).1;obtain rfl|rfl|rfl|rfl|rfl|rfl|rfl|rfl|rfl|rfl|rfl|rfl|rfl|rfl:i=0∨i=1∨i=2∨i=3∨i=4∨i=5∨i=6∨i=7∨i=8∨i=9∨i=10∨i=11∨i=12∨i=13:=by omega
    all_goals(simp at ho;subst ho)
    ·clear hdep;have hK':=hK w' (.pointer (some ⟨g,0,none⟩)) (by simp) (REF.out 0 (by decide) L w' hx) trivial;clear hK;rw[if_pos (by rfl)];go_simp;simpa[upd] using hK'
    ·have d0:t 0=.pointer (some ⟨g,0,none⟩):=by simpa using hdep ⟨0,.data⟩ (by simp) rfl
     clear hdep;have hK':=hK w' (.pointer (some ⟨g,0,none⟩)) (by simp) (REF.out 1 (by decide) L w' hx) trivial;clear hK;rw[if_pos (by rfl)];go_simp;simpa[upd,d0] using hK'
    ·have d1:t 1=.pointer (some ⟨g,0,none⟩):=by simpa using hdep ⟨1,.data⟩ (by simp) rfl
     clear hdep;have hK':=hK w' (.pointer (some ⟨g,5,none⟩)) (by simp) (REF.out 2 (by decide) L w' hx) trivial;clear hK;rw[if_pos (by rfl)];go_simp;simpa[upd,d1] using hK'
    ·have d2:t 2=.pointer (some ⟨g,5,none⟩):=by simpa using hdep ⟨2,.data⟩ (by simp) rfl
     clear hdep;have hK':=hK w' (.agg (ys.map (Value.int .u64)).toArray) (by simp) (REF.out 3 (by decide) L w' hx) trivial;have ex:=YY.out L w' hx;clear hK;rw[if_pos (by rfl)];refine wp_loadE (.tmp 21) rfl g 5 ys (show t 2=_ from d2) ex ?_;go_simp;simpa[upd,d2] using hK'
    ·clear hdep;have hK':=hK w' (.pointer (some ⟨g,0,none⟩)) (by simp) (REF.out 4 (by decide) L w' hx) trivial;clear hK;rw[if_pos (by rfl)];go_simp;simpa[upd] using hK'
    ·have d4:t 4=.pointer (some ⟨g,0,none⟩):=by simpa using hdep ⟨4,.data⟩ (by simp) rfl
     clear hdep;have hK':=hK w' (.pointer (some ⟨g,0,none⟩)) (by simp) (REF.out 5 (by decide) L w' hx) trivial;clear hK;rw[if_pos (by rfl)];go_simp;simpa[upd,d4] using hK'
    ·have d5:t 5=.pointer (some ⟨g,0,none⟩):=by simpa using hdep ⟨5,.data⟩ (by simp) rfl
     clear hdep;have hK':=hK w' (.pointer (some ⟨g,5,none⟩)) (by simp) (REF.out 6 (by decide) L w' hx) trivial;clear hK;rw[if_pos (by rfl)];go_simp;simpa[upd,d5] using hK'
    ·have d6:t 6=.pointer (some ⟨g,5,none⟩):=by simpa using hdep ⟨6,.data⟩ (by simp) rfl
     clear hdep;have A:=leastE_any g 5 ys w' (YY.out L w' hx);have hK':∀ ww,Below w'.heap.size w' ww→K _ ww:=fun ww b=>hK ww (.agg ((lsE ys).map (Value.int .u64)).toArray) (by simp) (ExD.low 7 (by decide) hx (fun q=>HA.out _ _ b q) (fun q=>HA.out _ _ b q) b) trivial
     clear hK;rw[if_pos (by rfl)];go_simp;refine A.mono ?_;rintro e w9 ⟨rfl,hb⟩;have hK2:=hK' w9 hb;clear hK' A hb;go_simp;simpa[upd,d6] using hK2
    ·have d3:t 3=.agg (ys.map (Value.int .u64)).toArray:=by simpa using hdep ⟨3,.data⟩ (by simp) rfl
     have d7:t 7=.agg ((lsE ys).map (Value.int .u64)).toArray:=by simpa using hdep ⟨7,.data⟩ (by simp) rfl
     clear hdep;have hK':=hK w' (.bool true) (by simp) (REF.out 8 (by decide) L w' hx) trivial;clear hK;rw[if_pos (by rfl)];go_simp;simp only[run_eqW _ 9998 5 138 Tryz.underlying138 ys (lsE ys) hyl hll,HQ.out,Result.andThen_ok];go_simp;simpa[upd,d3,d7] using hK'
    ·have d8:t 8=.bool true:=by simpa using hdep ⟨8,.data⟩ (by simp) rfl
     clear hdep;have hK':=hK w' (.bool true) (by simp) (REF.out 9 (by decide) L w' hx) trivial;clear hK;rw[if_pos (by rfl)];go_simp;simpa[upd,d8] using hK'
    ·have d9:t 9=.bool true:=by simpa using hdep ⟨9,.guard⟩ (by simp) rfl
     clear hdep;have hK':=hK w' undef (by simp) (REF.out 10 (by decide) L w' hx) trivial;clear hK;rw[if_neg (by simp[Region.wanted,yielded,d9])];go_simp;simpa[upd,d9] using hK'
    ·have d9:t 9=.bool true:=by simpa using hdep ⟨9,.guard⟩ (by simp) rfl
     clear hdep;have hK':=hK w' undef (by simp) (REF.out 11 (by decide) L w' hx) trivial;clear hK;rw[if_neg (by simp[Region.wanted,yielded,d9])];go_simp;simpa[upd,d9] using hK'
    ·have d9:t 9=.bool true:=by simpa using hdep ⟨9,.guard⟩ (by simp) rfl
     clear hdep;have hK':=hK w' undef (by simp) (REF.out 12 (by decide) L w' hx) trivial;clear hK;rw[if_neg (by simp[Region.wanted,yielded,d9])];go_simp;simpa[upd,d9] using hK'
    ·have d9:t 9=.bool true:=by simpa using hdep ⟨9,.data⟩ (by simp) rfl
     clear hdep;have hK':=hK w' (.bool true) (by simp) (REF.out 13 (by decide) L w' hx) trivial;clear hK;rw[if_pos (by rfl)];go_simp;simpa[upd,d9] using hK'
   case hdone=>
    intro L t w' hx hg;have d0:t 0=.pointer (some ⟨g,0,none⟩):=by simpa using hg 0 (by decide)
    have d1:t 1=.pointer (some ⟨g,0,none⟩):=by simpa using hg 1 (by decide)
    have d2:t 2=.pointer (some ⟨g,5,none⟩):=by simpa using hg 2 (by decide)
    have d3:t 3=.agg (ys.map (Value.int .u64)).toArray:=by simpa using hg 3 (by decide)
    have d4:t 4=.pointer (some ⟨g,0,none⟩):=by simpa using hg 4 (by decide)
    have d5:t 5=.pointer (some ⟨g,0,none⟩):=by simpa using hg 5 (by decide)
    have d6:t 6=.pointer (some ⟨g,5,none⟩):=by simpa using hg 6 (by decide)
    have d7:t 7=.agg ((lsE ys).map (Value.int .u64)).toArray:=by simpa using hg 7 (by decide)
    have d8:t 8=.bool true:=by simpa using hg 8 (by decide)
    have d9:t 9=.bool true:=by simpa using hg 9 (by decide)
    have d13:t 13=.bool true:=by simpa using hg 13 (by decide)
    clear hg;have HF:Hid (WrH g w w'∧Pt w' g x ys z t0):=⟨hx.1,by
     cases hL:L 99
     ·exact hx.2.1 hL
     ·exact hx.2.2 hL⟩
    clear hx HS4 HA EX0 REF YY HQ HKys HKlm HLS;dsimp only;rw[d0,d1,d2,d3,d4,d5,d6,d7,d8,d9,d13];clear d0 d1 d2 d3 d4 d5 d6 d7 d8 d9 d13;go_wp2
    go_ret
    refine⟨x,ys,z,t0,HF.out.2,HF.out.1,by rw[HDR.out];rfl,fun h=>?_⟩;rw[HDR.out] at h;cases h
 ·have h32':((n:Int) == 32)=false:=by simp;omega
  have HR:Hid (dcR zs=false):=by
   show _=_
   unfold dcR;have:(zs.length == 32)=false:=by simp;omega
   rw[this];rfl
  go_enter Tryz.func102,Tryz.ntmps102;go_wp2
  go_ret
  refine⟨x,y,z,t0,HP.out,WrH.refl _ _,by rw[HR.out];rfl,fun h=>?_⟩;rw[HR.out] at h;cases h
end Go.Proofs.YtjdhhgaelgemcaaGreatDoor
