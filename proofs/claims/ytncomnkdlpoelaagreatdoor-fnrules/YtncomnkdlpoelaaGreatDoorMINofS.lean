import Derived.Test.YtncomnkdlpoelaaGreatDoorMTxt
import Derived.BigRegion
import Derived.Test.YtncomnkdlpoelaaGreatDoorMIPow
import Derived.Test.YtncomnkdlpoelaaGreatDoorMSMul
namespace Go.Proofs.YtncomnkdlpoelaaGreatDoor
open Go.ChangeShapes Go.WideShapes Go.ChangeAt Go.RowKit
set_option linter.unusedVariables false
def NumPost (w:World) (v:Int) (e:Ending) (w':World):Prop:=
 ∃ ms:List Int,ms.length=4∧Wrd ms∧val 18446744073709551616 ms=v∧e=.returned (.agg (ms.map (Value.int .u64)).toArray)∧Below w.heap.size w w'
structure NO (w:World) (zs:List Int) (k:Nat) (wr:World):Prop where
 res:RowW wr w.heap.size 146 [0,0,0,0]
 row:∃ ns,ns.length=4∧RowW wr (w.heap.size+1) 146 ns∧Wrd ns∧val 18446744073709551616 ns=val 256 (zs.take k)
 below:Below w.heap.size w wr
theorem u64_or_add' (a b:Int) (k:Nat) (ha:0≤a) (ha':a<18446744073709551616) (hb:0≤b) (hb':b<2^k) (hb'':b<18446744073709551616) (q:Int) (hd:a=q*2^k):bits .or .u64 b a=b+a:=by
 have:=u64_or_add a b k ha ha' hb hb' hb'' q hd;obtain⟨a,rfl⟩:=Int.eq_ofNat_of_zero_le ha;obtain⟨b,rfl⟩:=Int.eq_ofNat_of_zero_le hb;rw[u64_or_nat a b (by omega) (by omega)] at this;rw[u64_or_nat b a (by omega) (by omega),Nat.or_comm];omega
theorem nof_word (V y x:Int) (j:Nat) (hj:j<32) (hV0:0≤V) (hV:V<256^j) (hy:V/18446744073709551616^(j/8)%18446744073709551616=y) (hx0:0≤x) (hx1:x<256) :
  bits .or .u64 y (IntKind.u64.wrap (x*2^(8*(j%8))))=y+x*256^(j%8)∧0≤y+x*256^(j%8)∧y+x*256^(j%8)<18446744073709551616∧x*256^(j%8)*18446744073709551616^(j/8)=x*256^j:=by
 have e1:(256:Int)^j=18446744073709551616^(j/8)*256^(j%8):=by
  rw[show(18446744073709551616:Int)=256^8 from by decide,←Int.pow_mul,←Int.pow_add]
  congr 1;omega
 have hp:(0:Int)<18446744073709551616^(j/8):=Int.pow_pos (by decide);have a0:0≤V/18446744073709551616^(j/8):=Int.ediv_nonneg hV0 (by omega);have a1:V/18446744073709551616^(j/8)<256^(j%8):=Int.ediv_lt_of_lt_mul hp (by rw[Int.mul_comm,←e1];exact hV);have e2:(2:Int)^(8*(j%8))=256^(j%8):=(pow256 _).symm;have e3:x*256^(j%8)*18446744073709551616^(j/8)=x*256^j:=by rw[e1];grind
 have hr:j%8<8:=Nat.mod_lt _ (by decide);have hle:(256:Int)^(j%8)≤256^7:=by
  have:j%8=0∨j%8=1∨j%8=2∨j%8=3∨j%8=4∨j%8=5∨j%8=6∨j%8=7:=by omega
  rcases this with h|h|h|h|h|h|h|h<;>rw[h]<;>decide
 have hP0:(0:Int)<256^(j%8):=Int.pow_pos (by decide);have e7:(256:Int)^7=72057594037927936:=by decide
 rw[e7] at hle;refine⟨?_,?_,?_,e3⟩;all_goals
  generalize V/18446744073709551616^(j/8)=z at *;have hzy:z=y:=by rw[←hy];exact(Int.emod_eq_of_lt a0 (by omega)).symm
  subst hzy;have m0:0≤x*256^(j%8):=Int.mul_nonneg hx0 (by omega);have m1:x*256^(j%8)≤255*256^(j%8):=Int.mul_le_mul_of_nonneg_right (by omega) (by omega)
 ·rw[e2,IntKind.wrap_u64,Int.emod_eq_of_lt m0 (by omega)];exact u64_or_add' _ _ (8*(j%8)) m0 (by omega) a0 (by rw[e2];exact a1) (by omega) x (by rw[e2])
 ·omega
 ·omega
set_option maxHeartbeats 1000000 in
theorem nof_any (a:Option Addr) (n cap:Nat) (zs:List Int) (w:World) (hn:zs.length=n) (hm:32≤n) (hm':n≤1048576) (ha:At .u8 w a zs) (hz:Byte zs) :
  Calls Tryz.prog 106 #[.slice a n cap] w (NumPost w (val 256 (zs.take 32))):=by
 have HS:Hid (NO w zs 0 ((w.alloc (.cells #[.int .u64 0,.int .u64 0,.int .u64 0,.int .u64 0] 146)).alloc (.cells #[.int .u64 0,.int .u64 0,.int .u64 0,.int .u64 0] 146))):=
  ⟨heap_alloc2_old _ _ _,⟨[0,0,0,0],rfl,heap_alloc2_new _ _ _,by unfold Wrd;decide,by rw[List.take_zero];decide⟩,((Below.refl _ _).alloc (Nat.le_refl _) _).alloc (by simp) _⟩
 go_enter Tryz.func106,Tryz.ntmps106;go_wp2
 go_loopw [5] (fun i wr=>∃(j:Nat),j≤32∧i=.int .i64 j∧NO w zs j wr) (fun i _=>32-(intOf i).toNat)
 case atStart=>exact⟨0,Nat.zero_le _,rfl,HS.out⟩
 case round=>
  clear HS;obtain⟨j,hj,rfl,hres,⟨ns,hl,hrow,hw,hv⟩,hbel⟩:=hrel;by_cases hj0:j<32
  ·obtain⟨b0,off,rfl,hb0,hc⟩:=(ha.below hbel).get (by omega);have c0:=hc j (by omega);have hx:=hz.get j;have hV:=val_take 256 zs j (by omega);have ht0:0≤val 256 (zs.take j):=val_nonneg (by decide) (fun z hz'=>hz z (List.mem_of_mem_take hz'));have ht1:val 256 (zs.take j)<256^j:=by
    have:=val_lt (B:=256) (by decide) (xs:=zs.take j) (fun z hz'=>hz z (List.mem_of_mem_take hz'))
    rwa [List.length_take,Nat.min_eq_left (by omega)] at this
   have hdg:=val_digit (B:=18446744073709551616) (by decide) hw (j/8);rw[hv] at hdg;obtain⟨n1,n2,n3,n4⟩:=nof_word _ _ _ j hj0 ht0 ht1 hdg hx.1 hx.2;have S1:=hrow.set (j/8) (ns.getD (j/8) 0+zs.getD j 0*256^(j%8));have S2:=hw.set (j/8) _ n2 n3;have S3:=val_set 18446744073709551616 ns (j/8) (ns.getD (j/8) 0+zs.getD j 0*256^(j%8)) (by omega);rw[show ns.getD (j/8) 0+zs.getD j 0*256^(j%8)-ns.getD (j/8) 0=zs.getD j 0*256^(j%8) by omega,n4,hv,←hV] at S3;have c1:=hrow.cell (j/8) (by omega);have f1:=hrow.frozen (j/8);have HS:Hid (NO w zs (j+1) (wr.setCell ⟨w.heap.size+1,j/8,none⟩ (.int .u64 (ns.getD (j/8) 0+zs.getD j 0*256^(j%8))))):=
    ⟨((Wr.refl _ _).setCell (j/8) _).rowW hres (by omega),⟨_,by rw[List.length_set];exact hl,S1,S2,S3⟩,hbel.setCell (by simp) _⟩
   have HN1:=hdI <| n1
   clear hV ht0 ht1 hdg n1 n2 n3 n4 S1 S2 S3 hv hrow hres hbel hw;generalize zs.getD j 0=x at *;obtain⟨hx0,hx1⟩:=hx;clear hc;have hlt:(j:Int)<n:=by omega
   have hlt2:(j:Int)/8<4:=by omega
   generalize ns.getD (j/8) 0=y at *;go_wp2
   go_region
   rw[HN1.out];have HS2:Hid (NO w zs (j+1) ((wr.setCell ⟨w.heap.size+1,j/8,none⟩ (.int .u64 (y+x*256^(j%8)))).drew)):=
    ⟨HS.out.res,HS.out.row,⟨HS.out.below.os,HS.out.below.tape,HS.out.below.output,HS.out.below.size,HS.out.below.block⟩⟩
   clear HS c0 c1 f1;generalize (wr.setCell ⟨w.heap.size+1,j/8,none⟩ (.int .u64 (y+x*256^(j%8)))).drew=w2 at *;go_wp2;go_roundw
   case rel=>exact⟨j+1,by omega,by go_num,HS2.out⟩
   case measure=>simp[intOf];omega
  ·have hj32:j=32:=by omega
   subst hj32;have HSZ:=hdI <| sizeNum hl
   have HZ4:Hid (([0,0,0,0].map (Value.int .u64)).toArray.size=((ns.map (Value.int .u64)).toArray).size):=by show _=_;simp[hl]
   have HRS:=hdI <| hres
   have HRO:=hdI <| hrow
   have HBE:=hdI <| hbel
   have HV:=hdI <| hv
   clear hres hrow hbel hv;go_wp2_with (first
    |(refine wpList_load_row rfl 146 (.tmp 3) rfl (w.heap.size+1) rfl 146 _ (0,0) _ HRO.out Tryz.underlying146 rfl HSZ.out ?_)
    |(refine wpList_store_row rfl 146 (.tmp 2) (.tmp 24) rfl w.heap.size ((ns.map (Value.int .u64)).toArray) rfl rfl 146 _ HRS.out HSZ.out HZ4.out (all_oneCell_toArray (ints_oneCell _ _)) ?_))
   refine bodyPost_ret (v:=.agg (ns.map (Value.int .u64)).toArray) (results_cell_row rfl _ _ w.heap.size 146 _ (0,0) _ rfl (setRow_heap _ _ _ _ _ _ HRS.out) Tryz.underlying146 rfl HSZ.out) rfl ⟨ns,hl,hw,HV.out,rfl,?_⟩;exact HBE.out.trans ((Wr.setRow _ _ _).below (Nat.le_refl _))
def rpF (x:Int):Int:=x^(M250*4+1)%fp
def rtF (u v:Int):Int:=(u*(sqN v 1*v%fp)%fp)*rpF (u*(sqN v 1*v%fp)%fp*sqN v 2%fp)%fp
def rcF (u v:Int):Int:=sqN (rtF u v) 1*v%fp
def sm1L:List Int:=[1718705420411056,234908883556509,2233514472574048,2117202627021982,765476049583133]
def curveDL:List Int:=[929955233495203,466365720129213,1662059464998953,2033849074728123,1442794654840575]
def curveD2L:List Int:=[1859910466990425,932731440258426,1072319116312658,1815898335770999,633789495995903]
def drR (u v:Int):Bool:=decide (rcF u v=u) || decide (rcF u v=(0-u)%fp)
def drX (u v:Int):Int:=if rcF u v=u then rtF u v else rtF u v*ev sm1L%fp
def DP (w:World) (g:Nat) (y z t:List Int) (u v:Int) (e:Ending) (w':World):Prop:=
 ∃ xs,EOk xs∧e=.returned (.bool (drR u v))∧ev xs=drX u v∧Pt w' g xs y z t∧WrH g w w'
theorem ok5 (a b c d e:Int) (ha:0≤a∧a<2251799813685504) (hb:0≤b∧b<2251799813685248) (hc:0≤c∧c<2251799813685248) (hd:0≤d∧d<2251799813685248) (he:0≤e∧e<2251799813685248):EOk [a,b,c,d,e]:=by
 refine⟨rfl,fun i=>?_,fun i hi=>?_,ha.2⟩
 ·rcases i with _|_|_|_|_|i<;>simp<;>omega
 ·rcases i with _|_|_|_|_|i<;>simp<;>omega
def oneL:List Int:=[1,0,0,0,0]
theorem one_ok:EOk oneL:=ok5 _ _ _ _ _ (by decide) (by decide) (by decide) (by decide) (by decide)
theorem sm1_ok:EOk sm1L:=ok5 _ _ _ _ _ (by decide) (by decide) (by decide) (by decide) (by decide)
theorem curveD_ok:EOk curveDL:=ok5 _ _ _ _ _ (by decide) (by decide) (by decide) (by decide) (by decide)
theorem curveD2_ok:EOk curveD2L:=ok5 _ _ _ _ _ (by decide) (by decide) (by decide) (by decide) (by decide)
set_option maxHeartbeats 1000000 in
theorem curveD_any (w:World):Calls Tryz.prog 149 #[] w (EP w (ev curveDL)):=by
 have HS0:=hdI <| (Run.start w [] (by simp)).room
 go_enter Tryz.func149,Tryz.ntmps149;go_wp2_with (first
  |(refine wpList_storeR HS0.out rfl (.tmp 0) (.tmp 1) rfl 0 w.heap.size [0,0,0,0,0] curveDL rfl rfl rfl curveD_ok rfl ?_)
  |fail)
 intro w1 S1;have H1:=hdI <| S1
 clear S1 HS0;go_wp2;exact bodyPost_ret (v:=.agg (curveDL.map (Value.int .u64)).toArray) (H1.out.ret rfl _ 0 w.heap.size curveDL rfl rfl) rfl ⟨curveDL,curveD_ok,rfl,rfl,H1.out.below⟩
set_option maxHeartbeats 1000000 in
theorem curveD2_any (w:World):Calls Tryz.prog 137 #[] w (EP w (ev curveD2L)):=by
 have HS0:=hdI <| (Run.start w [] (by simp)).room
 go_enter Tryz.func137,Tryz.ntmps137;go_wp2_with (first
  |(refine wpList_storeR HS0.out rfl (.tmp 0) (.tmp 1) rfl 0 w.heap.size [0,0,0,0,0] curveD2L rfl rfl rfl curveD2_ok rfl ?_)
  |fail)
 intro w1 S1;have H1:=hdI <| S1
 clear S1 HS0;go_wp2;exact bodyPost_ret (v:=.agg (curveD2L.map (Value.int .u64)).toArray) (H1.out.ret rfl _ 0 w.heap.size curveD2L rfl rfl) rfl ⟨curveD2L,curveD2_ok,rfl,rfl,H1.out.below⟩
set_option maxHeartbeats 1000000 in
theorem sm1_any (w:World):Calls Tryz.prog 163 #[] w (EP w (ev sm1L)):=by
 have HS0:=hdI <| (Run.start w [] (by simp)).room
 go_enter Tryz.func163,Tryz.ntmps163;go_wp2_with (first
  |(refine wpList_storeR HS0.out rfl (.tmp 0) (.tmp 1) rfl 0 w.heap.size [0,0,0,0,0] sm1L rfl rfl rfl sm1_ok rfl ?_)
  |fail)
 intro w1 S1;have H1:=hdI <| S1
 clear S1 HS0;go_wp2;exact bodyPost_ret (v:=.agg (sm1L.map (Value.int .u64)).toArray) (H1.out.ret rfl _ 0 w.heap.size sm1L rfl rfl) rfl ⟨sm1L,sm1_ok,rfl,rfl,H1.out.below⟩
def uF (Y:Int):Int:=(sqN Y 1-ev oneL)%fp
def vF (Y:Int):Int:=(sqN Y 1*ev curveDL%fp+ev oneL)%fp
set_option maxHeartbeats 4000000 in
theorem divideRoot_any (g:Nat) (x y z t:List Int) (g1 o1 g2 o2:Nat) (us vs:List Int) (w:World) (hp:Pt w g x y z t) (hu:EAt w g1 o1 us) (hv:EAt w g2 o2 vs) (hg1:g1≠g) (hg2:g2≠g) :
  Calls Tryz.prog 151 #[.pointer (some ⟨g,0,none⟩),.pointer (some ⟨g1,o1,none⟩),.pointer (some ⟨g2,o2,none⟩)] w (DP w g y z t (ev us) (ev vs)):=by
 have HS0:Hid (RunP w w g x y z t [] [(g1,o1,us),(g2,o2,vs)]):=RunP.start hp _ (fun e he=>by
  simp only[List.mem_cons,List.not_mem_nil,or_false] at he;rcases he with rfl|rfl
  ·exact⟨hg1,hu⟩
  ·exact⟨hg2,hv⟩)
 clear hp hu hv hg1 hg2;go_enter Tryz.func151,Tryz.ntmps151;go_wp2_with fail;refine(squared_any g2 o2 vs 1 _ (by decide) (HS0.out.el 1 _ _ _ rfl)).mono ?_;rintro e w1 ⟨c1,hk,hv,rfl,b⟩;have HKc1:Hid (EOk c1∧ev c1=sqN (ev vs) 1):=⟨hk,hv⟩
 have HS1:=hdI <| HS0.out.call b
 clear hk hv b HS0;go_wp2_with (first
  |(refine wpList_newP HS1.out rfl (.tmp 7) (.tmp 17) rfl c1 rfl rfl HKc1.out.1 rfl ?_)
  |fail)
 intro w2 S;have HS2:=hdI <| S
 clear S HS1;generalize w1.heap.size=G2 at *;go_wp2_with fail;refine(times_any G2 0 g2 o2 c1 vs _ (HS2.out.re 0 _ _ rfl) (HS2.out.el 1 _ _ _ rfl)).mono ?_;rintro e w3 ⟨c2,hk,hv,rfl,b⟩;have HKc2:Hid (EOk c2∧ev c2=ev c1*ev vs%fp):=⟨hk,hv⟩
 have HS3:=hdI <| HS2.out.call b
 clear hk hv b HS2;go_wp2_with (first
  |(refine wpList_rowP HS3.out rfl (.tmp 7) (.tmp 19) rfl 0 G2 c1 c2 rfl rfl rfl HKc2.out.1 rfl ?_)
  |fail)
 intro w4 S;have HS4:=hdI <| S
 clear S HS3;go_wp2_with fail;refine(times_any g1 o1 G2 0 us c2 _ (HS4.out.el 0 _ _ _ rfl) (HS4.out.re 0 _ _ rfl)).mono ?_;rintro e w5 ⟨st,hk,hv,rfl,b⟩;have HKst:Hid (EOk st∧ev st=ev us*ev c2%fp):=⟨hk,hv⟩
 have HS5:=hdI <| HS4.out.call b
 clear hk hv b HS4;go_wp2_with (first
  |(refine wpList_newP HS5.out rfl (.tmp 8) (.tmp 21) rfl st rfl rfl HKst.out.1 rfl ?_)
  |fail)
 intro w6 S;have HS6:=hdI <| S
 clear S HS5;generalize w5.heap.size=G6 at *;go_wp2_with fail;refine(squared_any g2 o2 vs 2 _ (by decide) (HS6.out.el 1 _ _ _ rfl)).mono ?_;rintro e w7 ⟨f4,hk,hv,rfl,b⟩;have HKf4:Hid (EOk f4∧ev f4=sqN (ev vs) 2):=⟨hk,hv⟩
 have HS7:=hdI <| HS6.out.call b
 clear hk hv b HS6;go_wp2_with (first
  |(refine wpList_newP HS7.out rfl (.tmp 9) (.tmp 23) rfl f4 rfl rfl HKf4.out.1 rfl ?_)
  |fail)
 intro w8 S;have HS8:=hdI <| S
 clear S HS7;generalize w7.heap.size=G8 at *;go_wp2_with fail;refine(times_any G6 0 G8 0 st f4 _ (HS8.out.re 1 _ _ rfl) (HS8.out.re 0 _ _ rfl)).mono ?_;rintro e w9 ⟨bs,hk,hv,rfl,b⟩;have HKbs:Hid (EOk bs∧ev bs=ev st*ev f4%fp):=⟨hk,hv⟩
 have HS9:=hdI <| HS8.out.call b
 clear hk hv b HS8;go_wp2_with (first
  |(refine wpList_newP HS9.out rfl (.tmp 10) (.tmp 24) rfl bs rfl rfl HKbs.out.1 rfl ?_)
  |fail)
 intro w10 S;have HS10:=hdI <| S
 clear S HS9;generalize w9.heap.size=G10 at *;go_wp2_with fail;refine(rootPower_any G10 0 bs _ (HS10.out.re 0 _ _ rfl)).mono ?_;rintro e w11 ⟨pw,hk,hv,rfl,b⟩;have HKpw:Hid (EOk pw∧ev pw=rpF (ev bs)):=⟨hk,hv⟩
 have HS11:=hdI <| HS10.out.call b
 clear hk hv b HS10;go_wp2_with (first
  |(refine wpList_newP HS11.out rfl (.tmp 11) (.tmp 25) rfl pw rfl rfl HKpw.out.1 rfl ?_)
  |fail)
 intro w12 S;have HS12:=hdI <| S
 clear S HS11;generalize w11.heap.size=G12 at *;go_wp2_with fail;refine(times_any G6 0 G12 0 st pw _ (HS12.out.re 3 _ _ rfl) (HS12.out.re 0 _ _ rfl)).mono ?_;rintro e w13 ⟨rt,hk,hv,rfl,b⟩;have HKrt:Hid (EOk rt∧ev rt=ev st*ev pw%fp):=⟨hk,hv⟩
 have HS13:=hdI <| HS12.out.call b
 clear hk hv b HS12;go_wp2_with (first
  |(refine wpList_midP HS13.out rfl (.tmp 28) (.tmp 27) rfl 0 (by decide) rt rt y z t (over_x HS13.out.pt.x.1 HKrt.out.1.1) ⟨HKrt.out.1,HS13.out.pt.y,HS13.out.pt.z,HS13.out.pt.t⟩ rfl rfl HKrt.out.1 rfl ?_)
  |fail)
 intro w14 S;have HS14:=hdI <| S
 clear S HS13;go_wp2_with fail;refine(squared_any g 0 rt 1 _ (by decide) HS14.out.pt.ex).mono ?_;rintro e w15 ⟨sq,hk,hv,rfl,b⟩;have HKsq:Hid (EOk sq∧ev sq=sqN (ev rt) 1):=⟨hk,hv⟩
 have HS15:=hdI <| HS14.out.call b
 clear hk hv b HS14;go_wp2_with (first
  |(refine wpList_newP HS15.out rfl (.tmp 12) (.tmp 30) rfl sq rfl rfl HKsq.out.1 rfl ?_)
  |fail)
 intro w16 S;have HS16:=hdI <| S
 clear S HS15;generalize w15.heap.size=G16 at *;go_wp2_with fail;refine(times_any G16 0 g2 o2 sq vs _ (HS16.out.re 0 _ _ rfl) (HS16.out.el 1 _ _ _ rfl)).mono ?_;rintro e w17 ⟨rc,hk,hv,rfl,b⟩;have HKrc:Hid (EOk rc∧ev rc=ev sq*ev vs%fp):=⟨hk,hv⟩
 have HS17:=hdI <| HS16.out.call b
 clear hk hv b HS16;go_wp2_with (first
  |(refine wpList_newP HS17.out rfl (.tmp 13) (.tmp 32) rfl rc rfl rfl HKrc.out.1 rfl ?_)
  |fail)
 intro w18 S;have HS18:=hdI <| S
 clear S HS17;generalize w17.heap.size=G18 at *;have HRT:Hid (ev rt=rtF (ev us) (ev vs)):=by
  show _=_
  unfold rtF;rw[HKrt.out.2,HKpw.out.2,HKbs.out.2,HKst.out.2,HKf4.out.2,HKc2.out.2,HKc1.out.2]
 have HRC:Hid (ev rc=rcF (ev us) (ev vs)):=by
  show _=_
  unfold rcF;rw[HKrc.out.2,HKsq.out.2,HRT.out]
 clear HKpw HKbs HKst HKf4 HKc2 HKc1 HKsq HKrc;go_wp2_with fail;refine(equalsE_any G18 0 g1 o1 rc us _ (HS18.out.re 0 _ _ rfl) (HS18.out.el 0 _ _ _ rfl)).mono ?_;rintro e wq ⟨rfl,b⟩;have HSq:=hdI <| HS18.out.call b
 clear b HS18;by_cases hq:ev rc=ev us
 ·have HQ:=hdI <| hq
  rw[decide_eq_true hq];clear hq;go_wp2
  go_ret
  refine⟨rt,HKrt.out.1,?_,?_,HSq.out.pt,HSq.out.wrh⟩
  ·show _=Ending.returned (.bool (drR (ev us) (ev vs)))
   have:drR (ev us) (ev vs)=true:=by unfold drR;rw[←HRC.out,HQ.out];simp
   rw[this];rfl
  ·unfold drX;rw[←HRC.out,HQ.out,if_pos rfl];exact HRT.out
 ·have HQ:=hdI <| hq
  rw[decide_eq_false hq];clear hq;go_wp2_with fail;refine(negated_any g1 o1 us _ (HSq.out.el 0 _ _ _ rfl)).mono ?_;rintro e w19 ⟨op,hk,hv,rfl,b⟩;have HKop:Hid (EOk op∧ev op=(0-ev us)%fp):=⟨hk,hv⟩
  have HS19:=hdI <| HSq.out.call b
  clear hk hv b HSq;go_wp2_with (first
   |(refine wpList_newP HS19.out rfl (.tmp 14) (.tmp 36) rfl op rfl rfl HKop.out.1 rfl ?_)
   |fail)
  intro w20 S;have HS20:=hdI <| S
  clear S HS19;generalize w19.heap.size=G20 at *;go_wp2_with fail;refine(sm1_any _).mono ?_;rintro e w21 ⟨tn,hk,hv,rfl,b⟩;have HKtn:Hid (EOk tn∧ev tn=ev sm1L):=⟨hk,hv⟩
  have HS21:=hdI <| HS20.out.call b
  clear hk hv b HS20;go_wp2_with (first
   |(refine wpList_newP HS21.out rfl (.tmp 15) (.tmp 37) rfl tn rfl rfl HKtn.out.1 rfl ?_)
   |fail)
  intro w22 S;have HS22:=hdI <| S
  clear S HS21;generalize w21.heap.size=G22 at *;go_wp2_with fail;refine(times_any g 0 G22 0 rt tn _ HS22.out.pt.ex (HS22.out.re 0 _ _ rfl)).mono ?_;rintro e w23 ⟨xx,hk,hv,rfl,b⟩;have HKxx:Hid (EOk xx∧ev xx=ev rt*ev tn%fp):=⟨hk,hv⟩
  have HS23:=hdI <| HS22.out.call b
  clear hk hv b HS22;go_wp2_with (first
   |(refine wpList_midP HS23.out rfl (.tmp 41) (.tmp 40) rfl 0 (by decide) xx xx y z t (over_x HS23.out.pt.x.1 HKxx.out.1.1) ⟨HKxx.out.1,HS23.out.pt.y,HS23.out.pt.z,HS23.out.pt.t⟩ rfl rfl HKxx.out.1 rfl ?_)
   |fail)
  intro w24 S;have HS24:=hdI <| S
  clear S HS23;have HXX:Hid (ev xx=rtF (ev us) (ev vs)*ev sm1L%fp):=by
   show _=_
   rw[HKxx.out.2,HKtn.out.2,HRT.out]
  clear HKtn;go_wp2_with fail;refine(equalsE_any G18 0 G20 0 rc op _ (HS24.out.re 2 _ _ rfl) (HS24.out.re 1 _ _ rfl)).mono ?_;rintro e wz ⟨rfl,b⟩;have HSz:Hid (RunP w wz g xx y z t [(G22,tn),(G20,op),(G18,rc),(G16,sq),(G12,pw),(G10,bs),(G8,f4),(G6,st),(G2,c2)] [(g1,o1,us),(g2,o2,vs)]):=HS24.out.call b;clear b HS24;have HD:Hid (decide (ev rc=ev op)=drR (ev us) (ev vs)):=by
   show _=_
   unfold drR;rw[←HRC.out,HKop.out.2];simp[HQ.out]
  rw[HD.out];clear HD;go_wp2
  go_ret
  refine⟨xx,HKxx.out.1,rfl,?_,HSz.out.pt,HSz.out.wrh⟩;unfold drX;rw[←HRC.out,if_neg HQ.out];exact HXX.out
set_option maxHeartbeats 4000000 in
theorem findX_any (g:Nat) (x y z t:List Int) (w:World) (hp:Pt w g x y z t) :
  Calls Tryz.prog 124 #[.pointer (some ⟨g,0,none⟩)] w (DP w g y z t (uF (ev y)) (vF (ev y))):=by
 have HS0:Hid (RunP w w g x y z t [] []):=RunP.start hp _ (fun e he=>by simp at he);clear hp;go_enter Tryz.func124,Tryz.ntmps124;go_wp2_with (first
  |(refine wpList_newP HS0.out rfl (.tmp 3) (.tmp 8) rfl oneL rfl rfl one_ok rfl ?_)
  |fail)
 intro w1 S;have HS1:=hdI <| S
 clear S HS0;generalize w.heap.size=G1 at *;go_wp2_with fail;refine(curveD_any _).mono ?_;rintro e w2 ⟨dd,hk,hv,rfl,b⟩;have HKdd:Hid (EOk dd∧ev dd=ev curveDL):=⟨hk,hv⟩
 have HS2:=hdI <| HS1.out.call b
 clear hk hv b HS1;go_wp2_with (first
  |(refine wpList_newP HS2.out rfl (.tmp 4) (.tmp 9) rfl dd rfl rfl HKdd.out.1 rfl ?_)
  |fail)
 intro w3 S;have HS3:=hdI <| S
 clear S HS2;generalize w2.heap.size=G3 at *;go_wp2_with fail;refine(squared_any g 5 y 1 _ (by decide) HS3.out.pt.ey).mono ?_;rintro e w4 ⟨sq,hk,hv,rfl,b⟩;have HKsq:Hid (EOk sq∧ev sq=sqN (ev y) 1):=⟨hk,hv⟩
 have HS4:=hdI <| HS3.out.call b
 clear hk hv b HS3;go_wp2_with (first
  |(refine wpList_newP HS4.out rfl (.tmp 5) (.tmp 13) rfl sq rfl rfl HKsq.out.1 rfl ?_)
  |fail)
 intro w5 S;have HS5:=hdI <| S
 clear S HS4;generalize w4.heap.size=G5 at *;go_wp2_with fail;refine(minus_any G5 0 G1 0 sq oneL _ (HS5.out.re 0 _ _ rfl) (HS5.out.re 2 _ _ rfl)).mono ?_;rintro e w6 ⟨ov,hk,hv,rfl,b⟩;have HKov:Hid (EOk ov∧ev ov=(ev sq-ev oneL)%fp):=⟨hk,hv⟩
 have HS6:=hdI <| HS5.out.call b
 clear hk hv b HS5;go_wp2_with (first
  |(refine wpList_newP HS6.out rfl (.tmp 6) (.tmp 14) rfl ov rfl rfl HKov.out.1 rfl ?_)
  |fail)
 intro w7 S;have HS7:=hdI <| S
 clear S HS6;generalize w6.heap.size=G7 at *;go_wp2_with fail;refine(times_any G5 0 G3 0 sq dd _ (HS7.out.re 1 _ _ rfl) (HS7.out.re 2 _ _ rfl)).mono ?_;rintro e w8 ⟨ua,hk,hv,rfl,b⟩;have HKua:Hid (EOk ua∧ev ua=ev sq*ev dd%fp):=⟨hk,hv⟩
 have HS8:=hdI <| HS7.out.call b
 clear hk hv b HS7;go_wp2_with (first
  |(refine wpList_newP HS8.out rfl (.tmp 7) (.tmp 15) rfl ua rfl rfl HKua.out.1 rfl ?_)
  |fail)
 intro w9 S;have HS9:=hdI <| S
 clear S HS8;generalize w8.heap.size=G9 at *;go_wp2_with fail;refine(plus_any G9 0 G1 0 ua oneL _ (HS9.out.re 0 _ _ rfl) (HS9.out.re 4 _ _ rfl)).mono ?_;rintro e w10 ⟨un,hk,hv,rfl,b⟩;have HKun:Hid (EOk un∧ev un=(ev ua+ev oneL)%fp):=⟨hk,hv⟩
 have HS10:=hdI <| HS9.out.call b
 clear hk hv b HS9;go_wp2_with (first
  |(refine wpList_rowP HS10.out rfl (.tmp 7) (.tmp 16) rfl 0 G9 ua un rfl rfl rfl HKun.out.1 rfl ?_)
  |fail)
 intro w11 S;have HS11:Hid (RunP w w11 g x y z t [(G9,un),(G7,ov),(G5,sq),(G3,dd),(G1,oneL)] []):=S;clear S HS10;have HUF:Hid (ev ov=uF (ev y)):=by
  show _=_
  unfold uF;rw[HKov.out.2,HKsq.out.2]
 have HVF:Hid (ev un=vF (ev y)):=by
  show _=_
  unfold vF;rw[HKun.out.2,HKua.out.2,HKsq.out.2,HKdd.out.2]
 have hlt:=HS11.out.lt;have hn1:=(HS11.out.rows _ (List.mem_of_getElem? (i:=1) rfl)).1;have hn2:=(HS11.out.rows _ (List.mem_of_getElem? (i:=0) rfl)).1;dsimp only at hn1 hn2;clear HKov HKsq HKun HKua HKdd;go_wp2_with fail;refine(divideRoot_any g x y z t G7 0 G9 0 ov un _ HS11.out.pt (HS11.out.re 1 _ _ rfl) (HS11.out.re 0 _ _ rfl) (by omega) (by omega)).mono ?_;rintro e wd ⟨xs,hk,rfl,hx,hp,hw⟩;rw[HUF.out,HVF.out] at hx ⊢;have HX:Hid (EOk xs∧ev xs=drX (uF (ev y)) (vF (ev y))∧Pt wd g xs y z t∧WrH g w wd):=⟨hk,hx,hp,HS11.out.wrh.trans hw⟩
 clear hk hx hp hw HUF HVF hlt hn1 hn2 HS11;go_wp2
 go_ret
 exact⟨xs,HX.out.1,rfl,HX.out.2.1,HX.out.2.2.1,HX.out.2.2.2⟩
theorem lm1 (a b:Int) (ha:0≤a) (ha':a<18446744073709551616) (hb:0≤b) (hb':b<18446744073709551616) :
  bits .and .u64 (bits .or .u64 (a/2251799813685248) (IntKind.u64.wrap (b*8192))) 2251799813685247=(a/2251799813685248+b%2251799813685248*8192)%2251799813685248:=by
 have e:IntKind.u64.wrap (b*8192)=b%2251799813685248*8192:=by rw[IntKind.wrap_u64];omega
 rw[e,u64_or_add' (b%2251799813685248*8192) (a/2251799813685248) 13 (by omega) (by omega) (by omega) (by rw[show(2:Int)^13=8192 from by decide];omega) (by omega) (b%2251799813685248) (by rw[show(2:Int)^13=8192 from by decide])];exact u64_and_mask _ 51 (by omega) (by omega) _ (by decide) (by decide)
theorem lm2 (a b:Int) (ha:0≤a) (ha':a<18446744073709551616) (hb:0≤b) (hb':b<18446744073709551616) :
  bits .and .u64 (bits .or .u64 (a/274877906944) (IntKind.u64.wrap (b*67108864))) 2251799813685247=(a/274877906944+b%274877906944*67108864)%2251799813685248:=by
 have e:IntKind.u64.wrap (b*67108864)=b%274877906944*67108864:=by rw[IntKind.wrap_u64];omega
 rw[e,u64_or_add' (b%274877906944*67108864) (a/274877906944) 26 (by omega) (by omega) (by omega) (by rw[show(2:Int)^26=67108864 from by decide];omega) (by omega) (b%274877906944) (by rw[show(2:Int)^26=67108864 from by decide])];exact u64_and_mask _ 51 (by omega) (by omega) _ (by decide) (by decide)
theorem lm3 (a b:Int) (ha:0≤a) (ha':a<18446744073709551616) (hb:0≤b) (hb':b<18446744073709551616) :
  bits .and .u64 (bits .or .u64 (a/33554432) (IntKind.u64.wrap (b*549755813888))) 2251799813685247=(a/33554432+b%33554432*549755813888)%2251799813685248:=by
 have e:IntKind.u64.wrap (b*549755813888)=b%33554432*549755813888:=by rw[IntKind.wrap_u64];omega
 rw[e,u64_or_add' (b%33554432*549755813888) (a/33554432) 39 (by omega) (by omega) (by omega) (by rw[show(2:Int)^39=549755813888 from by decide];omega) (by omega) (b%33554432) (by rw[show(2:Int)^39=549755813888 from by decide])];exact u64_and_mask _ 51 (by omega) (by omega) _ (by decide) (by decide)
def lmb (a b c d:Int):List Int:=[a%2251799813685248,(a/2251799813685248+b%2251799813685248*8192)%2251799813685248,(b/274877906944+c%274877906944*67108864)%2251799813685248,(c/33554432+d%33554432*549755813888)%2251799813685248,d/4096%2251799813685248]
theorem lmb_ok (a b c d:Int):EOk (lmb a b c d):=ok5 _ _ _ _ _ (by omega) (by omega) (by omega) (by omega) (by omega)
theorem lmb_dig (a b c d:Int):Dig B51 (lmb a b c d):=by
 intro z hz;unfold B51;simp only[lmb,List.mem_cons,List.not_mem_nil,or_false] at hz;rcases hz with rfl|rfl|rfl|rfl|rfl<;>omega
theorem lmb_val (a b c d:Int) (ha:0≤a) (ha':a<18446744073709551616) (hb:0≤b) (hb':b<18446744073709551616) (hc:0≤c) (hc':c<18446744073709551616) (hd:0≤d) (hd':d<18446744073709551616) :
  val B51 (lmb a b c d)=val 18446744073709551616 [a,b,c,d]%(fp+19):=by
 simp only[lmb,val,B51,fp_lit];omega
theorem lmb_least (a b c d:Int):lsE (lmb a b c d)=lmb a b c d↔val B51 (lmb a b c d)<fp:=by
 have h:=lsE_all (lmb_ok a b c d);have hb:=ev_bd (lmb a b c d);constructor
 ·intro e;have e2:=h.2.2;rw[e] at e2;rw[e2];exact hb.2
 ·intro e;refine val_inj (B:=B51) (by decide) (sst_dig _) (lmb_dig _ _ _ _) (by rw[lsE_len];rfl) ?_;rw[h.2.2];exact Int.emod_eq_of_lt (val_nonneg (by decide) (lmb_dig _ _ _ _)) e
set_option maxHeartbeats 1000000 in
theorem elementOf_any (a b c d:Int) (w:World) (ha:0≤a) (ha':a<18446744073709551616) (hb:0≤b) (hb':b<18446744073709551616) (hc:0≤c) (hc':c<18446744073709551616) (hd:0≤d) (hd':d<18446744073709551616) :
  Calls Tryz.prog 122 #[.agg #[.int .u64 a,.int .u64 b,.int .u64 c,.int .u64 d]] w fun e w'=>e=.returned (.agg ((lmb a b c d).map (Value.int .u64)).toArray)∧Below w.heap.size w w':=by
 have l0:bits .and .u64 a 2251799813685247=a%2251799813685248:=u64_and_mask _ 51 (by omega) (by omega) _ (by decide) (by decide);have l1:=lm1 a b ha ha' hb hb';have l2:=lm2 b c hb hb' hc hc';have l3:=lm3 c d hc hc' hd hd';have l4:bits .and .u64 (d/4096) 2251799813685247=d/4096%2251799813685248:=u64_and_mask _ 51 (by omega) (by omega) _ (by decide) (by decide);have H0:Hid (bits .and .u64 a 2251799813685247=a%2251799813685248∧bits .and .u64 (bits .or .u64 (a/2251799813685248) (IntKind.u64.wrap (b*8192))) 2251799813685247=(a/2251799813685248+b%2251799813685248*8192)%2251799813685248∧bits .and .u64 (bits .or .u64 (b/274877906944) (IntKind.u64.wrap (c*67108864))) 2251799813685247=(b/274877906944+c%274877906944*67108864)%2251799813685248∧bits .and .u64 (bits .or .u64 (c/33554432) (IntKind.u64.wrap (d*549755813888))) 2251799813685247=(c/33554432+d%33554432*549755813888)%2251799813685248∧bits .and .u64 (d/4096) 2251799813685247=d/4096%2251799813685248):=⟨l0,l1,l2,l3,l4⟩
 clear l0 l1 l2 l3 l4;go_enter Tryz.func122,Tryz.ntmps122;go_wp2_with fail;obtain⟨l0,l1,l2,l3,l4⟩:=H0.out;rw[l0,l1,l2,l3,l4];exact bodyPost_ret (v:=.agg ((lmb a b c d).map (Value.int .u64)).toArray) (resE rfl _ _ (w.heap.size+1) (lmb a b c d) rfl rfl (heap_alloc2_new _ _ _)) rfl ⟨rfl,((Below.refl _ _).alloc (Nat.le_refl _) _).alloc (by simp) _⟩
set_option maxHeartbeats 1000000 in
theorem bit255_any (g:Nat) (ns:List Int) (w:World) (hl:ns.length=4) (hr:RowW w g 146 ns) (hw:Wrd ns) :
  Calls Tryz.prog 121 #[.pointer (some ⟨g,0,none⟩),.int .i64 255] w fun e w'=>e=.returned (.int .u64 (ns.getD 3 0/9223372036854775808))∧w'=w:=by
 have c3:=hr.cell 3 (by omega);obtain⟨h0,h1⟩:=hw.get 3;have HA:Hid (bits .and .u64 (ns.getD 3 0/9223372036854775808) 1=ns.getD 3 0/9223372036854775808):=by
  show _=_
  rw[u64_and_mask _ 1 (by omega) (by omega) 1 (by decide) (by decide)];omega
 clear hr hw hl;generalize ns.getD 3 0=x at *;go_enter Tryz.func121,Tryz.ntmps121;go_wp2;rw[HA.out]
 go_ret
 exact⟨rfl,rfl⟩
def okI (xs:List Int) (i:Nat):Prop:=0≤xs.getD i 0∧xs.getD i 0<256∧(0<i→xs.getD (i-1) 0<xs.getD i 0)
def SerP (xs:List Int):Prop:=∀ i,i<xs.length→okI xs i
open Classical in
noncomputable def serB (xs:List Int):Bool:=decide (SerP xs)
theorem serB_iff (xs:List Int):serB xs=true↔SerP xs:=by unfold serB;simp
theorem serB_no {xs:List Int} (h:¬ SerP xs):serB xs=false:=by unfold serB;simp[h]
theorem serB_yes {xs:List Int} (h:SerP xs):serB xs=true:=by unfold serB;simp[h]
theorem results_ct {fn:Func} {p u:Tmp} (h:fn.results=#[.cell p 59,.tmp u]) (tmps:Array Value) (w:World) (g:Nat) (cs:Array Value) (v:Value) (hv:tmps.getD u undef=v)
  (hp:tmps.getD p undef=.pointer (some ⟨g,0,none⟩)) (hr:w.heap[g]?=some (.cells cs 59 (0,0))) (hs:(Tryz.prog.info? 59).map (·.size)=some cs.size) :
  (results fn tmps).run Tryz.prog w=.ok (.tuple #[.agg cs,v]) w:=by
 have hp':tmps[p]?.getD undef=.pointer (some ⟨g,0,none⟩):=by simpa using hp
 have hv':tmps[u]?.getD undef=v:=by simpa using hv
 have hl:=run_loadVar_row (P:=Tryz.prog) w g 59 59 cs (0,0) _ hr Tryz.underlying59 rfl hs;simp[results,h,hp',hv',asAddr,hl]
def z32:List Int:=[0,0,0,0,0,0,0,0,0,0,0,0,0,0,0,0,0,0,0,0,0,0,0,0,0,0,0,0,0,0,0,0]
theorem z32_set:SetB z32 (fun _=>False):=by
 refine⟨rfl,by unfold Byte z32;decide,fun v hv=>⟨fun h=>?_,fun h=>h.elim⟩⟩;have e:z32.getD (v/8) 0=0:=by
  have:v/8<32:=by omega
  generalize v/8=q at *;have hq:∀ q,q<32→z32.getD q 0=0:=by decide
  exact hq q this
 rw[e] at h;simp at h
theorem SetB.congr {bs:List Int} {P Q:Nat→Prop} (h:SetB bs P) (hq:∀ v,v<256→(P v↔Q v)):SetB bs Q:=⟨h.1,h.2.1,fun v hv=>(h.2.2 v hv).trans (hq v hv)⟩
theorem Row.bat {w:World} {g:Nat} {t:TypeId} {bs:List Int} (h:Row w g t bs) (hl:bs.length=32) (hb:Byte bs):BAt w g 0 bs:=⟨hl,hb,fun i hi=>by rw[Nat.zero_add];exact⟨h.cell i (by omega),h.frozen i⟩⟩
theorem Tryz.sizeSS:(Tryz.prog.info? 59).map (·.size)=some 32:=by kernel_rfl
structure SOS (w:World) (xs:List Int) (k:Nat) (wr:World):Prop where
 below:Below w.heap.size w wr
 res:Row wr w.heap.size 59 z32
 set:∃ bs,Row wr (w.heap.size+1) 59 bs∧SetB bs (fun v=>(v:Int)∈xs.take k)
 ok:∀ i,i<k→okI xs i
def lastOf (xs:List Int) (k:Nat):Int:=if k=0 then -1 else xs.getD (k-1) 0
def SoP (w:World) (xs:List Int) (e:Ending) (w':World):Prop:=
 ∃ bs,e=.returned (.tuple #[.agg (bs.map (Value.int .u8)).toArray,.bool (serB xs)])∧bs.length=32∧Byte bs∧(SerP xs→SetB bs (fun v=>(v:Int)∈xs))∧Below w.heap.size w w'
set_option maxRecDepth 100000 in
set_option maxHeartbeats 4000000 in
theorem setOf_any (a:Option Addr) (n cap:Nat) (xs:List Int) (w:World) (hn:xs.length=n) (hm:n≤1048576) (ha:At .i64 w a xs) :
  Calls Tryz.prog 43 #[.slice a n cap] w (SoP w xs):=by
 have HS:Hid (SOS w xs 0 ((w.alloc (.cells #[.int .u8 0,.int .u8 0,.int .u8 0,.int .u8 0,.int .u8 0,.int .u8 0,.int .u8 0,.int .u8 0,.int .u8 0,.int .u8 0,.int .u8 0,.int .u8 0,.int .u8 0,.int .u8 0,.int .u8 0,.int .u8 0,.int .u8 0,.int .u8 0,.int .u8 0,.int .u8 0,.int .u8 0,.int .u8 0,.int .u8 0,.int .u8 0,.int .u8 0,.int .u8 0,.int .u8 0,.int .u8 0,.int .u8 0,.int .u8 0,.int .u8 0,.int .u8 0] 59)).alloc (.cells #[.int .u8 0,.int .u8 0,.int .u8 0,.int .u8 0,.int .u8 0,.int .u8 0,.int .u8 0,.int .u8 0,.int .u8 0,.int .u8 0,.int .u8 0,.int .u8 0,.int .u8 0,.int .u8 0,.int .u8 0,.int .u8 0,.int .u8 0,.int .u8 0,.int .u8 0,.int .u8 0,.int .u8 0,.int .u8 0,.int .u8 0,.int .u8 0,.int .u8 0,.int .u8 0,.int .u8 0,.int .u8 0,.int .u8 0,.int .u8 0,.int .u8 0,.int .u8 0] 59))):=by
  have bb:Below w.heap.size w ((w.alloc (.cells #[.int .u8 0,.int .u8 0,.int .u8 0,.int .u8 0,.int .u8 0,.int .u8 0,.int .u8 0,.int .u8 0,.int .u8 0,.int .u8 0,.int .u8 0,.int .u8 0,.int .u8 0,.int .u8 0,.int .u8 0,.int .u8 0,.int .u8 0,.int .u8 0,.int .u8 0,.int .u8 0,.int .u8 0,.int .u8 0,.int .u8 0,.int .u8 0,.int .u8 0,.int .u8 0,.int .u8 0,.int .u8 0,.int .u8 0,.int .u8 0,.int .u8 0,.int .u8 0] 59)).alloc (.cells #[.int .u8 0,.int .u8 0,.int .u8 0,.int .u8 0,.int .u8 0,.int .u8 0,.int .u8 0,.int .u8 0,.int .u8 0,.int .u8 0,.int .u8 0,.int .u8 0,.int .u8 0,.int .u8 0,.int .u8 0,.int .u8 0,.int .u8 0,.int .u8 0,.int .u8 0,.int .u8 0,.int .u8 0,.int .u8 0,.int .u8 0,.int .u8 0,.int .u8 0,.int .u8 0,.int .u8 0,.int .u8 0,.int .u8 0,.int .u8 0,.int .u8 0,.int .u8 0] 59)):=((Below.refl _ _).alloc (Nat.le_refl _) _).alloc (by simp) _;refine⟨bb,?_,⟨z32,?_,z32_set.congr (fun v _=>by simp)⟩,fun i hi=>by omega⟩
  ·show _=_
   rw[Below.heap_alloc _ _ w.heap.size (by simp)];exact heap_alloc_new w _
  ·show _=_
   have:=heap_alloc_new (w.alloc (.cells #[.int .u8 0,.int .u8 0,.int .u8 0,.int .u8 0,.int .u8 0,.int .u8 0,.int .u8 0,.int .u8 0,.int .u8 0,.int .u8 0,.int .u8 0,.int .u8 0,.int .u8 0,.int .u8 0,.int .u8 0,.int .u8 0,.int .u8 0,.int .u8 0,.int .u8 0,.int .u8 0,.int .u8 0,.int .u8 0,.int .u8 0,.int .u8 0,.int .u8 0,.int .u8 0,.int .u8 0,.int .u8 0,.int .u8 0,.int .u8 0,.int .u8 0,.int .u8 0] 59)) (.cells #[.int .u8 0,.int .u8 0,.int .u8 0,.int .u8 0,.int .u8 0,.int .u8 0,.int .u8 0,.int .u8 0,.int .u8 0,.int .u8 0,.int .u8 0,.int .u8 0,.int .u8 0,.int .u8 0,.int .u8 0,.int .u8 0,.int .u8 0,.int .u8 0,.int .u8 0,.int .u8 0,.int .u8 0,.int .u8 0,.int .u8 0,.int .u8 0,.int .u8 0,.int .u8 0,.int .u8 0,.int .u8 0,.int .u8 0,.int .u8 0,.int .u8 0,.int .u8 0] 59)
   rwa [show(w.alloc (.cells #[.int .u8 0,.int .u8 0,.int .u8 0,.int .u8 0,.int .u8 0,.int .u8 0,.int .u8 0,.int .u8 0,.int .u8 0,.int .u8 0,.int .u8 0,.int .u8 0,.int .u8 0,.int .u8 0,.int .u8 0,.int .u8 0,.int .u8 0,.int .u8 0,.int .u8 0,.int .u8 0,.int .u8 0,.int .u8 0,.int .u8 0,.int .u8 0,.int .u8 0,.int .u8 0,.int .u8 0,.int .u8 0,.int .u8 0,.int .u8 0,.int .u8 0,.int .u8 0] 59)).heap.size=w.heap.size+1 by simp] at this
 have HA:=hdI <| ha
 have HNX:=hdI <| hn
 clear ha hn;go_enter Tryz.func43,Tryz.ntmps43;go_wp2_with fail;generalize ((w.alloc (.cells #[.int .u8 0,.int .u8 0,.int .u8 0,.int .u8 0,.int .u8 0,.int .u8 0,.int .u8 0,.int .u8 0,.int .u8 0,.int .u8 0,.int .u8 0,.int .u8 0,.int .u8 0,.int .u8 0,.int .u8 0,.int .u8 0,.int .u8 0,.int .u8 0,.int .u8 0,.int .u8 0,.int .u8 0,.int .u8 0,.int .u8 0,.int .u8 0,.int .u8 0,.int .u8 0,.int .u8 0,.int .u8 0,.int .u8 0,.int .u8 0,.int .u8 0,.int .u8 0] 59)).alloc (.cells #[.int .u8 0,.int .u8 0,.int .u8 0,.int .u8 0,.int .u8 0,.int .u8 0,.int .u8 0,.int .u8 0,.int .u8 0,.int .u8 0,.int .u8 0,.int .u8 0,.int .u8 0,.int .u8 0,.int .u8 0,.int .u8 0,.int .u8 0,.int .u8 0,.int .u8 0,.int .u8 0,.int .u8 0,.int .u8 0,.int .u8 0,.int .u8 0,.int .u8 0,.int .u8 0,.int .u8 0,.int .u8 0,.int .u8 0,.int .u8 0,.int .u8 0,.int .u8 0] 59))=w0 at *
 go_loopw [5,10] (fun l i wr=>∃ k:Nat,k≤n∧i=.int .i64 k∧l=.int .i64 (lastOf xs k)∧SOS w xs k wr) (fun _ i _=>n-(intOf i).toNat)
 case atStart=>exact⟨0,Nat.zero_le _,rfl,rfl,HS.out⟩
 case round=>
  clear HS;obtain⟨k,hk,rfl,rfl,hst⟩:=hrel;by_cases hlt:k<n
  ·have hlt':(k:Int)<n:=by omega
   obtain⟨b,off,ea,hb,hc⟩:=(HA.out.below hst.below).get (by have:=HNX.out;omega);have hck:=hc k (by have:=HNX.out;omega);have HST:=hdI <| hst
   have HEA:=hdI <| ea
   subst ea;clear hst hc hb;by_cases hle:xs.getD k 0≤lastOf xs k
   ·have HNO:Hid (¬ SerP xs):=fun h=>by
     have q:=h k (by have:=HNX.out;omega);unfold lastOf at hle;by_cases h0:k=0
     ·rw[if_pos h0] at hle;have:=q.1;omega
     ·rw[if_neg h0] at hle;have:=q.2.2 (by omega);omega
    have HR:=hdI <| HST.out.res
    generalize xs.getD k 0=v at *;generalize lastOf xs k=l at *;go_wp2_with (first
     |(refine wpList_store_row rfl 59 (.tmp 2) (.tmp 22) rfl w.heap.size ((z32.map (Value.int .u8)).toArray) rfl rfl 59 _ HR.out Tryz.sizeSS rfl (all_oneCell_toArray (ints_oneCell _ _)) ?_)
     |fail)
    refine bodyPost_ret (v:=.tuple #[.agg (z32.map (Value.int .u8)).toArray,.bool false]) (results_ct rfl _ _ w.heap.size _ _ rfl rfl (setRow_heap _ _ _ _ _ _ HR.out) Tryz.sizeSS) rfl ?_;exact⟨z32,by rw[serB_no HNO.out],rfl,z32_set.2.1,fun h=>absurd h HNO.out,HST.out.below.trans ((Wr.setRow _ _ _).below (Nat.le_refl _))⟩
   ·by_cases hso:0≤xs.getD k 0∧xs.getD k 0<256
    ·obtain⟨v,hv⟩:=Int.eq_ofNat_of_zero_le hso.1;have hv256:v<256:=by omega
     have HSO:Hid (serOk (v:Int)=true):=decide_eq_true ⟨by omega,by omega⟩;obtain⟨bs,hrow,hset⟩:=HST.out.set;have HBT:Hid (BAt wr (w.heap.size+1) 0 bs):=hrow.bat hset.1 hset.2.1;have HN:∀ q,Hid (SOS w xs (k+1) ((wr.setCell ⟨w.heap.size+1,0+v/8,none⟩ (.int .u8 ((addB bs v).getD (v/8) 0))).drewN q)):=fun q=>by
      have hr2:=hrow.set (v/8) ((addB bs v).getD (v/8) 0);have e2:bs.set (v/8) ((addB bs v).getD (v/8) 0)=addB bs v:=by
       unfold addB;rw[getD_set8 _ _ _ _ (by have:=hset.1;omega),if_pos rfl]
      rw[e2] at hr2;have hw:Wr (w.heap.size+1) wr (wr.setCell ⟨w.heap.size+1,v/8,none⟩ (.int .u8 ((addB bs v).getD (v/8) 0))):=(Wr.refl _ _).setCell _ _;rw[Nat.zero_add];refine⟨?_,?_,⟨addB bs v,hr2,(hset.add v hv256).congr (fun u hu=>?_)⟩,fun i hi=>?_⟩
      ·have bq:=HST.out.below.trans (hw.below (by omega));exact⟨bq.os,bq.tape,bq.output,bq.size,bq.block⟩
      ·have:=HST.out.res;show _=_
       exact(hw.block _ (by omega)).trans this
      ·rw[take_snoc xs k (by have:=HNX.out;omega),List.mem_append,hv];simp only[List.mem_cons,List.not_mem_nil,or_false];constructor
       ·rintro (h|h)
        ·exact .inl h
        ·exact .inr (by omega)
       ·rintro (h|h)
        ·exact .inl h
        ·exact .inr (by omega)
      ·by_cases hik:i<k
       ·exact HST.out.ok i hik
       ·have:i=k:=by omega
        subst this;refine⟨hso.1,hso.2,fun h0=>?_⟩;unfold lastOf at hle;rw[if_neg (by omega)] at hle;omega
     have HL:Hid (lastOf xs (k+1)=(v:Int)):=by show _=_;unfold lastOf;rw[if_neg (by omega),Nat.add_sub_cancel];exact hv
     rw[hv] at hck hle;clear hso hrow hset hv;generalize lastOf xs k=l at *;go_wp2_with fail;refine(isSerial_any _ _).mono ?_;rintro e w1 ⟨rfl,rfl⟩;rw[HSO.out];go_wp2_with fail;refine(addS_any (w.heap.size+1) 0 v bs _ hv256 HBT.out).mono ?_;rintro e w2 ⟨rfl,q,rfl⟩;have H2:=HN q;clear HN HBT HST;generalize (w1.setCell ⟨w.heap.size+1,0+v/8,none⟩ (.int .u8 ((addB bs v).getD (v/8) 0))).drewN q=w2 at *;go_wp2;go_roundw
     case rel=>exact⟨k+1,by omega,by go_num,by rw[HL.out],H2.out⟩
     case measure=>simp[intOf];omega
    ·have HSO:Hid (serOk (xs.getD k 0)=false):=decide_eq_false hso;have HNO:Hid (¬ SerP xs):=fun h=>hso ⟨(h k (by have:=HNX.out;omega)).1,(h k (by have:=HNX.out;omega)).2.1⟩
     have HR:Hid (wr.heap[w.heap.size]?=some (.cells (z32.map (Value.int .u8)).toArray 59 (0,0))):=HST.out.res;clear hso;generalize xs.getD k 0=v at *;generalize lastOf xs k=l at *;go_wp2_with fail;refine(isSerial_any _ _).mono ?_;rintro e w1 ⟨rfl,rfl⟩;rw[HSO.out];go_wp2_with (first
      |(refine wpList_store_row rfl 59 (.tmp 2) (.tmp 22) rfl w.heap.size ((z32.map (Value.int .u8)).toArray) rfl rfl 59 _ HR.out Tryz.sizeSS rfl (all_oneCell_toArray (ints_oneCell _ _)) ?_)
      |fail)
     refine bodyPost_ret (v:=.tuple #[.agg (z32.map (Value.int .u8)).toArray,.bool false]) (results_ct rfl _ _ w.heap.size _ _ rfl rfl (setRow_heap _ _ _ _ _ _ HR.out) Tryz.sizeSS) rfl ?_;exact⟨z32,by rw[serB_no HNO.out],rfl,z32_set.2.1,fun h=>absurd h HNO.out,HST.out.below.trans ((Wr.setRow _ _ _).below (Nat.le_refl _))⟩
  ·have hkn:k=n:=by omega
   have hlt':¬ ((k:Int)<n):=by omega
   obtain⟨bs,hrow,hset⟩:=hst.set;have HYE:Hid (SerP xs):=fun i hi=>hst.ok i (by have:=HNX.out;omega)
   have HBS:Hid (bs.length=32∧Byte bs∧SetB bs (fun v=>(v:Int)∈xs)):=⟨hset.1,hset.2.1,hset.congr (fun v _=>by rw[List.take_of_length_le (by have:=HNX.out;omega)])⟩
   have HR:=hdI <| hst.res
   have HL:=hdI <| hrow
   have HSZ:Hid ((Tryz.prog.info? 59).map (·.size)=some ((bs.map (Value.int .u8)).toArray).size):=by show _=_;rw[Tryz.sizeSS];simp[hset.1]
   have HEQ:Hid (((z32.map (Value.int .u8)).toArray).size=((bs.map (Value.int .u8)).toArray).size):=by show _=_;simp[hset.1,z32]
   have HBW:=hdI <| hst.below
   clear hst hrow hset;generalize lastOf xs k=l at *;go_wp2_with (first
    |(refine wpList_load_row rfl 59 (.tmp 4) rfl (w.heap.size+1) rfl 59 _ (0,0) _ HL.out Tryz.underlying59 rfl HSZ.out ?_)
    |(refine wpList_store_row rfl 59 (.tmp 2) (.tmp 27) rfl w.heap.size ((bs.map (Value.int .u8)).toArray) rfl rfl 59 _ HR.out HSZ.out HEQ.out (all_oneCell_toArray (ints_oneCell _ _)) ?_)
    |fail)
   refine bodyPost_ret (v:=.tuple #[.agg (bs.map (Value.int .u8)).toArray,.bool true]) (results_ct rfl _ _ w.heap.size _ _ rfl rfl (setRow_heap _ _ _ _ _ _ HR.out) HSZ.out) rfl ?_;exact⟨bs,by rw[serB_yes HYE.out],HBS.out.1,HBS.out.2.1,fun _=>HBS.out.2.2,HBW.out.trans ((Wr.setRow _ _ _).below (Nat.le_refl _))⟩
end Go.Proofs.YtncomnkdlpoelaaGreatDoor
