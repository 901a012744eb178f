import Derived.Test.YtilpkdnoaldfmaaGreatDoorMLlA
import Derived.Test.YtilpkdnoaldfmaaGreatDoorMIDec
import Derived.Test.YtilpkdnoaldfmaaGreatDoorMLdM
import Derived.Test.YtilpkdnoaldfmaaGreatDoorMSvQ
import Derived.Test.YtilpkdnoaldfmaaGreatDoorMSwA
import Derived.Deep.Cut
import Derived.Test.YtilpkdnoaldfmaaGreatDoorMRows8
namespace Go.Proofs.YtilpkdnoaldfmaaGreatDoor
open Go.ChangeShapes Go.WideShapes Go.ChangeAt Go.RowKit
set_option linter.unusedVariables false
structure DB (D g L gc B:Nat) (zs:List Int) (w:World):Prop where
 row:w.heap[D]?=some (.cells #[.slice (some ⟨g,0,none⟩) L gc,.slice none 0 0,.int .i64 (-1),.bool false] 27 (0,0))
 own:Own w B (.slice (some ⟨g,0,none⟩) L gc) zs
theorem DB.lt {D g L gc B:Nat} {zs:List Int} {w:World} (h:DB D g L gc B zs w):D<w.heap.size∧g<w.heap.size:=by
 refine⟨(Array.getElem?_eq_some_iff.1 h.row).1,?_⟩;obtain⟨g',c,e,_,q,_⟩:=h.own.at_;cases e;exact q
theorem DB.below {D g L gc B:Nat} {zs:List Int} {w w':World} (h:DB D g L gc B zs w) (b:Below w.heap.size w w'):DB D g L gc B zs w':=⟨by rw[b.block D h.lt.1];exact h.row,h.own.grow b⟩
theorem wr1 (D g L gc B s:Nat) (z zs:List Int) (w:World) (h:DB D g L gc B zs w) (hDg:D≠g) (hL:zs.length=L) (hz:L≤1048576) (v1:L%64=0) (hz64:z.length=64) (hs:s<L/64) (si:Int) (hsi:si=(s:Int)) :
  Calls Tryz.prog 27 #[.pointer (some ⟨D,0,none⟩),.int .i64 si,.agg (z.map (Value.int .u8)).toArray] w fun e w'=>e=.returned (.tuple #[])∧Calls Tryz.prog 28 #[.pointer (some ⟨D,0,none⟩)] w' fun e2 w''=>e2=.returned (.tuple #[])∧DB D g L gc B (overL zs s z) w''∧YR D g w w'':=by
 subst hsi;have hlt:=h.lt;refine(write_yes D w.heap.size (.slice (some ⟨g,0,none⟩) L gc) (.slice none 0 0) [] (-1) s z w h.row (POwn.nil _ _) (Nat.le_refl _) hz64 (.inl rfl) (by decide) (by simp)).mono ?_;rintro e w' ⟨rfl,cv',q,e1,e2,hD,hP,hW⟩;refine⟨rfl,?_⟩;obtain⟨ca,cc,rfl,hPM⟩:=hP.mine;have hq:qps ([]++[q])=[((s:Int),z)]:=by simp[qps,e1,e2]
 rw[hq] at hPM;have hO:Own w' B (.slice (some ⟨g,0,none⟩) L gc) zs:=h.own.keep (fun k hk=>by
  simp[Value.ownBlock] at hk;subst hk;exact hW.block g hlt.2 (fun e=>hDg e.symm) (by simp[Value.ownBlock]))
 have hok:PsOk L [((s:Int),z)]:=fun i hi=>by
  obtain rfl:i=0:=by simpa using hi
  exact⟨by simp,by show(s:Int)<((L/64:Nat):Int);omega,by simpa using hz64⟩
 refine(sync_yes D g L gc B ca 1 cc (stF (-1)) zs [((s:Int),z)] w.heap.size w'.heap.size w' hD hO hPM hlt.2 (.inr ⟨hlt.1,Nat.le_refl _⟩) hL rfl hz (by decide) v1 hok (.inl rfl) (by decide)).mono ?_;rintro e w'' ⟨rfl,hD2,hO2,hY⟩;have hsy:syL zs [((s:Int),z)] 1=overL zs s z:=by
  have:=syL_succ (zs:=zs) (ps:=[((s:Int),z)]) (k:=0) (s:=s) (by simp) rfl hz64;exact this
 rw[hsy] at hO2;exact⟨rfl,⟨hD2,hO2⟩,YR.trans ⟨hW.os,hW.tape,hW.output,hW.size,fun k hk h1 _=>hW.block k hk h1 (by simp[Value.ownBlock])⟩ hY⟩
noncomputable def fsL:List Int:=snL 0 1 [] []
noncomputable def fsD (zs:List Int):List Int:=overL (overL zs 0 (fsL.take 64)) 1 (fsL.drop 64)
theorem fsL_len:fsL.length=128:=by unfold fsL snL;exact END_len
theorem fsP:SnP 0 1 [] []:=by
 refine⟨by decide,by decide,by decide,?_,by simp,?_⟩<;>(unfold SerP;simp)
theorem rangeOf {w:World} {q:Nat} {t:TypeId} {zz:List Int} (h:Row w q t zz) (o n:Nat) (hl:o+n≤zz.length):w.rangeAt q o (((zz.drop o).take n).map (Value.int .u8)):=by
 intro j v hv;have hj:j<n:=by have:=(List.getElem?_eq_some_iff.1 hv).1;simp at this;omega
 rw[h.cell (o+j) (by omega)];rw[List.getElem?_map,List.getElem?_take_of_lt hj,List.getElem?_drop] at hv;rw[List.getD_eq_getElem?_getD];cases hz:zz[o+j]? with
 |none=>rw[hz] at hv;simp at hv
 |some x=>rw[hz] at hv;simpa using hv
set_option maxRecDepth 100000 in
set_option maxHeartbeats 4000000 in
theorem wsn_any (D g L gc B:Nat) (zs:List Int) (w:World) (h:DB D g L gc B zs w) (hDg:D≠g) (hL:zs.length=L) (hz:L≤1048576) (v1:L%64=0) (v2:2≤L/64) :
  Calls Tryz.prog 11 #[.pointer (some ⟨D,0,none⟩),.agg #[.int .u32 0,.int .u32 1,.slice none 0 0,.slice none 0 0]] w fun e w'=>e=.returned (.tuple #[])∧DB D g L gc B (fsD zs) w'∧YR D g w w':=by
 have HO0:Hid (OE w 30 #[.int .u32 0,.int .u32 1,.slice none 0 0,.slice none 0 0] (w.alloc (.cells #[.int .u32 0,.int .u32 1,.slice none 0 0,.slice none 0 0] 30))):=OE.start _ _ _;have HB:=hid_of h;have HV:Hid (D≠g∧zs.length=L∧L≤1048576∧L%64=0∧2≤L/64):=⟨hDg,hL,hz,v1,v2⟩
 clear h hDg hL hz v1 v2;go_enter Tryz.func11,Tryz.ntmps11;go_wp2_with fail;generalize (w.alloc (.cells #[.int .u32 0,.int .u32 1,.slice none 0 0,.slice none 0 0] 30))=w1 at *;refine(encd_any w.heap.size 0 1 none none 0 0 0 0 [] [] w1 HO0.out.lt (by rw[cell_of_row _ _ 0 _ _ _ HO0.out.b0];rfl) (by rw[cell_of_row _ _ 1 _ _ _ HO0.out.b0];rfl) (by rw[cell_of_row _ _ 2 _ _ _ HO0.out.b0];rfl) (by rw[cell_of_row _ _ 3 _ _ _ HO0.out.b0];rfl) rfl rfl (by decide) (by decide) (.inl rfl) (.inl rfl) ⟨by decide,by decide⟩ ⟨by decide,by decide⟩ fsP).mono ?_;rintro e w2 ⟨rfl,hb2⟩;have HO2:Hid (OE w 30 #[.int .u32 0,.int .u32 1,.slice none 0 0,.slice none 0 0] w2):=HO0.out.call hb2;have HZL:Hid ((snL 0 1 [] []).length=128):=fsL_len;have HFD:Hid (fsD zs=overL (overL zs 0 ((snL 0 1 [] []).take 64)) 1 ((snL 0 1 [] []).drop 64)):=rfl;clear hb2 HO0;generalize snL 0 1 [] []=zz at *;obtain⟨z0,hz0⟩:∃ z0,zz.take 64=z0:=⟨_,rfl⟩
 obtain⟨z1,hz1⟩:∃ z1,zz.drop 64=z1:=⟨_,rfl⟩
 rw[hz0,hz1] at HFD;have HZ:=hid_of (And.intro hz0 hz1);clear hz0 hz1;have HN:Hid ((w2.alloc (.cells Tryz.zeroCells73 73)).heap[w2.heap.size]?=some (.cells Tryz.zeroCells73 73 (0,0))):=heap_alloc_new w2 _;have hsz:(zz.map (Value.int .u8)).toArray.size=128:=by rw[List.size_toArray,List.length_map];exact HZL.out
 have HSZ:Hid ((Tryz.prog.info? 73).map (·.size)=some (zz.map (Value.int .u8)).toArray.size):=by show _=_;rw[hsz];kernel_rfl
 have HEQ:Hid ((Tryz.zeroCells73).size=(zz.map (Value.int .u8)).toArray.size):=by show _=_;rw[hsz];kernel_rfl
 have HOK:Hid ((zz.map (Value.int .u8)).toArray.all (fun x=>x.oneCell')=true):=by show _=_;simp[Value.oneCell']
 have HR:Hid (Row ((w2.alloc (.cells Tryz.zeroCells73 73)).setRow w2.heap.size (zz.map (Value.int .u8)).toArray) w2.heap.size 73 zz):=setRow_heap _ _ _ _ _ _ HN.out;have b3:Below w2.heap.size w2 ((w2.alloc (.cells Tryz.zeroCells73 73)).setRow w2.heap.size (zz.map (Value.int .u8)).toArray):=((Below.refl _ _).alloc (Nat.le_refl _) _).trans ((Wr.setRow _ _ _).below (Nat.le_refl _));have HO3:Hid (OE w 30 #[.int .u32 0,.int .u32 1,.slice none 0 0,.slice none 0 0] ((w2.alloc (.cells Tryz.zeroCells73 73)).setRow w2.heap.size (zz.map (Value.int .u8)).toArray)):=HO2.out.call b3;have HQ:Hid (D<w2.heap.size∧g<w2.heap.size):=⟨Nat.lt_of_lt_of_le HB.out.lt.1 HO2.out.below.size,Nat.lt_of_lt_of_le HB.out.lt.2 HO2.out.below.size⟩
 clear hsz HO2 b3
 go_upto_region 2 with (first
  |(refine wpList_store_row rfl 73 (.tmp 4) (.tmp 6) rfl w2.heap.size (zz.map (Value.int .u8)).toArray rfl rfl 73 _ HN.out HSZ.out HEQ.out HOK.out ?_)
  |fail)
 clear HN HSZ HEQ HOK;generalize ((w2.alloc (.cells Tryz.zeroCells73 73)).setRow w2.heap.size (zz.map (Value.int .u8)).toArray)=w3 at *;generalize w2.heap.size=q at *;have c0:=cell_of_row w3 w.heap.size 0 _ _ _ HO3.out.b0;simp at c0;go_wp2_with fail;refine(slotOf_any 0 (by decide) (by decide) w3).mono ?_;rintro e w9 ⟨rfl,h9⟩;subst h9;clear c0;have HB3:Hid (DB D g L gc B zs w9):=HB.out.below (HO3.out.below);have HS64:Hid (∀ cs:List Value,cs.length=64→(Tryz.prog.info? 65).map (·.size)=some cs.length):=fun cs h=>by rw[h];kernel_rfl
 have HT0:Hid (w9.rangeAt q 0 (z0.map (Value.int .u8))∧z0.length=64):=⟨by rw[←HZ.out.1];have:=rangeOf HR.out 0 64 (by rw[HZL.out];decide);simpa using this,by rw[←HZ.out.1];simp[HZL.out]⟩
 have HL3:Hid (q<w9.heap.size∧Below w.heap.size w w9):=⟨HR.out.lt,HO3.out.below⟩
 clear HO3
 go_upto_region 3 with fail
 go_wp2_with (first
  |(refine wpList_load_mid rfl 65 (.tmp 13) rfl q 0 rfl (z0.map (Value.int .u8)) _ HT0.out.1 Tryz.underlying65 rfl (HS64.out _ (by rw[List.length_map];exact HT0.out.2)) ?_)
  |fail)
 refine(wr1 D g L gc B 0 z0 zs w9 HB3.out HV.out.1 HV.out.2.1 HV.out.2.2.1 HV.out.2.2.2.1 HT0.out.2 (by have:=HV.out.2.2.2.2;omega) 0 rfl).mono ?_;rintro e w4 ⟨rfl,HS⟩;have HS1:=hid_of HS;clear HS;go_wp2_with fail;refine HS1.out.mono ?_;rintro e w5 ⟨rfl,D5,y5⟩;have HB5:=hid_of D5;have HY5:=hid_of y5;have HR5:Hid (Row w5 q 73 zz):=by show _=_;rw[y5.block q HL3.out.1 (by have:=HQ.out;omega) (by have:=HQ.out;omega)];exact HR.out
 have HT1:Hid (w5.rangeAt q 64 (z1.map (Value.int .u8))∧z1.length=64):=⟨by
  rw[←HZ.out.2];have:=rangeOf HR5.out 64 64 (by rw[HZL.out];decide)
  rwa [List.take_of_length_le (by simp[HZL.out])] at this,by rw[←HZ.out.2];simp[HZL.out]⟩
 have HL5:Hid ((overL zs 0 z0).length=L):=by show _=_;rw[overL_len _ _ _ (by have:=HV.out;have:=HT0.out.2;omega)];exact HV.out.2.1
 clear HS1 D5 y5 HR HT0;go_wp2_with (first
  |(refine wpList_load_mid rfl 65 (.tmp 21) rfl q 64 rfl (z1.map (Value.int .u8)) _ HT1.out.1 Tryz.underlying65 rfl (HS64.out _ (by rw[List.length_map];exact HT1.out.2)) ?_)
  |fail)
 refine(wr1 D g L gc B 1 z1 _ w5 HB5.out HV.out.1 HL5.out HV.out.2.2.1 HV.out.2.2.2.1 HT1.out.2 (by have:=HV.out.2.2.2.2;omega) 1 rfl).mono ?_;rintro e w6 ⟨rfl,HS⟩;have HS1:=hid_of HS;clear HS;go_wp2_with fail;refine HS1.out.mono ?_;rintro e w7 ⟨rfl,D7,y7⟩;have HF:Hid (DB D g L gc B (fsD zs) w7∧YR D g w w7):=⟨by rw[HFD.out];exact D7,((YR.trans ⟨HL3.out.2.os,HL3.out.2.tape,HL3.out.2.output,HL3.out.2.size,fun k hk _ _=>HL3.out.2.block k hk⟩ HY5.out).trans y7)⟩
 clear D7 y7 HS1;go_wp2_with fail
 first|go_end0|go_ret
 exact⟨rfl,HF.out.1,HF.out.2⟩
theorem encS_lit (s k a b:Int):∃ c:Int,U32 c∧encS s k a b=four s++([74,49]++([k%256,0]++(four a++(four b++(List.replicate 40 0++(four c++four s)))))):=
 ⟨crc (headS s k a b),crc_bd _,by
  unfold encS parts3;have:headS s k a b=four s++([74,49]++([k%256,0]++(four a++(four b++List.replicate 40 0)))):=by simp[headS,parts6]
  simp[this]⟩
theorem encS_dec (s k a b:Int) (us:U32 s) (ua:U32 a) (ub:U32 b) (hk:1≤k∧k≤3):decV (encS s k a b)=fOk s k a b:=by
 have hb:Byte (encS s k a b):=by rw[←enc_eq s k a b us ua ub];exact encI_byte _ _ _ _
 obtain⟨c,uc,he⟩:=encS_lit s k a b;obtain⟨s0,s1⟩:=us;obtain⟨a0,a1⟩:=ua;obtain⟨b0,b1⟩:=ub;have e0:num4 (encS s k a b) 0=s:=by rw[he];simp[num4,four];omega
 have e6:(encS s k a b).getD 6 0=k:=by rw[he];simp[four];omega
 have e8:num4 (encS s k a b) 8=a:=by rw[he];simp[num4,four];omega
 have e12:num4 (encS s k a b) 12=b:=by rw[he];simp[num4,four];omega
 have hok:decB (encS s k a b)=true:=by
  unfold decB;rw[e0,e6,e8,e12];simp[encS_len,hk]
 rw[decV_yes hok,e0,e6,e8,e12]
def DbP (D g L gc B H:Nat) (X:List Value) (T:TypeId) (zs:List Int) (ps:List PD) (f:Int) (d:Bool) (w:World):Prop:=
 ∃ E cv qs,g<E∧D<E∧H≤E∧E≤w.heap.size∧w.heap[D]?=some (.cells (DC (.slice (some ⟨g,0,none⟩) L gc) cv f d X) T (0,0))∧Own w B (.slice (some ⟨g,0,none⟩) L gc) zs∧POwn w E cv qs∧qps qs=ps∧(ps=[]→cv=.slice none 0 0)
abbrev lossE:Ending:=.panicked [{ v:=lossV,recovered:=false }]
section
variable {D g L gc B H s:Nat} {X:List Value} {T:TypeId} {zs z:List Int} {ps:List PD} {f:Int} {d:Bool} {w w':World}
theorem DbP.lt (h:DbP D g L gc B H X T zs ps f d w):D<w.heap.size∧g<w.heap.size:=by obtain⟨E,cv,qs,h1,h2,h3,h4,_⟩:=h;omega
theorem DbP.below (h:DbP D g L gc B H X T zs ps f d w) (b:Below w.heap.size w w'):DbP D g L gc B H X T zs ps f d w':=by
 have hl:=h.lt;obtain⟨E,cv,qs,h1,h2,h3,h4,hr,ho,hp,hq,hn⟩:=h;exact⟨E,cv,qs,h1,h2,h3,by have:=b.size;omega,by rw[b.block D hl.1];exact hr,ho.grow b,hp.below b,hq,hn⟩
theorem YR.wr9 (h:WR D (Value.slice none 0 0).ownBlock w w'):YR D g w w':=⟨h.os,h.tape,h.output,h.size,fun k hk h1 _=>h.block k hk h1 (by simp[Value.ownBlock])⟩
theorem dWy (h:DbP D g L gc B H X T zs [] f false w) (hDg:D≠g) (hz:z.length=64) (hf:f=-1∨0<f) (hf2:f≤9223372036854775807) (hT:T=27∨T=38) (si:Int) :
  Calls Tryz.prog 27 #[.pointer (some ⟨D,0,none⟩),.int .i64 si,.agg (z.map (Value.int .u8)).toArray] w fun e w'=>e=.returned (.tuple #[])∧DbP D g L gc B H X T zs [(si,z)] (stF f) false w'∧YR D g w w':=by
 have hl:=h.lt;obtain⟨E,cv,qs,h1,h2,h3,h4,hr,ho,hp,hq,hn⟩:=h;obtain rfl:=hn rfl;refine(write_yes D w.heap.size (.slice (some ⟨g,0,none⟩) L gc) (.slice none 0 0) [] f si z w hr (POwn.nil _ _) (Nat.le_refl _) hz hf hf2 (by simp) hT).mono ?_;rintro e w' ⟨rfl,cv',q,e1,e2,hD,hP,hW⟩;refine⟨rfl,⟨w.heap.size,cv',_,hl.2,hl.1,by omega,hW.size,hD,ho.keep (fun k hk=>?_),hP,by simp[qps,e1,e2],fun h=>(by cases h)⟩,YR.wr9 hW⟩;simp[Value.ownBlock] at hk;subst hk;exact hW.block g hl.2 (fun e=>hDg e.symm) (by simp[Value.ownBlock])
theorem dWn (h:DbP D g L gc B H X T zs [] 0 false w) (hDg:D≠g) (si:Int) :
  Calls Tryz.prog 27 #[.pointer (some ⟨D,0,none⟩),.int .i64 si,.agg (z.map (Value.int .u8)).toArray] w fun e w'=>e=lossE∧DbP D g L gc B H X T zs [] 0 true w'∧YR D g w w':=by
 have hl:=h.lt;obtain⟨E,cv,qs,h1,h2,h3,h4,hr,ho,hp,hq,hn⟩:=h;obtain rfl:=hn rfl;refine(write_no D _ _ si z w hr).mono ?_;rintro e w' ⟨rfl,hD,hW⟩;refine⟨rfl,⟨w.heap.size,_,[],hl.2,hl.1,by omega,hW.size,hD,ho.keep (fun k hk=>?_),POwn.nil _ _,rfl,fun _=>rfl⟩,YR.wr9 hW⟩;simp[Value.ownBlock] at hk;subst hk;exact hW.block g hl.2 (fun e=>hDg e.symm) (by simp)
theorem dSy (h:DbP D g L gc B H X T zs [((s:Int),z)] f false w) (hDg:D≠g) (hL:zs.length=L) (hz:L≤1048576) (v1:L%64=0) (hz64:z.length=64) (hs:s<L/64) (hf:f=-1∨0<f) (hf2:f≤9223372036854775807) (hT:T=27∨T=38) :
  Calls Tryz.prog 28 #[.pointer (some ⟨D,0,none⟩)] w fun e w'=>e=.returned (.tuple #[])∧DbP D g L gc B H X T (overL zs s z) [] (stF f) false w'∧YR D g w w':=by
 have hl:=h.lt;obtain⟨E,cv,qs,h1,h2,h3,h4,hr,ho,hp,hq,hn⟩:=h;obtain⟨ca,cc,rfl,hPM⟩:=hp.mine;have hql:qs.length=1:=by have:=congrArg List.length hq;simpa[qps] using this
 rw[hq] at hPM;rw[hql] at hr;have hok:PsOk L [((s:Int),z)]:=fun i hi=>by
  obtain rfl:i=0:=by simpa using hi
  exact⟨by simp,by show(s:Int)<((L/64:Nat):Int);omega,by simpa using hz64⟩
 refine(sync_yes D g L gc B ca 1 cc f zs [((s:Int),z)] E w.heap.size w hr ho hPM h1 (.inr ⟨h2,Nat.le_refl _⟩) hL rfl hz (by decide) v1 hok hf hf2 (by rcases hT with rfl|rfl<;>decide)).mono ?_;rintro e w' ⟨rfl,hD2,hO2,hY⟩;have hsy:syL zs [((s:Int),z)] 1=overL zs s z:=syL_succ (zs:=zs) (ps:=[((s:Int),z)]) (k:=0) (s:=s) (by simp) rfl hz64;rw[hsy] at hO2;exact⟨rfl,⟨w.heap.size,_,[],hl.2,hl.1,by omega,hY.size,hD2,hO2,POwn.nil _ _,rfl,fun _=>rfl⟩,hY⟩
theorem dSn (h:DbP D g L gc B H X T zs ps 0 false w) (hDg:D≠g) (hT:T=27∨T=38) :
  Calls Tryz.prog 28 #[.pointer (some ⟨D,0,none⟩)] w fun e w'=>e=lossE∧DbP D g L gc B H X T zs ps 0 true w'∧YR D g w w':=by
 obtain⟨E,cv,qs,h1,h2,h3,h4,hr,ho,hp,hq,hn⟩:=h;refine(sync_no D _ _ w hr).mono ?_;rintro e w' ⟨rfl,hD,hW⟩;refine⟨rfl,⟨E,cv,qs,h1,h2,h3,by rw[hW.size];exact h4,hD,ho.keep (fun k hk=>?_),hp.keepD (fun k cur t hh ht=>hW.block k (fun e=>by rw[e,hr] at hh;simp at hh;exact ht hh.2.symm)) hT,hq,hn⟩,YR.of_wr hW⟩;simp[Value.ownBlock] at hk;subst hk;exact hW.block g (fun e=>hDg e.symm)
end
def cmO (zs:List Int) (f:Int) (s:Nat) (z0 z1:List Int):List Int×List PD×Int×Bool:=
 if f=0 then(zs,[],0,true) else if f=1 then(zs,[((s:Int),z0)],0,true) else if f=2 then(overL zs s z0,[],0,true) else if f=3 then(overL zs s z0,[((s:Int)+1,z1)],0,true) else(overL (overL zs s z0) (s+1) z1,[],if f=-1 then -1 else f-4,false)
def cmE (d:Bool):Ending:=if d then lossE else .returned (.tuple #[])
def WsP (D g L gc B H:Nat) (X:List Value) (T:TypeId) (o:List Int×List PD×Int×Bool) (w:World) (e:Ending) (w':World):Prop:=e=cmE o.2.2.2∧DbP D g L gc B H X T o.1 o.2.1 o.2.2.1 o.2.2.2 w'∧YR D g w w'
theorem stF_pos {f:Int} (h:0<f):stF f=f-1:=by unfold stF;rw[if_pos h]
set_option maxRecDepth 100000 in
set_option maxHeartbeats 4000000 in
theorem wsX (D g L gc B H s:Nat) (X:List Value) (T:TypeId) (gn tl:Int) (aD aU:Option Addr) (nD cD nU cU:Nat) (DS US zs:List Int) (f:Int) (w:World) (h:DbP D g L gc B H X T zs [] f false w) (hDg:D≠g) (hL:zs.length=L) (hz:L≤1048576) (v1:L%64=0) (v2:4≤L/64)
  (hT:T=27∨T=38) (hf:-1≤f) (hf2:f≤9223372036854775807) (hD:DS.length=nD) (hU:US.length=nU) (mD:nD≤1048576) (mU:nU≤1048576) (haD:At .i64 w aD DS) (haU:At .i64 w aU US) (ug:U32 gn) (ut:U32 tl) (hs:SnP gn tl DS US) (hsn:gn%2*2=(s:Int)) (z0 z1:List Int) (hz0:(snL gn tl DS US).take 64=z0) (hz1:(snL gn tl DS US).drop 64=z1) :
  Calls Tryz.prog 11 #[.pointer (some ⟨D,0,none⟩),.agg #[.int .u32 gn,.int .u32 tl,.slice aD nD cD,.slice aU nU cU]] w (WsP D g L gc B H X T (cmO zs f s z0 z1) w):=by
 have hs2:s≤2:=by have:=Int.emod_lt_of_pos gn (show(0:Int)<2 by decide);omega
 have HO0:Hid (OE w 30 #[.int .u32 gn,.int .u32 tl,.slice aD nD cD,.slice aU nU cU] (w.alloc (.cells #[.int .u32 gn,.int .u32 tl,.slice aD nD cD,.slice aU nU cU] 30))):=OE.start _ _ _;have HENC:=hid_ofV (fun ww (b:Below w.heap.size w ww) hh c0 c1 c2 c3=>encd_any w.heap.size gn tl aD aU nD cD nU cU DS US ww hh c0 c1 c2 c3 hD hU mD mU (haD.below b) (haU.below b) ug ut hs);have HB:=hid_ofV h;have HT:=hid_ofV hT;have HV:Hid (D≠g∧zs.length=L∧L≤1048576∧L%64=0∧4≤L/64):=⟨hDg,hL,hz,v1,v2⟩
 have HF:Hid (-1≤f∧f≤9223372036854775807):=⟨hf,hf2⟩
 have HQ2:Hid (gn%2*2=(s:Int)∧s≤2):=⟨hsn,hs2⟩
 have HU:Hid (0≤gn∧gn<4294967296):=ug;have HZL:Hid ((snL gn tl DS US).length=128):=END_len;have HZ:=hid_ofV (And.intro hz0 hz1);clear h hDg hL hz v1 v2 hT hD hU mD mU haD haU ug ut hs hsn hf hf2 hs2 hz0 hz1;go_enter Tryz.func11,Tryz.ntmps11;go_wp2_with fail;generalize (w.alloc (.cells #[.int .u32 gn,.int .u32 tl,.slice aD nD cD,.slice aU nU cU] 30))=w1 at *;refine(HENC.out w1 HO0.out.below HO0.out.lt (by rw[cell_of_row _ _ 0 _ _ _ HO0.out.b0];rfl) (by rw[cell_of_row _ _ 1 _ _ _ HO0.out.b0];rfl) (by rw[cell_of_row _ _ 2 _ _ _ HO0.out.b0];rfl) (by rw[cell_of_row _ _ 3 _ _ _ HO0.out.b0];rfl)).mono ?_;rintro e w2 ⟨rfl,hb2⟩;have HO2:Hid (OE w 30 #[.int .u32 gn,.int .u32 tl,.slice aD nD cD,.slice aU nU cU] w2):=HO0.out.call hb2;clear hb2 HO0 HENC;generalize snL gn tl DS US=zz at *;have HN:Hid ((w2.alloc (.cells Tryz.zeroCells73 73)).heap[w2.heap.size]?=some (.cells Tryz.zeroCells73 73 (0,0))):=heap_alloc_new w2 _;have hsz:(zz.map (Value.int .u8)).toArray.size=128:=by rw[List.size_toArray,List.length_map];exact HZL.out
 have HSZ:Hid ((Tryz.prog.info? 73).map (·.size)=some (zz.map (Value.int .u8)).toArray.size):=by show _=_;rw[hsz];kernel_rfl
 have HEQ:Hid ((Tryz.zeroCells73).size=(zz.map (Value.int .u8)).toArray.size):=by show _=_;rw[hsz];kernel_rfl
 have HOK:Hid ((zz.map (Value.int .u8)).toArray.all (fun x=>x.oneCell')=true):=by show _=_;simp[Value.oneCell']
 have HR:Hid (Row ((w2.alloc (.cells Tryz.zeroCells73 73)).setRow w2.heap.size (zz.map (Value.int .u8)).toArray) w2.heap.size 73 zz):=setRow_heap _ _ _ _ _ _ HN.out;have b3:Below w2.heap.size w2 ((w2.alloc (.cells Tryz.zeroCells73 73)).setRow w2.heap.size (zz.map (Value.int .u8)).toArray):=((Below.refl _ _).alloc (Nat.le_refl _) _).trans ((Wr.setRow _ _ _).below (Nat.le_refl _));have HO3:Hid (OE w 30 #[.int .u32 gn,.int .u32 tl,.slice aD nD cD,.slice aU nU cU] ((w2.alloc (.cells Tryz.zeroCells73 73)).setRow w2.heap.size (zz.map (Value.int .u8)).toArray)):=HO2.out.call b3;have HQ:Hid (D<w2.heap.size∧g<w2.heap.size):=⟨Nat.lt_of_lt_of_le HB.out.lt.1 HO2.out.below.size,Nat.lt_of_lt_of_le HB.out.lt.2 HO2.out.below.size⟩
 clear hsz HO2 b3
 go_upto_region 2 with (first
  |(refine wpList_store_row rfl 73 (.tmp 4) (.tmp 6) rfl w2.heap.size (zz.map (Value.int .u8)).toArray rfl rfl 73 _ HN.out HSZ.out HEQ.out HOK.out ?_)
  |fail)
 clear HN HSZ HEQ HOK;generalize ((w2.alloc (.cells Tryz.zeroCells73 73)).setRow w2.heap.size (zz.map (Value.int .u8)).toArray)=w3 at *;generalize w2.heap.size=q at *;have c0:=cell_of_row w3 w.heap.size 0 _ _ _ HO3.out.b0;simp at c0;go_wp2_with fail;refine(slotOf_any gn HU.out.1 HU.out.2 w3).mono ?_;rintro e w9 ⟨rfl,h9⟩;subst h9;clear c0;obtain⟨gm,hgm⟩:∃ gm,gn%2=gm:=⟨_,rfl⟩
 rw[hgm] at HQ2 ⊢;have hw1:IntKind.i64.wrap (gm*2)=(s:Int):=by rw[IntKind.wrap_i64];have:=HQ2.out;omega
 have hw2:IntKind.i64.wrap ((s:Int)+1)=(s:Int)+1:=by rw[IntKind.wrap_i64];have:=HQ2.out;omega
 clear hgm;have HB3:Hid (DbP D g L gc B H X T zs [] f false w9):=HB.out.below (HO3.out.below);have HS64:Hid (∀ cs:List Value,cs.length=64→(Tryz.prog.info? 65).map (·.size)=some cs.length):=fun cs h=>by rw[h];kernel_rfl
 have HT0:Hid (w9.rangeAt q 0 (z0.map (Value.int .u8))∧z0.length=64):=⟨by rw[←HZ.out.1];have:=rangeOf HR.out 0 64 (by rw[HZL.out];decide);simpa using this,by rw[←HZ.out.1];simp[HZL.out]⟩
 have HL3:Hid (q<w9.heap.size∧Below w.heap.size w w9):=⟨HR.out.lt,HO3.out.below⟩
 have HY3:Hid (YR D g w w9):=YR.of_below HO3.out.below;clear HO3 HB
 go_upto_region 3 with fail
 go_wp2_with (first
  |(refine wpList_load_mid rfl 65 (.tmp 13) rfl q 0 rfl (z0.map (Value.int .u8)) _ HT0.out.1 Tryz.underlying65 rfl (HS64.out _ (by rw[List.length_map];exact HT0.out.2)) ?_)
  |fail)
 by_cases hf0:f=0
 ·subst hf0;refine(dWn (z:=z0) HB3.out HV.out.1 (s:Int)).mono ?_;rintro e w4 ⟨rfl,d4,y4⟩;exact⟨rfl,rfl,d4,HY3.out.trans y4⟩
 have hfp:f=-1∨0<f:=by have:=HF.out;omega
 refine(dWy (z:=z0) HB3.out HV.out.1 HT0.out.2 hfp HF.out.2 HT.out (s:Int)).mono ?_;rintro e w4 ⟨rfl,d4,y4⟩;have HB4:=hid_ofV d4;have HY4:=hid_ofV (HY3.out.trans y4);have HR4:Hid (Row w4 q 73 zz):=by show _=_;rw[y4.block q HL3.out.1 (by have:=HQ.out;omega) (by have:=HQ.out;omega)];exact HR.out
 have HL4:Hid (q<w4.heap.size):=Nat.lt_of_lt_of_le HL3.out.1 y4.size;have HF4:Hid ((stF f=-1∧f=-1)∨(stF f=f-1∧0<f)):=by
  rcases hfp with rfl|h
  ·exact .inl ⟨rfl,rfl⟩
  ·exact .inr ⟨stF_pos h,h⟩
 clear d4 y4 HB3 HY3 HR HL3 hfp;go_wp2_with fail;by_cases hf1:f=1
 ·subst hf1;refine(dSn HB4.out HV.out.1 HT.out).mono ?_;rintro e w5 ⟨rfl,d5,y5⟩;exact⟨rfl,rfl,d5,HY4.out.trans y5⟩
 refine(dSy HB4.out HV.out.1 HV.out.2.1 HV.out.2.2.1 HV.out.2.2.2.1 HT0.out.2 (by have:=HV.out;have:=HQ2.out;omega) (by have:=HF4.out;omega) (by have:=HF4.out;have:=HF.out;omega) HT.out).mono ?_;rintro e w5 ⟨rfl,d5,y5⟩;have HB5:=hid_ofV d5;have HY5:=hid_ofV (HY4.out.trans y5);have HR5:Hid (Row w5 q 73 zz):=by show _=_;rw[y5.block q HL4.out (by have:=HQ.out;omega) (by have:=HQ.out;omega)];exact HR4.out
 have HL5:Hid ((overL zs s z0).length=L):=by show _=_;rw[overL_len _ _ _ (by have:=HV.out;have:=HT0.out.2;have:=HQ2.out;omega)];exact HV.out.2.1
 have HT1:Hid (w5.rangeAt q 64 (z1.map (Value.int .u8))∧z1.length=64):=⟨by
  rw[←HZ.out.2];have:=rangeOf HR5.out 64 64 (by rw[HZL.out];decide)
  rwa [List.take_of_length_le (by simp[HZL.out])] at this,by rw[←HZ.out.2];simp[HZL.out]⟩
 have HF5:Hid ((stF (stF f)=-1∧f=-1)∨(stF (stF f)=f-2∧1<f)):=by
  rcases HF4.out with⟨h1,h2⟩|⟨h1,h2⟩
  ·exact .inl ⟨by rw[h1];rfl,h2⟩
  ·exact .inr ⟨by rw[h1,stF_pos (by omega)];omega,by omega⟩
 clear d5 y5 HB4 HY4 HR4 HL4 HF4;go_wp2_with (first
  |(refine wpList_load_mid rfl 65 (.tmp 21) rfl q 64 rfl (z1.map (Value.int .u8)) _ HT1.out.1 Tryz.underlying65 rfl (HS64.out _ (by rw[List.length_map];exact HT1.out.2)) ?_)
  |fail)
 by_cases hf2:f=2
 ·subst hf2;refine(dWn (z:=z1) HB5.out HV.out.1 _).mono ?_;rintro e w6 ⟨rfl,d6,y6⟩;exact⟨rfl,rfl,d6,HY5.out.trans y6⟩
 refine(dWy (z:=z1) HB5.out HV.out.1 HT1.out.2 (by have:=HF5.out;omega) (by have:=HF5.out;have:=HF.out;omega) HT.out _).mono ?_;rintro e w6 ⟨rfl,d6,y6⟩;have HB6:=hid_ofV d6;have HY6:=hid_ofV (HY5.out.trans y6);have HF6:Hid ((stF (stF (stF f))=-1∧f=-1)∨(stF (stF (stF f))=f-3∧2<f)):=by
  rcases HF5.out with⟨h1,h2⟩|⟨h1,h2⟩
  ·exact .inl ⟨by rw[h1];rfl,h2⟩
  ·exact .inr ⟨by rw[h1,stF_pos (by omega)];omega,by omega⟩
 clear d6 y6 HB5 HY5 HR5 HF5;go_wp2_with fail;by_cases hf3:f=3
 ·subst hf3;refine(dSn HB6.out HV.out.1 HT.out).mono ?_;rintro e w7 ⟨rfl,d7,y7⟩;exact⟨rfl,rfl,d7,HY6.out.trans y7⟩
 refine(dSy (s:=s+1) HB6.out HV.out.1 HL5.out HV.out.2.2.1 HV.out.2.2.2.1 HT1.out.2 (by have:=HV.out;have:=HQ2.out;omega) (by have:=HF6.out;omega) (by have:=HF6.out;have:=HF.out;omega) HT.out).mono ?_;rintro e w7 ⟨rfl,d7,y7⟩;have HP:Hid (WsP D g L gc B H X T (cmO zs f s z0 z1) w (.returned (.tuple #[])) w7):=by
  have hc:cmO zs f s z0 z1=(overL (overL zs s z0) (s+1) z1,[],stF (stF (stF (stF f))),false):=by
   unfold cmO;rw[if_neg hf0,if_neg hf1,if_neg hf2,if_neg hf3];rcases HF6.out with⟨h1,h2⟩|⟨h1,h2⟩
   ·rw[h1,if_pos h2];rfl
   ·rw[h1,if_neg (by omega),stF_pos (by omega)];congr 3;omega
  show WsP _ _ _ _ _ _ _ _ _ _ _ _
  rw[hc];exact⟨rfl,d7,HY6.out.trans y7⟩
 clear d7 y7 HB6 HY6;go_wp2_with fail
 first|go_end0|go_ret
 exact HP.out
set_option maxHeartbeats 8000000 in
set_option maxRecDepth 100000 in
theorem imEq_any (g o h p:Nat) (ok ok':Bool) (gn gn' tl tl' k k' nx nx':Int) (aF bF aSD bSD aSU bSU aD bD aU bU aT bT:Option Addr) (nF cF mF dF nSD cSD mSD dSD nSU cSU mSU dSU nD cD mD dD nU cU mU dU nT cT mT dT:Nat) (F F' sD sD' sU sU' D D' U U' T T':List Int) (w:World) (hg:g<w.heap.size) (hh:h<w.heap.size)
  (x0:w.cell? ⟨g,o,none⟩=some (.bool ok)) (x1:w.cell? ⟨g,o+1,none⟩=some (.int .u32 gn)) (x2:w.cell? ⟨g,o+2,none⟩=some (.int .u32 tl)) (x3:w.cell? ⟨g,o+3,none⟩=some (.slice aSD nSD cSD)) (x4:w.cell? ⟨g,o+4,none⟩=some (.slice aSU nSU cSU)) (x5:w.cell? ⟨g,o+5,none⟩=some (.slice aF nF cF)) (x6:w.cell? ⟨g,o+6,none⟩=some (.slice aD nD cD)) (x7:w.cell? ⟨g,o+7,none⟩=some (.slice aU nU cU)) (x8:w.cell? ⟨g,o+8,none⟩=some (.int .i64 k)) (x9:w.cell? ⟨g,o+9,none⟩=some (.slice aT nT cT)) (x10:w.cell? ⟨g,o+10,none⟩=some (.int .u32 nx))
  (y0:w.cell? ⟨h,p,none⟩=some (.bool ok')) (y1:w.cell? ⟨h,p+1,none⟩=some (.int .u32 gn')) (y2:w.cell? ⟨h,p+2,none⟩=some (.int .u32 tl')) (y3:w.cell? ⟨h,p+3,none⟩=some (.slice bSD mSD dSD)) (y4:w.cell? ⟨h,p+4,none⟩=some (.slice bSU mSU dSU)) (y5:w.cell? ⟨h,p+5,none⟩=some (.slice bF mF dF)) (y6:w.cell? ⟨h,p+6,none⟩=some (.slice bD mD dD)) (y7:w.cell? ⟨h,p+7,none⟩=some (.slice bU mU dU)) (y8:w.cell? ⟨h,p+8,none⟩=some (.int .i64 k')) (y9:w.cell? ⟨h,p+9,none⟩=some (.slice bT mT dT)) (y10:w.cell? ⟨h,p+10,none⟩=some (.int .u32 nx'))
  (hl:F.length=nF*4∧F'.length=mF*4∧sD.length=nSD∧sD'.length=mSD∧sU.length=nSU∧sU'.length=mSU∧D.length=nD∧D'.length=mD∧U.length=nU∧U'.length=mU∧T.length=nT*2∧T'.length=mT*2) (hb:nF≤1048576∧mF≤1048576∧nSD≤1048576∧mSD≤1048576∧nSU≤1048576∧mSU≤1048576∧nD≤1048576∧mD≤1048576∧nU≤1048576∧mU≤1048576∧nT≤1048576∧mT≤1048576) (hA:FAt w aF F∧FAt w bF F'∧At .i64 w aSD sD∧At .i64 w bSD sD'∧At .i64 w aSU sU∧At .i64 w bSU sU'∧At .i64 w aD D∧At .i64 w bD D'∧At .i64 w aU U∧At .i64 w bU U'∧At .i64 w aT T∧At .i64 w bT T') :
  Calls Tryz.prog 31 #[.pointer (some ⟨g,o,none⟩),.pointer (some ⟨h,p,none⟩)] w fun e w'=>e=.returned (.bool (decide (ok=ok'∧nx=nx'∧F=F'∧(gn=gn'∧tl=tl'∧sD=sD'∧sU=sU')∧(k=k'∧D=D'∧U=U'∧T=T'))))∧∃ q,w'=w.drewN q:=by
 have HL:=hid_ofV hl;have HN:=hid_ofV hb;have HA:=hid_ofV hA;have HSN:=hid_ofV (fun n=>snEq_any g (o+1) h (p+1) gn gn' tl tl' aSD bSD aSU bSU nSD cSD mSD dSD nSU cSU mSU dSU sD sD' sU sU' (w.drewN n) hg hh x1 x2 x3 x4 y1 y2 y3 y4 ⟨HL.out.2.2.1,HL.out.2.2.2.1,HL.out.2.2.2.2.1,HL.out.2.2.2.2.2.1⟩ ⟨HN.out.2.2.1,HN.out.2.2.2.1,HN.out.2.2.2.2.1,HN.out.2.2.2.2.2.1⟩ ⟨HA.out.2.2.1.below (belD (Below.refl _ _) _),HA.out.2.2.2.1.below (belD (Below.refl _ _) _),HA.out.2.2.2.2.1.below (belD (Below.refl _ _) _),HA.out.2.2.2.2.2.1.below (belD (Below.refl _ _) _)⟩);have HST:=hid_ofV (fun n=>stEq_any g (o+6) h (p+6) k k' aD bD aU bU aT bT nD cD mD dD nU cU mU dU nT cT mT dT D D' U U' T T' (w.drewN n) hg hh x6 x7 x8 x9 y6 y7 y8 y9 ⟨HL.out.2.2.2.2.2.2.1,HL.out.2.2.2.2.2.2.2.1,HL.out.2.2.2.2.2.2.2.2.1,HL.out.2.2.2.2.2.2.2.2.2.1,HL.out.2.2.2.2.2.2.2.2.2.2.1,HL.out.2.2.2.2.2.2.2.2.2.2.2⟩ ⟨HN.out.2.2.2.2.2.2.1,HN.out.2.2.2.2.2.2.2.1,HN.out.2.2.2.2.2.2.2.2.1,HN.out.2.2.2.2.2.2.2.2.2.1,HN.out.2.2.2.2.2.2.2.2.2.2.1,HN.out.2.2.2.2.2.2.2.2.2.2.2⟩ ⟨HA.out.2.2.2.2.2.2.1.below (belD (Below.refl _ _) _),HA.out.2.2.2.2.2.2.2.1.below (belD (Below.refl _ _) _),HA.out.2.2.2.2.2.2.2.2.1.below (belD (Below.refl _ _) _),HA.out.2.2.2.2.2.2.2.2.2.1.below (belD (Below.refl _ _) _),HA.out.2.2.2.2.2.2.2.2.2.2.1.below (belD (Below.refl _ _) _),HA.out.2.2.2.2.2.2.2.2.2.2.2.below (belD (Below.refl _ _) _)⟩);obtain⟨V,hV⟩:∃ V,V=decide (ok=ok'∧nx=nx'∧F=F'∧(gn=gn'∧tl=tl'∧sD=sD'∧sU=sU')∧(k=k'∧D=D'∧U=U'∧T=T')):=⟨_,rfl⟩
 rw[←hV];have HV:=hid_ofV hV;clear hV hl hb hA;by_cases e0:ok=ok';rotate_left
 ·have HF:Hid (V=false):=by
   show _=_
   rw[HV.out];exact decide_eq_false (by intro h;exact e0 h.1)
  cases ok<;>cases ok'<;>first|exact absurd rfl e0|skip
  all_goals
   clear e0;clear HV HL HN HA HSN HST;go_enter Tryz.func31,Tryz.ntmps31;go_wp2
   go_quiet (fail)
   go_wp2
   go_ret
   exact⟨by rw[HF.out];rfl,_,rfl⟩
 by_cases e1:nx=nx';rotate_left
 ·have HF:Hid (V=false):=by
   show _=_
   rw[HV.out];exact decide_eq_false (by intro h;exact e1 h.2.1)
  have z1:(nx == nx')=false:=by simpa using e1
  have z2:decide (nx=nx')=false:=by simpa using e1
  subst e0;clear HV HL HN HA HSN HST;go_enter Tryz.func31,Tryz.ntmps31;go_wp2
  go_quiet (fail)
  go_wp2
  go_ret
  exact⟨by rw[HF.out];rfl,_,rfl⟩
 by_cases e2:F=F';rotate_left
 ·have HF:Hid (V=false):=by
   show _=_
   rw[HV.out];exact decide_eq_false (by intro h;exact e2 h.2.2.1)
  have HQ2:Hid (∀ n,Calls Tryz.prog 55 #[.slice aF nF cF,.slice bF mF dF] (w.drewN n) fun e w'=>e=.returned (.bool false)∧∃ q,w'=(w.drewN n).drewN q):=fun n=>by
   have:=slEqF_any aF bF nF cF mF dF F F' (w.drewN n) HL.out.1 HL.out.2.1 (by have:=HN.out;omega) (by have:=HN.out;omega) (HA.out.1.below (belD (Below.refl _ _) _)) (HA.out.2.1.below (belD (Below.refl _ _) _));rw[decide_eq_false e2] at this;exact this
  subst e0 e1;clear HV HL HN HA HSN HST;go_enter Tryz.func31,Tryz.ntmps31;go_wp2
  go_quiet ((first|(go_at_call 55;first|with_reducible exact Calls.quiet_of (HQ2.out _))))
  go_wp2
  go_ret
  exact⟨by rw[HF.out];rfl,_,rfl⟩
 have HQ2:Hid (∀ n,Calls Tryz.prog 55 #[.slice aF nF cF,.slice bF mF dF] (w.drewN n) fun e w'=>e=.returned (.bool true)∧∃ q,w'=(w.drewN n).drewN q):=fun n=>by
  have:=slEqF_any aF bF nF cF mF dF F F' (w.drewN n) HL.out.1 HL.out.2.1 (by have:=HN.out;omega) (by have:=HN.out;omega) (HA.out.1.below (belD (Below.refl _ _) _)) (HA.out.2.1.below (belD (Below.refl _ _) _));rw[decide_eq_true e2] at this;exact this
 by_cases e3:gn=gn'∧tl=tl'∧sD=sD'∧sU=sU';rotate_left
 ·have HF:Hid (V=false):=by
   show _=_
   rw[HV.out];exact decide_eq_false (by intro h;exact e3 h.2.2.2.1)
  have HQ3:Hid (∀ n,Calls Tryz.prog 56 #[.pointer (some ⟨g,o+1,none⟩),.pointer (some ⟨h,p+1,none⟩)] (w.drewN n) fun e w'=>e=.returned (.bool false)∧∃ q,w'=(w.drewN n).drewN q):=fun n=>by
   have:=HSN.out n;rw[decide_eq_false e3] at this;exact this
  subst e0 e1;clear HV HL HN HA HSN HST;go_enter Tryz.func31,Tryz.ntmps31;go_wp2
  go_quiet ((first|(go_at_call 55;first|with_reducible exact Calls.quiet_of (HQ2.out _))|(go_at_call 56;first|with_reducible exact Calls.quiet_of (HQ3.out _))))
  go_wp2
  go_ret
  exact⟨by rw[HF.out];rfl,_,rfl⟩
 have HQ3:Hid (∀ n,Calls Tryz.prog 56 #[.pointer (some ⟨g,o+1,none⟩),.pointer (some ⟨h,p+1,none⟩)] (w.drewN n) fun e w'=>e=.returned (.bool true)∧∃ q,w'=(w.drewN n).drewN q):=fun n=>by
  have:=HSN.out n;rw[decide_eq_true e3] at this;exact this
 have HF:V=decide (k=k'∧D=D'∧U=U'∧T=T'):=by
  rw[HV.out];simp[e0,e1,e2,e3]
 have HQ4:Hid (∀ n,Calls Tryz.prog 38 #[.pointer (some ⟨g,o+6,none⟩),.pointer (some ⟨h,p+6,none⟩)] (w.drewN n) fun e w'=>e=.returned (.bool V)∧∃ q,w'=(w.drewN n).drewN q):=fun n=>by
  have:=HST.out n;rw[←HF] at this;exact this
 clear HF;subst e0 e1;clear HV HL HN HA HSN HST;go_enter Tryz.func31,Tryz.ntmps31;go_wp2
 go_quiet ((first|(go_at_call 55;first|with_reducible exact Calls.quiet_of (HQ2.out _))|(go_at_call 56;first|with_reducible exact Calls.quiet_of (HQ3.out _))|(go_at_call 38;first|with_reducible exact Calls.quiet_of (HQ4.out _))))
 go_wp2
 go_ret
 exact⟨rfl,_,rfl⟩
def imE (ok:Bool) (gn tl k nx:Int) (F sD sU D U T:List Int) (r:ImR):Bool:=decide (ok=r.ok∧nx=r.nx∧gn=r.g∧tl=r.t∧sD=r.sD∧sU=r.sU∧F=r.F∧D=r.D∧U=r.U∧k=r.k∧T=r.T)
def vgB (n:Nat) (ps:List PD) (f:Int) (d:Bool) (m kn:Nat) (ok:Bool) (E:Bool):Bool:=validB n ps f && !d && decide (m=0) && decide (kn=32) && ok && E
theorem ildV {w:World} {v:Value} {zs:List Int} {ps:List PD} {f:Int} {d:Bool} (h:DAt w v zs ps f d) (hL:zs.length≤1048576) (hM:ps.length≤1048576) (hps:∀ i,(ps.getD i (0,[])).2.length≤1048576) (bz:Byte zs) (bp:∀ i,Byte (ps.getD i (0,[])).2) :
  Calls Tryz.prog 30 #[v] w fun e w'=>∃ v',e=.returned v'∧ImV w.heap.size w' v' (imG zs ps f)∧Below w.heap.size w w':=by
 obtain⟨da,dc,ca,cc,rfl,h1,h2,h3⟩:=h;exact ild_any da ca zs.length dc ps.length cc f d zs ps w rfl rfl h1 h2 h3 hL hM hps bz bp
set_option maxHeartbeats 8000000 in
set_option maxRecDepth 100000 in
theorem ivg_any (a x:Option Addr) (n c m cx:Nat) (f:Int) (d:Bool) (zs:List Int) (ps:List PD) (ka:Option Addr) (kn kc:Nat) (ok:Bool) (gn tl k nx:Int) (aF aSD aSU aD aU aT:Option Addr) (nF cF nSD cSD nSU cSU nD cD nU cU nT cT:Nat) (F sD sU D U T:List Int) (w:World) (hd:DAt w (.agg #[.slice a n c,.slice x m cx,.int .i64 f,.bool d]) zs ps f d) (hn:zs.length=n) (hm:ps.length=m) (hz:n≤1048576) (hM:m≤1048576) (hps:∀ i,(ps.getD i (0,[])).2.length≤1048576) (bz:Byte zs) (bp:∀ i,Byte (ps.getD i (0,[])).2) (hkn:kn≤1048576) (hl:F.length=nF*4∧sD.length=nSD∧sU.length=nSU∧D.length=nD∧U.length=nU∧T.length=nT*2) (hb:nF≤1048576∧nSD≤1048576∧nSU≤1048576∧nD≤1048576∧nU≤1048576∧nT≤1048576) (AF:FAt w aF F) (ASD:At .i64 w aSD sD) (ASU:At .i64 w aSU sU) (AD:At .i64 w aD D) (AU:At .i64 w aU U) (AT:At .i64 w aT T) :
  Calls Tryz.prog 13 #[.agg #[.slice a n c,.slice x m cx,.int .i64 f,.bool d,.slice ka kn kc,.bool ok,.int .u32 gn,.int .u32 tl,.slice aSD nSD cSD,.slice aSU nSU cSU,.slice aF nF cF,.slice aD nD cD,.slice aU nU cU,.int .i64 k,.slice aT nT cT,.int .u32 nx]] w fun e w'=>e=.returned (.bool (vgB n ps f d m kn ok (imE ok gn tl k nx F sD sU D U T (imG zs ps f))))∧Below w.heap.size w w':=by
 have HSI:Hid ((Tryz.prog.info? 36).map (·.size)=some 11):=by show _=_;kernel_rfl
 have bb:Below w.heap.size w (w.alloc (.cells #[.slice a n c,.slice x m cx,.int .i64 f,.bool d,.slice ka kn kc,.bool ok,.int .u32 gn,.int .u32 tl,.slice aSD nSD cSD,.slice aSU nSU cSU,.slice aF nF cF,.slice aD nD cD,.slice aU nU cU,.int .i64 k,.slice aT nT cT,.int .u32 nx] 38)):=(Below.refl _ _).alloc (Nat.le_refl _) _;have HR:Hid ((w.alloc (.cells #[.slice a n c,.slice x m cx,.int .i64 f,.bool d,.slice ka kn kc,.bool ok,.int .u32 gn,.int .u32 tl,.slice aSD nSD cSD,.slice aSU nSU cSU,.slice aF nF cF,.slice aD nD cD,.slice aU nU cU,.int .i64 k,.slice aT nT cT,.int .u32 nx] 38)).heap[w.heap.size]?=some (.cells #[.slice a n c,.slice x m cx,.int .i64 f,.bool d,.slice ka kn kc,.bool ok,.int .u32 gn,.int .u32 tl,.slice aSD nSD cSD,.slice aSU nSU cSU,.slice aF nF cF,.slice aD nD cD,.slice aU nU cU,.int .i64 k,.slice aT nT cT,.int .u32 nx] 38 (0,0))):=heap_alloc_new w _;have HB0:=hid_ofV bb;have HRS:Hid (∀ ww,Below w.heap.size w ww→w.heap.size<ww.heap.size→ww.cell? ⟨w.heap.size,0,none⟩=some (.slice a n c)→ww.cell? ⟨w.heap.size,1,none⟩=some (.slice x m cx)→ww.cell? ⟨w.heap.size,2,none⟩=some (.int .i64 f)→ww.cell? ⟨w.heap.size,3,none⟩=some (.bool d)→Calls Tryz.prog 16 #[.pointer (some ⟨w.heap.size,0,none⟩)] ww fun e w'=>e=.returned (.bool (validB n ps f && !d && decide (m=0)))∧Below ww.heap.size ww w'):=fun ww b hg x0 x1 x2 x3=>rest_any w.heap.size 0 a x n c m cx f d zs ps ww hg x0 x1 x2 x3 (hd.below b) hn hm hz hM hps
 have HLD:Hid (∀ ww,Below w.heap.size w ww→Calls Tryz.prog 30 #[.agg #[.slice a n c,.slice x m cx,.int .i64 f,.bool d]] ww fun e w'=>∃ v,e=.returned v∧ImV ww.heap.size w' v (imG zs ps f)∧Below ww.heap.size ww w'):=fun ww b=>ildV (hd.below b) (by omega) (by omega) hps bz bp
 have HBD:=hid_ofV (imG_bd (f:=f) bz bp);obtain⟨V,hV⟩:∃ V,V=vgB n ps f d m kn ok (imE ok gn tl k nx F sD sU D U T (imG zs ps f)):=⟨_,rfl⟩
 rw[←hV];have HV:=hid_ofV hV;have HA:=hid_ofV (And.intro AF (And.intro ASD (And.intro ASU (And.intro AD (And.intro AU AT)))));have HLL:=hid_ofV (And.intro hl hb);generalize imG zs ps f=r at *;clear hV bb hd bz bp hl hb AF ASD ASU AD AU AT hps;go_enter Tryz.func13,Tryz.ntmps13
 go_upto_region 1 with fail
 generalize w.alloc (.cells #[.slice a n c,.slice x m cx,.int .i64 f,.bool d,.slice ka kn kc,.bool ok,.int .u32 gn,.int .u32 tl,.slice aSD nSD cSD,.slice aSU nSU cSU,.slice aF nF cF,.slice aD nD cD,.slice aU nU cU,.int .i64 k,.slice aT nT cT,.int .u32 nx] 38)=w0 at *;have hlt:w.heap.size<w0.heap.size:=(Array.getElem?_eq_some_iff.1 HR.out).1;have v0:=cell_of_row w0 w.heap.size 0 _ _ _ HR.out;have v1:=cell_of_row w0 w.heap.size 1 _ _ _ HR.out;have v2:=cell_of_row w0 w.heap.size 2 _ _ _ HR.out;have v3:=cell_of_row w0 w.heap.size 3 _ _ _ HR.out;have v4:=cell_of_row w0 w.heap.size 4 _ _ _ HR.out;have v5:=cell_of_row w0 w.heap.size 5 _ _ _ HR.out;simp at v0 v1 v2 v3 v4 v5;go_wp2_with fail;refine(HRS.out w0 HB0.out hlt v0 v1 v2 v3).mono ?_;rintro e w1 ⟨rfl,b1⟩;have HR1:Hid (w1.heap[w.heap.size]?=some (.cells #[.slice a n c,.slice x m cx,.int .i64 f,.bool d,.slice ka kn kc,.bool ok,.int .u32 gn,.int .u32 tl,.slice aSD nSD cSD,.slice aSU nSU cSU,.slice aF nF cF,.slice aD nD cD,.slice aU nU cU,.int .i64 k,.slice aT nT cT,.int .u32 nx] 38 (0,0))):=by show _=_;rw[b1.block _ hlt];exact HR.out
 have HB1:=hid_ofV (HB0.out.trans (b1.mono HB0.out.size));have hlt1:w.heap.size<w1.heap.size:=by have:=b1.size;omega
 clear v0 v1 v2 v3 v4 v5 HR b1 HB0 HRS hlt;have v0:=cell_of_row w1 w.heap.size 0 _ _ _ HR1.out;have v1:=cell_of_row w1 w.heap.size 1 _ _ _ HR1.out;have v2:=cell_of_row w1 w.heap.size 2 _ _ _ HR1.out;have v3:=cell_of_row w1 w.heap.size 3 _ _ _ HR1.out;have v4:=cell_of_row w1 w.heap.size 4 _ _ _ HR1.out;have v5:=cell_of_row w1 w.heap.size 5 _ _ _ HR1.out;simp at v0 v1 v2 v3 v4 v5;cases hR:(validB n ps f && !d && decide (m=0)) with
 |false=>
  have HF:Hid (V=false):=by show _=_;rw[HV.out];unfold vgB;rw[hR];rfl
  go_wp2
  go_ret
  exact⟨by rw[HF.out];rfl,HB1.out⟩
 |true=>
  by_cases hk:kn=32;rotate_left
  ·have HF:Hid (V=false):=by show _=_;rw[HV.out];unfold vgB;rw[hR];simp[hk]
   have z0:((kn:Int) != 32)=true:=by simp;omega
   have z1:¬ ((kn:Int)=32):=by omega
   go_wp2
   go_ret
   exact⟨by rw[HF.out];rfl,HB1.out⟩
  subst hk;cases ok with
  |false=>
   have HF:Hid (V=false):=by show _=_;rw[HV.out];unfold vgB;simp
   go_wp2
   go_ret
   exact⟨by rw[HF.out];rfl,HB1.out⟩
  |true=>
   have HF:Hid (V=imE true gn tl k nx F sD sU D U T r):=by show _=_;rw[HV.out];unfold vgB;rw[hR];rfl
   clear HV hR;go_wp2_with fail;refine(HLD.out w1 HB1.out).mono ?_;rintro e w2 ⟨vv,rfl,I2,b2⟩;obtain⟨bSD,mSD,dSD,bSU,mSU,dSU,bF,mF,dF,bD,mD,dD,bU,mU,dU,bT,dT,rfl,J2⟩:=I2.sixL;have b3:Below w2.heap.size w2 (w2.alloc (.cells #[.bool r.ok,.int .u32 r.g,.int .u32 r.t,.slice bSD mSD dSD,.slice bSU mSU dSU,.slice bF mF dF,.slice bD mD dD,.slice bU mU dU,.int .i64 r.k,.slice bT r.n dT,.int .u32 r.nx] 36)):=(Below.refl _ _).alloc (Nat.le_refl _) _;have HJ:=hid_ofV (J2.below b3);have HB3:=hid_ofV (HB1.out.trans ((b2.trans (b3.mono b2.size)).mono HB1.out.size));have HR3:Hid ((w2.alloc (.cells #[.bool r.ok,.int .u32 r.g,.int .u32 r.t,.slice bSD mSD dSD,.slice bSU mSU dSU,.slice bF mF dF,.slice bD mD dD,.slice bU mU dU,.int .i64 r.k,.slice bT r.n dT,.int .u32 r.nx] 36)).heap[w.heap.size]?=some (.cells #[.slice a n c,.slice x m cx,.int .i64 f,.bool d,.slice ka 32 kc,.bool true,.int .u32 gn,.int .u32 tl,.slice aSD nSD cSD,.slice aSU nSU cSU,.slice aF nF cF,.slice aD nD cD,.slice aU nU cU,.int .i64 k,.slice aT nT cT,.int .u32 nx] 38 (0,0))):=by show _=_;rw[b3.block _ (by have:=b2.size;omega),b2.block _ hlt1];exact HR1.out
   have HQ3:Hid ((w2.alloc (.cells #[.bool r.ok,.int .u32 r.g,.int .u32 r.t,.slice bSD mSD dSD,.slice bSU mSU dSU,.slice bF mF dF,.slice bD mD dD,.slice bU mU dU,.int .i64 r.k,.slice bT r.n dT,.int .u32 r.nx] 36)).heap[w2.heap.size]?=some (.cells #[.bool r.ok,.int .u32 r.g,.int .u32 r.t,.slice bSD mSD dSD,.slice bSU mSU dSU,.slice bF mF dF,.slice bD mD dD,.slice bU mU dU,.int .i64 r.k,.slice bT r.n dT,.int .u32 r.nx] 36 (0,0))):=heap_alloc_new w2 _;clear v0 v1 v2 v3 v4 v5 b2 b3 J2 I2 HR1 HB1 HLD
   go_upto_region 4 with (first
    |(refine wpList_store_row rfl 36 (.tmp 3) (.tmp 21) rfl w2.heap.size #[.bool r.ok,.int .u32 r.g,.int .u32 r.t,.slice bSD mSD dSD,.slice bSU mSU dSU,.slice bF mF dF,.slice bD mD dD,.slice bU mU dU,.int .i64 r.k,.slice bT r.n dT,.int .u32 r.nx] rfl rfl 36 _ (heap_alloc_new w2 _) HSI.out rfl (by simp[Value.oneCell']) ?_)
    |fail)
   try rw[World.setRow_alloc_new]
   generalize w2.alloc (.cells #[.bool r.ok,.int .u32 r.g,.int .u32 r.t,.slice bSD mSD dSD,.slice bSU mSU dSU,.slice bF mF dF,.slice bD mD dD,.slice bU mU dU,.int .i64 r.k,.slice bT r.n dT,.int .u32 r.nx] 36)=w3 at *;have hg3:=(Array.getElem?_eq_some_iff.1 HR3.out).1;have hh3:=(Array.getElem?_eq_some_iff.1 HQ3.out).1;generalize w2.heap.size=H at *;go_wp2_with fail;refine(imEq_any w.heap.size 5 H 0 true r.ok gn r.g tl r.t k r.k nx r.nx aF bF aSD bSD aSU bSU aD bD aU bU aT bT nF cF mF dF nSD cSD mSD dSD nSU cSU mSU dSU nD cD mD dD nU cU mU dU nT cT r.n dT F r.F sD r.sD sU r.sU D r.D U r.U T r.T w3 hg3 hh3 (cell_of_row w3 w.heap.size 5 _ _ _ HR3.out) (cell_of_row w3 w.heap.size 6 _ _ _ HR3.out) (cell_of_row w3 w.heap.size 7 _ _ _ HR3.out) (cell_of_row w3 w.heap.size 8 _ _ _ HR3.out) (cell_of_row w3 w.heap.size 9 _ _ _ HR3.out) (cell_of_row w3 w.heap.size 10 _ _ _ HR3.out) (cell_of_row w3 w.heap.size 11 _ _ _ HR3.out) (cell_of_row w3 w.heap.size 12 _ _ _ HR3.out) (cell_of_row w3 w.heap.size 13 _ _ _ HR3.out) (cell_of_row w3 w.heap.size 14 _ _ _ HR3.out) (cell_of_row w3 w.heap.size 15 _ _ _ HR3.out) (cell_of_row w3 H 0 _ _ _ HQ3.out) (cell_of_row w3 H 1 _ _ _ HQ3.out) (cell_of_row w3 H 2 _ _ _ HQ3.out) (cell_of_row w3 H 3 _ _ _ HQ3.out) (cell_of_row w3 H 4 _ _ _ HQ3.out) (cell_of_row w3 H 5 _ _ _ HQ3.out) (cell_of_row w3 H 6 _ _ _ HQ3.out) (cell_of_row w3 H 7 _ _ _ HQ3.out) (cell_of_row w3 H 8 _ _ _ HQ3.out) (cell_of_row w3 H 9 _ _ _ HQ3.out) (cell_of_row w3 H 10 _ _ _ HQ3.out) ?hl1 ?hb1 ?hA1).mono ?_
   case hl1=>
    obtain⟨⟨q1,q2,q3,q4,q5,q6⟩,_⟩:=HLL.out;obtain⟨_,_,_,_,_,_,s1,s2,s3,s4,s5,s6⟩:=HJ.out;exact⟨q1,s3,q2,s1,q3,s2,q4,s4,q5,s5,q6,s6⟩
   case hb1=>
    obtain⟨_,q1,q2,q3,q4,q5,q6⟩:=HLL.out;obtain⟨_,_,_,_,_,_,s1,s2,s3,s4,s5,s6⟩:=HJ.out;obtain⟨t1,t2,t3,t4,t5,t6⟩:=HBD.out;omega
   case hA1=>
    obtain⟨q1,q2,q3,q4,q5,q6⟩:=HA.out;obtain⟨s1,s2,s3,s4,s5,s6,_⟩:=HJ.out;exact⟨q1.below HB3.out,s3,q2.below HB3.out,s1,q3.below HB3.out,s2,q4.below HB3.out,s4,q5.below HB3.out,s5,q6.below HB3.out,s6⟩
   rintro e w4 ⟨rfl,q,rfl⟩;have hE:decide (true=r.ok∧nx=r.nx∧F=r.F∧(gn=r.g∧tl=r.t∧sD=r.sD∧sU=r.sU)∧k=r.k∧D=r.D∧U=r.U∧T=r.T)=V:=by
    rw[HF.out];unfold imE;rw[decide_eq_decide];constructor
    ·rintro⟨h1,h2,h3,⟨h4,h5,h6,h7⟩,h8,h9,h10,h11⟩;exact⟨h1,h2,h4,h5,h6,h7,h3,h9,h10,h8,h11⟩
    ·rintro⟨h1,h2,h4,h5,h6,h7,h3,h9,h10,h8,h11⟩;exact⟨h1,h2,h3,⟨h4,h5,h6,h7⟩,h8,h9,h10,h11⟩
   rw[hE];have HBF:=hid_ofV (belD HB3.out q);clear hE HF HB3 HR3 HQ3 HJ HA HLL HBD;go_wp2
   go_ret
   exact⟨rfl,HBF.out⟩
end Go.Proofs.YtilpkdnoaldfmaaGreatDoor
