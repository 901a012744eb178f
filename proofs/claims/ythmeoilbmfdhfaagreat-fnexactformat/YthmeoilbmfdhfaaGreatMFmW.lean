import Derived.Test.YthmeoilbmfdhfaaGreatFmG
import Derived.Test.YthmeoilbmfdhfaaGreatISy
import Derived.Test.YthmeoilbmfdhfaaGreatMReg6
import Derived.Test.YthmeoilbmfdhfaaGreatMMark
import Derived.Deep.WholeRow
namespace Go.Proofs.YthmeoilbmfdhfaaGreat
open Go.ChangeShapes Go.WideShapes Go.ChangeAt Go.RowKit
set_option linter.unusedVariables false
structure DB (D g L gc B:Nat) (zs:List Int) (w:World):Prop where
 row:w.heap[D]?=some (.cells #[.slice (some ⟨g,0,none⟩) L gc,.slice none 0 0,.int .i64 (-1),.bool false] 40 (0,0))
 own:Own w B (.slice (some ⟨g,0,none⟩) L gc) zs
theorem DB.lt {D g L gc B:Nat} {zs:List Int} {w:World} (h:DB D g L gc B zs w):D<w.heap.size∧g<w.heap.size:=by
 refine⟨(Array.getElem?_eq_some_iff.1 h.row).1,?_⟩
 obtain⟨g',c,e,_,q,_⟩:=h.own.at_
 cases e;exact q
theorem DB.below {D g L gc B:Nat} {zs:List Int} {w w':World} (h:DB D g L gc B zs w) (b:Below w.heap.size w w'):DB D g L gc B zs w':=⟨by rw[b.block D h.lt.1];exact h.row,h.own.grow b⟩
theorem wr1 (D g L gc B s:Nat) (z zs:List Int) (w:World) (h:DB D g L gc B zs w) (hDg:D≠g) (hL:zs.length=L) (hz:L≤1048576) (v1:L%64=0) (hz64:z.length=64) (hs:s<L/64) (si:Int) (hsi:si=(s:Int)) :
  Calls Tryz.prog 107 #[.pointer (some ⟨D,0,none⟩),.int .i64 si,.agg (z.map (Value.int .u8)).toArray] w fun e w'=>e=.returned (.tuple #[])∧Calls Tryz.prog 108 #[.pointer (some ⟨D,0,none⟩)] w' fun e2 w''=>e2=.returned (.tuple #[])∧DB D g L gc B (overL zs s z) w''∧YR D g w w'':=by
 subst hsi
 have hlt:=h.lt
 refine(write_yes D w.heap.size (.slice (some ⟨g,0,none⟩) L gc) (.slice none 0 0) [] (-1) s z w h.row (POwn.nil _ _) (Nat.le_refl _) hz64 (.inl rfl) (by decide) (by simp)).mono ?_
 rintro e w' ⟨rfl,cv',q,e1,e2,hD,hP,hW⟩
 refine⟨rfl,?_⟩
 obtain⟨ca,cc,rfl,hPM⟩:=hP.mine
 have hq:qps ([]++[q])=[((s:Int),z)]:=by simp[qps,e1,e2]
 rw[hq] at hPM
 have hO:Own w' B (.slice (some ⟨g,0,none⟩) L gc) zs:=h.own.keep (fun k hk=>by
  simp[Value.ownBlock] at hk;subst hk;exact hW.block g hlt.2 (fun e=>hDg e.symm) (by simp[Value.ownBlock]))
 have hok:PsOk L [((s:Int),z)]:=fun i hi=>by
  obtain rfl:i=0:=by simpa using hi
  exact⟨by simp,by show(s:Int)<((L/64:Nat):Int);omega,by simpa using hz64⟩
 refine(sync_yes D g L gc B ca 1 cc (stF (-1)) zs [((s:Int),z)] w.heap.size w'.heap.size w' hD hO hPM hlt.2 (.inr ⟨hlt.1,Nat.le_refl _⟩) hL rfl hz (by decide) v1 hok (.inl rfl) (by decide)).mono ?_
 rintro e w'' ⟨rfl,hD2,hO2,hY⟩
 have hsy:syL zs [((s:Int),z)] 1=overL zs s z:=by
  have:=syL_succ (zs:=zs) (ps:=[((s:Int),z)]) (k:=0) (s:=s) (by simp) rfl hz64;exact this
 rw[hsy] at hO2
 exact⟨rfl,⟨hD2,hO2⟩,YR.trans ⟨hW.os,hW.tape,hW.output,hW.size,fun k hk h1 _=>hW.block k hk h1 (by simp[Value.ownBlock])⟩ hY⟩
noncomputable def fsL:List Int:=snL 0 1 [] []
noncomputable def fsD (zs:List Int):List Int:=overL (overL zs 0 (fsL.take 64)) 1 (fsL.drop 64)
theorem fsL_len:fsL.length=128:=by unfold fsL snL;exact END_len
theorem fsP:SnP 0 1 [] []:=by
 refine⟨by decide,by decide,by decide,?_,by simp,?_⟩<;>(unfold SerP;simp)
theorem rangeOf {w:World} {q:Nat} {t:TypeId} {zz:List Int} (h:Row w q t zz) (o n:Nat) (hl:o+n≤zz.length):w.rangeAt q o (((zz.drop o).take n).map (Value.int .u8)):=by
 intro j v hv
 have hj:j<n:=by have:=(List.getElem?_eq_some_iff.1 hv).1;simp at this;omega
 rw[h.cell (o+j) (by omega)]
 rw[List.getElem?_map,List.getElem?_take_of_lt hj,List.getElem?_drop] at hv
 rw[List.getD_eq_getElem?_getD]
 cases hz:zz[o+j]? with
 |none=>rw[hz] at hv;simp at hv
 |some x=>rw[hz] at hv;simpa using hv
set_option maxRecDepth 100000 in
set_option maxHeartbeats 4000000 in
theorem wsn_any (D g L gc B:Nat) (zs:List Int) (w:World) (h:DB D g L gc B zs w) (hDg:D≠g) (hL:zs.length=L) (hz:L≤1048576) (v1:L%64=0) (v2:2≤L/64) :
  Calls Tryz.prog 58 #[.pointer (some ⟨D,0,none⟩),.agg #[.int .u32 0,.int .u32 1,.slice none 0 0,.slice none 0 0]] w fun e w'=>e=.returned (.tuple #[])∧DB D g L gc B (fsD zs) w'∧YR D g w w':=by
 have HO0:Hid (OE w 30 #[.int .u32 0,.int .u32 1,.slice none 0 0,.slice none 0 0] (w.alloc (.cells #[.int .u32 0,.int .u32 1,.slice none 0 0,.slice none 0 0] 30))):=OE.start _ _ _
 have HB:=hid_of h
 have HV:Hid (D≠g∧zs.length=L∧L≤1048576∧L%64=0∧2≤L/64):=⟨hDg,hL,hz,v1,v2⟩
 clear h hDg hL hz v1 v2
 go_enter Tryz.func58,Tryz.ntmps58
 go_wp2_with fail
 generalize (w.alloc (.cells #[.int .u32 0,.int .u32 1,.slice none 0 0,.slice none 0 0] 30))=w1 at *
 refine(encd_any w.heap.size 0 1 none none 0 0 0 0 [] [] w1 HO0.out.lt (by rw[cell_of_row _ _ 0 _ _ _ HO0.out.b0];rfl) (by rw[cell_of_row _ _ 1 _ _ _ HO0.out.b0];rfl) (by rw[cell_of_row _ _ 2 _ _ _ HO0.out.b0];rfl) (by rw[cell_of_row _ _ 3 _ _ _ HO0.out.b0];rfl) rfl rfl (by decide) (by decide) (.inl rfl) (.inl rfl) ⟨by decide,by decide⟩ ⟨by decide,by decide⟩ fsP).mono ?_
 rintro e w2 ⟨rfl,hb2⟩
 have HO2:Hid (OE w 30 #[.int .u32 0,.int .u32 1,.slice none 0 0,.slice none 0 0] w2):=HO0.out.call hb2
 have HZL:Hid ((snL 0 1 [] []).length=128):=fsL_len
 have HFD:Hid (fsD zs=overL (overL zs 0 ((snL 0 1 [] []).take 64)) 1 ((snL 0 1 [] []).drop 64)):=rfl
 clear hb2 HO0
 generalize snL 0 1 [] []=zz at *
 obtain⟨z0,hz0⟩:∃ z0,zz.take 64=z0:=⟨_,rfl⟩
 obtain⟨z1,hz1⟩:∃ z1,zz.drop 64=z1:=⟨_,rfl⟩
 rw[hz0,hz1] at HFD
 have HZ:=hid_of (And.intro hz0 hz1)
 clear hz0 hz1
 have HN:Hid ((w2.alloc (.cells Tryz.zeroCells124 124)).heap[w2.heap.size]?=some (.cells Tryz.zeroCells124 124 (0,0))):=heap_alloc_new w2 _
 have hsz:(zz.map (Value.int .u8)).toArray.size=128:=by rw[List.size_toArray,List.length_map];exact HZL.out
 have HSZ:Hid ((Tryz.prog.info? 124).map (·.size)=some (zz.map (Value.int .u8)).toArray.size):=by show _=_;rw[hsz];kernel_rfl
 have HEQ:Hid ((Tryz.zeroCells124).size=(zz.map (Value.int .u8)).toArray.size):=by show _=_;rw[hsz];kernel_rfl
 have HOK:Hid ((zz.map (Value.int .u8)).toArray.all (fun x=>x.oneCell')=true):=by show _=_;simp[Value.oneCell']
 have HR:Hid (Row ((w2.alloc (.cells Tryz.zeroCells124 124)).setRow w2.heap.size (zz.map (Value.int .u8)).toArray) w2.heap.size 124 zz):=setRow_heap _ _ _ _ _ _ HN.out
 have b3:Below w2.heap.size w2 ((w2.alloc (.cells Tryz.zeroCells124 124)).setRow w2.heap.size (zz.map (Value.int .u8)).toArray):=((Below.refl _ _).alloc (Nat.le_refl _) _).trans ((Wr.setRow _ _ _).below (Nat.le_refl _))
 have HO3:Hid (OE w 30 #[.int .u32 0,.int .u32 1,.slice none 0 0,.slice none 0 0] ((w2.alloc (.cells Tryz.zeroCells124 124)).setRow w2.heap.size (zz.map (Value.int .u8)).toArray)):=HO2.out.call b3
 have HQ:Hid (D<w2.heap.size∧g<w2.heap.size):=⟨Nat.lt_of_lt_of_le HB.out.lt.1 HO2.out.below.size,Nat.lt_of_lt_of_le HB.out.lt.2 HO2.out.below.size⟩
 clear hsz HO2 b3
 go_upto_region 2 with (first
  |(refine wpList_store_row rfl 124 (.tmp 4) (.tmp 6) rfl w2.heap.size (zz.map (Value.int .u8)).toArray rfl rfl 124 _ HN.out HSZ.out HEQ.out HOK.out ?_)
  |fail)
 clear HN HSZ HEQ HOK
 generalize ((w2.alloc (.cells Tryz.zeroCells124 124)).setRow w2.heap.size (zz.map (Value.int .u8)).toArray)=w3 at *
 generalize w2.heap.size=q at *
 have c0:=cell_of_row w3 w.heap.size 0 _ _ _ HO3.out.b0
 simp at c0
 go_wp2_with fail
 refine(slotOf_any 0 (by decide) (by decide) w3).mono ?_
 rintro e w9 ⟨rfl,h9⟩
 subst h9
 clear c0
 have HB3:Hid (DB D g L gc B zs w9):=HB.out.below (HO3.out.below)
 have HS64:Hid (∀ cs:List Value,cs.length=64→(Tryz.prog.info? 122).map (·.size)=some cs.length):=fun cs h=>by rw[h];kernel_rfl
 have HT0:Hid (w9.rangeAt q 0 (z0.map (Value.int .u8))∧z0.length=64):=⟨by rw[←HZ.out.1];have:=rangeOf HR.out 0 64 (by rw[HZL.out];decide);simpa using this,by rw[←HZ.out.1];simp[HZL.out]⟩
 have HL3:Hid (q<w9.heap.size∧Below w.heap.size w w9):=⟨HR.out.lt,HO3.out.below⟩
 clear HO3
 go_upto_region 3 with fail
 go_wp2_with (first
  |(refine wpList_load_mid rfl 122 (.tmp 13) rfl q 0 rfl (z0.map (Value.int .u8)) _ HT0.out.1 Tryz.underlying122 rfl (HS64.out _ (by rw[List.length_map];exact HT0.out.2)) ?_)
  |fail)
 refine(wr1 D g L gc B 0 z0 zs w9 HB3.out HV.out.1 HV.out.2.1 HV.out.2.2.1 HV.out.2.2.2.1 HT0.out.2 (by have:=HV.out.2.2.2.2;omega) 0 rfl).mono ?_
 rintro e w4 ⟨rfl,HS⟩
 have HS1:=hid_of HS
 clear HS
 go_wp2_with fail
 refine HS1.out.mono ?_
 rintro e w5 ⟨rfl,D5,y5⟩
 have HB5:=hid_of D5
 have HY5:=hid_of y5
 have HR5:Hid (Row w5 q 124 zz):=by show _=_;rw[y5.block q HL3.out.1 (by have:=HQ.out;omega) (by have:=HQ.out;omega)];exact HR.out
 have HT1:Hid (w5.rangeAt q 64 (z1.map (Value.int .u8))∧z1.length=64):=⟨by
  rw[←HZ.out.2];have:=rangeOf HR5.out 64 64 (by rw[HZL.out];decide)
  rwa [List.take_of_length_le (by simp[HZL.out])] at this,by rw[←HZ.out.2];simp[HZL.out]⟩
 have HL5:Hid ((overL zs 0 z0).length=L):=by show _=_;rw[overL_len _ _ _ (by have:=HV.out;have:=HT0.out.2;omega)];exact HV.out.2.1
 clear HS1 D5 y5 HR HT0
 go_wp2_with (first
  |(refine wpList_load_mid rfl 122 (.tmp 21) rfl q 64 rfl (z1.map (Value.int .u8)) _ HT1.out.1 Tryz.underlying122 rfl (HS64.out _ (by rw[List.length_map];exact HT1.out.2)) ?_)
  |fail)
 refine(wr1 D g L gc B 1 z1 _ w5 HB5.out HV.out.1 HL5.out HV.out.2.2.1 HV.out.2.2.2.1 HT1.out.2 (by have:=HV.out.2.2.2.2;omega) 1 rfl).mono ?_
 rintro e w6 ⟨rfl,HS⟩
 have HS1:=hid_of HS
 clear HS
 go_wp2_with fail
 refine HS1.out.mono ?_
 rintro e w7 ⟨rfl,D7,y7⟩
 have HF:Hid (DB D g L gc B (fsD zs) w7∧YR D g w w7):=⟨by rw[HFD.out];exact D7,((YR.trans ⟨HL3.out.2.os,HL3.out.2.tape,HL3.out.2.output,HL3.out.2.size,fun k hk _ _=>HL3.out.2.block k hk⟩ HY5.out).trans y7)⟩
 clear D7 y7 HS1
 go_wp2_with fail
 first|go_end0|go_ret
 exact⟨rfl,HF.out.1,HF.out.2⟩
set_option maxHeartbeats 1000000 in
theorem idnO (m:Nat) (w:World) (h8:8≤m) (h256:m≤256) :
  Calls Tryz.prog 57 #[.int .i64 m] w fun e w'=>∃ g c,e=.returned (.agg #[.slice (some ⟨g,0,none⟩) (m*64) c,.slice none 0 0,.int .i64 (-1),.bool false])∧Own w' w.heap.size (.slice (some ⟨g,0,none⟩) (m*64) c) (List.replicate (m*64) 0)∧Below w.heap.size w w':=by
 have HSD:Hid _:=Tryz.sizeDev
 have t1:¬ (m:Int)<8:=by omega
 have t2:¬ (256:Int)<(m:Int):=by omega
 obtain⟨i0,hi,hz0,hz1,hz2⟩:=info_parts Tryz.infoU8
 have HI:Hid (i0.bytes=1):=hz2
 clear hz2
 go_enter Tryz.func57,Tryz.ntmps57
 go_wp2_with (at_make;refine wpList_make_full _ rfl _ _ 22 rfl (w.heap.size+1) 5 i0 (.int .u8 0) 1 Tryz.underlying22 hi hz0 hz1 _ _ _ _ (m*64) rfl rfl (by omega) (by omega) ?c1 ?c2 ?c3 ?_)
 case c1=>rw[HI.out];omega
 case c2=>unfold maxLen;omega
 intro w1 hown hgrow
 have hres:w1.heap[w.heap.size]?=some (.cells #[.slice none 0 0,.slice none 0 0,.int .i64 0,.bool false] 40 (0,0)):=by
  rw[hgrow.block w.heap.size (by simp) (by simp)];exact heap_alloc_new w _
 have hb1:Below w.heap.size w w1:=(newB w _).trans ((Below.refl _ _).grown hgrow (by simp) (by simp))
 have hown0:w1.ownsRow (w.heap.size+1) 5 1 (.slice (some ⟨w.heap.size+1,0,none⟩) (m*64) (m*64)) (m*64) ((List.replicate (m*64) 0).map (Value.int .u8)):=by
  have e:(madeCells #[Value.int IntKind.u8 0] (m*64)).toList=(List.replicate (m*64) 0).map (Value.int .u8):=by
   simp only[toList_madeCells_one,List.map_replicate]
  rw[←e];simpa using hown
 have hO:Own w1 (w.heap.size+1) (.slice (some ⟨w.heap.size+1,0,none⟩) (m*64) (m*64)) (List.replicate (m*64) 0):=⟨by rw[List.length_replicate];exact hown0,_,_,by rw[List.length_replicate]⟩
 have HM:Hid (Own (w1.setRow w.heap.size #[.slice (some ⟨w.heap.size+1,0,none⟩) (m*64) (m*64),.slice none 0 0,.int .i64 (-1),.bool false]) w.heap.size (.slice (some ⟨w.heap.size+1,0,none⟩) (m*64) (m*64)) (List.replicate (m*64) 0)):=
  (Own.mono (hO.keep (fun k hk=>setRow_other w1 w.heap.size k _ (by simp[Value.ownBlock] at hk;omega))) (by omega))
 have HB:Hid _:=hb1
 have HR:Hid _:=hres
 clear hown hown0 hO hgrow hb1 hres
 go_wp2_with (refine wpList_store_row rfl 40 (.tmp 2) (.tmp 13) rfl w.heap.size #[.slice (some ⟨w.heap.size+1,0,none⟩) (m*64) (m*64),.slice none 0 0,.int .i64 (-1),.bool false] rfl rfl 40 _ HR.out HSD.out rfl (all4d _ _ _ _ _ _ _ _) ?_)
 (try simp only[Exit.inBlock,Exit.then])
 refine bodyPost_ret (v:=.agg #[.slice (some ⟨w.heap.size+1,0,none⟩) (m*64) (m*64),.slice none 0 0,.int .i64 (-1),.bool false]) (results_cell_row rfl _ _ w.heap.size 40 _ (0,0) _ rfl (setRow_heap _ _ _ _ _ _ HR.out) Tryz.underlying40 rfl HSD.out) rfl ⟨_,_,rfl,HM.out,?_⟩
 exact HB.out.trans ((Wr.setRow _ _ _).below (Nat.le_refl _))
set_option maxHeartbeats 1000000 in
theorem sdnO (m:Nat) (w:World) (h8:8≤m) (h256:m≤256) :
  Calls Tryz.prog 55 #[.int .i64 m] w fun e w'=>∃ v,e=.returned v∧DAt w' v (List.replicate (m*64) 0) [] (-1) false∧Below w.heap.size w w':=by
 have HSD:Hid _:=Tryz.sizeDev
 have t1:¬ (m:Int)<8:=by omega
 have t2:¬ (256:Int)<(m:Int):=by omega
 have hm:((m:Int)*64).toNat=m*64:=by omega
 go_enter Tryz.func55,Tryz.ntmps55
 go_wp2_with fail
 refine(zeros_any ((m:Int)*64) _ (by omega) (by omega)).mono ?_
 rintro e w1 ⟨v,rfl,hown,hb1⟩
 have hres:w1.heap[w.heap.size]?=some (.cells #[.slice none 0 0,.slice none 0 0,.int .i64 0,.bool false] 40 (0,0)):=by
  rw[hb1.block w.heap.size (by simp)];exact heap_alloc_new w _
 rw[hm] at hown
 obtain⟨g,c,rfl,q1,q2,q3,q4,q5⟩:=hown.at_
 have hbb:w.heap.size<g:=by simp at q1;omega
 rw[List.length_replicate] at q3 ⊢
 have HC:=hid_of q4
 have HCC:=hid_of q3
 have HB:Hid (Below w.heap.size w w1):=(newB w _).trans (hb1.mono (by simp))
 have HR:Hid _:=hres
 have HG:Hid (w.heap.size<g):=hbb
 clear hown hb1 hres q1 q2 q3 q4 q5 hm hbb
 go_wp2_with (refine wpList_store_row rfl 40 (.tmp 2) (.tmp 13) rfl w.heap.size #[.slice (some ⟨g,0,none⟩) (m*64) c,.slice none 0 0,.int .i64 (-1),.bool false] rfl rfl 40 _ HR.out HSD.out rfl (all4d _ _ _ _ _ _ _ _) ?_)
 (try simp only[Exit.inBlock,Exit.then])
 refine bodyPost_ret (v:=.agg #[.slice (some ⟨g,0,none⟩) (m*64) c,.slice none 0 0,.int .i64 (-1),.bool false]) (results_cell_row rfl _ _ w.heap.size 40 _ (0,0) _ rfl (setRow_heap _ _ _ _ _ _ HR.out) Tryz.underlying40 rfl HSD.out) rfl ⟨_,rfl,⟨some ⟨g,0,none⟩,c,none,0,by rw[List.length_replicate];rfl,HC.out.keep (fun ad e=>by cases e;exact setRow_other w1 w.heap.size g _ (Nat.ne_of_gt HG.out)) (by rw[size_setRow];exact Nat.le_refl _),.inl rfl,by rw[List.length_replicate];exact HCC.out⟩,?_⟩
 exact HB.out.trans ((Wr.setRow _ _ _).below (Nat.le_refl _))
end Go.Proofs.YthmeoilbmfdhfaaGreat
