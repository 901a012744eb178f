import Derived.Test.YtapejbpgdjbjjaaGreatDoorMShH
import Derived.ScopeJumps
import Derived.WalkMore
namespace Go.Proofs.YtapejbpgdjbjjaaGreatDoor
open Go.ChangeShapes Go.WideShapes Go.ChangeAt Go.RowKit
set_option linter.unusedVariables false
def mrk (zs:List Int):List Int:=(blkOf zs).set zs.length 128
def lenB (bs:List Int) (n:Int):List Int:=ov8 (ov8 bs 112 (n/2^61) 8) 120 (IntKind.u64.wrap (n*8)) 8
def finL (hs zs:List Int) (n:Int):List Int:=
 if zs.length<112 then mixL hs (lenB (mrk zs) n) else mixL (mixL hs (mrk zs)) (lenB (List.replicate 128 0) n)
theorem mrk_len (zs:List Int):(mrk zs).length=128:=by unfold mrk;rw[List.length_set,blkOf_len]
theorem ov8_byte {bs:List Int} (h:Byte bs) (o:Nat) (v:Int) (k:Nat):Byte (ov8 bs o v k):=by
 induction k with
 |zero=>exact h
 |succ k ih=>
  intro z hz;rcases List.mem_or_eq_of_mem_set hz with h'|rfl
  ·exact ih z h'
  ·omega
theorem mrk_byte {zs:List Int} (h:Byte zs):Byte (mrk zs):=by
 intro z hz
 rcases List.mem_or_eq_of_mem_set hz with h'|rfl
 ·exact blkOf_byte h z h'
 ·exact⟨by decide,by decide⟩
theorem lenB_len {bs:List Int} (h:bs.length=128) (n:Int):(lenB bs n).length=128:=by unfold lenB;rw[ov8_len,ov8_len,h]
theorem lenB_byte {bs:List Int} (h:Byte bs) (n:Int):Byte (lenB bs n):=ov8_byte (ov8_byte h _ _ _) _ _ _
theorem zero_byte (n:Nat):Byte (List.replicate n 0):=fun z h=>by rw[(List.mem_replicate.1 h).2];exact⟨by decide,by decide⟩
theorem jump_ret (l:Nat) (J:Act→World→Prop) (Q:Exit→Act→World→Prop) (a:Act) (w:World):Exit.jump l J Q .ret a w=Q .ret a w:=rfl
theorem wp_scope_two {P:Program} {a:Act} {w:World} {Q:Exit→Act→World→Prop} {c r0 r1:Code} (J0 J1:Act→World→Prop) (h0:findLabel c 0=some r0) (h1:findLabel c 1=some r1)
  (first:c.wp P (Exit.jump 0 J0 Q) a w) (p0:∀ a w,J0 a w→r0.wp P (Exit.jump 1 J1 Q) a w) (p1:∀ a w,J1 a w→r1.wp P (Exit.jump 0 (fun _ _=>False) Q) a w):(Code.scope c).wp P Q a w:=by
 intro b k cs
 have hg0:gotoIn 0 (.inScope c::k)=some (.code r0::.inScope c::k):=by simp[gotoIn,h0]
 have hg1:gotoIn 1 (.inScope c::k)=some (.code r1::.inScope c::k):=by simp[gotoIn,h1]
 have k1:∀ a w,J1 a w→∃ e a' w',Q e a' w'∧Arrives P (lone (b.at a (.code r1::.inScope c::k)) cs w) b k cs e a' w':=by
  intro a w hJ;obtain⟨e,a₁,w₁,hq,harr⟩:=p1 a w hJ b (.inScope c::k) cs;cases e with
  |normal=>exact⟨.normal,a₁,w₁,hq,Steps.trans harr (.one step_inScope)⟩
  |exit id=>exact⟨.exit id,a₁,w₁,hq,fun k' hk=>harr k' (by simp[exitTo,hk])⟩
  |goto l'=>exact absurd hq.2 id
  |ret=>exact⟨_,a₁,w₁,hq,harr⟩
  |panic ch=>exact⟨_,a₁,w₁,hq,harr⟩
  |outgrown=>exact⟨_,a₁,w₁,hq,harr⟩
 have k0:∀ a w,J0 a w→∃ e a' w',Q e a' w'∧Arrives P (lone (b.at a (.code r0::.inScope c::k)) cs w) b k cs e a' w':=by
  intro a w hJ;obtain⟨e,a₁,w₁,hq,harr⟩:=p0 a w hJ b (.inScope c::k) cs;cases e with
  |normal=>exact⟨.normal,a₁,w₁,hq,Steps.trans harr (.one step_inScope)⟩
  |exit id=>exact⟨.exit id,a₁,w₁,hq,fun k' hk=>harr k' (by simp[exitTo,hk])⟩
  |goto l'=>
   obtain⟨rfl,hJ'⟩:=hq;obtain⟨e₂,a₂,w₂,hq₂,harr₂⟩:=k1 a₁ w₁ hJ';exact⟨e₂,a₂,w₂,hq₂,.of_steps (harr _ hg1) harr₂⟩
  |ret=>exact⟨_,a₁,w₁,hq,harr⟩
  |panic ch=>exact⟨_,a₁,w₁,hq,harr⟩
  |outgrown=>exact⟨_,a₁,w₁,hq,harr⟩
 obtain⟨e,a₁,w₁,hq,harr⟩:=first b (.inScope c::k) cs
 cases e with
 |normal=>exact⟨.normal,a₁,w₁,hq,.head step_scope (Steps.trans harr (.one step_inScope))⟩
 |exit id=>exact⟨.exit id,a₁,w₁,hq,fun k' hk=>.head step_scope (harr k' (by simp[exitTo,hk]))⟩
 |goto l'=>
  obtain⟨rfl,hJ'⟩:=hq;obtain⟨e₂,a₂,w₂,hq₂,harr₂⟩:=k0 a₁ w₁ hJ';exact⟨e₂,a₂,w₂,hq₂,.of_steps (.head step_scope (harr _ hg0)) harr₂⟩
 |ret=>exact⟨_,a₁,w₁,hq,.of_steps (.one step_scope) harr⟩
 |panic ch=>exact⟨_,a₁,w₁,hq,.of_steps (.one step_scope) harr⟩
 |outgrown=>exact⟨_,a₁,w₁,hq,.of_steps (.one step_scope) harr⟩
structure FS (w:World) (g gL:Nat) (hs bs:List Int) (y:World):Prop where
 row:Row y gL 69 bs
 wds:RowW y g 66 hs
 tab:TabIn y
 fr:FrG g w y
 hi:w.heap.size≤gL
theorem FS.mix {w:World} {g gL:Nat} {hs hs' bs:List Int} {y y':World} (h:FS w g gL hs bs y) (hg:g<w.heap.size) (h0:g≠0) (hr:RowW y' g 66 hs') (hf:FrG g y y'):FS w g gL hs' bs y':=
 ⟨hf.row h.row (by have:=h.hi;omega),hr,h.tab.frg (fun k hk e=>hf.block k hk (by omega)),h.fr.trans hf,h.hi⟩
theorem FS.put {w:World} {g gL:Nat} {hs bs bs':List Int} {y y':World} (h:FS w g gL hs bs y) (hg:g<w.heap.size) (h0:g≠0) (hr:Row y' gL 69 bs') (hw:Wr gL y y'):FS w g gL hs bs' y':=by
 have:=h.hi
 exact⟨hr,hw.rowW h.wds (by omega),h.tab.frg (fun k hk e=>hw.block k (by omega)),⟨hw.os.trans h.fr.os,hw.tape.trans h.fr.tape,hw.output.trans h.fr.output,by rw[hw.size];exact h.fr.size,fun k hk hkg=>(hw.block k (by omega)).trans (h.fr.block k hk hkg)⟩,h.hi⟩
set_option maxRecDepth 100000 in
set_option maxHeartbeats 2000000 in
theorem fin_any (g:Nat) (hs:List Int) (a:Option Addr) (n cap:Nat) (zs:List Int) (len:Int) (w:World) (hr:RowW w g 66 hs) (h8:W8 hs) (hn:zs.length=n) (ha:At .u8 w a zs) (hz:Byte zs) (hm:n<128) (hT:TabIn w) (hg0:g≠0) (hu:U64 len) :
  Calls Tryz.prog 47 #[.pointer (some ⟨g,0,none⟩),.slice a n cap,.int .u64 len] w fun e w'=>e=.returned (.tuple #[])∧RowW w' g 66 (finL hs zs len)∧FrG g w w':=by
 have hgl:=hr.lt
 have z1:=zvBlk
 have z2:=zsBlk
 have z3:=znBlk
 have A:=hid_ofS (blk_any a n cap zs w hn ha (by omega))
 have HR:=hid_ofS hr
 have H8:=hid_ofS h8
 have HT:=hid_ofS hT
 have HU:=hid_ofS hu
 have HZ:=hid_ofS hz
 have HN:=hid_ofS hn
 have hm':(n:Int)<128:=by omega
 clear hr h8 hT hu hz hn ha
 by_cases hc:n<112
 ·have hc':(n:Int)<112:=by omega
  have HF:Hid (finL hs zs len=mixL hs (lenB (mrk zs) len)):=by show _=_;unfold finL;rw[HN.out,if_pos hc]
  go_enter Tryz.func47,Tryz.ntmps47
  go_step3
  go_wp2_with fail;refine A.out.mono ?_;rintro e w1 ⟨rfl,b1⟩;have HB1:=hid_ofS b1;clear A b1;have HZN:Hid (Row (w1.alloc (.cells zBlk 69)) w1.heap.size 69 (List.replicate 128 0)):=by show _=_;rw[heap_alloc_new,zcBlk]
  have HAL:Hid (Below w1.heap.size w1 (w1.alloc (.cells zBlk 69))):=(Below.refl _ _).alloc (Nat.le_refl _) _;have HLB:=hid_ofS (blkOf_len zs);go_wp2_with (first
   |(refine wpList_storeB rfl (.tmp 6) (.tmp 8) rfl Tryz.sizeBlk w1.heap.size (blkOf zs) (List.replicate 128 0) rfl rfl HLB.out (by simp) HZN.out ?_)
   |fail)
  intro w2 hr2 hw2;have hs1:=HB1.out.size;have F2:FS w g w1.heap.size hs (blkOf zs) w2:=⟨hr2,hw2.rowW ((HR.out.below HB1.out hgl).below HAL.out (by omega)) (by omega),((HT.out.frg (fun k hk _=>HB1.out.block k hk)).frg (fun k hk _=>HAL.out.block k hk)).frg (fun k _ e=>hw2.block k (by omega)),
   ⟨hw2.os.trans (HAL.out.os.trans HB1.out.os),hw2.tape.trans (HAL.out.tape.trans HB1.out.tape),hw2.output.trans (HAL.out.output.trans HB1.out.output),by rw[hw2.size];exact Nat.le_trans hs1 HAL.out.size,fun k hk _=>(hw2.block k (by omega)).trans ((HAL.out.block k (by omega)).trans (HB1.out.block k hk))⟩,hs1⟩
  have hcl:=hr2.cell n (by rw[blkOf_len];exact hm);have hfz:=hr2.frozen n;have HS:Hid (FS w g w1.heap.size hs (mrk zs) (w2.setCell ⟨w1.heap.size,n,none⟩ (.int .u8 128))):=by
   have:=F2.put hgl hg0 (hr2.set n 128) ((Wr.refl _ _).setCell n _);unfold mrk;rw[HN.out];exact this
  clear F2 hr2 hw2 HB1 HAL HZN HLB HR HT;obtain⟨w3,hw3⟩:∃ w3,w3=w2.setCell ⟨w1.heap.size,n,none⟩ (.int .u8 128):=⟨_,rfl⟩
  rw[←hw3] at HS;have HW3:=hid_ofS hw3;clear hw3
  go_upto_region 2 with fail
  rw[←HW3.out];clear hcl hfz HW3 z1 z2 z3;go_wp2
  go_step3
  go_wp2_with fail;have B:=hid_ofS (setL_any w1.heap.size len (mrk zs) w3 HS.out.row (mrk_len _) HU.out);refine B.out.mono ?_;rintro e w4 ⟨rfl,r4,b4⟩;have HS4:Hid (FS w g w1.heap.size hs (lenB (mrk zs) len) w4):=HS.out.put hgl hg0 r4 b4;have C:=hid_ofS (mix_any g w1.heap.size hs (lenB (mrk zs) len) w4 HS4.out.wds H8.out HS4.out.row (lenB_len (mrk_len _) _) (lenB_byte (mrk_byte HZ.out) _) HS4.out.tab hg0);clear r4 b4 B HS;go_wp2_with fail;refine C.out.mono ?_;rintro e w5 ⟨rfl,r5,b5⟩;have HS5:Hid (FS w g w1.heap.size (finL hs zs len) (lenB (mrk zs) len) w5):=by rw[HF.out];exact HS4.out.mix hgl hg0 r5 b5
  clear r5 b5 C HS4;go_wp2;rw[Exit.noGoto_ret];refine bodyPost_ret (results_none rfl _ _ _) rfl ?_;exact⟨rfl,HS5.out.wds,HS5.out.fr⟩
 ·have hc':¬ ((n:Int)<112):=by omega
  have HF:Hid (finL hs zs len=mixL (mixL hs (mrk zs)) (lenB (List.replicate 128 0) len)):=by show _=_;unfold finL;rw[HN.out,if_neg hc]
  go_enter Tryz.func47,Tryz.ntmps47;refine wp_scope_two
   (fun a' w'=>∃ gL u3 u4 u5 u7 u8 u9 u10 u11 u12 u13 u14 u15 u16 u17 u18 u19 u20 u21,a'=⟨#[.pointer (some ⟨g,0,none⟩),.slice a n cap,.int .u64 len,u3,u4,u5,.pointer (some ⟨gL,0,none⟩),u7,u8,u9,u10,u11,u12,u13,u14,u15,u16,u17,u18,u19,u20,u21],[]⟩∧FS w g gL hs (mrk zs) w')
   (fun a' w'=>∃ gL u3 u4 u5 u7 u8 u9 u10 u11 u12 u13 u14 u15 u16 u17 u18 u19 u20 u21,a'=⟨#[.pointer (some ⟨g,0,none⟩),.slice a n cap,.int .u64 len,u3,u4,u5,.pointer (some ⟨gL,0,none⟩),u7,u8,u9,u10,u11,u12,u13,u14,u15,u16,u17,u18,u19,u20,u21],[]⟩∧FS w g gL (mixL hs (mrk zs)) (List.replicate 128 0) w')
   rfl rfl ?first ?p0 ?p1
  case first=>
   go_wp2_with fail;refine A.out.mono ?_;rintro e w1 ⟨rfl,b1⟩;have HB1:=hid_ofS b1;clear A b1;have HZN:Hid (Row (w1.alloc (.cells zBlk 69)) w1.heap.size 69 (List.replicate 128 0)):=by show _=_;rw[heap_alloc_new,zcBlk]
   have HAL:Hid (Below w1.heap.size w1 (w1.alloc (.cells zBlk 69))):=(Below.refl _ _).alloc (Nat.le_refl _) _;have HLB:=hid_ofS (blkOf_len zs);go_wp2_with (first
    |(refine wpList_storeB rfl (.tmp 6) (.tmp 8) rfl Tryz.sizeBlk w1.heap.size (blkOf zs) (List.replicate 128 0) rfl rfl HLB.out (by simp) HZN.out ?_)
    |fail)
   intro w2 hr2 hw2;have hs1:=HB1.out.size;have F2:FS w g w1.heap.size hs (blkOf zs) w2:=⟨hr2,hw2.rowW ((HR.out.below HB1.out hgl).below HAL.out (by omega)) (by omega),((HT.out.frg (fun k hk _=>HB1.out.block k hk)).frg (fun k hk _=>HAL.out.block k hk)).frg (fun k _ e=>hw2.block k (by omega)),
    ⟨hw2.os.trans (HAL.out.os.trans HB1.out.os),hw2.tape.trans (HAL.out.tape.trans HB1.out.tape),hw2.output.trans (HAL.out.output.trans HB1.out.output),by rw[hw2.size];exact Nat.le_trans hs1 HAL.out.size,fun k hk _=>(hw2.block k (by omega)).trans ((HAL.out.block k (by omega)).trans (HB1.out.block k hk))⟩,hs1⟩
   have hcl:=hr2.cell n (by rw[blkOf_len];exact hm);have hfz:=hr2.frozen n;have HS:Hid (FS w g w1.heap.size hs (mrk zs) (w2.setCell ⟨w1.heap.size,n,none⟩ (.int .u8 128))):=by
    have:=F2.put hgl hg0 (hr2.set n 128) ((Wr.refl _ _).setCell n _);unfold mrk;rw[HN.out];exact this
   clear F2 hr2 hw2 HB1 HAL HZN HLB HR HT;obtain⟨w3,hw3⟩:∃ w3,w3=w2.setCell ⟨w1.heap.size,n,none⟩ (.int .u8 128):=⟨_,rfl⟩
   rw[←hw3] at HS;have HW3:=hid_ofS hw3;clear hw3
   go_upto_region 2 with fail
   rw[←HW3.out];clear hcl hfz HW3 z1 z2 z3;go_wp2
   go_step3
   exact⟨rfl,w1.heap.size,_,_,_,_,_,_,_,_,_,_,_,_,_,_,_,_,_,_,rfl,HS.out⟩
  case p0=>
   clear A HR HT;rintro a' w' ⟨gL,u3,u4,u5,u7,u8,u9,u10,u11,u12,u13,u14,u15,u16,u17,u18,u19,u20,u21,rfl,hs'⟩;have HS:=hid_ofS hs';have C:=hid_ofS (mix_any g gL hs (mrk zs) w' hs'.wds H8.out hs'.row (mrk_len _) (mrk_byte HZ.out) hs'.tab hg0);clear hs';go_wp2_with fail;refine C.out.mono ?_;rintro e w5 ⟨rfl,r5,b5⟩;have HS5:Hid (FS w g gL (mixL hs (mrk zs)) (mrk zs) w5):=HS.out.mix hgl hg0 r5 b5;clear r5 b5 C HS;go_wp2_with (first
    |(refine wpList_storeB rfl (.tmp 6) (.tmp 21) rfl Tryz.sizeBlk gL (List.replicate 128 0) (mrk zs) rfl rfl (by simp) (mrk_len _) HS5.out.row ?_)
    |fail)
   intro w6 r6 b6;have HS6:Hid (FS w g gL (mixL hs (mrk zs)) (List.replicate 128 0) w6):=HS5.out.put hgl hg0 r6 b6;clear r6 b6 HS5;go_wp2
   go_step3
   exact⟨rfl,gL,_,_,_,_,_,_,_,_,_,_,_,_,_,_,_,_,_,_,rfl,HS6.out⟩
  case p1=>
   clear A HR HT;rintro a' w' ⟨gL,u3,u4,u5,u7,u8,u9,u10,u11,u12,u13,u14,u15,u16,u17,u18,u19,u20,u21,rfl,hs'⟩;have HS:=hid_ofS hs';clear hs';go_wp2_with fail;have B:=hid_ofS (setL_any gL len (List.replicate 128 0) w' HS.out.row (by simp) HU.out);refine B.out.mono ?_;rintro e w4 ⟨rfl,r4,b4⟩;have HS4:Hid (FS w g gL (mixL hs (mrk zs)) (lenB (List.replicate 128 0) len) w4):=HS.out.put hgl hg0 r4 b4;have C:=hid_ofS (mix_any g gL (mixL hs (mrk zs)) (lenB (List.replicate 128 0) len) w4 HS4.out.wds (mixL_w8 _ _) HS4.out.row (lenB_len (by simp) _) (lenB_byte (zero_byte _) _) HS4.out.tab hg0);clear r4 b4 B HS;go_wp2_with fail;refine C.out.mono ?_;rintro e w5 ⟨rfl,r5,b5⟩;have HS5:Hid (FS w g gL (finL hs zs len) (lenB (List.replicate 128 0) len) w5):=by rw[HF.out];exact HS4.out.mix hgl hg0 r5 b5
   clear r5 b5 C HS4;go_wp2;rw[jump_ret];refine bodyPost_ret (results_none rfl _ _ _) rfl ?_;exact⟨rfl,HS5.out.wds,HS5.out.fr⟩
end Go.Proofs.YtapejbpgdjbjjaaGreatDoor
