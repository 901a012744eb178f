import Derived.Test.YtncomnkdlpoelaaGreatDoorMBase
import Derived.Test.YtncomnkdlpoelaaGreatDoorMCatZ
import Derived.ScopeJumps
import Derived.WalkMore
import Derived.Test.YtncomnkdlpoelaaGreatDoorMIDd
import Derived.Deep.Cut
import Derived.Laws.Tables
import Derived.Maps.AppendAt
namespace Go.Proofs.YtncomnkdlpoelaaGreatDoor
open Go.ChangeShapes Go.WideShapes Go.ChangeAt Go.RowKit
set_option linter.unusedVariables false
theorem flat_snoc (zss:List (List Int)) (k:Nat) (h:k<zss.length):(zss.take (k+1)).flatten=(zss.take k).flatten++zss.getD k []:=by
 rw[List.take_succ_eq_append_getElem h,List.flatten_append];simp[h]
theorem flat_le (zss:List (List Int)) (k:Nat):(zss.take k).flatten.length≤zss.flatten.length:=by
 conv=>rhs;rw[←List.take_append_drop k zss]
 rw[List.flatten_append,List.length_append];omega
def mrk (zs:List Int):List Int:=(blkOf zs).set zs.length 128
def lenB (bs:List Int) (n:Int):List Int:=ov8 (ov8 bs 112 (n/2^61) 8) 120 (IntKind.u64.wrap (n*8)) 8
def finL (hs zs:List Int) (n:Int):List Int:=
 if zs.length<112 then mixL hs (lenB (mrk zs) n) else mixL (mixL hs (mrk zs)) (lenB (List.replicate 128 0) n)
theorem mrk_len (zs:List Int):(mrk zs).length=128:=by unfold mrk;rw[List.length_set,blkOf_len]
theorem ov8_byte {bs:List Int} (h:Byte bs) (o:Nat) (v:Int) (k:Nat):Byte (ov8 bs o v k):=by
 induction k with
 |zero=>exact h
 |succ k ih=>
  intro z hz;rcases List.mem_or_eq_of_mem_set hz with h'|rfl
  ·exact ih z h'
  ·omega
theorem mrk_byte {zs:List Int} (h:Byte zs):Byte (mrk zs):=by
 intro z hz;rcases List.mem_or_eq_of_mem_set hz with h'|rfl
 ·exact blkOf_byte h z h'
 ·exact⟨by decide,by decide⟩
theorem lenB_len {bs:List Int} (h:bs.length=128) (n:Int):(lenB bs n).length=128:=by unfold lenB;rw[ov8_len,ov8_len,h]
theorem lenB_byte {bs:List Int} (h:Byte bs) (n:Int):Byte (lenB bs n):=ov8_byte (ov8_byte h _ _ _) _ _ _
theorem zero_byte (n:Nat):Byte (List.replicate n 0):=fun z h=>by rw[(List.mem_replicate.1 h).2];exact⟨by decide,by decide⟩
theorem jump_ret (l:Nat) (J:Act→World→Prop) (Q:Exit→Act→World→Prop) (a:Act) (w:World):Exit.jump l J Q .ret a w=Q .ret a w:=rfl
theorem wp_scope_two {P:Program} {a:Act} {w:World} {Q:Exit→Act→World→Prop} {c r0 r1:Code} (J0 J1:Act→World→Prop) (h0:findLabel c 0=some r0) (h1:findLabel c 1=some r1)
  (first:c.wp P (Exit.jump 0 J0 Q) a w) (p0:∀ a w,J0 a w→r0.wp P (Exit.jump 1 J1 Q) a w) (p1:∀ a w,J1 a w→r1.wp P (Exit.jump 0 (fun _ _=>False) Q) a w):(Code.scope c).wp P Q a w:=by
 intro b k cs;have hg0:gotoIn 0 (.inScope c::k)=some (.code r0::.inScope c::k):=by simp[gotoIn,h0]
 have hg1:gotoIn 1 (.inScope c::k)=some (.code r1::.inScope c::k):=by simp[gotoIn,h1]
 have k1:∀ a w,J1 a w→∃ e a' w',Q e a' w'∧Arrives P (lone (b.at a (.code r1::.inScope c::k)) cs w) b k cs e a' w':=by
  intro a w hJ;obtain⟨e,a₁,w₁,hq,harr⟩:=p1 a w hJ b (.inScope c::k) cs;cases e with
  |normal=>exact⟨.normal,a₁,w₁,hq,Steps.trans harr (.one step_inScope)⟩
  |exit id=>exact⟨.exit id,a₁,w₁,hq,fun k' hk=>harr k' (by simp[exitTo,hk])⟩
  |goto l'=>exact absurd hq.2 id
  |ret=>exact⟨_,a₁,w₁,hq,harr⟩
  |panic ch=>exact⟨_,a₁,w₁,hq,harr⟩
  |outgrown=>exact⟨_,a₁,w₁,hq,harr⟩
 have k0:∀ a w,J0 a w→∃ e a' w',Q e a' w'∧Arrives P (lone (b.at a (.code r0::.inScope c::k)) cs w) b k cs e a' w':=by
  intro a w hJ;obtain⟨e,a₁,w₁,hq,harr⟩:=p0 a w hJ b (.inScope c::k) cs;cases e with
  |normal=>exact⟨.normal,a₁,w₁,hq,Steps.trans harr (.one step_inScope)⟩
  |exit id=>exact⟨.exit id,a₁,w₁,hq,fun k' hk=>harr k' (by simp[exitTo,hk])⟩
  |goto l'=>
   obtain⟨rfl,hJ'⟩:=hq;obtain⟨e₂,a₂,w₂,hq₂,harr₂⟩:=k1 a₁ w₁ hJ';exact⟨e₂,a₂,w₂,hq₂,.of_steps (harr _ hg1) harr₂⟩
  |ret=>exact⟨_,a₁,w₁,hq,harr⟩
  |panic ch=>exact⟨_,a₁,w₁,hq,harr⟩
  |outgrown=>exact⟨_,a₁,w₁,hq,harr⟩
 obtain⟨e,a₁,w₁,hq,harr⟩:=first b (.inScope c::k) cs
 cases e with
 |normal=>exact⟨.normal,a₁,w₁,hq,.head step_scope (Steps.trans harr (.one step_inScope))⟩
 |exit id=>exact⟨.exit id,a₁,w₁,hq,fun k' hk=>.head step_scope (harr k' (by simp[exitTo,hk]))⟩
 |goto l'=>
  obtain⟨rfl,hJ'⟩:=hq;obtain⟨e₂,a₂,w₂,hq₂,harr₂⟩:=k0 a₁ w₁ hJ';exact⟨e₂,a₂,w₂,hq₂,.of_steps (.head step_scope (harr _ hg0)) harr₂⟩
 |ret=>exact⟨_,a₁,w₁,hq,.of_steps (.one step_scope) harr⟩
 |panic ch=>exact⟨_,a₁,w₁,hq,.of_steps (.one step_scope) harr⟩
 |outgrown=>exact⟨_,a₁,w₁,hq,.of_steps (.one step_scope) harr⟩
structure FS (w:World) (g gL:Nat) (hs bs:List Int) (y:World):Prop where
 row:Row y gL 178 bs
 wds:RowW y g 175 hs
 tab:TabIn y
 fr:FrG g w y
 hi:w.heap.size≤gL
theorem FS.mix {w:World} {g gL:Nat} {hs hs' bs:List Int} {y y':World} (h:FS w g gL hs bs y) (hg:g<w.heap.size) (h0:g≠1) (hr:RowW y' g 175 hs') (hf:FrG g y y'):FS w g gL hs' bs y':=
 ⟨hf.row h.row (by have:=h.hi;omega),hr,h.tab.frg (fun k hk e=>hf.block k hk (by omega)),h.fr.trans hf,h.hi⟩
theorem FS.put {w:World} {g gL:Nat} {hs bs bs':List Int} {y y':World} (h:FS w g gL hs bs y) (hg:g<w.heap.size) (h0:1<w.heap.size) (hr:Row y' gL 178 bs') (hw:Wr gL y y'):FS w g gL hs bs' y':=by
 have:=h.hi;exact⟨hr,hw.rowW h.wds (by omega),h.tab.frg (fun k hk e=>hw.block k (by omega)),⟨hw.os.trans h.fr.os,hw.tape.trans h.fr.tape,hw.output.trans h.fr.output,by rw[hw.size];exact h.fr.size,fun k hk hkg=>(hw.block k (by omega)).trans (h.fr.block k hk hkg)⟩,h.hi⟩
set_option maxRecDepth 100000 in
set_option maxHeartbeats 2000000 in
theorem fin_any (g:Nat) (hs:List Int) (a:Option Addr) (n cap:Nat) (zs:List Int) (len:Int) (w:World) (hr:RowW w g 175 hs) (h8:W8 hs) (hn:zs.length=n) (ha:At .u8 w a zs) (hz:Byte zs) (hm:n<128) (hT:TabIn w) (hg0:g≠1) (hu:U64 len) :
  Calls Tryz.prog 134 #[.pointer (some ⟨g,0,none⟩),.slice a n cap,.int .u64 len] w fun e w'=>e=.returned (.tuple #[])∧RowW w' g 175 (finL hs zs len)∧FrG g w w':=by
 have hV:=block_lt_of_cell (a:=⟨1,0,none⟩) (hT 0 (by decide));have hgl:=hr.lt;have z1:=zvBlk;have z2:=zsBlk;have z3:=znBlk;have A:=hid_ofS (blk_any a n cap zs w hn ha (by omega));have HR:=hid_ofS hr;have H8:=hid_ofS h8;have HT:=hid_ofS hT;have HU:=hid_ofS hu;have HZ:=hid_ofS hz;have HN:=hid_ofS hn;have hm':(n:Int)<128:=by omega
 clear hr h8 hT hu hz hn ha;by_cases hc:n<112
 ·have hc':(n:Int)<112:=by omega
  have HF:Hid (finL hs zs len=mixL hs (lenB (mrk zs) len)):=by show _=_;unfold finL;rw[HN.out,if_pos hc]
  go_enter Tryz.func134,Tryz.ntmps134
  go_step3
  go_wp2_with fail;refine A.out.mono ?_;rintro e w1 ⟨rfl,b1⟩;have HB1:=hid_ofS b1;clear A b1;have HZN:Hid (Row (w1.alloc (.cells zBlk 178)) w1.heap.size 178 (List.replicate 128 0)):=by show _=_;rw[heap_alloc_new,zcBlk]
  have HAL:Hid (Below w1.heap.size w1 (w1.alloc (.cells zBlk 178))):=(Below.refl _ _).alloc (Nat.le_refl _) _;have HLB:=hid_ofS (blkOf_len zs);go_wp2_with (first
   |(refine wpList_storeB rfl (.tmp 6) (.tmp 8) rfl Tryz.sizeBlk w1.heap.size (blkOf zs) (List.replicate 128 0) rfl rfl HLB.out (by simp) HZN.out ?_)
   |fail)
  intro w2 hr2 hw2;have hs1:=HB1.out.size;have F2:FS w g w1.heap.size hs (blkOf zs) w2:=⟨hr2,hw2.rowW ((HR.out.below HB1.out hgl).below HAL.out (by omega)) (by omega),((HT.out.frg (fun k hk _=>HB1.out.block k hk)).frg (fun k hk _=>HAL.out.block k hk)).frg (fun k _ e=>hw2.block k (by omega)),
   ⟨hw2.os.trans (HAL.out.os.trans HB1.out.os),hw2.tape.trans (HAL.out.tape.trans HB1.out.tape),hw2.output.trans (HAL.out.output.trans HB1.out.output),by rw[hw2.size];exact Nat.le_trans hs1 HAL.out.size,fun k hk _=>(hw2.block k (by omega)).trans ((HAL.out.block k (by omega)).trans (HB1.out.block k hk))⟩,hs1⟩
  have hcl:=hr2.cell n (by rw[blkOf_len];exact hm);have hfz:=hr2.frozen n;have HS:Hid (FS w g w1.heap.size hs (mrk zs) (w2.setCell ⟨w1.heap.size,n,none⟩ (.int .u8 128))):=by
   have:=F2.put hgl hV (hr2.set n 128) ((Wr.refl _ _).setCell n _);unfold mrk;rw[HN.out];exact this
  clear F2 hr2 hw2 HB1 HAL HZN HLB HR HT;obtain⟨w3,hw3⟩:∃ w3,w3=w2.setCell ⟨w1.heap.size,n,none⟩ (.int .u8 128):=⟨_,rfl⟩
  rw[←hw3] at HS;have HW3:=hid_ofS hw3;clear hw3
  go_upto_region 2 with fail
  rw[←HW3.out];clear hcl hfz HW3 z1 z2 z3;go_wp2
  go_step3
  go_wp2_with fail;have B:=hid_ofS (setL_any w1.heap.size len (mrk zs) w3 HS.out.row (mrk_len _) HU.out);refine B.out.mono ?_;rintro e w4 ⟨rfl,r4,b4⟩;have HS4:=hdI <| HS.out.put hgl hV r4 b4
  have C:=hid_ofS (mix_any g w1.heap.size hs (lenB (mrk zs) len) w4 HS4.out.wds H8.out HS4.out.row (lenB_len (mrk_len _) _) (lenB_byte (mrk_byte HZ.out) _) HS4.out.tab hg0);clear r4 b4 B HS;go_wp2_with fail;refine C.out.mono ?_;rintro e w5 ⟨rfl,r5,b5⟩;have HS5:Hid (FS w g w1.heap.size (finL hs zs len) (lenB (mrk zs) len) w5):=by rw[HF.out];exact HS4.out.mix hgl hg0 r5 b5
  clear r5 b5 C HS4;go_wp2;rw[Exit.noGoto_ret];refine bodyPost_ret (results_none rfl _ _ _) rfl ?_;exact⟨rfl,HS5.out.wds,HS5.out.fr⟩
 ·have hc':¬ ((n:Int)<112):=by omega
  have HF:Hid (finL hs zs len=mixL (mixL hs (mrk zs)) (lenB (List.replicate 128 0) len)):=by show _=_;unfold finL;rw[HN.out,if_neg hc]
  go_enter Tryz.func134,Tryz.ntmps134;refine wp_scope_two
   (fun a' w'=>∃ gL u3 u4 u5 u7 u8 u9 u10 u11 u12 u13 u14 u15 u16 u17 u18 u19 u20 u21,a'=⟨#[.pointer (some ⟨g,0,none⟩),.slice a n cap,.int .u64 len,u3,u4,u5,.pointer (some ⟨gL,0,none⟩),u7,u8,u9,u10,u11,u12,u13,u14,u15,u16,u17,u18,u19,u20,u21],[]⟩∧FS w g gL hs (mrk zs) w')
   (fun a' w'=>∃ gL u3 u4 u5 u7 u8 u9 u10 u11 u12 u13 u14 u15 u16 u17 u18 u19 u20 u21,a'=⟨#[.pointer (some ⟨g,0,none⟩),.slice a n cap,.int .u64 len,u3,u4,u5,.pointer (some ⟨gL,0,none⟩),u7,u8,u9,u10,u11,u12,u13,u14,u15,u16,u17,u18,u19,u20,u21],[]⟩∧FS w g gL (mixL hs (mrk zs)) (List.replicate 128 0) w')
   rfl rfl ?first ?p0 ?p1
  case first=>
   go_wp2_with fail;refine A.out.mono ?_;rintro e w1 ⟨rfl,b1⟩;have HB1:=hid_ofS b1;clear A b1;have HZN:Hid (Row (w1.alloc (.cells zBlk 178)) w1.heap.size 178 (List.replicate 128 0)):=by show _=_;rw[heap_alloc_new,zcBlk]
   have HAL:Hid (Below w1.heap.size w1 (w1.alloc (.cells zBlk 178))):=(Below.refl _ _).alloc (Nat.le_refl _) _;have HLB:=hid_ofS (blkOf_len zs);go_wp2_with (first
    |(refine wpList_storeB rfl (.tmp 6) (.tmp 8) rfl Tryz.sizeBlk w1.heap.size (blkOf zs) (List.replicate 128 0) rfl rfl HLB.out (by simp) HZN.out ?_)
    |fail)
   intro w2 hr2 hw2;have hs1:=HB1.out.size;have F2:FS w g w1.heap.size hs (blkOf zs) w2:=⟨hr2,hw2.rowW ((HR.out.below HB1.out hgl).below HAL.out (by omega)) (by omega),((HT.out.frg (fun k hk _=>HB1.out.block k hk)).frg (fun k hk _=>HAL.out.block k hk)).frg (fun k _ e=>hw2.block k (by omega)),
    ⟨hw2.os.trans (HAL.out.os.trans HB1.out.os),hw2.tape.trans (HAL.out.tape.trans HB1.out.tape),hw2.output.trans (HAL.out.output.trans HB1.out.output),by rw[hw2.size];exact Nat.le_trans hs1 HAL.out.size,fun k hk _=>(hw2.block k (by omega)).trans ((HAL.out.block k (by omega)).trans (HB1.out.block k hk))⟩,hs1⟩
   have hcl:=hr2.cell n (by rw[blkOf_len];exact hm);have hfz:=hr2.frozen n;have HS:Hid (FS w g w1.heap.size hs (mrk zs) (w2.setCell ⟨w1.heap.size,n,none⟩ (.int .u8 128))):=by
    have:=F2.put hgl hV (hr2.set n 128) ((Wr.refl _ _).setCell n _);unfold mrk;rw[HN.out];exact this
   clear F2 hr2 hw2 HB1 HAL HZN HLB HR HT;obtain⟨w3,hw3⟩:∃ w3,w3=w2.setCell ⟨w1.heap.size,n,none⟩ (.int .u8 128):=⟨_,rfl⟩
   rw[←hw3] at HS;have HW3:=hid_ofS hw3;clear hw3
   go_upto_region 2 with fail
   rw[←HW3.out];clear hcl hfz HW3 z1 z2 z3;go_wp2
   go_step3
   exact⟨rfl,w1.heap.size,_,_,_,_,_,_,_,_,_,_,_,_,_,_,_,_,_,_,rfl,HS.out⟩
  case p0=>
   clear A HR HT;rintro a' w' ⟨gL,u3,u4,u5,u7,u8,u9,u10,u11,u12,u13,u14,u15,u16,u17,u18,u19,u20,u21,rfl,hs'⟩;have HS:=hid_ofS hs';have C:=hid_ofS (mix_any g gL hs (mrk zs) w' hs'.wds H8.out hs'.row (mrk_len _) (mrk_byte HZ.out) hs'.tab hg0);clear hs';go_wp2_with fail;refine C.out.mono ?_;rintro e w5 ⟨rfl,r5,b5⟩;have HS5:=hdI <| HS.out.mix hgl hg0 r5 b5
   clear r5 b5 C HS;go_wp2_with (first
    |(refine wpList_storeB rfl (.tmp 6) (.tmp 21) rfl Tryz.sizeBlk gL (List.replicate 128 0) (mrk zs) rfl rfl (by simp) (mrk_len _) HS5.out.row ?_)
    |fail)
   intro w6 r6 b6;have HS6:=hdI <| HS5.out.put hgl hV r6 b6
   clear r6 b6 HS5;go_wp2
   go_step3
   exact⟨rfl,gL,_,_,_,_,_,_,_,_,_,_,_,_,_,_,_,_,_,_,rfl,HS6.out⟩
  case p1=>
   clear A HR HT;rintro a' w' ⟨gL,u3,u4,u5,u7,u8,u9,u10,u11,u12,u13,u14,u15,u16,u17,u18,u19,u20,u21,rfl,hs'⟩;have HS:=hid_ofS hs';clear hs';go_wp2_with fail;have B:=hid_ofS (setL_any gL len (List.replicate 128 0) w' HS.out.row (by simp) HU.out);refine B.out.mono ?_;rintro e w4 ⟨rfl,r4,b4⟩;have HS4:=hdI <| HS.out.put hgl hV r4 b4
   have C:=hid_ofS (mix_any g gL (mixL hs (mrk zs)) (lenB (List.replicate 128 0) len) w4 HS4.out.wds (mixL_w8 _ _) HS4.out.row (lenB_len (by simp) _) (lenB_byte (zero_byte _) _) HS4.out.tab hg0);clear r4 b4 B HS;go_wp2_with fail;refine C.out.mono ?_;rintro e w5 ⟨rfl,r5,b5⟩;have HS5:Hid (FS w g gL (finL hs zs len) (lenB (List.replicate 128 0) len) w5):=by rw[HF.out];exact HS4.out.mix hgl hg0 r5 b5
   clear r5 b5 C HS4;go_wp2;rw[jump_ret];refine bodyPost_ret (results_none rfl _ _ _) rfl ?_;exact⟨rfl,HS5.out.wds,HS5.out.fr⟩
theorem hid_ofV {p:Prop} (h:p):Hid p:=h
theorem belD {B:Nat} {a w:World} (h:Below B a w) (n:Nat):Below B a (w.drewN n):=h.trans ⟨rfl,rfl,rfl,Nat.le_refl _,fun _ _=>rfl⟩
structure BE (w:World) (t:TypeId) (sa sb:Array Value) (wr:World):Prop where
 below:Below w.heap.size w wr
 b0:wr.heap[w.heap.size]?=some (.cells sa t (0,0))
 b1:wr.heap[w.heap.size+1]?=some (.cells sb t (0,0))
theorem BE.start (w:World) (t:TypeId) (sa sb:Array Value):BE w t sa sb ((w.alloc (.cells sa t)).alloc (.cells sb t)):=by
 refine⟨((Below.refl _ _).alloc (Nat.le_refl _) _).alloc (by simp) _,?_,?_⟩
 ·rw[Below.heap_alloc _ _ w.heap.size (by simp)];exact heap_alloc_new w _
 ·have:=heap_alloc_new (w.alloc (.cells sa t)) (.cells sb t)
  rwa [show(w.alloc (.cells sa t)).heap.size=w.heap.size+1 by simp] at this
section
variable {P:Program} {ops:Array Oper} {Q:Exit→Act→World→Prop} {md:Region.Mode}
theorem wpAny_slotsF (last:Nat) (M:Nat→World→World→Prop) (frame:(Nat→Value)→Act) (Ext:(Nat→Bool)→(Nat→Value)→World→Prop) (Good:Nat→(Nat→Bool)→World→Value→Prop) (Fin:(Nat→Value)→World→Prop)
  (hlast:ops.size=last+1)
  (hwait:((ops[last]?).map (fun o=>(List.range last).all (fun j=>o.after.any (fun e=>Region.binds md e && decide (e.on=j))))).getD false=true)
  (hstab:∀ j L w w' i v,i<last→M i w w'→i≠j→L i=false→Good j L w v→Good j (updK L i) w' v)
  (hback:(List.range ops.size).all (fun i=>((ops[i]?).map (fun o=>o.after.all (fun e=>decide (e.on<i)))).getD false)=true)
  (hop:∀(i:Nat) (o:Oper) (L:Nat→Bool) (u:Nat→Value) (w:World),i<last→ops[i]?=some o→L i=false→Ext L u w→(∀ e∈o.after,Region.binds md e=true→L e.on=true∧Good e.on L w (u e.on))→
   ∀ K:Act→World→Prop,(∀ w' v,Good i (updK L i) w' v→Ext (updK L i) (upd u i v) w'→M i w w'→K (frame (upd u i v)) w')→(if Region.wanted o (yielded ops (frame u).tmps)=true then Oper.wp P o (frame u) w K Q else K ((frame u).put o.dst undef) w))
  (hend:∀(o:Oper) (L:Nat→Bool) (u:Nat→Value) (w:World),ops[last]?=some o→Ext L u w→(∀ j,j<last→L j=true∧Good j L w (u j))→
   ∀ K:Act→World→Prop,(∀ w' v,Fin (upd u last v) w'→K (frame (upd u last v)) w')→(if Region.wanted o (yielded ops (frame u).tmps)=true then Oper.wp P o (frame u) w K Q else K ((frame u).put o.dst undef) w))
  (hdone:∀ u w,Fin u w→Q .normal (frame u) w) :
  ∀(fuel:Nat) (listed:Array Bool) (u:Nat→Value) (w:World),listed.size=ops.size→(∀ i,listed.getD i false=false)→Ext (fun n=>listed.getD n false) u w→
   (listed.toList.filter (!·)).length≤fuel→wpAny P md ops Q fuel listed (frame u) w:=by
 have hb:∀(i:Nat) (o:Oper),ops[i]?=some o→∀ e∈o.after,e.on<i:=fun i o ho e he=>by
  have hi:=(Array.getElem?_eq_some_iff.1 ho).1;have:=List.all_eq_true.1 hback i (List.mem_range.2 hi);rw[ho] at this;simp at this;obtain⟨k,hk,rfl⟩:=Array.mem_iff_getElem.1 he;exact this k hk
 have hw:∀ o,ops[last]?=some o→∀ j,j<last→∃ e∈o.after,Region.binds md e=true∧e.on=j:=fun o ho j hj=>by
  rw[ho] at hwait;have h1:(List.range last).all (fun j=>o.after.any (fun e=>Region.binds md e && decide (e.on=j)))=true:=by simpa using hwait
  have h2:=List.all_eq_true.1 h1 j (List.mem_range.2 hj);obtain⟨e,he,h3⟩:=Array.any_eq_true'.1 h2;simp at h3;exact⟨e,he,h3⟩
 intro fuel listed u w hs hnone hext hc;refine wpAny_slotsU (fun i a b=>i=last∨(i<last∧M i a b)) frame (fun L u w=>(L last=false∧Ext L u w)∨(L last=true∧(∀ j,j<last→L j=true)∧Fin u w))
  (fun j L w v=>if j=last then L last=true else(L last=true∨Good j L w v)) ?_ hback ?_ ?_ fuel listed u w hs (.inl ⟨hnone last,hext⟩) (fun i _ hl=>by rw[hnone i] at hl;cases hl) hc
 ·intro j L w w' i v hM hij hLi h;have hu:∀ k,L k=true→updK L i k=true:=fun k hk=>by unfold updK;split<;>simp[hk]
  by_cases hj:j=last
  ·rw[if_pos hj] at h ⊢;exact hu _ h
  ·rw[if_neg hj] at h ⊢;rcases h with h|h
   ·exact .inl (hu _ h)
   ·rcases hM with hil|⟨hi',hM⟩
    ·left;unfold updK;rw[if_pos hil.symm]
    ·exact .inr (hstab j L w w' i v hi' hM hij hLi h)
 ·intro i o L u w ho hLi hx hdep K hK;have hi:i<last+1:=by rw[←hlast];exact(Array.getElem?_eq_some_iff.1 ho).1
  rcases hx with⟨hl,hx⟩|⟨hl,hall,_⟩
  ·by_cases hil:i=last
   ·subst hil;refine hend o L u w ho hx (fun j hj=>?_) K (fun w' v hf=>hK w' v ?_ ?_ (.inl rfl))
    ·obtain⟨e,he,hbd,rfl⟩:=hw o ho j hj;obtain⟨h1,h2⟩:=hdep e he hbd;rw[if_neg (by omega)] at h2;refine⟨h1,h2.resolve_left (by rw[hl];simp)⟩
    ·rw[if_pos rfl];unfold updK;simp
    ·refine .inr ⟨by unfold updK;simp,fun j hj=>?_,hf⟩;obtain⟨e,he,hbd,rfl⟩:=hw o ho j hj;have:=(hdep e he hbd).1;unfold updK;split<;>simp[this]
   ·have hi':i<last:=by omega
    refine hop i o L u w hi' ho hLi hx (fun e he hbd=>?_) K (fun w' v hg hext hm=>hK w' v ?_ ?_ (.inr ⟨hi',hm⟩))
    ·obtain⟨h1,h2⟩:=hdep e he hbd;have hlt:=hb i o ho e he;rw[if_neg (by omega)] at h2;exact⟨h1,h2.resolve_left (by rw[hl];simp)⟩
    ·rw[if_neg hil];exact .inr hg
    ·refine .inl ⟨?_,hext⟩;unfold updK;rw[if_neg (by omega)];exact hl
  ·exfalso
   by_cases hil:i=last
   ·subst hil;rw[hl] at hLi;cases hLi
   ·rw[hall i (by omega)] at hLi;cases hLi
 ·intro L u w hx hg;have h1:=hg last (by omega);rw[if_pos rfl] at h1;rcases hx with⟨hl,_⟩|⟨_,_,hf⟩
  ·rw[hl] at h1;cases h1
  ·exact hdone u w hf
end
def Value.adr:Value→Option Addr
 |.slice a _ _=>a
 |.pointer a=>a
 |_=>none
def Value.has (v:Value) (k:Nat):Prop:=(∃ a,Value.adr v=some a∧a.block=k)∨∃ cs,v=.agg cs∧∃ c,c∈cs.toList∧∃ a,Value.adr c=some a∧a.block=k
def FreshH (w w':World) (v:Value):Prop:=∀ k,Value.has v k→w.heap.size≤k∧k<w'.heap.size
def ApVH (x y:Value):Prop:=∀ k,Value.has x k→¬ Value.has y k
structure ApH (W:World) (ps:List Nat) (L:Nat→Bool) (u:Nat→Value) (w:World):Prop where
 below:Below W.heap.size W w
 blt:∀ p,p∈ps→L p=true→∀ k,Value.has (u p) k→k<w.heap.size
 ap:∀ p,p∈ps→∀ q,q∈ps→p≠q→L p=true→L q=true→ApVH (u p) (u q)
theorem ApH.start (W:World) (ps:List Nat) (L:Nat→Bool) (u:Nat→Value) (h:∀ i,L i=false) {w:World} (b:Below W.heap.size W w):ApH W ps L u w:=
 ⟨b,fun p _ hp=>(by rw[h] at hp;cases hp),fun p _ q _ _ hp=>(by rw[h] at hp;cases hp)⟩
theorem ApH.step {W:World} {ps:List Nat} {L:Nat→Bool} {u:Nat→Value} {w w':World} (h:ApH W ps L u w) (i:Nat) (v:Value) (b:Below w.heap.size w w') (hv:i∈ps→FreshH w w' v):ApH W ps (updK L i) (upd u i v) w':=by
 refine⟨h.below.trans (b.mono h.below.size),fun p hp hl=>?_,fun p hp q hq hne hlp hlq=>?_⟩
 ·by_cases e:p=i
  ·subst e;simp only[upd,if_true];exact fun k hk=>(hv hp k hk).2
  ·simp only[updK,if_neg e] at hl;simp only[upd,if_neg e];exact fun k hk=>Nat.lt_of_lt_of_le (h.blt p hp hl k hk) b.size
 ·by_cases e:p=i
  ·subst e;have e2:¬ q=p:=fun h=>hne h.symm
   simp only[updK,if_neg e2] at hlq;simp only[upd,if_true,if_neg e2];intro k hk hk';have h1:=(hv hp k hk).1;have h2:=h.blt q hq hlq k hk';omega
  ·by_cases e2:q=i
   ·subst e2;simp only[updK,if_neg e] at hlp;simp only[upd,if_true,if_neg e];intro k hk hk';have h1:=(hv hq k hk').1;have h2:=h.blt p hp hlp k hk;omega
   ·simp only[updK,if_neg e,if_neg e2] at hlp hlq;simp only[upd,if_neg e,if_neg e2];exact h.ap p hp q hq hne hlp hlq
theorem run_appG0 (tS tE:TypeId) (z:Value) (size bytes:Nat) (hinfo:(Tryz.prog.info? tE).map (fun i=>(i.zero,i.size,i.bytes))=some (some z,size,bytes)) (hu:Tryz.prog.underlying tS=some (.slice tE))
  (w:World) (ty:TypeId) (v:Addr) (x:Option Addr) (c:Nat):(Builtin.append_ #[tS,tS] ty #[.slice (some v) 0 0,.slice x 0 c]).run Tryz.prog w=.ok (.slice (some v) 0 0) w:=by
 obtain⟨i0,hi,hz0,hz1,hz2⟩:=info_parts hinfo;have hf:=fun ad=>run_firstCells_some (P:=Tryz.prog) w i0.size 0 ad 0 c [] (by simp) (fun j v hv=>by simp at hv)
 have hs:∀ p,(storeCells p []).run Tryz.prog w=.ok () w:=fun _=>rfl
 cases x with
 |none=>simp[Builtin.append_,run_underlying hu,sizeOf,typeInfo,zeroValue,hi,hz0,Builtin.lenOf,run_firstCells_none,hs]
 |some ad=>simp[Builtin.append_,run_underlying hu,sizeOf,typeInfo,zeroValue,hi,hz0,Builtin.lenOf,hf,hs]
def EmS (lo:Nat) (tE:TypeId) (w:World) (v:Value):Prop:=∃ g,v=.slice (some ⟨g,0,none⟩) 0 0∧lo≤g∧w.heap[g]?=some (.cells #[] tE (0,0))
theorem EmS.below {lo:Nat} {tE:TypeId} {w w':World} {v:Value} (h:EmS lo tE w v) (b:Below w.heap.size w w'):EmS lo tE w' v:=by
 obtain⟨g,e,h1,h2⟩:=h;exact⟨g,e,h1,by rw[b.block g (Array.getElem?_eq_some_iff.1 h2).1];exact h2⟩
theorem EmS.wr {lo R:Nat} {tE:TypeId} {w w':World} {v:Value} (h:EmS lo tE w v) (hw:Wr R w w') (hR:R<lo):EmS lo tE w' v:=by
 obtain⟨g,e,h1,h2⟩:=h;exact⟨g,e,h1,by rw[hw.block g (by omega)];exact h2⟩
theorem EmS.new {lo:Nat} (tE:TypeId) (w:World) (h:lo≤w.heap.size):EmS lo tE (w.alloc (.cells #[] tE)) (.slice (some ⟨w.heap.size,0,none⟩) 0 0):=⟨_,rfl,h,heap_alloc_new w _⟩
theorem EmS.owns {lo:Nat} {tE:TypeId} {w:World} {g:Nat} (size:Nat) (h1:lo≤g) (h2:w.heap[g]?=some (.cells #[] tE (0,0))):w.ownsRow lo tE size (.slice (some ⟨g,0,none⟩) 0 0) 0 []:=
 ⟨by simp,.inr ⟨g,0,#[],rfl,h1,h2,Nat.le_refl _,by simp[maxLen],by simp,by simp⟩⟩
theorem wp_appG (tS tE:TypeId) (z:Value) (size bytes:Nat) (hinfo:(Tryz.prog.info? tE).map (fun i=>(i.zero,i.size,i.bytes))=some (some z,size,bytes)) (hu:Tryz.prog.underlying tS=some (.slice tE)) (hzs:z.cells.size=size) (hsz:0<size) (hby:bytes≤64)
  (w:World) {o:Oper} {a:Act} {K:Act→World→Prop} {Q:Exit→Act→World→Prop} (s x:Operand) (hop:o.op=Op.call { callee:=Callee.builtin Builtin.append,args:=#[s,x],argTypes:=#[tS,tS] })
  (S:Nat) (v:Value) (hs:a.eval s=v) (hem:EmS S tE w v) (xa:Option Addr) (n c:Nat) (zs:List Int) (hx:a.eval x=.slice xa n c) (hl:zs.length=n*size) (hA:At .i64 w xa zs) (hb:n≤1048576) (hSw:S≤w.heap.size)
  (h:∀ v' w',w'.ownsRow S tE size v' n (zs.map (Value.int .i64))→Below w.heap.size w w'→K (a.put o.dst v') w'):o.wp Tryz.prog a w K Q:=by
 obtain⟨B,rfl,hB,hrow⟩:=hem;have hown:=EmS.owns size hB hrow;by_cases h0:n=0
 ·subst h0;have hz:zs=[]:=List.eq_nil_of_length_eq_zero (by omega);have hk:=h (.slice (some ⟨B,0,none⟩) 0 0) w (by rw[hz];exact hown) (Below.refl _ _);have hr:=run_appG0 tS tE z size bytes hinfo hu w o.type ⟨B,0,none⟩ xa c;unfold Oper.wp execOp;simp only[hop,resolve,invoke,builtin,Sem.run_bind,Sem.run_pure,Result.andThen_ok,List.map_toArray,List.map_cons,List.map_nil,hs,hx,hr];exact hk
 ·have hz0':0<zs.length:=by rw[hl];exact Nat.mul_pos (by omega) hsz
  obtain⟨b,off,rfl,hbl,hc⟩:=hA.get hz0';obtain⟨i0,hi,hz0,hz1,hz2⟩:=info_parts hinfo;have hnews:∀ j u,(zs.map (Value.int .i64))[j]?=some u→w.cell? ((⟨b,off,none⟩:Addr).add j)=some u:=by
   intro j u hu;have hj:j<zs.length:=by have:=(List.getElem?_eq_some_iff.1 hu).1;simpa using this
   rw[Addr.add_lit,hc j hj];simp[hj] at hu;simp[hj,hu]
  have hle:=Nat.mul_le_mul hb hby;have hfit:Builtin.nextslicecap (0+n) 0*i0.bytes≤281474976710656:=by rw[Nat.zero_add,nextslicecap_zero (by omega),hz2];omega
  have hg:=run_append_grow (P:=Tryz.prog) w tS o.type tE i0 z hu hi hz0 ⟨B,0,none⟩ 0 0 [] (by simp) (fun j v hv=>by simp at hv) ⟨b,off,none⟩ n c (zs.map (Value.int .i64)) (by simp[hz1,hl]) hnews (by omega) (by omega) hfit;obtain⟨v',w',hr,h2,h3,h4⟩:=run_append_own (P:=Tryz.prog) w S tS o.type tE i0 z size bytes hu hi hz0 hz1 hz2 hzs hsz _ 0 [] hown ⟨b,off,none⟩ n c (zs.map (Value.int .i64)) (by simp[hl]) hnews (ints_oneCell _ _) (by unfold maxLen;omega) (by rw[Nat.zero_add];omega) hSw;have he:=hr.symm.trans hg;injection he with e1 e2
  have hBl:Below w.heap.size w w':=by rw[e2];exact(Below.refl _ _).drew.alloc (Nat.le_refl _) _
  have hk:=h v' w' (by simpa using h2) hBl;unfold Oper.wp execOp;simp only[hop,resolve,invoke,builtin,Sem.run_bind,Sem.run_pure,Result.andThen_ok,List.map_toArray,List.map_cons,List.map_nil,hs,hx,hr];exact hk
theorem wpList_appG (tS tE:TypeId) (z:Value) (size bytes:Nat) (hinfo:(Tryz.prog.info? tE).map (fun i=>(i.zero,i.size,i.bytes))=some (some z,size,bytes)) (hu:Tryz.prog.underlying tS=some (.slice tE)) (hzs:z.cells.size=size) (hsz:0<size) (hby:bytes≤64)
  (w:World) {ops:Array Oper} {rest:List Oper} {o:Oper} {a:Act} {Q:Exit→Act→World→Prop} (hgd:o.guard=none) (s x:Operand) (hop:o.op=Op.call { callee:=Callee.builtin Builtin.append,args:=#[s,x],argTypes:=#[tS,tS] })
  (S:Nat) (v:Value) (hs:a.eval s=v) (hem:EmS S tE w v) (xa:Option Addr) (n c:Nat) (zs:List Int) (hx:a.eval x=.slice xa n c) (hl:zs.length=n*size) (hA:At .i64 w xa zs) (hb:n≤1048576) (hSw:S≤w.heap.size)
  (h:∀ v' w',w'.ownsRow S tE size v' n (zs.map (Value.int .i64))→Below w.heap.size w w'→wpList Tryz.prog ops Q rest (a.put o.dst v') w'):wpList Tryz.prog ops Q (o::rest) a w:=
 wpList_plain hgd fun _ hK=>wp_appG tS tE z size bytes hinfo hu hzs hsz hby w s x hop S v hs hem xa n c zs hx hl hA hb hSw fun v' w' h1 h2=>hK _ _ (h v' w' h1 h2)
def TapO (B:Nat) (w:World) (v:Value) (T:List Int) (n:Nat):Prop:=w.ownsRow B 70 2 v n (T.map (Value.int .i64))
theorem run_nilS (t tE:TypeId) (hu:Tryz.prog.underlying t=some (.slice tE)) (w:World) (a:Option Addr) (n c:Nat):(binOp .eql t (.slice a n c) (.slice none 0 0)).run Tryz.prog w=.ok (.bool a.isNone) w:=by
 have h:∀ d,(Op.equalIn (d+1) t (.slice a n c) (.slice none 0 0)).run Tryz.prog w=.ok a.isNone w:=fun d=>by
  cases a<;>simp[Op.equalIn,run_underlying hu]
 have h':(Op.equal t (.slice a n c) (.slice none 0 0)).run Tryz.prog w=.ok a.isNone w:=h 9999;simp only[binOp];simp[h']
set_option maxRecDepth 100000 in
set_option maxHeartbeats 1000000 in
theorem clnT0_any (a:Option Addr) (n cap:Nat) (xs:List Int) (w:World) (hn:xs.length=n*2) (hm:n≤1048576) (ha:At .i64 w a xs) :
  Calls Tryz.prog 45 #[.slice a n cap] w fun e w'=>∃ v,e=.returned v∧TapO w.heap.size w' v xs n∧Below w.heap.size w w':=by
 have E:=run_nilS 24 70 Tryz.underlying24 w a n cap;cases a with
 |none=>
  have hx:xs=[]:=by rcases ha with h|⟨b,o,e,_⟩;exact h;cases e
  have HP:Hid (TapO w.heap.size w (.slice none 0 0) xs n):=by
   subst hx;obtain rfl:n=0:=by simp at hn;omega
   exact⟨rfl,.inl ⟨rfl,rfl⟩⟩
  clear hn ha hm hx;go_enter Tryz.func45,Tryz.ntmps45;go_wp2
  go_ret
  exact⟨_,rfl,HP.out,Below.refl _ _⟩
 |some ad=>
  have bb:Below w.heap.size w (w.alloc (.cells #[] 70)):=(Below.refl _ _).alloc (Nat.le_refl _) _;have HA:Hid (At .i64 (w.alloc (.cells #[] 70)) (some ad) xs∧EmS w.heap.size 70 (w.alloc (.cells #[] 70)) (.slice (some ⟨w.heap.size,0,none⟩) 0 0)):=⟨ha.below bb,EmS.new _ w (Nat.le_refl _)⟩
  have HB:=hid_ofV bb;have HN:=hid_ofV (And.intro hn hm);clear hn ha hm bb;go_enter Tryz.func45,Tryz.ntmps45;go_wp2_with (first
   |(refine wpList_plain rfl fun K hK=>wp_appG 24 70 (.agg #[.int .i64 0,.int .i64 0]) 2 16 Tryz.infoTap Tryz.underlying24 rfl (by decide) (by decide) _ (.tmp 5) (.tmp 6) rfl w.heap.size _ rfl HA.out.2 (some ad) n cap xs rfl HN.out.1 HA.out.1 HN.out.2 (by simp) fun v' w3 ho hb=>hK _ _ ?_)
   |fail)
  have HF:Hid (TapO w.heap.size w3 v' xs n∧Below w.heap.size w w3):=⟨by first|exact ho|(unfold TapO;rw[HN.out.1];exact ho),HB.out.trans (hb.mono HB.out.size)⟩
  clear ho hb HA HB HN;go_wp2
  go_ret
  exact⟨_,rfl,HF.out.1,HF.out.2⟩
end Go.Proofs.YtncomnkdlpoelaaGreatDoor
