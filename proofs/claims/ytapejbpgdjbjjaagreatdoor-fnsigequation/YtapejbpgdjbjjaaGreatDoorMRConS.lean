import Derived.Test.YtapejbpgdjbjjaaGreatDoorSRt
import Derived.Test.YtapejbpgdjbjjaaGreatDoorMShD
namespace Go.Proofs.YtapejbpgdjbjjaaGreatDoor
open Go.ChangeShapes Go.WideShapes Go.ChangeAt Go.RowKit
set_option linter.unusedVariables false
def rts:List Nat:=[23241441160490167842,26604808713878332877,31543488660544240431,35287351959220771772,41025191555757552952,43374469216020582425,47431773444313272219,49223322299838333208,52460086356995146306,56674242196778545086,57948244932766773900,61468643694135456994,63608380943893236079,64626287408284341937,66571091106846937653,69291241975837173396,71813108563482594002,72615556083564357091,74922338351982630325,76384605279477341285,77095200552867529333,79152035218479047811,80466001307761769428,82360010132597855157,84757271453788200875,85906662539289440784,86470001012957192511,87575168524888248036,88117443448470540226,89182409882623190821,92723033081372705391,93686458245878541936,95095488024300105724,95556006044611561766,97794660939065469677,98230277650290947039,99514478923103560670,100766364611844223656,101583977345534766822,102786266195516601659,103961068102722061156,104346826991781163009,106234157551817627537,106603670640207904304,107335108066752287256,107697117917222381840,109819772810290077738,111863398698143437240,112528278492720320712,112857792170093030227,113511107980111571865,114477206417490790568,114795642568024087139,116361942610802215627,117281838038729876339,118187525164200278179,119079540232616391420,119373928427484032864,120248493880617511794,120824543361758411244,121110519679094562344,122520547622920568297,124441674862916172053,124979807718728684331,125247145020423037340,125778422408467759623,127603441353585912606,128369846764518166904,129627222056361226170,129875788766833580198,130370087684295691694,131104582549941012251,132071287192121802116,132787134709014930579,133495346155087314620,133963344184962190668,134659270149180113590,135576127461610847786,136029942151059536620,136928597060811708439,26087635650665564424,31950697969885030203,41248173712355948587,48805497317890012913,61180928696206656209,66510681623121259551,76057874264641092971,80407493254657745273]
def tab:List Nat:=rts.map (·%18446744073709551616)
theorem rts3:∀ t<80,rts.getD t 0^3≤prs0.getD (t+1) 0*2^(64*3)∧prs0.getD (t+1) 0*2^(64*3)<(rts.getD t 0+1)^3:=by decide +kernel
theorem rts2:∀ t<8,rts.getD (80+t) 0^2≤prs0.getD (t+1) 0*2^(64*2)∧prs0.getD (t+1) 0*2^(64*2)<(rts.getD (80+t) 0+1)^2:=by decide +kernel
theorem prs_le:∀ t<80,prs0.getD (t+1) 0≤409:=by decide +kernel
theorem prs_le8:∀ t<8,prs0.getD (t+1) 0<64:=by decide +kernel
theorem tab_get (t:Nat):tab.getD t 0=rts.getD t 0%18446744073709551616:=by
 simp only[tab,List.getD_eq_getElem?_getD,List.getElem?_map]
 cases rts[t]?<;>simp
theorem rootC_same {X R T e:Nat} (h1:X^e≤T) (h2:T<(X+1)^e) (h3:R^e≤T) (h4:T<(R+1)^e):X=R:=by
 rcases Nat.lt_trichotomy X R with h|h|h
 ·have:=Nat.pow_le_pow_left (show X+1≤R from h) e;omega
 ·exact h
 ·have:=Nat.pow_le_pow_left (show R+1≤X from h) e;omega
def rcT (t:Int):Int:=if 0≤t∧t<88 then(tab.getD t.toNat 0:Nat) else 0
theorem get3 (n:Nat) (hn:n<80):∃ p R:Nat,(∀ w,Calls Tryz.prog 86 #[.int .i64 n] w fun e w'=>e=.returned (.int .u64 p)∧w'=w)∧p≤409∧R^3≤p*2^(64*3)∧p*2^(64*3)<(R+1)^3∧rcT (n:Int)=(R:Int)%18446744073709551616:=by
 refine⟨prs0.getD (n+1) 0,rts.getD n 0,fun w=>prime_any n w hn,prs_le n hn,(rts3 n hn).1,(rts3 n hn).2,?_⟩
 unfold rcT;rw[if_pos (by omega),Int.toNat_natCast,tab_get];exact Int.natCast_emod _ _
theorem get2 (n:Nat) (hn:n<8):∃ p R:Nat,(∀ w,Calls Tryz.prog 86 #[.int .i64 n] w fun e w'=>e=.returned (.int .u64 p)∧w'=w)∧p≤409∧p<64∧R^2≤p*2^(64*2)∧p*2^(64*2)<(R+1)^2∧rcT (80+(n:Int))=(R:Int)%18446744073709551616:=by
 refine⟨prs0.getD (n+1) 0,rts.getD (80+n) 0,fun w=>prime_any n w (by omega),prs_le n (by omega),prs_le8 n hn,(rts2 n hn).1,(rts2 n hn).2,?_⟩
 unfold rcT;rw[if_pos (by omega),show(80+(n:Int)).toNat=80+n by omega,tab_get];exact Int.natCast_emod _ _
set_option maxHeartbeats 400000 in
theorem rcS_any (t:Int) (w:World) (h0:-9223372036854775808≤t) (h1:t≤9223372036854775807) :
  Calls Tryz.prog 53 #[.int .i64 t] w fun e w'=>e=.returned (.int .u64 (rcT t))∧Below w.heap.size w w':=by
 by_cases ha:0≤t
 ·by_cases hb:t<80
  ·obtain⟨n,rfl⟩:=Int.eq_ofNat_of_zero_le ha;obtain⟨p,R,hp,hp1,hp2,hp3,e⟩:=get3 n (by omega);generalize rcT (n:Int)=r at *;have HE:Hid (r=(R:Int)%18446744073709551616):=e;clear e;go_enter Tryz.func53,Tryz.ntmps53;go_wp2_with fail;refine(hp _).mono ?_;rintro e w1 ⟨rfl,rfl⟩;go_wp2_with fail;have A:=rootC_any p 3 w1 hp1 (.inr rfl);refine A.mono ?_;rintro e w2 ⟨X,rfl,x1,x2,B⟩;rw[rootC_same x1 x2 hp2 hp3,←HE.out];have HB:Hid (Below w1.heap.size w1 w2):=B;clear B x1 x2 A hp hp2 hp3 HE;go_wp2
   go_ret
   exact⟨rfl,HB.out⟩
  ·by_cases hc:t<88
   ·obtain⟨n,hn⟩:∃ n:Nat,t=80+(n:Int):=⟨(t-80).toNat,by omega⟩
    obtain⟨p,R,hp,hp1,hp4,hp2,hp3,e⟩:=get2 n (by omega);rw[←hn] at e;generalize rcT t=r at *;have HE:Hid (r=(R:Int)%18446744073709551616):=e;have HSUB:Hid (t-80=(n:Int)):=by show _=_;omega
    have hb':decide (t<80)=false:=by simpa using hb
    have ha':decide (0≤t)=true:=by simpa using ha
    have hg:80≤t:=by omega
    clear e hn;go_enter Tryz.func53,Tryz.ntmps53;go_wp2_with fail;rw[HSUB.out];refine(hp _).mono ?_;rintro e w1 ⟨rfl,rfl⟩;go_wp2_with fail;have A:=rootC_any p 2 w1 hp1 (.inl ⟨rfl,hp4⟩);refine A.mono ?_;rintro e w2 ⟨X,rfl,x1,x2,B⟩;rw[rootC_same x1 x2 hp2 hp3,←HE.out];have HB:Hid (Below w1.heap.size w1 w2):=B;clear B x1 x2 A hp hp2 hp3 HE;go_wp2
    go_ret
    exact⟨rfl,HB.out⟩
   ·have e:rcT t=0:=by unfold rcT;rw[if_neg (by omega)]
    rw[e];go_enter Tryz.func53,Tryz.ntmps53;go_wp2
    go_ret
    exact⟨rfl,Below.refl _ _⟩
 ·have e:rcT t=0:=by unfold rcT;rw[if_neg (by omega)]
  rw[e];have ha':decide (0≤t)=false:=by simpa using ha
  go_enter Tryz.func53,Tryz.ntmps53;go_wp2
  go_ret
  exact⟨rfl,Below.refl _ _⟩
def TabIn (w:World):Prop:=∀ i,i<88→w.cell? ⟨0,i,none⟩=some (.int .u64 (tab.getD i 0:Nat))
end Go.Proofs.YtapejbpgdjbjjaaGreatDoor
namespace Go.Proofs.YtapejbpgdjbjjaaGreatDoor
open Go.ChangeShapes Go.WideShapes Go.ChangeAt Go.RowKit
set_option linter.unusedVariables false
structure FrG (g:Nat) (w w':World):Prop where
 os:w'.os=w.os
 tape:w'.tape=w.tape
 output:w'.output=w.output
 size:w.heap.size≤w'.heap.size
 block:∀ k,k<w.heap.size→k≠g→w'.heap[k]?=w.heap[k]?
theorem FrG.refl (g:Nat) (w:World):FrG g w w:=⟨rfl,rfl,rfl,Nat.le_refl _,fun _ _ _=>rfl⟩
theorem FrG.trans {g:Nat} {a b c:World} (h:FrG g a b) (k:FrG g b c):FrG g a c:=
 ⟨k.os.trans h.os,k.tape.trans h.tape,k.output.trans h.output,Nat.le_trans h.size k.size,fun i hi hg=>(k.block i (Nat.lt_of_lt_of_le hi h.size) hg).trans (h.block i hi hg)⟩
theorem Wr.frg {g:Nat} {w w':World} (h:Wr g w w'):FrG g w w':=⟨h.os,h.tape,h.output,by rw[h.size];exact Nat.le_refl _,fun k _ hg=>h.block k hg⟩
theorem frg_below {g:Nat} {w w':World} (h:Below w.heap.size w w'):FrG g w w':=⟨h.os,h.tape,h.output,h.size,fun k hk _=>h.block k hk⟩
theorem FrG.below {g B:Nat} {w w':World} (h:FrG g w w') (hB:B≤g) (hw:B≤w.heap.size):Below B w w':=⟨h.os,h.tape,h.output,h.size,fun k hk=>h.block k (by omega) (by omega)⟩
theorem FrG.row {g q:Nat} {w w':World} {e:TypeId} {zs:List Int} (h:FrG g w w') (hr:Row w q e zs) (hq:q≠g):Row w' q e zs:=by unfold Row;rw[h.block q hr.lt hq];exact hr
theorem FrG.rowW {g q:Nat} {w w':World} {e:TypeId} {zs:List Int} (h:FrG g w w') (hr:RowW w q e zs) (hq:q≠g):RowW w' q e zs:=by unfold RowW;rw[h.block q hr.lt hq];exact hr
def rnd (v:List Int) (x:Int):List Int:=
 [IntKind.u64.wrap (rt1 (v.getD 0 0) (v.getD 1 0) (v.getD 2 0) (v.getD 3 0) (v.getD 4 0) (v.getD 5 0) (v.getD 6 0) (v.getD 7 0) x+rt2 (v.getD 0 0) (v.getD 1 0) (v.getD 2 0)),v.getD 0 0,v.getD 1 0,v.getD 2 0,
  IntKind.u64.wrap (v.getD 3 0+rt1 (v.getD 0 0) (v.getD 1 0) (v.getD 2 0) (v.getD 3 0) (v.getD 4 0) (v.getD 5 0) (v.getD 6 0) (v.getD 7 0) x),v.getD 4 0,v.getD 5 0,v.getD 6 0]
def W8 (v:List Int):Prop:=v.length=8∧∀ i,U64 (v.getD i 0)
theorem W8.eight {v:List Int} (h:W8 v):v=[v.getD 0 0,v.getD 1 0,v.getD 2 0,v.getD 3 0,v.getD 4 0,v.getD 5 0,v.getD 6 0,v.getD 7 0]:=by
 obtain⟨hl,_⟩:=h
 match v,hl with
 |[a,b,c,d,e,f,q,z],_=>rfl
theorem u64_zero:U64 0:=⟨by decide,by decide⟩
theorem w8_of {a b c d e f q z:Int} (ha:U64 a) (hb:U64 b) (hc:U64 c) (hd:U64 d) (he:U64 e) (hf:U64 f) (hq:U64 q) (hz:U64 z):W8 [a,b,c,d,e,f,q,z]:=
 ⟨rfl,fun i=>by
  match i with
  |0=>exact ha
  |1=>exact hb
  |2=>exact hc
  |3=>exact hd
  |4=>exact he
  |5=>exact hf
  |6=>exact hq
  |7=>exact hz
  |n+8=>exact u64_zero⟩
theorem rnd_w8 {v:List Int} (h:W8 v) (x:Int):W8 (rnd v x):=w8_of (u64_wrap _) (h.2 0) (h.2 1) (h.2 2) (u64_wrap _) (h.2 4) (h.2 5) (h.2 6)
theorem roundL_any (g:Nat) (ty:TypeId) (v:List Int) (x:Int) (w:World) (hr:RowW w g ty v) (hv:W8 v) (hx:U64 x) :
  Calls Tryz.prog 83 #[.pointer (some ⟨g,0,none⟩),.int .u64 x] w fun en w'=>en=.returned (.tuple #[])∧RowW w' g ty (rnd v x)∧Wr g w w':=by
 have e:=hv.eight
 refine round_any g ty (v.getD 0 0) (v.getD 1 0) (v.getD 2 0) (v.getD 3 0) (v.getD 4 0) (v.getD 5 0) (v.getD 6 0) (v.getD 7 0) x w ?_ (hv.2 0) (hv.2 1) (hv.2 2) (hv.2 3) (hv.2 4) (hv.2 5) (hv.2 6) (hv.2 7) hx
 have h2:=hr
 unfold RowW at h2
 rw[e] at h2
 exact h2
def kt (t:Nat):Int:=((tab.getD t 0:Nat):Int)
theorem kt_u64 (t:Nat):U64 (kt t):=by
 unfold kt
 rw[tab_get]
 have:=Nat.mod_lt (rts.getD t 0) (show 0<18446744073709551616 by decide)
 exact⟨by omega,by omega⟩
def rnds (hs bs:List Int):Nat→List Int
 |0=>hs
 |t+1=>rnd (rnds hs bs t) (IntKind.u64.wrap (kt t+wd bs t))
theorem rnds_w8 {hs:List Int} (h:W8 hs) (bs:List Int) (t:Nat):W8 (rnds hs bs t):=by
 induction t with
 |zero=>exact h
 |succ t ih=>exact rnd_w8 ih _
def mixA (hs vs:List Int) (k:Nat):List Int:=(List.range 8).map fun i=>if i<k then IntKind.u64.wrap (hs.getD i 0+vs.getD i 0) else hs.getD i 0
theorem mixA_len (hs vs:List Int) (k:Nat):(mixA hs vs k).length=8:=by simp[mixA]
theorem mixA_get (hs vs:List Int) (k i:Nat) (h:i<8):(mixA hs vs k).getD i 0=if i<k then IntKind.u64.wrap (hs.getD i 0+vs.getD i 0) else hs.getD i 0:=by unfold mixA;simp[List.getD,h]
theorem mixA_zero {hs:List Int} (h:W8 hs) (vs:List Int):mixA hs vs 0=hs:=by
 rw[h.eight];rfl
theorem mixA_set (hs vs:List Int) (k:Nat) (h:k<8):(mixA hs vs k).set k (IntKind.u64.wrap (hs.getD k 0+vs.getD k 0))=mixA hs vs (k+1):=by
 apply List.ext_getElem?
 intro i
 rw[List.getElem?_set]
 unfold mixA
 by_cases h1:k=i
 ·subst h1;simp[h]
 ·rw[if_neg h1];by_cases h2:i<8
  ·have e:(i<k+1)=(i<k):=by apply propext;omega
   simp[h2,e]
  ·simp[h2]
def mixL (hs bs:List Int):List Int:=mixA hs (rnds hs bs 80) 8
theorem mixL_w8 (hs bs:List Int):W8 (mixL hs bs):=⟨mixA_len _ _ _,fun i=>by
 unfold mixL
 by_cases h:i<8
 ·rw[mixA_get _ _ _ _ h,if_pos h];exact u64_wrap _
 ·rw[List.getD_eq_getElem?_getD,List.getElem?_eq_none (by rw[mixA_len];omega)];exact u64_zero⟩
theorem idx80 (w:World) (vs:List Int) (hl:vs.length=80) (k:Nat) (hk:k<80):(Instr.index 105 (.agg (vs.map (Value.int .u64)).toArray) (.int .i64 (k:Int))).run Tryz.prog w=.ok (.int .u64 (vs.getD k 0)) w:=by
 have h2:k<vs.length:=by omega
 simp[Instr.index,run_underlying Tryz.underlying105,asIntOf,part,go_sem,h2]
 omega
theorem idx8 (w:World) (vs:List Int) (hl:vs.length=8) (k:Nat) (hk:k<8):(Instr.index 66 (.agg (vs.map (Value.int .u64)).toArray) (.int .i64 (k:Int))).run Tryz.prog w=.ok (.int .u64 (vs.getD k 0)) w:=by
 have h2:k<vs.length:=by omega
 simp[Instr.index,run_underlying Tryz.underlying66,asIntOf,part,go_sem,h2]
 omega
theorem TabIn.frg {w w':World} (h:TabIn w) (hw:∀ k,k<w.heap.size→k=0→w'.heap[k]?=w.heap[k]?):TabIn w':=fun i hi=>by
 have hc:=h i hi
 have hz:0<w.heap.size:=block_lt_of_cell (a:=⟨0,0,none⟩) (h 0 (by decide))
 rw[←hc]
 exact World.cell?_of_block (hw 0 hz rfl)
end Go.Proofs.YtapejbpgdjbjjaaGreatDoor
namespace Go.Proofs.YtapejbpgdjbjjaaGreatDoor
open Go.ChangeShapes Go.WideShapes Go.ChangeAt Go.RowKit
set_option linter.unusedVariables false
structure MX (w:World) (g gB:Nat) (hs vs bs:List Int) (y:World):Prop where
 tur:RowW y w.heap.size 66 vs
 wds:RowW y g 66 hs
 tab:TabIn y
 fr:FrG g w y
theorem MX.call {w:World} {g gB:Nat} {hs vs vs' bs:List Int} {y y':World} (h:MX w g gB hs vs bs y) (hg:g<w.heap.size) (h0:0<w.heap.size) (hr:RowW y' w.heap.size 66 vs') (hw:Wr w.heap.size y y'):MX w g gB hs vs' bs y':=
 ⟨hr,hw.rowW h.wds (by omega),h.tab.frg (fun k _ e=>hw.block k (by omega)),⟨hw.os.trans h.fr.os,hw.tape.trans h.fr.tape,hw.output.trans h.fr.output,by rw[hw.size];exact h.fr.size,fun k hk hkg=>(hw.block k (by omega)).trans (h.fr.block k hk hkg)⟩⟩
theorem MX.set {w:World} {g gB:Nat} {hs vs bs:List Int} {y:World} (h:MX w g gB hs vs bs y) (hg:g<w.heap.size) (h0:g≠0) (k:Nat) (x:Int):MX w g gB (hs.set k x) vs bs ((y.setCell ⟨g,k,none⟩ (.int .u64 x)).drew):=by
 have hw:Wr g y ((y.setCell ⟨g,k,none⟩ (.int .u64 x)).drew):=((Wr.refl _ _).setCell k _).drew
 exact⟨hw.rowW h.tur (by omega),h.wds.set k x,h.tab.frg (fun k _ e=>hw.block k (by omega)),h.fr.trans hw.frg⟩
set_option maxRecDepth 100000 in
set_option maxHeartbeats 4000000 in
theorem mix_any (g gB:Nat) (hs bs:List Int) (w:World) (hr:RowW w g 66 hs) (hw8:W8 hs) (hb:Row w gB 69 bs) (hl:bs.length=128) (hz:Byte bs) (hT:TabIn w) (hg0:g≠0) :
  Calls Tryz.prog 46 #[.pointer (some ⟨g,0,none⟩),.pointer (some ⟨gB,0,none⟩)] w fun e w'=>e=.returned (.tuple #[])∧RowW w' g 66 (mixL hs bs)∧FrG g w w':=by
 have hgl:=hr.lt
 have hbl:=hb.lt
 have h0:0<w.heap.size:=by omega
 have H8:=hid_ofS hw8
 have HU:=hid_ofS (fun t=>wd_u64 hz hl t)
 have HR:=hid_ofS hr
 have HZN:Hid (RowW (w.alloc (.cells #[.int .u64 0,.int .u64 0,.int .u64 0,.int .u64 0,.int .u64 0,.int .u64 0,.int .u64 0,.int .u64 0] 66)) w.heap.size 66 [0,0,0,0,0,0,0,0]):=heap_alloc_new w _
 have HAL:Hid (Below w.heap.size w (w.alloc (.cells #[.int .u64 0,.int .u64 0,.int .u64 0,.int .u64 0,.int .u64 0,.int .u64 0,.int .u64 0,.int .u64 0] 66))):=(Below.refl _ _).alloc (Nat.le_refl _) _
 have HB:=hid_ofS (And.intro hb (And.intro hl hz))
 have HT:=hid_ofS hT
 clear hr hw8 hb hl hz hT
 go_enter Tryz.func46,Tryz.ntmps46
 go_wp2_with (first
  |(refine wpList_loadW rfl (.tmp 10) rfl Tryz.underlying66 Tryz.sizeWds g hs rfl H8.out.1 HR.out ?_)
  |(refine wpList_storeW rfl (.tmp 4) (.tmp 11) rfl Tryz.sizeWds w.heap.size hs [0,0,0,0,0,0,0,0] rfl rfl H8.out.1 rfl HZN.out ?_)
  |fail)
 intro w1 hr1 hw1
 have FR1:FrG g w w1:=⟨hw1.os.trans HAL.out.os,hw1.tape.trans HAL.out.tape,hw1.output.trans HAL.out.output,by rw[hw1.size];exact HAL.out.size,fun k hk _=>(hw1.block k (by omega)).trans (HAL.out.block k hk)⟩
 have HM:MX w g gB hs hs bs w1:=⟨hr1,hw1.rowW (HR.out.below HAL.out hgl) (by omega),(HT.out.frg (fun k hk _=>HAL.out.block k hk)).frg (fun k _ e=>hw1.block k (by omega)),FR1⟩
 have A:=hid_ofS (sched_any gB bs w1 (by unfold Row;rw[hw1.block gB (by omega),HAL.out.block gB hbl];exact HB.out.1) HB.out.2.1 HB.out.2.2)
 have HM1:=hid_ofS HM
 clear HM FR1 hr1 hw1 HZN HAL HR HT HB
 go_wp2_with fail
 refine A.out.mono ?_
 rintro e w2 ⟨rfl,b2⟩
 have HM2:Hid (MX w g gB hs (rnds hs bs 0) bs w2):=⟨HM1.out.tur.below b2 HM1.out.tur.lt,HM1.out.wds.below b2 HM1.out.wds.lt,HM1.out.tab.frg (fun k hk _=>b2.block k hk),HM1.out.fr.trans (frg_below b2)⟩
 clear b2 HM1 A
 have hix:=hid_ofS (fun w k hk=>idx80 w (schA bs 80) (schA_len _ _) k hk)
 obtain⟨AV,hAV⟩:∃ AV,AV=((schA bs 80).map (Value.int .u64)).toArray:=⟨_,rfl⟩
 rw[←hAV] at hix ⊢
 clear hAV
 go_wp2
 go_loopw [14] (fun i wr=>∃ k:Nat,k≤80∧i=.int .i64 k∧MX w g gB hs (rnds hs bs k) bs wr) (fun i _=>80-(intOf i).toNat)
 case atStart=>exact⟨0,by omega,rfl,HM2.out⟩
 case round=>
  clear HM2;obtain⟨k,hk,rfl,hm⟩:=hrel;by_cases hlt:k<80
  ·have hlt':(k:Int)<80:=by omega
   have hx:=fun w=>hix.out w k hlt
   rw[schA_get _ _ _ hlt,if_pos hlt] at hx;have hu:=HU.out k;have hc:=hm.tab k (by omega);have hku:=kt_u64 k;have HMk:=hid_ofS hm;have hkt:kt k=((tab.getD k 0:Nat):Int):=rfl;rw[←hkt] at hc;have A:=hid_ofS (roundL_any w.heap.size 66 (rnds hs bs k) (IntKind.u64.wrap (kt k+wd bs k)) wr hm.tur (rnds_w8 H8.out bs k) (u64_wrap _));have HN:Hid (rnds hs bs (k+1)=rnd (rnds hs bs k) (IntKind.u64.wrap (kt k+wd bs k))):=rfl;clear hm hkt;obtain⟨v,hv⟩:∃ v,v=wd bs k:=⟨_,rfl⟩
   obtain⟨c,hcc⟩:∃ c,c=kt k:=⟨_,rfl⟩
   rw[←hv] at hx hu A HN;rw[←hcc] at hc hku A HN;clear hv hcc;obtain⟨hu0,hu1⟩:=hu;obtain⟨hk0,hk1⟩:=hku;go_wp2_with fail;refine A.out.mono ?_;rintro e w3 ⟨rfl,r3,b3⟩;have HM3:Hid (MX w g gB hs (rnds hs bs (k+1)) bs w3):=by rw[HN.out];exact HMk.out.call hgl h0 r3 b3
   clear r3 b3 A HMk HN hc hx;go_wp2;go_roundw
   case rel=>exact⟨k+1,by omega,by go_num,HM3.out⟩
   case measure=>simp[intOf];omega
  ·obtain rfl:k=80:=by omega
   have hVS:=rnds_w8 H8.out bs 80;have HVL:=hid_ofS hVS;have HMF:Hid (mixL hs bs=mixA hs (rnds hs bs 80) 8):=rfl;obtain⟨vs,hvs⟩:∃ vs,vs=rnds hs bs 80:=⟨_,rfl⟩
   rw[←hvs] at hm HVL HMF;clear hVS hvs;have HM3:=hid_ofS hm;have HMZ:Hid (MX w g gB (mixA hs vs 0) vs bs wr):=by rw[mixA_zero H8.out];exact hm
   clear hm hix;go_wp2_with (first
    |(refine wpList_loadW rfl (.tmp 4) rfl Tryz.underlying66 Tryz.sizeWds w.heap.size vs rfl HVL.out.1 HM3.out.tur ?_)
    |fail)
   have hix:=hid_ofS (fun w k hk=>idx8 w vs HVL.out.1 k hk);obtain⟨BV,hBV⟩:∃ BV,BV=(vs.map (Value.int .u64)).toArray:=⟨_,rfl⟩
   rw[←hBV] at hix ⊢;clear hBV HM3;go_wp2
   go_loopw [26] (fun i wr=>∃ k:Nat,k≤8∧i=.int .i64 k∧MX w g gB (mixA hs vs k) vs bs wr) (fun i _=>8-(intOf i).toNat)
   case atStart=>exact⟨0,by omega,rfl,HMZ.out⟩
   case round=>
    rename_i wq _
    obtain⟨k,hk,rfl,hm⟩:=hrel;by_cases hlt:k<8
    ·have hlt':(k:Int)<8:=by omega
     have hx:=fun w=>hix.out w k hlt
     have hu:=HVL.out.2 k;have hh:=H8.out.2 k;have hc:=hm.wds.cell k (by rw[mixA_len];exact hlt);rw[mixA_get _ _ _ _ hlt,if_neg (by omega)] at hc;have hf:=hm.wds.frozen k;have hn:=hm.set hgl hg0 k (IntKind.u64.wrap (hs.getD k 0+vs.getD k 0));rw[mixA_set _ _ _ hlt] at hn;have HN:=hid_ofS hn;clear hn hm;obtain⟨v,hv⟩:∃ v,v=vs.getD k 0:=⟨_,rfl⟩
     obtain⟨c,hcc⟩:∃ c,c=hs.getD k 0:=⟨_,rfl⟩
     rw[←hv] at hx hu HN;rw[←hcc] at hc hh HN;clear hv hcc;obtain⟨hu0,hu1⟩:=hu;obtain⟨hh0,hh1⟩:=hh;go_wp2
     go_region
     go_wp2;go_roundw
     case rel=>exact⟨k+1,by omega,by go_num,HN.out⟩
     case measure=>simp[intOf];omega
    ·obtain rfl:k=8:=by omega
     have HN:=hid_ofS hm;clear hm;go_wp2
     go_end0
     rw[HMF.out];exact⟨rfl,HN.out.wds,HN.out.fr⟩
end Go.Proofs.YtapejbpgdjbjjaaGreatDoor
