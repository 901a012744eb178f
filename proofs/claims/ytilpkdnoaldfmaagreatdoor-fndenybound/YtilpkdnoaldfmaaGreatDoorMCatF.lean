import Derived.Test.YtilpkdnoaldfmaaGreatDoorMBase
import Derived.Test.YtilpkdnoaldfmaaGreatDoorMSvO
import Derived.Test.YtilpkdnoaldfmaaGreatDoorMMkB
namespace Go.Proofs.YtilpkdnoaldfmaaGreatDoor
open Go.ChangeShapes Go.WideShapes Go.ChangeAt Go.RowKit
set_option linter.unusedVariables false
theorem flat_snoc (zss:List (List Int)) (k:Nat) (h:k<zss.length):(zss.take (k+1)).flatten=(zss.take k).flatten++zss.getD k []:=by
 rw[List.take_succ_eq_append_getElem h,List.flatten_append];simp[h]
theorem flat_le (zss:List (List Int)) (k:Nat):(zss.take k).flatten.length≤zss.flatten.length:=by
 conv=>rhs;rw[←List.take_append_drop k zss]
 rw[List.flatten_append,List.length_append];omega
theorem fold_size (off:Nat) (vs:List Value) (n:Nat) (cs:Array Value):((vs.zipIdx n).foldl (fun cs (x:Value×Nat)=>cs.setIfInBounds (off+x.2) x.1) cs).size=cs.size:=by
 induction vs generalizing n cs with
 |nil=>rfl
 |cons v vs ih=>rw[List.zipIdx_cons,List.foldl_cons,ih];simp
theorem fold_get (off:Nat) (vs:List Value) (n:Nat) (cs:Array Value) (h:off+n+vs.length≤cs.size) (i:Nat) :
  ((vs.zipIdx n).foldl (fun cs (x:Value×Nat)=>cs.setIfInBounds (off+x.2) x.1) cs)[i]?=if off+n≤i∧i<off+n+vs.length then vs[i-(off+n)]? else cs[i]?:=by
 induction vs generalizing n cs with
 |nil=>rw[if_neg (by simp)];rfl
 |cons v vs ih=>
  simp only[List.length_cons] at h;rw[List.zipIdx_cons,List.foldl_cons,ih (n+1) _ (by simp;omega)];by_cases h1:off+(n+1)≤i∧i<off+(n+1)+vs.length
  ·rw[if_pos h1,if_pos (by simp only[List.length_cons];omega),show i-(off+n)=(i-(off+(n+1)))+1 by omega,List.getElem?_cons_succ]
  ·rw[if_neg h1];by_cases h2:i=off+n
   ·subst h2;rw[if_pos (by simp only[List.length_cons];omega),Nat.sub_self,List.getElem?_cons_zero,Array.getElem?_setIfInBounds_self_of_lt (by omega)]
   ·rw[if_neg (by simp only[List.length_cons];omega),Array.getElem?_setIfInBounds_ne (by omega)]
def bkC (d u:List Int) (k:Int) (v:Value):Array Value:=(d.map (Value.int .u8)++u.map (Value.int .u8)++[.int .i64 k,v]).toArray
theorem bkC_size {d u:List Int} (hd:d.length=32) (hu:u.length=32) (k:Int) (v:Value):(bkC d u k v).size=66:=by unfold bkC;simp[hd,hu]
theorem bkC_one (d u:List Int) (k:Int) {v:Value} (hv:v.oneCell'=true):(bkC d u k v).all (fun x=>x.oneCell')=true:=by
 unfold bkC;rw[List.all_toArray];simp only[List.all_append,List.all_map,List.all_cons,List.all_nil,hv];simp[Function.comp_def,Value.oneCell']
def ovl (off:Nat) (vs cs:Array Value):Array Value:=vs.zipIdx.foldl (fun cs (x:Value×Nat)=>cs.setIfInBounds (off+x.2) x.1) cs
theorem ovl_eq (off:Nat) (vs cs:Array Value):ovl off vs cs=((vs.toList.zipIdx 0).foldl (fun cs (x:Value×Nat)=>cs.setIfInBounds (off+x.2) x.1) cs):=by
 unfold ovl;rw[←Array.foldl_toList];simp
theorem ovl_size (off:Nat) (vs cs:Array Value):(ovl off vs cs).size=cs.size:=by rw[ovl_eq];exact fold_size _ _ _ _
theorem ovl_get (off:Nat) (vs cs:Array Value) (h:off+vs.size≤cs.size) (i:Nat):(ovl off vs cs)[i]?=if off≤i∧i<off+vs.size then vs[i-off]? else cs[i]?:=by
 rw[ovl_eq,fold_get off vs.toList 0 cs (by simpa using h) i];simp
theorem fill_cons (places:Nat→Option (Nat×Nat)) (cs:Array Value) (i off size:Nat) (v:Value) (rest:List (Nat×Value)) (hp:places i=some (off,size)) (hs:v.cells.size=size) (hc:off+size≤cs.size) :
  Instr.fill places cs ((i,v)::rest)=Instr.fill places (ovl off v.cells cs) rest:=by
 rw[Instr.fill,hp];simp only[];rw[if_neg (by simp[hs];omega)];rfl
theorem fillB (places:Nat→Option (Nat×Nat)) (p0:places 0=some (0,32)) (p1:places 1=some (32,32)) (p2:places 2=some (64,1)) (p3:places 3=some (65,1)) (z:Array Value) (hz:z.size=66) (d u:List Int) (hd:d.length=32) (hu:u.length=32) (k:Int) (v:Value) (hv:v.cells=#[v]) :
  Instr.fill places z [(0,.agg (d.map (Value.int .u8)).toArray),(1,.agg (u.map (Value.int .u8)).toArray),(2,.int .i64 k),(3,v)]=some (bkC d u k v):=by
 have sd:((d.map (Value.int .u8)).toArray).size=32:=by simp[hd]
 have su:((u.map (Value.int .u8)).toArray).size=32:=by simp[hu]
 have s1:(ovl 0 (d.map (Value.int .u8)).toArray z).size=66:=by rw[ovl_size];exact hz
 have s2:(ovl 32 (u.map (Value.int .u8)).toArray (ovl 0 (d.map (Value.int .u8)).toArray z)).size=66:=by rw[ovl_size];exact s1
 have s3:(ovl 64 #[.int .i64 k] (ovl 32 (u.map (Value.int .u8)).toArray (ovl 0 (d.map (Value.int .u8)).toArray z))).size=66:=by rw[ovl_size];exact s2
 have key:ovl 65 #[v] (ovl 64 #[.int .i64 k] (ovl 32 (u.map (Value.int .u8)).toArray (ovl 0 (d.map (Value.int .u8)).toArray z)))=bkC d u k v:=by
  apply Array.ext_getElem?;intro i;rw[ovl_get _ _ _ (by rw[s3];simp),ovl_get _ _ _ (by rw[s2];simp),ovl_get _ _ _ (by rw[s1,su];omega),ovl_get _ _ _ (by rw[hz,sd];omega),sd,su];have e:(bkC d u k v)[i]?=(d.map (Value.int .u8)++u.map (Value.int .u8)++[.int .i64 k,v])[i]?:=by unfold bkC;simp
  rw[e];simp only[List.size_toArray,List.length_cons,List.length_nil];by_cases h0:i<32
  ·rw[if_neg (by omega),if_neg (by omega),if_neg (by omega),if_pos (by omega)];rw[List.getElem?_append_left (by simp[hd,hu];omega),List.getElem?_append_left (by simp[hd];omega)];simp
  ·by_cases h1:i<64
   ·rw[if_neg (by omega),if_neg (by omega),if_pos (by omega)];rw[List.getElem?_append_left (by simp[hd,hu];omega),List.getElem?_append_right (by simp[hd];omega)];simp[hd]
   ·by_cases h2:i=64
    ·subst h2;rw[if_neg (by omega),if_pos (by omega),List.getElem?_append_right (by simp[hd,hu])];simp[hd,hu]
    ·by_cases h3:i=65
     ·subst h3;rw[if_pos (by omega),List.getElem?_append_right (by simp[hd,hu])];simp[hd,hu]
     ·rw[if_neg (by omega),if_neg (by omega),if_neg (by omega),if_neg (by omega),Array.getElem?_eq_none (by omega),List.getElem?_eq_none (by simp[hd,hu];omega)]
 rw[fill_cons places z 0 0 32 (.agg (d.map (Value.int .u8)).toArray) _ p0 sd (by omega)];rw[fill_cons places _ 1 32 32 (.agg (u.map (Value.int .u8)).toArray) _ p1 su (by show _≤(ovl 0 (d.map (Value.int .u8)).toArray z).size;omega)];rw[fill_cons places _ 2 64 1 (.int .i64 k) _ p2 rfl (by show _≤(ovl 32 (u.map (Value.int .u8)).toArray (ovl 0 (d.map (Value.int .u8)).toArray z)).size;omega)];rw[fill_cons places _ 3 65 1 v _ p3 (by rw[hv];rfl) (by show _≤(ovl 64 #[.int .i64 k] (ovl 32 (u.map (Value.int .u8)).toArray (ovl 0 (d.map (Value.int .u8)).toArray z))).size;omega)];rw[hv,Instr.fill];exact congrArg some key
def bkZ:Array Value:=#[.int .u8 0,.int .u8 0,.int .u8 0,.int .u8 0,.int .u8 0,.int .u8 0,.int .u8 0,.int .u8 0,.int .u8 0,.int .u8 0,.int .u8 0,.int .u8 0,.int .u8 0,.int .u8 0,.int .u8 0,.int .u8 0,.int .u8 0,.int .u8 0,.int .u8 0,.int .u8 0,.int .u8 0,.int .u8 0,.int .u8 0,.int .u8 0,.int .u8 0,.int .u8 0,.int .u8 0,.int .u8 0,.int .u8 0,.int .u8 0,.int .u8 0,.int .u8 0,.int .u8 0,.int .u8 0,.int .u8 0,.int .u8 0,.int .u8 0,.int .u8 0,.int .u8 0,.int .u8 0,.int .u8 0,.int .u8 0,.int .u8 0,.int .u8 0,.int .u8 0,.int .u8 0,.int .u8 0,.int .u8 0,.int .u8 0,.int .u8 0,.int .u8 0,.int .u8 0,.int .u8 0,.int .u8 0,.int .u8 0,.int .u8 0,.int .u8 0,.int .u8 0,.int .u8 0,.int .u8 0,.int .u8 0,.int .u8 0,.int .u8 0,.int .u8 0,.int .i64 0,.slice none 0 0]
theorem Tryz.infoBook:(Tryz.prog.info? 110).map (fun i=>i.zero)=some (some (.agg bkZ)):=by kernel_rfl
theorem Tryz.sizeBook:(Tryz.prog.info? 110).map (·.size)=some 66:=by kernel_rfl
theorem Tryz.placesBook:((Tryz.prog.underlying 110).bind fun d=>match d with|.struct fs=>fs.toList.mapM (fun f=>(Tryz.prog.info? f.type).map fun i=>(f.offset,i.size))|_=>none)=some [(0,32),(32,32),(64,1),(65,1)]:=by kernel_rfl
theorem builtB (d u:List Int) (hd:d.length=32) (hu:u.length=32) (k:Int) (v:Value) (hv:v.cells=#[v]) :
  Tryz.prog.built 110 [(0,.agg (d.map (Value.int .u8)).toArray),(1,.agg (u.map (Value.int .u8)).toArray),(2,.int .i64 k),(3,v)]=some (bkC d u k v):=by
 have hb:∃ places z,(places 0=some (0,32)∧places 1=some (32,32)∧places 2=some (64,1)∧places 3=some (65,1))∧z.size=66∧∀ parts,Tryz.prog.built 110 parts=Instr.fill places z parts:=by
  have h1:=Tryz.infoBook;have h2:=Tryz.placesBook;obtain⟨F,hF⟩:∃ F,Tryz.prog.underlying 110=some (.struct F):=⟨_,Tryz.underlying110⟩
  rw[hF] at h2;have h2':F.toList.mapM (fun f=>(Tryz.prog.info? f.type).map fun i=>(f.offset,i.size))=some [(0,32),(32,32),(64,1),(65,1)]:=h2;cases hi:Tryz.prog.info? 110 with
  |none=>rw[hi] at h1;cases h1
  |some it=>
   rw[hi] at h1;have hz:it.zero=some (.agg bkZ):=by simpa using h1
   refine⟨fun i=>[(0,32),(32,32),(64,1),(65,1)].toArray[i]?,bkZ,⟨rfl,rfl,rfl,rfl⟩,rfl,fun parts=>?_⟩;simp only[Program.built,hi,hF,hz,h2'];rfl
 obtain⟨places,z,⟨p0,p1,p2,p3⟩,hz,h⟩:=hb;rw[h];exact fillB places p0 p1 p2 p3 z hz d u hd hu k v hv
def pOk (S:Nat) (p:PD):Prop:=0≤p.1∧p.1<(S:Int)∧p.2.length=64
def vBase (L m:Nat) (f:Int):Prop:=L%64=0∧8≤L/64∧L/64≤256∧m≤1000∧-1≤f∧f≤1000000
def validB (L:Nat) (ps:List PD) (f:Int):Bool:=@decide (vBase L ps.length f) (by unfold vBase;infer_instance) && ps.all (fun p=>@decide (pOk (L/64) p) (by unfold pOk;infer_instance))
theorem validB_no {L:Nat} {ps:List PD} {f:Int} (h:¬ vBase L ps.length f):validB L ps f=false:=by unfold validB;simp[h]
theorem validB_bad {L:Nat} {ps:List PD} {f:Int} {k:Nat} (hk:k<ps.length) (h:¬ pOk (L/64) (ps.getD k (0,[]))):validB L ps f=false:=by
 unfold validB;rw[Bool.and_eq_false_iff];right;rw[List.all_eq_false];refine⟨ps[k],List.getElem_mem hk,?_⟩;simpa[hk] using h
theorem validB_yes {L:Nat} {ps:List PD} {f:Int} (h:vBase L ps.length f) (h':∀ i,i<ps.length→pOk (L/64) (ps.getD i (0,[]))):validB L ps f=true:=by
 unfold validB;rw[Bool.and_eq_true];refine⟨by simpa using h,?_⟩;rw[List.all_eq_true];intro p hp;obtain⟨k,hk,rfl⟩:=List.mem_iff_getElem.1 hp;simpa[hk] using h' k hk
theorem ret_bool {a b:Bool} (h:a=b):Ending.returned (.bool a)=.returned (.bool b):=by rw[h]
def hasS (L:Nat) (s:Int):Bool:=decide (0≤s∧s<((L/64:Nat):Int))
set_option maxHeartbeats 400000 in
theorem has_any (g:Nat) (a x:Option Addr) (L c m cx:Nat) (f s:Int) (d:Bool) (w:World) (h:w.heap[g]?=some (.cells #[.slice a L c,.slice x m cx,.int .i64 f,.bool d] 27 (0,0))) (hL:L≤1048576) :
  Calls Tryz.prog 43 #[.pointer (some ⟨g,0,none⟩),.int .i64 s] w fun e w'=>e=.returned (.bool (hasS L s))∧w'=w:=by
 have HD:Hid (hasS L s=decide (0≤s∧s<((L/64:Nat):Int))):=rfl;have c0:=cell_of_row w g 0 _ _ _ h;simp at c0;clear h;go_enter Tryz.func43,Tryz.ntmps43;go_wp2;all_goals(go_ret;refine⟨ret_bool ?_,rfl⟩;rw[HD.out];simp;try omega)
set_option maxHeartbeats 400000 in
theorem ival_any (v:Value) (zs:List Int) (ps:List PD) (f:Int) (d:Bool) (w:World) (h:DAt w v zs ps f d) (hz:zs.length≤1048576) (hn:ps.length≤1048576) (hps:∀ i,(ps.getD i (0,[])).2.length≤1048576) :
  Calls Tryz.prog 18 #[v] w fun e w'=>e=.returned (.bool (validB zs.length ps f))∧Below w.heap.size w w':=by
 obtain⟨a,c,x,cx,rfl,hA,hP,_⟩:=h;generalize zs.length=L at *;by_cases hb:vBase L ps.length f
 ·obtain⟨b1,b2,b3,b4,b5,b6⟩:=hb;have HP:=hP;generalize hm:ps.length=m at *;have hB:=(Below.refl w.heap.size w).alloc (Nat.le_refl _) (.cells #[.slice a L c,.slice x m cx,.int .i64 f,.bool d] 27);have P2:=hP.below hB;have HB:Hid _:=hB;have HP2:Hid _:=P2;clear hB P2 hP HP hA;have t1:((L:Int)%64 != 0)=false:=by simp;omega
  have t2:¬ ((L:Int)<512):=by omega
  have t3:¬ (16384<(L:Int)):=by omega
  have t4:¬ (1000<(m:Int)):=by omega
  have t5:¬ (f < -1):=by omega
  have t6:¬ (1000000<f):=by omega
  go_enter Tryz.func18,Tryz.ntmps18;go_wp2;have n0:(w.alloc (.cells #[.slice a L c,.slice x m cx,.int .i64 f,.bool d] 27)).heap[w.heap.size]?=some (.cells #[.slice a L c,.slice x m cx,.int .i64 f,.bool d] 27 (0,0)):=heap_alloc_new w _;have hW:=HB.out;have hP2:=HP2.out;have hz0:w.heap.size<(w.alloc (.cells #[.slice a L c,.slice x m cx,.int .i64 f,.bool d] 27)).heap.size:=by simp
  clear HB HP2;generalize (w.alloc (.cells #[.slice a L c,.slice x m cx,.int .i64 f,.bool d] 27))=W at *
  go_loopw [39] (fun i wr=>∃ k:Nat,k≤m∧i=.int .i64 k∧(∀ i,i<k→pOk (L/64) (ps.getD i (0,[])))∧Below W.heap.size W wr) (fun i _=>m-(intOf i).toNat)
  case atStart=>exact⟨0,Nat.zero_le _,rfl,fun i hi=>by omega,Below.refl _ _⟩
  case round=>
   obtain⟨k,hk,rfl,hall,hbel⟩:=hrel;by_cases hlt:k<m
   ·obtain⟨b,off,rfl,hbl,hc⟩:=PAt.get (PAt.below hP2 hbel) (by omega);obtain⟨y,cy,g1,g2,g3⟩:=hc k (by omega);have HG:Hid _:=hall;clear hall hc;have hp:=hps k;have HQ:Hid (∀ s z,(ps.getD k (0,[])).1=s→(ps.getD k (0,[])).2.length=z→(pOk (L/64) (ps.getD k (0,[]))↔(0≤s∧s<((L/64:Nat):Int)∧z=64))):=by
     rintro _ _ rfl rfl;exact Iff.rfl
    have HQ':Hid _:=HQ.out _ _ rfl rfl;clear HQ;generalize (ps.getD k (0,[])).1=s at *;generalize (ps.getD k (0,[])).2.length=z at *;have hb1:=(Below.refl wr.heap.size wr).alloc (Nat.le_refl _) (.cells #[.int .i64 s,.slice y z cy] 63);have n1:(wr.alloc (.cells #[.int .i64 s,.slice y z cy] 63)).heap[w.heap.size]?=some (.cells #[.slice a L c,.slice (some ⟨b,off,none⟩) m cx,.int .i64 f,.bool d] 27 (0,0)):=by
     rw[hb1.block _ (by have:=hbel.size;omega),hbel.block _ hz0];exact n0
    have HN1:Hid _:=n1;have HBL:Hid (Below W.heap.size W (wr.alloc (.cells #[.int .i64 s,.slice y z cy] 63))):=hbel.trans (hb1.mono hbel.size);clear n1 hbel hb1;by_cases hs:hasS L s=true
    ·by_cases h64:z=64
     ·subst h64;go_wp2_with (go_at_call 43;refine(has_any w.heap.size _ _ _ _ _ _ _ _ _ _ HN1.out hz).mono ?_;rintro e w1 ⟨rfl,rfl⟩;rw[hs]);go_roundw
      case rel=>
       refine⟨k+1,by omega,by go_num,fun i hi=>?_,HBL.out⟩;by_cases e:i=k
       ·subst e;rw[HQ'.out];unfold hasS at hs;simp at hs;simp;omega
       ·exact HG.out i (by omega)
      case measure=>simp[intOf];omega
     ·have h64':((z:Int) != 64)=true:=by rw[bne_iff_ne];omega
      go_wp2_with (go_at_call 43;refine(has_any w.heap.size _ _ _ _ _ _ _ _ _ _ HN1.out hz).mono ?_;rintro e w1 ⟨rfl,rfl⟩;rw[hs])
      go_ret
      refine⟨ret_bool (validB_bad (k:=k) (by omega) ?_).symm,hW.trans (HBL.out.mono (by omega))⟩;rw[HQ'.out];omega
    ·have hs':hasS L s=false:=by simpa using hs
     clear hs;go_wp2_with (go_at_call 43;refine(has_any w.heap.size _ _ _ _ _ _ _ _ _ _ HN1.out hz).mono ?_;rintro e w1 ⟨rfl,rfl⟩;rw[hs'])
     go_ret
     refine⟨ret_bool (validB_bad (k:=k) (by omega) ?_).symm,hW.trans (HBL.out.mono (by omega))⟩;rw[HQ'.out];unfold hasS at hs';simp at hs';omega
   ·have hkm:k=m:=by omega
    subst hkm;go_wp2
    go_ret
    exact⟨ret_bool (validB_yes (by rw[hm];exact⟨b1,b2,b3,b4,b5,b6⟩) (by rw[hm];exact hall)).symm,hW.trans (hbel.mono (by omega))⟩
 ·have hv:=validB_no hb;generalize hm:ps.length=m at *;have HV:Hid _:=hv;have HB:Hid _:=hb;clear hv hb hP hA;go_enter Tryz.func18,Tryz.ntmps18;go_wp2;all_goals first
   |(go_ret;exact⟨ret_bool HV.out.symm,((Below.refl w.heap.size w).alloc (Nat.le_refl _) _)⟩)
   |(exfalso;apply HB.out;unfold vBase;omega)
def overL (zs:List Int) (s:Nat) (z:List Int):List Int:=zs.take (s*64)++(z++zs.drop (s*64+z.length))
theorem overL_len (zs:List Int) (s:Nat) (z:List Int) (h:s*64+z.length≤zs.length):(overL zs s z).length=zs.length:=by simp[overL];omega
structure Ch (B U:Nat) (w w':World):Prop where
 os:w'.os=w.os
 tape:w'.tape=w.tape
 output:w'.output=w.output
 size:w.heap.size≤w'.heap.size
 block:∀ k,k<w.heap.size→(k<B∨U≤k)→w'.heap[k]?=w.heap[k]?
theorem Ch.trans {B U:Nat} {a b c:World} (h:Ch B U a b) (k:Ch B U b c):Ch B U a c:=
 ⟨k.os.trans h.os,k.tape.trans h.tape,k.output.trans h.output,Nat.le_trans h.size k.size,fun i hi hb=>(k.block i (by have:=h.size;omega) hb).trans (h.block i hi hb)⟩
theorem Ch.of_below {B U:Nat} {w w':World} (h:Below w.heap.size w w'):Ch B U w w':=⟨h.os,h.tape,h.output,h.size,fun k hk _=>h.block k hk⟩
theorem Ch.below {B U:Nat} {w w':World} (h:Ch B U w w') (hB:B≤w.heap.size):Below B w w':=⟨h.os,h.tape,h.output,h.size,fun k hk=>h.block k (by omega) (.inl hk)⟩
section
variable {P:Program} {ops:Array Oper} {Q:Exit→Act→World→Prop} {md:Region.Mode}
theorem wpAny_slots2 (frame:(Nat→Value)→Act) (Ext:World→Prop) (Good:Nat→World→(Nat→Value)→Prop) (M:Nat→World→World→Prop)
  (hstab:∀ j o w w' u i v,ops[j]?=some o→M i w w'→i≠j→(∀ e∈o.after,Region.binds md e=true→e.on≠i)→Good j w u→Good j w' (upd u i v))
  (hback:(List.range ops.size).all (fun i=>((ops[i]?).map (fun o=>o.after.all (fun e=>decide (e.on<i)))).getD false)=true)
  (hop:∀(i:Nat) (o:Oper) (u:Nat→Value) (w:World),ops[i]?=some o→Ext w→(∀ e∈o.after,Region.binds md e=true→Good e.on w u)→
   ∀ K:Act→World→Prop,(∀ w' v,Good i w' (upd u i v)→Ext w'→M i w w'→K (frame (upd u i v)) w')→if Region.wanted o (yielded ops (frame u).tmps)=true then Oper.wp P o (frame u) w K Q else K ((frame u).put o.dst undef) w)
  (hdone:∀ u w,Ext w→(∀ i,i<ops.size→Good i w u)→Q .normal (frame u) w) :
  ∀(fuel:Nat) (listed:Array Bool) (u:Nat→Value) (w:World),listed.size=ops.size→Ext w→(∀ i,i<ops.size→listed.getD i false=true→Good i w u)→
   (∀(i:Nat) (o:Oper),ops[i]?=some o→listed.getD i false=true→∀ e∈o.after,Region.binds md e=true→listed.getD e.on false=true)→(listed.toList.filter (!·)).length≤fuel→wpAny P md ops Q fuel listed (frame u) w:=by
 have hb:∀(i:Nat) (o:Oper),ops[i]?=some o→∀ e∈o.after,e.on<i:=fun i o ho e he=>by
  have hi:i<ops.size:=(Array.getElem?_eq_some_iff.1 ho).1;have:=List.all_eq_true.1 hback i (List.mem_range.2 hi);rw[ho] at this;simp at this;obtain⟨k,hk,rfl⟩:=Array.mem_iff_getElem.1 he;exact this k hk
 have hfin:∀(listed:Array Bool) (u:Nat→Value) (w:World),listed.size=ops.size→Ext w→(∀ i,i<ops.size→listed.getD i false=true→Good i w u)→Region.ready md ops listed=[]→Q .normal (frame u) w:=by
  intro listed u w hs he hgd hr;refine hdone u w he fun i hi=>hgd i hi ?_
  have hall:∀ n i,i<n→i<ops.size→listed.getD i false=true:=by
   intro n
   induction n with
   |zero=>intro i h;omega
   |succ n ih=>
    intro i hin hi;by_cases hlt:i<n
    ·exact ih i hlt hi
    ·cases hl:listed.getD i false with
     |true=>rfl
     |false=>
      exfalso
      have hl':listed.getD i true=false:=by
       have hil:i<listed.size:=by omega
       simp[hil] at hl ⊢;exact hl
      have:i∈Region.ready md ops listed:=mem_ready.2 ⟨hi,hl',ops[i],by simp[hi],fun e hee _=>ih e.on (by have:=hb i ops[i] (by simp[hi]) e hee;omega) (by have:=hb i ops[i] (by simp[hi]) e hee;omega)⟩;rw[hr] at this;cases this
  exact hall (i+1) i (by omega) hi
 intro fuel
 induction fuel with
 |zero=>
  intro listed u w hs he hgd hcl hc;have hr:Region.ready md ops listed=[]:=by
   apply List.eq_nil_iff_forall_not_mem.2;intro i hi;obtain⟨h1,h2,_⟩:=mem_ready.1 hi;have hil:i<listed.size:=by omega
   have h3:listed[i]=false:=by simpa[hil] using h2
   have:listed[i]∈listed.toList.filter (!·):=by
    rw[List.mem_filter];exact⟨by simp,by rw[h3];rfl⟩
   have:=List.length_pos_of_mem this;omega
  exact⟨hr,hfin listed u w hs he hgd hr⟩
 |succ fuel ih=>
  intro listed u w hs he hgd hcl hc;refine⟨fun hr=>hfin listed u w hs he hgd hr,fun i hi=>?_⟩;obtain⟨h1,h2,o,ho,h3⟩:=mem_ready.1 hi;refine wpOp_step ho fun K hK=>?_
  refine hop i o u w ho he (fun e hee hbd=>hgd e.on (by have:=hb i o ho e hee;omega) (h3 e hee hbd)) K fun w' v hgv hext hm=>hK _ _ ?_
  have hil:i<listed.size:=by omega
  have hnl:listed.getD i false=false:=by simp[hil] at h2 ⊢;exact h2
  refine ih _ _ w' (by simpa using hs) hext (fun j hj hlj=>?_) (fun j oj hoj hlj e hee hbd=>?_) ?_
  ·rw[getD_set listed i j hil] at hlj;by_cases hji:j=i
   ·subst hji;exact hgv
   ·rw[if_neg hji] at hlj;exact hstab j ops[j] w w' u i v (by simp[hj]) hm (Ne.symm hji) (fun e hee hbd heq=>by
     have:=hcl j ops[j] (by simp[hj]) hlj e hee hbd;rw[heq,hnl] at this;cases this) (hgd j hj hlj)
  ·rw[getD_set listed i e.on hil];rw[getD_set listed i j hil] at hlj;split
   ·rfl
   ·by_cases hji:j=i
    ·subst hji;have:oj=o:=by rw[ho] at hoj;exact(Option.some.inj hoj).symm
     subst this;exact h3 e hee hbd
    ·rw[if_neg hji] at hlj;exact hcl j oj hoj hlj e hee hbd
  ·have:listed.toList[i]?=some false:=by simp[hil] at h2;simp[hil,h2]
   have:=count_set listed.toList i this;rw[Array.toList_setIfInBounds];omega
end
section
variable {P:Program} {ops:Array Oper} {Q:Exit→Act→World→Prop} {md:Region.Mode}
end
end Go.Proofs.YtilpkdnoaldfmaaGreatDoor
