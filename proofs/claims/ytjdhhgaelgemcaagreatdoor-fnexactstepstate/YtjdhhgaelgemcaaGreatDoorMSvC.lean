import Derived.Test.YtjdhhgaelgemcaaGreatDoorMSvB
import Derived.Test.YtjdhhgaelgemcaaGreatDoorMSvM
import Derived.Laws.Tables
import Derived.Maps.AppendAt
import Derived.Test.YtjdhhgaelgemcaaGreatDoorMReg
import Derived.Deep.Cut
import Derived.BigQuiet
import Derived.Test.YtjdhhgaelgemcaaGreatDoorMSvP
import Derived.Test.YtjdhhgaelgemcaaGreatDoorMTxt
import Derived.BigRegion
namespace Go.Proofs.YtjdhhgaelgemcaaGreatDoor
open Go.ChangeShapes Go.WideShapes Go.ChangeAt Go.RowKit
set_option linter.unusedVariables false
def TapO (B:Nat) (w:World) (v:Value) (T:List Int) (n:Nat):Prop:=w.ownsRow B 77 2 v n (T.map (Value.int .i64))
theorem run_nilT (w:World) (a:Option Addr) (n c:Nat):(binOp .eql 31 (.slice a n c) (.slice none 0 0)).run Tryz.prog w=.ok (.bool a.isNone) w:=by
 have h:∀ d,(Op.equalIn (d+1) 31 (.slice a n c) (.slice none 0 0)).run Tryz.prog w=.ok a.isNone w:=fun d=>by
  cases a<;>simp[Op.equalIn,run_underlying Tryz.underlying31]
 have h':(Op.equal 31 (.slice a n c) (.slice none 0 0)).run Tryz.prog w=.ok a.isNone w:=h 9999;simp only[binOp];simp[h']
def ClT (w:World) (T:List Int) (n:Nat) (e:Ending) (w':World):Prop:=∃ v,e=.returned v∧TapO w.heap.size w' v T n∧v.oneCell'=true∧Below w.heap.size w w'
theorem wpList_appT (w:World) {ops:Array Oper} {rest:List Oper} {o:Oper} {a:Act} {Q:Exit→Act→World→Prop} (hg:o.guard=none) (sx x:Operand)
  (hop:o.op=Op.call { callee:=Callee.builtin Builtin.append,args:=#[sx,x],argTypes:=#[31,31] }) (B:Nat) (v:Value) (xs:List Value) (hs:a.eval sx=v) (hown:w.ownsRow B 77 2 v 0 xs)
  (ad:Addr) (n c:Nat) (T:List Int) (hx:a.eval x=.slice (some ad) n c) (hl:(T.map (Value.int .i64)).length=n*2) (hnews:∀ j u,(T.map (Value.int .i64))[j]?=some u→w.cell? (ad.add j)=some u) (hm:n≤1048576) (hB:B≤w.heap.size)
  (hK:∀ v' w',w'.ownsRow B 77 2 v' n (xs++T.map (Value.int .i64))→w.grownBy w' v.ownBlock→wpList Tryz.prog ops Q rest (a.put o.dst v') w') :
  wpList Tryz.prog ops Q (o::rest) a w:=by
 obtain⟨i0,hi,hz0,hz1,hz2⟩:=info_parts Tryz.infoTap;refine wpList_append_own_at w hg sx x 31 hop B 77 i0 (.agg #[.int .i64 0,.int .i64 0]) 2 16 Tryz.underlying31 hi hz0 hz1 hz2 rfl (by decide) v 0 xs hs hown ad n c (T.map (Value.int .i64)) hx hl hnews (ints_oneCell _ _) (by unfold maxLen;omega) (by omega) hB ?_;intro v' w' h1 h2 _ _;rw[Nat.zero_add] at h1;exact hK v' w' h1 h2
set_option maxRecDepth 100000 in
set_option maxHeartbeats 1000000 in
theorem clnT_any (a:Option Addr) (n cap:Nat) (T:List Int) (w:World) (hn:T.length=n*2) (hm:n≤1048576) (ha:At .i64 w a T) (hnil:a=none→n=0∧cap=0) :
  Calls Tryz.prog 47 #[.slice a n cap] w (ClT w T n):=by
 cases a with
 |none=>
  obtain⟨rfl,rfl⟩:=hnil rfl;have hT:T=[]:=List.eq_nil_of_length_eq_zero (by omega);subst hT;have HP:Hid (ClT w [] 0 (.returned (.slice none 0 0)) w):=⟨_,rfl,⟨by simp,.inl ⟨rfl,rfl⟩⟩,rfl,Below.refl _ _⟩
  have E:=run_nilT w none 0 0;clear hn ha hnil hm;go_enter Tryz.func47,Tryz.ntmps47;go_wp2
  go_ret
  exact HP.out
 |some ad=>
  have HNW:Hid (∀ j u,(T.map (Value.int .i64))[j]?=some u→(w.alloc (.cells #[] 77)).cell? (ad.add j)=some u):=by
   intro j u hu;have hj:j<T.length:=by have:=(List.getElem?_eq_some_iff.1 hu).1;simpa using this
   obtain⟨b,off,e,hb,hc⟩:=ha.get (by omega);cases e;rw[Addr.add_lit,World.cell?_alloc_old _ _ _ (by show b≠w.heap.size;omega),hc j hj];simp[hj] at hu;simp[hj,hu]
  have HO:Hid ((w.alloc (.cells #[] 77)).ownsRow w.heap.size 77 2 (.slice (some ⟨w.heap.size,0,none⟩) 0 0) 0 []):=
   ⟨by simp,.inr ⟨w.heap.size,0,#[],rfl,Nat.le_refl _,heap_alloc_new w _,Nat.le_refl _,by simp[maxLen],rfl,rfl⟩⟩
  have HL:Hid ((T.map (Value.int .i64)).length=n*2∧n≤1048576):=⟨by simp[hn],hm⟩
  have E:=run_nilT w (some ad) n cap;clear hn ha hnil hm;go_enter Tryz.func47,Tryz.ntmps47;go_wp2_with (first
   |(refine wpList_appT _ rfl (.tmp 5) (.tmp 6) rfl w.heap.size _ [] rfl HO.out ad n cap T rfl HL.out.1 HNW.out HL.out.2 (by simp) ?_)
   |fail)
  intro v' w3 ho hgr;have HF:Hid (ClT w T n (.returned v') w3):=by
   have hB:Below w.heap.size (w.alloc (.cells #[] 77)) w3:=(Below.refl _ _).grown hgr (by simp) (fun k hk=>by simp[Value.ownBlock] at hk;omega);refine⟨v',rfl,by unfold TapO;simpa using ho,?_,((Below.refl _ _).alloc (Nat.le_refl _) _).trans hB⟩;rcases ho.2 with⟨h,_⟩|⟨g,c,cur,h,_⟩
   ·rw[h];rfl
   ·rw[h];rfl
  clear ho hgr HNW HO HL;go_wp2
  go_ret
  exact HF.out
theorem fold_size (off:Nat) (vs:List Value) (n:Nat) (cs:Array Value):((vs.zipIdx n).foldl (fun cs (x:Value×Nat)=>cs.setIfInBounds (off+x.2) x.1) cs).size=cs.size:=by
 induction vs generalizing n cs with
 |nil=>rfl
 |cons v vs ih=>rw[List.zipIdx_cons,List.foldl_cons,ih];simp
theorem fold_get (off:Nat) (vs:List Value) (n:Nat) (cs:Array Value) (h:off+n+vs.length≤cs.size) (i:Nat) :
  ((vs.zipIdx n).foldl (fun cs (x:Value×Nat)=>cs.setIfInBounds (off+x.2) x.1) cs)[i]?=if off+n≤i∧i<off+n+vs.length then vs[i-(off+n)]? else cs[i]?:=by
 induction vs generalizing n cs with
 |nil=>rw[if_neg (by simp)];rfl
 |cons v vs ih=>
  simp only[List.length_cons] at h;rw[List.zipIdx_cons,List.foldl_cons,ih (n+1) _ (by simp;omega)];by_cases h1:off+(n+1)≤i∧i<off+(n+1)+vs.length
  ·rw[if_pos h1,if_pos (by simp only[List.length_cons];omega),show i-(off+n)=(i-(off+(n+1)))+1 by omega,List.getElem?_cons_succ]
  ·rw[if_neg h1];by_cases h2:i=off+n
   ·subst h2;rw[if_pos (by simp only[List.length_cons];omega),Nat.sub_self,List.getElem?_cons_zero,Array.getElem?_setIfInBounds_self_of_lt (by omega)]
   ·rw[if_neg (by simp only[List.length_cons];omega),Array.getElem?_setIfInBounds_ne (by omega)]
def bkC (d u:List Int) (k:Int) (v:Value):Array Value:=(d.map (Value.int .u8)++u.map (Value.int .u8)++[.int .i64 k,v]).toArray
theorem bkC_size {d u:List Int} (hd:d.length=32) (hu:u.length=32) (k:Int) (v:Value):(bkC d u k v).size=66:=by unfold bkC;simp[hd,hu]
theorem bkC_one (d u:List Int) (k:Int) {v:Value} (hv:v.oneCell'=true):(bkC d u k v).all (fun x=>x.oneCell')=true:=by
 unfold bkC;rw[List.all_toArray];simp only[List.all_append,List.all_map,List.all_cons,List.all_nil,hv];simp[Function.comp_def,Value.oneCell']
def ovl (off:Nat) (vs cs:Array Value):Array Value:=vs.zipIdx.foldl (fun cs (x:Value×Nat)=>cs.setIfInBounds (off+x.2) x.1) cs
theorem ovl_eq (off:Nat) (vs cs:Array Value):ovl off vs cs=((vs.toList.zipIdx 0).foldl (fun cs (x:Value×Nat)=>cs.setIfInBounds (off+x.2) x.1) cs):=by
 unfold ovl;rw[←Array.foldl_toList];simp
theorem ovl_size (off:Nat) (vs cs:Array Value):(ovl off vs cs).size=cs.size:=by rw[ovl_eq];exact fold_size _ _ _ _
theorem ovl_get (off:Nat) (vs cs:Array Value) (h:off+vs.size≤cs.size) (i:Nat):(ovl off vs cs)[i]?=if off≤i∧i<off+vs.size then vs[i-off]? else cs[i]?:=by
 rw[ovl_eq,fold_get off vs.toList 0 cs (by simpa using h) i];simp
theorem fill_cons (places:Nat→Option (Nat×Nat)) (cs:Array Value) (i off size:Nat) (v:Value) (rest:List (Nat×Value)) (hp:places i=some (off,size)) (hs:v.cells.size=size) (hc:off+size≤cs.size) :
  Instr.fill places cs ((i,v)::rest)=Instr.fill places (ovl off v.cells cs) rest:=by
 rw[Instr.fill,hp];simp only[];rw[if_neg (by simp[hs];omega)];rfl
theorem fillB (places:Nat→Option (Nat×Nat)) (p0:places 0=some (0,32)) (p1:places 1=some (32,32)) (p2:places 2=some (64,1)) (p3:places 3=some (65,1)) (z:Array Value) (hz:z.size=66) (d u:List Int) (hd:d.length=32) (hu:u.length=32) (k:Int) (v:Value) (hv:v.cells=#[v]) :
  Instr.fill places z [(0,.agg (d.map (Value.int .u8)).toArray),(1,.agg (u.map (Value.int .u8)).toArray),(2,.int .i64 k),(3,v)]=some (bkC d u k v):=by
 have sd:((d.map (Value.int .u8)).toArray).size=32:=by simp[hd]
 have su:((u.map (Value.int .u8)).toArray).size=32:=by simp[hu]
 have s1:(ovl 0 (d.map (Value.int .u8)).toArray z).size=66:=by rw[ovl_size];exact hz
 have s2:(ovl 32 (u.map (Value.int .u8)).toArray (ovl 0 (d.map (Value.int .u8)).toArray z)).size=66:=by rw[ovl_size];exact s1
 have s3:(ovl 64 #[.int .i64 k] (ovl 32 (u.map (Value.int .u8)).toArray (ovl 0 (d.map (Value.int .u8)).toArray z))).size=66:=by rw[ovl_size];exact s2
 have key:ovl 65 #[v] (ovl 64 #[.int .i64 k] (ovl 32 (u.map (Value.int .u8)).toArray (ovl 0 (d.map (Value.int .u8)).toArray z)))=bkC d u k v:=by
  apply Array.ext_getElem?;intro i;rw[ovl_get _ _ _ (by rw[s3];simp),ovl_get _ _ _ (by rw[s2];simp),ovl_get _ _ _ (by rw[s1,su];omega),ovl_get _ _ _ (by rw[hz,sd];omega),sd,su];have e:(bkC d u k v)[i]?=(d.map (Value.int .u8)++u.map (Value.int .u8)++[.int .i64 k,v])[i]?:=by unfold bkC;simp
  rw[e];simp only[List.size_toArray,List.length_cons,List.length_nil];by_cases h0:i<32
  ·rw[if_neg (by omega),if_neg (by omega),if_neg (by omega),if_pos (by omega)];rw[List.getElem?_append_left (by simp[hd,hu];omega),List.getElem?_append_left (by simp[hd];omega)];simp
  ·by_cases h1:i<64
   ·rw[if_neg (by omega),if_neg (by omega),if_pos (by omega)];rw[List.getElem?_append_left (by simp[hd,hu];omega),List.getElem?_append_right (by simp[hd];omega)];simp[hd]
   ·by_cases h2:i=64
    ·subst h2;rw[if_neg (by omega),if_pos (by omega),List.getElem?_append_right (by simp[hd,hu])];simp[hd,hu]
    ·by_cases h3:i=65
     ·subst h3;rw[if_pos (by omega),List.getElem?_append_right (by simp[hd,hu])];simp[hd,hu]
     ·rw[if_neg (by omega),if_neg (by omega),if_neg (by omega),if_neg (by omega),Array.getElem?_eq_none (by omega),List.getElem?_eq_none (by simp[hd,hu];omega)]
 rw[fill_cons places z 0 0 32 (.agg (d.map (Value.int .u8)).toArray) _ p0 sd (by omega)];rw[fill_cons places _ 1 32 32 (.agg (u.map (Value.int .u8)).toArray) _ p1 su (by show _≤(ovl 0 (d.map (Value.int .u8)).toArray z).size;omega)];rw[fill_cons places _ 2 64 1 (.int .i64 k) _ p2 rfl (by show _≤(ovl 32 (u.map (Value.int .u8)).toArray (ovl 0 (d.map (Value.int .u8)).toArray z)).size;omega)];rw[fill_cons places _ 3 65 1 v _ p3 (by rw[hv];rfl) (by show _≤(ovl 64 #[.int .i64 k] (ovl 32 (u.map (Value.int .u8)).toArray (ovl 0 (d.map (Value.int .u8)).toArray z))).size;omega)];rw[hv,Instr.fill];exact congrArg some key
def bkZ:Array Value:=#[.int .u8 0,.int .u8 0,.int .u8 0,.int .u8 0,.int .u8 0,.int .u8 0,.int .u8 0,.int .u8 0,.int .u8 0,.int .u8 0,.int .u8 0,.int .u8 0,.int .u8 0,.int .u8 0,.int .u8 0,.int .u8 0,.int .u8 0,.int .u8 0,.int .u8 0,.int .u8 0,.int .u8 0,.int .u8 0,.int .u8 0,.int .u8 0,.int .u8 0,.int .u8 0,.int .u8 0,.int .u8 0,.int .u8 0,.int .u8 0,.int .u8 0,.int .u8 0,.int .u8 0,.int .u8 0,.int .u8 0,.int .u8 0,.int .u8 0,.int .u8 0,.int .u8 0,.int .u8 0,.int .u8 0,.int .u8 0,.int .u8 0,.int .u8 0,.int .u8 0,.int .u8 0,.int .u8 0,.int .u8 0,.int .u8 0,.int .u8 0,.int .u8 0,.int .u8 0,.int .u8 0,.int .u8 0,.int .u8 0,.int .u8 0,.int .u8 0,.int .u8 0,.int .u8 0,.int .u8 0,.int .u8 0,.int .u8 0,.int .u8 0,.int .u8 0,.int .i64 0,.slice none 0 0]
theorem Tryz.infoBook:(Tryz.prog.info? 67).map (fun i=>i.zero)=some (some (.agg bkZ)):=by kernel_rfl
theorem Tryz.sizeBook:(Tryz.prog.info? 67).map (·.size)=some 66:=by kernel_rfl
theorem Tryz.placesBook:((Tryz.prog.underlying 67).bind fun d=>match d with|.struct fs=>fs.toList.mapM (fun f=>(Tryz.prog.info? f.type).map fun i=>(f.offset,i.size))|_=>none)=some [(0,32),(32,32),(64,1),(65,1)]:=by kernel_rfl
theorem builtB (d u:List Int) (hd:d.length=32) (hu:u.length=32) (k:Int) (v:Value) (hv:v.cells=#[v]) :
  Tryz.prog.built 67 [(0,.agg (d.map (Value.int .u8)).toArray),(1,.agg (u.map (Value.int .u8)).toArray),(2,.int .i64 k),(3,v)]=some (bkC d u k v):=by
 have hb:∃ places z,(places 0=some (0,32)∧places 1=some (32,32)∧places 2=some (64,1)∧places 3=some (65,1))∧z.size=66∧∀ parts,Tryz.prog.built 67 parts=Instr.fill places z parts:=by
  have h1:=Tryz.infoBook;have h2:=Tryz.placesBook;obtain⟨F,hF⟩:∃ F,Tryz.prog.underlying 67=some (.struct F):=⟨_,Tryz.underlying67⟩
  rw[hF] at h2;have h2':F.toList.mapM (fun f=>(Tryz.prog.info? f.type).map fun i=>(f.offset,i.size))=some [(0,32),(32,32),(64,1),(65,1)]:=h2;cases hi:Tryz.prog.info? 67 with
  |none=>rw[hi] at h1;cases h1
  |some it=>
   rw[hi] at h1;have hz:it.zero=some (.agg bkZ):=by simpa using h1
   refine⟨fun i=>[(0,32),(32,32),(64,1),(65,1)].toArray[i]?,bkZ,⟨rfl,rfl,rfl,rfl⟩,rfl,fun parts=>?_⟩;simp only[Program.built,hi,hF,hz,h2'];rfl
 obtain⟨places,z,⟨p0,p1,p2,p3⟩,hz,h⟩:=hb;rw[h];exact fillB places p0 p1 p2 p3 z hz d u hd hu k v hv
def StP (D U:List Int) (k:Int) (T:List Int) (n:Nat):Prop:=SerP D∧D.length≤16∧SerP U∧0≤k∧k+n=U.length∧TapP U T n
open Classical in
noncomputable def stB (D U:List Int) (k:Int) (T:List Int) (n:Nat):Bool:=decide (StP D U k T n)
theorem stB_no {D U:List Int} {k:Int} {T:List Int} {n:Nat} (h:¬ StP D U k T n):stB D U k T n=false:=by unfold stB;simp[h]
theorem stB_yes {D U:List Int} {k:Int} {T:List Int} {n:Nat} (h:StP D U k T n):stB D U k T n=true:=by unfold stB;simp[h]
theorem zc_size:(Tryz.zeroCells67).size=66:=by kernel_rfl
theorem bkZ_one:(Tryz.zeroCells67).all (fun x=>x.oneCell')=true:=by kernel_rfl
theorem results_bk {fn:Func} {p u:Tmp} (h:fn.results=#[.cell p 67,.tmp u]) (tmps:Array Value) (w:World) (g:Nat) (cs:Array Value) (v:Value) (hv:tmps.getD u undef=v)
  (hp:tmps.getD p undef=.pointer (some ⟨g,0,none⟩)) (hr:w.heap[g]?=some (.cells cs 67 (0,0))) (hs:(Tryz.prog.info? 67).map (·.size)=some cs.size) :
  (results fn tmps).run Tryz.prog w=.ok (.tuple #[.agg cs,v]) w:=by
 have hp':tmps[p]?.getD undef=.pointer (some ⟨g,0,none⟩):=by simpa using hp
 have hv':tmps[u]?.getD undef=v:=by simpa using hv
 have hl:=run_loadVar_row (P:=Tryz.prog) w g 67 67 cs (0,0) _ hr Tryz.underlying67 rfl hs;simp[results,h,hp',hv',asAddr,hl]
def ObP (w:World) (D U:List Int) (k:Int) (T:List Int) (n:Nat) (e:Ending) (w':World):Prop:=
 ∃ bk:Array Value,e=.returned (.tuple #[.agg bk,.bool (stB D U k T n)])∧bk.size=66∧bk.all (fun x=>x.oneCell')=true∧Below w.heap.size w w'∧
  (stB D U k T n=true→∃ db ub v,bk=bkC db ub k v∧SetB db (fun v=>(v:Int)∈D)∧SetB ub (fun v=>(v:Int)∈U)∧TapO w.heap.size w' v T n)
structure OBE (w:World) (sc:Array Value) (wr:World):Prop where
 below:Below w.heap.size w wr
 box:wr.heap[w.heap.size]?=some (.cells sc 33 (0,0))
 res:wr.heap[w.heap.size+1]?=some (.cells Tryz.zeroCells67 67 (0,0))
theorem OBE.lt {w wr:World} {sc:Array Value} (h:OBE w sc wr):w.heap.size<wr.heap.size:=(Array.getElem?_eq_some_iff.1 h.box).1
theorem OBE.lt2 {w wr:World} {sc:Array Value} (h:OBE w sc wr):w.heap.size+1<wr.heap.size:=(Array.getElem?_eq_some_iff.1 h.res).1
theorem OBE.call {w wr w':World} {sc:Array Value} (h:OBE w sc wr) (b:Below wr.heap.size wr w'):OBE w sc w':=
 ⟨h.below.trans (b.mono h.below.size),by rw[b.block _ h.lt];exact h.box,by rw[b.block _ h.lt2];exact h.res⟩
theorem wpList_newSS {w:World} {ops:Array Oper} {rest:List Oper} {o:Oper} {a:Act} {Q:Exit→Act→World→Prop} (hgd:o.guard=none) (x y:Operand) (ho:o.op=.store 65 x y)
  (bs:List Int) (hx:a.eval x=.pointer (some ⟨w.heap.size,0,none⟩)) (hy:a.eval y=.agg (bs.map (Value.int .u8)).toArray) (hl:bs.length=32)
  {wa:World} (hwa:wa=w.alloc (.cells #[.int .u8 0,.int .u8 0,.int .u8 0,.int .u8 0,.int .u8 0,.int .u8 0,.int .u8 0,.int .u8 0,.int .u8 0,.int .u8 0,.int .u8 0,.int .u8 0,.int .u8 0,.int .u8 0,.int .u8 0,.int .u8 0,.int .u8 0,.int .u8 0,.int .u8 0,.int .u8 0,.int .u8 0,.int .u8 0,.int .u8 0,.int .u8 0,.int .u8 0,.int .u8 0,.int .u8 0,.int .u8 0,.int .u8 0,.int .u8 0,.int .u8 0,.int .u8 0] 65)) (hK:∀ w',Row w' w.heap.size 65 bs→Below w.heap.size w w'→wpList Tryz.prog ops Q rest (a.put o.dst undef) w') :
  wpList Tryz.prog ops Q (o::rest) a wa:=by
 subst hwa;exact wpList_store_row hgd 65 x y ho w.heap.size ((bs.map (Value.int .u8)).toArray) hx hy 65 _ (heap_alloc_new w _) (by rw[Tryz.sizeSS];simp[hl]) (by simp[hl]) (all_oneCell_toArray (ints_oneCell _ _))
  (hK _ (setRow_heap _ _ _ _ _ _ (heap_alloc_new w _)) (((Below.refl _ _).alloc (Nat.le_refl _) _).trans ((Wr.setRow _ _ _).below (Nat.le_refl _))))
theorem wpList_loadG {w:World} {ops:Array Oper} {rest:List Oper} {o:Oper} {a:Act} {Q:Exit→Act→World→Prop} (x:Operand) (ho:o.op=.load 65 x) (hw:Region.wanted o (yielded ops a.tmps)=true)
  (g:Nat) (bs:List Int) (hx:a.eval x=.pointer (some ⟨g,0,none⟩)) (hr:Row w g 65 bs) (hl:bs.length=32) (hK:wpList Tryz.prog ops Q rest (a.put o.dst (.agg (bs.map (Value.int .u8)).toArray)) w) :
  wpList Tryz.prog ops Q (o::rest) a w:=
 wpList_step fun K hK'=>by
  rw[if_pos hw];exact wp_load_row 65 x ho g hx 65 _ (0,0) _ hr Tryz.underlying65 rfl (by rw[Tryz.sizeSS];simp[hl]) (hK' _ _ hK)
theorem wpList_skipG {w:World} {ops:Array Oper} {rest:List Oper} {o:Oper} {a:Act} {Q:Exit→Act→World→Prop} (x:Operand) (ho:o.op=.load 65 x) (hw:Region.wanted o (yielded ops a.tmps)=false)
  (hK:wpList Tryz.prog ops Q rest (a.put o.dst undef) w):wpList Tryz.prog ops Q (o::rest) a w:=by
 unfold wpList;rw[if_neg (by rw[hw];simp)];exact hK
theorem wp_bookB {w:World} {o:Oper} {a:Act} {K:Act→World→Prop} {Q:Exit→Act→World→Prop} (ho:o.op=.build 67 #[(0,.tmp 56),(1,.tmp 57),(2,.tmp 59),(3,.tmp 62)]) {db ub:List Int} {k:Int} {v:Value}
  (h0:a.eval (.tmp 56)=.agg (db.map (Value.int .u8)).toArray) (h1:a.eval (.tmp 57)=.agg (ub.map (Value.int .u8)).toArray) (h3:a.eval (.tmp 59)=.int .i64 k) (h6:a.eval (.tmp 62)=v) (hd:db.length=32) (hu:ub.length=32) (hv:v.cells=#[v])
  (hK:K (a.put o.dst (.agg (bkC db ub k v))) w):o.wp Tryz.prog a w K Q:=by
 have e:((#[(0,.tmp 56),(1,.tmp 57),(2,.tmp 59),(3,.tmp 62)]:Array (Nat×Operand)).map fun (x:Nat×Operand)=>(x.1,a.eval x.2)).toList=[(0,.agg (db.map (Value.int .u8)).toArray),(1,.agg (ub.map (Value.int .u8)).toArray),(2,.int .i64 k),(3,v)]:=by
  simp only[List.map_toArray,List.map_cons,List.map_nil,h0,h1,h3,h6]
 have hb:=builtB db ub hd hu k v hv;rw[←e] at hb;refine wp_build 67 _ ho ?_ ?_
 ·exact(congrArg Option.isSome hb).trans rfl
 ·have e2:((Tryz.prog.built 67 ((#[(0,.tmp 56),(1,.tmp 57),(2,.tmp 59),(3,.tmp 62)]:Array (Nat×Operand)).map fun (x:Nat×Operand)=>(x.1,a.eval x.2)).toList).getD #[])=bkC db ub k v:=by rw[hb];rfl
  exact e2 ▸ hK
theorem TapO.mono {B B':Nat} {w:World} {v:Value} {T:List Int} {n:Nat} (h:TapO B' w v T n) (hB:B≤B'):TapO B w v T n:=by
 obtain⟨h1,h2⟩:=h;refine⟨h1,?_⟩;rcases h2 with h|⟨g,c,cur,h4,h5,h6⟩
 ·exact .inl h
 ·exact .inr ⟨g,c,cur,h4,by omega,h6⟩
theorem TapO.wrh {B R:Nat} {w w':World} {v:Value} {T:List Int} {n:Nat} (h:TapO B w v T n) (hR:R<B) (hw:WrH R w w'):TapO B w' v T n:=by
 obtain⟨h1,h2⟩:=h;refine⟨h1,?_⟩;rcases h2 with h|⟨g,c,cur,h4,h5,h6,h7⟩
 ·exact .inl h
 ·exact .inr ⟨g,c,cur,h4,h5,by rw[hw.block g (Array.getElem?_eq_some_iff.1 h6).1 (by omega)];exact h6,h7⟩
theorem cells_own {B:Nat} {w:World} {v:Value} {T:List Int} {n:Nat} (h:TapO B w v T n):v.cells=#[v]:=by
 rcases h.2 with⟨h,_⟩|⟨g,c,cur,h,_⟩
 ·rw[h];rfl
 ·rw[h];rfl
def ClV (H:Nat) (w:World) (v:Value) (T:List Int) (n:Nat):Prop:=∃ B,H+1<B∧TapO B w v T n∧v.oneCell'=true
theorem ClV.wrh {H:Nat} {w w':World} {v:Value} {T:List Int} {n:Nat} (h:ClV H w v T n) (hw:WrH (H+1) w w'):ClV H w' v T n:=by
 obtain⟨B,a,b,c⟩:=h;exact⟨B,a,b.wrh a hw,c⟩
def BlV (H:Nat) (w:World) (v:Value) (d u:List Int) (k:Int) (T:List Int) (n:Nat):Prop:=∃ v6,v=.agg (bkC d u k v6)∧ClV H w v6 T n
theorem BlV.wrh {H:Nat} {w w':World} {v:Value} {d u:List Int} {k:Int} {T:List Int} {n:Nat} (h:BlV H w v d u k T n) (hw:WrH (H+1) w w'):BlV H w' v d u k T n:=by
 obtain⟨v6,a,b⟩:=h;exact⟨v6,a,b.wrh hw⟩
def ExB (w W:World) (d u:List Int) (k:Int) (T:List Int) (n:Nat) (L:Nat→Bool) (w':World):Prop:=
 WrH (w.heap.size+1) W w'∧(L 8=false→w'.heap[w.heap.size+1]?=some (.cells Tryz.zeroCells67 67 (0,0)))∧
  (L 8=true→∃ v6,w'.heap[w.heap.size+1]?=some (.cells (bkC d u k v6) 67 (0,0))∧ClV w.heap.size w' v6 T n)
section
variable {w W w' ww:World} {d u:List Int} {k:Int} {T:List Int} {n:Nat} {L:Nat→Bool}
theorem ExB.ref (h:ExB w W d u k T n L w') (i:Nat) (hi:i≠8):ExB w W d u k T n (updK L i) w':=
 ⟨h.1,by unfold updK;simpa[Ne.symm hi] using h.2.1,by unfold updK;simpa[Ne.symm hi] using h.2.2⟩
theorem ExB.low {sc:Array Value} (h:ExB w W d u k T n L w') (i:Nat) (hi:i≠8) (hE:OBE w sc W) (b:Below w'.heap.size w' ww):ExB w W d u k T n (updK L i) ww:=by
 have hlt:w.heap.size+1<w'.heap.size:=Nat.lt_of_lt_of_le hE.lt2 h.1.size;refine⟨h.1.trans (WrH.of_below b),?_,?_⟩
 ·unfold updK;simp only[Ne.symm hi,if_false];intro q;rw[b.block _ hlt];exact h.2.1 (by simpa using q)
 ·unfold updK;simp only[Ne.symm hi,if_false];intro q;obtain⟨v6,a,c⟩:=h.2.2 (by simpa using q);exact⟨v6,by rw[b.block _ hlt];exact a,c.wrh (WrH.of_below b)⟩
theorem ExB.put {v6:Value} (h:ExB w W d u k T n L w') (hr:ww.heap[w.heap.size+1]?=some (.cells (bkC d u k v6) 67 (0,0))) (hw:Wr (w.heap.size+1) w' ww) (hc:ClV w.heap.size w' v6 T n):ExB w W d u k T n (updK L 8) ww:=
 ⟨h.1.trans hw.wrH,fun q=>by unfold updK at q;simp at q,fun _=>⟨v6,hr,hc.wrh hw.wrH⟩⟩
end
theorem WrH.row8 {R g:Nat} {w w':World} {t:TypeId} {bs:List Int} (h:WrH R w w') (hr:Row w g t bs) (hg:g≠R):Row w' g t bs:=by
 unfold Row;rw[h.block g hr.lt hg];exact hr
theorem At.wrh9 {w W w':World} {a:Option Addr} {T:List Int} (h:At .i64 w a T) (hb:Below w.heap.size w W) (hw:WrH (w.heap.size+1) W w'):At .i64 w' a T:=by
 rcases h with h|⟨b,off,rfl,hl,hc⟩
 ·exact .inl h
 ·refine .inr ⟨b,off,rfl,by have:=hb.size;have:=hw.size;omega,fun i hi=>?_⟩;rw[World.cell?_of_block (a:=⟨b,off+i,none⟩) (w:=W) (hw.block b (by have:=hb.size;omega) (by omega)),hb.cell (p:=⟨b,off+i,none⟩) hl];exact hc i hi
set_option maxRecDepth 100000 in
set_option maxHeartbeats 8000000 in
theorem openBook_any (aD aU aT:Option Addr) (nD cD nU cU nT cT:Nat) (D U:List Int) (k:Int) (T:List Int) (w:World) (hD:D.length=nD) (hU:U.length=nU) (hT:T.length=nT*2) (mD:nD≤1048576) (mU:nU≤1048576) (mT:nT≤1048576)
  (haD:At .i64 w aD D) (haU:At .i64 w aU U) (haT:At .i64 w aT T) (hnil:aT=none→nT=0∧cT=0) (hk0:-9223372036854775808≤k) (hk1:k<9223372036854775808) :
  Calls Tryz.prog 29 #[.agg #[.slice aD nD cD,.slice aU nU cU,.int .i64 k,.slice aT nT cT]] w (ObP w D U k T nT):=by
 have HE0:Hid (OBE w #[.slice aD nD cD,.slice aU nU cU,.int .i64 k,.slice aT nT cT] ((w.alloc (.cells #[.slice aD nD cD,.slice aU nU cU,.int .i64 k,.slice aT nT cT] 33)).alloc (.cells Tryz.zeroCells67 67))):=by
  refine⟨((Below.refl _ _).alloc (Nat.le_refl _) _).alloc (by simp) _,?_,?_⟩
  ·rw[Below.heap_alloc _ _ w.heap.size (by simp)];exact heap_alloc_new w _
  ·have:=heap_alloc_new (w.alloc (.cells #[.slice aD nD cD,.slice aU nU cU,.int .i64 k,.slice aT nT cT] 33)) (.cells Tryz.zeroCells67 67)
   rwa [show(w.alloc (.cells #[.slice aD nD cD,.slice aU nU cU,.int .i64 k,.slice aT nT cT] 33)).heap.size=w.heap.size+1 by simp] at this
 have HAD:Hid (At .i64 w aD D):=haD;have HAU:Hid (At .i64 w aU U):=haU;have HAT:Hid (At .i64 w aT T):=haT;have HNT:Hid (T.length=nT*2∧nT≤1048576∧(aT=none→nT=0∧cT=0)):=⟨hT,mT,hnil⟩
 have HLN:Hid (D.length=nD∧U.length=nU):=⟨hD,hU⟩
 clear haD haU haT hT hnil hD hU;go_enter Tryz.func29,Tryz.ntmps29;go_wp2_with fail;generalize ((w.alloc (.cells #[.slice aD nD cD,.slice aU nU cU,.int .i64 k,.slice aT nT cT] 33)).alloc (.cells Tryz.zeroCells67 67))=w0 at *;refine(setOf_any aD nD cD D _ HLN.out.1 mD (HAD.out.below HE0.out.below)).mono ?_;rintro e w1 ⟨db,rfl,dl,dby,dset,b1⟩;have HE1:Hid (OBE w #[.slice aD nD cD,.slice aU nU cU,.int .i64 k,.slice aT nT cT] w1):=HE0.out.call b1;clear b1 HE0;go_wp2_with (first
  |(refine wpList_newSS rfl (.tmp 4) (.tmp 12) rfl db rfl rfl dl rfl ?_)
  |fail)
 intro w2 hr2 hb2;have HE2:Hid (OBE w #[.slice aD nD cD,.slice aU nU cU,.int .i64 k,.slice aT nT cT] w2):=HE1.out.call hb2;have HRD2:Hid (Row w2 w1.heap.size 65 db):=hr2;have hGd:w.heap.size+1<w1.heap.size:=HE1.out.lt2;have c1:w2.cell? ⟨w.heap.size,1,none⟩=some (.slice aU nU cU):=by rw[cell_of_row w2 w.heap.size 1 _ _ _ HE2.out.box];rfl
 clear hr2 hb2 HE1;generalize w1.heap.size=Gd at *;go_wp2_with fail;refine(setOf_any aU nU cU U _ HLN.out.2 mU (HAU.out.below HE2.out.below)).mono ?_;rintro e w3 ⟨ub,rfl,ul,uby,uset,b3⟩;have HE3:Hid (OBE w #[.slice aD nD cD,.slice aU nU cU,.int .i64 k,.slice aT nT cT] w3):=HE2.out.call b3;have HRD3:Hid (Row w3 Gd 65 db):=HRD2.out.low b3 HRD2.out.lt;clear b3 HE2 HRD2 c1;go_wp2_with (first
  |(refine wpList_newSS rfl (.tmp 6) (.tmp 18) rfl ub rfl rfl ul rfl ?_)
  |fail)
 intro W hr4 hb4;have HEV:Hid (OBE w #[.slice aD nD cD,.slice aU nU cU,.int .i64 k,.slice aT nT cT] W):=HE3.out.call hb4;have HRD:Hid (Row W Gd 65 db):=HRD3.out.low hb4 HRD3.out.lt;have HRU:Hid (Row W w3.heap.size 65 ub):=hr4;have hGu:w.heap.size+1<w3.heap.size:=HE3.out.lt2;have c0:W.cell? ⟨w.heap.size,0,none⟩=some (.slice aD nD cD):=by rw[cell_of_row W w.heap.size 0 _ _ _ HEV.out.box];rfl
 have c1:W.cell? ⟨w.heap.size,1,none⟩=some (.slice aU nU cU):=by rw[cell_of_row W w.heap.size 1 _ _ _ HEV.out.box];rfl
 have c2:W.cell? ⟨w.heap.size,2,none⟩=some (.int .i64 k):=by rw[cell_of_row W w.heap.size 2 _ _ _ HEV.out.box];rfl
 have c3:W.cell? ⟨w.heap.size,3,none⟩=some (.slice aT nT cT):=by rw[cell_of_row W w.heap.size 3 _ _ _ HEV.out.box];rfl
 clear hr4 hb4 HE3 HRD3;generalize w3.heap.size=Gu at *;have HLD:Hid (db.length=32∧ub.length=32):=⟨dl,ul⟩
 have HDS:Hid (SerP D→SetB db (fun v=>(v:Int)∈D)):=dset;have HUS:Hid (SerP U→SetB ub (fun v=>(v:Int)∈U)):=uset;have HGD:Hid (Gd≠w.heap.size+1):=by show _≠_;omega
 have HGU:Hid (Gu≠w.heap.size+1):=by show _≠_;omega
 have HSZd:Hid ((Tryz.prog.info? 65).map (·.size)=some ((db.map (Value.int .u8)).toArray).size):=by show _=_;rw[Tryz.sizeSS];simp[dl]
 have HSZu:Hid ((Tryz.prog.info? 65).map (·.size)=some ((ub.map (Value.int .u8)).toArray).size):=by show _=_;rw[Tryz.sizeSS];simp[ul]
 clear dl ul dset uset dby uby;cases hsD:serB D with
 |false=>
  have HPD:Hid (¬ SerP D):=fun h=>by rw[serB_yes h] at hsD;cases hsD
  have HRS:Hid (W.heap[w.heap.size+1]?=some (.cells Tryz.zeroCells67 67 (0,0))):=HEV.out.res;have HFB:Hid (stB D U k T nT=false):=stB_no (fun h=>HPD.out h.1)
  go_upto_region 4 with fail
  go_wp2_with (first
   |(refine wpList_skipG (.tmp 6) rfl (by simp[Region.wanted,yielded]) ?_)
   |(refine wpList_store_row rfl 67 (.tmp 2) (.tmp 32) rfl (w.heap.size+1) Tryz.zeroCells67 rfl rfl 67 _ HRS.out Tryz.sizeBook rfl bkZ_one ?_)
   |fail)
  refine bodyPost_ret (v:=.tuple #[.agg Tryz.zeroCells67,.bool false]) (results_bk rfl _ _ (w.heap.size+1) _ _ rfl rfl (setRow_heap _ _ _ _ _ _ HRS.out) Tryz.sizeBook) rfl ?_;exact⟨Tryz.zeroCells67,by rw[HFB.out],zc_size,bkZ_one,HEV.out.below.trans ((Wr.setRow _ _ _).below (by omega)),fun h=>by rw[HFB.out] at h;cases h⟩
 |true=>
 cases hsU:serB U with
 |false=>
  have HPU:Hid (¬ SerP U):=fun h=>by rw[serB_yes h] at hsU;cases hsU
  have HRS:Hid (W.heap[w.heap.size+1]?=some (.cells Tryz.zeroCells67 67 (0,0))):=HEV.out.res;have HFB:Hid (stB D U k T nT=false):=stB_no (fun h=>HPU.out h.2.2.1)
  go_upto_region 4 with fail
  go_wp2_with (first
   |(refine wpList_skipG (.tmp 6) rfl (by simp[Region.wanted,yielded]) ?_)
   |(refine wpList_store_row rfl 67 (.tmp 2) (.tmp 32) rfl (w.heap.size+1) Tryz.zeroCells67 rfl rfl 67 _ HRS.out Tryz.sizeBook rfl bkZ_one ?_)
   |fail)
  refine bodyPost_ret (v:=.tuple #[.agg Tryz.zeroCells67,.bool false]) (results_bk rfl _ _ (w.heap.size+1) _ _ rfl rfl (setRow_heap _ _ _ _ _ _ HRS.out) Tryz.sizeBook) rfl ?_;exact⟨Tryz.zeroCells67,by rw[HFB.out],zc_size,bkZ_one,HEV.out.below.trans ((Wr.setRow _ _ _).below (by omega)),fun h=>by rw[HFB.out] at h;cases h⟩
 |true=>
 have HPD:Hid (SerP D):=(serB_iff D).1 hsD;have HPU:Hid (SerP U):=(serB_iff U).1 hsU;by_cases h16:nD≤16
 ·have h16':(nD:Int)≤16:=by omega
  by_cases hk:k<0
  ·have HK9:Hid (k<0):=hk;have hkb:decide (k<0)=true:=decide_eq_true hk;clear hk hk0 hk1 c1 c3;have HRS:Hid (W.heap[w.heap.size+1]?=some (.cells Tryz.zeroCells67 67 (0,0))):=HEV.out.res;have HFB:Hid (stB D U k T nT=false):=stB_no (fun h=>by have:=h.2.2.2.1;have:=HK9.out;omega)
   go_upto_region 6 with fail
   go_wp2_with (first
    |(refine wpList_skipG (.tmp 6) rfl (by simp[Region.wanted,yielded]) ?_)
    |(refine wpList_store_row rfl 67 (.tmp 2) (.tmp 55) rfl (w.heap.size+1) Tryz.zeroCells67 rfl rfl 67 _ HRS.out Tryz.sizeBook rfl bkZ_one ?_)
    |fail)
   refine bodyPost_ret (v:=.tuple #[.agg Tryz.zeroCells67,.bool false]) (results_bk rfl _ _ (w.heap.size+1) _ _ rfl rfl (setRow_heap _ _ _ _ _ _ HRS.out) Tryz.sizeBook) rfl ?_;exact⟨Tryz.zeroCells67,by rw[HFB.out],zc_size,bkZ_one,HEV.out.below.trans ((Wr.setRow _ _ _).below (by omega)),fun h=>by rw[HFB.out] at h;cases h⟩
  ·by_cases hka:k=(nU:Int)-nT
   ·have HKA:Hid (k+nT=U.length):=by show _=_;rw[HLN.out.2];omega
    have hka':(k == (nU:Int)-nT)=true:=by simpa using hka
    have HK9:Hid (0≤k):=by show _≤_;omega
    have HKE:Hid (k=(nU:Int)-nT):=hka;have hkb:decide (k<0)=false:=decide_eq_false hk;clear hka hk hk0 hk1;have HCT:=tapsFit_any aT nT cT U T ub W HNT.out.1 HNT.out.2.1 (HAT.out.below HEV.out.below) HPU.out (HUS.out HPU.out);go_wp2_with (first
     |(refine wpList_loadG (.tmp 6) rfl (by first|(simp[Region.wanted,yielded];done)|(simp[Region.wanted,yielded];exact HKE.out)) Gu ub rfl HRU.out HLD.out.2 ?_)
     |fail)
    refine HCT.mono ?_;rintro e W2 ⟨rfl,hb7⟩;cases htb:tapB U T nT with
    |false=>
     have HPT:Hid (¬ TapP U T nT):=fun h=>by rw[tapB_yes h] at htb;cases htb
     have HEV2:Hid (OBE w #[.slice aD nD cD,.slice aU nU cU,.int .i64 k,.slice aT nT cT] W2):=HEV.out.call hb7;clear HEV hb7 HCT;have HRS:Hid (W2.heap[w.heap.size+1]?=some (.cells Tryz.zeroCells67 67 (0,0))):=HEV2.out.res;have HFB:Hid (stB D U k T nT=false):=stB_no (fun h=>HPT.out h.2.2.2.2.2)
     go_upto_region 6 with fail
     go_wp2_with (first
      |(refine wpList_skipG (.tmp 6) rfl (by simp[Region.wanted,yielded]) ?_)
      |(refine wpList_store_row rfl 67 (.tmp 2) (.tmp 55) rfl (w.heap.size+1) Tryz.zeroCells67 rfl rfl 67 _ HRS.out Tryz.sizeBook rfl bkZ_one ?_)
      |fail)
     refine bodyPost_ret (v:=.tuple #[.agg Tryz.zeroCells67,.bool false]) (results_bk rfl _ _ (w.heap.size+1) _ _ rfl rfl (setRow_heap _ _ _ _ _ _ HRS.out) Tryz.sizeBook) rfl ?_;exact⟨Tryz.zeroCells67,by rw[HFB.out],zc_size,bkZ_one,HEV2.out.below.trans ((Wr.setRow _ _ _).below (by omega)),fun h=>by rw[HFB.out] at h;cases h⟩
    |true=>
     have HPT:Hid (TapP U T nT):=by
      show TapP U T nT
      by_cases h:TapP U T nT
      ·exact h
      ·rw[tapB_no h] at htb;cases htb
     have HYE:Hid (stB D U k T nT=true):=stB_yes ⟨HPD.out,by rw[HLN.out.1];exact h16,HPU.out,HK9.out,HKA.out,HPT.out⟩;have HSD:Hid (SetB db (fun v=>(v:Int)∈D)):=HDS.out HPD.out;have HSU:Hid (SetB ub (fun v=>(v:Int)∈U)):=HUS.out HPU.out;have HEV2:Hid (OBE w #[.slice aD nD cD,.slice aU nU cU,.int .i64 k,.slice aT nT cT] W2):=HEV.out.call hb7;have HRD2:Hid (Row W2 Gd 65 db):=HRD.out.low hb7 HRD.out.lt;have HRU2:Hid (Row W2 Gu 65 ub):=HRU.out.low hb7 HRU.out.lt;clear HEV hb7 HCT HRD HRU c0 c1 c2 c3 hka' hkb;go_wp2_with fail;refine wp_region_any (by kernel_rfl) ?_;refine wpAny_slotsG (fun _ a b=>WrH (w.heap.size+1) a b) (frame:=(fun (a b c d e f g h i j k l m n o p q r s u v w x y z A B C D E F G H I J K L M N O P Q R S T U V W X Y Z a0 a1 a2 a3:Value)=>fun (t:Nat→Value)=>({ tmps:=List.toArray [a,b,c,t 9,d,e,f,g,h,i,j,k,l,m,n,o,p,q,r,s,u,v,w,x,y,z,A,B,C,D,E,F,G,H,I,J,K,L,M,N,O,P,Q,R,S,T,U,V,W,X,Y,Z,a0,a1,a2,a3,t 0,t 1,t 2,t 3,t 4,t 5,t 6,t 7],defers:=[] }:Act)) _ _ _ _ _ _ _ _ _ _ _ _ _ _ _ _ _ _ _ _ _ _ _ _ _ _ _ _ _ _ _ _ _ _ _ _ _ _ _ _ _ _ _ _ _ _ _ _ _ _ _ _ _ _ _)
      (Ext:=ExB w W2 db ub k T nT) (Good:=fun i L w' v=>if i=0 then v=.agg (db.map (Value.int .u8)).toArray else if i=1 then v=.agg (ub.map (Value.int .u8)).toArray else if i=2 then v=.pointer (some ⟨w.heap.size,2,none⟩) else if i=3 then v=.int .i64 k else if i=4 then v=.pointer (some ⟨w.heap.size,3,none⟩) else if i=5 then v=.slice aT nT cT else if i=6 then ClV w.heap.size w' v T nT else if i=7 then BlV w.heap.size w' v db ub k T nT else if i=8 then L 8=true else if i=9 then v=.bool true else True) ?hstab (by kernel_rfl) ?hop ?hdone _ _ ((fun (x0 x1 x2 x3 x4 x5 x6 x7 x9:Value)=>fun (i:Nat)=>if i=0 then x0 else if i=1 then x1 else if i=2 then x2 else if i=3 then x3 else if i=4 then x4 else if i=5 then x5 else if i=6 then x6 else if i=7 then x7 else if i=9 then x9 else undef) _ _ _ _ _ _ _ _ _) _ (by simp) ?ext ?start (by simp)
     case start=>intro i hi h;exact absurd h (by rw[Array.getD_eq_getD_getElem?,Array.getElem?_replicate];split<;>simp)
     case ext=>exact⟨⟨rfl,rfl,rfl,Nat.le_refl _,fun _ _ _=>rfl⟩,fun _=>HEV2.out.res,fun h=>by simp at h⟩
     case hstab=>
      intro j L w9 w' i v hM _ _ h;by_cases h6:j=6
      ·subst h6;simp at h ⊢;exact h.wrh hM
      by_cases h7:j=7
      ·subst h7;simp at h ⊢;exact h.wrh hM
      by_cases h8:j=8
      ·subst h8;simp at h ⊢;unfold updK;simp[h]
      simp only[if_neg h6,if_neg h7,if_neg h8] at h ⊢;exact h
     case hop=>
      intro i o L t w' ho hLi hx hdep K hK;have hi:i<10:=(Array.getElem?_eq_some_iff.1 ho).1;obtain rfl|rfl|rfl|rfl|rfl|rfl|rfl|rfl|rfl|rfl:i=0∨i=1∨i=2∨i=3∨i=4∨i=5∨i=6∨i=7∨i=8∨i=9:=by omega
      all_goals(simp at ho;subst ho)
      ·clear hdep;have hK':=hK w' (.agg (db.map (Value.int .u8)).toArray) (by simp) (hx.ref 0 (by decide)) (WrH.refl _ _);have hr:=hx.1.row8 HRD2.out HGD.out;clear hK;rw[if_pos (by rfl)];refine wp_load_row 65 (.tmp 4) rfl Gd rfl 65 _ (0,0) _ hr Tryz.underlying65 rfl HSZd.out ?_;go_simp;simpa[upd] using hK'
      ·clear hdep;have hK':=hK w' (.agg (ub.map (Value.int .u8)).toArray) (by simp) (hx.ref 1 (by decide)) (WrH.refl _ _);have hr:=hx.1.row8 HRU2.out HGU.out;clear hK;rw[if_pos (by rfl)];refine wp_load_row 65 (.tmp 6) rfl Gu rfl 65 _ (0,0) _ hr Tryz.underlying65 rfl HSZu.out ?_;go_simp;simpa[upd] using hK'
      ·clear hdep;have hK':=hK w' (.pointer (some ⟨w.heap.size,2,none⟩)) (by simp) (hx.ref 2 (by decide)) (WrH.refl _ _);clear hK;rw[if_pos (by rfl)];go_simp;simpa[upd] using hK'
      ·have d2:t 2=.pointer (some ⟨w.heap.size,2,none⟩):=by simpa using hdep ⟨2,.data⟩ (by simp) rfl
       clear hdep;have cc:w'.cell? ⟨w.heap.size,2,none⟩=some (.int .i64 k):=by rw[World.cell?_of_block (a:=⟨w.heap.size,2,none⟩) (w:=W2) (hx.1.block _ HEV2.out.lt (by show w.heap.size≠w.heap.size+1;omega)),cell_of_row W2 w.heap.size 2 _ _ _ HEV2.out.box];rfl
       have hK':=hK w' (.int .i64 k) (by simp) (hx.ref 3 (by decide)) (WrH.refl _ _);clear hK;rw[if_pos (by rfl)];go_simp;rw[HKE.out] at hK';simpa[upd,d2] using hK'
      ·clear hdep;have hK':=hK w' (.pointer (some ⟨w.heap.size,3,none⟩)) (by simp) (hx.ref 4 (by decide)) (WrH.refl _ _);clear hK;rw[if_pos (by rfl)];go_simp;simpa[upd] using hK'
      ·have d4:t 4=.pointer (some ⟨w.heap.size,3,none⟩):=by simpa using hdep ⟨4,.data⟩ (by simp) rfl
       clear hdep;have cc:w'.cell? ⟨w.heap.size,3,none⟩=some (.slice aT nT cT):=by rw[World.cell?_of_block (a:=⟨w.heap.size,3,none⟩) (w:=W2) (hx.1.block _ HEV2.out.lt (by show w.heap.size≠w.heap.size+1;omega)),cell_of_row W2 w.heap.size 3 _ _ _ HEV2.out.box];rfl
       have hK':=hK w' (.slice aT nT cT) (by simp) (hx.ref 5 (by decide)) (WrH.refl _ _);clear hK;rw[if_pos (by rfl)];go_simp;simpa[upd,d4] using hK'
      ·have d5:t 5=.slice aT nT cT:=by simpa using hdep ⟨5,.data⟩ (by simp) rfl
       clear hdep;have A:=clnT_any aT nT cT T w' HNT.out.1 HNT.out.2.1 (HAT.out.wrh9 (HEV2.out.below) hx.1) HNT.out.2.2;have hK':∀ ww v,ClV w.heap.size ww v T nT→Below w'.heap.size w' ww→K _ ww:=fun ww v hv hb=>hK ww v (by simpa using hv) (hx.low 6 (by decide) HEV2.out hb) (WrH.of_below hb)
       clear hK;rw[if_pos (by rfl)];go_simp;try simp only[d5]
       refine A.mono ?_;rintro e w9 ⟨v9,rfl,hv9,ho9,hb9⟩;have hK2:=hK' w9 v9 ⟨w'.heap.size,by have:=hx.1.size;have:=HEV2.out.lt2;omega,hv9,ho9⟩ hb9;clear hK' A hv9 ho9 hb9;go_simp;simpa[upd,d5] using hK2
      ·have d0:t 0=.agg (db.map (Value.int .u8)).toArray:=by simpa using hdep ⟨0,.data⟩ (by simp) rfl
       have d1:t 1=.agg (ub.map (Value.int .u8)).toArray:=by simpa using hdep ⟨1,.data⟩ (by simp) rfl
       have d3:t 3=.int .i64 k:=by simpa using hdep ⟨3,.data⟩ (by simp) rfl
       have f6:ClV w.heap.size w' (t 6) T nT:=by simpa using hdep ⟨6,.data⟩ (by simp) rfl
       clear hdep;obtain⟨B9,hB9,hv9,ho9⟩:=f6;have hK':=hK w' (.agg (bkC db ub k (t 6))) (by simpa using⟨t 6,rfl,B9,hB9,hv9,ho9⟩) (hx.ref 7 (by decide)) (WrH.refl _ _);clear hK;rw[if_pos (by rfl)];refine wp_bookB rfl d0 d1 d3 (show _=t 6 from rfl) HLD.out.1 HLD.out.2 (cells_own hv9) ?_;simpa[upd,Act.put] using hK'
      ·have f7:BlV w.heap.size w' (t 7) db ub k T nT:=by simpa using hdep ⟨7,.data⟩ (by simp) rfl
       clear hdep;obtain⟨v9,e9,B9,hB9,hv9,ho9⟩:=f7;have hrs:=hx.2.1 hLi;have hK':∀ ww,ww.heap[w.heap.size+1]?=some (.cells (bkC db ub k v9) 67 (0,0))→Wr (w.heap.size+1) w' ww→K _ ww:=fun ww hr hw=>hK ww undef (by simp[updK]) (hx.put hr hw ⟨B9,hB9,hv9,ho9⟩) hw.wrH
       clear hK;rw[if_pos (by rfl)];refine wp_store_row 67 (.tmp 2) (.tmp 63) rfl (w.heap.size+1) (bkC db ub k v9) rfl e9 67 _ hrs (by rw[bkC_size HLD.out.1 HLD.out.2];exact Tryz.sizeBook) (by rw[bkC_size HLD.out.1 HLD.out.2];exact zc_size) (bkC_one _ _ _ ho9) ?_;have hK2:=hK' _ (setRow_heap _ _ _ _ _ _ hrs) (Wr.setRow _ _ _);clear hK';simpa[upd,Act.put] using hK2
      ·clear hdep;have hK':=hK w' (.bool true) (by simp) (hx.ref 9 (by decide)) (WrH.refl _ _);clear hK;rw[if_pos (by rfl)];go_simp;simpa[upd] using hK'
     case hdone=>
      intro L t w9 hx hg;have l8:L 8=true:=by simpa using hg 8 (by decide)
      have d9:t 9=.bool true:=by simpa using hg 9 (by decide)
      clear hg;obtain⟨v9,hr9,B9,hB9,hv9,ho9⟩:=hx.2.2 l8;have HF:Hid (ObP w D U k T nT (.returned (.tuple #[.agg (bkC db ub k v9),.bool true])) w9):=
       ⟨bkC db ub k v9,by rw[HYE.out],bkC_size HLD.out.1 HLD.out.2 _ _,bkC_one _ _ _ ho9,(HEV2.out.below).trans (hx.1.below w.heap.size (by omega) HEV2.out.below.size),fun _=>⟨db,ub,v9,rfl,HSD.out,HSU.out,hv9.mono (by omega)⟩⟩
      have HR9:Hid (w9.heap[w.heap.size+1]?=some (.cells (bkC db ub k v9) 67 (0,0))):=hr9;have HZ9:Hid ((Tryz.prog.info? 67).map (·.size)=some (bkC db ub k v9).size):=by show _=_;rw[bkC_size HLD.out.1 HLD.out.2];exact Tryz.sizeBook
      simp only[d9];clear hx hr9 hv9 ho9 d9;go_wp2_with fail;exact bodyPost_ret (v:=.tuple #[.agg (bkC db ub k v9),.bool true]) (results_bk rfl _ _ (w.heap.size+1) _ _ rfl rfl HR9.out HZ9.out) rfl HF.out
   ·have hka':(k == (nU:Int)-nT)=false:=by simpa using hka
    have HKN:Hid (¬ k=(nU:Int)-nT):=hka;have hkb:decide (k<0)=false:=decide_eq_false hk;clear hka hk hk0 hk1;have HRS:Hid (W.heap[w.heap.size+1]?=some (.cells Tryz.zeroCells67 67 (0,0))):=HEV.out.res;have HFB:Hid (stB D U k T nT=false):=stB_no (fun h=>by have:=h.2.2.2.2.1;rw[HLN.out.2] at this;exact HKN.out (by omega))
    go_upto_region 6 with fail
    go_wp2_with (first
     |(refine wpList_skipG (.tmp 6) rfl (by simp[Region.wanted,yielded]) ?_)
     |(refine wpList_store_row rfl 67 (.tmp 2) (.tmp 55) rfl (w.heap.size+1) Tryz.zeroCells67 rfl rfl 67 _ HRS.out Tryz.sizeBook rfl bkZ_one ?_)
     |fail)
    refine bodyPost_ret (v:=.tuple #[.agg Tryz.zeroCells67,.bool false]) (results_bk rfl _ _ (w.heap.size+1) _ _ rfl rfl (setRow_heap _ _ _ _ _ _ HRS.out) Tryz.sizeBook) rfl ?_;exact⟨Tryz.zeroCells67,by rw[HFB.out],zc_size,bkZ_one,HEV.out.below.trans ((Wr.setRow _ _ _).below (by omega)),fun h=>by rw[HFB.out] at h;cases h⟩
 ·have h16':16<(nD:Int):=by omega
  have HRS:Hid (W.heap[w.heap.size+1]?=some (.cells Tryz.zeroCells67 67 (0,0))):=HEV.out.res;have HFB:Hid (stB D U k T nT=false):=stB_no (fun h=>by have:=h.2.1;rw[HLN.out.1] at this;omega)
  go_upto_region 4 with fail
  go_wp2_with (first
   |(refine wpList_skipG (.tmp 6) rfl (by simp[Region.wanted,yielded]) ?_)
   |(refine wpList_store_row rfl 67 (.tmp 2) (.tmp 32) rfl (w.heap.size+1) Tryz.zeroCells67 rfl rfl 67 _ HRS.out Tryz.sizeBook rfl bkZ_one ?_)
   |fail)
  refine bodyPost_ret (v:=.tuple #[.agg Tryz.zeroCells67,.bool false]) (results_bk rfl _ _ (w.heap.size+1) _ _ rfl rfl (setRow_heap _ _ _ _ _ _ HRS.out) Tryz.sizeBook) rfl ?_;exact⟨Tryz.zeroCells67,by rw[HFB.out],zc_size,bkZ_one,HEV.out.below.trans ((Wr.setRow _ _ _).below (by omega)),fun h=>by rw[HFB.out] at h;cases h⟩
open Classical in
noncomputable def memB (v:Int) (xs:List Int):Bool:=decide (v∈xs)
theorem memB_no {v:Int} {xs:List Int} (h:¬ v∈xs):memB v xs=false:=by unfold memB;simp[h]
theorem memB_yes {v:Int} {xs:List Int} (h:v∈xs):memB v xs=true:=by unfold memB;simp[h]
theorem getD_mem {xs:List Int} {k:Nat} (h:k<xs.length):xs.getD k 0∈xs:=by
 rw[List.getD_eq_getElem?_getD,List.getElem?_eq_getElem h];exact List.getElem_mem h
set_option maxHeartbeats 1000000 in
theorem holds_any (a:Option Addr) (n cap:Nat) (xs:List Int) (v:Int) (w:World) (hn:xs.length=n) (hm:n≤1048576) (ha:At .i64 w a xs) :
  Calls Tryz.prog 39 #[.slice a n cap,.int .i64 v] w fun e w'=>e=.returned (.bool (memB v xs))∧w'=w:=by
 have HNX:Hid (xs.length=n):=hn;have HA:Hid (At .i64 w a xs):=ha;clear hn ha;go_enter Tryz.func39,Tryz.ntmps39;go_wp2
 go_loop [5] (fun i=>∃ k:Nat,k≤n∧i=.int .i64 k∧Hid (∀ j,j<k→xs.getD j 0≠v)) (fun i=>n-(intOf i).toNat)
 case atStart=>exact⟨0,Nat.zero_le _,rfl,fun j hj=>by omega⟩
 case round=>
  obtain⟨k,hk,rfl,hno⟩:=hrel;by_cases hlt:k<n
  ·have hlt':(k:Int)<n:=by omega
   obtain⟨b,off,ea,hb,hc⟩:=HA.out.get (by have:=HNX.out;omega);subst ea;have hck:=hc k (by have:=HNX.out;omega);by_cases he:xs.getD k 0=v
   ·have HM:Hid (memB v xs=true):=memB_yes (by rw[←he];exact getD_mem (by have:=HNX.out;omega));rw[he] at hck;clear hc he hb;go_wp2
    go_ret
    exact⟨by rw[HM.out];rfl,rfl⟩
   ·have HN:Hid (∀ j,j<k+1→xs.getD j 0≠v):=fun j hj=>by
     by_cases hjk:j<k
     ·exact hno.out j hjk
     ·have:j=k:=by omega
      rw[this];exact he
    have he':(xs.getD k 0 == v)=false:=by simpa using he
    clear hc hb hno he;generalize xs.getD k 0=x at *;go_wp2
    go_round
    case rel=>exact⟨k+1,by omega,by go_num,HN⟩
    case measure=>simp[intOf];omega
  ·have hlt':¬ ((k:Int)<n):=by omega
   have HM:Hid (memB v xs=false):=memB_no (fun h=>by
    obtain⟨i,hi,rfl⟩:=List.getElem_of_mem h;have:=hno.out i (by have:=HNX.out;omega);rw[List.getD_eq_getElem?_getD,List.getElem?_eq_getElem hi] at this;exact this rfl)
   go_wp2
   go_ret
   exact⟨by rw[HM.out];rfl,rfl⟩
set_option maxHeartbeats 4000000 in
theorem serials_any (a:Option Addr) (n cap:Nat) (xs:List Int) (w:World) (hn:xs.length=n) (hm:n≤1048576) (ha:At .i64 w a xs) :
  Calls Tryz.prog 38 #[.slice a n cap] w fun e w'=>e=.returned (.bool (serB xs))∧∃ q,w'=w.drewN q:=by
 have HNX:Hid (xs.length=n):=hn;have HA:Hid (At .i64 w a xs):=ha;clear hn ha;go_enter Tryz.func38,Tryz.ntmps38;go_wp2
 go_loopw [3] (fun i wr=>∃ k:Nat,k≤n∧i=.int .i64 k∧Hid (∀ j,j<k→okI xs j)∧Hid (∃ q,wr=w.drewN q)) (fun i _=>n-(intOf i).toNat)
 case atStart=>exact⟨0,Nat.zero_le _,rfl,fun j hj=>by omega,⟨0,rfl⟩⟩
 case round=>
  obtain⟨k,hk,rfl,hno,hwq⟩:=hrel;obtain⟨q,rfl⟩:=hwq.out;clear hwq;by_cases hlt:k<n
  ·have hlt':(k:Int)<n:=by omega
   obtain⟨b,off,ea,hb,hc⟩:=HA.out.get (by have:=HNX.out;omega);subst ea;have hck:=hc k (by have:=HNX.out;omega);by_cases h0:xs.getD k 0<0
   ·have HS:Hid (serB xs=false):=serB_no (fun h=>by have:=(h k (by have:=HNX.out;omega)).1;omega);clear hc hb hno;generalize xs.getD k 0=x at *;go_wp2_with fail
    go_quiet (fail)
    go_wp2
    go_ret
    exact⟨by rw[HS.out];rfl,q+nq,dN _ _ _⟩
   ·have h0':decide (xs.getD k 0<0)=false:=decide_eq_false h0;by_cases h1:256≤xs.getD k 0
    ·have HS:Hid (serB xs=false):=serB_no (fun h=>by have:=(h k (by have:=HNX.out;omega)).2.1;omega);clear hc hb hno h0;generalize xs.getD k 0=x at *;go_wp2_with fail
     go_quiet (fail)
     go_wp2
     go_ret
     exact⟨by rw[HS.out];rfl,q+nq,dN _ _ _⟩
    ·have h1':decide (256≤xs.getD k 0)=false:=decide_eq_false h1;by_cases hk0:0<k
     ·obtain⟨m,rfl⟩:∃ m,k=m+1:=⟨k-1,by omega⟩
      have hck1:=hc m (by have:=HNX.out;omega);have hk0':(0:Int)<((m+1:Nat):Int):=by omega
      by_cases h2:xs.getD (m+1) 0≤xs.getD m 0
      ·have HS:Hid (serB xs=false):=serB_no (fun h=>by have:=(h (m+1) (by have:=HNX.out;omega)).2.2 (by omega);rw[Nat.add_sub_cancel] at this;omega);clear hc hb hno h0 h1 hk0;generalize xs.getD (m+1) 0=x at *;generalize xs.getD m 0=y at *;go_wp2_with fail
       go_quiet (fail)
       go_wp2
       go_ret
       exact⟨by rw[HS.out];rfl,q+nq,dN _ _ _⟩
      ·have h2':decide (xs.getD (m+1) 0≤xs.getD m 0)=false:=decide_eq_false h2;have HN:Hid (∀ j,j<m+1+1→okI xs j):=fun j hj=>by
        by_cases hjk:j<m+1
        ·exact hno.out j hjk
        ·have:j=m+1:=by omega
         rw[this];exact⟨by omega,by omega,fun _=>by rw[Nat.add_sub_cancel];omega⟩
       clear hc hb hno h0 h1 hk0 h2;generalize xs.getD (m+1) 0=x at *;generalize xs.getD m 0=y at *;go_wp2_with fail
       go_quiet (fail)
       go_wp2;go_roundw
       case rel=>exact⟨m+1+1,by omega,by go_num,HN,⟨q+nq,rfl⟩⟩
       case measure=>simp[intOf];omega
     ·have hkd:decide (0<k)=false:=decide_eq_false (by omega);have HN:Hid (∀ j,j<k+1→okI xs j):=fun j hj=>by
       have:j=k:=by omega
       rw[this];exact⟨by omega,by omega,fun h=>by omega⟩
      clear hc hb hno h0 h1 hk0;generalize xs.getD k 0=x at *;go_wp2_with fail
      go_quiet (fail)
      go_wp2;go_roundw
      case rel=>exact⟨k+1,by omega,by go_num,HN,⟨q+nq,rfl⟩⟩
      case measure=>simp[intOf];omega
  ·have hlt':¬ ((k:Int)<n):=by omega
   have HS:Hid (serB xs=true):=serB_yes (fun i hi=>hno.out i (by have:=HNX.out;omega));go_wp2
   go_ret
   exact⟨by rw[HS.out];rfl,q,rfl⟩
theorem Tryz.infoI64q:(Tryz.prog.info? 2).map (fun i=>(i.zero,i.size,i.bytes))=some (some (.int .i64 0),1,8):=by kernel_rfl
def IO (B:Nat) (w:World) (v:Value) (xs:List Int):Prop:=w.ownsRow B 2 1 v xs.length (xs.map (Value.int .i64))
theorem IO.nil (B:Nat) (w:World):IO B w (.slice none 0 0) []:=⟨by simp,.inl ⟨rfl,rfl⟩⟩
theorem IO.ownBlock {B:Nat} {w:World} {v:Value} {xs:List Int} (h:IO B w v xs):∀ k,v.ownBlock=some k→B≤k:=fun k hk=>by
 rcases h.2 with⟨h',_⟩|⟨g,c,cur,h',hb,_⟩
 ·rw[h'] at hk;simp[Value.ownBlock] at hk
 ·rw[h'] at hk;simp[Value.ownBlock] at hk;omega
theorem wpList_app1 (w:World) {ops:Array Oper} {rest:List Oper} {o:Oper} {a:Act} {Q:Exit→Act→World→Prop} (hg:o.guard=none) (sx x:Operand)
  (hop:o.op=Op.call { callee:=Callee.builtin Builtin.append,args:=#[sx,x],argTypes:=#[22,22] }) (B:Nat) (v:Value) (xs:List Int) (hs:a.eval sx=v) (hown:IO B w v xs)
  (wb:World) (z:Int) (hw:w=wb.alloc (.cells #[.int .i64 z] 2)) (hx:a.eval x=.slice (some ⟨wb.heap.size,0,none⟩) 1 1) (hm:xs.length≤1048576) (hB:B≤w.heap.size)
  (hK:∀ v' w',IO B w' v' (xs++[z])→Below B w w'→wpList Tryz.prog ops Q rest (a.put o.dst v') w') :
  wpList Tryz.prog ops Q (o::rest) a w:=by
 obtain⟨i0,hi,hz0,hz1,hz2⟩:=info_parts Tryz.infoI64q;refine wpList_append_own_at w hg sx x 22 hop B 2 i0 (.int .i64 0) 1 8 Tryz.underlying22 hi hz0 hz1 hz2 rfl (by decide) v xs.length _ hs hown ⟨wb.heap.size,0,none⟩ 1 1 [.int .i64 z] hx rfl (by rw[hw];exact cell_one_new wb _ _) (by simp[Value.oneCell']) (by unfold maxLen;omega) (by omega) hB ?_;intro v' w' h1 h2 _ _;refine hK v' w' ?_ ((Below.refl _ _).grown h2 hB hown.ownBlock);unfold IO;rw[List.map_append,List.length_append];exact h1
theorem IO.alloc {B:Nat} {w:World} {v:Value} {xs:List Int} (h:IO B w v xs) (o:Obj):IO B (w.alloc o) v xs:=World.ownsRow.alloc h _
structure LIS (w:World) (P:Nat→Bool) (k:Nat) (v:Value) (wr:World):Prop where
 own:IO w.heap.size wr v (upTo P k)
 below:Below w.heap.size w wr
set_option maxRecDepth 100000 in
set_option maxHeartbeats 1000000 in
theorem list_any (g o:Nat) (bs:List Int) (P:Nat→Bool) (w:World) (hb:∀ w',Below w.heap.size w w'→BAt w' g o bs) (hs:SetB bs (fun v=>P v=true)) :
  Calls Tryz.prog 53 #[.pointer (some ⟨g,o,none⟩)] w fun e w'=>∃ v,e=.returned v∧IO w.heap.size w' v (upTo P 256)∧Below w.heap.size w w':=by
 have HB:Hid (∀ w',Below w.heap.size w w'→BAt w' g o bs):=hb;have HS:Hid (SetB bs (fun v=>P v=true)):=hs;have H0:Hid (LIS w P 0 (.slice none 0 0) w):=⟨IO.nil _ _,Below.refl _ _⟩
 clear hb hs;go_enter Tryz.func53,Tryz.ntmps53;go_wp2_with fail
 go_loopw [3,5] (fun l i wr=>∃(k:Nat) (v:Value),k≤256∧i=.int .i64 k∧v=l∧LIS w P k v wr) (fun _ i _=>256-(intOf i).toNat)
 case atStart=>exact⟨0,_,by omega,rfl,rfl,H0.out⟩
 case round=>
  clear H0;obtain⟨k,l,hk,rfl,rfl,hst⟩:=hrel;by_cases hlt:k<256
  ·have hlt':(k:Int)<256:=by omega
   have HST:Hid (LIS w P k l wr):=hst;have HQ:Hid (P k=true↔(0≤(k:Int)∧(k:Int)<256∧P (k:Int).toNat=true)):=by
    show _↔_
    rw[Int.toNat_natCast];exact⟨fun h=>⟨by omega,by omega,h⟩,fun h=>h.2.2⟩
   clear hst;go_wp2_with fail;refine(hasS_any g o k bs _ (P k) _ (HB.out _ HST.out.below) HS.out HQ.out).mono ?_;rintro e w2 ⟨rfl,rfl⟩;by_cases hp:P k=true
   ·have HN:Hid (upTo P (k+1)=upTo P k++[(k:Int)]):=by show _=_;rw[upTo_succ,if_pos hp]
    rw[hp];have HL:Hid ((upTo P k).length≤1048576):=Nat.le_trans (upTo_len P k) (by omega);have HO:Hid (IO w.heap.size (w2.alloc (.cells #[.int .i64 (k:Int)] 2)) l (upTo P k)):=HST.out.own.alloc _;have HZ:Hid (w.heap.size≤(w2.alloc (.cells #[.int .i64 (k:Int)] 2)).heap.size):=by
     show _≤_
     have:=HST.out.below.size;simp;omega
    clear hp HQ;go_wp2_with (first
     |(refine wpList_app1 _ rfl (.tmp 11) (.tmp 13) rfl w.heap.size _ (upTo P k) rfl HO.out w2 k rfl rfl HL.out HZ.out ?_)
     |fail)
    intro v' w3 h1 h2;have HF:Hid (LIS w P (k+1) v' w3):=⟨by rw[HN.out];exact h1,(HST.out.below.alloc HST.out.below.size _).trans h2⟩
    clear h1 h2 HO HZ HL;go_wp2;go_roundw
    case rel=>exact⟨k+1,_,by omega,by go_num,rfl,HF.out⟩
    case measure=>simp[intOf];omega
   ·have HF:Hid (LIS w P (k+1) l w2):=⟨by rw[upTo_succ,if_neg hp];exact HST.out.own,HST.out.below⟩
    rw[Bool.not_eq_true] at hp;rw[hp];clear hp HQ;go_wp2;go_roundw
    case rel=>exact⟨k+1,_,by omega,by go_num,rfl,HF.out⟩
    case measure=>simp[intOf];omega
  ·have hke:k=256:=by omega
   subst hke;have HF:Hid (∃ v,Ending.returned l=.returned v∧IO w.heap.size wr v (upTo P 256)∧Below w.heap.size w wr):=⟨l,rfl,hst.own,hst.below⟩
   clear hst;go_wp2
   go_ret
   exact HF.out
theorem pop8_le (x:Nat):pop8 x≤8:=by
 unfold pop8;exact Nat.le_trans (List.length_filter_le _ _) (by simp)
theorem tab_pop (T:ByteArray) (h:∀ y:Fin T.size,(T[y.val]).toNat=pop8 y.val) (x:Nat) (hx:x<T.size):wrap64 ((T[x]).toNat:Int)=pop8 x:=by
 have e:(T[x]).toNat=pop8 x:=h ⟨x,hx⟩;rw[e];have:=pop8_le x;unfold wrap64;omega
set_option maxRecDepth 100000 in
set_option maxHeartbeats 1000000 in
theorem ones8_any (x:Nat) (hx:x<256) (w:World):Calls Tryz.prog 115 #[.int .u8 x] w fun e w'=>e=.returned (.int .i64 (pop8 x))∧w'=w:=by
 have hx':(x:Int)<256:=by omega
 go_enter Tryz.func115,Tryz.ntmps115;go_wp2
 go_ret
 exact⟨congrArg (fun z=>Ending.returned (Value.int .i64 z)) (tab_pop _ (by decide +kernel) x _),rfl⟩
set_option maxRecDepth 100000 in
set_option maxHeartbeats 1000000 in
theorem size_any (g o:Nat) (bs:List Int) (w:World) (hb:BAt w g o bs) :
  Calls Tryz.prog 83 #[.pointer (some ⟨g,o,none⟩)] w fun e w'=>e=.returned (.int .i64 (popS bs 32))∧w'=w:=by
 have HB:Hid (BAt w g o bs):=hb;clear hb;go_enter Tryz.func83,Tryz.ntmps83;go_wp2_with fail
 go_loopw [3,7] (fun s i wr=>∃ k:Nat,k≤32∧i=.int .i64 k∧s=.int .i64 (popS bs k)∧popS bs k≤8*k∧wr=w) (fun _ i _=>32-(intOf i).toNat)
 case atStart=>exact⟨0,by omega,rfl,rfl,Nat.le_refl _,rfl⟩
 case round=>
  obtain⟨k,hk,rfl,rfl,hle,rfl⟩:=hrel;by_cases hlt:k<32
  ·have hlt':(k:Int)<32:=by omega
   obtain⟨h1,h2,h3⟩:=HB.out;obtain⟨c0,f0⟩:=h3 k hlt;obtain⟨x0,x1⟩:=h2.get k;have HS:Hid (popS bs (k+1)=popS bs k+pop8 (bs.getD k 0).toNat):=popS_succ bs k;obtain⟨x,hx⟩:=Int.eq_ofNat_of_zero_le x0;rw[hx] at c0 x1;have HX:Hid ((bs.getD k 0).toNat=x):=by show _=_;rw[hx];exact Int.toNat_natCast x
   have hx256:x<256:=by omega
   have hp8:pop8 x≤8:=pop8_le x;rw[HX.out] at HS;clear h1 h2 h3 hx x0 HX f0 x1;generalize popS bs k=s at *;go_wp2_with fail;refine(ones8_any x hx256 _).mono ?_;rintro e w2 ⟨rfl,rfl⟩;generalize pop8 x=p at *;go_wp2;go_roundw
   case rel=>exact⟨k+1,by omega,by go_num,by rw[HS.out,Int.natCast_add],by have:=HS.out;omega,trivial⟩
   case measure=>simp[intOf];omega
  ·have hke:k=32:=by omega
   subst hke;go_wp2
   go_ret
   exact⟨rfl,rfl⟩
def NumPost (w:World) (v:Int) (e:Ending) (w':World):Prop:=
 ∃ ms:List Int,ms.length=4∧Wrd ms∧val 18446744073709551616 ms=v∧e=.returned (.agg (ms.map (Value.int .u64)).toArray)∧Below w.heap.size w w'
structure NO (w:World) (zs:List Int) (k:Nat) (wr:World):Prop where
 res:RowW wr w.heap.size 143 [0,0,0,0]
 row:∃ ns,ns.length=4∧RowW wr (w.heap.size+1) 143 ns∧Wrd ns∧val 18446744073709551616 ns=val 256 (zs.take k)
 below:Below w.heap.size w wr
theorem u64_or_add' (a b:Int) (k:Nat) (ha:0≤a) (ha':a<18446744073709551616) (hb:0≤b) (hb':b<2^k) (hb'':b<18446744073709551616) (q:Int) (hd:a=q*2^k):bits .or .u64 b a=b+a:=by
 have:=u64_or_add a b k ha ha' hb hb' hb'' q hd;obtain⟨a,rfl⟩:=Int.eq_ofNat_of_zero_le ha;obtain⟨b,rfl⟩:=Int.eq_ofNat_of_zero_le hb;rw[u64_or_nat a b (by omega) (by omega)] at this;rw[u64_or_nat b a (by omega) (by omega),Nat.or_comm];omega
theorem nof_word (V y x:Int) (j:Nat) (hj:j<32) (hV0:0≤V) (hV:V<256^j) (hy:V/18446744073709551616^(j/8)%18446744073709551616=y) (hx0:0≤x) (hx1:x<256) :
  bits .or .u64 y (IntKind.u64.wrap (x*2^(8*(j%8))))=y+x*256^(j%8)∧0≤y+x*256^(j%8)∧y+x*256^(j%8)<18446744073709551616∧x*256^(j%8)*18446744073709551616^(j/8)=x*256^j:=by
 have e1:(256:Int)^j=18446744073709551616^(j/8)*256^(j%8):=by
  rw[show(18446744073709551616:Int)=256^8 from by decide,←Int.pow_mul,←Int.pow_add]
  congr 1;omega
 have hp:(0:Int)<18446744073709551616^(j/8):=Int.pow_pos (by decide);have a0:0≤V/18446744073709551616^(j/8):=Int.ediv_nonneg hV0 (by omega);have a1:V/18446744073709551616^(j/8)<256^(j%8):=Int.ediv_lt_of_lt_mul hp (by rw[Int.mul_comm,←e1];exact hV);have e2:(2:Int)^(8*(j%8))=256^(j%8):=(pow256 _).symm;have e3:x*256^(j%8)*18446744073709551616^(j/8)=x*256^j:=by rw[e1];grind
 have hr:j%8<8:=Nat.mod_lt _ (by decide);have hle:(256:Int)^(j%8)≤256^7:=by
  have:j%8=0∨j%8=1∨j%8=2∨j%8=3∨j%8=4∨j%8=5∨j%8=6∨j%8=7:=by omega
  rcases this with h|h|h|h|h|h|h|h<;>rw[h]<;>decide
 have hP0:(0:Int)<256^(j%8):=Int.pow_pos (by decide);have e7:(256:Int)^7=72057594037927936:=by decide
 rw[e7] at hle;refine⟨?_,?_,?_,e3⟩;all_goals
  generalize V/18446744073709551616^(j/8)=z at *;have hzy:z=y:=by rw[←hy];exact(Int.emod_eq_of_lt a0 (by omega)).symm
  subst hzy;have m0:0≤x*256^(j%8):=Int.mul_nonneg hx0 (by omega);have m1:x*256^(j%8)≤255*256^(j%8):=Int.mul_le_mul_of_nonneg_right (by omega) (by omega)
 ·rw[e2,IntKind.wrap_u64,Int.emod_eq_of_lt m0 (by omega)];exact u64_or_add' _ _ (8*(j%8)) m0 (by omega) a0 (by rw[e2];exact a1) (by omega) x (by rw[e2])
 ·omega
 ·omega
set_option maxHeartbeats 1000000 in
theorem nof_any (a:Option Addr) (n cap:Nat) (zs:List Int) (w:World) (hn:zs.length=n) (hm:32≤n) (hm':n≤1048576) (ha:At .u8 w a zs) (hz:Byte zs) :
  Calls Tryz.prog 105 #[.slice a n cap] w (NumPost w (val 256 (zs.take 32))):=by
 have HS:Hid (NO w zs 0 ((w.alloc (.cells #[.int .u64 0,.int .u64 0,.int .u64 0,.int .u64 0] 143)).alloc (.cells #[.int .u64 0,.int .u64 0,.int .u64 0,.int .u64 0] 143))):=
  ⟨heap_alloc2_old _ _ _,⟨[0,0,0,0],rfl,heap_alloc2_new _ _ _,by unfold Wrd;decide,by rw[List.take_zero];decide⟩,((Below.refl _ _).alloc (Nat.le_refl _) _).alloc (by simp) _⟩
 go_enter Tryz.func105,Tryz.ntmps105;go_wp2
 go_loopw [5] (fun i wr=>∃(j:Nat),j≤32∧i=.int .i64 j∧NO w zs j wr) (fun i _=>32-(intOf i).toNat)
 case atStart=>exact⟨0,Nat.zero_le _,rfl,HS.out⟩
 case round=>
  clear HS;obtain⟨j,hj,rfl,hres,⟨ns,hl,hrow,hw,hv⟩,hbel⟩:=hrel;by_cases hj0:j<32
  ·obtain⟨b0,off,rfl,hb0,hc⟩:=(ha.below hbel).get (by omega);have c0:=hc j (by omega);have hx:=hz.get j;have hV:=val_take 256 zs j (by omega);have ht0:0≤val 256 (zs.take j):=val_nonneg (by decide) (fun z hz'=>hz z (List.mem_of_mem_take hz'));have ht1:val 256 (zs.take j)<256^j:=by
    have:=val_lt (B:=256) (by decide) (xs:=zs.take j) (fun z hz'=>hz z (List.mem_of_mem_take hz'))
    rwa [List.length_take,Nat.min_eq_left (by omega)] at this
   have hdg:=val_digit (B:=18446744073709551616) (by decide) hw (j/8);rw[hv] at hdg;obtain⟨n1,n2,n3,n4⟩:=nof_word _ _ _ j hj0 ht0 ht1 hdg hx.1 hx.2;have S1:=hrow.set (j/8) (ns.getD (j/8) 0+zs.getD j 0*256^(j%8));have S2:=hw.set (j/8) _ n2 n3;have S3:=val_set 18446744073709551616 ns (j/8) (ns.getD (j/8) 0+zs.getD j 0*256^(j%8)) (by omega);rw[show ns.getD (j/8) 0+zs.getD j 0*256^(j%8)-ns.getD (j/8) 0=zs.getD j 0*256^(j%8) by omega,n4,hv,←hV] at S3;have c1:=hrow.cell (j/8) (by omega);have f1:=hrow.frozen (j/8);have HS:Hid (NO w zs (j+1) (wr.setCell ⟨w.heap.size+1,j/8,none⟩ (.int .u64 (ns.getD (j/8) 0+zs.getD j 0*256^(j%8))))):=
    ⟨((Wr.refl _ _).setCell (j/8) _).rowW hres (by omega),⟨_,by rw[List.length_set];exact hl,S1,S2,S3⟩,hbel.setCell (by simp) _⟩
   have HN1:Hid (bits .or .u64 (ns.getD (j/8) 0) (IntKind.u64.wrap (zs.getD j 0*2^(8*(j%8))))=ns.getD (j/8) 0+zs.getD j 0*256^(j%8)):=n1;clear hV ht0 ht1 hdg n1 n2 n3 n4 S1 S2 S3 hv hrow hres hbel hw;generalize zs.getD j 0=x at *;obtain⟨hx0,hx1⟩:=hx;clear hc;have hlt:(j:Int)<n:=by omega
   have hlt2:(j:Int)/8<4:=by omega
   generalize ns.getD (j/8) 0=y at *;go_wp2
   go_region
   rw[HN1.out];have HS2:Hid (NO w zs (j+1) ((wr.setCell ⟨w.heap.size+1,j/8,none⟩ (.int .u64 (y+x*256^(j%8)))).drew)):=
    ⟨HS.out.res,HS.out.row,⟨HS.out.below.os,HS.out.below.tape,HS.out.below.output,HS.out.below.size,HS.out.below.block⟩⟩
   clear HS c0 c1 f1;generalize (wr.setCell ⟨w.heap.size+1,j/8,none⟩ (.int .u64 (y+x*256^(j%8)))).drew=w2 at *;go_wp2;go_roundw
   case rel=>exact⟨j+1,by omega,by go_num,HS2.out⟩
   case measure=>simp[intOf];omega
  ·have hj32:j=32:=by omega
   subst hj32;have HSZ:Hid ((Tryz.prog.info? 143).map (·.size)=some ((ns.map (Value.int .u64)).toArray).size):=sizeNum hl;have HZ4:Hid (([0,0,0,0].map (Value.int .u64)).toArray.size=((ns.map (Value.int .u64)).toArray).size):=by show _=_;simp[hl]
   have HRS:Hid (RowW wr w.heap.size 143 [0,0,0,0]):=hres;have HRO:Hid (RowW wr (w.heap.size+1) 143 ns):=hrow;have HBE:Hid (Below w.heap.size w wr):=hbel;have HV:Hid (val 18446744073709551616 ns=val 256 (zs.take 32)):=hv;clear hres hrow hbel hv;go_wp2_with (first
    |(refine wpList_load_row rfl 143 (.tmp 3) rfl (w.heap.size+1) rfl 143 _ (0,0) _ HRO.out Tryz.underlying143 rfl HSZ.out ?_)
    |(refine wpList_store_row rfl 143 (.tmp 2) (.tmp 24) rfl w.heap.size ((ns.map (Value.int .u64)).toArray) rfl rfl 143 _ HRS.out HSZ.out HZ4.out (all_oneCell_toArray (ints_oneCell _ _)) ?_))
   refine bodyPost_ret (v:=.agg (ns.map (Value.int .u64)).toArray) (results_cell_row rfl _ _ w.heap.size 143 _ (0,0) _ rfl (setRow_heap _ _ _ _ _ _ HRS.out) Tryz.underlying143 rfl HSZ.out) rfl ⟨ns,hl,hw,HV.out,rfl,?_⟩;exact HBE.out.trans ((Wr.setRow _ _ _).below (Nat.le_refl _))
end Go.Proofs.YtjdhhgaelgemcaaGreatDoor
