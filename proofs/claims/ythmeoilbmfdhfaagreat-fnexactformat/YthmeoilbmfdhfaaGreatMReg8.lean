import Derived.Test.YthmeoilbmfdhfaaGreatMSvP
import Derived.Test.YthmeoilbmfdhfaaGreatMRowB
import Derived.Test.YthmeoilbmfdhfaaGreatMBase
import Derived.Deep.MidRow
import Derived.Laws.Tables
import Derived.Maps.AppendAt
namespace Go.Proofs.YthmeoilbmfdhfaaGreat
open Go.ChangeShapes Go.WideShapes Go.ChangeAt Go.RowKit
set_option linter.unusedVariables false
section
variable {P:Program} {ops:Array Oper} {Q:Exit→Act→World→Prop} {md:Region.Mode}
theorem wpAny_slotsG (M:Nat→World→World→Prop) (frame:(Nat→Value)→Act) (Ext:(Nat→Bool)→World→Prop) (Good:Nat→(Nat→Bool)→World→Value→Prop)
  (hstab:∀ j L w w' i v,M i w w'→i≠j→L i=false→Good j L w v→Good j (updK L i) w' v)
  (hback:(List.range ops.size).all (fun i=>((ops[i]?).map (fun o=>o.after.all (fun e=>decide (e.on<i)))).getD false)=true)
  (hop:∀(i:Nat) (o:Oper) (L:Nat→Bool) (u:Nat→Value) (w:World),ops[i]?=some o→L i=false→Ext L w→(∀ e∈o.after,Region.binds md e=true→Good e.on L w (u e.on))→
   ∀ K:Act→World→Prop,(∀ w' v,Good i (updK L i) w' v→Ext (updK L i) w'→M i w w'→K (frame (upd u i v)) w')→(if Region.wanted o (yielded ops (frame u).tmps)=true then Oper.wp P o (frame u) w K Q else K ((frame u).put o.dst undef) w))
  (hdone:∀ L u w,Ext L w→(∀ i,i<ops.size→Good i L w (u i))→Q .normal (frame u) w) :
  ∀(fuel:Nat) (listed:Array Bool) (u:Nat→Value) (w:World),listed.size=ops.size→Ext (fun n=>listed.getD n false) w→(∀ i,i<ops.size→listed.getD i false=true→Good i (fun n=>listed.getD n false) w (u i))→
   (listed.toList.filter (!·)).length≤fuel→wpAny P md ops Q fuel listed (frame u) w:=by
 have hb:∀(i:Nat) (o:Oper),ops[i]?=some o→∀ e∈o.after,e.on<i:=fun i o ho e he=>by
  have hi:i<ops.size:=(Array.getElem?_eq_some_iff.1 ho).1;have:=List.all_eq_true.1 hback i (List.mem_range.2 hi);rw[ho] at this;simp at this;obtain⟨k,hk,rfl⟩:=Array.mem_iff_getElem.1 he;exact this k hk
 have hfin:∀(listed:Array Bool) (u:Nat→Value) (w:World),listed.size=ops.size→Ext (fun n=>listed.getD n false) w→(∀ i,i<ops.size→listed.getD i false=true→Good i (fun n=>listed.getD n false) w (u i))→Region.ready md ops listed=[]→Q .normal (frame u) w:=by
  intro listed u w hs he hgd hr;refine hdone _ u w he fun i hi=>hgd i hi ?_
  have hall:∀ n i,i<n→i<ops.size→listed.getD i false=true:=by
   intro n
   induction n with
   |zero=>intro i h;omega
   |succ n ih=>
    intro i hin hi;by_cases hlt:i<n
    ·exact ih i hlt hi
    ·cases hl:listed.getD i false with
     |true=>rfl
     |false=>
      exfalso
      have hl':listed.getD i true=false:=by
       have hil:i<listed.size:=by omega
       simp[hil] at hl ⊢;exact hl
      have:i∈Region.ready md ops listed:=mem_ready.2 ⟨hi,hl',ops[i],by simp[hi],fun e hee _=>ih e.on (by have:=hb i ops[i] (by simp[hi]) e hee;omega) (by have:=hb i ops[i] (by simp[hi]) e hee;omega)⟩;rw[hr] at this;cases this
  exact hall (i+1) i (by omega) hi
 intro fuel
 induction fuel with
 |zero=>
  intro listed u w hs he hgd hc;have hr:Region.ready md ops listed=[]:=by
   apply List.eq_nil_iff_forall_not_mem.2;intro i hi;obtain⟨h1,h2,_⟩:=mem_ready.1 hi;have hil:i<listed.size:=by omega
   have h3:listed[i]=false:=by simpa[hil] using h2
   have:listed[i]∈listed.toList.filter (!·):=by
    rw[List.mem_filter];exact⟨by simp,by rw[h3];rfl⟩
   have:=List.length_pos_of_mem this;omega
  exact⟨hr,hfin listed u w hs he hgd hr⟩
 |succ fuel ih=>
  intro listed u w hs he hgd hc;refine⟨fun hr=>hfin listed u w hs he hgd hr,fun i hi=>?_⟩;obtain⟨h1,h2,o,ho,h3⟩:=mem_ready.1 hi;refine wpOp_step ho fun K hK=>?_
  have hil:i<listed.size:=by omega
  have hnl:listed.getD i false=false:=by simp[hil] at h2 ⊢;exact h2
  have hupd:(fun n=>(listed.setIfInBounds i true).getD n false)=updK (fun n=>listed.getD n false) i:=by
   funext n;rw[getD_set listed i n hil];rfl
  refine hop i o (fun n=>listed.getD n false) u w ho hnl he (fun e hee hbd=>hgd e.on (by have:=hb i o ho e hee;omega) (h3 e hee hbd)) K fun w' v hgv hext hm=>hK _ _ ?_
  refine ih _ _ w' (by simpa using hs) (by rw[hupd];exact hext) (fun j hj hlj=>?_) ?_
  ·rw[getD_set listed i j hil] at hlj;unfold upd;by_cases hji:j=i
   ·subst hji;rw[hupd];simpa using hgv
   ·rw[if_neg hji] at hlj;rw[if_neg hji,hupd];exact hstab j _ w w' i _ hm (Ne.symm hji) hnl (hgd j hj hlj)
  ·have:listed.toList[i]?=some false:=by simp[hil] at h2;simp[hil,h2]
   have:=count_set listed.toList i this;rw[Array.toList_setIfInBounds];omega
end
theorem dN (w:World) (q p:Nat):(w.drewN q).drewN p=w.drewN (q+p):=by simp[World.drewN,Nat.add_assoc]
theorem below_dq {B:Nat} {a w:World} (h:Below B a w) (n:Nat):Below B a (w.drewN n):=⟨h.os,h.tape,h.output,h.size,h.block⟩
theorem Tryz.infoTap:(Tryz.prog.info? 133).map (fun i=>(i.zero,i.size,i.bytes))=some (some (.agg #[.int .i64 0,.int .i64 0]),2,16):=by kernel_rfl
def TapO (B:Nat) (w:World) (v:Value) (T:List Int) (n:Nat):Prop:=w.ownsRow B 133 2 v n (T.map (Value.int .i64))
theorem run_nilT (w:World) (a:Option Addr) (n c:Nat):(binOp .eql 32 (.slice a n c) (.slice none 0 0)).run Tryz.prog w=.ok (.bool a.isNone) w:=by
 have h:∀ d,(Op.equalIn (d+1) 32 (.slice a n c) (.slice none 0 0)).run Tryz.prog w=.ok a.isNone w:=fun d=>by
  cases a<;>simp[Op.equalIn,run_underlying Tryz.underlying32]
 have h':(Op.equal 32 (.slice a n c) (.slice none 0 0)).run Tryz.prog w=.ok a.isNone w:=h 9999
 simp only[binOp]
 simp[h']
def ClT (w:World) (T:List Int) (n:Nat) (e:Ending) (w':World):Prop:=∃ v,e=.returned v∧TapO w.heap.size w' v T n∧v.oneCell'=true∧Below w.heap.size w w'
theorem wpList_appT (w:World) {ops:Array Oper} {rest:List Oper} {o:Oper} {a:Act} {Q:Exit→Act→World→Prop} (hg:o.guard=none) (sx x:Operand)
  (hop:o.op=Op.call { callee:=Callee.builtin Builtin.append,args:=#[sx,x],argTypes:=#[32,32] }) (B:Nat) (v:Value) (xs:List Value) (hs:a.eval sx=v) (hown:w.ownsRow B 133 2 v 0 xs)
  (ad:Addr) (n c:Nat) (T:List Int) (hx:a.eval x=.slice (some ad) n c) (hl:(T.map (Value.int .i64)).length=n*2) (hnews:∀ j u,(T.map (Value.int .i64))[j]?=some u→w.cell? (ad.add j)=some u) (hm:n≤1048576) (hB:B≤w.heap.size)
  (hK:∀ v' w',w'.ownsRow B 133 2 v' n (xs++T.map (Value.int .i64))→w.grownBy w' v.ownBlock→wpList Tryz.prog ops Q rest (a.put o.dst v') w') :
  wpList Tryz.prog ops Q (o::rest) a w:=by
 obtain⟨i0,hi,hz0,hz1,hz2⟩:=info_parts Tryz.infoTap
 refine wpList_append_own_at w hg sx x 32 hop B 133 i0 (.agg #[.int .i64 0,.int .i64 0]) 2 16 Tryz.underlying32 hi hz0 hz1 hz2 rfl (by decide) v 0 xs hs hown ad n c (T.map (Value.int .i64)) hx hl hnews (ints_oneCell _ _) (by unfold maxLen;omega) (by omega) hB ?_
 intro v' w' h1 h2 _ _
 rw[Nat.zero_add] at h1
 exact hK v' w' h1 h2
set_option maxRecDepth 100000 in
set_option maxHeartbeats 1000000 in
theorem clnT_any (a:Option Addr) (n cap:Nat) (T:List Int) (w:World) (hn:T.length=n*2) (hm:n≤1048576) (ha:At .i64 w a T) (hnil:a=none→n=0∧cap=0) :
  Calls Tryz.prog 85 #[.slice a n cap] w (ClT w T n):=by
 cases a with
 |none=>
  obtain⟨rfl,rfl⟩:=hnil rfl;have hT:T=[]:=List.eq_nil_of_length_eq_zero (by omega);subst hT;have HP:Hid (ClT w [] 0 (.returned (.slice none 0 0)) w):=⟨_,rfl,⟨by simp,.inl ⟨rfl,rfl⟩⟩,rfl,Below.refl _ _⟩
  have E:=run_nilT w none 0 0;clear hn ha hnil hm;go_enter Tryz.func85,Tryz.ntmps85;go_wp2
  go_ret
  exact HP.out
 |some ad=>
  have HNW:Hid (∀ j u,(T.map (Value.int .i64))[j]?=some u→(w.alloc (.cells #[] 133)).cell? (ad.add j)=some u):=by
   intro j u hu;have hj:j<T.length:=by have:=(List.getElem?_eq_some_iff.1 hu).1;simpa using this
   obtain⟨b,off,e,hb,hc⟩:=ha.get (by omega);cases e;rw[Addr.add_lit,World.cell?_alloc_old _ _ _ (by show b≠w.heap.size;omega),hc j hj];simp[hj] at hu;simp[hj,hu]
  have HO:Hid ((w.alloc (.cells #[] 133)).ownsRow w.heap.size 133 2 (.slice (some ⟨w.heap.size,0,none⟩) 0 0) 0 []):=
   ⟨by simp,.inr ⟨w.heap.size,0,#[],rfl,Nat.le_refl _,heap_alloc_new w _,Nat.le_refl _,by simp[maxLen],rfl,rfl⟩⟩
  have HL:Hid ((T.map (Value.int .i64)).length=n*2∧n≤1048576):=⟨by simp[hn],hm⟩
  have E:=run_nilT w (some ad) n cap;clear hn ha hnil hm;go_enter Tryz.func85,Tryz.ntmps85;go_wp2_with (first
   |(refine wpList_appT _ rfl (.tmp 5) (.tmp 6) rfl w.heap.size _ [] rfl HO.out ad n cap T rfl HL.out.1 HNW.out HL.out.2 (by simp) ?_)
   |fail)
  intro v' w3 ho hgr;have HF:Hid (ClT w T n (.returned v') w3):=by
   have hB:Below w.heap.size (w.alloc (.cells #[] 133)) w3:=(Below.refl _ _).grown hgr (by simp) (fun k hk=>by simp[Value.ownBlock] at hk;omega);refine⟨v',rfl,by unfold TapO;simpa using ho,?_,((Below.refl _ _).alloc (Nat.le_refl _) _).trans hB⟩;rcases ho.2 with⟨h,_⟩|⟨g,c,cur,h,_⟩
   ·rw[h];rfl
   ·rw[h];rfl
  clear ho hgr HNW HO HL;go_wp2
  go_ret
  exact HF.out
theorem fold_size (off:Nat) (vs:List Value) (n:Nat) (cs:Array Value):((vs.zipIdx n).foldl (fun cs (x:Value×Nat)=>cs.setIfInBounds (off+x.2) x.1) cs).size=cs.size:=by
 induction vs generalizing n cs with
 |nil=>rfl
 |cons v vs ih=>rw[List.zipIdx_cons,List.foldl_cons,ih];simp
theorem fold_get (off:Nat) (vs:List Value) (n:Nat) (cs:Array Value) (h:off+n+vs.length≤cs.size) (i:Nat) :
  ((vs.zipIdx n).foldl (fun cs (x:Value×Nat)=>cs.setIfInBounds (off+x.2) x.1) cs)[i]?=if off+n≤i∧i<off+n+vs.length then vs[i-(off+n)]? else cs[i]?:=by
 induction vs generalizing n cs with
 |nil=>rw[if_neg (by simp)];rfl
 |cons v vs ih=>
  simp only[List.length_cons] at h;rw[List.zipIdx_cons,List.foldl_cons,ih (n+1) _ (by simp;omega)];by_cases h1:off+(n+1)≤i∧i<off+(n+1)+vs.length
  ·rw[if_pos h1,if_pos (by simp only[List.length_cons];omega),show i-(off+n)=(i-(off+(n+1)))+1 by omega,List.getElem?_cons_succ]
  ·rw[if_neg h1];by_cases h2:i=off+n
   ·subst h2;rw[if_pos (by simp only[List.length_cons];omega),Nat.sub_self,List.getElem?_cons_zero,Array.getElem?_setIfInBounds_self_of_lt (by omega)]
   ·rw[if_neg (by simp only[List.length_cons];omega),Array.getElem?_setIfInBounds_ne (by omega)]
def bkC (d u:List Int) (k:Int) (v:Value):Array Value:=(d.map (Value.int .u8)++u.map (Value.int .u8)++[.int .i64 k,v]).toArray
theorem bkC_size {d u:List Int} (hd:d.length=32) (hu:u.length=32) (k:Int) (v:Value):(bkC d u k v).size=66:=by unfold bkC;simp[hd,hu]
theorem bkC_one (d u:List Int) (k:Int) {v:Value} (hv:v.oneCell'=true):(bkC d u k v).all (fun x=>x.oneCell')=true:=by
 unfold bkC
 rw[List.all_toArray]
 simp only[List.all_append,List.all_map,List.all_cons,List.all_nil,hv]
 simp[Function.comp_def,Value.oneCell']
def ovl (off:Nat) (vs cs:Array Value):Array Value:=vs.zipIdx.foldl (fun cs (x:Value×Nat)=>cs.setIfInBounds (off+x.2) x.1) cs
theorem ovl_eq (off:Nat) (vs cs:Array Value):ovl off vs cs=((vs.toList.zipIdx 0).foldl (fun cs (x:Value×Nat)=>cs.setIfInBounds (off+x.2) x.1) cs):=by
 unfold ovl;rw[←Array.foldl_toList];simp
theorem ovl_size (off:Nat) (vs cs:Array Value):(ovl off vs cs).size=cs.size:=by rw[ovl_eq];exact fold_size _ _ _ _
theorem ovl_get (off:Nat) (vs cs:Array Value) (h:off+vs.size≤cs.size) (i:Nat):(ovl off vs cs)[i]?=if off≤i∧i<off+vs.size then vs[i-off]? else cs[i]?:=by
 rw[ovl_eq,fold_get off vs.toList 0 cs (by simpa using h) i]
 simp
theorem fill_cons (places:Nat→Option (Nat×Nat)) (cs:Array Value) (i off size:Nat) (v:Value) (rest:List (Nat×Value)) (hp:places i=some (off,size)) (hs:v.cells.size=size) (hc:off+size≤cs.size) :
  Instr.fill places cs ((i,v)::rest)=Instr.fill places (ovl off v.cells cs) rest:=by
 rw[Instr.fill,hp]
 simp only[]
 rw[if_neg (by simp[hs];omega)]
 rfl
theorem fillB (places:Nat→Option (Nat×Nat)) (p0:places 0=some (0,32)) (p1:places 1=some (32,32)) (p2:places 2=some (64,1)) (p3:places 3=some (65,1)) (z:Array Value) (hz:z.size=66) (d u:List Int) (hd:d.length=32) (hu:u.length=32) (k:Int) (v:Value) (hv:v.cells=#[v]) :
  Instr.fill places z [(0,.agg (d.map (Value.int .u8)).toArray),(1,.agg (u.map (Value.int .u8)).toArray),(2,.int .i64 k),(3,v)]=some (bkC d u k v):=by
 have sd:((d.map (Value.int .u8)).toArray).size=32:=by simp[hd]
 have su:((u.map (Value.int .u8)).toArray).size=32:=by simp[hu]
 have s1:(ovl 0 (d.map (Value.int .u8)).toArray z).size=66:=by rw[ovl_size];exact hz
 have s2:(ovl 32 (u.map (Value.int .u8)).toArray (ovl 0 (d.map (Value.int .u8)).toArray z)).size=66:=by rw[ovl_size];exact s1
 have s3:(ovl 64 #[.int .i64 k] (ovl 32 (u.map (Value.int .u8)).toArray (ovl 0 (d.map (Value.int .u8)).toArray z))).size=66:=by rw[ovl_size];exact s2
 have key:ovl 65 #[v] (ovl 64 #[.int .i64 k] (ovl 32 (u.map (Value.int .u8)).toArray (ovl 0 (d.map (Value.int .u8)).toArray z)))=bkC d u k v:=by
  apply Array.ext_getElem?;intro i;rw[ovl_get _ _ _ (by rw[s3];simp),ovl_get _ _ _ (by rw[s2];simp),ovl_get _ _ _ (by rw[s1,su];omega),ovl_get _ _ _ (by rw[hz,sd];omega),sd,su];have e:(bkC d u k v)[i]?=(d.map (Value.int .u8)++u.map (Value.int .u8)++[.int .i64 k,v])[i]?:=by unfold bkC;simp
  rw[e];simp only[List.size_toArray,List.length_cons,List.length_nil];by_cases h0:i<32
  ·rw[if_neg (by omega),if_neg (by omega),if_neg (by omega),if_pos (by omega)];rw[List.getElem?_append_left (by simp[hd,hu];omega),List.getElem?_append_left (by simp[hd];omega)];simp
  ·by_cases h1:i<64
   ·rw[if_neg (by omega),if_neg (by omega),if_pos (by omega)];rw[List.getElem?_append_left (by simp[hd,hu];omega),List.getElem?_append_right (by simp[hd];omega)];simp[hd]
   ·by_cases h2:i=64
    ·subst h2;rw[if_neg (by omega),if_pos (by omega),List.getElem?_append_right (by simp[hd,hu])];simp[hd,hu]
    ·by_cases h3:i=65
     ·subst h3;rw[if_pos (by omega),List.getElem?_append_right (by simp[hd,hu])];simp[hd,hu]
     ·rw[if_neg (by omega),if_neg (by omega),if_neg (by omega),if_neg (by omega),Array.getElem?_eq_none (by omega),List.getElem?_eq_none (by simp[hd,hu];omega)]
 rw[fill_cons places z 0 0 32 (.agg (d.map (Value.int .u8)).toArray) _ p0 sd (by omega)]
 rw[fill_cons places _ 1 32 32 (.agg (u.map (Value.int .u8)).toArray) _ p1 su (by show _≤(ovl 0 (d.map (Value.int .u8)).toArray z).size;omega)]
 rw[fill_cons places _ 2 64 1 (.int .i64 k) _ p2 rfl (by show _≤(ovl 32 (u.map (Value.int .u8)).toArray (ovl 0 (d.map (Value.int .u8)).toArray z)).size;omega)]
 rw[fill_cons places _ 3 65 1 v _ p3 (by rw[hv];rfl) (by show _≤(ovl 64 #[.int .i64 k] (ovl 32 (u.map (Value.int .u8)).toArray (ovl 0 (d.map (Value.int .u8)).toArray z))).size;omega)]
 rw[hv,Instr.fill]
 exact congrArg some key
def bkZ:Array Value:=#[.int .u8 0,.int .u8 0,.int .u8 0,.int .u8 0,.int .u8 0,.int .u8 0,.int .u8 0,.int .u8 0,.int .u8 0,.int .u8 0,.int .u8 0,.int .u8 0,.int .u8 0,.int .u8 0,.int .u8 0,.int .u8 0,.int .u8 0,.int .u8 0,.int .u8 0,.int .u8 0,.int .u8 0,.int .u8 0,.int .u8 0,.int .u8 0,.int .u8 0,.int .u8 0,.int .u8 0,.int .u8 0,.int .u8 0,.int .u8 0,.int .u8 0,.int .u8 0,.int .u8 0,.int .u8 0,.int .u8 0,.int .u8 0,.int .u8 0,.int .u8 0,.int .u8 0,.int .u8 0,.int .u8 0,.int .u8 0,.int .u8 0,.int .u8 0,.int .u8 0,.int .u8 0,.int .u8 0,.int .u8 0,.int .u8 0,.int .u8 0,.int .u8 0,.int .u8 0,.int .u8 0,.int .u8 0,.int .u8 0,.int .u8 0,.int .u8 0,.int .u8 0,.int .u8 0,.int .u8 0,.int .u8 0,.int .u8 0,.int .u8 0,.int .u8 0,.int .i64 0,.slice none 0 0]
theorem Tryz.infoBook:(Tryz.prog.info? 77).map (fun i=>i.zero)=some (some (.agg bkZ)):=by kernel_rfl
theorem Tryz.sizeBook:(Tryz.prog.info? 77).map (·.size)=some 66:=by kernel_rfl
theorem Tryz.placesBook:((Tryz.prog.underlying 77).bind fun d=>match d with|.struct fs=>fs.toList.mapM (fun f=>(Tryz.prog.info? f.type).map fun i=>(f.offset,i.size))|_=>none)=some [(0,32),(32,32),(64,1),(65,1)]:=by kernel_rfl
theorem builtB (d u:List Int) (hd:d.length=32) (hu:u.length=32) (k:Int) (v:Value) (hv:v.cells=#[v]) :
  Tryz.prog.built 77 [(0,.agg (d.map (Value.int .u8)).toArray),(1,.agg (u.map (Value.int .u8)).toArray),(2,.int .i64 k),(3,v)]=some (bkC d u k v):=by
 have hb:∃ places z,(places 0=some (0,32)∧places 1=some (32,32)∧places 2=some (64,1)∧places 3=some (65,1))∧z.size=66∧∀ parts,Tryz.prog.built 77 parts=Instr.fill places z parts:=by
  have h1:=Tryz.infoBook;have h2:=Tryz.placesBook;obtain⟨F,hF⟩:∃ F,Tryz.prog.underlying 77=some (.struct F):=⟨_,Tryz.underlying77⟩
  rw[hF] at h2;have h2':F.toList.mapM (fun f=>(Tryz.prog.info? f.type).map fun i=>(f.offset,i.size))=some [(0,32),(32,32),(64,1),(65,1)]:=h2;cases hi:Tryz.prog.info? 77 with
  |none=>rw[hi] at h1;cases h1
  |some it=>
   rw[hi] at h1;have hz:it.zero=some (.agg bkZ):=by simpa using h1
   refine⟨fun i=>[(0,32),(32,32),(64,1),(65,1)].toArray[i]?,bkZ,⟨rfl,rfl,rfl,rfl⟩,rfl,fun parts=>?_⟩;simp only[Program.built,hi,hF,hz,h2'];rfl
 obtain⟨places,z,⟨p0,p1,p2,p3⟩,hz,h⟩:=hb
 rw[h]
 exact fillB places p0 p1 p2 p3 z hz d u hd hu k v hv
end Go.Proofs.YthmeoilbmfdhfaaGreat
