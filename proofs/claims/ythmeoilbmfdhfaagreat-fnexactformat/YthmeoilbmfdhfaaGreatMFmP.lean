import Derived.Test.YthmeoilbmfdhfaaGreatMFmW
import Derived.Test.YthmeoilbmfdhfaaGreatSWr
namespace Go.Proofs.YthmeoilbmfdhfaaGreat
open Go.ChangeShapes Go.WideShapes Go.ChangeAt Go.RowKit
set_option linter.unusedVariables false
theorem fsL_byte:Byte fsL:=by
 have h:=snE_byte (gn:=0) (tl:=1) (D:=[]) (U:=[]) ⟨by decide,by decide⟩ ⟨by decide,by decide⟩
 unfold snE at h
 rw[snB_yes fsP] at h
 exact h
theorem z0_len:(fsL.take 64).length=64:=by simp[fsL_len]
theorem z1_len:(fsL.drop 64).length=64:=by simp[fsL_len]
section
variable {zs:List Int} {m:Nat}
theorem fsD_len (h:zs.length=m*64) (h8:8≤m):(fsD zs).length=m*64:=by
 have h0:=z0_len
 have h1:=z1_len
 have e0:(overL zs 0 (fsL.take 64)).length=m*64:=by rw[overL_len _ _ _ (by omega)];exact h
 unfold fsD
 rw[overL_len _ _ _ (by omega)];exact e0
theorem overL_byte {x z:List Int} (s:Nat) (h:Byte x) (h':Byte z):Byte (overL x s z):=fun y hy=>by
 unfold overL at hy
 rcases List.mem_append.1 hy with h1|h1
 ·exact h _ (List.mem_of_mem_take h1)
 ·rcases List.mem_append.1 h1 with h1|h1
  ·exact h' _ h1
  ·exact h _ (List.mem_of_mem_drop h1)
theorem fsD_byte (h:Byte zs):Byte (fsD zs):=overL_byte _ (overL_byte _ h (fun y hy=>fsL_byte _ (List.mem_of_mem_take hy))) (fun y hy=>fsL_byte _ (List.mem_of_mem_drop hy))
theorem zero_byte (n:Nat):Byte (List.replicate n 0):=fun y hy=>by rw[List.eq_of_mem_replicate hy];decide
theorem vb_of (h8:8≤m) (h256:m≤256) (ps:List PD) (hl:ps.length≤1000) (h:∀ i,i<ps.length→pOk m (ps.getD i (0,[]))):validB (m*64) ps (-1)=true:=by
 have e:m*64/64=m:=by omega
 exact validB_yes ⟨by omega,by omega,by omega,hl,by decide,by decide⟩ (by rw[e];exact h)
theorem pk0 (h8:8≤m):pOk m ((0:Int),fsL.take 64):=⟨by simp,by show(0:Int)<(m:Int);omega,z0_len⟩
theorem pk1 (h8:8≤m):pOk m ((1:Int),fsL.drop 64):=⟨by simp,by show(1:Int)<(m:Int);omega,z1_len⟩
theorem wn0 (h8:8≤m) (h256:m≤256):wrOn (m*64) [] (-1) false 0 64=true:=by
 have e:m*64/64=m:=by omega
 unfold wrOn hasS
 rw[vb_of h8 h256 [] (by simp) (by simp),e]
 simp;omega
theorem wn1 (h8:8≤m) (h256:m≤256):wrOn (m*64) [((0:Int),fsL.take 64)] (-1) false 1 64=true:=by
 have e:m*64/64=m:=by omega
 unfold wrOn hasS
 have hv:validB (m*64) [((0:Int),fsL.take 64)] (-1)=true:=vb_of h8 h256 _ (by simp) (fun i hi=>by
  obtain rfl:i=0:=by simpa using hi
  exact pk0 h8)
 rw[hv,e]
 simp;omega
theorem wP0 (h8:8≤m) (h256:m≤256):wrP (m*64) [] (-1) false 0 (fsL.take 64)=[((0:Int),fsL.take 64)]∧wrF (m*64) [] (-1) false 0 64=-1∧wrD (m*64) [] (-1) false 0 64=false:=by
 unfold wrP wrF wrD
 rw[z0_len,wn0 h8 h256]
 exact⟨rfl,rfl,rfl⟩
theorem wP1 (h8:8≤m) (h256:m≤256):wrP (m*64) [((0:Int),fsL.take 64)] (-1) false 1 (fsL.drop 64)=[((0:Int),fsL.take 64),(1,fsL.drop 64)]∧wrF (m*64) [((0:Int),fsL.take 64)] (-1) false 1 64=-1∧wrD (m*64) [((0:Int),fsL.take 64)] (-1) false 1 64=false:=by
 unfold wrP wrF wrD
 rw[z1_len,wn1 h8 h256]
 exact⟨rfl,rfl,rfl⟩
theorem sy2 (h:zs.length=m*64) (h8:8≤m) (h256:m≤256):syZ zs [((0:Int),fsL.take 64),(1,fsL.drop 64)] (-1) false=fsD zs∧syP (m*64) [((0:Int),fsL.take 64),(1,fsL.drop 64)] (-1) false=[]∧syF (m*64) [((0:Int),fsL.take 64),(1,fsL.drop 64)] (-1) false=-1∧syD (m*64) [((0:Int),fsL.take 64),(1,fsL.drop 64)] (-1) false=false:=by
 have hv:validB (m*64) [((0:Int),fsL.take 64),(1,fsL.drop 64)] (-1)=true:=vb_of h8 h256 _ (by simp) (fun i hi=>by
  have hi':i<2:=by simpa using hi
  obtain rfl|rfl:i=0∨i=1:=by omega
  ·exact pk0 h8
  ·exact pk1 h8)
 have ho:syOn (m*64) [((0:Int),fsL.take 64),(1,fsL.drop 64)] (-1) false=true:=by unfold syOn;rw[hv];rfl
 unfold syZ syP syF syD
 rw[h,ho,hv]
 refine⟨?_,rfl,rfl,rfl⟩
 have e1:=syL_succ (zs:=zs) (ps:=[((0:Int),fsL.take 64),(1,fsL.drop 64)]) (k:=0) (s:=0) (by simp) rfl z0_len
 have e2:=syL_succ (zs:=zs) (ps:=[((0:Int),fsL.take 64),(1,fsL.drop 64)]) (k:=1) (s:=1) (by simp) rfl z1_len
 show syL zs _ 2=_
 rw[e2,e1];rfl
end
theorem own_of {w:World} {B g n c:Nat} {zs:List Int} (h:Own w B (.slice (some ⟨g,0,none⟩) n c) zs):B≤g∧g<w.heap.size∧zs.length≤c∧At .u8 w (some ⟨g,0,none⟩) zs∧zs.length=n:=by
 obtain⟨g',c',e,q1,q2,q3,q4,q5⟩:=h.at_
 simp only[Value.slice.injEq,Option.some.injEq,Addr.mk.injEq] at e
 obtain⟨⟨rfl,_⟩,e2,rfl⟩:=e
 exact⟨q1,q2,q3,q4,e2.symm⟩
theorem YR.below {B D g:Nat} {w w':World} (h:YR D g w w') (h1:B≤D) (h2:B≤g) (hB:B≤w.heap.size):Below B w w':=⟨h.os,h.tape,h.output,h.size,fun k hk=>h.block k (by omega) (by omega) (by omega)⟩
def RP (lo:Nat) (w:World) (X:Array Value) (c:Int) (zs ks:List Int) (f:Int) (d:Bool) (r:ImR):Prop:=∃ C,X=#[.int .i64 c]++C∧GP lo w C zs ks f d r
def RL (lo:Nat) (w:World) (X:Array Value) (c:Int) (zs ks:List Int) (f:Int) (d:Bool) (r:ImR):Prop:=∃ C,X=#[.int .i64 c]++C∧GL lo w C zs ks f d r
section
variable {lo lo':Nat} {w w':World} {X:Array Value} {c:Int} {zs ks:List Int} {f:Int} {d:Bool} {r:ImR}
theorem RP.rl (h:RP lo w X c zs ks f d r):RL lo w X c zs ks f d r:=by obtain⟨C,e,h⟩:=h;exact⟨C,e,h.gl⟩
theorem RP.below (h:RP lo w X c zs ks f d r) (b:Below w.heap.size w w'):RP lo w' X c zs ks f d r:=by obtain⟨C,e,h⟩:=h;exact⟨C,e,h.below b⟩
theorem RL.below (h:RL lo w X c zs ks f d r) (b:Below w.heap.size w w'):RL lo w' X c zs ks f d r:=by obtain⟨C,e,h⟩:=h;exact⟨C,e,h.below b⟩
theorem RL.keep (h:RL lo w X c zs ks f d r) (hs:w.heap.size≤w'.heap.size) (hb:∀ k,lo≤k→k<w.heap.size→w'.heap[k]?=w.heap[k]?):RL lo w' X c zs ks f d r:=by obtain⟨C,e,h⟩:=h;exact⟨C,e,h.keep hs hb⟩
theorem RL.row (h:RL lo w X c zs ks f d r):X.size=17∧X.all (·.oneCell')=true:=by
 obtain⟨C,rfl,h⟩:=h
 obtain⟨e,h⟩:=h.row
 refine⟨by rw[Array.size_append,e];rfl,?_⟩
 rw[←Array.all_toList,Array.toList_append,List.all_append,Array.all_toList,Array.all_toList,h];simp[Value.oneCell']
theorem GP.no (lo:Nat) (w:World):GP lo w #[.slice none 0 0,.slice none 0 0,.int .i64 0,.bool false,.slice none 0 0,.bool false,.int .u32 0,.int .u32 0,.slice none 0 0,.slice none 0 0,.slice none 0 0,.slice none 0 0,.slice none 0 0,.int .i64 0,.slice none 0 0,.int .u32 0] [] [] 0 false imNo:=
 ⟨none,0,none,0,none,0,none,0,0,none,0,0,none,0,0,none,0,0,none,0,0,none,0,rfl,Nat.le_refl _,Mine.nil _ _,Mine.nil _ _,⟨.inl rfl,.inl rfl,.inl rfl,.inl rfl,.inl rfl,.inl rfl,rfl,rfl,rfl,rfl,rfl,rfl⟩,
  ⟨lo,lo,⟨.inl rfl,.inl rfl,.inl rfl,.inl rfl,.inl rfl,.inl rfl,fun _ e=>(by cases e),fun _ e=>(by cases e),fun _ e=>(by cases e),fun _ e=>(by cases e),fun _ e=>(by cases e),fun _ e=>(by cases e),fun _ _ e=>(by cases e),fun _ _ e=>(by cases e),fun _ _ e=>(by cases e),fun _ _ e=>(by cases e),Nat.le_refl _,Nat.le_refl _⟩⟩,fun _ e=>(by cases e),fun _ e=>(by cases e)⟩
end
set_option maxRecDepth 100000 in
set_option maxHeartbeats 4000000 in
theorem ifm_b1 (n:Int) (kn zc:Nat) (za:Option Addr) (w:World) (h:n<8) :
  Calls Tryz.prog 17 #[.int .i64 n,.slice za kn zc] w fun e w'=>∃ X,e=.returned (.agg X)∧RP w.heap.size w' X 10 [] [] 0 false imNo∧Below w.heap.size w w':=by
 have HSR:Hid ((Tryz.prog.info? 50).map (·.size)=some 17):=by show _=_;kernel_rfl
 have HN:Hid ((w.alloc (.cells #[.int .i64 0,.slice none 0 0,.slice none 0 0,.int .i64 0,.bool false,.slice none 0 0,.bool false,.int .u32 0,.int .u32 0,.slice none 0 0,.slice none 0 0,.slice none 0 0,.slice none 0 0,.slice none 0 0,.int .i64 0,.slice none 0 0,.int .u32 0] 50)).heap[w.heap.size]?=some (.cells #[.int .i64 0,.slice none 0 0,.slice none 0 0,.int .i64 0,.bool false,.slice none 0 0,.bool false,.int .u32 0,.int .u32 0,.slice none 0 0,.slice none 0 0,.slice none 0 0,.slice none 0 0,.slice none 0 0,.int .i64 0,.slice none 0 0,.int .u32 0] 50 (0,0))):=heap_alloc_new w _
 have HBW:Hid (Below w.heap.size w (w.alloc (.cells #[.int .i64 0,.slice none 0 0,.slice none 0 0,.int .i64 0,.bool false,.slice none 0 0,.bool false,.int .u32 0,.int .u32 0,.slice none 0 0,.slice none 0 0,.slice none 0 0,.slice none 0 0,.slice none 0 0,.int .i64 0,.slice none 0 0,.int .u32 0] 50))):=(Below.refl _ _).alloc (Nat.le_refl _) _
 have h1:decide (n<8)=true:=by simpa using h
 go_enter Tryz.func17,Tryz.ntmps17
 go_upto_region 1 with fail
 generalize w.alloc (.cells #[.int .i64 0,.slice none 0 0,.slice none 0 0,.int .i64 0,.bool false,.slice none 0 0,.bool false,.int .u32 0,.int .u32 0,.slice none 0 0,.slice none 0 0,.slice none 0 0,.slice none 0 0,.slice none 0 0,.int .i64 0,.slice none 0 0,.int .u32 0] 50)=w1 at *
 go_wp2_with (first
  |(refine wpList_store_row rfl 50 (.tmp 4) (.tmp 17) rfl w.heap.size #[.int .i64 10,.slice none 0 0,.slice none 0 0,.int .i64 0,.bool false,.slice none 0 0,.bool false,.int .u32 0,.int .u32 0,.slice none 0 0,.slice none 0 0,.slice none 0 0,.slice none 0 0,.slice none 0 0,.int .i64 0,.slice none 0 0,.int .u32 0] rfl rfl 50 _ HN.out HSR.out rfl (by simp[Value.oneCell']) ?_)
  |fail)
 (try simp only[Exit.inBlock,Exit.then])
 exact bodyPost_ret (v:=.agg #[.int .i64 10,.slice none 0 0,.slice none 0 0,.int .i64 0,.bool false,.slice none 0 0,.bool false,.int .u32 0,.int .u32 0,.slice none 0 0,.slice none 0 0,.slice none 0 0,.slice none 0 0,.slice none 0 0,.int .i64 0,.slice none 0 0,.int .u32 0]) (results_cell_row rfl _ _ w.heap.size 50 _ (0,0) _ rfl (setRow_heap _ _ _ _ _ _ HN.out) Tryz.underlying50 rfl HSR.out) rfl ⟨_,rfl,⟨_,rfl,GP.no _ _⟩,HBW.out.trans ((Wr.setRow _ _ _).below (Nat.le_refl _))⟩
set_option maxRecDepth 100000 in
set_option maxHeartbeats 4000000 in
theorem ifm_b2 (n:Int) (kn zc:Nat) (za:Option Addr) (w:World) (h0:¬ n<8) (h:256<n) :
  Calls Tryz.prog 17 #[.int .i64 n,.slice za kn zc] w fun e w'=>∃ X,e=.returned (.agg X)∧RP w.heap.size w' X 10 [] [] 0 false imNo∧Below w.heap.size w w':=by
 have HSR:Hid ((Tryz.prog.info? 50).map (·.size)=some 17):=by show _=_;kernel_rfl
 have HN:Hid ((w.alloc (.cells #[.int .i64 0,.slice none 0 0,.slice none 0 0,.int .i64 0,.bool false,.slice none 0 0,.bool false,.int .u32 0,.int .u32 0,.slice none 0 0,.slice none 0 0,.slice none 0 0,.slice none 0 0,.slice none 0 0,.int .i64 0,.slice none 0 0,.int .u32 0] 50)).heap[w.heap.size]?=some (.cells #[.int .i64 0,.slice none 0 0,.slice none 0 0,.int .i64 0,.bool false,.slice none 0 0,.bool false,.int .u32 0,.int .u32 0,.slice none 0 0,.slice none 0 0,.slice none 0 0,.slice none 0 0,.slice none 0 0,.int .i64 0,.slice none 0 0,.int .u32 0] 50 (0,0))):=heap_alloc_new w _
 have HBW:Hid (Below w.heap.size w (w.alloc (.cells #[.int .i64 0,.slice none 0 0,.slice none 0 0,.int .i64 0,.bool false,.slice none 0 0,.bool false,.int .u32 0,.int .u32 0,.slice none 0 0,.slice none 0 0,.slice none 0 0,.slice none 0 0,.slice none 0 0,.int .i64 0,.slice none 0 0,.int .u32 0] 50))):=(Below.refl _ _).alloc (Nat.le_refl _) _
 go_enter Tryz.func17,Tryz.ntmps17
 go_upto_region 1 with fail
 generalize w.alloc (.cells #[.int .i64 0,.slice none 0 0,.slice none 0 0,.int .i64 0,.bool false,.slice none 0 0,.bool false,.int .u32 0,.int .u32 0,.slice none 0 0,.slice none 0 0,.slice none 0 0,.slice none 0 0,.slice none 0 0,.int .i64 0,.slice none 0 0,.int .u32 0] 50)=w1 at *
 go_wp2_with (first
  |(refine wpList_store_row rfl 50 (.tmp 4) (.tmp 17) rfl w.heap.size #[.int .i64 10,.slice none 0 0,.slice none 0 0,.int .i64 0,.bool false,.slice none 0 0,.bool false,.int .u32 0,.int .u32 0,.slice none 0 0,.slice none 0 0,.slice none 0 0,.slice none 0 0,.slice none 0 0,.int .i64 0,.slice none 0 0,.int .u32 0] rfl rfl 50 _ HN.out HSR.out rfl (by simp[Value.oneCell']) ?_)
  |fail)
 (try simp only[Exit.inBlock,Exit.then])
 exact bodyPost_ret (v:=.agg #[.int .i64 10,.slice none 0 0,.slice none 0 0,.int .i64 0,.bool false,.slice none 0 0,.bool false,.int .u32 0,.int .u32 0,.slice none 0 0,.slice none 0 0,.slice none 0 0,.slice none 0 0,.slice none 0 0,.int .i64 0,.slice none 0 0,.int .u32 0]) (results_cell_row rfl _ _ w.heap.size 50 _ (0,0) _ rfl (setRow_heap _ _ _ _ _ _ HN.out) Tryz.underlying50 rfl HSR.out) rfl ⟨_,rfl,⟨_,rfl,GP.no _ _⟩,HBW.out.trans ((Wr.setRow _ _ _).below (Nat.le_refl _))⟩
set_option maxRecDepth 100000 in
set_option maxHeartbeats 4000000 in
theorem ifm_b3 (n:Int) (kn zc:Nat) (za:Option Addr) (w:World) (h0:¬ n<8) (h1:¬ 256<n) (h:kn≠32) :
  Calls Tryz.prog 17 #[.int .i64 n,.slice za kn zc] w fun e w'=>∃ X,e=.returned (.agg X)∧RP w.heap.size w' X 10 [] [] 0 false imNo∧Below w.heap.size w w':=by
 have HSR:Hid ((Tryz.prog.info? 50).map (·.size)=some 17):=by show _=_;kernel_rfl
 have HN:Hid ((w.alloc (.cells #[.int .i64 0,.slice none 0 0,.slice none 0 0,.int .i64 0,.bool false,.slice none 0 0,.bool false,.int .u32 0,.int .u32 0,.slice none 0 0,.slice none 0 0,.slice none 0 0,.slice none 0 0,.slice none 0 0,.int .i64 0,.slice none 0 0,.int .u32 0] 50)).heap[w.heap.size]?=some (.cells #[.int .i64 0,.slice none 0 0,.slice none 0 0,.int .i64 0,.bool false,.slice none 0 0,.bool false,.int .u32 0,.int .u32 0,.slice none 0 0,.slice none 0 0,.slice none 0 0,.slice none 0 0,.slice none 0 0,.int .i64 0,.slice none 0 0,.int .u32 0] 50 (0,0))):=heap_alloc_new w _
 have HBW:Hid (Below w.heap.size w (w.alloc (.cells #[.int .i64 0,.slice none 0 0,.slice none 0 0,.int .i64 0,.bool false,.slice none 0 0,.bool false,.int .u32 0,.int .u32 0,.slice none 0 0,.slice none 0 0,.slice none 0 0,.slice none 0 0,.slice none 0 0,.int .i64 0,.slice none 0 0,.int .u32 0] 50))):=(Below.refl _ _).alloc (Nat.le_refl _) _
 have h':¬ (kn:Int)=32:=by omega
 go_enter Tryz.func17,Tryz.ntmps17
 go_upto_region 1 with fail
 generalize w.alloc (.cells #[.int .i64 0,.slice none 0 0,.slice none 0 0,.int .i64 0,.bool false,.slice none 0 0,.bool false,.int .u32 0,.int .u32 0,.slice none 0 0,.slice none 0 0,.slice none 0 0,.slice none 0 0,.slice none 0 0,.int .i64 0,.slice none 0 0,.int .u32 0] 50)=w1 at *
 go_wp2_with (first
  |(refine wpList_store_row rfl 50 (.tmp 4) (.tmp 17) rfl w.heap.size #[.int .i64 10,.slice none 0 0,.slice none 0 0,.int .i64 0,.bool false,.slice none 0 0,.bool false,.int .u32 0,.int .u32 0,.slice none 0 0,.slice none 0 0,.slice none 0 0,.slice none 0 0,.slice none 0 0,.int .i64 0,.slice none 0 0,.int .u32 0] rfl rfl 50 _ HN.out HSR.out rfl (by simp[Value.oneCell']) ?_)
  |fail)
 (try simp only[Exit.inBlock,Exit.then])
 exact bodyPost_ret (v:=.agg #[.int .i64 10,.slice none 0 0,.slice none 0 0,.int .i64 0,.bool false,.slice none 0 0,.bool false,.int .u32 0,.int .u32 0,.slice none 0 0,.slice none 0 0,.slice none 0 0,.slice none 0 0,.slice none 0 0,.int .i64 0,.slice none 0 0,.int .u32 0]) (results_cell_row rfl _ _ w.heap.size 50 _ (0,0) _ rfl (setRow_heap _ _ _ _ _ _ HN.out) Tryz.underlying50 rfl HSR.out) rfl ⟨_,rfl,⟨_,rfl,GP.no _ _⟩,HBW.out.trans ((Wr.setRow _ _ _).below (Nat.le_refl _))⟩
theorem ifm_no (n:Int) (kn zc:Nat) (za:Option Addr) (w:World) (h:¬ ((8≤n∧n≤256)∧kn=32)) :
  Calls Tryz.prog 17 #[.int .i64 n,.slice za kn zc] w fun e w'=>∃ X,e=.returned (.agg X)∧RP w.heap.size w' X 10 [] [] 0 false imNo∧Below w.heap.size w w':=by
 by_cases h1:n<8
 ·exact ifm_b1 n kn zc za w h1
 by_cases h2:256<n
 ·exact ifm_b2 n kn zc za w h1 h2
 exact ifm_b3 n kn zc za w h1 h2 (by omega)
set_option maxRecDepth 100000 in
set_option maxHeartbeats 8000000 in
theorem ifm_yes (m zc:Nat) (za:Option Addr) (ks:List Int) (r:ImR) (w:World) (h8:8≤m) (h256:m≤256) (hk:ks.length=32) (hA:At .u8 w za ks) (hr:imG (fsD (List.replicate (m*64) 0)) [] (-1)=r) :
  Calls Tryz.prog 17 #[.int .i64 m,.slice za 32 zc] w fun e w'=>∃ X,e=.returned (.agg X)∧RP w.heap.size w' X 9 (fsD (List.replicate (m*64) 0)) ks (-1) false r∧Below w.heap.size w w':=by
 have HSR:Hid ((Tryz.prog.info? 50).map (·.size)=some 17):=by show _=_;kernel_rfl
 have HSD:Hid ((Tryz.prog.info? 40).map (·.size)=some 4):=by show _=_;kernel_rfl
 have HO0:Hid (OE w 50 #[.int .i64 0,.slice none 0 0,.slice none 0 0,.int .i64 0,.bool false,.slice none 0 0,.bool false,.int .u32 0,.int .u32 0,.slice none 0 0,.slice none 0 0,.slice none 0 0,.slice none 0 0,.slice none 0 0,.int .i64 0,.slice none 0 0,.int .u32 0] (w.alloc (.cells #[.int .i64 0,.slice none 0 0,.slice none 0 0,.int .i64 0,.bool false,.slice none 0 0,.bool false,.int .u32 0,.int .u32 0,.slice none 0 0,.slice none 0 0,.slice none 0 0,.slice none 0 0,.slice none 0 0,.int .i64 0,.slice none 0 0,.int .u32 0] 50))):=OE.start _ _ _
 have t1:¬ (m:Int)<8:=by omega
 have t2:¬ (256:Int)<(m:Int):=by omega
 have HM:Hid (8≤m∧m≤256):=⟨h8,h256⟩
 have HK:Hid (At .u8 w za ks∧ks.length=32):=⟨hA,hk⟩
 have HR:=hid_of hr
 clear hA hk hr h8 h256
 go_enter Tryz.func17,Tryz.ntmps17
 go_upto_region 1 with fail
 generalize w.alloc (.cells #[.int .i64 0,.slice none 0 0,.slice none 0 0,.int .i64 0,.bool false,.slice none 0 0,.bool false,.int .u32 0,.int .u32 0,.slice none 0 0,.slice none 0 0,.slice none 0 0,.slice none 0 0,.slice none 0 0,.int .i64 0,.slice none 0 0,.int .u32 0] 50)=w1 at *
 go_wp2_with fail
 refine(idnO m w1 HM.out.1 HM.out.2).mono ?_
 rintro e w2 ⟨g,gc,rfl,hO,hb⟩
 have HO2:Hid (OE w 50 #[.int .i64 0,.slice none 0 0,.slice none 0 0,.int .i64 0,.bool false,.slice none 0 0,.bool false,.int .u32 0,.int .u32 0,.slice none 0 0,.slice none 0 0,.slice none 0 0,.slice none 0 0,.slice none 0 0,.int .i64 0,.slice none 0 0,.int .u32 0] w2):=HO0.out.call hb
 have HG:Hid (w1.heap.size≤g∧g<w2.heap.size):=⟨(own_of hO).1,(own_of hO).2.1⟩
 have b3:=(Below.refl w2.heap.size w2).alloc (Nat.le_refl _) (.cells #[.slice (some ⟨g,0,none⟩) (m*64) gc,.slice none 0 0,.int .i64 (-1),.bool false] 40)
 have HD3:Hid (DB w2.heap.size g (m*64) gc w1.heap.size (List.replicate (m*64) 0) (w2.alloc (.cells #[.slice (some ⟨g,0,none⟩) (m*64) gc,.slice none 0 0,.int .i64 (-1),.bool false] 40))):=⟨heap_alloc_new w2 _,hO.grow b3⟩
 have HO3:Hid (OE w 50 #[.int .i64 0,.slice none 0 0,.slice none 0 0,.int .i64 0,.bool false,.slice none 0 0,.bool false,.int .u32 0,.int .u32 0,.slice none 0 0,.slice none 0 0,.slice none 0 0,.slice none 0 0,.slice none 0 0,.int .i64 0,.slice none 0 0,.int .u32 0] (w2.alloc (.cells #[.slice (some ⟨g,0,none⟩) (m*64) gc,.slice none 0 0,.int .i64 (-1),.bool false] 40))):=HO2.out.call b3
 have HL3:Hid (w.heap.size<w1.heap.size∧w.heap.size<w2.heap.size):=⟨HO0.out.lt,HO2.out.lt⟩
 clear HO0 hb hO b3 t1 t2
 go_upto_region 4 with (first
  |(refine wpList_store_row rfl 40 (.tmp 5) (.tmp 19) rfl w2.heap.size #[.slice (some ⟨g,0,none⟩) (m*64) gc,.slice none 0 0,.int .i64 (-1),.bool false] rfl rfl 40 _ (heap_alloc_new w2 _) HSD.out rfl (by simp[Value.oneCell']) ?_)
  |fail)
 try rw[World.setRow_alloc_new]
 generalize w2.alloc (.cells #[.slice (some ⟨g,0,none⟩) (m*64) gc,.slice none 0 0,.int .i64 (-1),.bool false] 40)=w3 at *
 generalize hD:w2.heap.size=D at *
 clear hD
 go_wp2_with fail
 refine(wsn_any D g (m*64) gc w1.heap.size (List.replicate (m*64) 0) w3 HD3.out (by have:=HG.out;omega) (by simp) (by have:=HM.out;omega) (by omega) (by have:=HM.out;omega)).mono ?_
 rintro e w4 ⟨rfl,D4,y4⟩
 have hbw:Below w.heap.size w w4:=HO3.out.below.trans (y4.below (by have:=HL3.out;omega) (by have:=HL3.out;have:=HG.out;omega) HO3.out.below.size)
 have HB4:Hid (w4.heap[w.heap.size]?=some (.cells #[.int .i64 0,.slice none 0 0,.slice none 0 0,.int .i64 0,.bool false,.slice none 0 0,.bool false,.int .u32 0,.int .u32 0,.slice none 0 0,.slice none 0 0,.slice none 0 0,.slice none 0 0,.slice none 0 0,.int .i64 0,.slice none 0 0,.int .u32 0] 50 (0,0))∧Below w.heap.size w w4∧w.heap.size<w4.heap.size):=by
  have e:w4.heap[w.heap.size]?=some (.cells #[.int .i64 0,.slice none 0 0,.slice none 0 0,.int .i64 0,.bool false,.slice none 0 0,.bool false,.int .u32 0,.int .u32 0,.slice none 0 0,.slice none 0 0,.slice none 0 0,.slice none 0 0,.slice none 0 0,.int .i64 0,.slice none 0 0,.int .u32 0] 50 (0,0)):=by rw[y4.block _ HO3.out.lt (by have:=HL3.out;omega) (by have:=HL3.out;have:=HG.out;omega)];exact HO3.out.b0
  exact⟨e,hbw,(Array.getElem?_eq_some_iff.1 e).1⟩
 have HD4:Hid (w4.heap[D]?=some (.cells #[.slice (some ⟨g,0,none⟩) (m*64) gc,.slice none 0 0,.int .i64 (-1),.bool false] 40 (0,0))):=D4.row
 have HA4:Hid (DAt w4 (.agg #[.slice (some ⟨g,0,none⟩) (m*64) gc,.slice none 0 0,.int .i64 (-1),.bool false]) (fsD (List.replicate (m*64) 0)) [] (-1) false):=by
  obtain⟨q1,q2,q3,q4,q5⟩:=own_of D4.own;exact⟨_,gc,none,0,by rw[fsD_len (m:=m) (by simp) HM.out.1];rfl,q4,.inl rfl,q3⟩
 clear HO2 HD3 HO3 D4 y4 hbw
 go_wp2_with (first
  |(refine wpList_load_row rfl 40 (.tmp 5) rfl D rfl 40 #[.slice (some ⟨g,0,none⟩) (m*64) gc,.slice none 0 0,.int .i64 (-1),.bool false] (0,0) _ HD4.out Tryz.underlying40 rfl HSD.out ?_)
  |fail)
 have HC:=igt_any (.agg #[.slice (some ⟨g,0,none⟩) (m*64) gc,.slice none 0 0,.int .i64 (-1),.bool false]) (fsD (List.replicate (m*64) 0)) ks (-1) false r za zc w4 HA4.out (HK.out.1.below HB4.out.2.1) HR.out (fsD_byte (zero_byte _)) (by rw[fsD_len (m:=m) (by simp) HM.out.1];have:=HM.out;omega) (by rw[HK.out.2];decide)
 rw[HK.out.2] at HC
 refine HC.mono ?_
 clear HC
 rintro e w5 ⟨C,rfl,hG,hb5⟩
 have hrs:w5.heap[w.heap.size]?=some (.cells #[.int .i64 0,.slice none 0 0,.slice none 0 0,.int .i64 0,.bool false,.slice none 0 0,.bool false,.int .u32 0,.int .u32 0,.slice none 0 0,.slice none 0 0,.slice none 0 0,.slice none 0 0,.slice none 0 0,.int .i64 0,.slice none 0 0,.int .u32 0] 50 (0,0)):=by rw[hb5.block _ HB4.out.2.2];exact HB4.out.1
 have HGP:=hid_of hG
 have HRS:=hid_of hrs
 have HB5:Hid (Below w.heap.size w w5):=HB4.out.2.1.trans (hb5.mono HB4.out.2.1.size)
 obtain⟨da,dc,ca,cc,ka,kc,aSD,nSD,cSD,aSU,nSU,cSU,aF,mF,cF,aD,nD,cD,aU,nU,cU,aT,cT,rfl,_⟩:=hG
 clear hb5 hrs
 go_wp2_with (first
  |(refine wpList_store_row rfl 50 (.tmp 4) (.tmp 25) rfl w.heap.size #[.int .i64 9,.slice da (fsD (List.replicate (m*64) 0)).length dc,.slice ca 0 cc,.int .i64 (-1),.bool false,.slice ka ks.length kc,.bool r.ok,.int .u32 r.g,.int .u32 r.t,.slice aSD nSD cSD,.slice aSU nSU cSU,.slice aF mF cF,.slice aD nD cD,.slice aU nU cU,.int .i64 r.k,.slice aT r.n cT,.int .u32 r.nx] rfl rfl 50 _ HRS.out HSR.out rfl (by simp[Value.oneCell']) ?_)
  |fail)
 (try simp only[Exit.inBlock,Exit.then])
 refine bodyPost_ret (v:=.agg #[.int .i64 9,.slice da (fsD (List.replicate (m*64) 0)).length dc,.slice ca 0 cc,.int .i64 (-1),.bool false,.slice ka ks.length kc,.bool r.ok,.int .u32 r.g,.int .u32 r.t,.slice aSD nSD cSD,.slice aSU nSU cSU,.slice aF mF cF,.slice aD nD cD,.slice aU nU cU,.int .i64 r.k,.slice aT r.n cT,.int .u32 r.nx]) (results_cell_row rfl _ _ w.heap.size 50 _ (0,0) _ rfl (setRow_heap _ _ _ _ _ _ HRS.out) Tryz.underlying50 rfl HSR.out) rfl ⟨_,rfl,⟨#[.slice da (fsD (List.replicate (m*64) 0)).length dc,.slice ca 0 cc,.int .i64 (-1),.bool false,.slice ka ks.length kc,.bool r.ok,.int .u32 r.g,.int .u32 r.t,.slice aSD nSD cSD,.slice aSU nSU cSU,.slice aF mF cF,.slice aD nD cD,.slice aU nU cU,.int .i64 r.k,.slice aT r.n cT,.int .u32 r.nx],rfl,?_⟩,HB5.out.trans ((Wr.setRow _ _ _).below (Nat.le_refl _))⟩
 have hw:=Wr.setRow w.heap.size w5 #[.int .i64 9,.slice da (fsD (List.replicate (m*64) 0)).length dc,.slice ca 0 cc,.int .i64 (-1),.bool false,.slice ka ks.length kc,.bool r.ok,.int .u32 r.g,.int .u32 r.t,.slice aSD nSD cSD,.slice aSU nSU cSU,.slice aF mF cF,.slice aD nD cD,.slice aU nU cU,.int .i64 r.k,.slice aT r.n cT,.int .u32 r.nx]
 exact(HGP.out.keep (Nat.le_of_eq hw.size.symm) (fun k hk _=>hw.block k (by have:=HB4.out.2.2;omega))).mono (Nat.le_of_lt HB4.out.2.2)
end Go.Proofs.YthmeoilbmfdhfaaGreat
