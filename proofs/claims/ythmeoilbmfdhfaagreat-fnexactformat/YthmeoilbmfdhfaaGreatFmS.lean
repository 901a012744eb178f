import Derived.Test.YthmeoilbmfdhfaaGreatMFmP
namespace Go.Proofs.YthmeoilbmfdhfaaGreat
open Go.ChangeShapes Go.WideShapes Go.ChangeAt Go.RowKit
set_option linter.unusedVariables false
theorem run_sl0 (w:World) (g c:Nat) (hc:128≤c):(Instr.sliceAt 22 (.slice (some ⟨g,0,none⟩) 128 c) none (some (.int .i64 64)) none).run Tryz.prog w=.ok (.slice (some ⟨g,0,none⟩) 64 c) w:=by
 have h2:(64:Int)≤(c:Int):=by omega
 unfold Instr.sliceAt
 simp[run_underlying Tryz.underlying22,go_sem,Instr.sliceBounds,h2,Addr.add]
 try omega
theorem run_sl1 (w:World) (g c:Nat) (hc:128≤c):(Instr.sliceAt 22 (.slice (some ⟨g,0,none⟩) 128 c) (some (.int .i64 64)) none none).run Tryz.prog w=.ok (.slice (some ⟨g,64,none⟩) 64 (c-64)) w:=by
 have h4:¬ (c=64):=by omega
 unfold Instr.sliceAt
 simp[run_underlying Tryz.underlying22,go_sem,Instr.sliceBounds,h4,Addr.add]
 try omega
def ImWv (w:World) (v:Value) (r:ImR):Prop:=ImW w v r
theorem ImWv.below {w w':World} {v:Value} {r:ImR} (h:ImWv w v r) (b:Below w.heap.size w w'):ImWv w' v r:=ImW.belowF h b
def NwD (lo:Nat) (w:World) (v:Value):Prop:=∃ q,v=.pointer (some ⟨q,0,none⟩)∧lo≤q∧w.heap[q]?=some (.cells #[.slice none 0 0,.slice none 0 0,.int .i64 0,.bool false] 40 (0,0))
theorem NwD.below {lo:Nat} {w w':World} {v:Value} (h:NwD lo w v) (b:Below w.heap.size w w'):NwD lo w' v:=by
 obtain⟨q,e,h1,h2⟩:=h;exact⟨q,e,h1,by rw[b.block q (Array.getElem?_eq_some_iff.1 h2).1];exact h2⟩
def RLv (lo:Nat) (w:World) (v:Value) (c:Int) (zs ks:List Int) (f:Int) (d:Bool) (r:ImR):Prop:=∃ X,v=.agg X∧RL lo w X c zs ks f d r
theorem RLv.below {lo:Nat} {w w':World} {v:Value} {c:Int} {zs ks:List Int} {f:Int} {d:Bool} {r:ImR} (h:RLv lo w v c zs ks f d r) (b:Below w.heap.size w w'):RLv lo w' v c zs ks f d r:=by obtain⟨X,e,h⟩:=h;exact⟨X,e,h.below b⟩
theorem RL.mono {lo lo':Nat} {w:World} {X:Array Value} {c:Int} {zs ks:List Int} {f:Int} {d:Bool} {r:ImR} (h:RL lo w X c zs ks f d r) (hl:lo'≤lo):RL lo' w X c zs ks f d r:=by obtain⟨C,e,h⟩:=h;exact⟨C,e,h.mono hl⟩
theorem DvY.dvm {lo:Nat} {w:World} {v:Value} {zs:List Int} {f:Int} {d:Bool} (h:DvY lo w v zs [] f d):DvM lo w v zs f d:=by
 obtain⟨da,dc,ca,cc,E,rfl,h1,h2,h3,h4,h5,⟨qs,hP,hq⟩,h7⟩:=h
 have hq0:qs=[]:=by cases qs with|nil=>rfl|cons a l=>simp[qps] at hq
 subst hq0
 refine⟨da,dc,ca,cc,rfl,h7,⟨h1,h2,fun ad e=>by have:=h3 ad e;omega⟩,fun ad e=>?_⟩
 rcases hP.1.2 with⟨e0,_⟩|⟨g,c,cur,e0,hb,hh,_⟩
 ·simp only[Value.slice.injEq] at e0;rw[e0.1] at e;cases e
 ·simp only[Value.slice.injEq] at e0;rw[e0.1] at e;cases e;exact⟨Nat.le_trans h4 hb,(Array.getElem?_eq_some_iff.1 hh).1⟩
section
variable {m:Nat} {w:World} {v:Value} {a:Option Addr} {c:Nat}
theorem swr0 (h:DAt w v (List.replicate (m*64) 0) [] (-1) false) (hx:At .u8 w a (fsL.take 64)) (h8:8≤m) (h256:m≤256) :
  Calls Tryz.prog 54 #[v,.int .i64 0,.slice a 64 c] w fun e w'=>∃ r,e=.returned r∧DAt w' r (List.replicate (m*64) 0) [((0:Int),fsL.take 64)] (-1) false∧Below w.heap.size w w':=by
 refine(swr_any v (List.replicate (m*64) 0) [] (-1) false 0 a 64 c (fsL.take 64) w h hx z0_len (by simp;omega) (by simp) (by simp) (by decide) (by decide)).mono ?_
 rintro e w' ⟨r,rfl,hM,hb⟩
 obtain⟨e1,e2,e3⟩:=wP0 h8 h256
 rw[List.length_replicate,z0_len,e1,e2,e3] at hM
 exact⟨r,rfl,hM.at_,hb⟩
theorem swr1 (h:DAt w v (List.replicate (m*64) 0) [((0:Int),fsL.take 64)] (-1) false) (hx:At .u8 w a (fsL.drop 64)) (h8:8≤m) (h256:m≤256) :
  Calls Tryz.prog 54 #[v,.int .i64 1,.slice a 64 c] w fun e w'=>∃ r,e=.returned r∧DAt w' r (List.replicate (m*64) 0) [((0:Int),fsL.take 64),(1,fsL.drop 64)] (-1) false∧Below w.heap.size w w':=by
 refine(swr_any v (List.replicate (m*64) 0) [((0:Int),fsL.take 64)] (-1) false 1 a 64 c (fsL.drop 64) w h hx z1_len (by simp;omega) (by simp) (fun i=>?_) (by decide) (by decide)).mono ?_
 ·match i with
  |0=>exact Nat.le_trans (Nat.le_of_eq z0_len) (by decide)
  |i+1=>simp
 rintro e w' ⟨r,rfl,hM,hb⟩
 obtain⟨e1,e2,e3⟩:=wP1 h8 h256
 rw[List.length_replicate,z1_len,e1,e2,e3] at hM
 exact⟨r,rfl,hM.at_,hb⟩
theorem ssy2 (h:DAt w v (List.replicate (m*64) 0) [((0:Int),fsL.take 64),(1,fsL.drop 64)] (-1) false) (h8:8≤m) (h256:m≤256) :
  Calls Tryz.prog 53 #[v] w fun e w'=>∃ r,e=.returned r∧DvM w.heap.size w' r (fsD (List.replicate (m*64) 0)) (-1) false∧Below w.heap.size w w':=by
 refine(ssyX_any v (List.replicate (m*64) 0) [((0:Int),fsL.take 64),(1,fsL.drop 64)] (-1) false w h (by simp;omega) (by simp) (fun i=>?_) (by decide)).mono ?_
 ·match i with
  |0=>exact Nat.le_trans (Nat.le_of_eq z0_len) (by decide)
  |1=>exact Nat.le_trans (Nat.le_of_eq z1_len) (by decide)
  |i+2=>simp
 rintro e w' ⟨r,rfl,hM,hb⟩
 obtain⟨e1,e2,e3,e4⟩:=sy2 (zs:=(List.replicate (m*64) 0)) (m:=m) (by simp) h8 h256
 rw[List.length_replicate,e1,e2,e3,e4] at hM
 exact⟨r,rfl,hM.dvm,hb⟩
end
set_option maxRecDepth 100000 in
set_option maxHeartbeats 4000000 in
theorem sfm_b1 (n:Int) (kn zc:Nat) (za:Option Addr) (w:World) (h:n<8) :
  Calls Tryz.prog 15 #[.int .i64 n,.slice za kn zc] w fun e w'=>∃ X,e=.returned (.agg X)∧RP w.heap.size w' X 10 [] [] 0 false imNo∧Below w.heap.size w w':=by
 have HSR:Hid ((Tryz.prog.info? 50).map (·.size)=some 17):=by show _=_;kernel_rfl
 have HN:Hid ((w.alloc (.cells #[.int .i64 0,.slice none 0 0,.slice none 0 0,.int .i64 0,.bool false,.slice none 0 0,.bool false,.int .u32 0,.int .u32 0,.slice none 0 0,.slice none 0 0,.slice none 0 0,.slice none 0 0,.slice none 0 0,.int .i64 0,.slice none 0 0,.int .u32 0] 50)).heap[w.heap.size]?=some (.cells #[.int .i64 0,.slice none 0 0,.slice none 0 0,.int .i64 0,.bool false,.slice none 0 0,.bool false,.int .u32 0,.int .u32 0,.slice none 0 0,.slice none 0 0,.slice none 0 0,.slice none 0 0,.slice none 0 0,.int .i64 0,.slice none 0 0,.int .u32 0] 50 (0,0))):=heap_alloc_new w _
 have HBW:Hid (Below w.heap.size w (w.alloc (.cells #[.int .i64 0,.slice none 0 0,.slice none 0 0,.int .i64 0,.bool false,.slice none 0 0,.bool false,.int .u32 0,.int .u32 0,.slice none 0 0,.slice none 0 0,.slice none 0 0,.slice none 0 0,.slice none 0 0,.int .i64 0,.slice none 0 0,.int .u32 0] 50))):=(Below.refl _ _).alloc (Nat.le_refl _) _
 have h1:decide (n<8)=true:=by simpa using h
 go_enter Tryz.func15,Tryz.ntmps15
 go_upto_region 1 with fail
 generalize w.alloc (.cells #[.int .i64 0,.slice none 0 0,.slice none 0 0,.int .i64 0,.bool false,.slice none 0 0,.bool false,.int .u32 0,.int .u32 0,.slice none 0 0,.slice none 0 0,.slice none 0 0,.slice none 0 0,.slice none 0 0,.int .i64 0,.slice none 0 0,.int .u32 0] 50)=w1 at *
 go_wp2_with (first
  |(refine wpList_store_row rfl 50 (.tmp 4) (.tmp 18) rfl w.heap.size #[.int .i64 10,.slice none 0 0,.slice none 0 0,.int .i64 0,.bool false,.slice none 0 0,.bool false,.int .u32 0,.int .u32 0,.slice none 0 0,.slice none 0 0,.slice none 0 0,.slice none 0 0,.slice none 0 0,.int .i64 0,.slice none 0 0,.int .u32 0] rfl rfl 50 _ HN.out HSR.out rfl (by simp[Value.oneCell']) ?_)
  |fail)
 (try simp only[Exit.inBlock,Exit.then])
 exact bodyPost_ret (v:=.agg #[.int .i64 10,.slice none 0 0,.slice none 0 0,.int .i64 0,.bool false,.slice none 0 0,.bool false,.int .u32 0,.int .u32 0,.slice none 0 0,.slice none 0 0,.slice none 0 0,.slice none 0 0,.slice none 0 0,.int .i64 0,.slice none 0 0,.int .u32 0]) (results_cell_row rfl _ _ w.heap.size 50 _ (0,0) _ rfl (setRow_heap _ _ _ _ _ _ HN.out) Tryz.underlying50 rfl HSR.out) rfl ⟨_,rfl,⟨_,rfl,GP.no _ _⟩,HBW.out.trans ((Wr.setRow _ _ _).below (Nat.le_refl _))⟩
set_option maxRecDepth 100000 in
set_option maxHeartbeats 4000000 in
theorem sfm_b2 (n:Int) (kn zc:Nat) (za:Option Addr) (w:World) (h0:¬ n<8) (h:256<n) :
  Calls Tryz.prog 15 #[.int .i64 n,.slice za kn zc] w fun e w'=>∃ X,e=.returned (.agg X)∧RP w.heap.size w' X 10 [] [] 0 false imNo∧Below w.heap.size w w':=by
 have HSR:Hid ((Tryz.prog.info? 50).map (·.size)=some 17):=by show _=_;kernel_rfl
 have HN:Hid ((w.alloc (.cells #[.int .i64 0,.slice none 0 0,.slice none 0 0,.int .i64 0,.bool false,.slice none 0 0,.bool false,.int .u32 0,.int .u32 0,.slice none 0 0,.slice none 0 0,.slice none 0 0,.slice none 0 0,.slice none 0 0,.int .i64 0,.slice none 0 0,.int .u32 0] 50)).heap[w.heap.size]?=some (.cells #[.int .i64 0,.slice none 0 0,.slice none 0 0,.int .i64 0,.bool false,.slice none 0 0,.bool false,.int .u32 0,.int .u32 0,.slice none 0 0,.slice none 0 0,.slice none 0 0,.slice none 0 0,.slice none 0 0,.int .i64 0,.slice none 0 0,.int .u32 0] 50 (0,0))):=heap_alloc_new w _
 have HBW:Hid (Below w.heap.size w (w.alloc (.cells #[.int .i64 0,.slice none 0 0,.slice none 0 0,.int .i64 0,.bool false,.slice none 0 0,.bool false,.int .u32 0,.int .u32 0,.slice none 0 0,.slice none 0 0,.slice none 0 0,.slice none 0 0,.slice none 0 0,.int .i64 0,.slice none 0 0,.int .u32 0] 50))):=(Below.refl _ _).alloc (Nat.le_refl _) _
 go_enter Tryz.func15,Tryz.ntmps15
 go_upto_region 1 with fail
 generalize w.alloc (.cells #[.int .i64 0,.slice none 0 0,.slice none 0 0,.int .i64 0,.bool false,.slice none 0 0,.bool false,.int .u32 0,.int .u32 0,.slice none 0 0,.slice none 0 0,.slice none 0 0,.slice none 0 0,.slice none 0 0,.int .i64 0,.slice none 0 0,.int .u32 0] 50)=w1 at *
 go_wp2_with (first
  |(refine wpList_store_row rfl 50 (.tmp 4) (.tmp 18) rfl w.heap.size #[.int .i64 10,.slice none 0 0,.slice none 0 0,.int .i64 0,.bool false,.slice none 0 0,.bool false,.int .u32 0,.int .u32 0,.slice none 0 0,.slice none 0 0,.slice none 0 0,.slice none 0 0,.slice none 0 0,.int .i64 0,.slice none 0 0,.int .u32 0] rfl rfl 50 _ HN.out HSR.out rfl (by simp[Value.oneCell']) ?_)
  |fail)
 (try simp only[Exit.inBlock,Exit.then])
 exact bodyPost_ret (v:=.agg #[.int .i64 10,.slice none 0 0,.slice none 0 0,.int .i64 0,.bool false,.slice none 0 0,.bool false,.int .u32 0,.int .u32 0,.slice none 0 0,.slice none 0 0,.slice none 0 0,.slice none 0 0,.slice none 0 0,.int .i64 0,.slice none 0 0,.int .u32 0]) (results_cell_row rfl _ _ w.heap.size 50 _ (0,0) _ rfl (setRow_heap _ _ _ _ _ _ HN.out) Tryz.underlying50 rfl HSR.out) rfl ⟨_,rfl,⟨_,rfl,GP.no _ _⟩,HBW.out.trans ((Wr.setRow _ _ _).below (Nat.le_refl _))⟩
set_option maxRecDepth 100000 in
set_option maxHeartbeats 4000000 in
theorem sfm_b3 (n:Int) (kn zc:Nat) (za:Option Addr) (w:World) (h0:¬ n<8) (h1:¬ 256<n) (h:kn≠32) :
  Calls Tryz.prog 15 #[.int .i64 n,.slice za kn zc] w fun e w'=>∃ X,e=.returned (.agg X)∧RP w.heap.size w' X 10 [] [] 0 false imNo∧Below w.heap.size w w':=by
 have HSR:Hid ((Tryz.prog.info? 50).map (·.size)=some 17):=by show _=_;kernel_rfl
 have HN:Hid ((w.alloc (.cells #[.int .i64 0,.slice none 0 0,.slice none 0 0,.int .i64 0,.bool false,.slice none 0 0,.bool false,.int .u32 0,.int .u32 0,.slice none 0 0,.slice none 0 0,.slice none 0 0,.slice none 0 0,.slice none 0 0,.int .i64 0,.slice none 0 0,.int .u32 0] 50)).heap[w.heap.size]?=some (.cells #[.int .i64 0,.slice none 0 0,.slice none 0 0,.int .i64 0,.bool false,.slice none 0 0,.bool false,.int .u32 0,.int .u32 0,.slice none 0 0,.slice none 0 0,.slice none 0 0,.slice none 0 0,.slice none 0 0,.int .i64 0,.slice none 0 0,.int .u32 0] 50 (0,0))):=heap_alloc_new w _
 have HBW:Hid (Below w.heap.size w (w.alloc (.cells #[.int .i64 0,.slice none 0 0,.slice none 0 0,.int .i64 0,.bool false,.slice none 0 0,.bool false,.int .u32 0,.int .u32 0,.slice none 0 0,.slice none 0 0,.slice none 0 0,.slice none 0 0,.slice none 0 0,.int .i64 0,.slice none 0 0,.int .u32 0] 50))):=(Below.refl _ _).alloc (Nat.le_refl _) _
 have h':¬ (kn:Int)=32:=by omega
 go_enter Tryz.func15,Tryz.ntmps15
 go_upto_region 1 with fail
 generalize w.alloc (.cells #[.int .i64 0,.slice none 0 0,.slice none 0 0,.int .i64 0,.bool false,.slice none 0 0,.bool false,.int .u32 0,.int .u32 0,.slice none 0 0,.slice none 0 0,.slice none 0 0,.slice none 0 0,.slice none 0 0,.int .i64 0,.slice none 0 0,.int .u32 0] 50)=w1 at *
 go_wp2_with (first
  |(refine wpList_store_row rfl 50 (.tmp 4) (.tmp 18) rfl w.heap.size #[.int .i64 10,.slice none 0 0,.slice none 0 0,.int .i64 0,.bool false,.slice none 0 0,.bool false,.int .u32 0,.int .u32 0,.slice none 0 0,.slice none 0 0,.slice none 0 0,.slice none 0 0,.slice none 0 0,.int .i64 0,.slice none 0 0,.int .u32 0] rfl rfl 50 _ HN.out HSR.out rfl (by simp[Value.oneCell']) ?_)
  |fail)
 (try simp only[Exit.inBlock,Exit.then])
 exact bodyPost_ret (v:=.agg #[.int .i64 10,.slice none 0 0,.slice none 0 0,.int .i64 0,.bool false,.slice none 0 0,.bool false,.int .u32 0,.int .u32 0,.slice none 0 0,.slice none 0 0,.slice none 0 0,.slice none 0 0,.slice none 0 0,.int .i64 0,.slice none 0 0,.int .u32 0]) (results_cell_row rfl _ _ w.heap.size 50 _ (0,0) _ rfl (setRow_heap _ _ _ _ _ _ HN.out) Tryz.underlying50 rfl HSR.out) rfl ⟨_,rfl,⟨_,rfl,GP.no _ _⟩,HBW.out.trans ((Wr.setRow _ _ _).below (Nat.le_refl _))⟩
theorem sfm_no (n:Int) (kn zc:Nat) (za:Option Addr) (w:World) (h:¬ ((8≤n∧n≤256)∧kn=32)) :
  Calls Tryz.prog 15 #[.int .i64 n,.slice za kn zc] w fun e w'=>∃ X,e=.returned (.agg X)∧RP w.heap.size w' X 10 [] [] 0 false imNo∧Below w.heap.size w w':=by
 by_cases h1:n<8
 ·exact sfm_b1 n kn zc za w h1
 by_cases h2:256<n
 ·exact sfm_b2 n kn zc za w h1 h2
 exact sfm_b3 n kn zc za w h1 h2 (by omega)
set_option maxRecDepth 100000 in
set_option maxHeartbeats 8000000 in
theorem sfm_yes (m zc:Nat) (za:Option Addr) (ks:List Int) (r:ImR) (w:World) (h8:8≤m) (h256:m≤256) (hk:ks.length=32) (hA:At .u8 w za ks) (hr:imG (fsD (List.replicate (m*64) 0)) [] (-1)=r) (hle:ImLe r) :
  Calls Tryz.prog 15 #[.int .i64 m,.slice za 32 zc] w fun e w'=>∃ X,e=.returned (.agg X)∧RL w.heap.size w' X 9 (fsD (List.replicate (m*64) 0)) ks (-1) false r∧Below w.heap.size w w':=by
 have HSR:Hid ((Tryz.prog.info? 50).map (·.size)=some 17):=by show _=_;kernel_rfl
 have HSD:Hid ((Tryz.prog.info? 40).map (·.size)=some 4):=by show _=_;kernel_rfl
 have HO0:Hid (OE w 50 #[.int .i64 0,.slice none 0 0,.slice none 0 0,.int .i64 0,.bool false,.slice none 0 0,.bool false,.int .u32 0,.int .u32 0,.slice none 0 0,.slice none 0 0,.slice none 0 0,.slice none 0 0,.slice none 0 0,.int .i64 0,.slice none 0 0,.int .u32 0] (w.alloc (.cells #[.int .i64 0,.slice none 0 0,.slice none 0 0,.int .i64 0,.bool false,.slice none 0 0,.bool false,.int .u32 0,.int .u32 0,.slice none 0 0,.slice none 0 0,.slice none 0 0,.slice none 0 0,.slice none 0 0,.int .i64 0,.slice none 0 0,.int .u32 0] 50))):=OE.start _ _ _
 have t1:¬ (m:Int)<8:=by omega
 have t2:¬ (256:Int)<(m:Int):=by omega
 have HM:Hid (8≤m∧m≤256):=⟨h8,h256⟩
 have HK:Hid (At .u8 w za ks∧ks.length=32):=⟨hA,hk⟩
 have HR:=hid_of hr
 have HLE:=hid_of hle
 have HFL:Hid ((fsD (List.replicate (m*64) 0)).length≤1048576):=by show _≤_;rw[fsD_len (m:=m) (by simp) h8];omega
 clear hA hk hr h8 h256 hle
 go_enter Tryz.func15,Tryz.ntmps15
 go_upto_region 1 with fail
 generalize w.alloc (.cells #[.int .i64 0,.slice none 0 0,.slice none 0 0,.int .i64 0,.bool false,.slice none 0 0,.bool false,.int .u32 0,.int .u32 0,.slice none 0 0,.slice none 0 0,.slice none 0 0,.slice none 0 0,.slice none 0 0,.int .i64 0,.slice none 0 0,.int .u32 0] 50)=w1 at *
 go_wp2_with fail
 refine(ses_any 0 1 none none 0 0 0 0 [] [] w1 rfl rfl (by decide) (by decide) (.inl rfl) (.inl rfl) ⟨by decide,by decide⟩ ⟨by decide,by decide⟩).mono ?_
 rintro e w2 ⟨v,rfl,hO,hb⟩
 rw[show snE 0 1 [] []=fsL by unfold snE;rw[snB_yes fsP];rfl] at hO
 obtain⟨g,gc,rfl,q1,q2,q3,q4,q5⟩:=hO.at_
 rw[fsL_len] at q3 ⊢
 have HO2:Hid (OE w 50 #[.int .i64 0,.slice none 0 0,.slice none 0 0,.int .i64 0,.bool false,.slice none 0 0,.bool false,.int .u32 0,.int .u32 0,.slice none 0 0,.slice none 0 0,.slice none 0 0,.slice none 0 0,.slice none 0 0,.int .i64 0,.slice none 0 0,.int .u32 0] w2):=HO0.out.call hb
 have HGC:=hid_of q3
 have HZ0:Hid (At .u8 w2 (some ⟨g,0,none⟩) (fsL.take 64)):=q4.take 64
 have HZ1:Hid (At .u8 w2 (some ⟨g,64,none⟩) (fsL.drop 64)):=by
  rcases q4 with h|⟨b,off,e,h1,h2⟩
  ·exact absurd (congrArg List.length h) (by rw[fsL_len];decide)
  ·cases e;refine .inr ⟨g,64,rfl,h1,fun i hi=>?_⟩;have hi':i<64:=by rw[z1_len] at hi;exact hi
   have:=h2 (64+i) (by rw[fsL_len];omega);rw[Nat.zero_add] at this;rw[this];simp[List.getD]
 clear HO0 hb hO q1 q2 q3 q4 q5 t1 t2
 go_wp2_with fail
 refine wp_region_any (by kernel_rfl) ?_
 refine wpAny_slotsF 10 (fun _ a b=>Below a.heap.size a b) (frame:=(fun (a b c d e f g h i j k l m n o p q r s u v w x y z A:Value)=>fun (t:Nat→Value)=>({ tmps:=List.toArray [a,b,c,d,e,f,t 9,g,h,i,j,k,l,m,n,o,p,q,r,s,u,t 0,t 1,t 2,t 3,t 4,t 5,t 6,t 7,t 8,v,w,x,y,z,A],defers:=[] }:Act)) _ _ _ _ _ _ _ _ _ _ _ _ _ _ _ _ _ _ _ _ _ _ _ _ _ _)
  (Ext:=fun L u w'=>ApH w2 [8,9] L u w') (Good:=fun i L w' v=>if i=0 then v=.int .i64 m else if i=1 then DAt w' v (List.replicate (m*64) 0) [] (-1) false else if i=2 then v=.slice (some ⟨g,0,none⟩) 128 gc else if i=3 then v=.slice (some ⟨g,0,none⟩) 64 gc else if i=4 then DAt w' v (List.replicate (m*64) 0) [((0:Int),fsL.take 64)] (-1) false else if i=5 then v=.slice (some ⟨g,0,none⟩) 128 gc else if i=6 then v=.slice (some ⟨g,64,none⟩) 64 (gc-64) else if i=7 then DAt w' v (List.replicate (m*64) 0) [((0:Int),fsL.take 64),(1,fsL.drop 64)] (-1) false else if i=8 then DvM w2.heap.size w' v (fsD (List.replicate (m*64) 0)) (-1) false else if i=9 then NwD w2.heap.size w' v else True) (Fin:=fun u ww=>∃ Q V,u 9=.pointer (some ⟨Q,0,none⟩)∧ww.heap[Q]?=some (.cells V 40 (0,0))∧DAt ww (.agg V) (fsD (List.replicate (m*64) 0)) [] (-1) false∧V.size=4∧Below w2.heap.size w2 ww) rfl (by kernel_rfl) ?hstab (by kernel_rfl) ?hop ?hend ?hdone _ _ ((fun (x0 x1 x2 x3 x4 x5 x6 x7 x8 x9:Value)=>fun (i:Nat)=>if i=0 then x0 else if i=1 then x1 else if i=2 then x2 else if i=3 then x3 else if i=4 then x4 else if i=5 then x5 else if i=6 then x6 else if i=7 then x7 else if i=8 then x8 else if i=9 then x9 else undef) _ _ _ _ _ _ _ _ _ _) _ (by simp) ?none ?ext (by simp)
 case none=>intro i;rw[Array.getD_eq_getD_getElem?,Array.getElem?_replicate];split<;>rfl
 case ext=>exact ApH.start w2 [8,9] _ _ (fun i=>by rw[Array.getD_eq_getD_getElem?,Array.getElem?_replicate];split<;>rfl) ⟨rfl,rfl,rfl,Nat.le_refl _,fun _ _=>rfl⟩
 case hstab=>
  intro j L w9 w' i v _ hM _ _ h;by_cases h1:j=1
  ·subst h1;simp at h ⊢;exact h.below hM
  by_cases h4:j=4
  ·subst h4;simp at h ⊢;exact h.below hM
  by_cases h7:j=7
  ·subst h7;simp at h ⊢;exact h.below hM
  by_cases h8:j=8
  ·subst h8;simp at h ⊢;exact h.below hM
  by_cases h9:j=9
  ·subst h9;simp at h ⊢;exact h.below hM
  simp only[if_neg h1,if_neg h4,if_neg h7,if_neg h8,if_neg h9] at h ⊢;exact h
 case hop=>
  intro i o L t w' hi ho hLi hx hdep K hK;obtain rfl|rfl|rfl|rfl|rfl|rfl|rfl|rfl|rfl|rfl:i=0∨i=1∨i=2∨i=3∨i=4∨i=5∨i=6∨i=7∨i=8∨i=9:=by omega
  all_goals(simp at ho;subst ho)
  ·clear hdep;have hK':=hK w' (.int .i64 m) (by simp) (hx.step 0 _ (Below.refl _ _) (fun h=>absurd h (by decide))) (Below.refl _ _);clear hK;rw[if_pos (by rfl)];go_simp;simpa[upd] using hK'
  ·have d0:t 0=.int .i64 m:=by simpa using(hdep ⟨0,.data⟩ (by simp) rfl).2
   clear hdep;have A:=sdnO m w' HM.out.1 HM.out.2;have hK':∀ ww v,DAt ww v (List.replicate (m*64) 0) [] (-1) false→Below w'.heap.size w' ww→K _ ww:=fun ww v hv hb=>hK ww v (by simpa using hv) (hx.step 1 v hb (fun h=>absurd h (by decide))) hb
   clear hK;rw[if_pos (by rfl)];go_simp;try simp only[d0]
   refine A.mono ?_;rintro e w9 ⟨v9,rfl,h9,hb9⟩;have hK2:=hK' w9 v9 h9 hb9;clear hK' A h9 hb9;go_simp;simpa[upd,d0] using hK2
  ·clear hdep;have hK':=hK w' (.slice (some ⟨g,0,none⟩) 128 gc) (by simp) (hx.step 2 _ (Below.refl _ _) (fun h=>absurd h (by decide))) (Below.refl _ _);clear hK;rw[if_pos (by rfl)];go_simp;simpa[upd] using hK'
  ·have d2:t 2=.slice (some ⟨g,0,none⟩) 128 gc:=by simpa using(hdep ⟨2,.data⟩ (by simp) rfl).2
   clear hdep;have hs:=run_sl0 w' g gc HGC.out;have hK':=hK w' (.slice (some ⟨g,0,none⟩) 64 gc) (by simp) (hx.step 3 _ (Below.refl _ _) (fun h=>absurd h (by decide))) (Below.refl _ _);clear hK;rw[if_pos (by rfl)];go_simp;simpa[upd,d2,hs] using hK'
  ·have f1:DAt w' (t 1) (List.replicate (m*64) 0) [] (-1) false:=by simpa using(hdep ⟨1,.data⟩ (by simp) rfl).2
   have d3:t 3=.slice (some ⟨g,0,none⟩) 64 gc:=by simpa using(hdep ⟨3,.data⟩ (by simp) rfl).2
   clear hdep;have bw:Below w.heap.size w w':=HO2.out.below.trans (hx.below.mono HO2.out.below.size);have A:=swr0 (c:=gc) f1 (HZ0.out.below hx.below) HM.out.1 HM.out.2;have hK':∀ ww v,DAt ww v (List.replicate (m*64) 0) [((0:Int),fsL.take 64)] (-1) false→Below w'.heap.size w' ww→K _ ww:=fun ww v hv hb=>hK ww v (by simpa using hv) (hx.step 4 v hb (fun h=>absurd h (by decide))) hb
   clear hK;rw[if_pos (by rfl)];go_simp;try simp only[d3]
   refine A.mono ?_;rintro e w9 ⟨v9,rfl,h9,hb9⟩;have hK2:=hK' w9 v9 h9 hb9;clear hK' A h9 hb9;go_simp;simpa[upd,d3] using hK2
  ·clear hdep;have hK':=hK w' (.slice (some ⟨g,0,none⟩) 128 gc) (by simp) (hx.step 5 _ (Below.refl _ _) (fun h=>absurd h (by decide))) (Below.refl _ _);clear hK;rw[if_pos (by rfl)];go_simp;simpa[upd] using hK'
  ·have d5:t 5=.slice (some ⟨g,0,none⟩) 128 gc:=by simpa using(hdep ⟨5,.data⟩ (by simp) rfl).2
   clear hdep;have hs:=run_sl1 w' g gc HGC.out;have hK':=hK w' (.slice (some ⟨g,64,none⟩) 64 (gc-64)) (by simp) (hx.step 6 _ (Below.refl _ _) (fun h=>absurd h (by decide))) (Below.refl _ _);clear hK;rw[if_pos (by rfl)];go_simp;simpa[upd,d5,hs] using hK'
  ·have f4:DAt w' (t 4) (List.replicate (m*64) 0) [((0:Int),fsL.take 64)] (-1) false:=by simpa using(hdep ⟨4,.data⟩ (by simp) rfl).2
   have d6:t 6=.slice (some ⟨g,64,none⟩) 64 (gc-64):=by simpa using(hdep ⟨6,.data⟩ (by simp) rfl).2
   clear hdep;have bw:Below w.heap.size w w':=HO2.out.below.trans (hx.below.mono HO2.out.below.size);have A:=swr1 (c:=gc-64) f4 (HZ1.out.below hx.below) HM.out.1 HM.out.2;have hK':∀ ww v,DAt ww v (List.replicate (m*64) 0) [((0:Int),fsL.take 64),(1,fsL.drop 64)] (-1) false→Below w'.heap.size w' ww→K _ ww:=fun ww v hv hb=>hK ww v (by simpa using hv) (hx.step 7 v hb (fun h=>absurd h (by decide))) hb
   clear hK;rw[if_pos (by rfl)];go_simp;try simp only[d6]
   refine A.mono ?_;rintro e w9 ⟨v9,rfl,h9,hb9⟩;have hK2:=hK' w9 v9 h9 hb9;clear hK' A h9 hb9;go_simp;simpa[upd,d6] using hK2
  ·have f7:DAt w' (t 7) (List.replicate (m*64) 0) [((0:Int),fsL.take 64),(1,fsL.drop 64)] (-1) false:=by simpa using(hdep ⟨7,.data⟩ (by simp) rfl).2
   clear hdep;have hsz:w2.heap.size≤w'.heap.size:=hx.below.size;have A:=ssy2 f7 HM.out.1 HM.out.2;have hK':∀ ww v,DvM w2.heap.size ww v (fsD (List.replicate (m*64) 0)) (-1) false→FreshH w' ww v→Below w'.heap.size w' ww→K _ ww:=fun ww v hv hf hb=>hK ww v (by simpa using hv) (hx.step 8 v hb (fun _=>hf)) hb
   clear hK;rw[if_pos (by rfl)];go_simp;try simp only[]
   refine A.mono ?_;rintro e w9 ⟨v9,rfl,h9,hb9⟩;have hK2:=hK' w9 v9 (h9.mono hsz) h9.fresh hb9;clear hK' A h9 hb9;go_simp;simpa[upd] using hK2
  ·clear hdep;have hsz:w2.heap.size≤w'.heap.size:=hx.below.size;have bb:Below w'.heap.size w' (w'.alloc (.cells #[.slice none 0 0,.slice none 0 0,.int .i64 0,.bool false] 40)):=(Below.refl _ _).alloc (Nat.le_refl _) _;have hnw:NwD w2.heap.size (w'.alloc (.cells #[.slice none 0 0,.slice none 0 0,.int .i64 0,.bool false] 40)) (.pointer (some ⟨w'.heap.size,0,none⟩)):=⟨w'.heap.size,rfl,hsz,heap_alloc_new w' _⟩
   have hfr:FreshH w' (w'.alloc (.cells #[.slice none 0 0,.slice none 0 0,.int .i64 0,.bool false] 40)) (.pointer (some ⟨w'.heap.size,0,none⟩)):=fun k hk=>by rw[has_ptr.1 hk];exact⟨Nat.le_refl _,by simp⟩
   have hK':=hK (w'.alloc (.cells #[.slice none 0 0,.slice none 0 0,.int .i64 0,.bool false] 40)) (.pointer (some ⟨w'.heap.size,0,none⟩)) (by simpa using hnw) (hx.step 9 _ bb (fun _=>hfr)) bb;clear hK bb hnw hfr;rw[if_pos (by rfl)];go_simp;simpa[upd] using hK'
 case hend=>
  intro o L t w' ho hx hg K hK;simp at ho;subst ho;have l8:L 8=true:=(hg 8 (by decide)).1;have f8:DvM w2.heap.size w' (t 8) (fsD (List.replicate (m*64) 0)) (-1) false:=by simpa using(hg 8 (by decide)).2
  have l9:L 9=true:=(hg 9 (by decide)).1;have f9:NwD w2.heap.size w' (t 9):=by simpa using(hg 9 (by decide)).2
  clear hg;have hap:=hx.ap 8 (by decide) 9 (by decide) (by decide) l8 l9;obtain⟨da,dc,ca,cc,e8,q1,q2,q3⟩:=f8;obtain⟨q,e9,hq,hbx⟩:=f9;have hne:∀ ad,da=some ad→ad.block≠q:=fun ad e h=>by
   rw[e8,e9] at hap;exact hap ad.block (has_slice 0 rfl e) (has_ptr.2 h)
  have hK':∀ ww,Wr q w' ww→ww.heap[q]?=some (.cells #[.slice da (fsD (List.replicate (m*64) 0)).length dc,.slice ca 0 cc,.int .i64 (-1),.bool false] 40 (0,0))→K _ ww:=fun ww hw hr=>hK ww undef ⟨q,_,by simp[upd];exact e9,hr,⟨da,dc,ca,cc,rfl,q2.1.keep (fun ad e=>hw.block _ (hne ad e)) (Nat.le_of_eq hw.size.symm),.inl rfl,q1⟩,rfl,hx.below.trans (hw.below hq)⟩
  clear hK q2 q3 hne;rw[if_pos (by rfl)];refine wp_store_row 40 (.tmp 6) (.tmp 29) rfl q _ e9 e8 40 _ hbx HSD.out rfl (by simp[Value.oneCell']) ?_;have hK2:=hK' _ (Wr.setRow _ _ _) (setRow_heap _ _ _ _ _ _ hbx);clear hK';simpa[upd,Act.put] using hK2
 case hdone=>
  intro t w3 hf;obtain⟨Q,V,eQ,hQ,hD,hV4,hbw⟩:=hf;have HO3:Hid (OE w 50 #[.int .i64 0,.slice none 0 0,.slice none 0 0,.int .i64 0,.bool false,.slice none 0 0,.bool false,.int .u32 0,.int .u32 0,.slice none 0 0,.slice none 0 0,.slice none 0 0,.slice none 0 0,.slice none 0 0,.int .i64 0,.slice none 0 0,.int .u32 0] w3):=HO2.out.call hbw;have HQ:Hid (w3.heap[Q]?=some (.cells V 40 (0,0))∧Q<w3.heap.size):=⟨hQ,(Array.getElem?_eq_some_iff.1 hQ).1⟩
  have HSV:Hid ((Tryz.prog.info? 40).map (·.size)=some V.size):=by show _=_;rw[hV4];exact HSD.out
  have HLD:Hid (∀ ww,Below w3.heap.size w3 ww→Calls Tryz.prog 7 #[.agg V] ww fun e w'=>∃ v,e=.returned v∧ImWv w' v r∧Below ww.heap.size ww w'):=fun ww b=>by
   rw[←HR.out];obtain⟨xa,xc,ya,yc,e,x1,x2,x3⟩:=hD.below b;rw[e];exact sld_any xa ya _ xc 0 yc (-1) false _ [] ww rfl rfl x1 x2 x3 HFL.out (by simp) (by simp) (fsD_byte (zero_byte _)) (by simp[Byte])
  have HGT:Hid (∀ ww,Below w3.heap.size w3 ww→∀ vi,ImWv ww vi r→Calls Tryz.prog 56 #[.agg V,.slice za 32 zc,vi] ww fun e w'=>∃ C,e=.returned (.agg C)∧GL ww.heap.size w' C (fsD (List.replicate (m*64) 0)) ks (-1) false r∧Below ww.heap.size ww w'):=fun ww b vi hvi=>by
   have:=sgt_any (.agg V) vi (fsD (List.replicate (m*64) 0)) ks (-1) false r za zc ww (hD.below b) (HK.out.1.below (HO3.out.below.trans (b.mono HO3.out.below.size))) hvi HLE.out HFL.out (by rw[HK.out.2];decide);rw[HK.out.2] at this;exact this
  simp only[eQ];clear eQ hQ hD hV4 hbw;go_wp2_with fail;refine wp_region_any (by kernel_rfl) ?_;refine wpAny_slotsF 6 (fun _ a b=>Below a.heap.size a b) (frame:=(fun (a b c d e f g h i j k l m n o p q r s u v w x y z A B C D E:Value)=>fun (t:Nat→Value)=>({ tmps:=List.toArray [a,b,c,d,e,f,g,h,i,j,k,l,m,n,o,p,q,r,s,u,v,w,x,y,z,A,B,C,D,E,t 0,t 1,t 2,t 3,t 4,t 5],defers:=[] }:Act)) _ _ _ _ _ _ _ _ _ _ _ _ _ _ _ _ _ _ _ _ _ _ _ _ _ _ _ _ _ _)
   (Ext:=fun L u w'=>ApH w3 [] L u w') (Good:=fun i L w' v=>if i=0 then v=.agg V else if i=1 then v=.slice za 32 zc else if i=2 then v=.agg V else if i=3 then ImWv w' v r else if i=4 then GLv w3.heap.size w' v (fsD (List.replicate (m*64) 0)) ks (-1) false r else if i=5 then RLv w3.heap.size w' v 9 (fsD (List.replicate (m*64) 0)) ks (-1) false r else True) (Fin:=fun _ ww=>∃ X,ww.heap[w.heap.size]?=some (.cells X 50 (0,0))∧RL w.heap.size ww X 9 (fsD (List.replicate (m*64) 0)) ks (-1) false r∧X.size=17∧Below w.heap.size w ww) rfl (by kernel_rfl) ?hstab (by kernel_rfl) ?hop ?hend ?hdone _ _ ((fun (x0 x1 x2 x3 x4 x5:Value)=>fun (i:Nat)=>if i=0 then x0 else if i=1 then x1 else if i=2 then x2 else if i=3 then x3 else if i=4 then x4 else if i=5 then x5 else undef) _ _ _ _ _ _) _ (by simp) ?none ?ext (by simp)
  case none=>intro i;rw[Array.getD_eq_getD_getElem?,Array.getElem?_replicate];split<;>rfl
  case ext=>exact ApH.start w3 [] _ _ (fun i=>by rw[Array.getD_eq_getD_getElem?,Array.getElem?_replicate];split<;>rfl) ⟨rfl,rfl,rfl,Nat.le_refl _,fun _ _=>rfl⟩
  case hstab=>
   intro j L w9 w' i v _ hM _ _ h;by_cases h3:j=3
   ·subst h3;simp at h ⊢;exact h.below hM
   by_cases h4:j=4
   ·subst h4;simp at h ⊢;exact h.below hM
   by_cases h5:j=5
   ·subst h5;simp at h ⊢;exact h.below hM
   simp only[if_neg h3,if_neg h4,if_neg h5] at h ⊢;exact h
  case hop=>
   intro i o L t w' hi ho hLi hx hdep K hK;obtain rfl|rfl|rfl|rfl|rfl|rfl:i=0∨i=1∨i=2∨i=3∨i=4∨i=5:=by omega
   all_goals(simp at ho;subst ho)
   ·clear hdep;have hK':=hK w' (.agg V) (by simp) (hx.step 0 _ (Below.refl _ _) (fun h=>absurd h (by decide))) (Below.refl _ _);clear hK;rw[if_pos (by rfl)];refine wp_load_row 40 (.tmp 6) rfl Q rfl 40 _ (0,0) _ ((hx.below.block _ HQ.out.2).trans HQ.out.1) Tryz.underlying40 rfl HSV.out ?_;simpa[upd,Act.put] using hK'
   ·clear hdep;have hK':=hK w' (.slice za 32 zc) (by simp) (hx.step 1 _ (Below.refl _ _) (fun h=>absurd h (by decide))) (Below.refl _ _);clear hK;rw[if_pos (by rfl)];go_simp;simpa[upd] using hK'
   ·clear hdep;have hK':=hK w' (.agg V) (by simp) (hx.step 2 _ (Below.refl _ _) (fun h=>absurd h (by decide))) (Below.refl _ _);clear hK;rw[if_pos (by rfl)];refine wp_load_row 40 (.tmp 6) rfl Q rfl 40 _ (0,0) _ ((hx.below.block _ HQ.out.2).trans HQ.out.1) Tryz.underlying40 rfl HSV.out ?_;simpa[upd,Act.put] using hK'
   ·have d2:t 2=.agg V:=by simpa using(hdep ⟨2,.data⟩ (by simp) rfl).2
    clear hdep;have A:=HLD.out w' hx.below;have hK':∀ ww v,ImWv ww v r→Below w'.heap.size w' ww→K _ ww:=fun ww v hv hb=>hK ww v (by simpa using hv) (hx.step 3 v hb (fun h=>absurd h (by decide))) hb
    clear hK;rw[if_pos (by rfl)];go_simp;try simp only[d2]
    refine A.mono ?_;rintro e w9 ⟨v9,rfl,h9,hb9⟩;have hK2:=hK' w9 v9 h9 hb9;clear hK' A h9 hb9;go_simp;simpa[upd,d2] using hK2
   ·have d0:t 0=.agg V:=by simpa using(hdep ⟨0,.data⟩ (by simp) rfl).2
    have d1:t 1=.slice za 32 zc:=by simpa using(hdep ⟨1,.data⟩ (by simp) rfl).2
    have f3:ImWv w' (t 3) r:=by simpa using(hdep ⟨3,.data⟩ (by simp) rfl).2
    clear hdep;have bw:Below w.heap.size w w':=HO3.out.below.trans (hx.below.mono HO3.out.below.size);have hsz:w3.heap.size≤w'.heap.size:=hx.below.size;have A:=HGT.out w' hx.below (t 3) f3;have hK':∀ ww v,GLv w3.heap.size ww v (fsD (List.replicate (m*64) 0)) ks (-1) false r→Below w'.heap.size w' ww→K _ ww:=fun ww v hv hb=>hK ww v (by simpa using hv) (hx.step 4 v hb (fun h=>absurd h (by decide))) hb
    clear hK;rw[if_pos (by rfl)];go_simp;try simp only[d0,d1]
    refine A.mono ?_;rintro e w9 ⟨C9,rfl,h9,hb9⟩;have hK2:=hK' w9 (.agg C9) ⟨C9,rfl,h9.mono hsz⟩ hb9;clear hK' A h9 hb9;go_simp;simpa[upd,d0,d1] using hK2
   ·have f4:GLv w3.heap.size w' (t 4) (fsD (List.replicate (m*64) 0)) ks (-1) false r:=by simpa using(hdep ⟨4,.data⟩ (by simp) rfl).2
    clear hdep;obtain⟨C,e4,hG⟩:=f4;have hG2:=hG;obtain⟨da,dc,ca,cc,ka,kc,aSD,nSD,cSD,aSU,nSU,cSU,aF,mF,cF,aD,nD,cD,aU,nU,cU,aT,cT,rfl,_⟩:=hG2;have hsv:RLv w3.heap.size w' (.agg #[.int .i64 9,.slice da (fsD (List.replicate (m*64) 0)).length dc,.slice ca 0 cc,.int .i64 (-1),.bool false,.slice ka ks.length kc,.bool r.ok,.int .u32 r.g,.int .u32 r.t,.slice aSD nSD cSD,.slice aSU nSU cSU,.slice aF mF cF,.slice aD nD cD,.slice aU nU cU,.int .i64 r.k,.slice aT r.n cT,.int .u32 r.nx]) 9 (fsD (List.replicate (m*64) 0)) ks (-1) false r:=⟨_,rfl,#[.slice da (fsD (List.replicate (m*64) 0)).length dc,.slice ca 0 cc,.int .i64 (-1),.bool false,.slice ka ks.length kc,.bool r.ok,.int .u32 r.g,.int .u32 r.t,.slice aSD nSD cSD,.slice aSU nSU cSU,.slice aF mF cF,.slice aD nD cD,.slice aU nU cU,.int .i64 r.k,.slice aT r.n cT,.int .u32 r.nx],rfl,hG⟩
    have hK':=hK w' _ (by simpa using hsv) (hx.step 5 _ (Below.refl _ _) (fun h=>absurd h (by decide))) (Below.refl _ _);clear hK hG hsv;rw[if_pos (by rfl)];go_simp;simpa[upd,e4] using hK'
  case hend=>
   intro o L t w' ho hx hg K hK;simp at ho;subst ho;have f5:RLv w3.heap.size w' (t 5) 9 (fsD (List.replicate (m*64) 0)) ks (-1) false r:=by simpa using(hg 5 (by decide)).2
   clear hg;obtain⟨X,e5,j0⟩:=f5;have hz:=j0.row;have hrs:w'.heap[w.heap.size]?=some (.cells #[.int .i64 0,.slice none 0 0,.slice none 0 0,.int .i64 0,.bool false,.slice none 0 0,.bool false,.int .u32 0,.int .u32 0,.slice none 0 0,.slice none 0 0,.slice none 0 0,.slice none 0 0,.slice none 0 0,.int .i64 0,.slice none 0 0,.int .u32 0] 50 (0,0)):=(hx.below.block _ HO3.out.lt).trans HO3.out.b0;have hK':∀ ww,Wr w.heap.size w' ww→ww.heap[w.heap.size]?=some (.cells X 50 (0,0))→K _ ww:=fun ww hw hr=>hK ww undef ⟨X,hr,(j0.keep (Nat.le_of_eq hw.size.symm) (fun k hk _=>hw.block k (by have:=HO3.out.lt;omega))).mono (Nat.le_of_lt HO3.out.lt),hz.1,(HO3.out.below.trans (hx.below.mono HO3.out.below.size)).trans (hw.below (Nat.le_refl _))⟩
   clear hK j0;rw[if_pos (by rfl)];refine wp_store_row 50 (.tmp 4) (.tmp 35) rfl w.heap.size X rfl e5 50 _ hrs (by rw[hz.1];exact HSR.out) (by rw[hz.1];rfl) hz.2 ?_;have hK2:=hK' _ (Wr.setRow _ _ _) (setRow_heap _ _ _ _ _ _ hrs);clear hK';simpa[upd,Act.put] using hK2
  case hdone=>
   intro t w9 hf;obtain⟨X,hr,hI,hz,hb9⟩:=hf;have HR9:Hid (w9.heap[w.heap.size]?=some (.cells X 50 (0,0))):=hr;have HF:Hid (RL w.heap.size w9 X 9 (fsD (List.replicate (m*64) 0)) ks (-1) false r∧Below w.heap.size w w9):=⟨hI,hb9⟩
   have HS9:Hid ((Tryz.prog.info? 50).map (·.size)=some X.size):=by show _=_;rw[hz];exact HSR.out
   clear hr hI hz hb9;go_wp2_with fail;exact bodyPost_ret (v:=.agg X) (results_cell_row rfl _ _ w.heap.size 50 _ (0,0) _ rfl HR9.out Tryz.underlying50 rfl HS9.out) rfl ⟨_,rfl,HF.out.1,HF.out.2⟩
end Go.Proofs.YthmeoilbmfdhfaaGreat
