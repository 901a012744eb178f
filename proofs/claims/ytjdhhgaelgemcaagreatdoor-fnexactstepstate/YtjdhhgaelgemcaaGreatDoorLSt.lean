import Derived.Test.YtjdhhgaelgemcaaGreatDoorMStT
import Derived.Test.YtjdhhgaelgemcaaGreatDoorMSvF
import Derived.Test.YtjdhhgaelgemcaaGreatDoorTie
import Derived.Test.YtjdhhgaelgemcaaGreatDoorCards
import Derived.WalkKit
import Derived.ProofKit
import Derived.OpenShut
import Derived.ShutString
import Derived.ChangeOld
import Derived.Below
import Derived.OpenVars
import Derived.ChangeVars
import Derived.LaidMore
import Derived.LaidHandle
import Derived.Lay
import Derived.SevenTiedAt
import Derived.Stop.Joined
namespace Go.Proofs.YtjdhhgaelgemcaaGreatDoor.lst
open Go.ChangeShapes Go.WideShapes Go.ChangeAt Go.RowKit
open Go.ChangeMaps (open_string shut_string)
set_option linter.unusedVariables false
abbrev laidR : List (String × DataW Unit) := [("loop.example/s02127/impl.roundConstants", Rows.laid_loop_example_s02127_impl_roundConstants)]
abbrev laid : List (String × DataW Unit) := [("errors.errorType", Rows.laid_errors_errorType), ("loop.example/s02127/impl.roundConstants", Rows.laid_loop_example_s02127_impl_roundConstants)]
theorem laid_eq:(Rows.laid_loop_example_s02127_impl_roundConstants:DataW Unit)=.agg (tab.map fun n:Nat=>.lit (.int .u64 (n:Int))):=by kernel_rfl
theorem tab_len:tab.length=88:=by kernel_rfl
theorem laid_parts {W : World} (h : laidMetH Tryz.prog laid W) : laidMet Tryz.prog laidR W ∧ handlesMet Tryz.prog [("errors.errorType", Rows.laid_errors_errorType)] W := h
theorem tab_cell {W:World} (h:laidMet Tryz.prog laidR W):TabIn W:=by
 intro r hr;obtain⟨ps,⟨g,t,cs,fuel,p,q,hg,ht,hv,hd,_,_⟩,_,_⟩:=h
 obtain rfl := Option.some.inj ((show Tryz.prog.globalNamed "loop.example/s02127/impl.roundConstants" = some 1 by kernel_rfl).symm.trans hg)
 obtain rfl:=Option.some.inj ((show(Tryz.prog.globals[1]?).map (·.type)=some 208 by kernel_rfl).symm.trans ht);rw[laid_eq] at hd;obtain⟨xs,m,_,ex,_,hl,hel⟩:=DataW.trod_array Tryz.underlying208 hd;have c5:Tryz.prog.cellsOf 132=1:=by kernel_rfl
 have hE:=hel r hr;rw[c5,Nat.mul_one,List.getElem?_eq_getElem (by omega)] at hE;obtain⟨z,e1,e2,_⟩:=DataW.trod_int Tryz.underlying132 hE;have hlen:=tab_len;have e3:(xs.map (·.1))=tab.map fun n:Nat=>.lit (.int .u64 (n:Int)):=(DataW.agg.inj (Prod.mk.inj ex).1).symm
 have e4:(xs.map (·.1))[r]?=(tab.map fun n:Nat=>(DataW.lit (.int .u64 (n:Int)):DataW Unit))[r]?:=by rw[e3]
 rw[List.getElem?_map,List.getElem?_map,List.getElem?_eq_getElem (by omega:r<xs.length),List.getElem?_eq_getElem (by omega:r<tab.length),e2] at e4;have hz:z=(tab.getD r 0:Nat):=by
  simp only[Option.map_some,Option.some.injEq,DataW.lit.injEq,Lit.int.injEq,true_and] at e4;rw[e4,List.getD,List.getElem?_eq_getElem (by omega:r<tab.length)];rfl
 rw[World.var?_cell hg hv r,←hz];have:cs.toList[r]?=some (.int .u64 z):=by
  have h0:((cs.toList.drop r).take 1)[0]?=some (.int .u64 z):=by rw[e1];rfl
  simpa using h0
 simpa using this
theorem et : Tryz.prog.globalNamed "errors.errorType" = some 0 := by kernel_rfl
theorem rt : (Tryz.prog.cutTypes.find? (·.1 == "internal/reflectlite.rtype")).map (·.2) = some 183 := by kernel_rfl
theorem oneRow:((List.range 247).filter fun t=>Tryz.prog.rowNamed t [101,114,114,111,114])=[99]:=by kernel_rfl
theorem tsize:Tryz.prog.types.size=247:=by kernel_rfl
theorem err_cell {W : World} (h : handlesMet Tryz.prog [("errors.errorType", Rows.laid_errors_errorType)] W) : ErrIn W := by
 obtain⟨name,u,ty,e1,e2,e3,e4,e5⟩:=h _ (List.mem_singleton.2 rfl);have en:name=[101,114,114,111,114]:=(Option.some.inj e1).symm;subst en;obtain rfl:=Option.some.inj (rt.symm.trans e2);have hm:ty∈(List.range 247).filter fun t=>Tryz.prog.rowNamed t [101,114,114,111,114]:=List.mem_filter.2 ⟨List.mem_range.2 (by rw[←tsize];exact e3),e4⟩
 rw[oneRow] at hm;obtain rfl:=List.mem_singleton.1 hm;have hh:typeHandle Tryz.prog 99=.pointer (some ⟨2,99,none⟩):=by kernel_rfl
 rw[hh] at e5;unfold ErrIn;simpa using World.var?_cell et e5 0
noncomputable def w00 (os:Os):World:=
 let w0:=World.holding Tryz.prog os ⟨#[],#[],[]⟩
 { w0 with heap:=w0.heap.modify 0 fun
   |.cells _ t frozen=>.cells #[.iface 183 (.agg #[.pointer (some ⟨2,99,none⟩)])] t frozen
   |o=>o }
noncomputable def laidW (os:Os):World:=(w00 os).layVars Tryz.prog laidR
theorem laidW_os (os:Os):(laidW os).os=os:=World.layVars_os _ _ _
theorem laidW_met (os:Os) (args:Array Value):laidMetH Tryz.prog laid ((laidW os).forCall (fun _ _=>0) ⟨#[],args,[]⟩).memory:=by
 refine laidMetH_of_parts (l:=laid) ?_ (by kernel_rfl);have e1:(laidR.filter fun x=>(laidR.map (·.1)).contains x.1)=laidR:=List.filter_eq_self.2 fun x hx=>List.contains_iff_mem.2 (List.mem_map.2 ⟨x,hx,rfl⟩)
 have e2:(laidR.filter fun x=>!(laidR.map (·.1)).contains x.1)=[]:=List.filter_eq_nil_iff.2 fun x hx=>by rw[List.contains_iff_mem.2 (List.mem_map.2 ⟨x,hx,rfl⟩)];simp
 have h:laidMet Tryz.prog laidR (laidW os):=laidMet_layVars (w0:=w00 os) (laidR.map (·.1)) [] (by rw[e1];rfl) (by rw[e1];kernel_rfl) (by rw[e1];kernel_rfl) (by rw[e2];exact LaidIn.none);exact h.of_heap (by simp[World.memory,World.forCall,Input.heap])
set_option maxRecDepth 100000 in
theorem lifted (os:Os) (started:os.Started) (H:Type) (enc:TypeId×Value→H) :
  ReturnsInHanded {} Tryz.checked os 3 .any (fun w args=>(Rows.fnExactStepStateSpec.pre enc Tryz.prog Tryz.f3 Rows.fnExactStepStateRow.domain false w args∧laidMetH Tryz.prog laid w)∧sizedMet enc Tryz.prog Tryz.f3 (OpenSpec.ofChange Rows.fnExactStepStateSpec) false w args)
   (Rows.fnExactStepStateSpec.post enc Tryz.prog Tryz.f3 false true false false):=by
 refine returnsInHanded_of_change_and (C:=Tryz.checked) (X:=fun w _=>laidMetH Tryz.prog laid w) (fun _ _ _ hh h=>h.of_heap hh) ownA started (by kernel_rfl) Tryz.func3
  (ChangeSpec.witness_shaped (enc:=enc) (C:=Tryz.checked) (os:=os) (X:=fun w _=>laidMetH Tryz.prog laid w) false (laidW os) #[.agg #[.slice none 0 0,.slice none 0 0,.int .i64 0,.slice none 0 0],.slice none 0 0,.agg #[.int .i64 0,.slice none 0 0,.int .i64 0,.int .i64 0]] 8 (laidW_os _)
   (World.shaped_of_ZipB (by kernel_rfl) (by kernel_rfl)) (by kernel_rfl) (by kernel_rfl) (by kernel_rfl)
   (laidW_met os _)) ?_
 intro W base args ds gs before hval0 hW hcnd _ hL _;have hval:∀(j:Nat) t v,Tryz.f3.params[j]?=some t→args[j]?=some v→Value.okWide Tryz.prog W .any base t v:=hval0
 have hW':=hW;obtain⟨p,q,hA0,hV,rfl,_,_⟩:=hW;have hA:DataW.TrodAll enc Tryz.prog W 0 (fun _=>true) true Tryz.f3.params.toList args.toList ds p:=hA0;rw[Tryz.params3] at hA hval;obtain⟨v0,vs0,d0,ds0,p0,q0,hargs,rfl,rfl,h0,r0⟩:=trodAll_cons hA;obtain⟨v1,vs1,d1,ds1,p1,q1,hargs1,rfl,rfl,h1,r1⟩:=trodAll_cons r0;obtain⟨v2,vs2,d2,ds2,p2,q2,hargs2,rfl,rfl,h2,r2⟩:=trodAll_cons r1;obtain⟨rfl,rfl,rfl⟩:=trodAll_nil r2;obtain rfl:args=#[v0,v1,v2]:=by cases args;simp_all
 have hV2 : DataW.TrodVars enc Tryz.prog W (fun _ => true) ["loop.example/s02127/impl.roundConstants"] gs q := hV
 obtain⟨g,t,cs,fuel,d,pp,rfl,hg,ht,hv,hd,rfl⟩:=trodVars_one hV2;have k0:=h0;have k1:=h1;have k2:=h2;have lt0:∀ x∈p0,x.block<W.heap.size:=by obtain⟨m,hm⟩:=k0;exact DataW.trod_lt m _ _ _ hm
 have lt1:∀ x∈p1,x.block<W.heap.size:=by obtain⟨m,hm⟩:=k1;exact DataW.trod_lt m _ _ _ hm
 have lt2:∀ x∈p2,x.block<W.heap.size:=by obtain⟨m,hm⟩:=k2;exact DataW.trod_lt m _ _ _ hm
 obtain⟨u0,u1,u2,u3,rfl,aD,nD,cD,D,aU,nU,cU,U,aT,nT,cT,T,k,rfl,rfl,rfl,rfl,hD,hU,hT,MD,MU,MT,AD,AU,AT,Wk⟩:=state_of (hval 0 25 v0 rfl rfl) h0;obtain⟨ka,nk,ck,rfl⟩:=okWide_slice Tryz.underlying26 (hval 1 26 v1 rfl rfl);obtain⟨ks,hks,mks',zks,aks⟩:∃ ks:List Int,ks.length=nk∧nk≤9223372036854775807∧Byte ks∧At .u8 W ka ks:=by
  obtain⟨fuel,hf⟩:=h1;obtain⟨a',n',c',zs,e,r1,r2,r3,r4⟩:=bytes_of (v:=.slice ka nk ck) hf;cases e;exact⟨zs,r1,r2,r3,r4⟩
 obtain⟨x0,x1,x2,x3,rfl,kind,ta,tn,tc,tk,now,N,rfl,rfl,rfl,rfl,htk,mtk,ztk,atk⟩:=op_of (hval 2 28 v2 rfl rfl) h2;clear hA0 hval0;have hT':=tab_cell (laid_parts hL).1;have hE:=err_cell (laid_parts hL).2;have hz:1<W.heap.size:=block_lt_of_cell (a:=⟨1,0,none⟩) (hT' 0 (by decide));refine(stw_any ⟨D,U,T,nD,nU,nT,k,ks,nk,tk,tn,kind,now,N⟩ aD aU aT ka ta cD cU cT ck tc W hD hU hT hks htk MD MU MT mks' mtk Wk.1 (by have:=Wk.2;show k<_;omega) zks ztk AD AU AT aks atk hT' hz hE).mono fun e W' ⟨he,bel⟩=>?_
 subst he;exact⟨_,rfl,_,_,_,[],_,_,hW',trodAll_mk1 (shut_bool Tryz.underlying4 _),(trodAll_cons_mk (Below.trod laidOutA (by kernel_rfl) (of_decide_eq_true (by kernel_rfl)) k0 bel lt0) (trodAll_cons_mk (Below.trod laidOutA (by kernel_rfl) (of_decide_eq_true (by kernel_rfl)) k1 bel lt1) (trodAll_cons_mk (Below.trod laidOutA (by kernel_rfl) (of_decide_eq_true (by kernel_rfl)) k2 bel lt2) trodAll_mk0))),Below.trodVars laidOutA bel (by kernel_rfl) hV2,bel.frame _,fun h=>by cases h⟩
theorem over:Rows.FnExactStepStateSaid:=
 OpenClaim.holds_of_wide 3 Tryz.f3 rfl rfl rfl rfl rfl rfl rfl ⟨rfl,rfl,rfl,rfl,rfl⟩ rfl rfl rfl rfl rfl (by kernel_rfl) Tryz.func3 (by kernel_rfl)
  (of_decide_eq_true (by kernel_rfl)) (by unfold Func.isWrapper;first|(rw[if_pos (by decide +kernel)];kernel_rfl)|(rw[if_neg (by decide +kernel)];exact⟨rfl,rfl⟩))
  (fun os started H enc _=>lifted os started H enc)
end Go.Proofs.YtjdhhgaelgemcaaGreatDoor.lst
namespace Go.Proofs.YtjdhhgaelgemcaaGreatDoor
theorem stepState_holds:Rows.FnExactStepStateCardSaid:=
 Claim7.holds_tied_plain_at .later [] [.handle, .data] true (true, "2154f4576e33fbd1799c6876cf53d2cbc1619c75ad98a1b86037a81f66bbc2ba") true
  lst.over (fun _ h=>by cases h) (by kernel_rfl) (fun _ h=>by cases h) fnExactStepState_row_tie rfl ⟨rfl,rfl⟩ (by kernel_rfl) rfl
  (fun f fn hf hfn=>by
   obtain rfl : f = 3 := Option.some.inj ((show Tryz.prog.funcNamed "loop.example/s02127/laws.FnExactStepState" = some 3 by kernel_rfl).symm.trans hf) |>.symm
   obtain rfl:fn=Tryz.f3:=(Option.some.inj (Tryz.func3.symm.trans hfn)).symm;exact⟨by kernel_rfl,fun j t ht=>by
    rw[Tryz.params3] at ht;have hm:t∈[25,26,28]:=by simpa using Array.mem_of_getElem? ht
    have hall:([25,26,28].all fun u=>!Tryz.prog.wantsStandIn u)=true:=by kernel_rfl
    exact(show Tryz.prog.wantsStandIn t=false by simpa using List.all_eq_true.1 hall t hm)⟩)
  (by kernel_rfl)
#print axioms stepState_holds
end Go.Proofs.YtjdhhgaelgemcaaGreatDoor
