import Derived.Test.YtncomnkdlpoelaaGreatDoorMStT
open Go.Proofs.Tryz renaming prog->tP
open Go.Proofs.Tryz
open Option renaming some->aR
set_option maxRecDepth 100000
namespace Go.Proofs.YtncomnkdlpoelaaGreatDoor.lrl
open Go.ChangeShapes Go.WideShapes Go.ChangeAt Go.RowKit
open Go.ChangeMaps (open_string shut_string)
set_option linter.unusedVariables false
section
variable {H:Type} {enc:TypeId×Value->H} {W:World}
theorem NQ {fuel:Nat} {v:Value} {y:DataW H×List MemPlace} (h:DataW.trod enc tP W 0 (λ_=>true) true fuel 22 [v]=aR y) :
  ∃ a n cap zs,v=.slice a n cap/\zs.length=n/\n<=9223372036854775807/\Cb zs/\At .u8 W a zs:=by
 rcases open_ints underlying22 underlying5 AM h with⟨hcs,_⟩|⟨x,l,c,zs,hcs,_,hl,hm,hz,_,hcell,hwz⟩
 ·simp at hcs;exact⟨none,0,0,[],hcs,rfl,AJ,by simp[Cb],.inl rfl⟩
 ·simp at hcs;have hz':zs.length=c:=by simpa using hz
  refine⟨aR x,l,c,zs.take l,hcs,by simp;omega,by unfold maxLen at hm;omega,λn hn=>?_,?_⟩
  ·have:=hwz n (Ax hn);simp[Lit.wf,IntKind.min,IntKind.max,IntKind.signed,IntKind.bits] at this;omega
  by_cases h0:l=0
  ·left;simp[h0]
  ·right;obtain⟨b,off,spot⟩:=x;have hc0:=hcell 0 AJ;have hs:spot=none:=by simpa[Addr.add] using World.cell?_spot hc0
   subst hs;refine⟨b,off,rfl,block_lt_of_cell (a:=(⟨b,off,none⟩:Addr).add 0) hc0,λi hi=>?_⟩;have hi':i<l:=by simp at hi;omega
   have:=hcell i AJ;rw[A0] at this;rw[this];simp[List.getD,hi']
end
theorem Zr:ownKnob tP.godebug=none:=AM
theorem KU:laidOutB tP=true:=AM
abbrev IC : List (String × DataW Unit) := [("loop.example/s02127/impl.roundConstants", Rows.laid_loop_example_s02127_impl_roundConstants)]
abbrev Q0 : List (String × DataW Unit) := [("errors.errorType", Rows.laid_errors_errorType), ("loop.example/s02127/impl.roundConstants", Rows.laid_loop_example_s02127_impl_roundConstants)]
theorem Vi:(Rows.laid_loop_example_s02127_impl_roundConstants:DataW Unit)=.agg (tab.map λn:Nat=>.lit (.int .u64 (n:Int))):=AM
theorem Vj:tab.length=88:=AM
theorem KV {W : World} (h : laidMetH tP Q0 W) : laidMet tP IC W ∧ handlesMet tP [("errors.errorType", Rows.laid_errors_errorType)] W := h
theorem Tl {W:World} (h:laidMet tP IC W):EF W:=by
 intro r hr;obtain⟨ps,⟨g,t,cs,fuel,p,q,hg,ht,hv,hd,_,_⟩,_,_⟩:=h
 obtain rfl := Bt ((show tP.globalNamed "loop.example/s02127/impl.roundConstants" = aR 1 by kernel_rfl).symm.trans hg)
 obtain rfl:=Bt ((show(tP.globals[1]?).map (·.type)=aR 210 by kernel_rfl).symm.trans ht);rw[Vi] at hd;obtain⟨xs,m,_,ex,_,hl,hel⟩:=DataW.trod_array underlying210 hd;have c5:tP.cellsOf 135=1:=AM
 have hE:=hel r hr;rw[c5,Bu,As AJ] at hE;obtain⟨z,e1,e2,_⟩:=DataW.trod_int underlying135 hE;have hlen:=Vj;have e3:(xs.map (·.1))=tab.map λn:Nat=>.lit (.int .u64 (n:Int)):=(DataW.agg.inj (Prod.mk.inj ex).1).symm
 have e4:(xs.map (·.1))[r]?=(tab.map λn:Nat=>(DataW.lit (.int .u64 (n:Int)):DataW Unit))[r]?:=by rw[e3]
 rw[B0,B0,As (by omega:r<xs.length),As (by omega:r<tab.length),e2] at e4;have hz:z=(tab.getD r 0:Nat):=by
  simp only[Option.map_some,Option.some.injEq,DataW.lit.injEq,Lit.int.injEq,true_and] at e4;rw[e4,List.getD,As (by omega:r<tab.length)];rfl
 rw[World.var?_cell hg hv r,<-hz];have:cs.toList[r]?=aR (.int .u64 z):=by
  have h0:((cs.toList.drop r).take 1)[0]?=aR (.int .u64 z):=by rw[e1];rfl
  simpa using h0
 simpa using this
theorem et : tP.globalNamed "errors.errorType" = aR 0 := by kernel_rfl
theorem rt : (tP.cutTypes.find? (·.1 == "internal/reflectlite.rtype")).map (·.2) = aR 185 := by kernel_rfl
theorem Xc:((List.range 249).filter λt=>tP.rowNamed t [101,114,114,111,114])=[113]:=AM
theorem Ys:tP.types.size=249:=AM
theorem Tm {W : World} (h : handlesMet tP [("errors.errorType", Rows.laid_errors_errorType)] W) : FM W := by
 obtain⟨name,u,ty,e1,e2,e3,e4,e5⟩:=h _ (List.mem_singleton.2 rfl);have en:name=[101,114,114,111,114]:=(Bt e1).symm;subst en;obtain rfl:=Bt (rt.symm.trans e2);have hm:ty∈(List.range 249).filter λt=>tP.rowNamed t [101,114,114,111,114]:=BS.2 ⟨BG.2 (by rw[<-Ys];exact e3),e4⟩
 rw[Xc] at hm;obtain rfl:=List.mem_singleton.1 hm;have hh:typeHandle tP 113=.pointer (aR ⟨2,113,none⟩):=AM
 rw[hh] at e5;unfold FM;simpa using World.var?_cell et e5 0
noncomputable def Zw (os:Os):World:=
 let w0:=World.holding tP os ⟨#[],#[],[]⟩
 { w0 with heap:=w0.heap.modify 0 fun
   |.cells _ t frozen=>.cells #[.iface 185 (.agg #[.pointer (aR ⟨2,113,none⟩)])] t frozen
   |o=>o }
noncomputable def Pr (os:Os):World:=(Zw os).layVars tP IC
theorem Tn (os:Os):(Pr os).os=os:=World.layVars_os _ _ _
theorem Q1 (os:Os) (args:Array Value):laidMetH tP Q0 ((Pr os).forCall (λ_ _=>0) ⟨#[],args,[]⟩).memory:=by
 refine laidMetH_of_parts (l:=Q0) ?_ AM;have e1:(IC.filter λx=>(IC.map (·.1)).contains x.1)=IC:=List.filter_eq_self.2 λx hx=>List.contains_iff_mem.2 (List.mem_map.2 ⟨x,hx,rfl⟩)
 have e2:(IC.filter λx=>!(IC.map (·.1)).contains x.1)=[]:=List.filter_eq_nil_iff.2 λx hx=>by rw[List.contains_iff_mem.2 (List.mem_map.2 ⟨x,hx,rfl⟩)];simp
 have h:laidMet tP IC (Pr os):=laidMet_layVars (w0:=Zw os) (IC.map (·.1)) [] (by rw[e1];rfl) (by rw[e1];kernel_rfl) (by rw[e1];kernel_rfl) (by rw[e2];exact LaidIn.none);exact h.of_heap (by simp[World.memory,World.forCall,Input.heap])
theorem Xd (os:Os) (started:os.Started) (H:Type) (enc:TypeId×Value->H) :
  ReturnsInHanded {} Tryz.checked os 3 .any (λw args=>(Rows.fnRulesSpec.pre enc tP Tryz.f3 Rows.fnRulesRow.domain false w args/\laidMetH tP Q0 w)/\sizedMet enc tP Tryz.f3 (OpenSpec.ofChange Rows.fnRulesSpec) false w args)
   (Rows.fnRulesSpec.post enc tP Tryz.f3 false true false false):=by
 refine returnsInHanded_of_change_and (C:=Tryz.checked) (X:=λw _=>laidMetH tP Q0 w) (λ_ _ _ hh h=>h.of_heap hh) Zr started AM func3
  (ChangeSpec.witness_shaped (enc:=enc) (C:=Tryz.checked) (os:=os) (X:=λw _=>laidMetH tP Q0 w) false (Pr os) #[.slice none 0 0,.slice none 0 0] 8 (Tn _)
   (World.shaped_of_ZipB AM AM) AM AM AM
   (Q1 os _)) ?_
 intro W base args ds gs before hval0 hW hcnd _ hL _;have hval:∀(j:Nat) t v,Tryz.f3.params[j]?=aR t->args[j]?=aR v->Value.okWide tP W .any base t v:=hval0
 have hW':=hW;obtain⟨p,q,hA0,hV,rfl,_,_⟩:=hW;have hA:DataW.TrodAll enc tP W 0 (λ_=>true) true Tryz.f3.params.toList args.toList ds p:=hA0;rw[params3] at hA hval;obtain⟨v0,vs0,d0,ds0,p0,q0,hargs,rfl,rfl,h0,r0⟩:=trodAll_cons hA;obtain⟨v1,vs1,d1,ds1,p1,q1,hargs1,rfl,rfl,h1,r1⟩:=trodAll_cons r0;obtain⟨rfl,rfl,rfl⟩:=trodAll_nil r1;obtain rfl:args=#[v0,v1]:=by cases args;simp_all
 have hV2 : DataW.TrodVars enc tP W (fun _ => true) ["loop.example/s02127/impl.roundConstants"] gs q := hV
 obtain⟨g,t,cs,fuel,d,pp,rfl,hg,ht,hv,hd,rfl⟩:=trodVars_one hV2;have k0:=h0;have k1:=h1;have lt0:∀ x∈p0,x.block<W.heap.size:=by obtain⟨m,hm⟩:=k0;exact DataW.trod_lt m _ _ _ hm
 have lt1:∀ x∈p1,x.block<W.heap.size:=by obtain⟨m,hm⟩:=k1;exact DataW.trod_lt m _ _ _ hm
 obtain⟨a0,len0,cap0,rfl⟩:=okWide_slice underlying22 (hval 0 22 v0 rfl rfl);obtain⟨a1,len1,cap1,rfl⟩:=okWide_slice underlying22 (hval 1 22 v1 rfl rfl);obtain⟨zs,hn,nN,hz,ha⟩:∃ zs:List Int,zs.length=len0/\len0<=9223372036854775807/\Cb zs/\At .u8 W a0 zs:=by
  obtain⟨fuel,hf⟩:=h0;obtain⟨a',n',c',zs,e,r1,r2,r3,r4⟩:=NQ (v:=.slice a0 len0 cap0) hf;cases e;exact⟨zs,r1,r2,r3,r4⟩
 obtain⟨ys,hm,mN,hy,hb⟩:∃ zs:List Int,zs.length=len1/\len1<=9223372036854775807/\Cb zs/\At .u8 W a1 zs:=by
  obtain⟨fuel,hf⟩:=h1;obtain⟨a',n',c',zs,e,r1,r2,r3,r4⟩:=NQ (v:=.slice a1 len1 cap1) hf;cases e;exact⟨zs,r1,r2,r3,r4⟩
 clear hA0 hval0;have hT':=Tl (KV hL).1;have hE:=Tm (KV hL).2;have hz':1<W.heap.size:=block_lt_of_cell (a:=⟨1,0,none⟩) (hT' 0 AK);refine(Qz a0 a1 len0 cap0 len1 cap1 zs ys W hn hm hz hy ha hb nN mN hT' hz' hE).mono λe W' ⟨he,bel⟩=>?_
 subst he;exact⟨_,rfl,_,_,_,[],_,_,hW',trodAll_mk1 (shut_bool underlying4 _),(trodAll_cons_mk (Below.trod KU AM (of_decide_eq_true AM) k0 bel lt0) (trodAll_cons_mk (Below.trod KU AM (of_decide_eq_true AM) k1 bel lt1) trodAll_mk0)),Below.trodVars KU bel AM hV2,bel.frame _,λh=>by cases h⟩
theorem over:Rows.FnRulesSaid:=
 OpenClaim.holds_of_wide 3 Tryz.f3 rfl rfl rfl rfl rfl rfl rfl ⟨rfl,rfl,rfl,rfl,rfl⟩ rfl rfl rfl rfl rfl AM func3 AM
  (of_decide_eq_true AM) (by unfold Func.isWrapper;first|(rw[AP (by decide +kernel)];kernel_rfl)|(rw[AQ (by decide +kernel)];exact⟨rfl,rfl⟩))
  (λos started H enc _=>Xd os started H enc)
end Go.Proofs.YtncomnkdlpoelaaGreatDoor.lrl
namespace Go.Proofs.YtncomnkdlpoelaaGreatDoor
theorem rules_holds:Rows.FnRulesCardSaid:=
 Claim7.holds_tied_plain_at .later [] [.handle, .data] true (true, "706de6aeb09270d714cb352b232dd0e5a19ee0473617fe6579b5b3fc045119d5") true
  lrl.over (λ_ h=>by cases h) AM (λ_ h=>by cases h) fnRules_row_tie rfl ⟨rfl,rfl⟩ AM rfl
  (λf fn hf hfn=>by
   obtain rfl : f = 3 := Bt ((show tP.funcNamed "loop.example/s02127/laws.FnRules" = aR 3 by kernel_rfl).symm.trans hf) |>.symm
   obtain rfl:fn=Tryz.f3:=(Bt (func3.symm.trans hfn)).symm;exact⟨AM,λj t ht=>by
    rw[params3] at ht;have hm:t∈[22,22]:=by simpa using Array.mem_of_getElem? ht
    have hall:([22,22].all λu=>!tP.wantsStandIn u)=true:=AM
    exact(show tP.wantsStandIn t=false by simpa using BM.1 hall t hm)⟩)
  AM
#print axioms rules_holds
end Go.Proofs.YtncomnkdlpoelaaGreatDoor
