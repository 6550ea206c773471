import Derived.Test.YtglbanolhhjjiaaGreatDoorCards
import Derived.Test.YtglbanolhhjjiaaGreatDoorTie
import Derived.Test.YtglbanolhhjjiaaGreatDoorFo52
namespace Go.Proofs.YtglbanolhhjjiaaGreatDoor.fnOpen
open Go.ChangeShapes Go.WideShapes Go.ChangeAt Go.RowKit
set_option linter.unusedVariables false
set_option maxRecDepth 100000
set_option maxHeartbeats 32000000
theorem own:ownKnob Tryz.prog.godebug=none:=vk
theorem laidOut:laidOutB Tryz.prog=true:=vk
theorem lifted(os:Os)(started:os.Started)(H:Type)(enc:TypeId×Value->H):
 ReturnsInHanded {} Tryz.checked os 6 .any (fun w args=>(Rows.fnOpenSpec.pre enc Tryz.prog Tryz.f6 [] false w args/\laidMetH Tryz.prog Rows.fnOpenRow.laid w)/\sizedMet enc Tryz.prog Tryz.f6 (OpenSpec.ofChange Rows.fnOpenSpec) false w args)
  (Rows.fnOpenSpec.post enc Tryz.prog Tryz.f6 false true false false):=by
 refine returnsInHanded_of_change_and (C:=Tryz.checked) (X:=fun w _=>laidMetH Tryz.prog Rows.fnOpenRow.laid w) (fun _ _ _ hh h=>h.of_heap hh) own started vk Tryz.func6
  (ChangeSpec.witness_at (enc:=enc) (C:=Tryz.checked) (os:=os) (X:=fun w _=>laidMetH Tryz.prog Rows.fnOpenRow.laid w) false (vG os) #[.slice none 0 0] 8 rfl vk vk vk vk vk (Dz os _)) ?_
 intro W base args ds gs before hval0 hW _ _ hL _;have hval:∀(j:Nat) t v,Tryz.f6.params[j]?=some t->args[j]?=some v->Value.okWide Tryz.prog W .any base t v:=hval0;have hW':=hW;obtain⟨p,q,hA0,hV0,rfl,hfz,hnd⟩:=hW;have hA:DataW.TrodAll enc Tryz.prog W 0 (fun _=>true) true Tryz.f6.params.toList args.toList ds p:=hA0;have hV:DataW.TrodVars enc Tryz.prog W (fun _=>true) ["loop.example/s01906/impl.errWrongBytes","loop.example/s01906/impl.errNoPage"] gs q:=hV0;rw[Tryz.params6]at hA hval;obtain⟨v0,vs0,d0,ds0,p0,q0,hargs,rfl,rfl,h0,r0⟩:=trodAll_cons hA;obtain⟨rfl,rfl,rfl⟩:=trodAll_nil r0;obtain rfl:args=#[v0]:=by cases args;simp_all
 obtain⟨eN,eW,hvN,hvB,hE⟩:=Dy hL;obtain⟨rfl,rfl⟩:=hV.unique (vars_read2 enc nV qS Tryz.underlying142 hvB trivial nW qT Tryz.underlying142 hvN trivial _);have k0:=h0;have lt0:∀x∈p0,x.block<W.1.size:=by obtain⟨m,hm⟩:=k0;exact DataW.trod_lt m _ _ _ hm
 obtain⟨a0,n0,c0,rfl⟩:=okWide_slice Tryz.underlying56 (hval 0 56 v0 rfl rfl);obtain⟨l0,hb0⟩:∃l,Bs W a0 n0 c0 l:=by
  obtain⟨m,hm⟩:=h0;obtain⟨y,e,hb⟩:=Cj (v:= .slice a0 n0 c0) (by simpa [Value.cells]using hm);simp at e;obtain⟨rfl,rfl,rfl⟩:=e;exact⟨_,hb⟩
 clear hA0 hV0 hval0;refine(IV eN eW a0 n0 c0 l0 W hb0 hE).mono fun e W'⟨he,bel⟩=> ?_;subst he;exact⟨_,rfl,_,_,_,[],_,_,hW',trodAll_mk1 (shut_bool Tryz.underlying4 _),(trodAll_cons_mk (Below.trod laidOut vk (C3 vk) k0 bel lt0) trodAll_mk0),vars_read2 enc nV qS Tryz.underlying142 (vF hvB bel) trivial nW qT Tryz.underlying142 (vF hvN bel) trivial _,bel.frame _,fun h=>by cases h⟩
theorem said:Rows.FnOpenSaid:=
 OpenClaim.holds_of_wide 6 Tryz.f6 rfl rfl rfl rfl rfl rfl rfl ⟨rfl,rfl,rfl,rfl,rfl⟩ rfl rfl rfl rfl rfl vk Tryz.func6 vk
  (C3 vk) (by unfold Func.isWrapper;first|(rw[B4 (by decide+kernel)];kernel_rfl)|(rw[CH (by decide+kernel)];exact⟨rfl,rfl⟩))
  (fun os started H enc _=>lifted os started H enc)
theorem plain(f:FuncId)(fn:Func)(hf:Tryz.pinned.checked.prog.funcNamed "loop.example/s01906/laws.FnOpen" =some f)(hfn:Tryz.pinned.checked.prog.funcs[f]?=some fn):
 true=Tryz.pinned.checked.prog.looks []/\∀(j:Nat) t,fn.params[j]?=some t->Tryz.pinned.checked.prog.wantsStandIn t=false:=by
 obtain rfl:f=6:=Option.some.inj ((show Tryz.prog.funcNamed "loop.example/s01906/laws.FnOpen" =some 6 by kernel_rfl).symm.trans hf)|>.symm;obtain rfl:fn=Tryz.f6:=(Option.some.inj (Tryz.func6.symm.trans hfn)).symm;refine⟨vk,fun j t ht=> ?_⟩;rw[Tryz.params6]at ht;have hm:=Array.mem_of_getElem? ht;simp at hm;subst hm;exact(show Tryz.prog.wantsStandIn 56=false by kernel_rfl)
theorem proved:Rows.FnOpenCardSaid:=
 Claim7.holds_tied_plain_at .later [] _ _ _ _ said (fun _ h=>by cases h) vk (fun _ h=>by cases h) fnOpen_row_tie rfl ⟨rfl,rfl⟩ vk rfl plain vk
