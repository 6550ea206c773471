import Derived.Test.YtnohmedccbogkaaGreatDoorTie
import Derived.Test.YtnohmedccbogkaaGreatDoorCo50
import Derived.Test.YtnohmedccbogkaaGreatDoorCo51
import Derived.Test.YtnohmedccbogkaaGreatDoorCo5
namespace Go.Proofs.YtnohmedccbogkaaGreatDoor.fnExactConnect
open Go.ChangeShapes Go.WideShapes Go.ChangeAt Go.RowKit
set_option linter.unusedVariables false
set_option maxRecDepth 100000
set_option maxHeartbeats 32000000
theorem own:ownKnob Tryz.prog.godebug=none:=kO
theorem laidOut:laidOutB Tryz.prog=true:=kO
theorem lifted(os:Os)(started:os.Started)(H:Type)(enc:TypeId×Value->H):
 ReturnsInHanded {} Tryz.checked os 7 .any (fun w args=>(Rows.fnExactConnectSpec.pre enc Tryz.prog Tryz.f7 [] false w args/\laidMetH Tryz.prog Rows.fnExactConnectRow.laid w)/\sizedMet enc Tryz.prog Tryz.f7 (OpenSpec.ofChange Rows.fnExactConnectSpec) false w args)
  (Rows.fnExactConnectSpec.post enc Tryz.prog Tryz.f7 false true false false):=by
 refine returnsInHanded_of_change_and (C:=Tryz.checked) (X:=fun w _=>laidMetH Tryz.prog Rows.fnExactConnectRow.laid w) (fun _ _ _ hh h=>h.of_heap hh) own started kO Tryz.func7
  (ChangeSpec.witness_at (enc:=enc) (C:=Tryz.checked) (os:=os) (X:=fun w _=>laidMetH Tryz.prog Rows.fnExactConnectRow.laid w) false (yZ os) #[.agg #[.slice none 0 0,.slice none 0 0,.int .i64 0,.int .i64 0,.int .i64 0,.int .i64 0],.slice none 0 0] 8 rfl kO kO kO kO kO (Jp os _)) ?_
 intro W base args ds gs before hval0 hW _ _ hL _;have hval:∀(j:Nat) t v,Tryz.f7.params[j]?=some t->args[j]?=some v->Value.okWide Tryz.prog W .any base t v:=hval0;have hW':=hW;obtain⟨p,q,hA0,hV0,rfl,hfz,hnd⟩:=hW;have hA:DataW.TrodAll enc Tryz.prog W 0 (fun _=>true) true Tryz.f7.params.toList args.toList ds p:=hA0;have hV:DataW.TrodVars enc Tryz.prog W (fun _=>true) (["loop.example/s01906/impl.startWords","loop.example/s01906/impl.roundWords"]++["loop.example/s01906/impl.errNoPage","loop.example/s01906/impl.errWrongBytes"]) gs q:=hV0;rw[Tryz.params7]at hA hval;obtain⟨v0,vs0,d0,ds0,p0,q0,hargs,rfl,rfl,h0,r0⟩:=trodAll_cons hA;obtain⟨v1,vs1,d1,ds1,p1,q1,rfl,rfl,rfl,h1,r1⟩:=trodAll_cons r0;obtain⟨rfl,rfl,rfl⟩:=trodAll_nil r1;obtain rfl:args=#[v0,v1]:=by cases args;simp_all
 obtain⟨eN,eW,hvN,hvB,hE⟩:=Jn hL;have hT:=Jo hL;obtain⟨gs1,gs2,ps1,ps2,rfl,rfl,hV1,hV2⟩:=yY _ _ _ hV;obtain⟨g1,g2,rfl⟩:=FD hV1;obtain⟨rfl,rfl⟩:=hV2.unique (vars_read2 enc pO tA Tryz.underlying223 hvN trivial pM tz Tryz.underlying223 hvB trivial _);have k0:=h0;have lt0:∀x∈p0,x.block<W.1.size:=by obtain⟨m,hm⟩:=k0;exact DataW.trod_lt m _ _ _ hm
 obtain⟨dv0,K0,gn0,rt0,us0,fe0,rfl,hd0⟩:=G4 (hval 0 29 v0 rfl rfl) h0;have k1:=h1;have lt1:∀x∈p1,x.block<W.1.size:=by obtain⟨m,hm⟩:=k1;exact DataW.trod_lt m _ _ _ hm
 obtain⟨a1,n1,c1,rfl⟩:=okWide_slice rC (hval 1 70 v1 rfl rfl);obtain⟨l1,hb1⟩:∃l,Bs W a1 n1 c1 l:=by
  obtain⟨m,hm⟩:=h1;obtain⟨y,e,hb⟩:=su (v:= .slice a1 n1 c1) (by simpa [Value.cells]using hm);simp at e;obtain⟨rfl,rfl,rfl⟩:=e;exact⟨_,hb⟩
 clear hA0 hV0 hval0;refine(MW eN eW dv0 K0 gn0 rt0 us0 fe0 a1 n1 c1 l1 W hd0 hE hT hb1).mono fun e W'⟨he,bel⟩=> ?_;subst he;exact⟨_,rfl,_,_,_,[],_,_,hW',trodAll_mk1 (shut_bool Tryz.underlying4 _),(trodAll_cons_mk (Below.trod laidOut kO (r6 kO) k0 bel lt0) (trodAll_cons_mk (Below.trod laidOut kO (r6 kO) k1 bel lt1) trodAll_mk0)),yX (vars_read2 enc pO tA Tryz.underlying223 (yW hvN bel) trivial pM tz Tryz.underlying223 (yW hvB bel) trivial _) _ _ _ (Below.trodVars laidOut bel FB hV1),bel.frame _,fun h=>by cases h⟩
theorem said:Rows.FnExactConnectSaid:=
 OpenClaim.holds_of_wide 7 Tryz.f7 rfl rfl rfl rfl rfl rfl rfl ⟨rfl,rfl,rfl,rfl,rfl⟩ rfl rfl rfl rfl rfl kO Tryz.func7 MZ
  (r6 kO) (by unfold Func.isWrapper;first|(rw[qb (by decide+kernel)];kernel_rfl)|(rw[q4 (by decide+kernel)];exact⟨rfl,rfl⟩))
  (fun os started H enc _=>lifted os started H enc)
theorem plain(f:FuncId)(fn:Func)(hf:Tryz.pinned.checked.prog.funcNamed "loop.example/s01906/laws.FnExactConnect" =some f)(hfn:Tryz.pinned.checked.prog.funcs[f]?=some fn):
 true=Tryz.pinned.checked.prog.looks []/\∀(j:Nat) t,fn.params[j]?=some t->Tryz.pinned.checked.prog.wantsStandIn t=false:=by
 obtain rfl:f=7:=sv ((show Tryz.prog.funcNamed "loop.example/s01906/laws.FnExactConnect" =some 7 by kernel_rfl).symm.trans hf)|>.symm;obtain rfl:fn=Tryz.f7:=(sv (Tryz.func7.symm.trans hfn)).symm;refine⟨kO,fun j t ht=> ?_⟩;rw[Tryz.params7]at ht;have hm:=Array.mem_of_getElem? ht;simp at hm;rcases hm with rfl|rfl
 ·exact(show Tryz.prog.wantsStandIn 29=false by kernel_rfl)
 ·exact(show Tryz.prog.wantsStandIn 70=false by kernel_rfl)
theorem proved:Rows.FnExactConnectCardSaid:=
 Claim7.holds_tied_plain_at .later [] _ _ _ _ said (fun _ h=>by cases h) kO (fun _ h=>by cases h) fnExactConnect_row_tie rfl ⟨rfl,rfl⟩ kO rfl plain kO
