import Derived.Test.YtjjgilacnocigaaGreatDoorCards
import Derived.Test.YtjjgilacnocigaaGreatDoorTie
import Derived.Test.YtjjgilacnocigaaGreatDoorP41
import Derived.Test.YtjjgilacnocigaaGreatDoorP42
set_option maxRecDepth 100000
namespace Go.Proofs.YtjjgilacnocigaaGreatDoor.fnArrays
open ChangeShapes WideShapes ChangeAt RowKit Proofs.Tryz
set_option linter.unusedVariables false
theorem own:ownKnob prog.godebug=none:=by kernel_rfl
theorem laidOut:laidOutB prog=true:=by kernel_rfl
theorem lifted (os:Os)(started:os.Started)(H:Type)(enc:TypeId×Value->H) :
 ReturnsInHanded {} Tryz.checked os 3 .any (fun w args=>(Rows.fnArraysSpec.pre enc prog Tryz.f3 [] false w args/\laidMetH prog Rows.fnArraysRow.laid w)/\sizedMet enc prog Tryz.f3 (OpenSpec.ofChange Rows.fnArraysSpec) false w args)
  (Rows.fnArraysSpec.post enc prog Tryz.f3 false true false false):=by
 refine P8 (C:=Tryz.checked) (X:=fun w _=>laidMetH prog Rows.fnArraysRow.laid w) (fun _ _ _ hh h=>h.of_heap hh) own started (by kernel_rfl) func3
  (ChangeSpec.witness_shaped (enc:=enc) (C:=Tryz.checked) (os:=os) (X:=fun w _=>laidMetH prog Rows.fnArraysRow.laid w) false (World.laidAll prog os Rows.fnArraysRow.laid) #[.slice none 0 0,.slice none 0 0] 8 (World.laidAll_os _ _ _)
    (World.shaped_of_ZipB (by kernel_rfl) (by kernel_rfl)) (by kernel_rfl) (by kernel_rfl) (by kernel_rfl)
    (by rw[MakeChecks.laidMetH_plain _ _ _ (by kernel_rfl)];exact laidMet_laidAll _ (by kernel_rfl) (by kernel_rfl))) ?_
 intro W base args ds gs O D hW _ _ hX V _;have d:∀ (j:Nat) t v,Tryz.f3.params[j]? = some t->args[j]? = some v->Value.okWide prog W .any base t v:=D;have T:=hW;obtain⟨p,q,I,hV,rfl,d2,d3⟩:=hW;have hA:DataW.TrodAll enc prog W 0 (fun _=>true) true Tryz.f3.params.toList args.toList ds p:=I;rw[Tryz.params3] at hA d;obtain⟨v0,d6,d0,c6,p0,q0,U,rfl,rfl,h0,r0⟩:=trodAll_cons hA;obtain⟨v1,d7,d1,c7,p1,q1,rfl,rfl,rfl,h1,r1⟩:=trodAll_cons r0;obtain⟨rfl,rfl,rfl⟩:=trodAll_nil r1;obtain rfl:args=#[v0,v1]:=by cases args;simp_all
 obtain⟨g1,g2,g3,rfl⟩:=JI hV;have k0:=h0;have k1:=h1;have Y:∀ x∈p0,x.block<W.heap.size:=by obtain⟨m,hm⟩:=k0;exact DataW.trod_lt m _ _ _ hm
 have Z:∀ x∈p1,x.block<W.heap.size:=by obtain⟨m,hm⟩:=k1;exact DataW.trod_lt m _ _ _ hm
 obtain⟨a0,J,F,rfl⟩:=okWide_slice underlying22 (d 0 22 v0 rfl rfl);obtain⟨a1,K,G,rfl⟩:=okWide_slice underlying22 (d 1 22 v1 rfl rfl);have w0:=OD h0;have w1:=OD h1;have hx:=hX;rw[MakeChecks.laidMetH_plain _ _ _ (by kernel_rfl)] at hx;have E:=NP hx (EE V);clear I D;refine (MW a0 a1 J F K G W w0 w1 E).mono fun e W' ⟨he,bel⟩=>?_;subst he;exact⟨_,rfl,_,_,_,_,_,_,T,trodAll_mk1 (shut_bool underlying4 _),(trodAll_cons_mk (Below.trod laidOut (by kernel_rfl) (of_decide_eq_true (by kernel_rfl)) k0 bel Y) (trodAll_cons_mk (Below.trod laidOut (by kernel_rfl) (of_decide_eq_true (by kernel_rfl)) k1 bel Z) trodAll_mk0)),R2 laidOut bel (by kernel_rfl) hV,bel.frame _,fun h=>by cases h⟩
theorem over:Rows.fnArraysRow.holds Tryz.pinned (OpenSpec.ofChange Rows.fnArraysSpec):=
 OpenClaim.holds_of_wide 3 Tryz.f3 rfl rfl rfl rfl rfl rfl rfl ⟨rfl,rfl,rfl,rfl,rfl⟩ rfl rfl rfl rfl rfl (by kernel_rfl) func3 closedFact
  (of_decide_eq_true (by kernel_rfl)) (by unfold Func.isWrapper;first|(rw[if_pos (by decide +kernel)];kernel_rfl)|(rw[if_neg (by decide +kernel)];exact⟨rfl,rfl⟩))
  (fun os started H enc _=>lifted os started H enc)
theorem plain (f:FuncId)(fn:Func)(hf:Tryz.pinned.checked.prog.funcNamed "loop.example/g00007/laws.FnArrays" = some f)(hfn:Tryz.pinned.checked.prog.funcs[f]? = some fn) :
 true=Tryz.pinned.checked.prog.looks []/\∀ (j:Nat) t,fn.params[j]? = some t->Tryz.pinned.checked.prog.wantsStandIn t=false:=by
 obtain rfl:f=3:=Option.some.inj ((show prog.funcNamed "loop.example/g00007/laws.FnArrays" = some 3 by kernel_rfl).symm.trans hf) |>.symm;obtain rfl:fn=Tryz.f3:=(Option.some.inj (func3.symm.trans hfn)).symm;refine⟨looksFact,fun j t ht=>?_⟩;rw[Tryz.params3] at ht;obtain rfl:t=22:=by simpa using Array.mem_of_getElem? ht
 exact (show prog.wantsStandIn 22=false by kernel_rfl)
end Go.Proofs.YtjjgilacnocigaaGreatDoor.fnArrays
namespace Go.Proofs.YtjjgilacnocigaaGreatDoor
theorem fnArrays_holds:Rows.FnArraysCardSaid:=
 Claim7.holds_tied_plain_at .later [] _ _ _ _ fnArrays.over (fun _ h=>by cases h) (by kernel_rfl) (fun _ h=>by cases h) fnArrays_row_tie rfl ⟨rfl,rfl⟩ (by kernel_rfl) rfl fnArrays.plain (by kernel_rfl)
#print axioms fnArrays_holds
end Go.Proofs.YtjjgilacnocigaaGreatDoor
