import Derived.Test.YtfkagjelljnpdaaGreatDoorP49
import Derived.Test.YtfkagjelljnpdaaGreatDoorP50
import Derived.Test.YtfkagjelljnpdaaGreatDoorCards
import Derived.Test.YtfkagjelljnpdaaGreatDoorTie
import Derived.ChangeOld
set_option linter.all false
set_option maxRecDepth 100000
namespace Go.Proofs.YtfkagjelljnpdaaGreatDoor.fnClasses
open ChangeShapes WideShapes ChangeAt RowKit Proofs.Tryz
set_option linter.unusedVariables false
theorem own:ownKnob prog.godebug=none:=by kernel_rfl
theorem laidOut:laidOutB prog=true:=by kernel_rfl
theorem lifted(os:Os)(started:os.Started)(H:Type)(enc:TypeId×Value->H) :
 ReturnsInHanded {} Tryz.checked os 3 .any (fun w args=>(Rows.fnClassesSpec.pre enc prog Tryz.f3 [] false w args/\laidMetH prog Rows.fnClassesRow.laid w)/\sizedMet enc prog Tryz.f3 (OpenSpec.ofChange Rows.fnClassesSpec) false w args)
  (Rows.fnClassesSpec.post enc prog Tryz.f3 false true false false):=by
 refine Qb (C:=Tryz.checked) (X:=fun w _=>laidMetH prog Rows.fnClassesRow.laid w) (fun _ _ _ hh h=>h.of_heap hh) own started (by kernel_rfl) func3
  (ChangeSpec.witness_shaped (enc:=enc) (C:=Tryz.checked) (os:=os) (X:=fun w _=>laidMetH prog Rows.fnClassesRow.laid w) false (World.laidAll prog os Rows.fnClassesRow.laid) #[.slice none 0 0,.slice none 0 0] 8 (World.laidAll_os _ _ _)
    (World.shaped_of_ZipB (by kernel_rfl) (by kernel_rfl)) (by kernel_rfl) (by kernel_rfl) (by kernel_rfl)
    (by rw[MakeChecks.laidMetH_plain _ _ _ (by kernel_rfl)];exact laidMet_laidAll _ (by kernel_rfl) (by kernel_rfl))) ?_
 intro W base args ds gs V G hW _ _ hX a7 _;have E:∀(j:Nat) t v,Tryz.f3.params[j]? = some t->args[j]? = some v->Value.okWide prog W .any base t v:=G;have Y:=hW;obtain⟨p,q,R,hV,rfl,d3,d4⟩:=hW;have hA:DataW.TrodAll enc prog W 0 (fun _=>true) true Tryz.f3.params.toList args.toList ds p:=R;rw[Tryz.params3]at hA E;obtain⟨v0,d7,d0,c6,p0,q0,Z,rfl,rfl,h0,r0⟩:=trodAll_cons hA;obtain⟨v1,d8,d1,c8,p1,q1,rfl,rfl,rfl,h1,r1⟩:=trodAll_cons r0;obtain⟨rfl,rfl,rfl⟩:=trodAll_nil r1;obtain rfl:args=#[v0,v1]:=by cases args;simp_all
 obtain⟨g1,g2,g3,g4,rfl⟩:=MP hV;have k0:=h0;have k1:=h1;have a8:∀x∈p0,x.block<W.heap.size:=by obtain⟨m,hm⟩:=k0;exact DataW.trod_lt m _ _ _ hm
 have b0:∀x∈p1,x.block<W.heap.size:=by obtain⟨m,hm⟩:=k1;exact DataW.trod_lt m _ _ _ hm
 obtain⟨a0,len0,K,rfl⟩:=okWide_slice underlying22 (E 0 22 v0 rfl rfl);obtain⟨a1,len1,O,rfl⟩:=okWide_slice underlying22 (E 1 22 v1 rfl rfl);have w0:=Sz h0;have w1:=Sz h1;have hx:=hX;rw[MakeChecks.laidMetH_plain _ _ _ (by kernel_rfl)]at hx;have J:=CD hx (ZO a7);clear R G;refine(DX a0 a1 len0 K len1 O W w0 w1 J).mono fun e W' ⟨he,bel⟩=>?_;subst he;exact⟨_,rfl,_,_,_,_,_,_,Y,trodAll_mk1 (shut_bool underlying4 _),(trodAll_cons_mk (Below.trod laidOut (by kernel_rfl) (of_decide_eq_true (by kernel_rfl)) k0 bel a8) (trodAll_cons_mk (Below.trod laidOut (by kernel_rfl) (of_decide_eq_true (by kernel_rfl)) k1 bel b0) trodAll_mk0)),X4 laidOut bel (by kernel_rfl) hV,bel.frame _,fun h=>by cases h⟩
theorem over:Rows.fnClassesRow.holds Tryz.pinned (OpenSpec.ofChange Rows.fnClassesSpec):=
 OpenClaim.holds_of_wide 3 Tryz.f3 rfl rfl rfl rfl rfl rfl rfl ⟨rfl,rfl,rfl,rfl,rfl⟩ rfl rfl rfl rfl rfl (by kernel_rfl) func3 closedFact
  (of_decide_eq_true (by kernel_rfl)) (by unfold Func.isWrapper;first|(rw[if_pos (by decide +kernel)];kernel_rfl)|(rw[if_neg (by decide +kernel)];exact⟨rfl,rfl⟩))
  (fun os started H enc _=>lifted os started H enc)
theorem plain (f:FuncId)(fn:Func)(hf:Tryz.pinned.checked.prog.funcNamed "loop.example/g00007/laws.FnClasses" = some f)(hfn:Tryz.pinned.checked.prog.funcs[f]? = some fn) :
 true=Tryz.pinned.checked.prog.looks []/\∀(j:Nat) t,fn.params[j]? = some t->Tryz.pinned.checked.prog.wantsStandIn t=false:=by
 obtain rfl:f=3:=Option.some.inj ((show prog.funcNamed "loop.example/g00007/laws.FnClasses" = some 3 by kernel_rfl).symm.trans hf) |>.symm;obtain rfl:fn=Tryz.f3:=(Option.some.inj (func3.symm.trans hfn)).symm;refine⟨looksFact,fun j t ht=>?_⟩;rw[Tryz.params3]at ht;obtain rfl:t=22:=by simpa using Array.mem_of_getElem? ht
 exact(show prog.wantsStandIn 22=false by kernel_rfl)
end Go.Proofs.YtfkagjelljnpdaaGreatDoor.fnClasses
namespace Go.Proofs.YtfkagjelljnpdaaGreatDoor
theorem fnClasses_holds:Rows.FnClassesCardSaid:=
 Claim7.holds_tied_plain_at .later [] _ _ _ _ fnClasses.over (fun _ h=>by cases h) (by kernel_rfl) (fun _ h=>by cases h) fnClasses_row_tie rfl ⟨rfl,rfl⟩ (by kernel_rfl) rfl fnClasses.plain (by kernel_rfl)
#print axioms fnClasses_holds
end Go.Proofs.YtfkagjelljnpdaaGreatDoor
