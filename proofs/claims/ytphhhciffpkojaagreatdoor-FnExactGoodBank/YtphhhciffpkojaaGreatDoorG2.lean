import Derived.Test.YtphhhciffpkojaaGreatDoorP00
import Derived.Test.YtphhhciffpkojaaGreatDoorRows
import Derived.Test.YtphhhciffpkojaaGreatDoorCards
import Derived.Test.YtphhhciffpkojaaGreatDoorTie
import Derived.Test.YtphhhciffpkojaaGreatDoorP36
import Derived.Test.YtphhhciffpkojaaGreatDoorG1
import Derived.ChangeOld
import Derived.ChangeVars
import Derived.LaidMore
import Derived.Lay
import Derived.Stop.Joined
import Derived.SevenTiedAt
import Derived.WalkSmall
set_option maxRecDepth 100000
namespace Go.Proofs.YtphhhciffpkojaaGreatDoor.fnExactGoodBank
open ChangeShapes WideShapes ChangeAt RowKit Proofs.Tryz
set_option linter.unusedVariables false
theorem own:ownKnob prog.godebug=none:=by kernel_rfl
theorem laidOut:laidOutB prog=true:=by kernel_rfl
theorem lifted (os:Os)(started:os.Started)(H:Type)(enc:TypeId×Value->H) :
 ReturnsInHanded {} Tryz.checked os 3 .any (fun w args=>(Rows.fnExactGoodBankSpec.pre enc prog Tryz.f3 [] false w args/\laidMetH prog Rows.fnExactGoodBankRow.laid w)/\sizedMet enc prog Tryz.f3 (OpenSpec.ofChange Rows.fnExactGoodBankSpec) false w args)
  (Rows.fnExactGoodBankSpec.post enc prog Tryz.f3 false true false false):=by
 refine Pu (C:=Tryz.checked) (X:=fun w _=>laidMetH prog Rows.fnExactGoodBankRow.laid w) (fun _ _ _ hh h=>h.of_heap hh) own started (by kernel_rfl) func3
  (ChangeSpec.witness_shaped (enc:=enc) (C:=Tryz.checked) (os:=os) (X:=fun w _=>laidMetH prog Rows.fnExactGoodBankRow.laid w) false (World.laidAll prog os Rows.fnExactGoodBankRow.laid) #[.agg #[.slice none 0 0,.slice none 0 0,.slice none 0 0]] 8 (World.laidAll_os _ _ _)
    (World.shaped_of_ZipB (by kernel_rfl) (by kernel_rfl)) (by kernel_rfl) (by kernel_rfl) (by kernel_rfl)
    (by rw[MakeChecks.laidMetH_plain _ _ _ (by kernel_rfl)];exact laidMet_laidAll _ (by kernel_rfl) (by kernel_rfl))) ?_
 intro W base args ds gs J d hW _ _ hX U _;have I:∀ (j:Nat) t v,Tryz.f3.params[j]? = some t->args[j]? = some v->Value.okWide prog W .any base t v:=d;have K:=hW;obtain⟨p,q,E,hV,rfl,c8,d2⟩:=hW;have hA:DataW.TrodAll enc prog W 0 (fun _=>true) true Tryz.f3.params.toList args.toList ds p:=E;rw[Tryz.params3] at hA I;obtain⟨v0,d4,d0,b8,p0,q0,M,rfl,rfl,h0,r0⟩:=trodAll_cons hA;obtain⟨rfl,rfl,rfl⟩:=trodAll_nil r0;obtain rfl:args=#[v0]:=by cases args;simp_all
 obtain⟨g1,g2,g3,g4,rfl⟩:=AI hV;have k0:=h0;have Y:∀ x∈p0,x.block<W.heap.size:=by obtain⟨m,hm⟩:=k0;exact DataW.trod_lt m _ _ _ hm
 obtain⟨vs,vf,vt,S,F,T,O,G,V⟩:∃ vs vf vt S F T,v0.cells.toList=[vs,vf,vt]/\ArgBank W vs vf vt S F T/\BD T:=by
  obtain⟨Z,hf⟩:=h0;exact FO hf
 obtain rfl:v0=.agg #[vs,vf,vt]:=RH O;have hx:=hX;rw[MakeChecks.laidMetH_plain _ _ _ (by kernel_rfl)] at hx;have A:=LF hx (UJ U);clear E d;refine (SA W G V A).mono fun e W' ⟨he,bel⟩=>?_;subst he;exact⟨_,rfl,_,_,_,_,_,_,K,trodAll_mk1 (shut_bool underlying4 _),(trodAll_cons_mk (Below.trod laidOut (by kernel_rfl) (of_decide_eq_true (by kernel_rfl)) k0 bel Y) trodAll_mk0),Rg laidOut bel (by kernel_rfl) hV,bel.frame _,fun h=>by cases h⟩
end Go.Proofs.YtphhhciffpkojaaGreatDoor.fnExactGoodBank
