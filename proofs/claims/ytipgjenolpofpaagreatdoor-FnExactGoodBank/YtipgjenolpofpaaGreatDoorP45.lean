import Derived.Test.YtipgjenolpofpaaGreatDoorCards
import Derived.Test.YtipgjenolpofpaaGreatDoorTie
import Derived.Test.YtipgjenolpofpaaGreatDoorP44
import Derived.ChangeOld
import Derived.SevenTiedAt
set_option maxRecDepth 100000
namespace Go.Proofs.YtipgjenolpofpaaGreatDoor.fnExactGoodBank
open Go.ChangeShapes Go.WideShapes Go.ChangeAt Go.RowKit Go.Proofs.Tryz
set_option linter.unusedVariables false
theorem own:ownKnob prog.godebug=none:=by kernel_rfl
theorem laidOut:laidOutB prog=true:=by kernel_rfl
theorem lifted (os:Os)(started:os.Started)(H:Type)(enc:TypeId×Value->H) :
 ReturnsInHanded {} Tryz.checked os 3 .any (fun w args=>(Rows.fnExactGoodBankSpec.pre enc prog Tryz.f3 [] false w args/\laidMetH prog Rows.fnExactGoodBankRow.laid w)/\sizedMet enc prog Tryz.f3 (OpenSpec.ofChange Rows.fnExactGoodBankSpec) false w args)
  (Rows.fnExactGoodBankSpec.post enc prog Tryz.f3 false true false false):=by
 refine Rh (C:=Tryz.checked) (X:=fun w _=>laidMetH prog Rows.fnExactGoodBankRow.laid w) (fun _ _ _ hh h=>h.of_heap hh) own started (by kernel_rfl) func3
  (ChangeSpec.witness_shaped (enc:=enc) (C:=Tryz.checked) (os:=os) (X:=fun w _=>laidMetH prog Rows.fnExactGoodBankRow.laid w) false (World.laidAll prog os Rows.fnExactGoodBankRow.laid) #[.agg #[.slice none 0 0,.slice none 0 0,.slice none 0 0]] 8 (World.laidAll_os _ _ _)
    (World.shaped_of_ZipB (by kernel_rfl) (by kernel_rfl)) (by kernel_rfl) (by kernel_rfl) (by kernel_rfl)
    (by rw[MakeChecks.laidMetH_plain _ _ _ (by kernel_rfl)];exact laidMet_laidAll _ (by kernel_rfl) (by kernel_rfl))) ?_
 intro W base args ds gs J d hW _ _ hX U _;have I:∀ (j:Nat) t v,Tryz.f3.params[j]? = some t->args[j]? = some v->Value.okWide prog W .any base t v:=d;have K:=hW;obtain⟨p,q,G,hV,rfl,c8,d4⟩:=hW;have hA:DataW.TrodAll enc prog W 0 (fun _=>true) true Tryz.f3.params.toList args.toList ds p:=G;rw[Tryz.params3] at hA I;obtain⟨v0,d2,d0,d1,p0,q0,Y,rfl,rfl,h0,r0⟩:=trodAll_cons hA;obtain⟨rfl,rfl,rfl⟩:=trodAll_nil r0;obtain rfl:args=#[v0]:=by cases args;simp_all
 obtain⟨g1,g2,g3,g4,rfl⟩:=FM hV;have k0:=h0;have V:∀ x∈p0,x.block<W.heap.size:=by obtain⟨m,hm⟩:=k0;exact DataW.trod_lt m _ _ _ hm
 obtain⟨vs,vf,vt,S,F,T,O,E,M⟩:∃ vs vf vt S F T,v0.cells.toList=[vs,vf,vt]/\ArgBank W vs vf vt S F T/\FU T:=by
  obtain⟨b4,hf⟩:=h0;exact PA hf
 obtain rfl:v0=.agg #[vs,vf,vt]:=CH O;have Z:=hX;rw[MakeChecks.laidMetH_plain _ _ _ (by kernel_rfl)] at Z;have A:=DO Z (VR U);clear G d;refine (A0 W E M A).mono fun e W' ⟨he,bel⟩=>?_;subst he;exact⟨_,rfl,_,_,_,_,_,_,K,trodAll_mk1 (shut_bool underlying4 _),(trodAll_cons_mk (Below.trod laidOut (by kernel_rfl) (of_decide_eq_true (by kernel_rfl)) k0 bel V) trodAll_mk0),Qo laidOut bel (by kernel_rfl) hV,bel.frame _,fun h=>by cases h⟩
end Go.Proofs.YtipgjenolpofpaaGreatDoor.fnExactGoodBank
