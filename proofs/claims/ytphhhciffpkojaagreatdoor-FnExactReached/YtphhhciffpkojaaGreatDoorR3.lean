import Derived.Test.YtphhhciffpkojaaGreatDoorP00
import Derived.Test.YtphhhciffpkojaaGreatDoorRows
import Derived.Test.YtphhhciffpkojaaGreatDoorCards
import Derived.Test.YtphhhciffpkojaaGreatDoorTie
import Derived.Test.YtphhhciffpkojaaGreatDoorP36
import Derived.Test.YtphhhciffpkojaaGreatDoorR2
import Derived.ChangeOld
import Derived.ChangeVars
import Derived.LaidMore
import Derived.Lay
import Derived.Stop.Joined
import Derived.SevenTiedAt
import Derived.WalkSmall
set_option maxRecDepth 100000
namespace Go.Proofs.YtphhhciffpkojaaGreatDoor.fnExactReached
open ChangeShapes WideShapes ChangeAt RowKit Proofs.Tryz
set_option linter.unusedVariables false
theorem own:ownKnob prog.godebug=none:=by kernel_rfl
theorem laidOut:laidOutB prog=true:=by kernel_rfl
theorem lifted (os:Os)(started:os.Started)(H:Type)(enc:TypeId×Value->H) :
 ReturnsInHanded {} Tryz.checked os 7 .any (fun w args=>(Rows.fnExactReachedSpec.pre enc prog Tryz.f7 [] false w args/\laidMetH prog Rows.fnExactReachedRow.laid w)/\sizedMet enc prog Tryz.f7 (OpenSpec.ofChange Rows.fnExactReachedSpec) false w args)
  (Rows.fnExactReachedSpec.post enc prog Tryz.f7 false true false false):=by
 refine Pu (C:=Tryz.checked) (X:=fun w _=>laidMetH prog Rows.fnExactReachedRow.laid w) (fun _ _ _ hh h=>h.of_heap hh) own started (by kernel_rfl) func7
  (ChangeSpec.witness_shaped (enc:=enc) (C:=Tryz.checked) (os:=os) (X:=fun w _=>laidMetH prog Rows.fnExactReachedRow.laid w) false (World.laidAll prog os Rows.fnExactReachedRow.laid) #[.agg #[.slice none 0 0,.slice none 0 0,.slice none 0 0],.slice none 0 0] 8 (World.laidAll_os _ _ _)
    (World.shaped_of_ZipB (by kernel_rfl) (by kernel_rfl)) (by kernel_rfl) (by kernel_rfl) (by kernel_rfl)
    (by rw[MakeChecks.laidMetH_plain _ _ _ (by kernel_rfl)];exact laidMet_laidAll _ (by kernel_rfl) (by kernel_rfl))) ?_
 intro W base args ds gs O d hW _ _ hX a8 _;have A:∀ (j:Nat) t v,Tryz.f7.params[j]? = some t->args[j]? = some v->Value.okWide prog W .any base t v:=d;have U:=hW;obtain⟨p,q,K,hV,rfl,d9,e0⟩:=hW;have hA:DataW.TrodAll enc prog W 0 (fun _=>true) true Tryz.f7.params.toList args.toList ds p:=K;rw[Tryz.params7] at hA A;obtain⟨v0,e4,d0,d6,p0,q0,V,rfl,rfl,h0,r0⟩:=trodAll_cons hA;obtain⟨v1,e5,d1,d7,p1,q1,rfl,rfl,rfl,h1,r1⟩:=trodAll_cons r0;obtain⟨rfl,rfl,rfl⟩:=trodAll_nil r1;obtain rfl:args=#[v0,v1]:=by cases args;simp_all
 obtain⟨a1,BJ,I,rfl⟩:=okWide_slice underlying52 (A 1 52 v1 rfl rfl);obtain⟨g1,g2,g3,g4,rfl⟩:=AI hV;have k0:=h0;have b4:∀ x∈p0,x.block<W.heap.size:=by obtain⟨m,hm⟩:=k0;exact DataW.trod_lt m _ _ _ hm
 have k1:=h1;have b5:∀ x∈p1,x.block<W.heap.size:=by obtain⟨m,hm⟩:=k1;exact DataW.trod_lt m _ _ _ hm
 obtain⟨R,E⟩:∃ R,G2 W (.slice a1 BJ I) R:=by
  obtain⟨J,Z⟩:=h1;exact FC (by simpa[Value.cells] using Z)
 obtain⟨vs,vf,vt,S,F,T,Y,M,b3⟩:∃ vs vf vt S F T,v0.cells.toList=[vs,vf,vt]/\ArgBank W vs vf vt S F T/\BD T:=by
  obtain⟨J,Z⟩:=h0;exact FO Z
 obtain rfl:v0=.agg #[vs,vf,vt]:=RH Y;have hx:=hX;rw[MakeChecks.laidMetH_plain _ _ _ (by kernel_rfl)] at hx;have G:=LF hx (UJ a8);clear K d;refine (WO W M E b3 G).mono fun e W' ⟨he,bel⟩=>?_;subst he;exact⟨_,rfl,_,_,_,_,_,_,U,trodAll_mk1 (shut_bool underlying4 _),(trodAll_cons_mk (Below.trod laidOut (by kernel_rfl) (of_decide_eq_true (by kernel_rfl)) k0 bel b4) (trodAll_cons_mk (Below.trod laidOut (by kernel_rfl) (of_decide_eq_true (by kernel_rfl)) k1 bel b5) trodAll_mk0)),Rg laidOut bel (by kernel_rfl) hV,bel.frame _,fun h=>by cases h⟩
end Go.Proofs.YtphhhciffpkojaaGreatDoor.fnExactReached
