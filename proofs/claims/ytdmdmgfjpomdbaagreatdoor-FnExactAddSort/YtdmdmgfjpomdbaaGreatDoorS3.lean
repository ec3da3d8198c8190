import Derived.Test.YtdmdmgfjpomdbaaGreatDoorP00
import Derived.Test.YtdmdmgfjpomdbaaGreatDoorRows
import Derived.Test.YtdmdmgfjpomdbaaGreatDoorCards
import Derived.Test.YtdmdmgfjpomdbaaGreatDoorTie
import Derived.Test.YtdmdmgfjpomdbaaGreatDoorP36
import Derived.Test.YtdmdmgfjpomdbaaGreatDoorS2
import Derived.ChangeOld
import Derived.ChangeVars
import Derived.LaidMore
import Derived.Lay
import Derived.Stop.Joined
import Derived.SevenTiedAt
import Derived.WalkSmall
set_option maxRecDepth 100000
namespace Go.Proofs.YtdmdmgfjpomdbaaGreatDoor.fnExactAddSort
open ChangeShapes WideShapes ChangeAt RowKit Proofs.Tryz
set_option linter.unusedVariables false
theorem own:ownKnob prog.godebug=none:=by kernel_rfl
theorem laidOut:laidOutB prog=true:=by kernel_rfl
theorem lifted (os:Os)(started:os.Started)(H:Type)(enc:TypeId×Value->H) :
 ReturnsInHanded {} Tryz.checked os 3 .any (fun w args=>(Rows.fnExactAddSortSpec.pre enc prog Tryz.f3 [] false w args/\laidMetH prog Rows.fnExactAddSortRow.laid w)/\sizedMet enc prog Tryz.f3 (OpenSpec.ofChange Rows.fnExactAddSortSpec) false w args)
  (Rows.fnExactAddSortSpec.post enc prog Tryz.f3 false true false false):=by
 refine Pu (C:=Tryz.checked) (X:=fun w _=>laidMetH prog Rows.fnExactAddSortRow.laid w) (fun _ _ _ hh h=>h.of_heap hh) own started (by kernel_rfl) func3
  (ChangeSpec.witness_shaped (enc:=enc) (C:=Tryz.checked) (os:=os) (X:=fun w _=>laidMetH prog Rows.fnExactAddSortRow.laid w) false (World.laidAll prog os Rows.fnExactAddSortRow.laid) #[.agg #[.slice none 0 0,.slice none 0 0,.slice none 0 0],.string ⟨#[]⟩] 8 (World.laidAll_os _ _ _)
    (World.shaped_of_ZipB (by kernel_rfl) (by kernel_rfl)) (by kernel_rfl) (by kernel_rfl) (by kernel_rfl)
    (by rw[MakeChecks.laidMetH_plain _ _ _ (by kernel_rfl)];exact laidMet_laidAll _ (by kernel_rfl) (by kernel_rfl))) ?_
 intro W base args ds gs J d hW _ _ hX Y _;have A:∀ (j:Nat) t v,Tryz.f3.params[j]? = some t->args[j]? = some v->Value.okWide prog W .any base t v:=d;have K:=hW;obtain⟨p,q,G,hV,rfl,d8,d9⟩:=hW;have hA:DataW.TrodAll enc prog W 0 (fun _=>true) true Tryz.f3.params.toList args.toList ds p:=G;rw[Tryz.params3] at hA A;obtain⟨v0,e4,d0,d4,p0,q0,M,rfl,rfl,h0,r0⟩:=trodAll_cons hA;obtain⟨v1,e5,d1,d5,p1,q1,rfl,rfl,rfl,h1,r1⟩:=trodAll_cons r0;obtain⟨rfl,rfl,rfl⟩:=trodAll_nil r1;obtain rfl:args=#[v0,v1]:=by cases args;simp_all
 obtain⟨g1,g2,g3,g4,rfl⟩:=AI hV;have k0:=h0;have a7:∀ x∈p0,x.block<W.heap.size:=by obtain⟨m,U⟩:=k0;exact DataW.trod_lt m _ _ _ U
 have k1:=h1;have a8:∀ x∈p1,x.block<W.heap.size:=by obtain⟨m,U⟩:=k1;exact DataW.trod_lt m _ _ _ U
 obtain⟨s1,V,-,-,-⟩:=Go.ChangeMaps.open_string underlying9 (A 1 9 v1 rfl rfl) h1;subst V;obtain⟨vs,vf,vt,S,F,T,O,I,Z⟩:∃ vs vf vt S F T,v0.cells.toList=[vs,vf,vt]/\ArgBank W vs vf vt S F T/\BD T:=by
  obtain⟨b3,hf⟩:=h0;exact FO hf
 obtain rfl:v0=.agg #[vs,vf,vt]:=RH O;have hx:=hX;rw[MakeChecks.laidMetH_plain _ _ _ (by kernel_rfl)] at hx;have E:=LF hx (UJ Y);clear G d;refine (TV s1 W I Z E).mono fun e W' ⟨he,bel⟩=>?_;subst he;exact⟨_,rfl,_,_,_,_,_,_,K,trodAll_mk1 (shut_bool underlying4 _),(trodAll_cons_mk (Below.trod laidOut (by kernel_rfl) (of_decide_eq_true (by kernel_rfl)) k0 bel a7) (trodAll_cons_mk (Below.trod laidOut (by kernel_rfl) (of_decide_eq_true (by kernel_rfl)) k1 bel a8) trodAll_mk0)),Rg laidOut bel (by kernel_rfl) hV,bel.frame _,fun h=>by cases h⟩
end Go.Proofs.YtdmdmgfjpomdbaaGreatDoor.fnExactAddSort
