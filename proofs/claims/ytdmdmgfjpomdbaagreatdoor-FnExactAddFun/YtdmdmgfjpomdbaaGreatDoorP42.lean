import Derived.Test.YtdmdmgfjpomdbaaGreatDoorP00
import Derived.Test.YtdmdmgfjpomdbaaGreatDoorRows
import Derived.Test.YtdmdmgfjpomdbaaGreatDoorCards
import Derived.Test.YtdmdmgfjpomdbaaGreatDoorTie
import Derived.Test.YtdmdmgfjpomdbaaGreatDoorP36
import Derived.Test.YtdmdmgfjpomdbaaGreatDoorP41
import Derived.ChangeOld
import Derived.ChangeVars
import Derived.LaidMore
import Derived.Lay
import Derived.Stop.Joined
import Derived.SevenTiedAt
import Derived.WalkSmall
set_option maxRecDepth 100000
namespace Go.Proofs.YtdmdmgfjpomdbaaGreatDoor.fnExactAddFun
open ChangeShapes WideShapes ChangeAt RowKit Proofs.Tryz
set_option linter.unusedVariables false
theorem own:ownKnob prog.godebug=none:=by kernel_rfl
theorem laidOut:laidOutB prog=true:=by kernel_rfl
theorem lifted (os:Os)(started:os.Started)(H:Type)(enc:TypeId×Value->H) :
 ReturnsInHanded {} Tryz.checked os 4 .any (fun w args=>(Rows.fnExactAddFunSpec.pre enc prog Tryz.f4 [] false w args/\laidMetH prog Rows.fnExactAddFunRow.laid w)/\sizedMet enc prog Tryz.f4 (OpenSpec.ofChange Rows.fnExactAddFunSpec) false w args)
  (Rows.fnExactAddFunSpec.post enc prog Tryz.f4 false true false false):=by
 refine Pu (C:=Tryz.checked) (X:=fun w _=>laidMetH prog Rows.fnExactAddFunRow.laid w) (fun _ _ _ hh h=>h.of_heap hh) own started (by kernel_rfl) func4
  (ChangeSpec.witness_shaped (enc:=enc) (C:=Tryz.checked) (os:=os) (X:=fun w _=>laidMetH prog Rows.fnExactAddFunRow.laid w) false (World.laidAll prog os Rows.fnExactAddFunRow.laid) #[.agg #[.slice none 0 0,.slice none 0 0,.slice none 0 0],.agg #[.string ⟨#[]⟩,.slice none 0 0,.string ⟨#[]⟩]] 8 (World.laidAll_os _ _ _)
    (World.shaped_of_ZipB (by kernel_rfl) (by kernel_rfl)) (by kernel_rfl) (by kernel_rfl) (by kernel_rfl)
    (by rw[MakeChecks.laidMetH_plain _ _ _ (by kernel_rfl)];exact laidMet_laidAll _ (by kernel_rfl) (by kernel_rfl))) ?_
 intro W base args ds gs M d hW _ _ hX b3 _;have K:∀ (j:Nat) t v,Tryz.f4.params[j]? = some t->args[j]? = some v->Value.okWide prog W .any base t v:=d;have O:=hW;obtain⟨p,q,I,hV,rfl,e0,e1⟩:=hW;have hA:DataW.TrodAll enc prog W 0 (fun _=>true) true Tryz.f4.params.toList args.toList ds p:=I;rw[Tryz.params4] at hA K;obtain⟨v0,e5,d0,d7,p0,q0,U,rfl,rfl,h0,r0⟩:=trodAll_cons hA;obtain⟨v1,e6,d1,d8,p1,q1,rfl,rfl,rfl,h1,r1⟩:=trodAll_cons r0;obtain⟨rfl,rfl,rfl⟩:=trodAll_nil r1;obtain rfl:args=#[v0,v1]:=by cases args;simp_all
 obtain⟨g1,g2,g3,g4,rfl⟩:=AI hV;have k0:=h0;have b5:∀ x∈p0,x.block<W.heap.size:=by obtain⟨m,hm⟩:=k0;exact DataW.trod_lt m _ _ _ hm
 have k1:=h1;have b6:∀ x∈p1,x.block<W.heap.size:=by obtain⟨m,hm⟩:=k1;exact DataW.trod_lt m _ _ _ hm
 obtain⟨f,va,V,A,a8,hn2⟩:∃ (f:Fn) (va:Value),v1.cells.toList=[.string (Oo f.name),va,.string (Oo f.sort)]/\E3 W va f.args/\f.name.length<=maxLen/\f.sort.length<=maxLen:=by
  obtain⟨G,Z⟩:=h1;exact PZ Z
 obtain rfl:v1=.agg #[.string (Oo f.name),va,.string (Oo f.sort)]:=RH V;obtain⟨vs,vf,vt,S,F,T,Y,J,b4⟩:∃ vs vf vt S F T,v0.cells.toList=[vs,vf,vt]/\ArgBank W vs vf vt S F T/\BD T:=by
  obtain⟨G,Z⟩:=h0;exact FO Z
 obtain rfl:v0=.agg #[vs,vf,vt]:=RH Y;have hx:=hX;rw[MakeChecks.laidMetH_plain _ _ _ (by kernel_rfl)] at hx;have E:=LF hx (UJ b3);clear I d;refine (NJ W J A a8 hn2 b4 E).mono fun e W' ⟨he,bel⟩=>?_;subst he;exact⟨_,rfl,_,_,_,_,_,_,O,trodAll_mk1 (shut_bool underlying4 _),(trodAll_cons_mk (Below.trod laidOut (by kernel_rfl) (of_decide_eq_true (by kernel_rfl)) k0 bel b5) (trodAll_cons_mk (Below.trod laidOut (by kernel_rfl) (of_decide_eq_true (by kernel_rfl)) k1 bel b6) trodAll_mk0)),Rg laidOut bel (by kernel_rfl) hV,bel.frame _,fun h=>by cases h⟩
end Go.Proofs.YtdmdmgfjpomdbaaGreatDoor.fnExactAddFun
