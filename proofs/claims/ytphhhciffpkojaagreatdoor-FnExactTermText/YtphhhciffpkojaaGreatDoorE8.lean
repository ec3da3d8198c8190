import Derived.Test.YtphhhciffpkojaaGreatDoorP00
import Derived.Test.YtphhhciffpkojaaGreatDoorRows
import Derived.Test.YtphhhciffpkojaaGreatDoorCards
import Derived.Test.YtphhhciffpkojaaGreatDoorTie
import Derived.Test.YtphhhciffpkojaaGreatDoorE7
import Derived.ChangeOld
import Derived.ChangeVars
import Derived.LaidMore
import Derived.Lay
import Derived.Stop.Joined
import Derived.SevenTiedAt
import Derived.WalkSmall
set_option maxRecDepth 100000
set_option linter.all false
namespace Go.Proofs.YtphhhciffpkojaaGreatDoor.fnExactTermText
open ChangeShapes WideShapes ChangeAt RowKit Proofs.Tryz
set_option linter.unusedVariables false
theorem own:ownKnob prog.godebug=none:=by kernel_rfl
theorem laidOut:laidOutB prog=true:=by kernel_rfl
theorem lifted (os:Os)(started:os.Started)(H:Type)(enc:TypeId×Value->H) :
 ReturnsInHanded {} Tryz.checked os 8 .any (fun w args=>(Rows.fnExactTermTextSpec.pre enc prog Tryz.f8 [] false w args/\laidMetH prog Rows.fnExactTermTextRow.laid w)/\sizedMet enc prog Tryz.f8 (OpenSpec.ofChange Rows.fnExactTermTextSpec) false w args)
  (Rows.fnExactTermTextSpec.post enc prog Tryz.f8 false true false false):=by
 refine Pu (C:=Tryz.checked) (X:=fun w _=>laidMetH prog Rows.fnExactTermTextRow.laid w) (fun _ _ _ hh h=>h.of_heap hh) own started (by kernel_rfl) func8
  (ChangeSpec.witness_shaped (enc:=enc) (C:=Tryz.checked) (os:=os) (X:=fun w _=>laidMetH prog Rows.fnExactTermTextRow.laid w) false (World.laidAll prog os Rows.fnExactTermTextRow.laid) #[.agg #[.slice none 0 0,.slice none 0 0,.slice none 0 0],.int .i64 0] 8 (World.laidAll_os _ _ _)
    (World.shaped_of_ZipB (by kernel_rfl) (by kernel_rfl)) (by kernel_rfl) (by kernel_rfl) (by kernel_rfl)
    (by rw[MakeChecks.laidMetH_plain _ _ _ (by kernel_rfl)];exact laidMet_laidAll _ (by kernel_rfl) (by kernel_rfl))) ?_
 intro W base args ds gs K d hW _ _ hX Z _;have E:∀ (j:Nat) t v,Tryz.f8.params[j]? = some t->args[j]? = some v->Value.okWide prog W .any base t v:=d;have M:=hW;obtain⟨p,q,I,hV,rfl,d7,d9⟩:=hW;have hA:DataW.TrodAll enc prog W 0 (fun _=>true) true Tryz.f8.params.toList args.toList ds p:=I;rw[Tryz.params8] at hA E;obtain⟨v0,e1,d0,d2,p0,q0,O,rfl,rfl,h0,r0⟩:=trodAll_cons hA;obtain⟨v1,e2,d1,d3,p1,q1,rfl,rfl,rfl,h1,r1⟩:=trodAll_cons r0;obtain⟨rfl,rfl,rfl⟩:=trodAll_nil r1;obtain rfl:args=#[v0,v1]:=by cases args;simp_all
 obtain⟨a1,rfl,rfl,rfl,w1⟩:=open_int underlying3 (E 1 3 v1 rfl rfl) h1;obtain⟨g1,g2,g3,g4,g5,rfl⟩:=yX hV;have Y:=w1;simp only[Lit.wf,J3,Yi] at Y;have k0:=h0;have b3:∀ x∈p0,x.block<W.heap.size:=by obtain⟨m,hm⟩:=k0;exact DataW.trod_lt m _ _ _ hm
 obtain⟨vs,vf,vt,S,F,T,U,J,a7⟩:∃ vs vf vt S F T,v0.cells.toList=[vs,vf,vt]/\ArgBank W vs vf vt S F T/\BD T:=by
  obtain⟨b4,hf⟩:=h0;exact FO hf
 obtain rfl:v0=.agg #[vs,vf,vt]:=RH U;have hx:=hX;rw[MakeChecks.laidMetH_plain _ _ _ (by kernel_rfl)] at hx;have G:=LF hx (UJ Z);have V:=JY hx.tail.tail.tail.tail.tail.tail.tail.tail.tail.tail;clear I d;refine (WA a1 W J a7 G V (by first|exact Y.1|omega) (by first|exact Y.2|omega)).mono fun e W' ⟨he,bel⟩=>?_;subst he;exact⟨_,rfl,_,_,_,_,_,_,M,trodAll_mk1 (shut_bool underlying4 _),(trodAll_cons_mk (Below.trod laidOut (by kernel_rfl) (of_decide_eq_true (by kernel_rfl)) k0 bel b3) (trodAll_cons_mk (shut_int underlying3 w1) trodAll_mk0)),Rg laidOut bel (by kernel_rfl) hV,bel.frame _,fun h=>by cases h⟩
end Go.Proofs.YtphhhciffpkojaaGreatDoor.fnExactTermText
