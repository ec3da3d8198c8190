import Derived.Test.YtphhhciffpkojaaGreatDoorP00
import Derived.Test.YtphhhciffpkojaaGreatDoorRows
import Derived.Test.YtphhhciffpkojaaGreatDoorCards
import Derived.Test.YtphhhciffpkojaaGreatDoorTie
import Derived.Test.YtphhhciffpkojaaGreatDoorR3
import Derived.Test.YtphhhciffpkojaaGreatDoorR4
import Derived.ChangeOld
import Derived.ChangeVars
import Derived.LaidMore
import Derived.Lay
import Derived.Stop.Joined
import Derived.SevenTiedAt
import Derived.WalkSmall
namespace Go.Proofs.YtphhhciffpkojaaGreatDoor.fnExactReached
open ChangeShapes WideShapes ChangeAt RowKit Proofs.Tryz
set_option linter.unusedVariables false
theorem over:Rows.fnExactReachedRow.holds Tryz.pinned (OpenSpec.ofChange Rows.fnExactReachedSpec):=
 OpenClaim.holds_of_wide 7 Tryz.f7 rfl rfl rfl rfl rfl rfl rfl ⟨rfl,rfl,rfl,rfl,rfl⟩ rfl rfl rfl rfl rfl (by kernel_rfl) func7 closedFact
  (of_decide_eq_true (by kernel_rfl)) (by unfold Func.isWrapper;first|(rw[if_pos (by decide +kernel)];kernel_rfl)|(rw[if_neg (by decide +kernel)];exact⟨rfl,rfl⟩))
  (fun os started H enc _=>lifted os started H enc)
theorem plain (f:FuncId)(fn:Func)(hf:Tryz.pinned.checked.prog.funcNamed "loop.example/g00007/laws.FnExactReached" = some f)(hfn:Tryz.pinned.checked.prog.funcs[f]? = some fn) :
 true=Tryz.pinned.checked.prog.looks []/\∀ (j:Nat) t,fn.params[j]? = some t->Tryz.pinned.checked.prog.wantsStandIn t=false:=by
 obtain rfl:f=7:=Option.some.inj ((show prog.funcNamed "loop.example/g00007/laws.FnExactReached" = some 7 by kernel_rfl).symm.trans hf) |>.symm;obtain rfl:fn=Tryz.f7:=(Option.some.inj (func7.symm.trans hfn)).symm;refine⟨looksFact,fun j t ht=>?_⟩;rw[Tryz.params7] at ht;have d:t=26∨t=52:=by simpa using Array.mem_of_getElem? ht
 rcases d with rfl|rfl
 ·exact (show prog.wantsStandIn 26=false by kernel_rfl)
 exact (show prog.wantsStandIn 52=false by kernel_rfl)
end Go.Proofs.YtphhhciffpkojaaGreatDoor.fnExactReached
namespace Go.Proofs.YtphhhciffpkojaaGreatDoor
theorem fnExactReached_holds:Rows.FnExactReachedCardSaid:=
 Claim7.holds_tied_plain_at .later [] _ _ _ _ fnExactReached.over (fun _ h=>by cases h) (by kernel_rfl) (fun _ h=>by cases h) fnExactReached_row_tie rfl ⟨rfl,rfl⟩ (by kernel_rfl) rfl fnExactReached.plain (by kernel_rfl)
#print axioms fnExactReached_holds
end Go.Proofs.YtphhhciffpkojaaGreatDoor
