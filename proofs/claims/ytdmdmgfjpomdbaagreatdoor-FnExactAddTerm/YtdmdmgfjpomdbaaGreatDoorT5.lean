import Derived.Test.YtdmdmgfjpomdbaaGreatDoorP00
import Derived.Test.YtdmdmgfjpomdbaaGreatDoorRows
import Derived.Test.YtdmdmgfjpomdbaaGreatDoorCards
import Derived.Test.YtdmdmgfjpomdbaaGreatDoorTie
import Derived.Test.YtdmdmgfjpomdbaaGreatDoorT3
import Derived.Test.YtdmdmgfjpomdbaaGreatDoorT4
import Derived.ChangeOld
import Derived.ChangeVars
import Derived.LaidMore
import Derived.Lay
import Derived.Stop.Joined
import Derived.SevenTiedAt
import Derived.WalkSmall
namespace Go.Proofs.YtdmdmgfjpomdbaaGreatDoor.fnExactAddTerm
open ChangeShapes WideShapes ChangeAt RowKit Proofs.Tryz
set_option linter.unusedVariables false
theorem over:Rows.fnExactAddTermRow.holds Tryz.pinned (OpenSpec.ofChange Rows.fnExactAddTermSpec):=
 OpenClaim.holds_of_wide 5 Tryz.f5 rfl rfl rfl rfl rfl rfl rfl ⟨rfl,rfl,rfl,rfl,rfl⟩ rfl rfl rfl rfl rfl (by kernel_rfl) func5 closedFact
  (of_decide_eq_true (by kernel_rfl)) (by unfold Func.isWrapper;first|(rw[if_pos (by decide +kernel)];kernel_rfl)|(rw[if_neg (by decide +kernel)];exact⟨rfl,rfl⟩))
  (fun os started H enc _=>lifted os started H enc)
theorem plain (f:FuncId)(fn:Func)(hf:Tryz.pinned.checked.prog.funcNamed "loop.example/g00007/laws.FnExactAddTerm" = some f)(hfn:Tryz.pinned.checked.prog.funcs[f]? = some fn) :
 true=Tryz.pinned.checked.prog.looks []/\∀ (j:Nat) t,fn.params[j]? = some t->Tryz.pinned.checked.prog.wantsStandIn t=false:=by
 obtain rfl:f=5:=Option.some.inj ((show prog.funcNamed "loop.example/g00007/laws.FnExactAddTerm" = some 5 by kernel_rfl).symm.trans hf) |>.symm;obtain rfl:fn=Tryz.f5:=(Option.some.inj (func5.symm.trans hfn)).symm;refine⟨looksFact,fun j t ht=>?_⟩;rw[Tryz.params5] at ht;have d:t=26∨t=52:=by simpa using Array.mem_of_getElem? ht
 rcases d with rfl|rfl
 ·exact (show prog.wantsStandIn 26=false by kernel_rfl)
 exact (show prog.wantsStandIn 52=false by kernel_rfl)
end Go.Proofs.YtdmdmgfjpomdbaaGreatDoor.fnExactAddTerm
namespace Go.Proofs.YtdmdmgfjpomdbaaGreatDoor
theorem fnExactAddTerm_holds:Rows.FnExactAddTermCardSaid:=
 Claim7.holds_tied_plain_at .later [] _ _ _ _ fnExactAddTerm.over (fun _ h=>by cases h) (by kernel_rfl) (fun _ h=>by cases h) fnExactAddTerm_row_tie rfl ⟨rfl,rfl⟩ (by kernel_rfl) rfl fnExactAddTerm.plain (by kernel_rfl)
#print axioms fnExactAddTerm_holds
end Go.Proofs.YtdmdmgfjpomdbaaGreatDoor
