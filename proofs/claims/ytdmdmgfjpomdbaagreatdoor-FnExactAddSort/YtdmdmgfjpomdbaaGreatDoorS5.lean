import Derived.Test.YtdmdmgfjpomdbaaGreatDoorP00
import Derived.Test.YtdmdmgfjpomdbaaGreatDoorRows
import Derived.Test.YtdmdmgfjpomdbaaGreatDoorCards
import Derived.Test.YtdmdmgfjpomdbaaGreatDoorTie
import Derived.Test.YtdmdmgfjpomdbaaGreatDoorS3
import Derived.Test.YtdmdmgfjpomdbaaGreatDoorS4
import Derived.ChangeOld
import Derived.ChangeVars
import Derived.LaidMore
import Derived.Lay
import Derived.Stop.Joined
import Derived.SevenTiedAt
import Derived.WalkSmall
namespace Go.Proofs.YtdmdmgfjpomdbaaGreatDoor.fnExactAddSort
open ChangeShapes WideShapes ChangeAt RowKit Proofs.Tryz
set_option linter.unusedVariables false
theorem over:Rows.fnExactAddSortRow.holds Tryz.pinned (OpenSpec.ofChange Rows.fnExactAddSortSpec):=
 OpenClaim.holds_of_wide 3 Tryz.f3 rfl rfl rfl rfl rfl rfl rfl ⟨rfl,rfl,rfl,rfl,rfl⟩ rfl rfl rfl rfl rfl (by kernel_rfl) func3 closedFact
  (of_decide_eq_true (by kernel_rfl)) (by unfold Func.isWrapper;first|(rw[if_pos (by decide +kernel)];kernel_rfl)|(rw[if_neg (by decide +kernel)];exact⟨rfl,rfl⟩))
  (fun os started H enc _=>lifted os started H enc)
theorem plain (f:FuncId)(fn:Func)(hf:Tryz.pinned.checked.prog.funcNamed "loop.example/g00007/laws.FnExactAddSort" = some f)(hfn:Tryz.pinned.checked.prog.funcs[f]? = some fn) :
 true=Tryz.pinned.checked.prog.looks []/\∀ (j:Nat) t,fn.params[j]? = some t->Tryz.pinned.checked.prog.wantsStandIn t=false:=by
 obtain rfl:f=3:=Option.some.inj ((show prog.funcNamed "loop.example/g00007/laws.FnExactAddSort" = some 3 by kernel_rfl).symm.trans hf) |>.symm;obtain rfl:fn=Tryz.f3:=(Option.some.inj (func3.symm.trans hfn)).symm;refine⟨looksFact,fun j t ht=>?_⟩;rw[Tryz.params3] at ht;have d:t=26∨t=9:=by simpa using Array.mem_of_getElem? ht
 rcases d with rfl|rfl
 ·exact (show prog.wantsStandIn 26=false by kernel_rfl)
 exact (show prog.wantsStandIn 9=false by kernel_rfl)
end Go.Proofs.YtdmdmgfjpomdbaaGreatDoor.fnExactAddSort
namespace Go.Proofs.YtdmdmgfjpomdbaaGreatDoor
theorem fnExactAddSort_holds:Rows.FnExactAddSortCardSaid:=
 Claim7.holds_tied_plain_at .later [] _ _ _ _ fnExactAddSort.over (fun _ h=>by cases h) (by kernel_rfl) (fun _ h=>by cases h) fnExactAddSort_row_tie rfl ⟨rfl,rfl⟩ (by kernel_rfl) rfl fnExactAddSort.plain (by kernel_rfl)
#print axioms fnExactAddSort_holds
end Go.Proofs.YtdmdmgfjpomdbaaGreatDoor
