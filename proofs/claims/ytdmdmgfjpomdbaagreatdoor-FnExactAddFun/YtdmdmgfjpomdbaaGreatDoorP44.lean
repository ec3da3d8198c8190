import Derived.Test.YtdmdmgfjpomdbaaGreatDoorP00
import Derived.Test.YtdmdmgfjpomdbaaGreatDoorRows
import Derived.Test.YtdmdmgfjpomdbaaGreatDoorCards
import Derived.Test.YtdmdmgfjpomdbaaGreatDoorTie
import Derived.Test.YtdmdmgfjpomdbaaGreatDoorP42
import Derived.Test.YtdmdmgfjpomdbaaGreatDoorP43
import Derived.ChangeOld
import Derived.ChangeVars
import Derived.LaidMore
import Derived.Lay
import Derived.Stop.Joined
import Derived.SevenTiedAt
import Derived.WalkSmall
namespace Go.Proofs.YtdmdmgfjpomdbaaGreatDoor.fnExactAddFun
open ChangeShapes WideShapes ChangeAt RowKit Proofs.Tryz
set_option linter.unusedVariables false
theorem over:Rows.fnExactAddFunRow.holds Tryz.pinned (OpenSpec.ofChange Rows.fnExactAddFunSpec):=
 OpenClaim.holds_of_wide 4 Tryz.f4 rfl rfl rfl rfl rfl rfl rfl ⟨rfl,rfl,rfl,rfl,rfl⟩ rfl rfl rfl rfl rfl (by kernel_rfl) func4 closedFact
  (of_decide_eq_true (by kernel_rfl)) (by unfold Func.isWrapper;first|(rw[if_pos (by decide +kernel)];kernel_rfl)|(rw[if_neg (by decide +kernel)];exact⟨rfl,rfl⟩))
  (fun os started H enc _=>lifted os started H enc)
theorem plain (f:FuncId)(fn:Func)(hf:Tryz.pinned.checked.prog.funcNamed "loop.example/g00007/laws.FnExactAddFun" = some f)(hfn:Tryz.pinned.checked.prog.funcs[f]? = some fn) :
 true=Tryz.pinned.checked.prog.looks []/\∀ (j:Nat) t,fn.params[j]? = some t->Tryz.pinned.checked.prog.wantsStandIn t=false:=by
 obtain rfl:f=4:=Option.some.inj ((show prog.funcNamed "loop.example/g00007/laws.FnExactAddFun" = some 4 by kernel_rfl).symm.trans hf) |>.symm;obtain rfl:fn=Tryz.f4:=(Option.some.inj (func4.symm.trans hfn)).symm;refine⟨looksFact,fun j t ht=>?_⟩;rw[Tryz.params4] at ht;have d:t=26∨t=42:=by simpa using Array.mem_of_getElem? ht
 rcases d with rfl|rfl
 ·exact (show prog.wantsStandIn 26=false by kernel_rfl)
 exact (show prog.wantsStandIn 42=false by kernel_rfl)
end Go.Proofs.YtdmdmgfjpomdbaaGreatDoor.fnExactAddFun
namespace Go.Proofs.YtdmdmgfjpomdbaaGreatDoor
theorem fnExactAddFun_holds:Rows.FnExactAddFunCardSaid:=
 Claim7.holds_tied_plain_at .later [] _ _ _ _ fnExactAddFun.over (fun _ h=>by cases h) (by kernel_rfl) (fun _ h=>by cases h) fnExactAddFun_row_tie rfl ⟨rfl,rfl⟩ (by kernel_rfl) rfl fnExactAddFun.plain (by kernel_rfl)
#print axioms fnExactAddFun_holds
end Go.Proofs.YtdmdmgfjpomdbaaGreatDoor
