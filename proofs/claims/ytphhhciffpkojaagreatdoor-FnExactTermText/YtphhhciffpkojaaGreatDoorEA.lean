import Derived.Test.YtphhhciffpkojaaGreatDoorP00
import Derived.Test.YtphhhciffpkojaaGreatDoorRows
import Derived.Test.YtphhhciffpkojaaGreatDoorCards
import Derived.Test.YtphhhciffpkojaaGreatDoorTie
import Derived.Test.YtphhhciffpkojaaGreatDoorE8
import Derived.Test.YtphhhciffpkojaaGreatDoorE9
import Derived.ChangeOld
import Derived.ChangeVars
import Derived.LaidMore
import Derived.Lay
import Derived.Stop.Joined
import Derived.SevenTiedAt
import Derived.WalkSmall
set_option linter.all false
namespace Go.Proofs.YtphhhciffpkojaaGreatDoor.fnExactTermText
open ChangeShapes WideShapes ChangeAt RowKit Proofs.Tryz
set_option linter.unusedVariables false
theorem over:Rows.fnExactTermTextRow.holds Tryz.pinned (OpenSpec.ofChange Rows.fnExactTermTextSpec):=
 OpenClaim.holds_of_wide 8 Tryz.f8 rfl rfl rfl rfl rfl rfl rfl ⟨rfl,rfl,rfl,rfl,rfl⟩ rfl rfl rfl rfl rfl (by kernel_rfl) func8 closedFact
  (of_decide_eq_true (by kernel_rfl)) (by unfold Func.isWrapper;first|(rw[if_pos (by decide +kernel)];kernel_rfl)|(rw[if_neg (by decide +kernel)];exact⟨rfl,rfl⟩))
  (fun os started H enc _=>lifted os started H enc)
theorem plain (f:FuncId)(fn:Func)(hf:Tryz.pinned.checked.prog.funcNamed "loop.example/g00007/laws.FnExactTermText" = some f)(hfn:Tryz.pinned.checked.prog.funcs[f]? = some fn) :
 true=Tryz.pinned.checked.prog.looks []/\∀ (j:Nat) t,fn.params[j]? = some t->Tryz.pinned.checked.prog.wantsStandIn t=false:=by
 obtain rfl:f=8:=Option.some.inj ((show prog.funcNamed "loop.example/g00007/laws.FnExactTermText" = some 8 by kernel_rfl).symm.trans hf) |>.symm;obtain rfl:fn=Tryz.f8:=(Option.some.inj (func8.symm.trans hfn)).symm;refine⟨looksFact,fun j t ht=>?_⟩;rw[Tryz.params8] at ht;have d:=Array.mem_of_getElem? ht;simp only[List.mem_toArray,Vi,List.not_mem_nil,or_false] at d
 rcases d with rfl|rfl
 ·exact (show prog.wantsStandIn 26=false by kernel_rfl)
 exact (show prog.wantsStandIn 3=false by kernel_rfl)
end Go.Proofs.YtphhhciffpkojaaGreatDoor.fnExactTermText
namespace Go.Proofs.YtphhhciffpkojaaGreatDoor
theorem fnExactTermText_holds:Rows.FnExactTermTextCardSaid:=
 Claim7.holds_tied_plain_at .later [] _ _ _ _ fnExactTermText.over (fun _ h=>by cases h) (by kernel_rfl) (fun _ h=>by cases h) fnExactTermText_row_tie rfl ⟨rfl,rfl⟩ (by kernel_rfl) rfl fnExactTermText.plain (by kernel_rfl)
#print axioms fnExactTermText_holds
end Go.Proofs.YtphhhciffpkojaaGreatDoor
