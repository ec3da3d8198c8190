import Derived.Test.YthkpoijaacaaiaaGreatDoorP00
import Derived.Test.YthkpoijaacaaiaaGreatDoorRows
import Derived.JoinedOf
import Derived.Stop.Joined
import Derived.SevenTiedAt
namespace Go.Proofs.YthkpoijaacaaiaaGreatDoor.fnExactAddFun
theorem closedFact:joinedFacts Tryz.pinned.checked.prog 5 Tryz.f5 Rows.fnExactAddFunSpec Rows.fnExactAddFunRow=true:=by kernel_rfl
theorem looksFact:true=Tryz.pinned.checked.prog.looks []:=by kernel_rfl
end Go.Proofs.YthkpoijaacaaiaaGreatDoor.fnExactAddFun
