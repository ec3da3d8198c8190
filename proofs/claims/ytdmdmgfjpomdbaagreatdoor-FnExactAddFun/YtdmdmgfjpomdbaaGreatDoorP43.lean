import Derived.Test.YtdmdmgfjpomdbaaGreatDoorP00
import Derived.Test.YtdmdmgfjpomdbaaGreatDoorRows
import Derived.JoinedOf
import Derived.Stop.Joined
import Derived.SevenTiedAt
namespace Go.Proofs.YtdmdmgfjpomdbaaGreatDoor.fnExactAddFun
theorem closedFact:joinedFacts Tryz.pinned.checked.prog 4 Tryz.f4 Rows.fnExactAddFunSpec Rows.fnExactAddFunRow=true:=by kernel_rfl
theorem looksFact:true=Tryz.pinned.checked.prog.looks []:=by kernel_rfl
end Go.Proofs.YtdmdmgfjpomdbaaGreatDoor.fnExactAddFun
