import Derived.Test.YtdmdmgfjpomdbaaGreatDoorP00
import Derived.Test.YtdmdmgfjpomdbaaGreatDoorRows
import Derived.JoinedOf
import Derived.Stop.Joined
import Derived.SevenTiedAt
namespace Go.Proofs.YtdmdmgfjpomdbaaGreatDoor.fnExactAddSort
theorem closedFact:joinedFacts Tryz.pinned.checked.prog 3 Tryz.f3 Rows.fnExactAddSortSpec Rows.fnExactAddSortRow=true:=by kernel_rfl
theorem looksFact:true=Tryz.pinned.checked.prog.looks []:=by kernel_rfl
end Go.Proofs.YtdmdmgfjpomdbaaGreatDoor.fnExactAddSort
