import Derived.Test.YthkpoijaacaaiaaGreatDoorP00
import Derived.Test.YthkpoijaacaaiaaGreatDoorRows
import Derived.JoinedOf
import Derived.Stop.Joined
import Derived.SevenTiedAt
namespace Go.Proofs.YthkpoijaacaaiaaGreatDoor.fnExactAddSort
theorem closedFact:joinedFacts Tryz.pinned.checked.prog 4 Tryz.f4 Rows.fnExactAddSortSpec Rows.fnExactAddSortRow=true:=by kernel_rfl
theorem looksFact:true=Tryz.pinned.checked.prog.looks []:=by kernel_rfl
end Go.Proofs.YthkpoijaacaaiaaGreatDoor.fnExactAddSort
