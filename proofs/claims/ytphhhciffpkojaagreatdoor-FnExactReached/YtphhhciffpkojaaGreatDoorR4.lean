import Derived.Test.YtphhhciffpkojaaGreatDoorP00
import Derived.Test.YtphhhciffpkojaaGreatDoorRows
import Derived.JoinedOf
import Derived.Stop.Joined
import Derived.SevenTiedAt
namespace Go.Proofs.YtphhhciffpkojaaGreatDoor.fnExactReached
theorem closedFact:joinedFacts Tryz.pinned.checked.prog 7 Tryz.f7 Rows.fnExactReachedSpec Rows.fnExactReachedRow=true:=by kernel_rfl
theorem looksFact:true=Tryz.pinned.checked.prog.looks []:=by kernel_rfl
end Go.Proofs.YtphhhciffpkojaaGreatDoor.fnExactReached
