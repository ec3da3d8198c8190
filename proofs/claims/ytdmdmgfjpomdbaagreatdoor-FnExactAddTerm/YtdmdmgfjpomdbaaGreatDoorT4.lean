import Derived.Test.YtdmdmgfjpomdbaaGreatDoorP00
import Derived.Test.YtdmdmgfjpomdbaaGreatDoorRows
import Derived.JoinedOf
import Derived.Stop.Joined
import Derived.SevenTiedAt
namespace Go.Proofs.YtdmdmgfjpomdbaaGreatDoor.fnExactAddTerm
theorem closedFact:joinedFacts Tryz.pinned.checked.prog 5 Tryz.f5 Rows.fnExactAddTermSpec Rows.fnExactAddTermRow=true:=by kernel_rfl
theorem looksFact:true=Tryz.pinned.checked.prog.looks []:=by kernel_rfl
end Go.Proofs.YtdmdmgfjpomdbaaGreatDoor.fnExactAddTerm
