import Derived.Test.YthkpoijaacaaiaaGreatDoorP00
import Derived.Test.YthkpoijaacaaiaaGreatDoorRows
import Derived.JoinedOf
import Derived.Stop.Joined
import Derived.SevenTiedAt
namespace Go.Proofs.YthkpoijaacaaiaaGreatDoor.fnExactAddTerm
theorem closedFact:joinedFacts Tryz.pinned.checked.prog 6 Tryz.f6 Rows.fnExactAddTermSpec Rows.fnExactAddTermRow=true:=by kernel_rfl
theorem looksFact:true=Tryz.pinned.checked.prog.looks []:=by kernel_rfl
end Go.Proofs.YthkpoijaacaaiaaGreatDoor.fnExactAddTerm
