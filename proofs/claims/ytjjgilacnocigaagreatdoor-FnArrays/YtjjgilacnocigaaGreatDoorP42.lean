import Derived.Test.YtjjgilacnocigaaGreatDoorP00
import Derived.Test.YtjjgilacnocigaaGreatDoorRows
import Derived.JoinedOf
import Derived.Stop.Joined
import Derived.SevenTiedAt
namespace Go.Proofs.YtjjgilacnocigaaGreatDoor.fnArrays
theorem closedFact:joinedFacts Tryz.pinned.checked.prog 3 Tryz.f3 Rows.fnArraysSpec Rows.fnArraysRow=true:=by kernel_rfl
theorem looksFact:true=Tryz.pinned.checked.prog.looks []:=by kernel_rfl
end Go.Proofs.YtjjgilacnocigaaGreatDoor.fnArrays
