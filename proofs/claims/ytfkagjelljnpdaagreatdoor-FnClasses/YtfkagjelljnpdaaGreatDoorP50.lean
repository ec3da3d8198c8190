import Derived.Test.YtfkagjelljnpdaaGreatDoorP00
import Derived.Test.YtfkagjelljnpdaaGreatDoorRows
import Derived.JoinedOf
import Derived.Stop.Joined
import Derived.SevenTiedAt
namespace Go.Proofs.YtfkagjelljnpdaaGreatDoor.fnClasses
theorem closedFact:joinedFacts Tryz.pinned.checked.prog 3 Tryz.f3 Rows.fnClassesSpec Rows.fnClassesRow=true:=by kernel_rfl
theorem looksFact:true=Tryz.pinned.checked.prog.looks []:=by kernel_rfl
end Go.Proofs.YtfkagjelljnpdaaGreatDoor.fnClasses
