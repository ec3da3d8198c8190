import Derived.Test.YtphhhciffpkojaaGreatDoorP00
import Derived.Test.YtphhhciffpkojaaGreatDoorRows
import Derived.JoinedOf
import Derived.Stop.Joined
import Derived.SevenTiedAt
set_option linter.all false
namespace Go.Proofs.YtphhhciffpkojaaGreatDoor.fnExactTermText
theorem closedFact:joinedFacts Tryz.pinned.checked.prog 8 Tryz.f8 Rows.fnExactTermTextSpec Rows.fnExactTermTextRow=true:=by kernel_rfl
theorem looksFact:true=Tryz.pinned.checked.prog.looks []:=by kernel_rfl
end Go.Proofs.YtphhhciffpkojaaGreatDoor.fnExactTermText
