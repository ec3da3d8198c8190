import Derived.Test.YtphhhciffpkojaaGreatDoorP00
import Derived.Test.YtphhhciffpkojaaGreatDoorRows
import Derived.JoinedOf
import Derived.Stop.Joined
import Derived.SevenTiedAt
namespace Go.Proofs.YtphhhciffpkojaaGreatDoor.fnExactGoodBank
theorem closedFact:joinedFacts Tryz.pinned.checked.prog 3 Tryz.f3 Rows.fnExactGoodBankSpec Rows.fnExactGoodBankRow=true:=by kernel_rfl
theorem looksFact:true=Tryz.pinned.checked.prog.looks []:=by kernel_rfl
end Go.Proofs.YtphhhciffpkojaaGreatDoor.fnExactGoodBank
