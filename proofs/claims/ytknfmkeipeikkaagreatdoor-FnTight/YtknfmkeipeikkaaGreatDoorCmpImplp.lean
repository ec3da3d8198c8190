import Derived.Test.YtknfmkeipeikkaaGreatDoorM6p
import Derived.Test.YtknfmkeipeikkaaGreatDoorM2p
import Derived.Test.YtknfmkeipeikkaaGreatDoorPCSp
set_option maxRecDepth 100000
set_option maxHeartbeats 1000000
namespace Go.Proofs.YtknfmkeipeikkaaGreatDoor
open Go.ChangeShapes Go.WideShapes Go.ChangeAt Go.RowKit
theorem field_ord (x z:Int) (y:Bool) (w:World):(Instr.field 115 (.agg #[.int .i64 x,.bool y,.int .i64 z]) 2).run Tryz.prog w=.ok (.int .i64 z) w:=by kernel_rfl
end Go.Proofs.YtknfmkeipeikkaaGreatDoor
