import Derived.Test.YtknfmkeipeikkaaGreatDoorPlusAp
import Derived.Test.YtknfmkeipeikkaaGreatDoorMulLimbsp
set_option maxRecDepth 100000
set_option maxHeartbeats 8000000
namespace Go.Proofs.YtknfmkeipeikkaaGreatDoor
open Go.ChangeShapes Go.WideShapes Go.ChangeAt Go.RowKit
theorem sg_mul' (s t:Bool) (u v:Nat):sg (s != t) (u*v)=sg s u*sg t v:=by
 cases s<;>cases t<;>simp [sg,Int.mul_neg,Int.neg_mul]
theorem field_neg (x z:Int) (y:Bool) (w:World):(Instr.field 115 (.agg #[.int .i64 x,.bool y,.int .i64 z]) 1).run Tryz.prog w=.ok (.bool y) w:=by kernel_rfl
end Go.Proofs.YtknfmkeipeikkaaGreatDoor
