import Derived.Test.YtknfmkeipeikkaaGreatDoorU1p
namespace Go.Proofs.YtknfmkeipeikkaaGreatDoor
open Go.ChangeShapes Go.WideShapes Go.ChangeAt Go.RowKit
end Go.Proofs.YtknfmkeipeikkaaGreatDoor
