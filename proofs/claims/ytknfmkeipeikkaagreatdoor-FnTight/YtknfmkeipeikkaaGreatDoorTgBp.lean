import Derived.Test.YtknfmkeipeikkaaGreatDoorTgKLp
namespace Go.Proofs.YtknfmkeipeikkaaGreatDoor.L
open Go.ChangeShapes Go.WideShapes Go.ChangeAt Go.RowKit
end Go.Proofs.YtknfmkeipeikkaaGreatDoor.L
