import Derived.Test.YtfclfbpjjlinhaaGreatDoorU1p
namespace Go.Proofs.YtfclfbpjjlinhaaGreatDoor
open Go.ChangeShapes Go.WideShapes Go.ChangeAt Go.RowKit
end Go.Proofs.YtfclfbpjjlinhaaGreatDoor
