import Derived.Test.YtfclfbpjjlinhaaGreatDoorTgKLp
namespace Go.Proofs.YtfclfbpjjlinhaaGreatDoor.L
open Go.ChangeShapes Go.WideShapes Go.ChangeAt Go.RowKit
end Go.Proofs.YtfclfbpjjlinhaaGreatDoor.L
