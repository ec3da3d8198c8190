import Derived.Test.YtfkagjelljnpdaaGreatDoorP08
import Derived.Deep.DeepCutAuto
namespace Go.Proofs.YtfkagjelljnpdaaGreatDoor.Q
open ChangeShapes WideShapes ChangeAt RowKit
end Go.Proofs.YtfkagjelljnpdaaGreatDoor.Q
