import Derived.Test.YtfkagjelljnpdaaGreatDoorP09
namespace Go.Proofs.YtfkagjelljnpdaaGreatDoor.Q
open ChangeShapes WideShapes ChangeAt RowKit
theorem KC(s:ByteArray)(k:Option Nat):(Xv s k).size<=s.size:=by
 cases k with
 | none=>exact leR
 | some i=>show(s.extract 0 i).size<=s.size;rw[Yn];omega
theorem KL(s:ByteArray)(k:Option Nat):(Gw s k).size<=s.size:=by
 cases k with
 | none=>exact Jp _
 | some i=>show(s.extract (i+1) s.size).size<=s.size;rw[Yn];omega
end Go.Proofs.YtfkagjelljnpdaaGreatDoor.Q
