import Derived.Test.YtfkagjelljnpdaaGreatDoorP06
import Derived.Laws.AppendOwnNone
namespace Go.Proofs.YtfkagjelljnpdaaGreatDoor.Q
open ChangeShapes WideShapes ChangeAt RowKit
theorem Wk(n:Bool)(l:List Nat)(ht:Kl l):sg n (val l)=0↔l=[]:=by
 constructor
 ·intro h;apply Classical.byContradiction;intro j;have:=Ar l ht j
  cases n<;>simp[sg]at h<;>omega
 rintro rfl
 cases n<;>simp[sg,val]
end Go.Proofs.YtfkagjelljnpdaaGreatDoor.Q
