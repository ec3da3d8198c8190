import Derived.Test.YtebldkelihmihaaGreatDoorReadImpl
namespace Go.Proofs.YtebldkelihmihaaGreatDoor
open Go.ChangeShapes Go.WideShapes Go.ChangeAt Go.RowKit
def lim (s : ByteArray) : List Nat := trimL (chunks (dgs s).data.toList)
def sgn (s : ByteArray) : Bool := negOf (isNeg s) (lim s)
def ReadI (B : Nat) (w : World) (s : ByteArray) (n : Bool) (a : Option Addr) (l c : Nat) : Prop :=
  isIntB s = true → n = sgn s ∧ IsL B w (.slice a l c) (lim s)
theorem ReadI.below {B : Nat} {w w' : World} {s : ByteArray} {n : Bool} {a : Option Addr} {l c : Nat} (h : ReadI B w s n a l c) (hb : Below w.heap.size w w') : ReadI B w' s n a l c :=
  fun hi => ⟨(h hi).1, (h hi).2.below hb⟩
theorem ReadI.mono {B B' : Nat} {w : World} {s : ByteArray} {n : Bool} {a : Option Addr} {l c : Nat} (h : ReadI B w s n a l c) (hb : B' ≤ B) : ReadI B' w s n a l c :=
  fun hi => ⟨(h hi).1, (h hi).2.mono hb⟩
theorem ReadI.setCell {B : Nat} {w : World} {s : ByteArray} {n : Bool} {a : Option Addr} {l c : Nat} (h : ReadI B w s n a l c) (p : Addr) (u : Value) (hp : p.block < B) : ReadI B (w.setCell p u) s n a l c :=
  fun hi => ⟨(h hi).1, (h hi).2.setCell p u hp⟩
end Go.Proofs.YtebldkelihmihaaGreatDoor
