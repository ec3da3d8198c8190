import Derived.Test.YtgihbpfgdmeegaaDoorSumImpl
import Derived.Test.YtgihbpfgdmeegaaDoorOfImpl
namespace Go.Proofs.YtgihbpfgdmeegaaDoor
open Go.ChangeShapes Go.WideShapes Go.ChangeAt Go.RowKit
theorem IsI.shape {B : Nat} {w : World} {z : Value} {x : Int} {n : Nat} (h : IsI B w z x n) : ∃ (s : Bool) (p : Option Addr) (l c : Nat), z = .agg #[.bool s, .slice p l c] := by
  obtain ⟨neg, v, t, rfl, ⟨p, c, rfl, _⟩, _⟩ := h
  exact ⟨_, _, _, _, rfl⟩
theorem IsI.setCell {B : Nat} {w : World} {z : Value} {x : Int} {n : Nat} (h : IsI B w z x n) (p : Addr) (u : Value) (hp : p.block < B) : IsI B (w.setCell p u) z x n := by
  obtain ⟨neg, v, t, h1, h2, h3⟩ := h
  exact ⟨neg, v, t, h1, h2.setCell p u hp, h3⟩
end Go.Proofs.YtgihbpfgdmeegaaDoor
