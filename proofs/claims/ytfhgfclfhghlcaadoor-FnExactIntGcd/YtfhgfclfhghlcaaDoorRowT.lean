import Derived.Test.YtfhgfclfhghlcaaDoorRowW
namespace Go.Proofs.YtfhgfclfhghlcaaDoor
open Go.ChangeShapes Go.WideShapes Go.ChangeAt Go.RowKit
/-- Block R begins with these limbs, and may be written. -/
def RowT (w : World) (R : Nat) (l : List Nat) : Prop := ∃ tail : List Value, w.heap[R]? = some (.cells (U32s l ++ tail).toArray 60 (0, 0))
theorem Row.tail {w : World} {R : Nat} {l : List Nat} (h : Row w R l) : RowT w R l := ⟨[], by rw [List.append_nil]; exact h⟩
theorem RowT.lt {w : World} {R : Nat} {l : List Nat} (h : RowT w R l) : R < w.heap.size := by
  obtain ⟨t, h⟩ := h
  exact (Array.getElem?_eq_some_iff.1 h).1
theorem RowT.cell {w : World} {R : Nat} {l : List Nat} (h : RowT w R l) (i : Nat) (hi : i < l.length) : w.cell? ⟨R, i, none⟩ = some (.int .u32 (l.getD i 0 : Nat)) := by
  obtain ⟨t, h⟩ := h
  simp [World.cell?, h, List.getElem?_append, hi, List.getD_eq_getElem?_getD]
theorem RowT.frozen {w : World} {R : Nat} {l : List Nat} (h : RowT w R l) (i : Nat) : w.frozen? ⟨R, i, none⟩ = false := by
  obtain ⟨t, h⟩ := h
  simp [World.frozen?, h]
theorem RowT.set {w : World} {R : Nat} {l : List Nat} (h : RowT w R l) (i x : Nat) (hi : i < l.length) : RowT (w.setCell ⟨R, i, none⟩ (.int .u32 (x : Nat))) R (l.set i x) := by
  obtain ⟨t, h⟩ := h
  refine ⟨t, ?_⟩
  obtain ⟨hlt, hk⟩ := Array.getElem?_eq_some_iff.1 h
  show (w.heap.modify R _)[R]? = _
  rw [Array.getElem?_eq_getElem (by rw [Array.size_modify]; exact hlt), Array.getElem_modify_self, hk]
  simp [U32s, List.map_set, hi]
theorem RowT.isL {w : World} {R B cap : Nat} {l : List Nat} (h : RowT w R l) (hB : B ≤ R) (hok : okL l) (hc : l.length ≤ cap) (hm : cap ≤ maxLen) : IsL B w (.slice (some ⟨R, 0, none⟩) l.length cap) l :=
  ⟨_, cap, rfl, hc, hm, hok, .inr ⟨R, 0, rfl, hB, h.lt, fun i hi => by rw [Nat.zero_add]; exact h.cell i hi⟩⟩
end Go.Proofs.YtfhgfclfhghlcaaDoor
