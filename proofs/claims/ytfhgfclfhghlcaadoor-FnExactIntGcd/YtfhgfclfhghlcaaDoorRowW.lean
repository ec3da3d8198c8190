import Derived.Test.YtfhgfclfhghlcaaDoorVals
import Derived.OneCell
namespace Go.Proofs.YtfhgfclfhghlcaaDoor
open Go.ChangeShapes Go.WideShapes Go.ChangeAt Go.RowKit
abbrev U32s (l : List Nat) : List Value := l.map (fun x => Value.int .u32 (x : Nat))
/-- Block R holds just these limbs, and may be written. -/
def Row (w : World) (R : Nat) (l : List Nat) : Prop := w.heap[R]? = some (.cells (U32s l).toArray 60 (0, 0))
theorem Row.lt {w : World} {R : Nat} {l : List Nat} (h : Row w R l) : R < w.heap.size := (Array.getElem?_eq_some_iff.1 h).1
theorem Row.cell {w : World} {R : Nat} {l : List Nat} (h : Row w R l) (i : Nat) (hi : i < l.length) : w.cell? ⟨R, i, none⟩ = some (.int .u32 (l.getD i 0 : Nat)) := by
  simp [World.cell?, show w.heap[R]? = _ from h, List.getElem?_eq_getElem hi, List.getD_eq_getElem?_getD]
theorem Row.frozen {w : World} {R : Nat} {l : List Nat} (h : Row w R l) (i : Nat) : w.frozen? ⟨R, i, none⟩ = false := by
  simp [World.frozen?, show w.heap[R]? = _ from h]
theorem Row.set {w : World} {R : Nat} {l : List Nat} (h : Row w R l) (i x : Nat) : Row (w.setCell ⟨R, i, none⟩ (.int .u32 (x : Nat))) R (l.set i x) := by
  obtain ⟨hlt, hk⟩ := Array.getElem?_eq_some_iff.1 h
  show (w.heap.modify R _)[R]? = _
  rw [Array.getElem?_eq_getElem (by rw [Array.size_modify]; exact hlt), Array.getElem_modify_self, hk]
  simp [U32s, List.map_set]
theorem Row.kept {w w' : World} {R : Nat} {l : List Nat} (h : Row w R l) (hb : Below w.heap.size w w') : Row w' R l := (hb.block R h.lt).trans h
theorem Row.drew {w : World} {R : Nat} {l : List Nat} (h : Row w R l) : Row w.drew R l := h
theorem row_of_full {w : World} {base g n : Nat} {l : List Nat} (h : w.ownsRow base 60 1 (.slice (some ⟨g, 0, none⟩) n n) n (U32s l)) : Row w g l := by
  rcases h.2 with ⟨e, _⟩ | ⟨g', cap, cur, e, _, hb, _, _, hc, ht⟩
  · cases e
  · simp only [Value.slice.injEq, Option.some.injEq, Addr.mk.injEq, and_true, true_and] at e
    obtain ⟨rfl, rfl⟩ := e
    rw [Nat.mul_one] at hc ht
    rw [List.take_of_length_le (by rw [Array.length_toList]; omega)] at ht
    unfold Row
    rw [hb, ← ht]
theorem Row.isL {w : World} {R B cap : Nat} {l : List Nat} (h : Row w R l) (hB : B ≤ R) (hok : okL l) (hc : l.length ≤ cap) (hm : cap ≤ maxLen) : IsL B w (.slice (some ⟨R, 0, none⟩) l.length cap) l :=
  ⟨_, cap, rfl, hc, hm, hok, .inr ⟨R, 0, rfl, hB, h.lt, fun i hi => by rw [Nat.zero_add]; exact h.cell i hi⟩⟩
theorem made_zero (n : Nat) : (madeCells (Value.int .u32 0).cells (n * 1)).toList = U32s (List.replicate n 0) := by
  rw [Nat.mul_one]
  show (madeCells #[.int .u32 0] n).toList = _
  rw [toList_madeCells_one]
  simp [U32s]
/-- The value of the first i limbs, when limb i is written. -/
theorem val_take_set (l : List Nat) (i x : Nat) (hi : i < l.length) : val ((l.set i x).take (i + 1)) = val (l.take i) + 1000000000 ^ i * x := by
  have e : (l.set i x).take (i + 1) = l.take i ++ [x] := by
    rw [List.take_succ_eq_append_getElem (by simpa using hi), List.getElem_set_self]
    congr 1
    rw [List.take_set_of_le (Nat.le_refl i)]
  rw [e, val_snoc, List.length_take, Nat.min_eq_left (by omega)]
theorem val_take_succ (l : List Nat) (i : Nat) : val (l.take (i + 1)) = val (l.take i) + 1000000000 ^ i * l.getD i 0 := by
  by_cases hi : i < l.length
  · rw [List.take_succ_eq_append_getElem hi, val_snoc, List.length_take, Nat.min_eq_left (by omega), List.getD_eq_getElem?_getD, List.getElem?_eq_getElem hi]; rfl
  · rw [List.take_of_length_le (by omega), List.take_of_length_le (by omega), List.getD_eq_getElem?_getD, List.getElem?_eq_none (by omega)]; simp
theorem okL_set (l : List Nat) (h : okL l) (i x : Nat) (hx : x < 1000000000) : okL (l.set i x) := fun y hy => by
  rcases List.mem_or_eq_of_mem_set hy with h1 | h1
  · exact h y h1
  · omega
end Go.Proofs.YtfhgfclfhghlcaaDoor
