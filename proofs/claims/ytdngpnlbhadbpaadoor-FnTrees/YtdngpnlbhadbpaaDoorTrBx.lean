import Derived.Test.YtdngpnlbhadbpaaDoorTreeM
namespace Go.Proofs.YtdngpnlbhadbpaaDoor
open Go.ChangeShapes Go.WideShapes Go.ChangeAt Go.RowKit
theorem hidG {p : Prop} (h : p) : Hid p := h
theorem below_alloc (w : World) (o : Obj) : Below w.heap.size w (w.alloc o) := (Below.refl _ _).alloc (Nat.le_refl _) o
theorem below_al {B : Nat} {a w : World} (h : Below B a w) (hB : B ≤ w.heap.size) (o : Obj) : Below B a (w.alloc o) := h.alloc hB o
/-- A block that holds just these cells, and may be written. -/
def Bx (W : World) (g : Nat) (l : List Value) : Prop := ∃ ty, W.heap[g]? = some (.cells l.toArray ty (0, 0))
theorem Bx.lt {W : World} {g : Nat} {l : List Value} (h : Bx W g l) : g < W.heap.size := by
  obtain ⟨t, h⟩ := h
  exact (Array.getElem?_eq_some_iff.1 h).1
theorem Bx.cell {W : World} {g : Nat} {l : List Value} (h : Bx W g l) (i : Nat) : W.cell? ⟨g, i, none⟩ = l[i]? := by
  obtain ⟨t, h⟩ := h
  simp [World.cell?, h]
theorem Bx.frozen {W : World} {g : Nat} {l : List Value} (h : Bx W g l) (i : Nat) : W.frozen? ⟨g, i, none⟩ = false := by
  obtain ⟨t, h⟩ := h
  simp [World.frozen?, h]
theorem Bx.set {W : World} {g : Nat} {l : List Value} (h : Bx W g l) (i : Nat) (v : Value) : Bx (W.setCell ⟨g, i, none⟩ v) g (l.set i v) := by
  obtain ⟨t, h⟩ := h
  refine ⟨t, ?_⟩
  obtain ⟨hlt, hk⟩ := Array.getElem?_eq_some_iff.1 h
  show (W.heap.modify g _)[g]? = _
  rw [Array.getElem?_eq_getElem (by rw [Array.size_modify]; exact hlt), Array.getElem_modify_self, hk]
  simp
theorem Bx.other {W : World} {g : Nat} {l : List Value} (h : Bx W g l) (p : Addr) (hp : p.block ≠ g) (v : Value) : Bx (W.setCell p v) g l := by
  obtain ⟨t, h⟩ := h
  exact ⟨t, (Below.heap_setCell W p v g (fun e => hp e.symm)).trans h⟩
theorem Bx.below {W W' : World} {g N : Nat} {l : List Value} (h : Bx W g l) (hN : g < N) (hb : Below N W W') : Bx W' g l := by
  obtain ⟨t, h⟩ := h
  exact ⟨t, (hb.block g hN).trans h⟩
theorem Bx.alloc {W : World} {g : Nat} {l : List Value} (h : Bx W g l) (o : Obj) : Bx (W.alloc o) g l := h.below h.lt (below_alloc W o)
theorem Bx.drew {W : World} {g : Nat} {l : List Value} (h : Bx W g l) : Bx W.drew g l := h.below h.lt (Below.refl _ W).drew
theorem bx_new (W : World) (l : List Value) (ty : TypeId) : Bx (W.alloc (.cells l.toArray ty)) W.heap.size l := ⟨ty, Array.getElem?_push_size⟩
theorem Bx.c2 {W : World} {g : Nat} {v0 v1 : Value} {r : List Value} (h : Bx W g (v0 :: v1 :: r)) : W.cell? ⟨g, 0, none⟩ = some v0 ∧ W.cell? ⟨g, 1, none⟩ = some v1 := ⟨h.cell 0, h.cell 1⟩
theorem Bx.c3 {W : World} {g : Nat} {v0 v1 v2 : Value} {r : List Value} (h : Bx W g (v0 :: v1 :: v2 :: r)) : W.cell? ⟨g, 0, none⟩ = some v0 ∧ W.cell? ⟨g, 1, none⟩ = some v1 ∧ W.cell? ⟨g, 2, none⟩ = some v2 := ⟨h.cell 0, h.cell 1, h.cell 2⟩
theorem Bx.c4 {W : World} {g : Nat} {v0 v1 v2 v3 : Value} {r : List Value} (h : Bx W g (v0 :: v1 :: v2 :: v3 :: r)) : W.cell? ⟨g, 0, none⟩ = some v0 ∧ W.cell? ⟨g, 1, none⟩ = some v1 ∧ W.cell? ⟨g, 2, none⟩ = some v2 ∧ W.cell? ⟨g, 3, none⟩ = some v3 := ⟨h.cell 0, h.cell 1, h.cell 2, h.cell 3⟩
end Go.Proofs.YtdngpnlbhadbpaaDoor
