import Derived.Test.YtpjnglcojamfmaaDoorSubLimbs
import Derived.Test.YtpjnglcojamfmaaDoorAddLimbs
import Derived.Test.YtpjnglcojamfmaaDoorSpecSum
import Derived.Test.YtpjnglcojamfmaaDoorCmpImpl
namespace Go.Proofs.YtpjnglcojamfmaaDoor
open Go.ChangeShapes Go.WideShapes Go.ChangeAt Go.RowKit
/-- A whole number as the program holds it, by its value. -/
def IsI (B : Nat) (w : World) (z : Value) (x : Int) (n : Nat) : Prop := ∃ neg v t, z = .agg #[.bool (negOf neg t), v] ∧ IsL B w v t ∧ isTrim t ∧ sg neg (val t) = x ∧ t.length ≤ n
theorem field_sum (x z : Int) (y : Bool) (w : World) : (Instr.field 80 (.agg #[.int .i64 x, .bool y, .int .i64 z]) 0).run Tryd.prog w = .ok (.int .i64 x) w := by kernel_rfl
/-- The three boxes of plus. -/
structure BoxI (g : Nat) (W : World) (x : Bool) (pa : Option Addr) (la ca : Nat) (y : Bool) (pb : Option Addr) (lb cb : Nat) : Prop where
  a0 : W.cell? ⟨g, 0, none⟩ = some (.bool x)
  a1 : W.cell? ⟨g, 1, none⟩ = some (.slice pa la ca)
  b0 : W.cell? ⟨g + 1, 0, none⟩ = some (.bool y)
  b1 : W.cell? ⟨g + 1, 1, none⟩ = some (.slice pb lb cb)
  r0 : W.cell? ⟨g + 2, 0, none⟩ = some (.bool false)
  r1 : W.cell? ⟨g + 2, 1, none⟩ = some (.slice none 0 0)
  f : ∀ k, k < 3 → ∀ i, W.frozen? ⟨g + k, i, none⟩ = false
theorem BoxI.below {g : Nat} {W W' : World} {x : Bool} {pa : Option Addr} {la ca : Nat} {y : Bool} {pb : Option Addr} {lb cb : Nat} (h : BoxI g W x pa la ca y pb lb cb) {N : Nat} (hN : g + 3 ≤ N) (hb : Below N W W') : BoxI g W' x pa la ca y pb lb cb := by
  have q : ∀ k, k < 3 → ∀ i, W'.cell? ⟨g + k, i, none⟩ = W.cell? ⟨g + k, i, none⟩ := fun k hk i => hb.cell (p := ⟨g + k, i, none⟩) (by show g + k < N; omega)
  have f : ∀ k, k < 3 → ∀ i, W'.frozen? ⟨g + k, i, none⟩ = W.frozen? ⟨g + k, i, none⟩ := fun k hk i => hb.frozen (p := ⟨g + k, i, none⟩) (by show g + k < N; omega)
  exact ⟨(q 0 (by omega) 0).trans h.a0, (q 0 (by omega) 1).trans h.a1, (q 1 (by omega) 0).trans h.b0, (q 1 (by omega) 1).trans h.b1, (q 2 (by omega) 0).trans h.r0, (q 2 (by omega) 1).trans h.r1, fun k hk i => (f k hk i).trans (h.f k hk i)⟩
theorem boxI_first (w : World) (x : Bool) (pa : Option Addr) (la ca : Nat) (y : Bool) (pb : Option Addr) (lb cb : Nat) (ty : TypeId) :
    BoxI w.heap.size (((w.alloc (.cells #[.bool x, .slice pa la ca] ty)).alloc (.cells #[.bool y, .slice pb lb cb] ty)).alloc (.cells #[.bool false, .slice none 0 0] ty)) x pa la ca y pb lb cb := by
  refine ⟨?_, ?_, ?_, ?_, ?_, ?_, ?_⟩
  · rw [World.cell?_alloc_past _ _ _ (by simp; omega), World.cell?_alloc_past _ _ _ (by simp), World.cell?_alloc_at _ _ _ _ rfl]; rfl
  · rw [World.cell?_alloc_past _ _ _ (by simp; omega), World.cell?_alloc_past _ _ _ (by simp), World.cell?_alloc_at _ _ _ _ rfl]; rfl
  · rw [World.cell?_alloc_past _ _ _ (by simp), World.cell?_alloc_at _ _ _ _ (by simp)]; rfl
  · rw [World.cell?_alloc_past _ _ _ (by simp), World.cell?_alloc_at _ _ _ _ (by simp)]; rfl
  · rw [World.cell?_alloc_at _ _ _ _ (by simp)]; rfl
  · rw [World.cell?_alloc_at _ _ _ _ (by simp)]; rfl
  · intro k hk i
    match k, hk with
    | 0, _ => rw [World.frozen?_alloc_past _ _ _ (by simp; omega), World.frozen?_alloc_past _ _ _ (by simp), World.frozen?_alloc_at _ _ _ _ (by simp)]
    | 1, _ => rw [World.frozen?_alloc_past _ _ _ (by simp), World.frozen?_alloc_at _ _ _ _ (by simp)]
    | 2, _ => rw [World.frozen?_alloc_at _ _ _ _ (by simp)]
end Go.Proofs.YtpjnglcojamfmaaDoor
