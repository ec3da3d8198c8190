import Derived.Test.YtlphfokcojahlaaDoorRatC
import Derived.Laws.StructEq
import Derived.Laws.Tables
namespace Go.Proofs.YtlphfokcojahlaaDoor
open Go.ChangeShapes Go.WideShapes Go.ChangeAt Go.RowKit
theorem eqForm (a c a' c' : ByteArray) (b b' : Bool) (w : World) : (Op.equalIn 10000 91 (.agg #[.string a, .bool b, .string c]) (.agg #[.string a', .bool b', .string c'])).run Tryd.prog w = .ok (a.toList == a'.toList && b == b' && c.toList == c'.toList) w := by
  have u3 := Tryd.underlying9
  have u4 := Tryd.underlying4
  have a3 := Tryd.isAgg9
  have a4 := Tryd.isAgg4
  have z3 := Tryd.sizeOf9
  have z4 := Tryd.sizeOf4
  have hS : Tryd.prog.underlying 91 = some (.struct (Tryd.prog.fieldsOf 91)) := by kernel_rfl
  rw [show (10000 : Nat) = 9999 + 1 from rfl, run_equalIn_agg w 9999 91 _ _ hS (by kernel_rfl)]
  simp only [Program.fieldsOf, Tryd.underlying91]
  go_simp
  by_cases h1 : a.toList = a'.toList <;> by_cases h2 : b = b' <;> by_cases h3 : c.toList = c'.toList <;> simp [h1, h2, h3]
theorem toList_inj {a b : ByteArray} : (a.toList == b.toList) = decide (a = b) := by
  by_cases h : a = b
  · subst h; simp
  · have : a.toList ≠ b.toList := fun e => h (by
      rw [ByteArray.toList_eq, ByteArray.toList_eq] at e
      exact ByteArray.ext (Array.toList_inj.1 e))
    simp [h, this]
/-- The number of a rat text: x over y. -/
def RatV (s : ByteArray) (k : Option Nat) (x y : Int) : Prop :=
  match k with
  | none => isIntB s = true ∧ x = numT s ∧ y = 1
  | some i => (isIntB (cutP s (some i)) = true ∧ isIntB (cutQ s (some i)) = true) ∧ (numT (cutQ s (some i)) ≠ 0 ∧ cutP s (some i) ≠ strB [48] ∧ cutQ s (some i) ≠ strB [49] ∧ isNeg (cutQ s (some i)) = false ∧ Int.gcd (numT (cutP s (some i))) (numT (cutQ s (some i))) = 1) ∧
      x = numT (cutP s (some i)) ∧ y = numT (cutQ s (some i))
/-- Whether a text is a rat text. -/
def IsRatB (s : ByteArray) (b : Bool) : Prop := ∃ k, IsCut s k ∧ (b = true ↔ ∃ x y, RatV s k x y)
theorem isRatB_unique {s : ByteArray} {b c : Bool} (h : IsRatB s b) (h' : IsRatB s c) : b = c := by
  obtain ⟨k, hk, e⟩ := h
  obtain ⟨m, hm, e'⟩ := h'
  obtain rfl := isCut_unique hk hm
  cases b <;> cases c <;> simp_all
end Go.Proofs.YtlphfokcojahlaaDoor
