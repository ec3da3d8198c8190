import Derived.Test.YtgihbpfgdmeegaaDoorPlus
namespace Go.Proofs.YtgihbpfgdmeegaaDoor
open Go.ChangeShapes Go.WideShapes Go.ChangeAt Go.RowKit
theorem cmpL_ge (a b : List Nat) (ha : okL a) (hb : okL b) (ta : isTrim a) (tb : isTrim b) (hcm : 0 ≤ cmpL a b) : b.length ≤ a.length ∧ val b ≤ val a := by
  have h := cmpL_ord a b ha hb ta tb
  have h2 := hcm
  rw [h] at h2
  refine ⟨?_, ?_⟩
  · unfold cmpL at hcm
    by_cases h3 : a.length < b.length
    · simp [h3] at hcm <;> omega
    · by_cases h4 : b.length < a.length
      · simp [h3, h4] at hcm <;> omega
      · omega
  · unfold ord at h2
    split at h2 <;> (try split at h2) <;> omega
end Go.Proofs.YtgihbpfgdmeegaaDoor
