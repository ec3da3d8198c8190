import Derived.Test.YtgihbpfgdmeegaaDoorSumAll
namespace Go.Proofs.YtgihbpfgdmeegaaDoor
open Go.ChangeShapes Go.WideShapes Go.ChangeAt Go.RowKit
theorem lim_len' (s : ByteArray) (h : isIntB s = true) : (lim s).length ≤ 280 := by
  have h1 : (dgs s).size ≤ 2500 := by
    by_cases h2 : 2500 < (dgs s).size
    · rw [isInt_long s _ rfl h2] at h; cases h
    · omega
  have h3 := trimL_len (chunks (dgs s).data.toList)
  have h4 : (chunks (dgs s).data.toList).length = cnt (dgs s).data.toList.length := by simp [chunks]
  have h5 : (dgs s).data.toList.length = (dgs s).size := by simp
  unfold lim
  rw [h4, h5] at h3
  have h6 : cnt (dgs s).size ≤ 280 := by unfold cnt; omega
  omega
theorem textI_any (B : Nat) (z : Value) (x : Int) (n : Nat) (w : World) (h : IsI B w z x n) (hn : n ≤ 600) (hLT : LT w) :
    Calls Tryd.prog 28 #[z] w fun e w' => ∃ u, e = .returned (.string u) ∧ IsText x u ∧ Below w.heap.size w w' := by
  obtain ⟨neg, v, t, rfl, hv, ht, hx, hl⟩ := h
  have hok : okL t := by obtain ⟨_, _, _, _, _, h, _⟩ := hv; exact h
  refine (text_any B _ v t w hv (by omega) hLT).mono ?_
  rintro e w' ⟨rfl, hb⟩
  exact ⟨_, rfl, ⟨neg, t, hok, ht, hx, rfl⟩, hb⟩
end Go.Proofs.YtgihbpfgdmeegaaDoor
