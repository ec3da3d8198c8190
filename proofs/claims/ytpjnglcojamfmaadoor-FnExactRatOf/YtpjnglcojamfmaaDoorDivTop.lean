import Derived.Test.YtpjnglcojamfmaaDoorDivF
import Derived.Test.YtpjnglcojamfmaaDoorSumT
namespace Go.Proofs.YtpjnglcojamfmaaDoor
open Go.ChangeShapes Go.WideShapes Go.ChangeAt Go.RowKit
theorem sg_zero_iff (n : Bool) (l : List Nat) (ht : isTrim l) : sg n (val l) = 0 ↔ l = [] := by
  constructor
  · intro h
    apply Classical.byContradiction
    intro hne
    have := val_pos l ht hne
    cases n <;> simp [sg] at h <;> omega
  · rintro rfl
    cases n <;> simp [sg, val]
theorem dividedBy_any (B : Nat) (za zb : Value) (x y : Int) (n m : Nat) (w : World) (hBw : B ≤ w.heap.size) (ha : IsI B w za x n) (hb : IsI B w zb y m) (hy : y ≠ 0) (hn : n ≤ 90000) (hm : m ≤ 90000) (hSP : SP w) :
    Calls Tryd.prog 35 #[za, zb] w fun e w' => ∃ z1 z2 q r, e = .returned (.tuple #[z1, z2]) ∧ IsI B w' z1 q (n + 2) ∧ IsI B w' z2 r (m + 3) ∧ IsDiv x y q r ∧ Below w.heap.size w w' := by
  obtain ⟨na, va, a, rfl, hva, ta, rfl, hla⟩ := ha
  obtain ⟨nb, vb, b, rfl, hvb, tb, rfl, hlb⟩ := hb
  have hne : b ≠ [] := fun h => hy ((sg_zero_iff nb b tb).2 h)
  rw [← sg_negOf na a, ← sg_negOf nb b]
  refine (divided_raw B _ _ va vb a b w hBw hva hvb (by omega) (by omega) ta tb hne hSP).mono ?_
  rintro e w' ⟨z1, z2, q, r, h1, h2, h3, h4, h5⟩
  exact ⟨z1, z2, q, r, h1, h2.mono (Nat.le_refl _) (by omega), h3.mono (Nat.le_refl _) (by omega), h4, h5⟩
/-- What both sides of IntDiv answer. -/
def IsResD (s t u v : ByteArray) : Prop := if isIntB s = true ∧ isIntB t = true ∧ numT t ≠ 0 then ∃ q r, IsDiv (numT s) (numT t) q r ∧ IsText q u ∧ IsText r v else u = strB [] ∧ v = strB []
theorem IsResD.eq {s t u v u' v' : ByteArray} (h : IsResD s t u v) (h' : IsResD s t u' v') : u = u' ∧ v = v' := by
  unfold IsResD at h h'
  split at h
  · rename_i hc
    rw [if_pos hc] at h'
    obtain ⟨q, r, h1, h2, h3⟩ := h
    obtain ⟨q', r', k1, k2, k3⟩ := h'
    obtain ⟨rfl, rfl⟩ := isDiv_unique h1 k1
    exact ⟨h2.eq k2, h3.eq k3⟩
  · rename_i hc
    rw [if_neg hc] at h'
    exact ⟨by rw [h.1, h'.1], by rw [h.2, h'.2]⟩
end Go.Proofs.YtpjnglcojamfmaaDoor
