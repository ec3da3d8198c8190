import Derived.Test.YtpjnglcojamfmaaDoorPlus
namespace Go.Proofs.YtpjnglcojamfmaaDoor
open Go.ChangeShapes Go.WideShapes Go.ChangeAt Go.RowKit
theorem cmpL_ge (a b : List Nat) (ha : okL a) (hb : okL b) (ta : isTrim a) (tb : isTrim b) (hcm : 0 ≤ cmpL a b) : b.length ≤ a.length ∧ val b ≤ val a := by
  have h := cmpL_ord a b ha hb ta tb
  have h2 := hcm
  rw [h] at h2
  refine ⟨?_, ?_⟩
  · unfold cmpL at hcm
    by_cases h3 : a.length < b.length
    · simp [h3] at hcm <;> omega
    · by_cases h4 : b.length < a.length
      · simp [h3, h4] at hcm <;> omega
      · omega
  · unfold ord at h2
    split at h2 <;> (try split at h2) <;> omega
end Go.Proofs.YtpjnglcojamfmaaDoor
namespace Go.Proofs.YtpjnglcojamfmaaDoor
open Go.ChangeShapes Go.WideShapes Go.ChangeAt Go.RowKit
theorem cmpL_lt' (a b : List Nat) (ha : okL a) (hb : okL b) (ta : isTrim a) (tb : isTrim b) (hcm : cmpL a b < 0) : a.length ≤ b.length ∧ val a ≤ val b := by
  have h := cmpL_ord a b ha hb ta tb
  have h2 := hcm
  rw [h] at h2
  refine ⟨?_, ?_⟩
  · unfold cmpL at hcm
    by_cases h3 : a.length < b.length
    · omega
    · by_cases h4 : b.length < a.length
      · simp [h3, h4] at hcm <;> omega
      · omega
  · unfold ord at h2
    split at h2 <;> (try split at h2) <;> omega
theorem BoxI.swap {g : Nat} {W : World} {x : Bool} {pa : Option Addr} {la ca : Nat} {y : Bool} {pb : Option Addr} {lb cb : Nat} (h : BoxI g W x pa la ca y pb lb cb) :
    BoxI g ((((W.setCell ⟨g, 0, none⟩ (.bool y)).setCell ⟨g, 1, none⟩ (.slice pb lb cb)).setCell ⟨g + 1, 0, none⟩ (.bool x)).setCell ⟨g + 1, 1, none⟩ (.slice pa la ca)) y pb lb cb x pa la ca := by
  obtain ⟨a0, a1, b0, b1, r0, r1, f⟩ := h
  refine ⟨?_, ?_, ?_, ?_, ?_, ?_, fun k hk i => ?_⟩
  · simp [go_sem, a0]
  · simp [go_sem, a1]
  · simp [go_sem, b0]
  · simp [go_sem, b1]
  · simp [go_sem, r0]
  · simp [go_sem, r1]
  · have := f k hk i
    simp [go_sem, this]
end Go.Proofs.YtpjnglcojamfmaaDoor
