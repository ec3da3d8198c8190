import Derived.Test.YtebldkelihmihaaGreatDoorDivX
import Derived.Test.YtebldkelihmihaaGreatDoorU1
import Derived.Deep.DeepCutAuto
namespace Go.Proofs.YtebldkelihmihaaGreatDoor
open Go.ChangeShapes Go.WideShapes Go.ChangeAt Go.RowKit
theorem l1Div_any (B : Nat) (za zb : Value) (na nb : Bool) (a b : List Nat) (w : World) (hBw : B ≤ w.heap.size) (hza : IsZ B w za na a) (hzb : IsZ B w zb nb b) (hla : a.length ≤ 100000) (hlb : b.length ≤ 100000) (hne : b ≠ []) :
    Calls Tryz.prog 67 #[za, zb] w fun e w' => ∃ z1 z2 q r, e = .returned (.tuple #[z1, z2]) ∧ (IsN w.heap.size w' z1 q ∧ IsN w.heap.size w' z2 r) ∧ IsDiv (sg na (val a)) (sg nb (val b)) q r ∧ Below w.heap.size w w' := by
  have hoa := hza.1; have hob := hzb.1
  have htb := hzb.2.1
  obtain ⟨x, xn, pa, la, ca, rfl, fa, ga⟩ := hza.form2
  obtain ⟨y, yn, pb, lb, cb, rfl, fb, gb⟩ := hzb.form2
  by_cases h0 : la = 0 ∧ lb = 0
  · have g1 := ga h0.1
    have g2 := gb h0.2
    rw [g1.2, g2.2]
    have l1 := sg_lt na a hoa g1.1
    have l2 := sg_lt nb b hob g2.1
    exact l1Div_small _ _ w l1.1 l1.2 l2.1 l2.2 (fun h => hne ((sg_zero_iff nb b htb).1 h))
  have hz : ((la : Int) == 0) = false ∨ (((la : Int) == 0) = true ∧ ((lb : Int) == 0) = false) := by
    by_cases h : la = 0
    · exact .inr ⟨by rw [beq_iff_eq]; omega, by rw [beq_eq_false_iff_ne]; omega⟩
    · exact .inl (by rw [beq_eq_false_iff_ne]; omega)
  have h := l1Div_big B x y xn yn pa la ca pb lb cb na nb a b w hBw hz hza hzb _ _ fa fb hla hlb hne
  rw [sg_negOf, sg_negOf] at h
  exact h
end Go.Proofs.YtebldkelihmihaaGreatDoor
