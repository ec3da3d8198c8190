import Derived.Test.YtlphfokcojahlaaDoorGcdLaid
namespace Go.Proofs.YtlphfokcojahlaaDoor
open Go.ChangeShapes Go.WideShapes Go.ChangeAt Go.RowKit
theorem trodVars_three {H : Type} {enc : TypeId × Value → H} {P : Program} {w : World} {spare : Nat → Bool} {n0 n1 n2 : String} {gs : List (DataW H)} {ps : List MemPlace} (h : DataW.TrodVars enc P w spare [n0, n1, n2] gs ps) :
    ∃ g0 t0 cs0 f0 d0 p0 g1 t1 cs1 f1 d1 p1 g2 t2 cs2 f2 d2 p2, gs = [d0, d1, d2] ∧ P.globalNamed n0 = some g0 ∧ (P.globals[g0]?).map (·.type) = some t0 ∧ w.var? P n0 = some cs0 ∧ DataW.trod enc P w 0 spare true f0 t0 cs0.toList = some (d0, p0) ∧
      P.globalNamed n1 = some g1 ∧ (P.globals[g1]?).map (·.type) = some t1 ∧ w.var? P n1 = some cs1 ∧ DataW.trod enc P w 0 spare true f1 t1 cs1.toList = some (d1, p1) ∧
      P.globalNamed n2 = some g2 ∧ (P.globals[g2]?).map (·.type) = some t2 ∧ w.var? P n2 = some cs2 ∧ DataW.trod enc P w 0 spare true f2 t2 cs2.toList = some (d2, p2) ∧
      ps = MemPlace.row ⟨g0, 0, none⟩ cs0.size ++ p0 ++ (MemPlace.row ⟨g1, 0, none⟩ cs1.size ++ p1 ++ (MemPlace.row ⟨g2, 0, none⟩ cs2.size ++ p2)) := by
  cases gs with
  | nil => simp [DataW.TrodVars] at h
  | cons d ds =>
    obtain ⟨g0, t0, cs0, f0, p0, q0, h1, h2, h3, h4, hs, e⟩ := h
    obtain ⟨g1, t1, cs1, f1, d1, p1, g2, t2, cs2, f2, d2, p2, rfl, k1, k2, k3, k4, m1, m2, m3, m4, rfl⟩ := trodVars_two hs
    exact ⟨g0, t0, cs0, f0, d, p0, g1, t1, cs1, f1, d1, p1, g2, t2, cs2, f2, d2, p2, rfl, h1, h2, h3, h4, k1, k2, k3, k4, m1, m2, m3, m4, e⟩
/-- The three tables, where they stand in the second, third and fourth place. -/
theorem all3_of_laid {W : World} {x : String × DataW Unit} {L : List (String × DataW Unit)} (h : laidMet Tryd.prog (x :: ("loop.example/g00007/impl.limbTens", Rows.laid_loop_example_g00007_impl_limbTens) :: ("loop.example/g00007/impl.signPairs", Rows.laid_loop_example_g00007_impl_signPairs) :: ("loop.example/g00007/impl.noSteps", Rows.laid_loop_example_g00007_impl_noSteps) :: L) W) : LT W ∧ SP W ∧ NS W :=
  ⟨lt_of_laid h, sp_of_laid (laidMet_tail (laidMet_tail h)), ns_of_laid (laidMet_tail (laidMet_tail (laidMet_tail h)))⟩
end Go.Proofs.YtlphfokcojahlaaDoor
