import Derived.Test.YtgihbpfgdmeegaaDoorLaidBoth
import Derived.Test.YtgihbpfgdmeegaaDoorGcdI
namespace Go.Proofs.YtgihbpfgdmeegaaDoor
open Go.ChangeShapes Go.WideShapes Go.ChangeAt Go.RowKit Go.Deep
theorem gSteps : Tryd.prog.globalNamed "loop.example/g00007/impl.noSteps" = some 1 := by kernel_rfl
theorem tSteps : (Tryd.prog.globals[1]?).map (·.type) = some 107 := by kernel_rfl
theorem cSteps : Tryd.prog.cellsOf 107 = 4 := by kernel_rfl
theorem cArr : Tryd.prog.cellsOf 105 = 2 := by kernel_rfl
theorem cI64 : Tryd.prog.cellsOf 2 = 1 := by kernel_rfl
set_option maxRecDepth 100000 in
theorem arr_of_trod {H : Type} {enc : TypeId × Value → H} {w : World} {base : Nat} {spare : Nat → Bool} {held : Bool} {fuel : Nat} {cs : List Value} {a c : Int} {x : DataW H × List MemPlace}
    (h : DataW.trod enc Tryd.prog w base spare held fuel 105 cs = some x) (hx : x.1 = .agg [.lit (.int .i64 a), .lit (.int .i64 c)]) : cs = [.int .i64 a, .int .i64 c] := by
  obtain ⟨xs, m, _, rfl, hl, hn, hel⟩ := DataW.trod_array Tryd.underlying105 h
  rw [cArr] at hl
  have e0 := hel 0 (by decide)
  have e1 := hel 1 (by decide)
  rw [cI64] at e0 e1
  match xs, hn with
  | [y0, y1], _ =>
    obtain ⟨n0, i0, j0, _⟩ := DataW.trod_int Tryd.underlying2 (show DataW.trod _ Tryd.prog w base spare held m 2 _ = some y0 from e0)
    obtain ⟨n1, i1, j1, _⟩ := DataW.trod_int Tryd.underlying2 (show DataW.trod _ Tryd.prog w base spare held m 2 _ = some y1 from e1)
    subst j0 j1
    simp only [List.map_cons, List.map_nil, DataW.agg.injEq, List.cons.injEq, DataW.lit.injEq, Lit.int.injEq, true_and, and_true] at hx
    obtain ⟨rfl, rfl⟩ := hx
    match cs, hl with
    | [c0, c1], _ =>
      simp at i0 i1
      rw [i0, i1]
set_option maxRecDepth 100000 in
theorem ns_of_laid {W : World} {L : List (String × DataW Unit)} (h : laidMet Tryd.prog (("loop.example/g00007/impl.noSteps", Rows.laid_loop_example_g00007_impl_noSteps) :: L) W) : NS W := by
  obtain ⟨ps, ⟨g0, t0, cs0, f0, p0, q0, hg0, ht0, hv0, hd0, _, _⟩, _⟩ := h
  obtain rfl := Option.some.inj (gSteps.symm.trans hg0)
  obtain rfl := Option.some.inj (tSteps.symm.trans ht0)
  have hcell := World.var?_cell hg0 hv0
  obtain ⟨y0, y1, n, hx, hl, h0, h1⟩ := trod_struct2 Tryd.underlying107 hd0
  rw [cSteps] at hl
  obtain ⟨l⟩ := cs0
  simp only [Rows.laid_loop_example_g00007_impl_noSteps, Prod.mk.injEq, DataW.agg.injEq, List.cons.injEq, and_true] at hx
  obtain ⟨⟨hx0, hx1⟩, _⟩ := hx
  have p0 := arr_of_trod h0 hx0.symm
  have p1 := arr_of_trod h1 hx1.symm
  rw [cArr] at p0 p1
  match l, hl with
  | [c0, c1, c2, c3], _ =>
    simp at p0 p1
    obtain ⟨rfl, rfl⟩ := p0
    obtain ⟨rfl, rfl⟩ := p1
    exact ⟨hcell 0, hcell 1, hcell 2, hcell 3⟩
/-- Both tables, where they stand in the second and third place. -/
theorem bothG_of_laid {W : World} {x : String × DataW Unit} {L : List (String × DataW Unit)} (h : laidMet Tryd.prog (x :: ("loop.example/g00007/impl.limbTens", Rows.laid_loop_example_g00007_impl_limbTens) :: ("loop.example/g00007/impl.noSteps", Rows.laid_loop_example_g00007_impl_noSteps) :: L) W) : LT W ∧ NS W :=
  ⟨lt_of_laid h, ns_of_laid (laidMet_tail (laidMet_tail h))⟩
end Go.Proofs.YtgihbpfgdmeegaaDoor
