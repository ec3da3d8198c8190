import Derived.Test.YtpjnglcojamfmaaDoorRows
import Derived.Test.YtpjnglcojamfmaaDoorM6
import Derived.Test.YtpjnglcojamfmaaDoorAppendLimb
import Derived.Test.YtpjnglcojamfmaaDoorSpecSum
import Derived.LaidMore
import Derived.Lay
import Derived.ChangeVars
import Derived.OpenShut
import Derived.Test.YtpjnglcojamfmaaDoorGcdI
namespace Go.Proofs.YtpjnglcojamfmaaDoor
open Go.ChangeShapes Go.WideShapes Go.ChangeAt Go.RowKit
theorem gTens : Tryd.prog.globalNamed "loop.example/g00007/impl.limbTens" = some 3 := by kernel_rfl
theorem tTens : (Tryd.prog.globals[3]?).map (·.type) = some 116 := by kernel_rfl
def tensZ : List Int := [100000000, 10000000, 1000000, 100000, 10000, 1000, 100, 10, 1]
theorem tensZ_eq (j : Nat) (h : j < 9) : tensZ.getD j 0 = (tens j : Nat) := by
  match j, h with
  | 0, _ | 1, _ | 2, _ | 3, _ | 4, _ | 5, _ | 6, _ | 7, _ | 8, _ => rfl
/-- What the second place of a laid list gives: the table of tens. -/
theorem lt_of_laid {W : World} {n0 : String} {d0 : DataW Unit} {L : List (String × DataW Unit)} (h : laidMet Tryd.prog ((n0, d0) :: ("loop.example/g00007/impl.limbTens", Rows.laid_loop_example_g00007_impl_limbTens) :: L) W) : LT W := by
  obtain ⟨ps, ⟨g0, t0, cs0, f0, p0, q0, _, _, _, _, ⟨g, t, cs, fuel, p, q, hg, ht, hv, hd, _, _⟩, _⟩, _⟩ := h
  obtain rfl := Option.some.inj (gTens.symm.trans hg)
  obtain rfl := Option.some.inj (tTens.symm.trans ht)
  obtain ⟨xs, m, _, ex, _, hl, hel⟩ := DataW.trod_array Tryd.underlying116 hd
  have c5 : Tryd.prog.cellsOf 51 = 1 := by kernel_rfl
  intro r hr
  have hE := hel r hr
  rw [c5, Nat.mul_one, List.getElem?_eq_getElem (by omega)] at hE
  obtain ⟨z, e1, e2, _⟩ := DataW.trod_int Tryd.underlying51 hE
  have hlen : tensZ.length = 9 := rfl
  have e3 : (xs.map (·.1)) = tensZ.map fun n => .lit (.int .u32 n) := (DataW.agg.inj (Prod.mk.inj ex).1).symm
  have e4 : (xs.map (·.1))[r]? = (tensZ.map fun n => (DataW.lit (.int .u32 n) : DataW Unit))[r]? := by rw [e3]
  rw [List.getElem?_map, List.getElem?_map, List.getElem?_eq_getElem (by omega : r < xs.length), List.getElem?_eq_getElem (by omega : r < tensZ.length), e2] at e4
  have hz : z = tensZ.getD r 0 := by
    simp only [Option.map_some, Option.some.injEq, DataW.lit.injEq, Lit.int.injEq, true_and] at e4
    rw [e4, List.getD, List.getElem?_eq_getElem (by omega : r < tensZ.length)]; rfl
  rw [World.var?_cell hg hv r, ← tensZ_eq r hr, ← hz]
  have : cs.toList[r]? = some (.int .u32 z) := by
    have h0 : ((cs.toList.drop r).take 1)[0]? = some (.int .u32 z) := by rw [e1]; rfl
    simpa using h0
  simpa using this
theorem laidMet_tail {P : Program} {x : String × DataW Unit} {L : List (String × DataW Unit)} {W : World} (h : laidMet P (x :: L) W) : laidMet P L W := by
  obtain ⟨ps, ⟨g, t, cs, fuel, p, q, _, _, _, _, hq, rfl⟩, hnd, hall⟩ := h
  exact ⟨q, hq, (List.nodup_append.1 hnd).2.1, fun b off hm => hall b off (List.mem_append_right _ hm)⟩
/-- Both tables, where they stand in the second and third place. -/
theorem both_of_laid {W : World} {x : String × DataW Unit} {L : List (String × DataW Unit)} (h : laidMet Tryd.prog (x :: ("loop.example/g00007/impl.limbTens", Rows.laid_loop_example_g00007_impl_limbTens) :: ("loop.example/g00007/impl.signPairs", Rows.laid_loop_example_g00007_impl_signPairs) :: L) W) : LT W ∧ SP W :=
  ⟨lt_of_laid h, sp_of_laid (laidMet_tail (laidMet_tail h))⟩
theorem IsRes.eq {f : Int → Int → Int} {s t u v : ByteArray} (hu : IsRes f s t u) (hv : IsRes f s t v) : u = v := by
  unfold IsRes at hu hv
  split at hu
  · rename_i h
    rw [if_pos h] at hv
    exact hu.eq hv
  · rename_i h
    rw [if_neg h] at hv
    rw [hu, hv]
end Go.Proofs.YtpjnglcojamfmaaDoor
namespace Go.Proofs.YtpjnglcojamfmaaDoor
open Go.ChangeShapes Go.WideShapes Go.ChangeAt Go.RowKit Go.Deep
theorem gSteps : Tryd.prog.globalNamed "loop.example/g00007/impl.noSteps" = some 0 := by kernel_rfl
theorem tSteps : (Tryd.prog.globals[0]?).map (·.type) = some 91 := by kernel_rfl
theorem cSteps : Tryd.prog.cellsOf 91 = 4 := by kernel_rfl
theorem cArr : Tryd.prog.cellsOf 89 = 2 := by kernel_rfl
theorem cI64 : Tryd.prog.cellsOf 2 = 1 := by kernel_rfl
set_option maxRecDepth 100000 in
theorem arr_of_trod {H : Type} {enc : TypeId × Value → H} {w : World} {base : Nat} {spare : Nat → Bool} {held : Bool} {fuel : Nat} {cs : List Value} {a c : Int} {x : DataW H × List MemPlace}
    (h : DataW.trod enc Tryd.prog w base spare held fuel 89 cs = some x) (hx : x.1 = .agg [.lit (.int .i64 a), .lit (.int .i64 c)]) : cs = [.int .i64 a, .int .i64 c] := by
  obtain ⟨xs, m, _, rfl, hl, hn, hel⟩ := DataW.trod_array Tryd.underlying89 h
  rw [cArr] at hl
  have e0 := hel 0 (by decide)
  have e1 := hel 1 (by decide)
  rw [cI64] at e0 e1
  match xs, hn with
  | [y0, y1], _ =>
    obtain ⟨n0, i0, j0, _⟩ := DataW.trod_int Tryd.underlying2 (show DataW.trod _ Tryd.prog w base spare held m 2 _ = some y0 from e0)
    obtain ⟨n1, i1, j1, _⟩ := DataW.trod_int Tryd.underlying2 (show DataW.trod _ Tryd.prog w base spare held m 2 _ = some y1 from e1)
    subst j0 j1
    simp only [List.map_cons, List.map_nil, DataW.agg.injEq, List.cons.injEq, DataW.lit.injEq, Lit.int.injEq, true_and, and_true] at hx
    obtain ⟨rfl, rfl⟩ := hx
    match cs, hl with
    | [c0, c1], _ =>
      simp at i0 i1
      rw [i0, i1]
set_option maxRecDepth 100000 in
theorem ns_of_laid {W : World} {L : List (String × DataW Unit)} (h : laidMet Tryd.prog (("loop.example/g00007/impl.noSteps", Rows.laid_loop_example_g00007_impl_noSteps) :: L) W) : NS W := by
  obtain ⟨ps, ⟨g0, t0, cs0, f0, p0, q0, hg0, ht0, hv0, hd0, _, _⟩, _⟩ := h
  obtain rfl := Option.some.inj (gSteps.symm.trans hg0)
  obtain rfl := Option.some.inj (tSteps.symm.trans ht0)
  have hcell := World.var?_cell hg0 hv0
  obtain ⟨y0, y1, n, hx, hl, h0, h1⟩ := trod_struct2 Tryd.underlying91 hd0
  rw [cSteps] at hl
  obtain ⟨l⟩ := cs0
  simp only [Rows.laid_loop_example_g00007_impl_noSteps, Prod.mk.injEq, DataW.agg.injEq, List.cons.injEq, and_true] at hx
  obtain ⟨⟨hx0, hx1⟩, _⟩ := hx
  have p0 := arr_of_trod h0 hx0.symm
  have p1 := arr_of_trod h1 hx1.symm
  rw [cArr] at p0 p1
  match l, hl with
  | [c0, c1, c2, c3], _ =>
    simp at p0 p1
    obtain ⟨rfl, rfl⟩ := p0
    obtain ⟨rfl, rfl⟩ := p1
    exact ⟨hcell 0, hcell 1, hcell 2, hcell 3⟩
/-- Both tables, where they stand in the second and third place. -/
theorem bothG_of_laid {W : World} {x : String × DataW Unit} {L : List (String × DataW Unit)} (h : laidMet Tryd.prog (x :: ("loop.example/g00007/impl.limbTens", Rows.laid_loop_example_g00007_impl_limbTens) :: ("loop.example/g00007/impl.noSteps", Rows.laid_loop_example_g00007_impl_noSteps) :: L) W) : LT W ∧ NS W :=
  ⟨lt_of_laid h, ns_of_laid (laidMet_tail (laidMet_tail h))⟩
end Go.Proofs.YtpjnglcojamfmaaDoor
namespace Go.Proofs.YtpjnglcojamfmaaDoor
open Go.ChangeShapes Go.WideShapes Go.ChangeAt Go.RowKit
theorem trodVars_three {H : Type} {enc : TypeId × Value → H} {P : Program} {w : World} {spare : Nat → Bool} {n0 n1 n2 : String} {gs : List (DataW H)} {ps : List MemPlace} (h : DataW.TrodVars enc P w spare [n0, n1, n2] gs ps) :
    ∃ g0 t0 cs0 f0 d0 p0 g1 t1 cs1 f1 d1 p1 g2 t2 cs2 f2 d2 p2, gs = [d0, d1, d2] ∧ P.globalNamed n0 = some g0 ∧ (P.globals[g0]?).map (·.type) = some t0 ∧ w.var? P n0 = some cs0 ∧ DataW.trod enc P w 0 spare true f0 t0 cs0.toList = some (d0, p0) ∧
      P.globalNamed n1 = some g1 ∧ (P.globals[g1]?).map (·.type) = some t1 ∧ w.var? P n1 = some cs1 ∧ DataW.trod enc P w 0 spare true f1 t1 cs1.toList = some (d1, p1) ∧
      P.globalNamed n2 = some g2 ∧ (P.globals[g2]?).map (·.type) = some t2 ∧ w.var? P n2 = some cs2 ∧ DataW.trod enc P w 0 spare true f2 t2 cs2.toList = some (d2, p2) ∧
      ps = MemPlace.row ⟨g0, 0, none⟩ cs0.size ++ p0 ++ (MemPlace.row ⟨g1, 0, none⟩ cs1.size ++ p1 ++ (MemPlace.row ⟨g2, 0, none⟩ cs2.size ++ p2)) := by
  cases gs with
  | nil => simp [DataW.TrodVars] at h
  | cons d ds =>
    obtain ⟨g0, t0, cs0, f0, p0, q0, h1, h2, h3, h4, hs, e⟩ := h
    obtain ⟨g1, t1, cs1, f1, d1, p1, g2, t2, cs2, f2, d2, p2, rfl, k1, k2, k3, k4, m1, m2, m3, m4, rfl⟩ := trodVars_two hs
    exact ⟨g0, t0, cs0, f0, d, p0, g1, t1, cs1, f1, d1, p1, g2, t2, cs2, f2, d2, p2, rfl, h1, h2, h3, h4, k1, k2, k3, k4, m1, m2, m3, m4, e⟩
/-- The three tables, where they stand in the second, third and fourth place. -/
theorem all3_of_laid {W : World} {x : String × DataW Unit} {L : List (String × DataW Unit)} (h : laidMet Tryd.prog (x :: ("loop.example/g00007/impl.limbTens", Rows.laid_loop_example_g00007_impl_limbTens) :: ("loop.example/g00007/impl.signPairs", Rows.laid_loop_example_g00007_impl_signPairs) :: ("loop.example/g00007/impl.noSteps", Rows.laid_loop_example_g00007_impl_noSteps) :: L) W) : LT W ∧ SP W ∧ NS W :=
  ⟨lt_of_laid h, sp_of_laid (laidMet_tail (laidMet_tail h)), ns_of_laid (laidMet_tail (laidMet_tail (laidMet_tail h)))⟩
end Go.Proofs.YtpjnglcojamfmaaDoor
