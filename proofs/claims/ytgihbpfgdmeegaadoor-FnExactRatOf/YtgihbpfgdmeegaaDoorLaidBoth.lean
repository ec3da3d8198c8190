import Derived.Test.YtgihbpfgdmeegaaDoorRows
import Derived.Test.YtgihbpfgdmeegaaDoorM6
import Derived.Test.YtgihbpfgdmeegaaDoorAppendLimb
import Derived.Test.YtgihbpfgdmeegaaDoorSpecSum
import Derived.LaidMore
import Derived.Lay
import Derived.ChangeVars
import Derived.OpenShut
namespace Go.Proofs.YtgihbpfgdmeegaaDoor
open Go.ChangeShapes Go.WideShapes Go.ChangeAt Go.RowKit
theorem gTens : Tryd.prog.globalNamed "loop.example/g00007/impl.limbTens" = some 0 := by kernel_rfl
theorem tTens : (Tryd.prog.globals[0]?).map (·.type) = some 92 := by kernel_rfl
def tensZ : List Int := [100000000, 10000000, 1000000, 100000, 10000, 1000, 100, 10, 1]
theorem tensZ_eq (j : Nat) (h : j < 9) : tensZ.getD j 0 = (tens j : Nat) := by
  match j, h with
  | 0, _ | 1, _ | 2, _ | 3, _ | 4, _ | 5, _ | 6, _ | 7, _ | 8, _ => rfl
/-- What the second place of a laid list gives: the table of tens. -/
theorem lt_of_laid {W : World} {n0 : String} {d0 : DataW Unit} {L : List (String × DataW Unit)} (h : laidMet Tryd.prog ((n0, d0) :: ("loop.example/g00007/impl.limbTens", Rows.laid_loop_example_g00007_impl_limbTens) :: L) W) : LT W := by
  obtain ⟨ps, ⟨g0, t0, cs0, f0, p0, q0, _, _, _, _, ⟨g, t, cs, fuel, p, q, hg, ht, hv, hd, _, _⟩, _⟩, _⟩ := h
  obtain rfl := Option.some.inj (gTens.symm.trans hg)
  obtain rfl := Option.some.inj (tTens.symm.trans ht)
  obtain ⟨xs, m, _, ex, _, hl, hel⟩ := DataW.trod_array Tryd.underlying92 hd
  have c5 : Tryd.prog.cellsOf 56 = 1 := by kernel_rfl
  intro r hr
  have hE := hel r hr
  rw [c5, Nat.mul_one, List.getElem?_eq_getElem (by omega)] at hE
  obtain ⟨z, e1, e2, _⟩ := DataW.trod_int Tryd.underlying56 hE
  have hlen : tensZ.length = 9 := rfl
  have e3 : (xs.map (·.1)) = tensZ.map fun n => .lit (.int .u32 n) := (DataW.agg.inj (Prod.mk.inj ex).1).symm
  have e4 : (xs.map (·.1))[r]? = (tensZ.map fun n => (DataW.lit (.int .u32 n) : DataW Unit))[r]? := by rw [e3]
  rw [List.getElem?_map, List.getElem?_map, List.getElem?_eq_getElem (by omega : r < xs.length), List.getElem?_eq_getElem (by omega : r < tensZ.length), e2] at e4
  have hz : z = tensZ.getD r 0 := by
    simp only [Option.map_some, Option.some.injEq, DataW.lit.injEq, Lit.int.injEq, true_and] at e4
    rw [e4, List.getD, List.getElem?_eq_getElem (by omega : r < tensZ.length)]; rfl
  rw [World.var?_cell hg hv r, ← tensZ_eq r hr, ← hz]
  have : cs.toList[r]? = some (.int .u32 z) := by
    have h0 : ((cs.toList.drop r).take 1)[0]? = some (.int .u32 z) := by rw [e1]; rfl
    simpa using h0
  simpa using this
theorem laidMet_tail {P : Program} {x : String × DataW Unit} {L : List (String × DataW Unit)} {W : World} (h : laidMet P (x :: L) W) : laidMet P L W := by
  obtain ⟨ps, ⟨g, t, cs, fuel, p, q, _, _, _, _, hq, rfl⟩, hnd, hall⟩ := h
  exact ⟨q, hq, (List.nodup_append.1 hnd).2.1, fun b off hm => hall b off (List.mem_append_right _ hm)⟩
/-- Both tables, where they stand in the second and third place. -/
theorem both_of_laid {W : World} {x : String × DataW Unit} {L : List (String × DataW Unit)} (h : laidMet Tryd.prog (x :: ("loop.example/g00007/impl.limbTens", Rows.laid_loop_example_g00007_impl_limbTens) :: ("loop.example/g00007/impl.signPairs", Rows.laid_loop_example_g00007_impl_signPairs) :: L) W) : LT W ∧ SP W :=
  ⟨lt_of_laid h, sp_of_laid (laidMet_tail (laidMet_tail h))⟩
theorem IsRes.eq {f : Int → Int → Int} {s t u v : ByteArray} (hu : IsRes f s t u) (hv : IsRes f s t v) : u = v := by
  unfold IsRes at hu hv
  split at hu
  · rename_i h
    rw [if_pos h] at hv
    exact hu.eq hv
  · rename_i h
    rw [if_neg h] at hv
    rw [hu, hv]
end Go.Proofs.YtgihbpfgdmeegaaDoor
