import Derived.Test.YtgihbpfgdmeegaaDoorCmpT
import Derived.Test.YtgihbpfgdmeegaaDoorCmpU
import Derived.Test.YtgihbpfgdmeegaaDoorCmpV
import Derived.Test.YtgihbpfgdmeegaaDoorCmpW
import Derived.Test.YtgihbpfgdmeegaaDoorCmpX
import Derived.Test.YtgihbpfgdmeegaaDoorCmpY
import Derived.Test.YtgihbpfgdmeegaaDoorCmpImpl
namespace Go.Proofs.YtgihbpfgdmeegaaDoor
open Go.ChangeShapes Go.WideShapes Go.ChangeAt Go.RowKit
theorem cmpL_anti (a b : List Nat) (ha : okL a) (hb : okL b) (ta : isTrim a) (tb : isTrim b) : cmpL b a = -cmpL a b := by
  rw [cmpL_ord a b ha hb ta tb, cmpL_ord b a hb ha tb ta]
  unfold ord
  split <;> split <;> (try split) <;> omega
theorem IsZ.form {B : Nat} {w : World} {z : Value} {na : Bool} {a : List Nat} (h : IsZ B w z na a) : ∃ x xn p l c, z = .agg #[.int .i64 x, .bool xn, .slice p l c] ∧ ngZ x xn l = negOf na a ∧ (l = 0 → z = .agg #[.int .i64 (sg na (val a)), .bool false, .slice none 0 0]) := by
  obtain ⟨h1, h2, h3⟩ := h
  rcases h3 with ⟨h3, v, rfl, p, c, rfl, _⟩ | ⟨h3, rfl⟩
  · refine ⟨_, _, _, _, _, rfl, ?_, fun e => by omega⟩
    unfold ngZ negOf
    have : 0 < a.length := by omega
    simp [this]
  · exact ⟨_, _, _, _, _, rfl, (negOf_small na a h3 h1 h2).symm, fun _ => rfl⟩
theorem l1Cmp_any (B : Nat) (za zb : Value) (na nb : Bool) (a b : List Nat) (w : World) (hBw : B ≤ w.heap.size) (hza : IsZ B w za na a) (hzb : IsZ B w zb nb b) :
    Calls Tryd.prog 63 #[za, zb] w fun e w' => e = .returned (.int .i64 (cmpI (negOf na a) (negOf nb b) a b)) ∧ Below w.heap.size w w' := by
  have hoa := hza.1; have hob := hzb.1; have hta := hza.2.1; have htb := hzb.2.1
  obtain ⟨x, xn, pa, la, ca, rfl, fa, ga⟩ := hza.form
  obtain ⟨y, yn, pb, lb, cb, rfl, fb, gb⟩ := hzb.form
  by_cases h0 : la = 0 ∧ lb = 0
  · rw [ga h0.1, gb h0.2, cmpI_ord na nb a b hoa hob hta htb]
    exact l1Cmp_small _ _ w
  have hz : ((la : Int) == 0) = false ∨ (((la : Int) == 0) = true ∧ ((lb : Int) == 0) = false) := by
    by_cases h : la = 0
    · exact .inr ⟨by rw [beq_iff_eq]; omega, by rw [beq_eq_false_iff_ne]; omega⟩
    · exact .inl (by rw [beq_eq_false_iff_ne]; omega)
  cases ea : negOf na a <;> cases eb : negOf nb b
  · rw [ea] at fa; rw [eb] at fb
    show Calls _ _ _ _ fun e w' => e = .returned (.int .i64 (cmpL a b)) ∧ _
    rcases hz with hz | ⟨hz, hz2⟩
    · exact l1Cmp_s1f B x y xn yn pa la ca pb lb cb na nb a b w hBw hz hza hzb fa fb
    · exact l1Cmp_s2f B x y xn yn pa la ca pb lb cb na nb a b w hBw hz hz2 hza hzb fa fb
  · rw [ea] at fa; rw [eb] at fb
    show Calls _ _ _ _ fun e w' => e = .returned (.int .i64 (1)) ∧ _
    rcases hz with hz | ⟨hz, hz2⟩
    · exact l1Cmp_ft1 x y xn yn pa la ca pb lb cb w hz fa fb
    · exact l1Cmp_ft2 x y xn yn pa la ca pb lb cb w hz hz2 fa fb
  · rw [ea] at fa; rw [eb] at fb
    show Calls _ _ _ _ fun e w' => e = .returned (.int .i64 (-1)) ∧ _
    rcases hz with hz | ⟨hz, hz2⟩
    · exact l1Cmp_tf1 x y xn yn pa la ca pb lb cb w hz fa fb
    · exact l1Cmp_tf2 x y xn yn pa la ca pb lb cb w hz hz2 fa fb
  · rw [ea] at fa; rw [eb] at fb
    show Calls _ _ _ _ fun e w' => e = .returned (.int .i64 (cmpL b a)) ∧ _
    rw [cmpL_anti a b hoa hob hta htb]
    rcases hz with hz | ⟨hz, hz2⟩
    · exact l1Cmp_s1t B x y xn yn pa la ca pb lb cb na nb a b w hBw hz hza hzb fa fb
    · exact l1Cmp_s2t B x y xn yn pa la ca pb lb cb na nb a b w hBw hz hz2 hza hzb fa fb
end Go.Proofs.YtgihbpfgdmeegaaDoor
