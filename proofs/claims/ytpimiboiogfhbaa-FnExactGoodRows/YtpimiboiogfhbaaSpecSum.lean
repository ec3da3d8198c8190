import Derived.Test.YtpimiboiogfhbaaAddG
import Derived.Test.YtpimiboiogfhbaaAddH
import Derived.Test.YtpimiboiogfhbaaM8
namespace Go.Proofs.Ytpimiboiogfhbaa
open Go.ChangeShapes Go.WideShapes Go.ChangeAt Go.RowKit
theorem IsZ.form2 {B : Nat} {w : World} {z : Value} {na : Bool} {a : List Nat} (h : IsZ B w z na a) : ∃ x xn p l c, z = .agg #[.int .i64 x, .bool xn, .slice p l c] ∧ ngZ x xn l = negOf na a ∧ (l = 0 → a.length ≤ 2 ∧ z = .agg #[.int .i64 (sg na (val a)), .bool false, .slice none 0 0]) := by
  obtain ⟨h1, h2, h3⟩ := h
  rcases h3 with ⟨h3, v, rfl, p, c, rfl, _⟩ | ⟨h3, rfl⟩
  · refine ⟨_, _, _, _, _, rfl, ?_, fun e => by omega⟩
    unfold ngZ negOf
    have : 0 < a.length := by omega
    simp [this]
  · exact ⟨_, _, _, _, _, rfl, (negOf_small na a h3 h1 h2).symm, fun _ => ⟨h3, rfl⟩⟩
/-- A text's number. -/
def numT (s : ByteArray) : Int := sg (isNeg s) (val (lim s))
/-- The text of a number. -/
def IsText (x : Int) (u : ByteArray) : Prop := ∃ neg t, okL t ∧ isTrim t ∧ sg neg (val t) = x ∧ u = textT (negOf neg t) t
theorem IsText.eq {x : Int} {u v : ByteArray} (hu : IsText x u) (hv : IsText x v) : u = v := by
  obtain ⟨n, t, h1, h2, h3, rfl⟩ := hu
  obtain ⟨m, r, k1, k2, k3, rfl⟩ := hv
  have hval : val t = val r := by
    have h := h3.trans k3.symm
    cases n <;> cases m <;> simp [sg] at h <;> omega
  obtain rfl := val_inj t r h1 k1 h2 k2 hval
  have hn : negOf n t = negOf m t := by
    by_cases h : t = []
    · subst h; simp [negOf]
    · have hp := val_pos t h2 h
      have h := h3.trans k3.symm
      cases n <;> cases m <;> simp [sg] at h <;> first | rfl | omega
  rw [hn]
def IsRes (f : Int → Int → Int) (s t u : ByteArray) : Prop := if isIntB s = true ∧ isIntB t = true then IsText (f (numT s) (numT t)) u else u = strB []
theorem lim_len (s : ByteArray) (h : isIntB s = true) : (lim s).length ≤ 300 := by
  have h1 : (dgs s).size ≤ 2500 := by
    by_cases h2 : 2500 < (dgs s).size
    · rw [isInt_long s _ rfl h2] at h; cases h
    · omega
  have h3 := trimL_len (chunks (dgs s).data.toList)
  have h4 : (chunks (dgs s).data.toList).length = cnt (dgs s).data.toList.length := by simp [chunks]
  have h5 : (dgs s).data.toList.length = (dgs s).size := by simp
  unfold lim
  rw [h4, h5] at h3
  have h6 : cnt (dgs s).size ≤ 300 := by unfold cnt; omega
  omega
end Go.Proofs.Ytpimiboiogfhbaa
