import Derived.Test.YtdngpnlbhadbpaaTrY
namespace Go.Proofs.Ytdngpnlbhadbpaa
open Go.ChangeShapes Go.WideShapes Go.ChangeAt Go.RowKit
/-- A slice of nodes: none, or a row that begins its block. -/
def IsNodes (w : World) (v : Value) (ns : List (Nd × Int)) : Prop :=
  ∃ p c, v = .slice p ns.length c ∧ ns.length ≤ c ∧ c ≤ maxLen ∧ (ns = [] ∨ ∃ b, p = some ⟨b, 0, none⟩ ∧ b < w.heap.size ∧ NodesAt w b ns)
theorem fits_many {ns : List (Nd × Int)} (h : 8000 < ns.length) : fits (ns.map Prod.fst) = false := by
  unfold fits; rw [decide_eq_false (by simp; omega)]; rfl
theorem fits_few {ns : List (Nd × Int)} (h : ns.length ≤ 8000) : fits (ns.map Prod.fst) = fitF (ns.map Prod.fst) 0 [] := by
  unfold fits; rw [decide_eq_true (by simpa using h)]; rfl
end Go.Proofs.Ytdngpnlbhadbpaa
