import Derived.Test.YtdphpfffofeklaaDoorLrA
namespace Go.Proofs.YtdphpfffofeklaaDoor.L
open Go.ChangeShapes Go.WideShapes Go.ChangeAt Go.RowKit
/-- Rows, as far as they are laid. -/
def LaidR (wr : World) (N : Nat) (xs : List Value) (F : List Lr) (i : Nat) : Prop :=
  ∀ j (h : j < F.length), j < i → (∃ va, xs[j * 3]? = some va ∧ wr.ownsRow N 9 1 va F[j].cs.length (strsC F[j].cs)) ∧ xs[j * 3 + 1]? = some (.bool F[j].st) ∧ xs[j * 3 + 2]? = some (.string (strOf F[j].bd))
theorem LaidR.next {wr wr' : World} {N : Nat} {xs : List Value} {F : List Lr} {i : Nat} (hx : xs.length = F.length * 3) (h : LaidR wr N xs F i) (hi : i < F.length) {va : Value} (hk : ∀ k, N ≤ k → k < wr.heap.size → wr'.heap[k]? = wr.heap[k]?) (hva : wr'.ownsRow N 9 1 va F[i].cs.length (strsC F[i].cs)) :
    LaidR wr' N (((xs.set (i * 3) va).set (i * 3 + 1) (.bool F[i].st)).set (i * 3 + 2) (.string (strOf F[i].bd))) F (i + 1) := by
  intro j hj hji
  by_cases e : j = i
  · subst e
    refine ⟨⟨va, ?_, hva⟩, ?_, ?_⟩
    · rw [List.getElem?_set_ne (by omega), List.getElem?_set_ne (by omega), List.getElem?_set_self (by omega)]
    · rw [List.getElem?_set_ne (by omega), List.getElem?_set_self (by simp; omega)]
    · rw [List.getElem?_set_self (by simp; omega)]
  · obtain ⟨⟨vb, h0, hb⟩, h1, h2⟩ := h j hj (by omega)
    refine ⟨⟨vb, ?_, own_other' hb (fun g hg => hk g (own_base hb g hg) (hb.lt g hg).2)⟩, ?_, ?_⟩ <;> rw [List.getElem?_set_ne (by omega), List.getElem?_set_ne (by omega), List.getElem?_set_ne (by omega)] <;> assumption
end Go.Proofs.YtdphpfffofeklaaDoor.L
