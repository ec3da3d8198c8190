import Derived.Test.YtdngpnlbhadbpaaTrRk
namespace Go.Proofs.Ytdngpnlbhadbpaa
open Go.ChangeShapes Go.WideShapes Go.ChangeAt Go.RowKit
theorem fitF_step {n : Nd} {r : List Nd} {z : Nat} {l : List Int} (h : fitF (n :: r) z l = true) : z + n.text.size ≤ 20000 ∧ nodeOk n = true ∧ ¬ (n.kind = 1 ∧ l.length = 200) ∧ fitF r (z + n.text.size) (stepL n l) = true := by
  rw [fitF_cons] at h
  split at h
  · cases h
  · rename_i hc
    refine ⟨by omega, ?_, fun e => hc (.inr (.inr e)), h⟩
    cases hk : nodeOk n with
    | true => rfl
    | false => exact absurd (.inr (.inl hk)) hc
theorem stepL_len {n : Nd} {l : List Int} (h : l.length ≤ 200) (h1 : ¬ (n.kind = 1 ∧ l.length = 200)) : (stepL n l).length ≤ 200 ∧ closedL n l ≤ 201 := by
  have e1 := popZ_len (pushL n l)
  have e2 := pushL_len n l
  unfold closedL stepL
  split at e2
  · rename_i hk
    have : l.length ≠ 200 := fun e => h1 ⟨hk, e⟩
    omega
  · omega
theorem cells_of {W : World} {g : Nat} {v0 v1 v2 v3 : Value} {t : TypeId} (h : W.heap[g]? = some (.cells #[v0, v1, v2, v3] t (0, 0))) : W.cell? ⟨g, 0, none⟩ = some v0 ∧ W.cell? ⟨g, 1, none⟩ = some v1 ∧ W.cell? ⟨g, 2, none⟩ = some v2 ∧ W.cell? ⟨g, 3, none⟩ = some v3 := by
  refine ⟨?_, ?_, ?_, ?_⟩ <;> rw [Lib.cell_of_heap h] <;> rfl
theorem byteCells_snoc (l : List UInt8) (c : UInt8) : Lib.byteCells l ++ [Value.int .u8 (c.toNat : Int)] = Lib.byteCells (l ++ [c]) := by simp [Lib.byteCells]
end Go.Proofs.Ytdngpnlbhadbpaa
