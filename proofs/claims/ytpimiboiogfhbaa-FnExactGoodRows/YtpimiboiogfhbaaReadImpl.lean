import Derived.Test.YtpimiboiogfhbaaM1
import Derived.Maps.AppendAt
namespace Go.Proofs.Ytpimiboiogfhbaa
open Go.ChangeShapes Go.WideShapes Go.ChangeAt Go.RowKit
theorem Try.info_u32 : (Try.prog.info? 48).map (fun i => (i.zero, i.size, i.bytes)) = some (some (.int .u32 0), 1, 4) := by kernel_rfl
theorem isIntB_dig (s : ByteArray) (h : isIntB s = true) : (∀ c ∈ (dgs s).data.toList, dig c) ∧ 0 < (dgs s).size ∧ (dgs s).size ≤ 2500 := by
  unfold isIntB at h
  simp only [Bool.and_eq_true, decide_eq_true_eq] at h
  obtain ⟨⟨⟨h1, h2⟩, h3⟩, _⟩ := h
  refine ⟨fun c hc => ?_, h1, h2⟩
  rw [List.all_eq_true] at h3
  have := h3 c hc
  simpa [isDig, dig] using this
theorem isNeg_size (s : ByteArray) : decide ((dgs s).size < s.size) = isNeg s := by
  cases h : isNeg s with
  | true =>
    obtain ⟨h0, _⟩ := isNeg_yes s h
    rw [dgs_neg s h, ext_size]
    simp; omega
  | false => rw [dgs_pos s h]; simp
/-- Row k of the chunks, as the loop reads it. -/
theorem chunk_ext (d : ByteArray) (k : Nat) : num (d.extract (d.size - 9 * k - 9) (d.size - 9 * k)).data.toList = chunk d.data.toList k := by
  unfold chunk
  rw [Lib.extract_data, ← Lib.size_eq]
  congr 1
  rw [List.drop_take]
end Go.Proofs.Ytpimiboiogfhbaa
