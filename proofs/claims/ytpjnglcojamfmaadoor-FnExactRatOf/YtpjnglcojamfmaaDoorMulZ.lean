import Derived.Test.YtpjnglcojamfmaaDoorAddS
namespace Go.Proofs.YtpjnglcojamfmaaDoor
open Go.ChangeShapes Go.WideShapes Go.ChangeAt Go.RowKit
theorem isN_small (B : Nat) (w : World) (x : Int) (h1 : -1000000000000000000 < x) (h2 : x < 1000000000000000000) : IsN B w (.agg #[.int .i64 x, .bool false, .slice none 0 0]) x := by
  have e0 : sg (decide (x < 0)) (val (two x.natAbs)) = x := by
    rw [two_val]
    unfold sg
    by_cases h : x < 0 <;> simp [h] <;> omega
  exact ⟨decide (x < 0), two x.natAbs, ⟨two_ok _ (by omega), two_trim _, .inr ⟨two_len _, by rw [e0]⟩⟩, e0⟩
end Go.Proofs.YtpjnglcojamfmaaDoor
