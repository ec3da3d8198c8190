import Derived.Test.YtdngpnlbhadbpaaTrYa
namespace Go.Proofs.Ytdngpnlbhadbpaa
open Go.ChangeShapes Go.WideShapes Go.ChangeAt Go.RowKit
theorem tokT_other {k : Int} (h : k < 1 ∨ 7 < k) (t : List UInt8) : tokT k t = [] := by
  unfold tokT
  rw [if_neg (by omega), if_neg (by omega), if_neg (by omega), if_neg (by omega), if_neg (by omega), if_neg (by omega)]
end Go.Proofs.Ytdngpnlbhadbpaa
