import Derived.Test.YtdngpnlbhadbpaaTrW
namespace Go.Proofs.Ytdngpnlbhadbpaa
open Go.ChangeShapes Go.WideShapes Go.ChangeAt Go.RowKit
theorem wordOk_other {k : Int} (h : k < 1 ∨ 7 < k) (t : List UInt8) : wordOk k t = false := by
  unfold wordOk
  rw [if_neg (by omega), if_neg (by omega), if_neg (by omega), if_neg (by omega), if_neg (by omega), if_neg (by omega), if_neg (by omega)]
end Go.Proofs.Ytdngpnlbhadbpaa
