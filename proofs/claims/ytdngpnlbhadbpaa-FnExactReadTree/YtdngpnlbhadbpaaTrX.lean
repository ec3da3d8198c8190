import Derived.Test.YtdngpnlbhadbpaaTrK
import Derived.Test.YtdngpnlbhadbpaaTrV
namespace Go.Proofs.Ytdngpnlbhadbpaa
open Go.ChangeShapes Go.WideShapes Go.ChangeAt Go.RowKit
theorem numOk_nil {s : ByteArray} (h : s.size = 0) (dec : Bool) : numOk dec s.data.toList = false := by rw [data_nil h]; cases dec <;> rfl
theorem numOk_no {s : ByteArray} (h : 0 < s.size) (hd : dg s[0] = false) (dec : Bool) : numOk dec s.data.toList = false := by
  have e : runL dg s.data.toList = 0 := by
    have := runL_drop_zero (p := dg) (s := s) (k := 0) (fun _ => hd)
    simpa using this
  show (decide (0 < runL dg s.data.toList) && _ && _) = false
  rw [e]; simp
end Go.Proofs.Ytdngpnlbhadbpaa
