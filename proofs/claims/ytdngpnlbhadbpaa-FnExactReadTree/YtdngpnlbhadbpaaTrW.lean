import Derived.Test.YtdngpnlbhadbpaaTrP
import Derived.Test.YtdngpnlbhadbpaaTrBx
namespace Go.Proofs.Ytdngpnlbhadbpaa
open Go.ChangeShapes Go.WideShapes Go.ChangeAt Go.RowKit
set_option linter.unusedSimpArgs false
theorem wordOk2 (t : List UInt8) : wordOk 2 t = t.all barB := rfl
theorem wordOk6 (t : List UInt8) : wordOk 6 t = t.all textB := rfl
theorem wordOk5 {s : ByteArray} (h : 0 < s.size) : wordOk 5 s.data.toList = s.data.toList.all bitB := by
  show (!s.data.toList.isEmpty && s.data.toList.all bitB) = _
  rw [data_ne h]; rfl
theorem wordOk7 {s : ByteArray} (h : 0 < s.size) : wordOk 7 s.data.toList = s.data.toList.all nameB := by
  show (!s.data.toList.isEmpty && s.data.toList.all nameB) = _
  rw [data_ne h]; rfl
theorem wordOk5n {s : ByteArray} (h : s.size = 0) : wordOk 5 s.data.toList = false := by rw [data_nil h]; rfl
theorem wordOk7n {s : ByteArray} (h : s.size = 0) : wordOk 7 s.data.toList = false := by rw [data_nil h]; rfl
end Go.Proofs.Ytdngpnlbhadbpaa
