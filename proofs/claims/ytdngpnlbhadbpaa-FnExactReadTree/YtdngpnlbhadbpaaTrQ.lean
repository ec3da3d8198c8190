import Derived.Test.YtdngpnlbhadbpaaTrS
namespace Go.Proofs.Ytdngpnlbhadbpaa
open Go.ChangeShapes Go.WideShapes Go.ChangeAt Go.RowKit
theorem strOf_bits (s : ByteArray) : (⟨#[35, 98]⟩ ++ s : ByteArray) = strOf (35 :: 98 :: s.data.toList) := by
  apply ByteArray.ext; apply Array.ext'; simp [strOf]
theorem strOf_key (s : ByteArray) : (⟨#[58]⟩ ++ s : ByteArray) = strOf (58 :: s.data.toList) := by
  apply ByteArray.ext; apply Array.ext'; simp [strOf]
end Go.Proofs.Ytdngpnlbhadbpaa
