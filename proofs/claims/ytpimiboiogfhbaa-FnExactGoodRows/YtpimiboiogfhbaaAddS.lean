import Derived.Test.YtpimiboiogfhbaaM8
namespace Go.Proofs.Ytpimiboiogfhbaa
open Go.ChangeShapes Go.WideShapes Go.ChangeAt Go.RowKit
theorem hide {p : Prop} (h : p) : Hid p := h
end Go.Proofs.Ytpimiboiogfhbaa
