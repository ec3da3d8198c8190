import Derived.Test.YtpimiboiogfhbaaAddS
namespace Go.Proofs.Ytpimiboiogfhbaa
open Go.ChangeShapes Go.WideShapes Go.ChangeAt Go.RowKit
end Go.Proofs.Ytpimiboiogfhbaa
