import Derived.Test.YtpbjomfkibkkmaaTrTk
import Derived.Test.YtpbjomfkibkkmaaTrL
namespace Go.Proofs.Ytpbjomfkibkkmaa
open Go.ChangeShapes Go.WideShapes Go.ChangeAt Go.RowKit
end Go.Proofs.Ytpbjomfkibkkmaa
