import Derived.Test.YtdngpnlbhadbpaaTrTk
import Derived.Test.YtdngpnlbhadbpaaTrL
namespace Go.Proofs.Ytdngpnlbhadbpaa
open Go.ChangeShapes Go.WideShapes Go.ChangeAt Go.RowKit
end Go.Proofs.Ytdngpnlbhadbpaa
