import Derived.Test.YtdngpnlbhadbpaaTrIs
import Derived.Shelf.Strings.Replace
namespace Go.Proofs.Ytdngpnlbhadbpaa
open Go.Shelf Go.RowKit
end Go.Proofs.Ytdngpnlbhadbpaa
