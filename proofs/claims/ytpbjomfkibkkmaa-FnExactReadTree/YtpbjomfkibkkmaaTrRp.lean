import Derived.Test.YtpbjomfkibkkmaaTrIs
import Derived.Shelf.Strings.Replace
namespace Go.Proofs.Ytpbjomfkibkkmaa
open Go.Shelf Go.RowKit
end Go.Proofs.Ytpbjomfkibkkmaa
