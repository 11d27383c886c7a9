
import Derived.Test.YtlkeohljplfmfaaNodeWalks
import Derived.Test.YtlkeohljplfmfaaNumWalks
namespace Go.Proofs.Ytlkeohljplfmfaa
open Go.RowKit

end Go.Proofs.Ytlkeohljplfmfaa
