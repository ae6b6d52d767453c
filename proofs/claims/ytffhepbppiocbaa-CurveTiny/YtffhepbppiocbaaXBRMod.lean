import Derived.Test.YtffhepbppiocbaaXBRDivA
import Derived.Test.YtffhepbppiocbaaXBFB
namespace Go.Proofs.Ytffhepbppiocbaa
open Go.RowKit
set_option maxRecDepth 100000
set_option maxHeartbeats 8000000
section
attribute [local go_sem ↓] uz1
attribute [local go_sem] uz2
section
attribute [local go_sem ↓] bsl_is
def subM(a b m:Nat):Nat:=if b≤a then a-b else a+m-b
end
end
end Go.Proofs.Ytffhepbppiocbaa