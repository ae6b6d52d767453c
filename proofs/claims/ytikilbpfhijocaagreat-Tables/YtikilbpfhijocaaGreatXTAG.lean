import Derived.Laws.MakeOwn
import Derived.Deep.AppendSrc
import Derived.OwnWalk
import Derived.Test.YtikilbpfhijocaaGreatXTMixG
namespace Go.Proofs.YtikilbpfhijocaaGreat
open Go.RowKit
set_option maxRecDepth 100000
set_option maxHeartbeats 8000000
section
def fr (m:Nat) (f:Nat→Value):Array Value:=((List.range m).map f).toArray
end
end Go.Proofs.YtikilbpfhijocaaGreat