import Derived.Laws.MakeOwn
import Derived.Deep.AppendSrc
import Derived.OwnWalk
import Derived.Test.YtdomjicpdbblnaaXAMixG
namespace Go.Proofs.Ytdomjicpdbblnaa
open Go.RowKit
set_option maxRecDepth 100000
set_option maxHeartbeats 8000000
section
def fr(m:Nat)(f:Nat→Value):Array Value:=((List.range m).map f).toArray
structure Rx(w:World)(g n cap:Nat)(f:Nat→Value):Prop where
 lt:g<w.heap.size
 le:n≤cap
 cell:∀i,i<n→w.cell? ⟨g,i,none⟩=some (f i)
 room:∀i,i<cap→(w.cell? ⟨g,i,none⟩).isSome=true∧w.frozen? ⟨g,i,none⟩=false
end
end Go.Proofs.Ytdomjicpdbblnaa