import Derived.Laws.IdiomCopy
import Derived.Test.YtgpfabihgjhefaaXUShl
import Derived.Test.YtgpfabihgjhefaaXUMixG
namespace Go.Proofs.Ytgpfabihgjhefaa
open Go.RowKit
set_option maxRecDepth 100000
set_option maxHeartbeats 8000000
section
attribute [local go_sem] nw_size nw_elem
theorem blk_other (w:World) (b c:Nat) (d:Array Value) (h:¬ b=c):blk (setBlk w b d) c=blk w c:=by
 refine blk_of _ _ _ ?_
 simp [setBlk,Array.getElem?_modify,h]
end
end Go.Proofs.Ytgpfabihgjhefaa