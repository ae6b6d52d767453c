import Derived.Deep.QuietTactic
import Derived.BigQuiet
import Derived.Test.YtdomjicpdbblnaaXAOf
import Derived.Test.YtdomjicpdbblnaaXAByt
import Derived.Test.YtdomjicpdbblnaaXAEq
namespace Go.Proofs.Ytdomjicpdbblnaa
open Go.RowKit
set_option maxRecDepth 100000
set_option maxHeartbeats 8000000
section
attribute [local go_sem ↓] uz1
attribute [local go_sem] uz2
section
attribute [local go_sem] nw_ext9 nw_ext18 eqArr9
theorem bl_le_pw(a n:Nat):bl a≤64*n↔a<pw n:=bl_le a (64*n)
theorem lt_M_of_bl(a:Nat)(h:a<M):bl a≤576:=(bl_le_pw a 9).2 h
end
end
end Go.Proofs.Ytdomjicpdbblnaa