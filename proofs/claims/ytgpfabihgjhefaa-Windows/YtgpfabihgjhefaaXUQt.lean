import Derived.Deep.QuietTactic
import Derived.BigQuiet
import Derived.Test.YtgpfabihgjhefaaXUShl
namespace Go.Proofs.Ytgpfabihgjhefaa
open Go.RowKit
set_option maxRecDepth 100000
set_option maxHeartbeats 8000000
section
theorem ppre_1 (n m a0:Nat) (h:Pre n m):Pre n (m+a0):=pre_add _ _ _ (h)
theorem ppre_2 (n m a0 a1:Nat) (h:Pre n m):Pre n (m+a0+a1):=pre_add _ _ _ (ppre_1 _ _ _ h)
theorem ppre_3 (n m a0 a1 a2:Nat) (h:Pre n m):Pre n (m+a0+a1+a2):=pre_add _ _ _ (ppre_2 _ _ _ _ h)
theorem ppre_4 (n m a0 a1 a2 a3:Nat) (h:Pre n m):Pre n (m+a0+a1+a2+a3):=pre_add _ _ _ (ppre_3 _ _ _ _ _ h)
theorem ppre_5 (n m a0 a1 a2 a3 a4:Nat) (h:Pre n m):Pre n (m+a0+a1+a2+a3+a4):=pre_add _ _ _ (ppre_4 _ _ _ _ _ _ h)
theorem ppre_6 (n m a0 a1 a2 a3 a4 a5:Nat) (h:Pre n m):Pre n (m+a0+a1+a2+a3+a4+a5):=pre_add _ _ _ (ppre_5 _ _ _ _ _ _ _ h)
end
end Go.Proofs.Ytgpfabihgjhefaa