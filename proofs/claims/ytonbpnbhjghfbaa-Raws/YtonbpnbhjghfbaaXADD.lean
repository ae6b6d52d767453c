import Derived.Deep.RegionLaw
import Derived.Deep.DrawnRows
import Derived.BigQuiet
import Derived.Deep.QuietTactic
import Derived.BigRegion
import Derived.Deep.CutBlock
import Derived.Deep.Cut
import Derived.Test.YtonbpnbhjghfbaaXANN
import Derived.Test.YtonbpnbhjghfbaaXAEq
import Derived.Test.YtonbpnbhjghfbaaXAKu
import Derived.Test.YtonbpnbhjghfbaaXASmC
namespace Go.Proofs.Ytonbpnbhjghfbaa
open Go.RowKit
set_option maxRecDepth 100000
set_option maxHeartbeats 8000000
section
attribute [local go_sem ↓] uz1
attribute [local go_sem] uz2
section
attribute [local go_sem ↓] copy_is
attribute [local go_sem] uz3 ones_nw
theorem bl_pwk(m k:Nat)(h:m<pw k):bl m≤64*k:=(bl_le m (64*k)).2 h
theorem dv_app(D n u:Nat):nw 9 D ++ #[.int .i64 ((n:Int)+1),.int .i64 u]=dv D (n+1) u:=rfl
attribute [local go_sem] dv_app
end
end
end Go.Proofs.Ytonbpnbhjghfbaa