import Derived.Test.YtonbpnbhjghfbaaXAIX
namespace Go.Proofs.Ytonbpnbhjghfbaa
open Go.RowKit
set_option maxRecDepth 100000
set_option maxHeartbeats 8000000
section
def idxT(id:Int):Nat:=(IntKind.u64.wrap id).toNat%3+13
theorem idxT_bd(id:Int):13≤idxT id∧idxT id≤15:=by unfold idxT;omega
theorem idxT_conv(id:Int):∃u:Nat,IntKind.u64.wrap id=(u:Int)∧(u:Int)<18446744073709551616∧(13:Int)+u%3=(idxT id:Int):=by
 have h:0≤IntKind.u64.wrap id∧IntKind.u64.wrap id<18446744073709551616:=by rw[IntKind.wrap_u64];omega
 refine⟨(IntKind.u64.wrap id).toNat,?_,?_,?_⟩
 ·omega
 ·omega
 ·unfold idxT;omega
theorem tinyP(k:Nat)(h1:13≤k)(h2:k≤15):pN k≤255∧oN k≤255∧200≤oN k:=by
 obtain rfl|rfl|rfl:k=13∨k=14∨k=15:=by omega
 all_goals decide +kernel
theorem tiny_dl(k:Nat)(h1:13≤k)(h2:k≤15):dl (oN k)=1:=by
 obtain rfl|rfl|rfl:k=13∨k=14∨k=15:=by omega
 all_goals decide +kernel
end
end Go.Proofs.Ytonbpnbhjghfbaa