import Derived.Test.YtffhepbppiocbaaGreatXAIX
namespace Go.Proofs.YtffhepbppiocbaaGreat
open Go.RowKit
set_option maxRecDepth 100000
set_option maxHeartbeats 8000000
section
theorem cu_28(id:Int)(p a b n x y:Nat)(s z:Int)(l:Bool):(cu id p a b n x y s z l)[28]? = some (.int .u64 ((wd n 0:Nat):Int)):=by kernel_rfl
def idxT(id:Int):Nat:=(IntKind.u64.wrap id).toNat%3+13
theorem idxT_bd(id:Int):13≤idxT id∧idxT id≤15:=by unfold idxT;omega
theorem idxT_conv(id:Int):∃u:Nat,IntKind.u64.wrap id=(u:Int)∧(u:Int)<18446744073709551616∧(13:Int)+u%3=(idxT id:Int):=by
 have h:0≤IntKind.u64.wrap id∧IntKind.u64.wrap id<18446744073709551616:=by rw[IntKind.wrap_u64];omega
 refine⟨(IntKind.u64.wrap id).toNat,?_,?_,?_⟩
 ·omega
 ·omega
 ·unfold idxT;omega
end
end Go.Proofs.YtffhepbppiocbaaGreat