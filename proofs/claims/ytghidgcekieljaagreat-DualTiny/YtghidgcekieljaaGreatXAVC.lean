import Derived.Test.YtghidgcekieljaaGreatXAVB
import Derived.Test.YtghidgcekieljaaGreatXAQt
namespace Go.Proofs.YtghidgcekieljaaGreat
open Go.RowKit Go.Proofs.Tryz
set_option maxRecDepth 100000
set_option maxHeartbeats 8000000
section
attribute [local go_sem ↓] uz1
attribute [local go_sem] uz2
section
attribute [local go_sem] uz5
attribute [local go_sem] uz8
def tn(f:Nat→Int)(i:Nat):Nat:=(f i).toNat
theorem tn_dF(W k m i:Nat):tn (dF W k m) i=dgw W k (m-1-i):=Int.toNat_natCast _
theorem hor_dF{W k m:Nat}(h:k<2^(W*m)):hor W (tn (dF W k m)) m=k:=(hor_congr fun i _=>tn_dF W k m i).trans (hor_all h)
end
end
end Go.Proofs.YtghidgcekieljaaGreat