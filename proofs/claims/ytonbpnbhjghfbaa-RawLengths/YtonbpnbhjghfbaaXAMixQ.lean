import Derived.Test.YtonbpnbhjghfbaaXAMixR
import Derived.Test.YtonbpnbhjghfbaaXANN
namespace Go.Proofs.Ytonbpnbhjghfbaa
open Go.RowKit
set_option maxRecDepth 100000
set_option maxHeartbeats 8000000
section
theorem Sl.set{w:World}{p:Option Addr}{x b:Nat}{d:Array Value}(h:Sl w p x)(hz:∀(i:Nat) (n:Int),(blk w b)[i]? ≠ some (Value.int .u32 n)):Sl (setBlk w b d) p x:=fun i j=>by
 obtain⟨c,l,q,f⟩:=h i j;have v:b≠c:=fun e=>hz i _ (e▸f);exact⟨c,l,by rw[size_setBlk];exact q,by rw[blk_other _ _ _ _ v];exact f⟩
variable {W w w':World} {kp:List Kn} {D:List Nat} {mk:(Nat→Value)→Array Value} {z:Array Value} {bd al st:Nat} {listed:Array Bool} {vals:Nat→Value}
end
end Go.Proofs.Ytonbpnbhjghfbaa