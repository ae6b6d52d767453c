import Derived.Test.YtghidgcekieljaaGreatXAMixR
import Derived.Test.YtghidgcekieljaaGreatXAPC
namespace Go.Proofs.YtghidgcekieljaaGreat
open Go.RowKit Go.Proofs.Tryz
set_option maxRecDepth 100000
set_option maxHeartbeats 8000000
section
theorem Sl.set{w:World}{p:Option Addr}{x b:Nat}{d:Array Value}(h:Sl w p x)(hz:∀(i:Nat) (n:Int),(blk w b)[i]? ≠ some (Value.int .u32 n)):Sl (setBlk w b d) p x:=fun i hi=>by
 obtain⟨c,h1,h2,h3⟩:=h i hi;have ne:b≠c:=fun e=>hz i _ (e▸h3);exact⟨c,h1,by rw[size_setBlk];exact h2,by rw[blk_other _ _ _ _ ne];exact h3⟩
variable {W w w':World} {kp:List Kn} {D:List Nat} {mk:(Nat→Value)→Array Value} {z:Array Value} {bd al st:Nat} {listed:Array Bool} {vals:Nat→Value}
end
end Go.Proofs.YtghidgcekieljaaGreat