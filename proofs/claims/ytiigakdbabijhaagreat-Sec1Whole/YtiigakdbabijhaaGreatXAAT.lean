import Derived.Test.YtiigakdbabijhaaGreatXAFRt
namespace Go.Proofs.YtiigakdbabijhaaGreat
open Go.RowKit
set_option maxRecDepth 100000
set_option maxHeartbeats 8000000
section
def wlk(k:Nat):Nat→Q3→Bool
 | 0,_=>true
 | n+1,P => !P.2.2&&wlk k n (plQ k P (gQ k))
theorem wlk_T(k:Nat)(h1:13≤k)(h2:k≤15):wlk k (oN k-1) (gQ k)=true:=by
 obtain rfl|rfl|rfl:k=13∨k=14∨k=15:=by omega
 all_goals decide +kernel
theorem tinyP(k:Nat)(h1:13≤k)(h2:k≤15):pN k≤255∧oN k≤255∧200≤oN k:=by
 obtain rfl|rfl|rfl:k=13∨k=14∨k=15:=by omega
 all_goals decide +kernel
theorem tiny_dl(k:Nat)(h1:13≤k)(h2:k≤15):dl (oN k)=1:=by
 obtain rfl|rfl|rfl:k=13∨k=14∨k=15:=by omega
 all_goals decide +kernel
end
end Go.Proofs.YtiigakdbabijhaaGreat