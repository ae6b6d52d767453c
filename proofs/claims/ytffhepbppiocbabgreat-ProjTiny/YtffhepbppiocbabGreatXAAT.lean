import Derived.Test.YtffhepbppiocbabGreatXAAP
namespace Go.Proofs.YtffhepbppiocbabGreat
open Go.RowKit
set_option maxRecDepth 100000
set_option maxHeartbeats 8000000
section
theorem tinyP(k:Nat)(h1:13≤k)(h2:k≤15):pN k≤255∧oN k≤255∧200≤oN k:=by
 obtain rfl|rfl|rfl:k=13∨k=14∨k=15:=by omega
 all_goals decide +kernel
theorem tiny_dl(k:Nat)(h1:13≤k)(h2:k≤15):dl (oN k)=1:=by
 obtain rfl|rfl|rfl:k=13∨k=14∨k=15:=by omega
 all_goals decide +kernel
end
end Go.Proofs.YtffhepbppiocbabGreat