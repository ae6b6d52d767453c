import Derived.Test.YtffhepbppiocbaaXBDig
import Derived.Test.YtffhepbppiocbaaXBEC
namespace Go.Proofs.Ytffhepbppiocbaa
open Go.RowKit
set_option maxRecDepth 100000
set_option maxHeartbeats 8000000
section
theorem ddiv_step2(a j:Nat):a/pq j=a/pq (j+1)*4294967296+dg a j:=by
 unfold dg;rw[pq_succ,←Nat.div_div_eq_div_mul]
 omega
theorem top_one32(V j:Nat)(h:V<pq (j+1)):V/pq j=dg V j:=by
 rw[ddiv_step2 V j,Nat.div_eq_of_lt h,Nat.zero_mul,Nat.zero_add]
theorem top_two32(V j:Nat)(h:V<pq (j+2)):V/pq j=dg V (j+1)*4294967296+dg V j:=by
 rw[ddiv_step2 V j,top_one32 V (j+1) h]
theorem three(U n j:Nat)(hU:U<pq (j+n+3)):U/pq (j+n)=(dg U (j+n+2)*4294967296+dg U (j+n+1))*4294967296+dg U (j+n):=by
 rw[ddiv_step2 U (j+n),top_two32 U (j+n+1) hU]
end
end Go.Proofs.Ytffhepbppiocbaa