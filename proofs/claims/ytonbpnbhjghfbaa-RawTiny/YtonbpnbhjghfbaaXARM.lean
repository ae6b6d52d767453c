import Derived.Deep.AppendSrc
import Derived.Test.YtonbpnbhjghfbaaXAIX
import Derived.Test.YtonbpnbhjghfbaaXARDiv
namespace Go.Proofs.Ytonbpnbhjghfbaa
open Go.RowKit Go.Proofs.Try
set_option maxRecDepth 100000
set_option maxHeartbeats 8000000
section
section
variable {a b m c n n' n'':Nat} {p q r:Option Addr} {w:World}
theorem cz_any{z:Int}(sa:Sl w p a)(sb:Sl w q b)(ha:dl a≤400)(hb:dl b≤400)(hz:cmpZ a b=z):
 Calls prog 28 #[.slice p (dl a) n,.slice q (dl b) n'] w (Rt (.c (.int .i64 z)) w):=
 Rt.c (hz▸rcmp_any a b n n' p q w sa sb (by omega) (by omega))
theorem nt_any(sa:Sl w p a):Calls prog 14 #[.slice p (dl a) n] w (Rt (.c (.agg (nw 9 a))) w):=Rt.c (rnat_any a n p w sa)
theorem fm_any(ha:a<M):Calls prog 16 #[.agg (nw 9 a)] w (Rt (.n a) w):=Rt.n (from_any a ha w)
theorem bt_any(sa:Sl w p a)(ha:dl a≤400)(hc:bl a=c):Calls prog 33 #[.slice p (dl a) n] w (Rt (.c (.int .i64 c)) w):=Rt.same (hc▸rbits_any a n p w sa (by omega))
end
theorem wrap_id{x:Int}(h1 : -9223372036854775808≤x)(h2:x≤9223372036854775807):IntKind.i64.wrap x=x:=wiA
theorem tdiv8{x z:Int}(h0:0≤x)(h1:x≤100000)(hz:x/8=z):IntKind.i64.wrap (x.tdiv 8)=z:=by
 rw[Int.tdiv_eq_ediv_of_nonneg h0,hz];exact wrap_id (by omega) (by omega)
end
end Go.Proofs.Ytonbpnbhjghfbaa