import Derived.Test.YtffhepbppiocbaaXACW
import Derived.Test.YtffhepbppiocbaaXARP3
namespace Go.Proofs.Ytffhepbppiocbaa
open Go.RowKit Go.Proofs.Try
set_option maxRecDepth 100000
set_option maxHeartbeats 8000000
section
theorem ron_any(i:Nat)(h1:1≤i)(h2:i≤15)(x y:Nat)(f:Bool)(hx:x<M)(hy:y<M)(qc:Nat→Option Addr×Nat)(p q:Option Addr)(n m:Nat)(w:World)(HQ:∀k,Sl w (qc k).1 (nN i k))(Sx:Sl w p x)(Sy:Sl w q y):
 Calls prog 17 #[.agg (crA (i:Int) (nN i) qc),.agg (ptA p x n q y m f)] w (Rt (.c (.bool (onB i x y f))) w):=by
 have j:=pN_dl i h1 h2;have d:=dl_M x hx;have h:=dl_M y hy
 cases f with
 | true=>exact Rt.c (ron_inf i _ _ _ _ _ _ qc x y p q n m w HQ Sx Sy)
 | false=>
  by_cases lx:x<pN i
  ·by_cases ly:y<pN i
   ·have:=ron_ok i _ _ _ _ _ _ qc x y p q n m (by omega) (by omega) (by omega) lx ly (aN_lt i h1 h2) (bN_lt i h1 h2) w HQ Sx Sy;simp only[onB,lx,ly,decide_true,Bool.true_and,Bool.false_eq_true,if_false];exact Rt.c this
   ·have:=ron_y i _ _ _ _ _ _ qc x y p q n m (by omega) (by omega) (by omega) lx (by omega) w HQ Sx Sy;simp only[onB,ly,decide_false,Bool.false_and,Bool.and_false,Bool.false_eq_true,if_false];exact Rt.c this
  ·have:=ron_x i _ _ _ _ _ _ qc x y p q n m (by omega) (by omega) (by omega) w HQ Sx Sy;simp only[onB,lx,decide_false,Bool.false_and,Bool.false_eq_true,if_false];exact Rt.c this
theorem oN_dl(i:Nat):dl (oN i)≤18:=dl_M _ (oN_bd i)
theorem rapi_yes(i:Nat)(h1:1≤i)(h2:i≤15)(qc:Nat→Option Addr×Nat)(w:World)(HQ:∀k,Sl w (qc k).1 (nN i k)):
 Calls prog 15 #[.agg (crA (i:Int) (nN i) qc)] w (Rt (.c (.agg (cuN i))) w):=
 Rt.c (rapi_any i _ _ _ _ _ _ qc (bl (oN i)) (szN i) (lgN i) (pN_dl i h1 h2) (by have:=oN_dl i;omega) rfl rfl rfl w HQ)
theorem rsize_yes(i:Nat)(h1:1≤i)(h2:i≤15)(qc:Nat→Option Addr×Nat)(w:World)(HQ:∀k,Sl w (qc k).1 (nN i k)):
 Calls prog 24 #[.agg (crA (i:Int) (nN i) qc)] w (Rt (.c (.int .i64 (szN i:Int))) w):=
 Rt.c (rsize_any i _ _ _ _ _ _ qc (szN i) (pN_dl i h1 h2) rfl w HQ)
end
end Go.Proofs.Ytffhepbppiocbaa