import Derived.Test.YtffhepbppiocbabGreatXAAR
namespace Go.Proofs.YtffhepbppiocbabGreat
open Go.RowKit Go.Proofs.Tryz
set_option maxRecDepth 100000
set_option maxHeartbeats 8000000
section
theorem ron_is{k:Nat}(h1:1≤k)(h2:k≤15){P:Q3}{r:Bool}(lP:P.1<M∧P.2.1<M)(h:onB k P.1 P.2.1 P.2.2=r)(qc:Nat→Option Addr×Nat){p q:Option Addr}{n m:Nat}{w:World}(HQ:∀j,Sl w (qc j).1 (nN k j))(Sx:Sl w p P.1)(Sy:Sl w q P.2.1):
 Calls prog 35 #[.agg (crA (k:Int) (nN k) qc),.agg (ptA p P.1 n q P.2.1 m P.2.2)] w (Rt (.c (.bool r)) w):=by
 subst h;exact ron_any k h1 h2 _ _ _ lP.1 lP.2 qc p q n m w HQ Sx Sy
end
end Go.Proofs.YtffhepbppiocbabGreat