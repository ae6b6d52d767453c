import Derived.Test.YtffhepbppiocbaaXALC
import Derived.Test.YtffhepbppiocbaaXART
import Derived.Test.YtffhepbppiocbaaXAEL
namespace Go.Proofs.Ytffhepbppiocbaa
open Go.RowKit Go.Proofs.Try
set_option maxRecDepth 100000
set_option maxHeartbeats 8000000
section
theorem nN_M(k:Nat)(h1:1≤k)(h2:k≤15):pN k<M∧aN k<M∧bN k<M∧oN k<M∧xN k<M∧yN k<M:=by
 have d:=pN_M k;have:=aN_lt k h1 h2;have:=bN_lt k h1 h2;have:=xN_lt k h1 h2;have:=(yN_lt k h1 h2).1;exact⟨d,by omega,by omega,oN_bd k,by omega,by omega⟩
theorem rtimes_N(k:Nat)(h1:1≤k)(h2:k≤15)(qc:Nat→Option Addr×Nat)(n nk m:Nat)(p q pk:Option Addr)(w:World)(HQ:∀j,Sl w (qc j).1 (nN k j))(Sx:Sl w p (xN k))(Sy:Sl w q (yN k))(Sk:Sl w pk (oN k)):Calls prog 19 #[.agg (crA (k:Int) (nN k) qc),.slice pk (dl (oN k)) nk,.agg (ptA p (xN k) n q (yN k) m false)] w (Rt (.pt 0 0 true) w):=by
 haveI:=EC.nzP k h1 h2
 have d:=pN_dl k h1 h2;have f:=oN_dl k;have h:=rtimes_any (EC.curN k h1 h2) (by omega) (k:Int) (oN k) (xN k) (yN k) qc (oN k) nk pk (by omega) (some (EC.xF k h1 h2,EC.yF k h1 h2)) (EC.onG k h1 h2) p q n m w HQ Sk Sx Sy;rw[EC.ml_G k h1 h2]at h;exact h
theorem rtimes_N1(k:Nat)(h1:1≤k)(h2:k≤15)(qc:Nat→Option Addr×Nat)(n nk m:Nat)(p q pk:Option Addr)(w:World)(HQ:∀j,Sl w (qc j).1 (nN k j))(Sx:Sl w p (xN k))(Sy:Sl w q (yN k))(Sk:Sl w pk (oN k-1)):Calls prog 19 #[.agg (crA (k:Int) (nN k) qc),.slice pk (dl (oN k-1)) nk,.agg (ptA p (xN k) n q (yN k) m false)] w (Rt (.pt (xN k) (pN k-yN k) false) w):=by
 haveI:=EC.nzP k h1 h2
 have x:=pN_dl k h1 h2;have f:=oN_dl k;have i:=dl_low (oN k-1) (oN k) 18 (by omega) f
 have l:EC.yF k h1 h2≠0:=fun e=>by
  have d:=congrArg Fin.val e;rw[Fin.val_zero]at d;have:=(yN_lt k h1 h2).2;have:yN k=0:=d
  omega
 have h:=rtimes_any (EC.curN k h1 h2) (by omega) (k:Int) (oN k) (xN k) (yN k) qc (oN k-1) nk pk (by omega) (some (EC.xF k h1 h2,EC.yF k h1 h2)) (EC.onG k h1 h2) p q n m w HQ Sk Sx Sy;rw[EC.ml_pred_G k h1 h2]at h;have e:pN k-yN k=(-(EC.yF k h1 h2)).val:=neg_val (EC.yF k h1 h2) l;rw[e];exact h
theorem rneg_G(k:Nat)(h1:1≤k)(h2:k≤15)(qc:Nat→Option Addr×Nat)(n m:Nat)(p q:Option Addr)(w:World)(HQ:∀j,Sl w (qc j).1 (nN k j))(Sx:Sl w p (xN k))(Sy:Sl w q (yN k)):Calls prog 23 #[.agg (crA (k:Int) (nN k) qc),.agg (ptA p (xN k) n q (yN k) m false)] w (Rt (.pt (xN k) (pN k-yN k) false) w):=
 rneg_ok (k:Int) _ _ _ _ _ _ qc (xN k) (yN k) p q n m _ (by have:=pN_dl k h1 h2;omega) (by have:=(yN_lt k h1 h2).2;omega) (yN_lt k h1 h2).1 rfl w HQ Sx Sy
end
end Go.Proofs.Ytffhepbppiocbaa