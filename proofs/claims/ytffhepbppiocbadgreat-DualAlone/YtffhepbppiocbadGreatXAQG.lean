import Derived.Test.YtffhepbppiocbadGreatXAQE
namespace Go.Proofs.YtffhepbppiocbadGreat
open Go.RowKit
set_option maxRecDepth 100000
set_option maxHeartbeats 8000000
section
theorem ml_mod{k:Nat}(h1:1≤k)(h2:k≤15){P:Q3}(oP:OnQ k P)(hN:mlQ k (oN k) P=inf)(m:Nat):mlQ k (m%oN k) P=mlQ k m P:=by
 have h:mlQ k m P=mlQ k (oN k*(m/oN k)+m%oN k) P:=by rw[Nat.div_add_mod]
 rw[h,mlQ_add h1 h2 _ _ oP,Nat.mul_comm,mlQ_mul h1 h2 _ _ oP,hN,mlQ_inf h1 h2,inf_plQ h1 h2 (mlQ_on h1 h2 _ oP)]
theorem add_modQ{k:Nat}(h1:1≤k)(h2:k≤15){P:Q3}(oP:OnQ k P)(hN:mlQ k (oN k) P=inf){x y s:Nat}(hs:(x+y)%oN k=s):plQ k (mlQ k x P) (mlQ k y P)=mlQ k s P:=by
 rw[←hs,ml_mod h1 h2 oP hN,mlQ_add h1 h2 _ _ oP]
end
end Go.Proofs.YtffhepbppiocbadGreat