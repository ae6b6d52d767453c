import Derived.Test.YtffhepbppiocbacGreatXMQF
namespace Go.Proofs.YtffhepbppiocbacGreat
open Go.RowKit
set_option maxRecDepth 100000
set_option maxHeartbeats 8000000
section
theorem ml_N{k:Nat}(h1:1≤k)(h2:k≤15){n:Nat}{P:Q3}(hP:mlQ k n (gQ k)=P):mlQ k (oN k) P=inf:=by
 rw[←hP,←mlQ_mul h1 h2 _ _ (gQ_on h1 h2),Nat.mul_comm,mlQ_mul h1 h2 _ _ (gQ_on h1 h2),mlQ_N h1 h2,mlQ_inf h1 h2]
theorem ml_mod{k:Nat}(h1:1≤k)(h2:k≤15){P:Q3}(oP:OnQ k P)(hN:mlQ k (oN k) P=inf)(m:Nat):mlQ k (m%oN k) P=mlQ k m P:=by
 have h:mlQ k m P=mlQ k (oN k*(m/oN k)+m%oN k) P:=by rw[Nat.div_add_mod]
 rw[h,mlQ_add h1 h2 _ _ oP,Nat.mul_comm,mlQ_mul h1 h2 _ _ oP,hN,mlQ_inf h1 h2,inf_plQ h1 h2 (mlQ_on h1 h2 _ oP)]
theorem ml_pred{k:Nat}(h1:1≤k)(h2:k≤15){P:Q3}(oP:OnQ k P)(hN:mlQ k (oN k) P=inf){m:Nat}(hm:oN k-1=m):mlQ k m P=ngQ k P:=by
 have d:=mlQ_on h1 h2 m oP;have f:=ngQ_on h1 h2 oP
 have e:plQ k (mlQ k m P) P=inf:=by
  have h:=mlQ_add h1 h2 m 1 oP;rw[mlQ_one h1 h2 oP,show m+1=oN k by have:=EC.oN_pos k h1 h2;omega,hN]at h;exact h.symm
 have h:=plQ_assoc h1 h2 d oP f;rw[e,inf_plQ h1 h2 f,plQ_ng h1 h2,plQ_inf h1 h2 d]at h;exact h.symm
theorem add_modQ{k:Nat}(h1:1≤k)(h2:k≤15){P:Q3}(oP:OnQ k P)(hN:mlQ k (oN k) P=inf){x y s:Nat}(hs:(x+y)%oN k=s):plQ k (mlQ k x P) (mlQ k y P)=mlQ k s P:=by
 rw[←hs,ml_mod h1 h2 oP hN,mlQ_add h1 h2 _ _ oP]
theorem mul_modQ{k:Nat}(h1:1≤k)(h2:k≤15){P:Q3}(oP:OnQ k P)(hN:mlQ k (oN k) P=inf){x y s:Nat}(hs:x*y%oN k=s):mlQ k x (mlQ k y P)=mlQ k s P:=by
 rw[←hs,ml_mod h1 h2 oP hN,mlQ_mul h1 h2 _ _ oP]
end
end Go.Proofs.YtffhepbppiocbacGreat