import Derived.Test.YtffhepbppiocbadGreatXART
namespace Go.Proofs.YtffhepbppiocbadGreat
open Go.RowKit
set_option maxRecDepth 100000
set_option maxHeartbeats 8000000
section
def wlk(k:Nat):Nat→Q3→Bool
 | 0,_=>true
 | n+1,P => !P.2.2&&wlk k n (plQ k P (gQ k))
theorem wlk_is{k:Nat}(h1:1≤k)(h2:k≤15):∀n j,wlk k n (mlQ k j (gQ k))=true→∀i,i<n→(mlQ k (j+i) (gQ k)).2.2=false
 | 0,_,_,_,h=>absurd h (Nat.not_lt_zero _)
 | n+1,j,h,i,hi=>by
  rw[wlk,Bool.and_eq_true]at h
  cases i with
  | zero=>
   rw[Nat.add_zero];exact(Bool.not_eq_true' _).mp h.1
  | succ i=>
   rw[show j+(i+1)=j+1+i by omega];refine wlk_is h1 h2 n (j+1) ?_ i (by omega);rw[mlQ_add h1 h2 j 1 (gQ_on h1 h2),mlQ_one h1 h2 (gQ_on h1 h2)];exact h.2
theorem wlk_T(k:Nat)(h1:13≤k)(h2:k≤15):wlk k (oN k-1) (gQ k)=true:=by
 obtain rfl|rfl|rfl:k=13∨k=14∨k=15:=by omega
 all_goals decide +kernel
theorem walk_ne{k:Nat}(h1:13≤k)(h2:k≤15)(i:Nat)(hi:1≤i)(hn:i<oN k):(mlQ k i (gQ k)).2.2=false:=by
 have h:=wlk_is (by omega) h2 (oN k-1) 1 (by rw[mlQ_one (by omega) h2 (gQ_on (by omega) h2)];exact wlk_T k h1 h2) (i-1) (by omega)
 grind
theorem walk_inj{k:Nat}(h13:13≤k)(h2:k≤15)(i j:Nat)(hij:i<j)(hn:j<oN k):mlQ k i (gQ k)≠mlQ k j (gQ k):=fun e=>by
 have d:1≤k:=by omega
 have h:=gQ_on d h2;have q:=mlQ_on d h2 i h;have x:=mlQ_on d h2 (j-i) h
 have C:mlQ k j (gQ k)=plQ k (mlQ k i (gQ k)) (mlQ k (j-i) (gQ k)):=by rw[←mlQ_add d h2 i (j-i) h,show i+(j-i)=j by omega]
 have f:=ngQ_on d h2 q
 have A:plQ k (ngQ k (mlQ k i (gQ k))) (mlQ k i (gQ k))=inf:=by rw[plQ_comm d h2 f q,plQ_ng d h2]
 have B:plQ k (ngQ k (mlQ k i (gQ k))) (mlQ k j (gQ k))=mlQ k (j-i) (gQ k):=by rw[C,←plQ_assoc d h2 f q x,A,inf_plQ d h2 x]
 rw[←e,A]at B;have:=walk_ne h13 h2 (j-i) (by omega) (by omega);rw[←B]at this
 cases this
theorem tinyP(k:Nat)(h1:13≤k)(h2:k≤15):pN k≤255∧oN k≤255∧200≤oN k:=by
 obtain rfl|rfl|rfl:k=13∨k=14∨k=15:=by omega
 all_goals decide +kernel
def atQ(P:Q3):Nat:=P.1*256+P.2.1
theorem fin_bd{k:Nat}(h1:13≤k)(h2:k≤15){P:Q3}(hP:OnQ k P):P.1≤255∧P.2.1≤255:=by
 have d:=tinyP k h1 h2
 rcases hP.cases with rfl|⟨x,y,rfl,hx,hy,-⟩
 ·exact⟨Nat.zero_le _,Nat.zero_le _⟩
 grind
theorem atQ_inj{k:Nat}(h1:13≤k)(h2:k≤15){P Q:Q3}(hP:OnQ k P)(hQ:OnQ k Q)(fP:P.2.2=false)(fQ:Q.2.2=false)(e:atQ P=atQ Q):P=Q:=by
 grind [fin_bd,atQ]
theorem tiny_dl(k:Nat)(h1:13≤k)(h2:k≤15):dl (oN k)=1:=by
 obtain rfl|rfl|rfl:k=13∨k=14∨k=15:=by omega
 all_goals decide +kernel
end
end Go.Proofs.YtffhepbppiocbadGreat