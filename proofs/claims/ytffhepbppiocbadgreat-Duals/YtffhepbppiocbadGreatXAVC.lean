import Derived.Test.YtffhepbppiocbadGreatXAVB
import Derived.Test.YtffhepbppiocbadGreatXAQt
namespace Go.Proofs.YtffhepbppiocbadGreat
open Go.RowKit
set_option maxRecDepth 100000
set_option maxHeartbeats 8000000
section
attribute [local go_sem ↓] uz1
attribute [local go_sem] uz2
section
attribute [local go_sem] uz5
attribute [local go_sem] uz8
def tn(f:Nat→Int)(i:Nat):Nat:=(f i).toNat
def Vok(W:Nat)(f:Nat→Int)(n:Nat):Prop:=(∀i,i<n→0≤f i∧f i<((2^W:Nat):Int))∧hor W (tn f) n<M
theorem Vok.le{W:Nat}{f:Nat→Int}{n m:Nat}(h:Vok W f n)(hm:m≤n):Vok W f m:=⟨fun i d=>h.1 i (by omega),Nat.lt_of_le_of_lt (hor_mono W (tn f) hm) h.2⟩
theorem Vok.zero(W:Nat)(f:Nat→Int):Vok W f 0:=⟨fun _ h=>absurd h (Nat.not_lt_zero _),lt_M 0 (by decide)⟩
theorem pw_pow{n a b:Nat}(h:a+b=64*n):pw n=2^a*2^b:=by unfold pw;rw[←h,Nat.pow_add]
theorem M_pow{a b:Nat}(h:a+b=576):M=2^a*2^b:=pw_pow (n:=9) (by omega)
theorem Vok.succ{W:Nat}{f:Nat→Int}{j:Nat}(h:Vok W f j)(h1:W≤576):Vok W f (j+1)↔(0≤f j∧f j<((2^W:Nat):Int))∧hor W (tn f) j<2^(576-W):=by
 have e:M=2^(576-W)*2^W:=M_pow (by omega)
 constructor
 ·intro k;refine⟨k.1 j (by omega),?_⟩;have d:=k.2;rw[hor,e]at d;exact Nat.lt_of_mul_lt_mul_right (Nat.lt_of_le_of_lt (Nat.le_add_right _ _) d)
 ·rintro⟨q,x⟩
  refine⟨fun i B=>?_,?_⟩
  ·by_cases c:i=j
   ·rw[c];exact q
   ·exact h.1 i (by omega)
  ·have A:(hor W (tn f) j+1)*2^W≤M:=by rw[e];exact Nat.mul_le_mul_right _ x
   have C:tn f j<2^W:=by unfold tn;omega
   rw[hor];rw[Nat.succ_mul]at A
   omega
theorem tn_dF(W k m i:Nat):tn (dF W k m) i=dgw W k (m-1-i):=Int.toNat_natCast _
theorem hor_dF{W k m:Nat}(h:k<2^(W*m)):hor W (tn (dF W k m)) m=k:=(hor_congr fun i _=>tn_dF W k m i).trans (hor_all h)
end
end
end Go.Proofs.YtffhepbppiocbadGreat