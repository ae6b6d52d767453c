import Derived.Shelf.Bits.Mul64
import Derived.Test.YtffhepbppiocbaaXBSl
import Derived.Test.YtffhepbppiocbaaXBKr
namespace Go.Proofs.Ytffhepbppiocbaa
open Go.RowKit
set_option maxRecDepth 100000
set_option maxHeartbeats 8000000
section
attribute [local go_sem ↓] uz1
attribute [local go_sem] uz2
section
theorem wd_mod(x n k:Nat)(h:k<n):wd (x%pw n) k=wd x k:=by
 obtain⟨d,rfl⟩:∃d,n=k+1+d:=⟨n-(k+1),by omega⟩;unfold wd;rw[pw_add,pow_succ64,Nat.mul_assoc,Nat.mod_mul_right_div_self,Nat.mod_mul_right_mod]
theorem nw_mod(x n:Nat):nw n (x%pw n)=nw n x:=by
 apply Array.ext_getElem?
 grind [nw_get,wd_mod,nw_size]
end
section
def bslS(t:TypeId)(n:Nat)(p:Array (Nat×Value)):Sem Value:=Instr.buildSlice t n p
theorem bsl_is(n:Nat)(p:Array (Nat×Value)):Instr.buildSlice 34 n p=bslS 34 n p:=rfl
end
end
end Go.Proofs.Ytffhepbppiocbaa