import Derived.ProofKit
import Derived.OpenShut
import Derived.Test.YtffhepbppiocbabGreatXAAdd
namespace Go.Proofs.YtffhepbppiocbabGreat
open Go.RowKit Go.Proofs.Tryz
set_option maxRecDepth 100000
set_option maxHeartbeats 8000000
section
open Go.ChangeShapes Go.WideShapes Go.ChangeAt Go.RowKit
theorem Tryz.own:ownKnob prog.godebug=none:=by kernel_rfl
theorem Tryz.laidOut:laidOutB prog=true:=by kernel_rfl
theorem of_words(f:Nat→Nat)(hf:∀i,f i<18446744073709551616):∀n,∃a,a<pw n∧∀i,i<n→wd a i=f i
 | 0=>⟨0,pw_pos 0,fun i hi=>by omega⟩
 | n+1=>by
  obtain⟨a,ha,hw⟩:=of_words f hf n
  refine⟨a+f n*pw n,?_,fun i hi=>?_⟩
  ·rw[pow_succ64];have:f n*pw n≤18446744073709551615*pw n:=Nat.mul_le_mul_right _ (by have:=hf n;omega)
   omega
  ·have e:a+f n*pw n=a%pw n+f n*pw n+a/pw (n+1)*pw (n+1):=by
    have d:pw n≤pw (n+1):=by rw[pow_succ64];omega
    rw[Nat.mod_eq_of_lt ha,Nat.div_eq_of_lt (show a<pw (n+1) by omega),Nat.zero_mul,Nat.add_zero]
   rw[e,wd_set a n (f n) i (hf n)]
   by_cases h:i=n
   ·rw[if_pos h,h]
   ·grind
theorem word_of_wf{x:Int}(h:(Lit.int .u64 x).wf=true):0≤x∧x<18446744073709551616:=by
 simp[Lit.wf,IntKind.min,IntKind.max,IntKind.signed,IntKind.bits]at h;exact⟨by omega,by omega⟩
theorem int_of_wf{x:Int}(h:(Lit.int .i64 x).wf=true) : -9223372036854775808≤x∧x≤9223372036854775807:=by
 simp[Lit.wf,IntKind.min,IntKind.max,IntKind.signed,IntKind.bits]at h;exact⟨by omega,by omega⟩
end
end Go.Proofs.YtffhepbppiocbabGreat