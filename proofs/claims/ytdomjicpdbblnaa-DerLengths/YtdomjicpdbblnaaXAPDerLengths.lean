/-
  Layer 22: DerLengths.
-/
import Derived.Test.YtdomjicpdbblnaaXALZDerLens
import Derived.Test.YtdomjicpdbblnaaXAOpenSg
namespace Go.Proofs.Ytdomjicpdbblnaa
open Go.RowKit Go.Proofs.Try
set_option maxRecDepth 100000
set_option maxHeartbeats 8000000
section
open Go.ChangeShapes Go.WideShapes Go.ChangeAt Go.RowKit
theorem derLengths_lifted(os:Os)(started:os.Started)(H:Type)(enc:TypeId×Value→H):
 ReturnsInHanded {} Try.checked os 6 .any (Rows.derLengthsSpec.pre6 enc prog Try.f6 Rows.derLengthsRow.domain false) (Rows.derLengthsSpec.post enc prog Try.f6 false true false false):=by
 refine returnsInHanded_of_change (C:=Try.checked) Try.own started (by kernel_rfl) func6
  (ChangeSpec.witness6 (enc:=enc) (C:=Try.checked) false ⟨#[], #[.agg #[.int .u64 0,.int .u64 0,.int .u64 0,.int .u64 0,.int .u64 0,.int .u64 0,.int .u64 0,.int .u64 0,.int .u64 0,.int .u64 0,.int .u64 0,.int .u64 0,.int .u64 0,.int .u64 0,.int .u64 0,.int .u64 0,.int .u64 0,.int .u64 0]],[]⟩ 8 (by kernel_rfl) (by kernel_rfl) (by kernel_rfl) (by kernel_rfl)) ?_
 intro W i d I S o b A B _;have f:∀(j:Nat) t v,Try.f6.params[j]? = some t→d[j]? = some v→Value.okWide prog W .any i t v:=b;have l:=A;obtain⟨p,q,m,J,rfl,K,L⟩:=A;have D:DataW.TrodAll enc prog W 0 (fun _=>true) true Try.f6.params.toList d.toList I p:=m;rw[params6]at D f;obtain⟨P,U,rfl,rfl,G⟩:=trodAll_one D;obtain⟨rfl,rfl⟩:=trodVars_none J;obtain⟨V,X,w,x,rfl,rfl⟩:=open_sig (f 0 27 P rfl rfl) G;clear m b;simp only[List.append_nil]at l;refine(lzlen_any w x W).mono fun e Y ⟨Q,R⟩=>?_;subst Q;exact⟨_,rfl,_,_,_,[],[],[],l,trodAll_mk1 (shut_bool underlying4 _),trodAll_mk1 (stay_sig G),rfl,R.below.frame _,fun h=>by cases h⟩
theorem derLengths_holds:Rows.DerLengthsSaid:=
 OpenClaim.holds_of_wide 6 Try.f6 rfl rfl rfl rfl rfl rfl rfl ⟨rfl,rfl,rfl,rfl,rfl⟩ rfl rfl rfl rfl rfl (by kernel_rfl) func6 (by kernel_rfl)
  (of_decide_eq_true (by kernel_rfl)) (by unfold Func.isWrapper;first|(rw[if_pos (by decide +kernel)];kernel_rfl)|(rw[if_neg (by decide +kernel)];exact⟨rfl,rfl⟩))
  (fun f b H d _=>derLengths_lifted f b H d)
#print axioms derLengths_holds
end
end Go.Proofs.Ytdomjicpdbblnaa