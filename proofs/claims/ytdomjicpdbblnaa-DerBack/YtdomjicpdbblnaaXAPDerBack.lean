/-
  Layer 22: DerBack.
-/
import Derived.Test.YtdomjicpdbblnaaXALZDerBack
import Derived.Test.YtdomjicpdbblnaaXAOpenSg
namespace Go.Proofs.Ytdomjicpdbblnaa
open Go.RowKit Go.Proofs.Try
set_option maxRecDepth 100000
set_option maxHeartbeats 8000000
section
open Go.ChangeShapes Go.WideShapes Go.ChangeAt Go.RowKit
open Go.ChangeMaps (open_string shut_string)
theorem derBack_lifted(os:Os)(started:os.Started)(H:Type)(enc:TypeId×Value→H):
 ReturnsInHanded {} Try.checked os 4 .any (Rows.derBackSpec.pre6 enc prog Try.f4 Rows.derBackRow.domain false) (Rows.derBackSpec.post enc prog Try.f4 false true false false):=by
 refine returnsInHanded_of_change (C:=Try.checked) Try.own started (by kernel_rfl) func4
  (ChangeSpec.witness6 (enc:=enc) (C:=Try.checked) false ⟨#[], #[.agg #[.int .u64 0,.int .u64 0,.int .u64 0,.int .u64 0,.int .u64 0,.int .u64 0,.int .u64 0,.int .u64 0,.int .u64 0,.int .u64 0,.int .u64 0,.int .u64 0,.int .u64 0,.int .u64 0,.int .u64 0,.int .u64 0,.int .u64 0,.int .u64 0],.string ⟨#[]⟩],[]⟩ 8 (by kernel_rfl) (by kernel_rfl) (by kernel_rfl) (by kernel_rfl)) ?_
 intro W i f I Y o b A B _;have d:∀(j:Nat) t v,Try.f4.params[j]? = some t→f[j]? = some v→Value.okWide prog W .any i t v:=b;have l:=A;obtain⟨p,q,m,J,rfl,K,L⟩:=A;have D:DataW.TrodAll enc prog W 0 (fun _=>true) true Try.f4.params.toList f.toList I p:=m;rw[params4]at D d;obtain⟨P,Q,Z,d1,p0,p1,rfl,rfl,rfl,G,R⟩:=trodAll_two D;obtain⟨rfl,rfl⟩:=trodVars_none J;obtain⟨x0,y0,w,x,rfl,rfl⟩:=open_sig (d 0 27 P rfl rfl) G;obtain⟨S,rfl,rfl,rfl,U⟩:=open_string underlying9 (d 1 9 Q rfl rfl) R;clear m b;simp only[List.append_nil]at l;refine(lzback_any w x S W).mono fun e W' ⟨V,X⟩=>?_;subst V;exact⟨_,rfl,_,_,_,[],[],[],l,trodAll_mk1 (shut_bool underlying4 _),trodAll_mk2 (stay_sig G) (shut_string underlying9 U),rfl,X.below.frame _,fun h=>by cases h⟩
theorem derBack_holds:Rows.DerBackSaid:=
 OpenClaim.holds_of_wide 4 Try.f4 rfl rfl rfl rfl rfl rfl rfl ⟨rfl,rfl,rfl,rfl,rfl⟩ rfl rfl rfl rfl rfl (by kernel_rfl) func4 (by kernel_rfl)
  (of_decide_eq_true (by kernel_rfl)) (by unfold Func.isWrapper;first|(rw[if_pos (by decide +kernel)];kernel_rfl)|(rw[if_neg (by decide +kernel)];exact⟨rfl,rfl⟩))
  (fun f b H d _=>derBack_lifted f b H d)
#print axioms derBack_holds
end
end Go.Proofs.Ytdomjicpdbblnaa