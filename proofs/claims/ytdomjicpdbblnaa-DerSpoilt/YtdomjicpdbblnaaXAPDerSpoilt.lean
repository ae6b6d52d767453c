/-
  Layer 22: DerSpoilt.
-/
import Derived.Test.YtdomjicpdbblnaaXALZDerSpoilt
import Derived.Test.YtdomjicpdbblnaaXAOpenSg
namespace Go.Proofs.Ytdomjicpdbblnaa
open Go.RowKit Go.Proofs.Try
set_option maxRecDepth 100000
set_option maxHeartbeats 8000000
section
open Go.ChangeShapes Go.WideShapes Go.ChangeAt Go.RowKit
theorem derSpoilt_lifted(os:Os)(started:os.Started)(H:Type)(enc:TypeId×Value→H):
 ReturnsInHanded {} Try.checked os 5 .any (Rows.derSpoiltSpec.pre6 enc prog Try.f5 Rows.derSpoiltRow.domain false) (Rows.derSpoiltSpec.post enc prog Try.f5 false true false false):=by
 refine returnsInHanded_of_change (C:=Try.checked) Try.own started (by kernel_rfl) func5
  (ChangeSpec.witness6 (enc:=enc) (C:=Try.checked) false ⟨#[], #[.agg #[.int .u64 0,.int .u64 0,.int .u64 0,.int .u64 0,.int .u64 0,.int .u64 0,.int .u64 0,.int .u64 0,.int .u64 0,.int .u64 0,.int .u64 0,.int .u64 0,.int .u64 0,.int .u64 0,.int .u64 0,.int .u64 0,.int .u64 0,.int .u64 0],.int .i64 0,.int .i64 0],[]⟩ 8 (by kernel_rfl) (by kernel_rfl) (by kernel_rfl) (by kernel_rfl)) ?_
 intro W i f K gs o d A B _;have b:∀(j:Nat) t v,Try.f5.params[j]? = some t→f[j]? = some v→Value.okWide prog W .any i t v:=d;have l:=A;obtain⟨p,q,m,L,rfl,P,Q⟩:=A;have D:DataW.TrodAll enc prog W 0 (fun _=>true) true Try.f5.params.toList f.toList K p:=m;rw[params5]at D b;obtain⟨R,S,U,d0,d1,d2,p0,p1,p2,rfl,rfl,rfl,G,V,X⟩:=trodAll_three D;obtain⟨rfl,rfl⟩:=trodVars_none L;obtain⟨x0,y0,w,x,rfl,rfl⟩:=open_sig (b 0 27 R rfl rfl) G;obtain⟨Y,rfl,rfl,rfl,I⟩:=open_int underlying3 (b 1 3 S rfl rfl) V;have h1:=int_of_wf I;obtain⟨Z,rfl,rfl,rfl,J⟩:=open_int underlying3 (b 2 3 U rfl rfl) X;have h2:=int_of_wf J;clear m d;simp only[List.append_nil]at l;refine(lzspoilt_any w x Y Z W).mono fun e W' ⟨he,hg⟩=>?_;subst he;exact⟨_,rfl,_,_,_,[],[],[],l,trodAll_mk1 (shut_bool underlying4 _),trodAll_mk3 (stay_sig G) (shut_int underlying3 I) (shut_int underlying3 J),rfl,hg.below.frame _,fun h=>by cases h⟩
theorem derSpoilt_holds:Rows.DerSpoiltSaid:=
 OpenClaim.holds_of_wide 5 Try.f5 rfl rfl rfl rfl rfl rfl rfl ⟨rfl,rfl,rfl,rfl,rfl⟩ rfl rfl rfl rfl rfl (by kernel_rfl) func5 (by kernel_rfl)
  (of_decide_eq_true (by kernel_rfl)) (by unfold Func.isWrapper;first|(rw[if_pos (by decide +kernel)];kernel_rfl)|(rw[if_neg (by decide +kernel)];exact⟨rfl,rfl⟩))
  (fun f b H d _=>derSpoilt_lifted f b H d)
#print axioms derSpoilt_holds
end
end Go.Proofs.Ytdomjicpdbblnaa