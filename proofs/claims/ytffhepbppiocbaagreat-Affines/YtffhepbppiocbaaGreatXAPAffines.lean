/-
  For every number and every two points that are handed in, the statement Affines answers true: Add and Neg answer as the documents do. No condition.
-/
import Derived.Test.YtffhepbppiocbaaGreatXALAffines
import Derived.Test.YtffhepbppiocbaaGreatXAOpenP
namespace Go.Proofs.YtffhepbppiocbaaGreat
open Go.RowKit Go.Proofs.Tryz
set_option maxRecDepth 100000
set_option maxHeartbeats 8000000
section
open Go.ChangeShapes Go.WideShapes Go.ChangeAt Go.RowKit
theorem affines_lifted(os:Os)(started:os.Started)(H:Type)(enc:TypeId×Value→H):
 ReturnsInHanded {} Tryz.checked os 3 .any (Rows.affinesSpec.pre6 enc prog Tryz.f3 Rows.affinesRow.domain false) (Rows.affinesSpec.post enc prog Tryz.f3 false true false false):=by
 refine returnsInHanded_of_change (C:=Tryz.checked) Tryz.own started (by kernel_rfl) func3
  (ChangeSpec.witness6 (enc:=enc) (C:=Tryz.checked) false ⟨#[], #[.int .i64 0,.agg #[.int .u64 0,.int .u64 0,.int .u64 0,.int .u64 0,.int .u64 0,.int .u64 0,.int .u64 0,.int .u64 0,.int .u64 0,.int .u64 0,.int .u64 0,.int .u64 0,.int .u64 0,.int .u64 0,.int .u64 0,.int .u64 0,.int .u64 0,.int .u64 0,.bool false],.agg #[.int .u64 0,.int .u64 0,.int .u64 0,.int .u64 0,.int .u64 0,.int .u64 0,.int .u64 0,.int .u64 0,.int .u64 0,.int .u64 0,.int .u64 0,.int .u64 0,.int .u64 0,.int .u64 0,.int .u64 0,.int .u64 0,.int .u64 0,.int .u64 0,.bool false]],[]⟩ 8 (by kernel_rfl) (by kernel_rfl) (by kernel_rfl) (by kernel_rfl)) ?_
 intro W l i V gs B f K L _;have d:∀(j:Nat) t v,Tryz.f3.params[j]? = some t→i[j]? = some v→Value.okWide prog W .any l t v:=f;have x:=K;obtain⟨p,q,A,X,rfl,Y,Z⟩:=K;have P:DataW.TrodAll enc prog W 0 (fun _=>true) true Tryz.f3.params.toList i.toList V p:=A;rw[params3]at P d;obtain⟨v0,v1,v2,d0,d1,d2,p0,p1,p2,rfl,rfl,rfl,r0,Q,S⟩:=trodAll_three P;obtain⟨rfl,rfl⟩:=trodVars_none X;obtain⟨a0,rfl,rfl,rfl,U⟩:=open_int underlying3 (d 0 3 v0 rfl rfl) r0;have h0:=int_of_wf U;obtain⟨x1,y1,f1,D,G,rfl,rfl⟩:=open_pnt (d 1 27 v1 rfl rfl) Q;obtain⟨x2,y2,f2,I,J,rfl,rfl⟩:=open_pnt (d 2 27 v2 rfl rfl) S;clear A f;simp only[List.append_nil]at x;refine(laffines_any a0 (x1,y1,f1) (x2,y2,f2) ⟨D,G⟩ ⟨I,J⟩ W).mono fun e W' ⟨he,hg⟩=>?_;subst he;exact⟨_,rfl,_,_,_,[],[],[],x,trodAll_mk1 (shut_bool underlying4 _),trodAll_mk3 (shut_int underlying3 U) (stay_pnt Q) (stay_pnt S),rfl,hg.below.frame _,fun h=>by cases h⟩
theorem affines_holds:Rows.AffinesSaid:=
 OpenClaim.holds_of_wide 3 Tryz.f3 rfl rfl rfl rfl rfl rfl rfl ⟨rfl,rfl,rfl,rfl,rfl⟩ rfl rfl rfl rfl rfl (by kernel_rfl) func3 (by kernel_rfl)
  (of_decide_eq_true (by kernel_rfl)) (by unfold Func.isWrapper;first|(rw[if_pos (by decide +kernel)];kernel_rfl)|(rw[if_neg (by decide +kernel)];exact⟨rfl,rfl⟩))
  (fun h d H f _=>affines_lifted h d H f)
#print axioms affines_holds
end
end Go.Proofs.YtffhepbppiocbaaGreat