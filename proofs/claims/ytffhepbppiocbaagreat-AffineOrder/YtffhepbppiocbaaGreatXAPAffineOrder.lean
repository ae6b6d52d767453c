/-
  For every number and every multiple that are handed in, the statement AffineOrder answers true: N times the point is infinity, N + 1 times it the point. No condition.
-/
import Derived.Test.YtffhepbppiocbaaGreatXALAOrder
import Derived.Test.YtffhepbppiocbaaGreatXAOpen
namespace Go.Proofs.YtffhepbppiocbaaGreat
open Go.RowKit Go.Proofs.Tryz
set_option maxRecDepth 100000
set_option maxHeartbeats 8000000
section
open Go.ChangeShapes Go.WideShapes Go.ChangeAt Go.RowKit
theorem affineOrder_lifted(os:Os)(started:os.Started)(H:Type)(enc:TypeId×Value→H):
 ReturnsInHanded {} Tryz.checked os 8 .any (Rows.affineOrderSpec.pre6 enc prog Tryz.f8 Rows.affineOrderRow.domain false) (Rows.affineOrderSpec.post enc prog Tryz.f8 false true false false):=by
 refine returnsInHanded_of_change (C:=Tryz.checked) Tryz.own started (by kernel_rfl) func8
  (ChangeSpec.witness6 (enc:=enc) (C:=Tryz.checked) false ⟨#[], #[.int .i64 0,.int .u64 0],[]⟩ 8 (by kernel_rfl) (by kernel_rfl) (by kernel_rfl) (by kernel_rfl)) ?_
 intro W l i P gs B d G I _;have f:∀(j:Nat) t v,Tryz.f8.params[j]? = some t→i[j]? = some v→Value.okWide prog W .any l t v:=d;have x:=G;obtain⟨p,q,A,Q,rfl,S,U⟩:=G;have J:DataW.TrodAll enc prog W 0 (fun _=>true) true Tryz.f8.params.toList i.toList P p:=A;rw[params8]at J f;obtain⟨V,X,d0,d1,p0,p1,rfl,rfl,rfl,Y,Z⟩:=trodAll_two J;obtain⟨rfl,rfl⟩:=trodVars_none Q;obtain⟨a0,rfl,rfl,rfl,K⟩:=open_int underlying3 (f 0 3 V rfl rfl) Y;have h0:=int_of_wf K;obtain⟨z1,rfl,rfl,rfl,D⟩:=open_int underlying22 (f 1 22 X rfl rfl) Z;obtain⟨L,rfl⟩:=Int.eq_ofNat_of_zero_le (word_of_wf D).1
 have h1:L<18446744073709551616:=by have:=(word_of_wf D).2;omega
 clear A d;simp only[List.append_nil]at x;refine(laorder_any a0 L h1 W).mono fun e W' ⟨he,hg⟩=>?_;subst he;exact⟨_,rfl,_,_,_,[],[],[],x,trodAll_mk1 (shut_bool underlying4 _),trodAll_mk2 (shut_int underlying3 K) (shut_int underlying22 D),rfl,hg.below.frame _,fun h=>by cases h⟩
theorem affineOrder_holds:Rows.AffineOrderSaid:=
 OpenClaim.holds_of_wide 8 Tryz.f8 rfl rfl rfl rfl rfl rfl rfl ⟨rfl,rfl,rfl,rfl,rfl⟩ rfl rfl rfl rfl rfl (by kernel_rfl) func8 (by kernel_rfl)
  (of_decide_eq_true (by kernel_rfl)) (by unfold Func.isWrapper;first|(rw[if_pos (by decide +kernel)];kernel_rfl)|(rw[if_neg (by decide +kernel)];exact⟨rfl,rfl⟩))
  (fun h d H f _=>affineOrder_lifted h d H f)
#print axioms affineOrder_holds
end
end Go.Proofs.YtffhepbppiocbaaGreat