/-
  sec1: on a tiny curve just so many short texts are points as the group has, twice.
-/
import Derived.Test.YtiigakdbabijhaaGreatXALZTiny
import Derived.Test.YtiigakdbabijhaaGreatXAOpen
namespace Go.Proofs.YtiigakdbabijhaaGreat
open Go.RowKit Go.Proofs.Tryz
set_option maxRecDepth 100000
set_option maxHeartbeats 8000000
section
open Go.ChangeShapes Go.WideShapes Go.ChangeAt Go.RowKit
theorem sec1Tiny_lifted(os:Os)(started:os.Started)(H:Type)(enc:TypeId×Value→H):
 ReturnsInHanded {} Tryz.checked os 5 .any (Rows.sec1TinySpec.pre6 enc prog Tryz.f5 Rows.sec1TinyRow.domain false) (Rows.sec1TinySpec.post enc prog Tryz.f5 false true false false):=by
 refine returnsInHanded_of_change (C:=Tryz.checked) Tryz.own started (by kernel_rfl) func5
  (ChangeSpec.witness6 (enc:=enc) (C:=Tryz.checked) false ⟨#[], #[.int .i64 0,.int .i64 0],[]⟩ 8 (by kernel_rfl) (by kernel_rfl) (by kernel_rfl) (by kernel_rfl)) ?_
 intro W l i L gs B d D G _;have f:∀(j:Nat) t v,Tryz.f5.params[j]? = some t→i[j]? = some v→Value.okWide prog W .any l t v:=d;have x:=D;obtain⟨p,q,A,P,rfl,Q,R⟩:=D;have I:DataW.TrodAll enc prog W 0 (fun _=>true) true Tryz.f5.params.toList i.toList L p:=A;rw[params5]at I f;obtain⟨S,U,d0,d1,p0,p1,rfl,rfl,rfl,V,X⟩:=trodAll_two I;obtain⟨rfl,rfl⟩:=trodVars_none P;obtain⟨Y,rfl,rfl,rfl,J⟩:=open_int underlying3 (f 0 3 S rfl rfl) V;have h0:=int_of_wf J;obtain⟨Z,rfl,rfl,rfl,K⟩:=open_int underlying3 (f 1 3 U rfl rfl) X;have h1:=int_of_wf K;clear A d;simp only[List.append_nil]at x;refine(lztiny_any Y Z W).mono fun e W' ⟨he,hg⟩=>?_;subst he;exact⟨_,rfl,_,_,_,[],[],[],x,trodAll_mk1 (shut_bool underlying4 _),trodAll_mk2 (shut_int underlying3 J) (shut_int underlying3 K),rfl,hg.below.frame _,fun h=>by cases h⟩
theorem sec1Tiny_holds:Rows.Sec1TinySaid:=
 OpenClaim.holds_of_wide 5 Tryz.f5 rfl rfl rfl rfl rfl rfl rfl ⟨rfl,rfl,rfl,rfl,rfl⟩ rfl rfl rfl rfl rfl (by kernel_rfl) func5 (by kernel_rfl)
  (of_decide_eq_true (by kernel_rfl)) (by unfold Func.isWrapper;first|(rw[if_pos (by decide +kernel)];kernel_rfl)|(rw[if_neg (by decide +kernel)];exact⟨rfl,rfl⟩))
  (fun h d H f _=>sec1Tiny_lifted h d H f)
#print axioms sec1Tiny_holds
end
end Go.Proofs.YtiigakdbabijhaaGreat