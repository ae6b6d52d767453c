/-
  Any triples, by the points that they stand for (To, Add, Double): curvetlaw15.Projs answers true at every input (an int, any two triples of numbers of nine words), with no condition besides.
-/
import Derived.Test.YtffhepbppiocbabGreatXALJProjs
import Derived.Test.YtffhepbppiocbabGreatXAOpenJ
namespace Go.Proofs.YtffhepbppiocbabGreat
open Go.RowKit Go.Proofs.Tryz
set_option maxRecDepth 100000
set_option maxHeartbeats 8000000
section
open Go.ChangeShapes Go.WideShapes Go.ChangeAt Go.RowKit
theorem projs_lifted(os:Os)(started:os.Started)(H:Type)(enc:TypeId×Value→H):
 ReturnsInHanded {} Tryz.checked os 6 .any (Rows.projsSpec.pre6 enc prog Tryz.f6 Rows.projsRow.domain false) (Rows.projsSpec.post enc prog Tryz.f6 false true false false):=by
 refine returnsInHanded_of_change (C:=Tryz.checked) Tryz.own started (by kernel_rfl) func6
  (ChangeSpec.witness6 (enc:=enc) (C:=Tryz.checked) false ⟨#[], #[.int .i64 0,.agg #[.int .u64 0,.int .u64 0,.int .u64 0,.int .u64 0,.int .u64 0,.int .u64 0,.int .u64 0,.int .u64 0,.int .u64 0,.int .u64 0,.int .u64 0,.int .u64 0,.int .u64 0,.int .u64 0,.int .u64 0,.int .u64 0,.int .u64 0,.int .u64 0,.int .u64 0,.int .u64 0,.int .u64 0,.int .u64 0,.int .u64 0,.int .u64 0,.int .u64 0,.int .u64 0,.int .u64 0],.agg #[.int .u64 0,.int .u64 0,.int .u64 0,.int .u64 0,.int .u64 0,.int .u64 0,.int .u64 0,.int .u64 0,.int .u64 0,.int .u64 0,.int .u64 0,.int .u64 0,.int .u64 0,.int .u64 0,.int .u64 0,.int .u64 0,.int .u64 0,.int .u64 0,.int .u64 0,.int .u64 0,.int .u64 0,.int .u64 0,.int .u64 0,.int .u64 0,.int .u64 0,.int .u64 0,.int .u64 0]],[]⟩ 8 (by kernel_rfl) (by kernel_rfl) (by kernel_rfl) (by kernel_rfl)) ?_
 intro W x i Y gs D f Q S _;have d:∀(j:Nat) t v,Tryz.f6.params[j]? = some t→i[j]? = some v→Value.okWide prog W .any x t v:=f;have A:=Q;obtain⟨p,q,B,Z,rfl,aa,ab⟩:=Q;have U:DataW.TrodAll enc prog W 0 (fun _=>true) true Tryz.f6.params.toList i.toList Y p:=B;rw[params6]at U d;obtain⟨v0,v1,v2,d0,d1,d2,p0,p1,p2,rfl,rfl,rfl,r0,V,X⟩:=trodAll_three U;obtain⟨rfl,rfl⟩:=trodVars_none Z;obtain⟨a0,rfl,rfl,rfl,w0⟩:=open_int underlying3 (d 0 3 v0 rfl rfl) r0;have h0:=int_of_wf w0;obtain⟨x1,y1,z1,G,I,J,rfl,rfl⟩:=open_prj (d 1 53 v1 rfl rfl) V;obtain⟨x2,y2,z2,K,L,P,rfl,rfl⟩:=open_prj (d 2 53 v2 rfl rfl) X;clear B f;simp only[List.append_nil]at A;refine(ljprojs_any a0 (x1,y1,z1) (x2,y2,z2) ⟨G,I,J⟩ ⟨K,L,P⟩ W).mono fun e W' ⟨he,hg⟩=>?_;subst he;exact⟨_,rfl,_,_,_,[],[],[],A,trodAll_mk1 (shut_bool underlying4 _),trodAll_mk3 (shut_int underlying3 w0) (stay_prj V) (stay_prj X),rfl,hg.below.frame _,fun h=>by cases h⟩
theorem projs_holds:Rows.ProjsSaid:=
 OpenClaim.holds_of_wide 6 Tryz.f6 rfl rfl rfl rfl rfl rfl rfl ⟨rfl,rfl,rfl,rfl,rfl⟩ rfl rfl rfl rfl rfl (by kernel_rfl) func6 (by kernel_rfl)
  (of_decide_eq_true (by kernel_rfl)) (by unfold Func.isWrapper;first|(rw[if_pos (by decide +kernel)];kernel_rfl)|(rw[if_neg (by decide +kernel)];exact⟨rfl,rfl⟩))
  (fun h d H f _=>projs_lifted h d H f)
#print axioms projs_holds
end
end Go.Proofs.YtffhepbppiocbabGreat