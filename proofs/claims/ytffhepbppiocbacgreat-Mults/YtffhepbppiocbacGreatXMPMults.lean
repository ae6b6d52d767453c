/-
  For every int id, every number d of nine words and every point p the call Mults(id, d, p) returns true, and its arguments read afterwards as they read before: the given statement MultsSaid, with no condition.
-/
import Derived.Test.YtffhepbppiocbacGreatXMLQMults
import Derived.Test.YtffhepbppiocbacGreatXMOpenP
namespace Go.Proofs.YtffhepbppiocbacGreat
open Go.RowKit Go.Proofs.Tryz
set_option maxRecDepth 100000
set_option maxHeartbeats 8000000
section
open Go.ChangeShapes Go.WideShapes Go.ChangeAt Go.RowKit
theorem mults_lifted(os:Os)(started:os.Started)(H:Type)(enc:TypeId×Value→H):
 ReturnsInHanded {} Tryz.checked os 6 .any (Rows.multsSpec.pre6 enc prog Tryz.f6 Rows.multsRow.domain false) (Rows.multsSpec.post enc prog Tryz.f6 false true false false):=by
 refine returnsInHanded_of_change (C:=Tryz.checked) Tryz.own started (by kernel_rfl) func6
  (ChangeSpec.witness6 (enc:=enc) (C:=Tryz.checked) false ⟨#[], #[.int .i64 0,.agg #[.int .u64 0,.int .u64 0,.int .u64 0,.int .u64 0,.int .u64 0,.int .u64 0,.int .u64 0,.int .u64 0,.int .u64 0],.agg #[.int .u64 0,.int .u64 0,.int .u64 0,.int .u64 0,.int .u64 0,.int .u64 0,.int .u64 0,.int .u64 0,.int .u64 0,.int .u64 0,.int .u64 0,.int .u64 0,.int .u64 0,.int .u64 0,.int .u64 0,.int .u64 0,.int .u64 0,.int .u64 0,.bool false]],[]⟩ 8 (by kernel_rfl) (by kernel_rfl) (by kernel_rfl) (by kernel_rfl)) ?_
 intro W x i U gs D f J K _;have d:∀(j:Nat) t v,Tryz.f6.params[j]? = some t→i[j]? = some v→Value.okWide prog W .any x t v:=f;have A:=J;obtain⟨p,q,B,V,rfl,X,Y⟩:=J;have L:DataW.TrodAll enc prog W 0 (fun _=>true) true Tryz.f6.params.toList i.toList U p:=B;rw[params6]at L d;obtain⟨Z,v1,v2,d0,d1,d2,p0,p1,p2,rfl,rfl,rfl,r0,P,Q⟩:=trodAll_three L;obtain⟨rfl,rfl⟩:=trodVars_none V;obtain⟨a0,rfl,rfl,rfl,S⟩:=open_int underlying3 (d 0 3 Z rfl rfl) r0;have h0:=int_of_wf S;obtain⟨a1,h1,rfl,rfl⟩:=open_nat (d 1 33 v1 rfl rfl) P;obtain⟨x2,y2,f2,G,I,rfl,rfl⟩:=open_pnt (d 2 35 v2 rfl rfl) Q;clear B f;simp only[List.append_nil]at A;refine(lqmults_any a0 a1 h1 (x2,y2,f2) ⟨G,I⟩ W).mono fun e W' ⟨he,hg⟩=>?_;subst he;exact⟨_,rfl,_,_,_,[],[],[],A,trodAll_mk1 (shut_bool underlying4 _),trodAll_mk3 (shut_int underlying3 S) (stay_nat P) (stay_pnt Q),rfl,hg.below.frame _,fun h=>by cases h⟩
theorem mults_holds:Rows.MultsSaid:=
 OpenClaim.holds_of_wide 6 Tryz.f6 rfl rfl rfl rfl rfl rfl rfl ⟨rfl,rfl,rfl,rfl,rfl⟩ rfl rfl rfl rfl rfl (by kernel_rfl) func6 (by kernel_rfl)
  (of_decide_eq_true (by kernel_rfl)) (by unfold Func.isWrapper;first|(rw[if_pos (by decide +kernel)];kernel_rfl)|(rw[if_neg (by decide +kernel)];exact⟨rfl,rfl⟩))
  (fun h d H f _=>mults_lifted h d H f)
#print axioms mults_holds
end
end Go.Proofs.YtffhepbppiocbacGreat