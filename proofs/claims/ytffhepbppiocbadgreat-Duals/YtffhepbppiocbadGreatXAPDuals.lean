/-
  For every int id, all numbers u and v of nine words and every point q the call Duals(id, u, v, q) returns true, and its arguments read afterwards as they read before: the given statement DualsSaid, with no condition.
-/
import Derived.Carry
import Derived.Test.YtffhepbppiocbadGreatXALSDuals
import Derived.Test.YtffhepbppiocbadGreatXAOpenP
namespace Go.Proofs.YtffhepbppiocbadGreat
open Go.RowKit Go.Proofs.Tryz
set_option maxRecDepth 100000
set_option maxHeartbeats 8000000
section
open Go.ChangeShapes Go.WideShapes Go.ChangeAt Go.RowKit
theorem duals_lifted(os:Os)(started:os.Started)(H:Type)(enc:TypeId×Value→H):
 ReturnsInHanded {} Tryz.checked os 5 .any (Rows.dualsSpec.pre6 enc prog Tryz.f5 Rows.dualsRow.domain false) (Rows.dualsSpec.post enc prog Tryz.f5 false true false false):=by
 refine returnsInHanded_of_change (C:=Tryz.checked) Tryz.own started (by kernel_rfl) func5
  (ChangeSpec.witness6 (enc:=enc) (C:=Tryz.checked) false ⟨#[], #[.int .i64 0,.agg #[.int .u64 0,.int .u64 0,.int .u64 0,.int .u64 0,.int .u64 0,.int .u64 0,.int .u64 0,.int .u64 0,.int .u64 0],.agg #[.int .u64 0,.int .u64 0,.int .u64 0,.int .u64 0,.int .u64 0,.int .u64 0,.int .u64 0,.int .u64 0,.int .u64 0],.agg #[.int .u64 0,.int .u64 0,.int .u64 0,.int .u64 0,.int .u64 0,.int .u64 0,.int .u64 0,.int .u64 0,.int .u64 0,.int .u64 0,.int .u64 0,.int .u64 0,.int .u64 0,.int .u64 0,.int .u64 0,.int .u64 0,.int .u64 0,.int .u64 0,.bool false]],[]⟩ 8 (by kernel_rfl) (by kernel_rfl) (by kernel_rfl) (by kernel_rfl)) ?_
 intro W x i X gs D f J K _;have d:∀(j:Nat) t v,Tryz.f5.params[j]? = some t→i[j]? = some v→Value.okWide prog W .any x t v:=f;have A:=J;obtain⟨p,q,B,Y,rfl,Z,aa⟩:=J;have L:DataW.TrodAll enc prog W 0 (fun _=>true) true Tryz.f5.params.toList i.toList X p:=B;rw[params5]at L d;obtain⟨v0,v1,v2,v3,d0,d1,d2,d3,p0,p1,p2,p3,rfl,rfl,rfl,r0,P,S,U⟩:=trodAll_four L;obtain⟨rfl,rfl⟩:=trodVars_none Y;obtain⟨a0,rfl,rfl,rfl,V⟩:=open_int underlying3 (d 0 3 v0 rfl rfl) r0;have h0:=int_of_wf V;obtain⟨a1,h1,rfl,rfl⟩:=open_nat (d 1 25 v1 rfl rfl) P;obtain⟨a2,h2,rfl,rfl⟩:=open_nat (d 2 25 v2 rfl rfl) S;obtain⟨x3,y3,f3,G,I,rfl,rfl⟩:=open_pnt (d 3 38 v3 rfl rfl) U;clear B f;simp only[List.append_nil]at A;refine(lsduals_any a0 h1 h2 (Q:=(x3,y3,f3)) ⟨G,I⟩ W).mono fun e W' ⟨he,hg⟩=>?_;subst he;exact⟨_,rfl,_,_,_,[],[],[],A,trodAll_mk1 (shut_bool underlying4 _),trodAll_mk4 (shut_int underlying3 V) (stay_nat P) (stay_nat S) (stay_pnt U),rfl,hg.below.frame _,fun h=>by cases h⟩
theorem duals_holds:Rows.DualsSaid:=
 OpenClaim.holds_of_wide 5 Tryz.f5 rfl rfl rfl rfl rfl rfl rfl ⟨rfl,rfl,rfl,rfl,rfl⟩ rfl rfl rfl rfl rfl (by kernel_rfl) func5 (by kernel_rfl)
  (of_decide_eq_true (by kernel_rfl)) (by unfold Func.isWrapper;first|(rw[if_pos (by decide +kernel)];kernel_rfl)|(rw[if_neg (by decide +kernel)];exact⟨rfl,rfl⟩))
  (fun h d H f _=>duals_lifted h d H f)
#print axioms duals_holds
end
end Go.Proofs.YtffhepbppiocbadGreat