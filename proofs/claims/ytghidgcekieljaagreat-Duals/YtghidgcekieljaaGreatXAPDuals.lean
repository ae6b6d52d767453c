/-
  For every int id, all numbers u and v of nine words and every point q the call Duals(id, u, v, q) returns true, and its arguments read afterwards as they read before: the given statement DualsSaid, with no condition.
-/
import Derived.Carry
import Derived.Test.YtghidgcekieljaaGreatXALSDuals
import Derived.Test.YtghidgcekieljaaGreatXAOpenP
namespace Go.Proofs.YtghidgcekieljaaGreat
open Go.RowKit Go.Proofs.Tryz
set_option maxRecDepth 100000
set_option maxHeartbeats 8000000
section
open Go.ChangeShapes Go.WideShapes Go.ChangeAt Go.RowKit
theorem duals_lifted(os:Os)(started:os.Started)(H:Type)(enc:TypeId×Value→H):
 ReturnsInHanded {} Tryz.checked os 3 .any (Rows.dualsSpec.pre6 enc prog Tryz.f3 Rows.dualsRow.domain false) (Rows.dualsSpec.post enc prog Tryz.f3 false true false false):=by
 refine returnsInHanded_of_change (C:=Tryz.checked) Tryz.own started (by kernel_rfl) func3
  (ChangeSpec.witness6 (enc:=enc) (C:=Tryz.checked) false ⟨#[], #[.int .i64 0,.agg #[.int .u64 0,.int .u64 0,.int .u64 0,.int .u64 0,.int .u64 0,.int .u64 0,.int .u64 0,.int .u64 0,.int .u64 0],.agg #[.int .u64 0,.int .u64 0,.int .u64 0,.int .u64 0,.int .u64 0,.int .u64 0,.int .u64 0,.int .u64 0,.int .u64 0],.agg #[.int .u64 0,.int .u64 0,.int .u64 0,.int .u64 0,.int .u64 0,.int .u64 0,.int .u64 0,.int .u64 0,.int .u64 0,.int .u64 0,.int .u64 0,.int .u64 0,.int .u64 0,.int .u64 0,.int .u64 0,.int .u64 0,.int .u64 0,.int .u64 0,.bool false]],[]⟩ 8 (by kernel_rfl) (by kernel_rfl) (by kernel_rfl) (by kernel_rfl)) ?_
 intro W base args ds gs before hval0 hW hcnd _;have hval:∀(j:Nat) t v,Tryz.f3.params[j]? = some t→args[j]? = some v→Value.okWide prog W .any base t v:=hval0;have hW':=hW;obtain⟨p,q,hA0,hV,rfl,hfz,hnd⟩:=hW;have hA:DataW.TrodAll enc prog W 0 (fun _=>true) true Tryz.f3.params.toList args.toList ds p:=hA0;rw[params3]at hA hval;obtain⟨v0,v1,v2,v3,d0,d1,d2,d3,p0,p1,p2,p3,rfl,rfl,rfl,r0,r1,r2,r3⟩:=trodAll_four hA;obtain⟨rfl,rfl⟩:=trodVars_none hV;obtain⟨a0,rfl,rfl,rfl,w0⟩:=open_int underlying3 (hval 0 3 v0 rfl rfl) r0;have h0:=int_of_wf w0;obtain⟨a1,h1,rfl,rfl⟩:=open_nat (hval 1 25 v1 rfl rfl) r1;obtain⟨a2,h2,rfl,rfl⟩:=open_nat (hval 2 25 v2 rfl rfl) r2;obtain⟨x3,y3,f3,hx3,hy3,rfl,rfl⟩:=open_pnt (hval 3 27 v3 rfl rfl) r3;clear hA0 hval0;simp only[List.append_nil]at hW';refine(lsduals_any a0 h1 h2 (Q:=(x3,y3,f3)) ⟨hx3,hy3⟩ W).mono fun e W' ⟨he,hg⟩=>?_;subst he;exact⟨_,rfl,_,_,_,[],[],[],hW',trodAll_mk1 (shut_bool underlying4 _),trodAll_mk4 (shut_int underlying3 w0) (stay_nat r1) (stay_nat r2) (stay_pnt r3),rfl,hg.below.frame _,fun h=>by cases h⟩
theorem duals_holds:Rows.DualsSaid:=
 OpenClaim.holds_of_wide 3 Tryz.f3 rfl rfl rfl rfl rfl rfl rfl ⟨rfl,rfl,rfl,rfl,rfl⟩ rfl rfl rfl rfl rfl (by kernel_rfl) func3 (by kernel_rfl)
  (of_decide_eq_true (by kernel_rfl)) (by unfold Func.isWrapper;first|(rw[if_pos (by decide +kernel)];kernel_rfl)|(rw[if_neg (by decide +kernel)];exact⟨rfl,rfl⟩))
  (fun os started H enc _=>duals_lifted os started H enc)
#print axioms duals_holds
end
end Go.Proofs.YtghidgcekieljaaGreat