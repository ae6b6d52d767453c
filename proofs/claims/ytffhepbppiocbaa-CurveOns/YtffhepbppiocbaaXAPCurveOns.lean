/-
  For every number and every point that are handed in, the statement CurveOns answers true: On answers as the documents do. No condition.
-/
import Derived.Test.YtffhepbppiocbaaXALCOns
import Derived.Test.YtffhepbppiocbaaXAOpenP
namespace Go.Proofs.Ytffhepbppiocbaa
open Go.RowKit Go.Proofs.Try
set_option maxRecDepth 100000
set_option maxHeartbeats 8000000
section
open Go.ChangeShapes Go.WideShapes Go.ChangeAt Go.RowKit
theorem curveOns_lifted(os:Os)(started:os.Started)(H:Type)(enc:TypeId×Value→H):
 ReturnsInHanded {} Try.checked os 4 .any (Rows.curveOnsSpec.pre6 enc prog Try.f4 Rows.curveOnsRow.domain false) (Rows.curveOnsSpec.post enc prog Try.f4 false true false false):=by
 refine returnsInHanded_of_change (C:=Try.checked) Try.own started (by kernel_rfl) func4
  (ChangeSpec.witness6 (enc:=enc) (C:=Try.checked) false ⟨#[], #[.int .i64 0,.agg #[.int .u64 0,.int .u64 0,.int .u64 0,.int .u64 0,.int .u64 0,.int .u64 0,.int .u64 0,.int .u64 0,.int .u64 0,.int .u64 0,.int .u64 0,.int .u64 0,.int .u64 0,.int .u64 0,.int .u64 0,.int .u64 0,.int .u64 0,.int .u64 0,.bool false]],[]⟩ 8 (by kernel_rfl) (by kernel_rfl) (by kernel_rfl) (by kernel_rfl)) ?_
 intro W l i Q gs B d I J _;have f:∀(j:Nat) t v,Try.f4.params[j]? = some t→i[j]? = some v→Value.okWide prog W .any l t v:=d;have x:=I;obtain⟨p,q,A,S,rfl,U,V⟩:=I;have K:DataW.TrodAll enc prog W 0 (fun _=>true) true Try.f4.params.toList i.toList Q p:=A;rw[params4]at K f;obtain⟨X,Y,d0,d1,p0,p1,rfl,rfl,rfl,Z,L⟩:=trodAll_two K;obtain⟨rfl,rfl⟩:=trodVars_none S;obtain⟨a0,rfl,rfl,rfl,P⟩:=open_int underlying3 (f 0 3 X rfl rfl) Z;have h0:=int_of_wf P;obtain⟨x1,y1,f1,D,G,rfl,rfl⟩:=open_pnt (f 1 27 Y rfl rfl) L;clear A d;simp only[List.append_nil]at x;refine(lcons_any a0 x1 y1 f1 D G W).mono fun e W' ⟨he,hg⟩=>?_;subst he;exact⟨_,rfl,_,_,_,[],[],[],x,trodAll_mk1 (shut_bool underlying4 _),trodAll_mk2 (shut_int underlying3 P) (stay_pnt L),rfl,hg.below.frame _,fun h=>by cases h⟩
theorem curveOns_holds:Rows.CurveOnsSaid:=
 OpenClaim.holds_of_wide 4 Try.f4 rfl rfl rfl rfl rfl rfl rfl ⟨rfl,rfl,rfl,rfl,rfl⟩ rfl rfl rfl rfl rfl (by kernel_rfl) func4 (by kernel_rfl)
  (of_decide_eq_true (by kernel_rfl)) (by unfold Func.isWrapper;first|(rw[if_pos (by decide +kernel)];kernel_rfl)|(rw[if_neg (by decide +kernel)];exact⟨rfl,rfl⟩))
  (fun h d H f _=>curveOns_lifted h d H f)
#print axioms curveOns_holds
end
end Go.Proofs.Ytffhepbppiocbaa