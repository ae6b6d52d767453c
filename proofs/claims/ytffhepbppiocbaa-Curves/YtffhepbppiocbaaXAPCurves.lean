/-
  For every number that is handed in, the statement Curves answers true: Get answers the curve's numbers as the documents have them, or ErrCurveId and the zero value; Ids answers 1 to 15, a new list each time. No condition.
-/
import Derived.Test.YtffhepbppiocbaaXALCurves
import Derived.Test.YtffhepbppiocbaaXAOpen
namespace Go.Proofs.Ytffhepbppiocbaa
open Go.RowKit Go.Proofs.Try
set_option maxRecDepth 100000
set_option maxHeartbeats 8000000
section
open Go.ChangeShapes Go.WideShapes Go.ChangeAt Go.RowKit
theorem curves_lifted(os:Os)(started:os.Started)(H:Type)(enc:TypeId×Value→H):
 ReturnsInHanded {} Try.checked os 3 .any (Rows.curvesSpec.pre6 enc prog Try.f3 Rows.curvesRow.domain false) (Rows.curvesSpec.post enc prog Try.f3 false true false false):=by
 refine returnsInHanded_of_change (C:=Try.checked) Try.own started (by kernel_rfl) func3
  (ChangeSpec.witness6 (enc:=enc) (C:=Try.checked) false ⟨#[], #[.int .i64 0],[]⟩ 8 (by kernel_rfl) (by kernel_rfl) (by kernel_rfl) (by kernel_rfl)) ?_
 intro W l f K Z B d D G _;have i:∀(j:Nat) t v,Try.f3.params[j]? = some t→f[j]? = some v→Value.okWide prog W .any l t v:=d;have x:=D;obtain⟨p,q,A,L,rfl,P,Q⟩:=D;have I:DataW.TrodAll enc prog W 0 (fun _=>true) true Try.f3.params.toList f.toList K p:=A;rw[params3]at I i;obtain⟨S,d0,rfl,rfl,U⟩:=trodAll_one I;obtain⟨rfl,rfl⟩:=trodVars_none L;obtain⟨V,rfl,rfl,rfl,J⟩:=open_int underlying3 (i 0 3 S rfl rfl) U;have h0:=int_of_wf J;clear A d;simp only[List.append_nil]at x;refine(lcurves_any V W).mono fun e W' ⟨X,Y⟩=>?_;subst X;exact⟨_,rfl,_,_,_,[],[],[],x,trodAll_mk1 (shut_bool underlying4 _),trodAll_mk1 (shut_int underlying3 J),rfl,Y.below.frame _,fun h=>by cases h⟩
theorem curves_holds:Rows.CurvesSaid:=
 OpenClaim.holds_of_wide 3 Try.f3 rfl rfl rfl rfl rfl rfl rfl ⟨rfl,rfl,rfl,rfl,rfl⟩ rfl rfl rfl rfl rfl (by kernel_rfl) func3 (by kernel_rfl)
  (of_decide_eq_true (by kernel_rfl)) (by unfold Func.isWrapper;first|(rw[if_pos (by decide +kernel)];kernel_rfl)|(rw[if_neg (by decide +kernel)];exact⟨rfl,rfl⟩))
  (fun h d H f _=>curves_lifted h d H f)
#print axioms curves_holds
end
end Go.Proofs.Ytffhepbppiocbaa