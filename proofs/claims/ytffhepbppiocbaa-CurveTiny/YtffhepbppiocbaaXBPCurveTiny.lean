/-
  For every number that is handed in, the statement CurveTiny answers true: a tiny curve has just N - 1 points of two numbers. No condition.
-/
import Derived.Test.YtffhepbppiocbaaXBLCTiny
import Derived.Test.YtffhepbppiocbaaXBOpen
namespace Go.Proofs.Ytffhepbppiocbaa
open Go.RowKit Go.Proofs.Try
set_option maxRecDepth 100000
set_option maxHeartbeats 8000000
section
open Go.ChangeShapes Go.WideShapes Go.ChangeAt Go.RowKit
theorem curveTiny_lifted(os:Os)(started:os.Started)(H:Type)(enc:TypeId×Value→H):
 ReturnsInHanded {} Try.checked os 8 .any (Rows.curveTinySpec.pre6 enc prog Try.f8 Rows.curveTinyRow.domain false) (Rows.curveTinySpec.post enc prog Try.f8 false true false false):=by
 refine returnsInHanded_of_change (C:=Try.checked) Try.own started (by kernel_rfl) func8
  (ChangeSpec.witness6 (enc:=enc) (C:=Try.checked) false ⟨#[], #[.int .i64 0],[]⟩ 8 (by kernel_rfl) (by kernel_rfl) (by kernel_rfl) (by kernel_rfl)) ?_
 intro W l f K Z B d D G _;have i:∀(j:Nat) t v,Try.f8.params[j]? = some t→f[j]? = some v→Value.okWide prog W .any l t v:=d;have x:=D;obtain⟨p,q,A,L,rfl,P,Q⟩:=D;have I:DataW.TrodAll enc prog W 0 (fun _=>true) true Try.f8.params.toList f.toList K p:=A;rw[params8]at I i;obtain⟨S,d0,rfl,rfl,U⟩:=trodAll_one I;obtain⟨rfl,rfl⟩:=trodVars_none L;obtain⟨V,rfl,rfl,rfl,J⟩:=open_int underlying3 (i 0 3 S rfl rfl) U;have h0:=int_of_wf J;clear A d;simp only[List.append_nil]at x;refine(lctiny_any V W).mono fun e W' ⟨X,Y⟩=>?_;subst X;exact⟨_,rfl,_,_,_,[],[],[],x,trodAll_mk1 (shut_bool underlying4 _),trodAll_mk1 (shut_int underlying3 J),rfl,Y.below.frame _,fun h=>by cases h⟩
theorem curveTiny_holds:Rows.CurveTinySaid:=
 OpenClaim.holds_of_wide 8 Try.f8 rfl rfl rfl rfl rfl rfl rfl ⟨rfl,rfl,rfl,rfl,rfl⟩ rfl rfl rfl rfl rfl (by kernel_rfl) func8 (by kernel_rfl)
  (of_decide_eq_true (by kernel_rfl)) (by unfold Func.isWrapper;first|(rw[if_pos (by decide +kernel)];kernel_rfl)|(rw[if_neg (by decide +kernel)];exact⟨rfl,rfl⟩))
  (fun h d H f _=>curveTiny_lifted h d H f)
#print axioms curveTiny_holds
end
end Go.Proofs.Ytffhepbppiocbaa