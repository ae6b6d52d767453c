/-
  For every two numbers and every choice that are handed in, the statement CurveOff answers true: a base point with one bit of Y turned is on its curve just if it is the opposite, and never with the mark of infinity. No condition.
-/
import Derived.Test.YtffhepbppiocbaaXALCOff
import Derived.Test.YtffhepbppiocbaaXAOpen
namespace Go.Proofs.Ytffhepbppiocbaa
open Go.RowKit Go.Proofs.Try
set_option maxRecDepth 100000
set_option maxHeartbeats 8000000
section
open Go.ChangeShapes Go.WideShapes Go.ChangeAt Go.RowKit
theorem curveOff_lifted(os:Os)(started:os.Started)(H:Type)(enc:TypeId×Value→H):
 ReturnsInHanded {} Try.checked os 7 .any (Rows.curveOffSpec.pre6 enc prog Try.f7 Rows.curveOffRow.domain false) (Rows.curveOffSpec.post enc prog Try.f7 false true false false):=by
 refine returnsInHanded_of_change (C:=Try.checked) Try.own started (by kernel_rfl) func7
  (ChangeSpec.witness6 (enc:=enc) (C:=Try.checked) false ⟨#[], #[.int .i64 0,.int .i64 0,.bool false],[]⟩ 8 (by kernel_rfl) (by kernel_rfl) (by kernel_rfl) (by kernel_rfl)) ?_
 intro W l i L gs B f D G _;have d:∀(j:Nat) t v,Try.f7.params[j]? = some t→i[j]? = some v→Value.okWide prog W .any l t v:=f;have x:=D;obtain⟨p,q,A,P,rfl,Q,S⟩:=D;have I:DataW.TrodAll enc prog W 0 (fun _=>true) true Try.f7.params.toList i.toList L p:=A;rw[params7]at I d;obtain⟨U,V,X,d0,d1,d2,p0,p1,p2,rfl,rfl,rfl,Y,Z,r2⟩:=trodAll_three I;obtain⟨rfl,rfl⟩:=trodVars_none P;obtain⟨a0,rfl,rfl,rfl,J⟩:=open_int underlying3 (d 0 3 U rfl rfl) Y;have h0:=int_of_wf J;obtain⟨a1,rfl,rfl,rfl,K⟩:=open_int underlying3 (d 1 3 V rfl rfl) Z;have h1:=int_of_wf K;obtain⟨a2,rfl,rfl,rfl⟩:=open_bool underlying4 (d 2 4 X rfl rfl) r2;clear A f;simp only[List.append_nil]at x;refine(lcoff_any a0 a1 a2 W).mono fun e W' ⟨he,hg⟩=>?_;subst he;exact⟨_,rfl,_,_,_,[],[],[],x,trodAll_mk1 (shut_bool underlying4 _),trodAll_mk3 (shut_int underlying3 J) (shut_int underlying3 K) (shut_bool underlying4 _),rfl,hg.below.frame _,fun h=>by cases h⟩
theorem curveOff_holds:Rows.CurveOffSaid:=
 OpenClaim.holds_of_wide 7 Try.f7 rfl rfl rfl rfl rfl rfl rfl ⟨rfl,rfl,rfl,rfl,rfl⟩ rfl rfl rfl rfl rfl (by kernel_rfl) func7 (by kernel_rfl)
  (of_decide_eq_true (by kernel_rfl)) (by unfold Func.isWrapper;first|(rw[if_pos (by decide +kernel)];kernel_rfl)|(rw[if_neg (by decide +kernel)];exact⟨rfl,rfl⟩))
  (fun h d H f _=>curveOff_lifted h d H f)
#print axioms curveOff_holds
end
end Go.Proofs.Ytffhepbppiocbaa