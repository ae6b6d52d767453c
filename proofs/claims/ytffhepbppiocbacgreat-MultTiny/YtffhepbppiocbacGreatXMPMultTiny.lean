/-
  For every int and every word the call MultTiny(which, k) returns true, and its arguments read afterwards as they read before: the given statement MultTinySaid, with no condition.
-/
import Derived.Test.YtffhepbppiocbacGreatXMLQTiny
import Derived.Test.YtffhepbppiocbacGreatXMOpen
namespace Go.Proofs.YtffhepbppiocbacGreat
open Go.RowKit Go.Proofs.Tryz
set_option maxRecDepth 100000
set_option maxHeartbeats 8000000
section
open Go.ChangeShapes Go.WideShapes Go.ChangeAt Go.RowKit
theorem multTiny_lifted(os:Os)(started:os.Started)(H:Type)(enc:TypeId×Value→H):
 ReturnsInHanded {} Tryz.checked os 11 .any (Rows.multTinySpec.pre6 enc prog Tryz.f11 Rows.multTinyRow.domain false) (Rows.multTinySpec.post enc prog Tryz.f11 false true false false):=by
 refine returnsInHanded_of_change (C:=Tryz.checked) Tryz.own started (by kernel_rfl) func11
  (ChangeSpec.witness6 (enc:=enc) (C:=Tryz.checked) false ⟨#[], #[.int .i64 0,.int .u64 0],[]⟩ 8 (by kernel_rfl) (by kernel_rfl) (by kernel_rfl) (by kernel_rfl)) ?_
 intro W x i Q gs D d I J _;have f:∀(j:Nat) t v,Tryz.f11.params[j]? = some t→i[j]? = some v→Value.okWide prog W .any x t v:=d;have A:=I;obtain⟨p,q,B,S,rfl,U,V⟩:=I;have K:DataW.TrodAll enc prog W 0 (fun _=>true) true Tryz.f11.params.toList i.toList Q p:=B;rw[params11]at K f;obtain⟨X,Y,d0,d1,p0,p1,rfl,rfl,rfl,Z,r1⟩:=trodAll_two K;obtain⟨rfl,rfl⟩:=trodVars_none S;obtain⟨a0,rfl,rfl,rfl,L⟩:=open_int underlying3 (f 0 3 X rfl rfl) Z;have h0:=int_of_wf L;obtain⟨z1,rfl,rfl,rfl,G⟩:=open_int underlying22 (f 1 22 Y rfl rfl) r1;obtain⟨P,rfl⟩:=Int.eq_ofNat_of_zero_le (word_of_wf G).1
 have h1:P<18446744073709551616:=by have:=(word_of_wf G).2;omega
 clear B d;simp only[List.append_nil]at A;refine(lqtiny_any a0 P h1 W).mono fun e W' ⟨he,hg⟩=>?_;subst he;exact⟨_,rfl,_,_,_,[],[],[],A,trodAll_mk1 (shut_bool underlying4 _),trodAll_mk2 (shut_int underlying3 L) (shut_int underlying22 G),rfl,hg.below.frame _,fun h=>by cases h⟩
theorem multTiny_holds:Rows.MultTinySaid:=
 OpenClaim.holds_of_wide 11 Tryz.f11 rfl rfl rfl rfl rfl rfl rfl ⟨rfl,rfl,rfl,rfl,rfl⟩ rfl rfl rfl rfl rfl (by kernel_rfl) func11 (by kernel_rfl)
  (of_decide_eq_true (by kernel_rfl)) (by unfold Func.isWrapper;first|(rw[if_pos (by decide +kernel)];kernel_rfl)|(rw[if_neg (by decide +kernel)];exact⟨rfl,rfl⟩))
  (fun h d H f _=>multTiny_lifted h d H f)
#print axioms multTiny_holds
end
end Go.Proofs.YtffhepbppiocbacGreat