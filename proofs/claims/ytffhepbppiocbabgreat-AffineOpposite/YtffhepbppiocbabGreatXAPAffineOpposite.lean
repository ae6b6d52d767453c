/-
  For every number and all multiples that are handed in, the statement AffineOpposite answers true: the opposite of a product is the product of the opposite. No condition.
-/
import Derived.Test.YtffhepbppiocbabGreatXALAOpposite
import Derived.Test.YtffhepbppiocbabGreatXAOpen
namespace Go.Proofs.YtffhepbppiocbabGreat
open Go.RowKit Go.Proofs.Tryz
set_option maxRecDepth 100000
set_option maxHeartbeats 8000000
section
open Go.ChangeShapes Go.WideShapes Go.ChangeAt Go.RowKit
theorem affineOpposite_lifted(os:Os)(started:os.Started)(H:Type)(enc:TypeId×Value→H):
 ReturnsInHanded {} Tryz.checked os 4 .any (Rows.affineOppositeSpec.pre6 enc prog Tryz.f4 Rows.affineOppositeRow.domain false) (Rows.affineOppositeSpec.post enc prog Tryz.f4 false true false false):=by
 refine returnsInHanded_of_change (C:=Tryz.checked) Tryz.own started (by kernel_rfl) func4
  (ChangeSpec.witness6 (enc:=enc) (C:=Tryz.checked) false ⟨#[], #[.int .i64 0,.int .u64 0,.int .u64 0],[]⟩ 8 (by kernel_rfl) (by kernel_rfl) (by kernel_rfl) (by kernel_rfl)) ?_
 intro W x i S gs D f J K _;have d:∀(j:Nat) t v,Tryz.f4.params[j]? = some t→i[j]? = some v→Value.okWide prog W .any x t v:=f;have A:=J;obtain⟨p,q,B,U,rfl,V,X⟩:=J;have L:DataW.TrodAll enc prog W 0 (fun _=>true) true Tryz.f4.params.toList i.toList S p:=B;rw[params4]at L d;obtain⟨Y,Z,v2,d0,d1,d2,p0,p1,p2,rfl,rfl,rfl,r0,r1,r2⟩:=trodAll_three L;obtain⟨rfl,rfl⟩:=trodVars_none U;obtain⟨a0,rfl,rfl,rfl,w0⟩:=open_int underlying3 (d 0 3 Y rfl rfl) r0;have h0:=int_of_wf w0;obtain⟨z1,rfl,rfl,rfl,G⟩:=open_int underlying22 (d 1 22 Z rfl rfl) r1;obtain⟨P,rfl⟩:=Int.eq_ofNat_of_zero_le (word_of_wf G).1
 have h1:P<18446744073709551616:=by have:=(word_of_wf G).2;omega
 obtain⟨z2,rfl,rfl,rfl,I⟩:=open_int underlying22 (d 2 22 v2 rfl rfl) r2;obtain⟨Q,rfl⟩:=Int.eq_ofNat_of_zero_le (word_of_wf I).1
 have h2:Q<18446744073709551616:=by have:=(word_of_wf I).2;omega
 clear B f;simp only[List.append_nil]at A;refine(laopposite_any a0 P Q h1 h2 W).mono fun e W' ⟨he,hg⟩=>?_;subst he;exact⟨_,rfl,_,_,_,[],[],[],A,trodAll_mk1 (shut_bool underlying4 _),trodAll_mk3 (shut_int underlying3 w0) (shut_int underlying22 G) (shut_int underlying22 I),rfl,hg.below.frame _,fun h=>by cases h⟩
theorem affineOpposite_holds:Rows.AffineOppositeSaid:=
 OpenClaim.holds_of_wide 4 Tryz.f4 rfl rfl rfl rfl rfl rfl rfl ⟨rfl,rfl,rfl,rfl,rfl⟩ rfl rfl rfl rfl rfl (by kernel_rfl) func4 (by kernel_rfl)
  (of_decide_eq_true (by kernel_rfl)) (by unfold Func.isWrapper;first|(rw[if_pos (by decide +kernel)];kernel_rfl)|(rw[if_neg (by decide +kernel)];exact⟨rfl,rfl⟩))
  (fun h d H f _=>affineOpposite_lifted h d H f)
#print axioms affineOpposite_holds
end
end Go.Proofs.YtffhepbppiocbabGreat