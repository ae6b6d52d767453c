/-
  For every int which and all words k and u the call DualTiny(which, k, u) returns true, and its arguments read afterwards as they read before: the given statement DualTinySaid, with no condition.
-/
import Derived.Test.YtffhepbppiocbadGreatXALSTiny
import Derived.Test.YtffhepbppiocbadGreatXAOpen
namespace Go.Proofs.YtffhepbppiocbadGreat
open Go.RowKit Go.Proofs.Tryz
set_option maxRecDepth 100000
set_option maxHeartbeats 8000000
section
open Go.ChangeShapes Go.WideShapes Go.ChangeAt Go.RowKit
theorem dualTiny_lifted(os:Os)(started:os.Started)(H:Type)(enc:TypeId×Value→H):
 ReturnsInHanded {} Tryz.checked os 8 .any (Rows.dualTinySpec.pre6 enc prog Tryz.f8 Rows.dualTinyRow.domain false) (Rows.dualTinySpec.post enc prog Tryz.f8 false true false false):=by
 refine returnsInHanded_of_change (C:=Tryz.checked) Tryz.own started (by kernel_rfl) func8
  (ChangeSpec.witness6 (enc:=enc) (C:=Tryz.checked) false ⟨#[], #[.int .i64 0,.int .u64 0,.int .u64 0],[]⟩ 8 (by kernel_rfl) (by kernel_rfl) (by kernel_rfl) (by kernel_rfl)) ?_
 intro W x i U gs D f J K _;have d:∀(j:Nat) t v,Tryz.f8.params[j]? = some t→i[j]? = some v→Value.okWide prog W .any x t v:=f;have A:=J;obtain⟨p,q,B,V,rfl,X,Y⟩:=J;have L:DataW.TrodAll enc prog W 0 (fun _=>true) true Tryz.f8.params.toList i.toList U p:=B;rw[params8]at L d;obtain⟨Z,v1,v2,d0,d1,d2,p0,p1,p2,rfl,rfl,rfl,r0,r1,r2⟩:=trodAll_three L;obtain⟨rfl,rfl⟩:=trodVars_none V;obtain⟨a0,rfl,rfl,rfl,P⟩:=open_int underlying3 (d 0 3 Z rfl rfl) r0;have h0:=int_of_wf P;obtain⟨z1,rfl,rfl,rfl,G⟩:=open_int underlying22 (d 1 22 v1 rfl rfl) r1;obtain⟨Q,rfl⟩:=Int.eq_ofNat_of_zero_le (word_of_wf G).1
 have h1:Q<18446744073709551616:=by have:=(word_of_wf G).2;omega
 obtain⟨z2,rfl,rfl,rfl,I⟩:=open_int underlying22 (d 2 22 v2 rfl rfl) r2;obtain⟨S,rfl⟩:=Int.eq_ofNat_of_zero_le (word_of_wf I).1
 have h2:S<18446744073709551616:=by have:=(word_of_wf I).2;omega
 clear B f;simp only[List.append_nil]at A;refine(lstiny_any a0 Q S h1 h2 W).mono fun e W' ⟨he,hg⟩=>?_;subst he;exact⟨_,rfl,_,_,_,[],[],[],A,trodAll_mk1 (shut_bool underlying4 _),trodAll_mk3 (shut_int underlying3 P) (shut_int underlying22 G) (shut_int underlying22 I),rfl,hg.below.frame _,fun h=>by cases h⟩
theorem dualTiny_holds:Rows.DualTinySaid:=
 OpenClaim.holds_of_wide 8 Tryz.f8 rfl rfl rfl rfl rfl rfl rfl ⟨rfl,rfl,rfl,rfl,rfl⟩ rfl rfl rfl rfl rfl (by kernel_rfl) func8 (by kernel_rfl)
  (of_decide_eq_true (by kernel_rfl)) (by unfold Func.isWrapper;first|(rw[if_pos (by decide +kernel)];kernel_rfl)|(rw[if_neg (by decide +kernel)];exact⟨rfl,rfl⟩))
  (fun h d H f _=>dualTiny_lifted h d H f)
#print axioms dualTiny_holds
end
end Go.Proofs.YtffhepbppiocbadGreat