/-
  For every int, every two numbers of nine words and every two words the call MultBlind(id, d, e, k, j) returns true, and its arguments read afterwards as they read before: the given statement MultBlindSaid, with no condition.
-/
import Derived.Test.YtffhepbppiocbacGreatXMLQBlind
import Derived.Test.YtffhepbppiocbacGreatXMOpen
import Derived.Test.YtffhepbppiocbacGreatXMOpenV
namespace Go.Proofs.YtffhepbppiocbacGreat
open Go.RowKit Go.Proofs.Tryz
set_option maxRecDepth 100000
set_option maxHeartbeats 8000000
section
open Go.ChangeShapes Go.WideShapes Go.ChangeAt Go.RowKit
theorem multBlind_lifted(os:Os)(started:os.Started)(H:Type)(enc:TypeId×Value→H):
 ReturnsInHanded {} Tryz.checked os 7 .any (Rows.multBlindSpec.pre6 enc prog Tryz.f7 Rows.multBlindRow.domain false) (Rows.multBlindSpec.post enc prog Tryz.f7 false true false false):=by
 refine returnsInHanded_of_change (C:=Tryz.checked) Tryz.own started (by kernel_rfl) func7
  (ChangeSpec.witness6 (enc:=enc) (C:=Tryz.checked) false ⟨#[], #[.int .i64 0,.agg #[.int .u64 0,.int .u64 0,.int .u64 0,.int .u64 0,.int .u64 0,.int .u64 0,.int .u64 0,.int .u64 0,.int .u64 0],.agg #[.int .u64 0,.int .u64 0,.int .u64 0,.int .u64 0,.int .u64 0,.int .u64 0,.int .u64 0,.int .u64 0,.int .u64 0],.int .u64 0,.int .u64 0],[]⟩ 8 (by kernel_rfl) (by kernel_rfl) (by kernel_rfl) (by kernel_rfl)) ?_
 intro W x i X gs D f J K _;have d:∀(j:Nat) t v,Tryz.f7.params[j]? = some t→i[j]? = some v→Value.okWide prog W .any x t v:=f;have A:=J;obtain⟨p,q,B,Y,rfl,Z,aa⟩:=J;have L:DataW.TrodAll enc prog W 0 (fun _=>true) true Tryz.f7.params.toList i.toList X p:=B;rw[params7]at L d;obtain⟨v0,v1,v2,v3,v4,d0,d1,d2,d3,d4,p0,p1,p2,p3,p4,rfl,rfl,rfl,r0,P,Q,r3,r4⟩:=trodAll_five L;obtain⟨rfl,rfl⟩:=trodVars_none Y;obtain⟨a0,rfl,rfl,rfl,S⟩:=open_int underlying3 (d 0 3 v0 rfl rfl) r0;have h0:=int_of_wf S;obtain⟨a1,h1,rfl,rfl⟩:=open_nat (d 1 33 v1 rfl rfl) P;obtain⟨a2,h2,rfl,rfl⟩:=open_nat (d 2 33 v2 rfl rfl) Q;obtain⟨z3,rfl,rfl,rfl,G⟩:=open_int underlying22 (d 3 22 v3 rfl rfl) r3;obtain⟨U,rfl⟩:=Int.eq_ofNat_of_zero_le (word_of_wf G).1
 have h3:U<18446744073709551616:=by have:=(word_of_wf G).2;omega
 obtain⟨z4,rfl,rfl,rfl,I⟩:=open_int underlying22 (d 4 22 v4 rfl rfl) r4;obtain⟨V,rfl⟩:=Int.eq_ofNat_of_zero_le (word_of_wf I).1
 have h4:V<18446744073709551616:=by have:=(word_of_wf I).2;omega
 clear B f;simp only[List.append_nil]at A;refine(lqblind_any a0 a1 a2 h1 h2 U V h3 h4 W).mono fun e W' ⟨he,hg⟩=>?_;subst he;exact⟨_,rfl,_,_,_,[],[],[],A,trodAll_mk1 (shut_bool underlying4 _),trodAll_mk5 (shut_int underlying3 S) (stay_nat P) (stay_nat Q) (shut_int underlying22 G) (shut_int underlying22 I),rfl,hg.below.frame _,fun h=>by cases h⟩
theorem multBlind_holds:Rows.MultBlindSaid:=
 OpenClaim.holds_of_wide 7 Tryz.f7 rfl rfl rfl rfl rfl rfl rfl ⟨rfl,rfl,rfl,rfl,rfl⟩ rfl rfl rfl rfl rfl (by kernel_rfl) func7 (by kernel_rfl)
  (of_decide_eq_true (by kernel_rfl)) (by unfold Func.isWrapper;first|(rw[if_pos (by decide +kernel)];kernel_rfl)|(rw[if_neg (by decide +kernel)];exact⟨rfl,rfl⟩))
  (fun h d H f _=>multBlind_lifted h d H f)
#print axioms multBlind_holds
end
end Go.Proofs.YtffhepbppiocbacGreat