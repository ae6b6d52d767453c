/-
  For every number and all multiples that are handed in, the statement AffineSplits answers true: a sum of numbers times a point is the sum of both products. No condition.
-/
import Derived.Carry
import Derived.Test.YtffhepbppiocbaaGreatXALASplits
import Derived.Test.YtffhepbppiocbaaGreatXAOpen
namespace Go.Proofs.YtffhepbppiocbaaGreat
open Go.RowKit Go.Proofs.Tryz
set_option maxRecDepth 100000
set_option maxHeartbeats 8000000
section
open Go.ChangeShapes Go.WideShapes Go.ChangeAt Go.RowKit
theorem affineSplits_lifted(os:Os)(started:os.Started)(H:Type)(enc:TypeId×Value→H):
 ReturnsInHanded {} Tryz.checked os 7 .any (Rows.affineSplitsSpec.pre6 enc prog Tryz.f7 Rows.affineSplitsRow.domain false) (Rows.affineSplitsSpec.post enc prog Tryz.f7 false true false false):=by
 refine returnsInHanded_of_change (C:=Tryz.checked) Tryz.own started (by kernel_rfl) func7
  (ChangeSpec.witness6 (enc:=enc) (C:=Tryz.checked) false ⟨#[], #[.int .i64 0,.int .u64 0,.int .u64 0,.int .u64 0],[]⟩ 8 (by kernel_rfl) (by kernel_rfl) (by kernel_rfl) (by kernel_rfl)) ?_
 intro W l i V gs B f J K _;have d:∀(j:Nat) t v,Tryz.f7.params[j]? = some t→i[j]? = some v→Value.okWide prog W .any l t v:=f;have x:=J;obtain⟨p,q,A,X,rfl,Y,Z⟩:=J;have L:DataW.TrodAll enc prog W 0 (fun _=>true) true Tryz.f7.params.toList i.toList V p:=A;rw[params7]at L d;obtain⟨v0,v1,v2,v3,d0,d1,d2,d3,p0,p1,p2,p3,rfl,rfl,rfl,r0,r1,r2,r3⟩:=trodAll_four L;obtain⟨rfl,rfl⟩:=trodVars_none X;obtain⟨a0,rfl,rfl,rfl,P⟩:=open_int underlying3 (d 0 3 v0 rfl rfl) r0;have h0:=int_of_wf P;obtain⟨z1,rfl,rfl,rfl,D⟩:=open_int underlying22 (d 1 22 v1 rfl rfl) r1;obtain⟨Q,rfl⟩:=Int.eq_ofNat_of_zero_le (word_of_wf D).1
 have h1:Q<18446744073709551616:=by have:=(word_of_wf D).2;omega
 obtain⟨z2,rfl,rfl,rfl,G⟩:=open_int underlying22 (d 2 22 v2 rfl rfl) r2;obtain⟨S,rfl⟩:=Int.eq_ofNat_of_zero_le (word_of_wf G).1
 have h2:S<18446744073709551616:=by have:=(word_of_wf G).2;omega
 obtain⟨z3,rfl,rfl,rfl,I⟩:=open_int underlying22 (d 3 22 v3 rfl rfl) r3;obtain⟨U,rfl⟩:=Int.eq_ofNat_of_zero_le (word_of_wf I).1
 have h3:U<18446744073709551616:=by have:=(word_of_wf I).2;omega
 clear A f;simp only[List.append_nil]at x;refine(lasplits_any a0 Q S U h1 h2 h3 W).mono fun e W' ⟨he,hg⟩=>?_;subst he;exact⟨_,rfl,_,_,_,[],[],[],x,trodAll_mk1 (shut_bool underlying4 _),trodAll_mk4 (shut_int underlying3 P) (shut_int underlying22 D) (shut_int underlying22 G) (shut_int underlying22 I),rfl,hg.below.frame _,fun h=>by cases h⟩
theorem affineSplits_holds:Rows.AffineSplitsSaid:=
 OpenClaim.holds_of_wide 7 Tryz.f7 rfl rfl rfl rfl rfl rfl rfl ⟨rfl,rfl,rfl,rfl,rfl⟩ rfl rfl rfl rfl rfl (by kernel_rfl) func7 (by kernel_rfl)
  (of_decide_eq_true (by kernel_rfl)) (by unfold Func.isWrapper;first|(rw[if_pos (by decide +kernel)];kernel_rfl)|(rw[if_neg (by decide +kernel)];exact⟨rfl,rfl⟩))
  (fun h d H f _=>affineSplits_lifted h d H f)
#print axioms affineSplits_holds
end
end Go.Proofs.YtffhepbppiocbaaGreat