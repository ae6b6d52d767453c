/-
  For every int, every two numbers of nine words and every word the call MultAdds(id, a, b, k) returns true, and its arguments read afterwards as they read before: the given statement MultAddsSaid, with no condition.
-/
import Derived.Carry
import Derived.Test.YtffhepbppiocbacGreatXMLQAdds
import Derived.Test.YtffhepbppiocbacGreatXMOpen
namespace Go.Proofs.YtffhepbppiocbacGreat
open Go.RowKit Go.Proofs.Tryz
set_option maxRecDepth 100000
set_option maxHeartbeats 8000000
section
open Go.ChangeShapes Go.WideShapes Go.ChangeAt Go.RowKit
theorem multAdds_lifted(os:Os)(started:os.Started)(H:Type)(enc:TypeId×Value→H):
 ReturnsInHanded {} Tryz.checked os 9 .any (Rows.multAddsSpec.pre6 enc prog Tryz.f9 Rows.multAddsRow.domain false) (Rows.multAddsSpec.post enc prog Tryz.f9 false true false false):=by
 refine returnsInHanded_of_change (C:=Tryz.checked) Tryz.own started (by kernel_rfl) func9
  (ChangeSpec.witness6 (enc:=enc) (C:=Tryz.checked) false ⟨#[], #[.int .i64 0,.agg #[.int .u64 0,.int .u64 0,.int .u64 0,.int .u64 0,.int .u64 0,.int .u64 0,.int .u64 0,.int .u64 0,.int .u64 0],.agg #[.int .u64 0,.int .u64 0,.int .u64 0,.int .u64 0,.int .u64 0,.int .u64 0,.int .u64 0,.int .u64 0,.int .u64 0],.int .u64 0],[]⟩ 8 (by kernel_rfl) (by kernel_rfl) (by kernel_rfl) (by kernel_rfl)) ?_
 intro W x i U gs D f I J _;have d:∀(j:Nat) t v,Tryz.f9.params[j]? = some t→i[j]? = some v→Value.okWide prog W .any x t v:=f;have A:=I;obtain⟨p,q,B,V,rfl,X,Y⟩:=I;have K:DataW.TrodAll enc prog W 0 (fun _=>true) true Tryz.f9.params.toList i.toList U p:=B;rw[params9]at K d;obtain⟨Z,v1,v2,v3,d0,d1,d2,d3,p0,p1,p2,p3,rfl,rfl,rfl,r0,L,P,r3⟩:=trodAll_four K;obtain⟨rfl,rfl⟩:=trodVars_none V;obtain⟨a0,rfl,rfl,rfl,Q⟩:=open_int underlying3 (d 0 3 Z rfl rfl) r0;have h0:=int_of_wf Q;obtain⟨a1,h1,rfl,rfl⟩:=open_nat (d 1 33 v1 rfl rfl) L;obtain⟨a2,h2,rfl,rfl⟩:=open_nat (d 2 33 v2 rfl rfl) P;obtain⟨z3,rfl,rfl,rfl,G⟩:=open_int underlying22 (d 3 22 v3 rfl rfl) r3;obtain⟨S,rfl⟩:=Int.eq_ofNat_of_zero_le (word_of_wf G).1
 have h3:S<18446744073709551616:=by have:=(word_of_wf G).2;omega
 clear B f;simp only[List.append_nil]at A;refine(lqadds_any a0 a1 a2 h1 h2 S h3 W).mono fun e W' ⟨he,hg⟩=>?_;subst he;exact⟨_,rfl,_,_,_,[],[],[],A,trodAll_mk1 (shut_bool underlying4 _),trodAll_mk4 (shut_int underlying3 Q) (stay_nat L) (stay_nat P) (shut_int underlying22 G),rfl,hg.below.frame _,fun h=>by cases h⟩
theorem multAdds_holds:Rows.MultAddsSaid:=
 OpenClaim.holds_of_wide 9 Tryz.f9 rfl rfl rfl rfl rfl rfl rfl ⟨rfl,rfl,rfl,rfl,rfl⟩ rfl rfl rfl rfl rfl (by kernel_rfl) func9 (by kernel_rfl)
  (of_decide_eq_true (by kernel_rfl)) (by unfold Func.isWrapper;first|(rw[if_pos (by decide +kernel)];kernel_rfl)|(rw[if_neg (by decide +kernel)];exact⟨rfl,rfl⟩))
  (fun h d H f _=>multAdds_lifted h d H f)
#print axioms multAdds_holds
end
end Go.Proofs.YtffhepbppiocbacGreat