/-
  Sums of triples stand for sums of points, either way round, in any brackets, on each of the fifteen curves: curvetlaw15.ProjSums answers true at every input (an int, three words), with no condition besides.
-/
import Derived.Carry
import Derived.Test.YtffhepbppiocbabGreatXALJSums
import Derived.Test.YtffhepbppiocbabGreatXAOpen
namespace Go.Proofs.YtffhepbppiocbabGreat
open Go.RowKit Go.Proofs.Tryz
set_option maxRecDepth 100000
set_option maxHeartbeats 8000000
section
open Go.ChangeShapes Go.WideShapes Go.ChangeAt Go.RowKit
theorem projSums_lifted(os:Os)(started:os.Started)(H:Type)(enc:TypeId×Value→H):
 ReturnsInHanded {} Tryz.checked os 9 .any (Rows.projSumsSpec.pre6 enc prog Tryz.f9 Rows.projSumsRow.domain false) (Rows.projSumsSpec.post enc prog Tryz.f9 false true false false):=by
 refine returnsInHanded_of_change (C:=Tryz.checked) Tryz.own started (by kernel_rfl) func9
  (ChangeSpec.witness6 (enc:=enc) (C:=Tryz.checked) false ⟨#[], #[.int .i64 0,.int .u64 0,.int .u64 0,.int .u64 0],[]⟩ 8 (by kernel_rfl) (by kernel_rfl) (by kernel_rfl) (by kernel_rfl)) ?_
 intro W x i V gs D f K L _;have d:∀(j:Nat) t v,Tryz.f9.params[j]? = some t→i[j]? = some v→Value.okWide prog W .any x t v:=f;have A:=K;obtain⟨p,q,B,X,rfl,Y,Z⟩:=K;have P:DataW.TrodAll enc prog W 0 (fun _=>true) true Tryz.f9.params.toList i.toList V p:=B;rw[params9]at P d;obtain⟨v0,v1,v2,v3,d0,d1,d2,d3,p0,p1,p2,p3,rfl,rfl,rfl,r0,r1,r2,r3⟩:=trodAll_four P;obtain⟨rfl,rfl⟩:=trodVars_none X;obtain⟨a0,rfl,rfl,rfl,w0⟩:=open_int underlying3 (d 0 3 v0 rfl rfl) r0;have h0:=int_of_wf w0;obtain⟨z1,rfl,rfl,rfl,G⟩:=open_int underlying22 (d 1 22 v1 rfl rfl) r1;obtain⟨Q,rfl⟩:=Int.eq_ofNat_of_zero_le (word_of_wf G).1
 have h1:Q<18446744073709551616:=by have:=(word_of_wf G).2;omega
 obtain⟨z2,rfl,rfl,rfl,I⟩:=open_int underlying22 (d 2 22 v2 rfl rfl) r2;obtain⟨S,rfl⟩:=Int.eq_ofNat_of_zero_le (word_of_wf I).1
 have h2:S<18446744073709551616:=by have:=(word_of_wf I).2;omega
 obtain⟨z3,rfl,rfl,rfl,J⟩:=open_int underlying22 (d 3 22 v3 rfl rfl) r3;obtain⟨U,rfl⟩:=Int.eq_ofNat_of_zero_le (word_of_wf J).1
 have h3:U<18446744073709551616:=by have:=(word_of_wf J).2;omega
 clear B f;simp only[List.append_nil]at A;refine(ljsums_any a0 Q S U h1 h2 h3 W).mono fun e W' ⟨he,hg⟩=>?_;subst he;exact⟨_,rfl,_,_,_,[],[],[],A,trodAll_mk1 (shut_bool underlying4 _),trodAll_mk4 (shut_int underlying3 w0) (shut_int underlying22 G) (shut_int underlying22 I) (shut_int underlying22 J),rfl,hg.below.frame _,fun h=>by cases h⟩
theorem projSums_holds:Rows.ProjSumsSaid:=
 OpenClaim.holds_of_wide 9 Tryz.f9 rfl rfl rfl rfl rfl rfl rfl ⟨rfl,rfl,rfl,rfl,rfl⟩ rfl rfl rfl rfl rfl (by kernel_rfl) func9 (by kernel_rfl)
  (of_decide_eq_true (by kernel_rfl)) (by unfold Func.isWrapper;first|(rw[if_pos (by decide +kernel)];kernel_rfl)|(rw[if_neg (by decide +kernel)];exact⟨rfl,rfl⟩))
  (fun h d H f _=>projSums_lifted h d H f)
#print axioms projSums_holds
end
end Go.Proofs.YtffhepbppiocbabGreat