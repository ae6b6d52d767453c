/-
  For every int id, every word k and every two ints i and j the call TableSums(id, k, i, j) returns true, and its arguments read afterwards as they read before: the given statement TableSumsSaid, with no condition.
-/
import Derived.Carry
import Derived.Test.YtffhepbppiocbacGreatXTLTSums
import Derived.Test.YtffhepbppiocbacGreatXTOpen
namespace Go.Proofs.YtffhepbppiocbacGreat
open Go.RowKit Go.Proofs.Tryz
set_option maxRecDepth 100000
set_option maxHeartbeats 8000000
section
open Go.ChangeShapes Go.WideShapes Go.ChangeAt Go.RowKit
theorem tableSums_lifted(os:Os)(started:os.Started)(H:Type)(enc:TypeId×Value→H):
 ReturnsInHanded {} Tryz.checked os 3 .any (Rows.tableSumsSpec.pre6 enc prog Tryz.f3 Rows.tableSumsRow.domain false) (Rows.tableSumsSpec.post enc prog Tryz.f3 false true false false):=by
 refine returnsInHanded_of_change (C:=Tryz.checked) Tryz.own started (by kernel_rfl) func3
  (ChangeSpec.witness6 (enc:=enc) (C:=Tryz.checked) false ⟨#[], #[.int .i64 0,.int .u64 0,.int .i64 0,.int .i64 0],[]⟩ 8 (by kernel_rfl) (by kernel_rfl) (by kernel_rfl) (by kernel_rfl)) ?_
 intro W x i U gs D f I J _;have d:∀(j:Nat) t v,Tryz.f3.params[j]? = some t→i[j]? = some v→Value.okWide prog W .any x t v:=f;have A:=I;obtain⟨p,q,B,V,rfl,X,Y⟩:=I;have K:DataW.TrodAll enc prog W 0 (fun _=>true) true Tryz.f3.params.toList i.toList U p:=B;rw[params3]at K d;obtain⟨Z,v1,v2,v3,d0,d1,d2,d3,p0,p1,p2,p3,rfl,rfl,rfl,r0,r1,r2,r3⟩:=trodAll_four K;obtain⟨rfl,rfl⟩:=trodVars_none V;obtain⟨a0,rfl,rfl,rfl,L⟩:=open_int underlying3 (d 0 3 Z rfl rfl) r0;have h0:=int_of_wf L;obtain⟨z1,rfl,rfl,rfl,G⟩:=open_int underlying22 (d 1 22 v1 rfl rfl) r1;obtain⟨P,rfl⟩:=Int.eq_ofNat_of_zero_le (word_of_wf G).1
 have h1:P<18446744073709551616:=by have:=(word_of_wf G).2;omega
 obtain⟨a2,rfl,rfl,rfl,Q⟩:=open_int underlying3 (d 2 3 v2 rfl rfl) r2;have h2:=int_of_wf Q;obtain⟨a3,rfl,rfl,rfl,S⟩:=open_int underlying3 (d 3 3 v3 rfl rfl) r3;have h3:=int_of_wf S;clear B f;simp only[List.append_nil]at A;refine(ltsums_any a0 P h1 a2 a3 W).mono fun e W' ⟨he,hg⟩=>?_;subst he;exact⟨_,rfl,_,_,_,[],[],[],A,trodAll_mk1 (shut_bool underlying4 _),trodAll_mk4 (shut_int underlying3 L) (shut_int underlying22 G) (shut_int underlying3 Q) (shut_int underlying3 S),rfl,hg.below.frame _,fun h=>by cases h⟩
theorem tableSums_holds:Rows.TableSumsSaid:=
 OpenClaim.holds_of_wide 3 Tryz.f3 rfl rfl rfl rfl rfl rfl rfl ⟨rfl,rfl,rfl,rfl,rfl⟩ rfl rfl rfl rfl rfl (by kernel_rfl) func3 (by kernel_rfl)
  (of_decide_eq_true (by kernel_rfl)) (by unfold Func.isWrapper;first|(rw[if_pos (by decide +kernel)];kernel_rfl)|(rw[if_neg (by decide +kernel)];exact⟨rfl,rfl⟩))
  (fun h d H f _=>tableSums_lifted h d H f)
#print axioms tableSums_holds
end
end Go.Proofs.YtffhepbppiocbacGreat