/-
  On a tiny curve triples walk round from any point, each standing for the next multiple: curvetlaw15.ProjTiny answers true at every input (an int, a word), with no condition besides.
-/
import Derived.Test.YtffhepbppiocbabGreatXALJTiny
import Derived.Test.YtffhepbppiocbabGreatXAOpen
namespace Go.Proofs.YtffhepbppiocbabGreat
open Go.RowKit Go.Proofs.Tryz
set_option maxRecDepth 100000
set_option maxHeartbeats 8000000
section
open Go.ChangeShapes Go.WideShapes Go.ChangeAt Go.RowKit
theorem projTiny_lifted(os:Os)(started:os.Started)(H:Type)(enc:TypeId×Value→H):
 ReturnsInHanded {} Tryz.checked os 12 .any (Rows.projTinySpec.pre6 enc prog Tryz.f12 Rows.projTinyRow.domain false) (Rows.projTinySpec.post enc prog Tryz.f12 false true false false):=by
 refine returnsInHanded_of_change (C:=Tryz.checked) Tryz.own started (by kernel_rfl) func12
  (ChangeSpec.witness6 (enc:=enc) (C:=Tryz.checked) false ⟨#[], #[.int .i64 0,.int .u64 0],[]⟩ 8 (by kernel_rfl) (by kernel_rfl) (by kernel_rfl) (by kernel_rfl)) ?_
 intro W x i P gs D d I J _;have f:∀(j:Nat) t v,Tryz.f12.params[j]? = some t→i[j]? = some v→Value.okWide prog W .any x t v:=d;have A:=I;obtain⟨p,q,B,Q,rfl,S,U⟩:=I;have K:DataW.TrodAll enc prog W 0 (fun _=>true) true Tryz.f12.params.toList i.toList P p:=B;rw[params12]at K f;obtain⟨V,X,d0,d1,p0,p1,rfl,rfl,rfl,Y,Z⟩:=trodAll_two K;obtain⟨rfl,rfl⟩:=trodVars_none Q;obtain⟨a0,rfl,rfl,rfl,w0⟩:=open_int underlying3 (f 0 3 V rfl rfl) Y;have h0:=int_of_wf w0;obtain⟨z1,rfl,rfl,rfl,G⟩:=open_int underlying22 (f 1 22 X rfl rfl) Z;obtain⟨L,rfl⟩:=Int.eq_ofNat_of_zero_le (word_of_wf G).1
 have h1:L<18446744073709551616:=by have:=(word_of_wf G).2;omega
 clear B d;simp only[List.append_nil]at A;refine(ljtiny_any a0 L h1 W).mono fun e W' ⟨he,hg⟩=>?_;subst he;exact⟨_,rfl,_,_,_,[],[],[],A,trodAll_mk1 (shut_bool underlying4 _),trodAll_mk2 (shut_int underlying3 w0) (shut_int underlying22 G),rfl,hg.below.frame _,fun h=>by cases h⟩
theorem projTiny_holds:Rows.ProjTinySaid:=
 OpenClaim.holds_of_wide 12 Tryz.f12 rfl rfl rfl rfl rfl rfl rfl ⟨rfl,rfl,rfl,rfl,rfl⟩ rfl rfl rfl rfl rfl (by kernel_rfl) func12 (by kernel_rfl)
  (of_decide_eq_true (by kernel_rfl)) (by unfold Func.isWrapper;first|(rw[if_pos (by decide +kernel)];kernel_rfl)|(rw[if_neg (by decide +kernel)];exact⟨rfl,rfl⟩))
  (fun h d H f _=>projTiny_lifted h d H f)
#print axioms projTiny_holds
end
end Go.Proofs.YtffhepbppiocbabGreat