/-
  Triples of no point are refused: curvetlaw15.ProjNone answers true at every input (an int, a word, an int), with no condition besides.
-/
import Derived.Test.YtffhepbppiocbabGreatXALJNone
import Derived.Test.YtffhepbppiocbabGreatXAOpen
namespace Go.Proofs.YtffhepbppiocbabGreat
open Go.RowKit Go.Proofs.Tryz
set_option maxRecDepth 100000
set_option maxHeartbeats 8000000
section
open Go.ChangeShapes Go.WideShapes Go.ChangeAt Go.RowKit
theorem projNone_lifted(os:Os)(started:os.Started)(H:Type)(enc:TypeId×Value→H):
 ReturnsInHanded {} Tryz.checked os 11 .any (Rows.projNoneSpec.pre6 enc prog Tryz.f11 Rows.projNoneRow.domain false) (Rows.projNoneSpec.post enc prog Tryz.f11 false true false false):=by
 refine returnsInHanded_of_change (C:=Tryz.checked) Tryz.own started (by kernel_rfl) func11
  (ChangeSpec.witness6 (enc:=enc) (C:=Tryz.checked) false ⟨#[], #[.int .i64 0,.int .u64 0,.int .i64 0],[]⟩ 8 (by kernel_rfl) (by kernel_rfl) (by kernel_rfl) (by kernel_rfl)) ?_
 intro W x i Q gs D f I J _;have d:∀(j:Nat) t v,Tryz.f11.params[j]? = some t→i[j]? = some v→Value.okWide prog W .any x t v:=f;have A:=I;obtain⟨p,q,B,S,rfl,U,V⟩:=I;have K:DataW.TrodAll enc prog W 0 (fun _=>true) true Tryz.f11.params.toList i.toList Q p:=B;rw[params11]at K d;obtain⟨X,Y,Z,d0,d1,d2,p0,p1,p2,rfl,rfl,rfl,r0,r1,r2⟩:=trodAll_three K;obtain⟨rfl,rfl⟩:=trodVars_none S;obtain⟨a0,rfl,rfl,rfl,w0⟩:=open_int underlying3 (d 0 3 X rfl rfl) r0;have h0:=int_of_wf w0;obtain⟨z1,rfl,rfl,rfl,G⟩:=open_int underlying22 (d 1 22 Y rfl rfl) r1;obtain⟨L,rfl⟩:=Int.eq_ofNat_of_zero_le (word_of_wf G).1
 have h1:L<18446744073709551616:=by have:=(word_of_wf G).2;omega
 obtain⟨a2,rfl,rfl,rfl,P⟩:=open_int underlying3 (d 2 3 Z rfl rfl) r2;have h2:=int_of_wf P;clear B f;simp only[List.append_nil]at A;refine(ljnone_any a0 a2 L h1 W).mono fun e W' ⟨he,hg⟩=>?_;subst he;exact⟨_,rfl,_,_,_,[],[],[],A,trodAll_mk1 (shut_bool underlying4 _),trodAll_mk3 (shut_int underlying3 w0) (shut_int underlying22 G) (shut_int underlying3 P),rfl,hg.below.frame _,fun h=>by cases h⟩
theorem projNone_holds:Rows.ProjNoneSaid:=
 OpenClaim.holds_of_wide 11 Tryz.f11 rfl rfl rfl rfl rfl rfl rfl ⟨rfl,rfl,rfl,rfl,rfl⟩ rfl rfl rfl rfl rfl (by kernel_rfl) func11 (by kernel_rfl)
  (of_decide_eq_true (by kernel_rfl)) (by unfold Func.isWrapper;first|(rw[if_pos (by decide +kernel)];kernel_rfl)|(rw[if_neg (by decide +kernel)];exact⟨rfl,rfl⟩))
  (fun h d H f _=>projNone_lifted h d H f)
#print axioms projNone_holds
end
end Go.Proofs.YtffhepbppiocbabGreat