/-
  sec1: texts of another length, or with another first byte, are no points.
-/
import Derived.Carry
import Derived.Test.YtiigakdbabijhaaGreatXALZLens
import Derived.Test.YtiigakdbabijhaaGreatXAOpen
namespace Go.Proofs.YtiigakdbabijhaaGreat
open Go.RowKit Go.Proofs.Tryz
set_option maxRecDepth 100000
set_option maxHeartbeats 8000000
section
open Go.ChangeShapes Go.WideShapes Go.ChangeAt Go.RowKit
theorem sec1Lengths_lifted(os:Os)(started:os.Started)(H:Type)(enc:TypeId×Value→H):
 ReturnsInHanded {} Tryz.checked os 7 .any (Rows.sec1LengthsSpec.pre6 enc prog Tryz.f7 Rows.sec1LengthsRow.domain false) (Rows.sec1LengthsSpec.post enc prog Tryz.f7 false true false false):=by
 refine returnsInHanded_of_change (C:=Tryz.checked) Tryz.own started (by kernel_rfl) func7
  (ChangeSpec.witness6 (enc:=enc) (C:=Tryz.checked) false ⟨#[], #[.int .i64 0,.int .u64 0,.int .i64 0,.int .i64 0],[]⟩ 8 (by kernel_rfl) (by kernel_rfl) (by kernel_rfl) (by kernel_rfl)) ?_
 intro W l i Q gs B f G I _;have d:∀(j:Nat) t v,Tryz.f7.params[j]? = some t→i[j]? = some v→Value.okWide prog W .any l t v:=f;have x:=G;obtain⟨p,q,A,R,rfl,S,U⟩:=G;have J:DataW.TrodAll enc prog W 0 (fun _=>true) true Tryz.f7.params.toList i.toList Q p:=A;rw[params7]at J d;obtain⟨V,X,Y,Z,d0,d1,d2,d3,p0,p1,p2,p3,rfl,rfl,rfl,r0,r1,r2,r3⟩:=trodAll_four J;obtain⟨rfl,rfl⟩:=trodVars_none R;obtain⟨a0,rfl,rfl,rfl,K⟩:=open_int underlying3 (d 0 3 V rfl rfl) r0;have h0:=int_of_wf K;obtain⟨z1,rfl,rfl,rfl,D⟩:=open_int underlying22 (d 1 22 X rfl rfl) r1;obtain⟨a1,rfl⟩:=Int.eq_ofNat_of_zero_le (word_of_wf D).1
 have h1:a1<18446744073709551616:=by have:=(word_of_wf D).2;omega
 obtain⟨a2,rfl,rfl,rfl,L⟩:=open_int underlying3 (d 2 3 Y rfl rfl) r2;have h2:=int_of_wf L;obtain⟨a3,rfl,rfl,rfl,P⟩:=open_int underlying3 (d 3 3 Z rfl rfl) r3;have h3:=int_of_wf P;clear A f;simp only[List.append_nil]at x;refine(lzlens_any a0 h1 a2 a3 W).mono fun e W' ⟨he,hg⟩=>?_;subst he;exact⟨_,rfl,_,_,_,[],[],[],x,trodAll_mk1 (shut_bool underlying4 _),trodAll_mk4 (shut_int underlying3 K) (shut_int underlying22 D) (shut_int underlying3 L) (shut_int underlying3 P),rfl,hg.below.frame _,fun h=>by cases h⟩
theorem sec1Lengths_holds:Rows.Sec1LengthsSaid:=
 OpenClaim.holds_of_wide 7 Tryz.f7 rfl rfl rfl rfl rfl rfl rfl ⟨rfl,rfl,rfl,rfl,rfl⟩ rfl rfl rfl rfl rfl (by kernel_rfl) func7 (by kernel_rfl)
  (of_decide_eq_true (by kernel_rfl)) (by unfold Func.isWrapper;first|(rw[if_pos (by decide +kernel)];kernel_rfl)|(rw[if_neg (by decide +kernel)];exact⟨rfl,rfl⟩))
  (fun h d H f _=>sec1Lengths_lifted h d H f)
#print axioms sec1Lengths_holds
end
end Go.Proofs.YtiigakdbabijhaaGreat