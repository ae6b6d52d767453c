/-
  sec1: both forms tell one point; the other first byte tells the opposite.
-/
import Derived.Test.YtiigakdbabijhaaGreatXALZBoth
import Derived.Test.YtiigakdbabijhaaGreatXAOpen
namespace Go.Proofs.YtiigakdbabijhaaGreat
open Go.RowKit Go.Proofs.Tryz
set_option maxRecDepth 100000
set_option maxHeartbeats 8000000
section
open Go.ChangeShapes Go.WideShapes Go.ChangeAt Go.RowKit
theorem sec1Both_lifted(os:Os)(started:os.Started)(H:Type)(enc:TypeId×Value→H):
 ReturnsInHanded {} Tryz.checked os 6 .any (Rows.sec1BothSpec.pre6 enc prog Tryz.f6 Rows.sec1BothRow.domain false) (Rows.sec1BothSpec.post enc prog Tryz.f6 false true false false):=by
 refine returnsInHanded_of_change (C:=Tryz.checked) Tryz.own started (by kernel_rfl) func6
  (ChangeSpec.witness6 (enc:=enc) (C:=Tryz.checked) false ⟨#[], #[.int .i64 0,.int .u64 0],[]⟩ 8 (by kernel_rfl) (by kernel_rfl) (by kernel_rfl) (by kernel_rfl)) ?_
 intro W l i L gs B d G I _;have f:∀(j:Nat) t v,Tryz.f6.params[j]? = some t→i[j]? = some v→Value.okWide prog W .any l t v:=d;have x:=G;obtain⟨p,q,A,P,rfl,Q,R⟩:=G;have J:DataW.TrodAll enc prog W 0 (fun _=>true) true Tryz.f6.params.toList i.toList L p:=A;rw[params6]at J f;obtain⟨S,U,d0,d1,p0,p1,rfl,rfl,rfl,V,X⟩:=trodAll_two J;obtain⟨rfl,rfl⟩:=trodVars_none P;obtain⟨Y,rfl,rfl,rfl,K⟩:=open_int underlying3 (f 0 3 S rfl rfl) V;have h0:=int_of_wf K;obtain⟨z1,rfl,rfl,rfl,D⟩:=open_int underlying22 (f 1 22 U rfl rfl) X;obtain⟨Z,rfl⟩:=Int.eq_ofNat_of_zero_le (word_of_wf D).1
 have h1:Z<18446744073709551616:=by have:=(word_of_wf D).2;omega
 clear A d;simp only[List.append_nil]at x;refine(lzboth_any Y h1 W).mono fun e W' ⟨he,hg⟩=>?_;subst he;exact⟨_,rfl,_,_,_,[],[],[],x,trodAll_mk1 (shut_bool underlying4 _),trodAll_mk2 (shut_int underlying3 K) (shut_int underlying22 D),rfl,hg.below.frame _,fun h=>by cases h⟩
theorem sec1Both_holds:Rows.Sec1BothSaid:=
 OpenClaim.holds_of_wide 6 Tryz.f6 rfl rfl rfl rfl rfl rfl rfl ⟨rfl,rfl,rfl,rfl,rfl⟩ rfl rfl rfl rfl rfl (by kernel_rfl) func6 (by kernel_rfl)
  (of_decide_eq_true (by kernel_rfl)) (by unfold Func.isWrapper;first|(rw[if_pos (by decide +kernel)];kernel_rfl)|(rw[if_neg (by decide +kernel)];exact⟨rfl,rfl⟩))
  (fun h d H f _=>sec1Both_lifted h d H f)
#print axioms sec1Both_holds
end
end Go.Proofs.YtiigakdbabijhaaGreat