/-
  sec1: coordinates from P on are refused.
-/
import Derived.Test.YtiigakdbabijhaaGreatXALZGreat
import Derived.Test.YtiigakdbabijhaaGreatXAOpen
namespace Go.Proofs.YtiigakdbabijhaaGreat
open Go.RowKit Go.Proofs.Tryz
set_option maxRecDepth 100000
set_option maxHeartbeats 8000000
section
open Go.ChangeShapes Go.WideShapes Go.ChangeAt Go.RowKit
theorem sec1Great_lifted(os:Os)(started:os.Started)(H:Type)(enc:TypeId×Value→H):
 ReturnsInHanded {} Tryz.checked os 8 .any (Rows.sec1GreatSpec.pre6 enc prog Tryz.f8 Rows.sec1GreatRow.domain false) (Rows.sec1GreatSpec.post enc prog Tryz.f8 false true false false):=by
 refine returnsInHanded_of_change (C:=Tryz.checked) Tryz.own started (by kernel_rfl) func8
  (ChangeSpec.witness6 (enc:=enc) (C:=Tryz.checked) false ⟨#[], #[.int .i64 0,.int .u64 0,.bool false],[]⟩ 8 (by kernel_rfl) (by kernel_rfl) (by kernel_rfl) (by kernel_rfl)) ?_
 intro W l i L gs B f G I _;have d:∀(j:Nat) t v,Tryz.f8.params[j]? = some t→i[j]? = some v→Value.okWide prog W .any l t v:=f;have x:=G;obtain⟨p,q,A,P,rfl,Q,R⟩:=G;have J:DataW.TrodAll enc prog W 0 (fun _=>true) true Tryz.f8.params.toList i.toList L p:=A;rw[params8]at J d;obtain⟨S,U,V,d0,d1,d2,p0,p1,p2,rfl,rfl,rfl,X,Y,Z⟩:=trodAll_three J;obtain⟨rfl,rfl⟩:=trodVars_none P;obtain⟨a0,rfl,rfl,rfl,K⟩:=open_int underlying3 (d 0 3 S rfl rfl) X;have h0:=int_of_wf K;obtain⟨z1,rfl,rfl,rfl,D⟩:=open_int underlying22 (d 1 22 U rfl rfl) Y;obtain⟨a1,rfl⟩:=Int.eq_ofNat_of_zero_le (word_of_wf D).1
 have h1:a1<18446744073709551616:=by have:=(word_of_wf D).2;omega
 obtain⟨a2,rfl,rfl,rfl⟩:=open_bool underlying4 (d 2 4 V rfl rfl) Z;clear A f;simp only[List.append_nil]at x;refine(lzgreat_any a0 h1 a2 W).mono fun e W' ⟨he,hg⟩=>?_;subst he;exact⟨_,rfl,_,_,_,[],[],[],x,trodAll_mk1 (shut_bool underlying4 _),trodAll_mk3 (shut_int underlying3 K) (shut_int underlying22 D) (shut_bool underlying4 _),rfl,hg.below.frame _,fun h=>by cases h⟩
theorem sec1Great_holds:Rows.Sec1GreatSaid:=
 OpenClaim.holds_of_wide 8 Tryz.f8 rfl rfl rfl rfl rfl rfl rfl ⟨rfl,rfl,rfl,rfl,rfl⟩ rfl rfl rfl rfl rfl (by kernel_rfl) func8 (by kernel_rfl)
  (of_decide_eq_true (by kernel_rfl)) (by unfold Func.isWrapper;first|(rw[if_pos (by decide +kernel)];kernel_rfl)|(rw[if_neg (by decide +kernel)];exact⟨rfl,rfl⟩))
  (fun h d H f _=>sec1Great_lifted h d H f)
#print axioms sec1Great_holds
end
end Go.Proofs.YtiigakdbabijhaaGreat