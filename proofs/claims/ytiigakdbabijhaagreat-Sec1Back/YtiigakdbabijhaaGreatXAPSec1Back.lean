/-
  sec1: points come back in both forms, and what is taken is written as it stood.
-/
import Derived.Carry
import Derived.Test.YtiigakdbabijhaaGreatXALZBack
import Derived.Test.YtiigakdbabijhaaGreatXAOpen
namespace Go.Proofs.YtiigakdbabijhaaGreat
open Go.RowKit Go.Proofs.Tryz
set_option maxRecDepth 100000
set_option maxHeartbeats 8000000
section
open Go.ChangeShapes Go.WideShapes Go.ChangeAt Go.RowKit
open Go.ChangeMaps (open_string shut_string)
theorem sec1Back_lifted(os:Os)(started:os.Started)(H:Type)(enc:TypeId×Value→H):
 ReturnsInHanded {} Tryz.checked os 4 .any (Rows.sec1BackSpec.pre6 enc prog Tryz.f4 Rows.sec1BackRow.domain false) (Rows.sec1BackSpec.post enc prog Tryz.f4 false true false false):=by
 refine returnsInHanded_of_change (C:=Tryz.checked) Tryz.own started (by kernel_rfl) func4
  (ChangeSpec.witness6 (enc:=enc) (C:=Tryz.checked) false ⟨#[], #[.int .i64 0,.int .u64 0,.bool false,.string ⟨#[]⟩],[]⟩ 8 (by kernel_rfl) (by kernel_rfl) (by kernel_rfl) (by kernel_rfl)) ?_
 intro W l i L gs B f G I _;have d:∀(j:Nat) t v,Tryz.f4.params[j]? = some t→i[j]? = some v→Value.okWide prog W .any l t v:=f;have x:=G;obtain⟨p,q,A,P,rfl,Q,R⟩:=G;have J:DataW.TrodAll enc prog W 0 (fun _=>true) true Tryz.f4.params.toList i.toList L p:=A;rw[params4]at J d;obtain⟨S,U,V,X,d0,d1,d2,d3,p0,p1,p2,p3,rfl,rfl,rfl,Y,Z,r2,r3⟩:=trodAll_four J;obtain⟨rfl,rfl⟩:=trodVars_none P;obtain⟨a0,rfl,rfl,rfl,K⟩:=open_int underlying3 (d 0 3 S rfl rfl) Y;have h0:=int_of_wf K;obtain⟨z1,rfl,rfl,rfl,D⟩:=open_int underlying22 (d 1 22 U rfl rfl) Z;obtain⟨a1,rfl⟩:=Int.eq_ofNat_of_zero_le (word_of_wf D).1
 have h1:a1<18446744073709551616:=by have:=(word_of_wf D).2;omega
 obtain⟨a2,rfl,rfl,rfl⟩:=open_bool underlying4 (d 2 4 V rfl rfl) r2;obtain⟨a3,rfl,rfl,rfl,h3⟩:=open_string underlying9 (d 3 9 X rfl rfl) r3;clear A f;simp only[List.append_nil]at x;refine(lzback_any a0 h1 a2 a3 W).mono fun e W' ⟨he,hg⟩=>?_;subst he;exact⟨_,rfl,_,_,_,[],[],[],x,trodAll_mk1 (shut_bool underlying4 _),trodAll_mk4 (shut_int underlying3 K) (shut_int underlying22 D) (shut_bool underlying4 _) (shut_string underlying9 h3),rfl,hg.below.frame _,fun h=>by cases h⟩
theorem sec1Back_holds:Rows.Sec1BackSaid:=
 OpenClaim.holds_of_wide 4 Tryz.f4 rfl rfl rfl rfl rfl rfl rfl ⟨rfl,rfl,rfl,rfl,rfl⟩ rfl rfl rfl rfl rfl (by kernel_rfl) func4 (by kernel_rfl)
  (of_decide_eq_true (by kernel_rfl)) (by unfold Func.isWrapper;first|(rw[if_pos (by decide +kernel)];kernel_rfl)|(rw[if_neg (by decide +kernel)];exact⟨rfl,rfl⟩))
  (fun h d H f _=>sec1Back_lifted h d H f)
#print axioms sec1Back_holds
end
end Go.Proofs.YtiigakdbabijhaaGreat