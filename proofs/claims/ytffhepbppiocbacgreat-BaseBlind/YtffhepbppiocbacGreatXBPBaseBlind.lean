/-
  For every int and every two numbers of nine words the call BaseBlind(id, d, e) returns true, and its arguments read afterwards as they read before: the given statement BaseBlindSaid, with no condition.
-/
import Derived.Test.YtffhepbppiocbacGreatXBLRBlind
import Derived.Test.YtffhepbppiocbacGreatXBOpen
namespace Go.Proofs.YtffhepbppiocbacGreat
open Go.RowKit Go.Proofs.Tryz
set_option maxRecDepth 100000
set_option maxHeartbeats 8000000
section
open Go.ChangeShapes Go.WideShapes Go.ChangeAt Go.RowKit
theorem baseBlind_lifted(os:Os)(started:os.Started)(H:Type)(enc:TypeId×Value→H):
 ReturnsInHanded {} Tryz.checked os 13 .any (Rows.baseBlindSpec.pre6 enc prog Tryz.f13 Rows.baseBlindRow.domain false) (Rows.baseBlindSpec.post enc prog Tryz.f13 false true false false):=by
 refine returnsInHanded_of_change (C:=Tryz.checked) Tryz.own started (by kernel_rfl) func13
  (ChangeSpec.witness6 (enc:=enc) (C:=Tryz.checked) false ⟨#[], #[.int .i64 0,.agg #[.int .u64 0,.int .u64 0,.int .u64 0,.int .u64 0,.int .u64 0,.int .u64 0,.int .u64 0,.int .u64 0,.int .u64 0],.agg #[.int .u64 0,.int .u64 0,.int .u64 0,.int .u64 0,.int .u64 0,.int .u64 0,.int .u64 0,.int .u64 0,.int .u64 0]],[]⟩ 8 (by kernel_rfl) (by kernel_rfl) (by kernel_rfl) (by kernel_rfl)) ?_
 intro W x i Q gs D f G I _;have d:∀(j:Nat) t v,Tryz.f13.params[j]? = some t→i[j]? = some v→Value.okWide prog W .any x t v:=f;have A:=G;obtain⟨p,q,B,S,rfl,U,V⟩:=G;have J:DataW.TrodAll enc prog W 0 (fun _=>true) true Tryz.f13.params.toList i.toList Q p:=B;rw[params13]at J d;obtain⟨X,Y,Z,d0,d1,d2,p0,p1,p2,rfl,rfl,rfl,r0,K,L⟩:=trodAll_three J;obtain⟨rfl,rfl⟩:=trodVars_none S;obtain⟨a0,rfl,rfl,rfl,P⟩:=open_int underlying3 (d 0 3 X rfl rfl) r0;have h0:=int_of_wf P;obtain⟨a1,h1,rfl,rfl⟩:=open_nat (d 1 33 Y rfl rfl) K;obtain⟨a2,h2,rfl,rfl⟩:=open_nat (d 2 33 Z rfl rfl) L;clear B f;simp only[List.append_nil]at A;refine(lrblind_any a0 a1 a2 h1 h2 W).mono fun e W' ⟨he,hg⟩=>?_;subst he;exact⟨_,rfl,_,_,_,[],[],[],A,trodAll_mk1 (shut_bool underlying4 _),trodAll_mk3 (shut_int underlying3 P) (stay_nat K) (stay_nat L),rfl,hg.below.frame _,fun h=>by cases h⟩
theorem baseBlind_holds:Rows.BaseBlindSaid:=
 OpenClaim.holds_of_wide 13 Tryz.f13 rfl rfl rfl rfl rfl rfl rfl ⟨rfl,rfl,rfl,rfl,rfl⟩ rfl rfl rfl rfl rfl (by kernel_rfl) func13 (by kernel_rfl)
  (of_decide_eq_true (by kernel_rfl)) (by unfold Func.isWrapper;first|(rw[if_pos (by decide +kernel)];kernel_rfl)|(rw[if_neg (by decide +kernel)];exact⟨rfl,rfl⟩))
  (fun h d H f _=>baseBlind_lifted h d H f)
#print axioms baseBlind_holds
end
end Go.Proofs.YtffhepbppiocbacGreat