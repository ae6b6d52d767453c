/-
  For every two ints and every number of nine words the call BaseTurns(id, d, which) returns true, and its arguments read afterwards as they read before: the given statement BaseTurnsSaid, with no condition.
-/
import Derived.Test.YtffhepbppiocbadGreatXALRTurns
import Derived.Test.YtffhepbppiocbadGreatXAOpen
namespace Go.Proofs.YtffhepbppiocbadGreat
open Go.RowKit Go.Proofs.Tryz
set_option maxRecDepth 100000
set_option maxHeartbeats 8000000
section
open Go.ChangeShapes Go.WideShapes Go.ChangeAt Go.RowKit
theorem baseTurns_lifted(os:Os)(started:os.Started)(H:Type)(enc:TypeId×Value→H):
 ReturnsInHanded {} Tryz.checked os 3 .any (Rows.baseTurnsSpec.pre6 enc prog Tryz.f3 Rows.baseTurnsRow.domain false) (Rows.baseTurnsSpec.post enc prog Tryz.f3 false true false false):=by
 refine returnsInHanded_of_change (C:=Tryz.checked) Tryz.own started (by kernel_rfl) func3
  (ChangeSpec.witness6 (enc:=enc) (C:=Tryz.checked) false ⟨#[], #[.int .i64 0,.agg #[.int .u64 0,.int .u64 0,.int .u64 0,.int .u64 0,.int .u64 0,.int .u64 0,.int .u64 0,.int .u64 0,.int .u64 0],.int .i64 0],[]⟩ 8 (by kernel_rfl) (by kernel_rfl) (by kernel_rfl) (by kernel_rfl)) ?_
 intro W x i Q gs D f G I _;have d:∀(j:Nat) t v,Tryz.f3.params[j]? = some t→i[j]? = some v→Value.okWide prog W .any x t v:=f;have A:=G;obtain⟨p,q,B,S,rfl,U,V⟩:=G;have J:DataW.TrodAll enc prog W 0 (fun _=>true) true Tryz.f3.params.toList i.toList Q p:=B;rw[params3]at J d;obtain⟨X,Y,Z,d0,d1,d2,p0,p1,p2,rfl,rfl,rfl,r0,K,r2⟩:=trodAll_three J;obtain⟨rfl,rfl⟩:=trodVars_none S;obtain⟨a0,rfl,rfl,rfl,L⟩:=open_int underlying3 (d 0 3 X rfl rfl) r0;have h0:=int_of_wf L;obtain⟨a1,h1,rfl,rfl⟩:=open_nat (d 1 25 Y rfl rfl) K;obtain⟨a2,rfl,rfl,rfl,P⟩:=open_int underlying3 (d 2 3 Z rfl rfl) r2;have h2:=int_of_wf P;clear B f;simp only[List.append_nil]at A;refine(lrturns_any a0 a1 h1 a2 W).mono fun e W' ⟨he,hg⟩=>?_;subst he;exact⟨_,rfl,_,_,_,[],[],[],A,trodAll_mk1 (shut_bool underlying4 _),trodAll_mk3 (shut_int underlying3 L) (stay_nat K) (shut_int underlying3 P),rfl,hg.below.frame _,fun h=>by cases h⟩
theorem baseTurns_holds:Rows.BaseTurnsSaid:=
 OpenClaim.holds_of_wide 3 Tryz.f3 rfl rfl rfl rfl rfl rfl rfl ⟨rfl,rfl,rfl,rfl,rfl⟩ rfl rfl rfl rfl rfl (by kernel_rfl) func3 (by kernel_rfl)
  (of_decide_eq_true (by kernel_rfl)) (by unfold Func.isWrapper;first|(rw[if_pos (by decide +kernel)];kernel_rfl)|(rw[if_neg (by decide +kernel)];exact⟨rfl,rfl⟩))
  (fun h d H f _=>baseTurns_lifted h d H f)
#print axioms baseTurns_holds
end
end Go.Proofs.YtffhepbppiocbadGreat