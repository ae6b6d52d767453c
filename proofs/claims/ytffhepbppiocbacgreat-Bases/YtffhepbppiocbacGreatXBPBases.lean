/-
  For every int and every number of nine words the call Bases(id, d) returns true, and its arguments read afterwards as they read before: the given statement BasesSaid, with no condition.
-/
import Derived.Test.YtffhepbppiocbacGreatXBLRBases
import Derived.Test.YtffhepbppiocbacGreatXBOpen
namespace Go.Proofs.YtffhepbppiocbacGreat
open Go.RowKit Go.Proofs.Tryz
set_option maxRecDepth 100000
set_option maxHeartbeats 8000000
section
open Go.ChangeShapes Go.WideShapes Go.ChangeAt Go.RowKit
theorem bases_lifted(os:Os)(started:os.Started)(H:Type)(enc:TypeId×Value→H):
 ReturnsInHanded {} Tryz.checked os 12 .any (Rows.basesSpec.pre6 enc prog Tryz.f12 Rows.basesRow.domain false) (Rows.basesSpec.post enc prog Tryz.f12 false true false false):=by
 refine returnsInHanded_of_change (C:=Tryz.checked) Tryz.own started (by kernel_rfl) func12
  (ChangeSpec.witness6 (enc:=enc) (C:=Tryz.checked) false ⟨#[], #[.int .i64 0,.agg #[.int .u64 0,.int .u64 0,.int .u64 0,.int .u64 0,.int .u64 0,.int .u64 0,.int .u64 0,.int .u64 0,.int .u64 0]],[]⟩ 8 (by kernel_rfl) (by kernel_rfl) (by kernel_rfl) (by kernel_rfl)) ?_
 intro W x i P gs D d G I _;have f:∀(j:Nat) t v,Tryz.f12.params[j]? = some t→i[j]? = some v→Value.okWide prog W .any x t v:=d;have A:=G;obtain⟨p,q,B,Q,rfl,S,U⟩:=G;have J:DataW.TrodAll enc prog W 0 (fun _=>true) true Tryz.f12.params.toList i.toList P p:=B;rw[params12]at J f;obtain⟨V,X,d0,d1,p0,p1,rfl,rfl,rfl,Y,K⟩:=trodAll_two J;obtain⟨rfl,rfl⟩:=trodVars_none Q;obtain⟨Z,rfl,rfl,rfl,L⟩:=open_int underlying3 (f 0 3 V rfl rfl) Y;have h0:=int_of_wf L;obtain⟨a1,h1,rfl,rfl⟩:=open_nat (f 1 33 X rfl rfl) K;clear B d;simp only[List.append_nil]at A;refine(lrbases_any Z a1 h1 W).mono fun e W' ⟨he,hg⟩=>?_;subst he;exact⟨_,rfl,_,_,_,[],[],[],A,trodAll_mk1 (shut_bool underlying4 _),trodAll_mk2 (shut_int underlying3 L) (stay_nat K),rfl,hg.below.frame _,fun h=>by cases h⟩
theorem bases_holds:Rows.BasesSaid:=
 OpenClaim.holds_of_wide 12 Tryz.f12 rfl rfl rfl rfl rfl rfl rfl ⟨rfl,rfl,rfl,rfl,rfl⟩ rfl rfl rfl rfl rfl (by kernel_rfl) func12 (by kernel_rfl)
  (of_decide_eq_true (by kernel_rfl)) (by unfold Func.isWrapper;first|(rw[if_pos (by decide +kernel)];kernel_rfl)|(rw[if_neg (by decide +kernel)];exact⟨rfl,rfl⟩))
  (fun h d H f _=>bases_lifted h d H f)
#print axioms bases_holds
end
end Go.Proofs.YtffhepbppiocbacGreat