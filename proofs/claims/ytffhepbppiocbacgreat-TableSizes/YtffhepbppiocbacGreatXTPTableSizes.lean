/-
  For every three ints the call TableSizes(id, size, at) returns true, and its arguments read afterwards as they read before: the given statement TableSizesSaid, with no condition.
-/
import Derived.Test.YtffhepbppiocbacGreatXTLTSizes
import Derived.Test.YtffhepbppiocbacGreatXTOpen
namespace Go.Proofs.YtffhepbppiocbacGreat
open Go.RowKit Go.Proofs.Tryz
set_option maxRecDepth 100000
set_option maxHeartbeats 8000000
section
open Go.ChangeShapes Go.WideShapes Go.ChangeAt Go.RowKit
theorem tableSizes_lifted(os:Os)(started:os.Started)(H:Type)(enc:TypeId×Value→H):
 ReturnsInHanded {} Tryz.checked os 4 .any (Rows.tableSizesSpec.pre6 enc prog Tryz.f4 Rows.tableSizesRow.domain false) (Rows.tableSizesSpec.post enc prog Tryz.f4 false true false false):=by
 refine returnsInHanded_of_change (C:=Tryz.checked) Tryz.own started (by kernel_rfl) func4
  (ChangeSpec.witness6 (enc:=enc) (C:=Tryz.checked) false ⟨#[], #[.int .i64 0,.int .i64 0,.int .i64 0],[]⟩ 8 (by kernel_rfl) (by kernel_rfl) (by kernel_rfl) (by kernel_rfl)) ?_
 intro W x i Q gs D f G I _;have d:∀(j:Nat) t v,Tryz.f4.params[j]? = some t→i[j]? = some v→Value.okWide prog W .any x t v:=f;have A:=G;obtain⟨p,q,B,S,rfl,U,V⟩:=G;have J:DataW.TrodAll enc prog W 0 (fun _=>true) true Tryz.f4.params.toList i.toList Q p:=B;rw[params4]at J d;obtain⟨X,Y,Z,d0,d1,d2,p0,p1,p2,rfl,rfl,rfl,r0,r1,r2⟩:=trodAll_three J;obtain⟨rfl,rfl⟩:=trodVars_none S;obtain⟨a0,rfl,rfl,rfl,K⟩:=open_int underlying3 (d 0 3 X rfl rfl) r0;have h0:=int_of_wf K;obtain⟨a1,rfl,rfl,rfl,L⟩:=open_int underlying3 (d 1 3 Y rfl rfl) r1;have h1:=int_of_wf L;obtain⟨a2,rfl,rfl,rfl,P⟩:=open_int underlying3 (d 2 3 Z rfl rfl) r2;have h2:=int_of_wf P;clear B f;simp only[List.append_nil]at A;refine(ltsizes_any a0 a1 a2 W).mono fun e W' ⟨he,hg⟩=>?_;subst he;exact⟨_,rfl,_,_,_,[],[],[],A,trodAll_mk1 (shut_bool underlying4 _),trodAll_mk3 (shut_int underlying3 K) (shut_int underlying3 L) (shut_int underlying3 P),rfl,hg.below.frame _,fun h=>by cases h⟩
theorem tableSizes_holds:Rows.TableSizesSaid:=
 OpenClaim.holds_of_wide 4 Tryz.f4 rfl rfl rfl rfl rfl rfl rfl ⟨rfl,rfl,rfl,rfl,rfl⟩ rfl rfl rfl rfl rfl (by kernel_rfl) func4 (by kernel_rfl)
  (of_decide_eq_true (by kernel_rfl)) (by unfold Func.isWrapper;first|(rw[if_pos (by decide +kernel)];kernel_rfl)|(rw[if_neg (by decide +kernel)];exact⟨rfl,rfl⟩))
  (fun h d H f _=>tableSizes_lifted h d H f)
#print axioms tableSizes_holds
end
end Go.Proofs.YtffhepbppiocbacGreat