/-
  For every int id, every point p, every int size and every row of ints picks the call Tables(id, p, size, picks) returns true, and its arguments read afterwards as they read before: the given statement TablesSaid, with no condition.
-/
import Derived.Test.YtffhepbppiocbabGreatXALTTab
import Derived.Test.YtffhepbppiocbabGreatXAOpenR
import Derived.Test.YtffhepbppiocbabGreatXAOpenP
namespace Go.Proofs.YtffhepbppiocbabGreat
open Go.RowKit Go.Proofs.Tryz
set_option maxRecDepth 100000
set_option maxHeartbeats 8000000
section
open Go.ChangeShapes Go.WideShapes Go.ChangeAt Go.RowKit
theorem tables_lifted(os:Os)(started:os.Started)(H:Type)(enc:TypeId×Value→H):
 ReturnsInHanded {} Tryz.checked os 13 .any (Rows.tablesSpec.pre6 enc prog Tryz.f13 Rows.tablesRow.domain false) (Rows.tablesSpec.post enc prog Tryz.f13 false true false false):=by
 refine returnsInHanded_of_change (C:=Tryz.checked) Tryz.own started (by kernel_rfl) func13
  (ChangeSpec.witness6 (enc:=enc) (C:=Tryz.checked) false ⟨#[], #[.int .i64 0,.agg #[.int .u64 0,.int .u64 0,.int .u64 0,.int .u64 0,.int .u64 0,.int .u64 0,.int .u64 0,.int .u64 0,.int .u64 0,.int .u64 0,.int .u64 0,.int .u64 0,.int .u64 0,.int .u64 0,.int .u64 0,.int .u64 0,.int .u64 0,.int .u64 0,.bool false],.int .i64 0,.slice none 0 0],[]⟩ 8 (by kernel_rfl) (by kernel_rfl) (by kernel_rfl) (by kernel_rfl)) ?_
 intro W x i V gs D f J K _;have d:∀(j:Nat) t v,Tryz.f13.params[j]? = some t→i[j]? = some v→Value.okWide prog W .any x t v:=f;have A:=J;obtain⟨p,q,B,X,rfl,Y,Z⟩:=J;have L:DataW.TrodAll enc prog W 0 (fun _=>true) true Tryz.f13.params.toList i.toList V p:=B;rw[params13]at L d;obtain⟨v0,v1,v2,v3,d0,d1,d2,d3,p0,p1,p2,p3,rfl,rfl,rfl,r0,P,r2,Q⟩:=trodAll_four L;obtain⟨rfl,rfl⟩:=trodVars_none X;obtain⟨a0,rfl,rfl,rfl,w0⟩:=open_int underlying3 (d 0 3 v0 rfl rfl) r0;have h0:=int_of_wf w0;obtain⟨x1,y1,f1,G,I,rfl,rfl⟩:=open_pnt (d 1 35 v1 rfl rfl) P;obtain⟨a2,rfl,rfl,rfl,S⟩:=open_int underlying3 (d 2 3 v2 rfl rfl) r2;have h2:=int_of_wf S;obtain⟨q3,n3,c3,f3,rfl,h3,-⟩:=open_ints (d 3 76 v3 rfl rfl) Q;clear B f;simp only[List.append_nil]at A;refine(lttab_any a0 (x1,y1,f1) ⟨G,I⟩ a2 q3 n3 c3 f3 W h3).mono fun e W' ⟨he,U⟩=>?_;subst he;exact⟨_,rfl,_,_,_,[],_,[],A,trodAll_mk1 (shut_bool underlying4 _),trodAll_mk4 (shut_int underlying3 w0) (stay_pnt P) (shut_int underlying3 S) (stay_ints Q U.below),rfl,U.below.frame _,fun h=>by cases h⟩
theorem tables_holds:Rows.TablesSaid:=
 OpenClaim.holds_of_wide 13 Tryz.f13 rfl rfl rfl rfl rfl rfl rfl ⟨rfl,rfl,rfl,rfl,rfl⟩ rfl rfl rfl rfl rfl (by kernel_rfl) func13 (by kernel_rfl)
  (of_decide_eq_true (by kernel_rfl)) (by unfold Func.isWrapper;first|(rw[if_pos (by decide +kernel)];kernel_rfl)|(rw[if_neg (by decide +kernel)];exact⟨rfl,rfl⟩))
  (fun h d H f _=>tables_lifted h d H f)
#print axioms tables_holds
end
end Go.Proofs.YtffhepbppiocbabGreat