/-
  For every number, every factor and every point that are handed in, the statement AffineTimes answers true: Mul answers as the documents do. No condition.
-/
import Derived.Test.YtffhepbppiocbaaGreatXALATimes
import Derived.Test.YtffhepbppiocbaaGreatXAOpenP
namespace Go.Proofs.YtffhepbppiocbaaGreat
open Go.RowKit Go.Proofs.Tryz
set_option maxRecDepth 100000
set_option maxHeartbeats 8000000
section
open Go.ChangeShapes Go.WideShapes Go.ChangeAt Go.RowKit
theorem affineTimes_lifted(os:Os)(started:os.Started)(H:Type)(enc:TypeId×Value→H):
 ReturnsInHanded {} Tryz.checked os 4 .any (Rows.affineTimesSpec.pre6 enc prog Tryz.f4 Rows.affineTimesRow.domain false) (Rows.affineTimesSpec.post enc prog Tryz.f4 false true false false):=by
 refine returnsInHanded_of_change (C:=Tryz.checked) Tryz.own started (by kernel_rfl) func4
  (ChangeSpec.witness6 (enc:=enc) (C:=Tryz.checked) false ⟨#[], #[.int .i64 0,.agg #[.int .u64 0,.int .u64 0,.int .u64 0,.int .u64 0,.int .u64 0,.int .u64 0,.int .u64 0,.int .u64 0,.int .u64 0],.agg #[.int .u64 0,.int .u64 0,.int .u64 0,.int .u64 0,.int .u64 0,.int .u64 0,.int .u64 0,.int .u64 0,.int .u64 0,.int .u64 0,.int .u64 0,.int .u64 0,.int .u64 0,.int .u64 0,.int .u64 0,.int .u64 0,.int .u64 0,.int .u64 0,.bool false]],[]⟩ 8 (by kernel_rfl) (by kernel_rfl) (by kernel_rfl) (by kernel_rfl)) ?_
 intro W l i S gs B f I J _;have d:∀(j:Nat) t v,Tryz.f4.params[j]? = some t→i[j]? = some v→Value.okWide prog W .any l t v:=f;have x:=I;obtain⟨p,q,A,U,rfl,V,X⟩:=I;have K:DataW.TrodAll enc prog W 0 (fun _=>true) true Tryz.f4.params.toList i.toList S p:=A;rw[params4]at K d;obtain⟨Y,Z,v2,d0,d1,d2,p0,p1,p2,rfl,rfl,rfl,r0,L,P⟩:=trodAll_three K;obtain⟨rfl,rfl⟩:=trodVars_none U;obtain⟨a0,rfl,rfl,rfl,Q⟩:=open_int underlying3 (d 0 3 Y rfl rfl) r0;have h0:=int_of_wf Q;obtain⟨a1,h1,rfl,rfl⟩:=open_nat (d 1 25 Z rfl rfl) L;obtain⟨x2,y2,f2,D,G,rfl,rfl⟩:=open_pnt (d 2 27 v2 rfl rfl) P;clear A f;simp only[List.append_nil]at x;refine(latimes_any a0 a1 h1 (x2,y2,f2) ⟨D,G⟩ W).mono fun e W' ⟨he,hg⟩=>?_;subst he;exact⟨_,rfl,_,_,_,[],[],[],x,trodAll_mk1 (shut_bool underlying4 _),trodAll_mk3 (shut_int underlying3 Q) (stay_nat L) (stay_pnt P),rfl,hg.below.frame _,fun h=>by cases h⟩
theorem affineTimes_holds:Rows.AffineTimesSaid:=
 OpenClaim.holds_of_wide 4 Tryz.f4 rfl rfl rfl rfl rfl rfl rfl ⟨rfl,rfl,rfl,rfl,rfl⟩ rfl rfl rfl rfl rfl (by kernel_rfl) func4 (by kernel_rfl)
  (of_decide_eq_true (by kernel_rfl)) (by unfold Func.isWrapper;first|(rw[if_pos (by decide +kernel)];kernel_rfl)|(rw[if_neg (by decide +kernel)];exact⟨rfl,rfl⟩))
  (fun h d H f _=>affineTimes_lifted h d H f)
#print axioms affineTimes_holds
end
end Go.Proofs.YtffhepbppiocbaaGreat