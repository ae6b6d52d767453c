/-
  sec1: any point as bytes, and any bytes as a point, are what the document answers.
-/
import Derived.Carry
import Derived.Test.YtiigakdbabijhaaGreatXALZAll
import Derived.Test.YtiigakdbabijhaaGreatXAOpenP
namespace Go.Proofs.YtiigakdbabijhaaGreat
open Go.RowKit Go.Proofs.Tryz
set_option maxRecDepth 100000
set_option maxHeartbeats 8000000
section
open Go.ChangeShapes Go.WideShapes Go.ChangeAt Go.RowKit
open Go.ChangeMaps (open_string shut_string)
theorem sec1s_lifted(os:Os)(started:os.Started)(H:Type)(enc:TypeId×Value→H):
 ReturnsInHanded {} Tryz.checked os 3 .any (Rows.sec1sSpec.pre6 enc prog Tryz.f3 Rows.sec1sRow.domain false) (Rows.sec1sSpec.post enc prog Tryz.f3 false true false false):=by
 refine returnsInHanded_of_change (C:=Tryz.checked) Tryz.own started (by kernel_rfl) func3
  (ChangeSpec.witness6 (enc:=enc) (C:=Tryz.checked) false ⟨#[], #[.int .i64 0,.agg #[.int .u64 0,.int .u64 0,.int .u64 0,.int .u64 0,.int .u64 0,.int .u64 0,.int .u64 0,.int .u64 0,.int .u64 0,.int .u64 0,.int .u64 0,.int .u64 0,.int .u64 0,.int .u64 0,.int .u64 0,.int .u64 0,.int .u64 0,.int .u64 0,.bool false],.bool false,.string ⟨#[]⟩],[]⟩ 8 (by kernel_rfl) (by kernel_rfl) (by kernel_rfl) (by kernel_rfl)) ?_
 intro W l i R gs B f I J _;have d:∀(j:Nat) t v,Tryz.f3.params[j]? = some t→i[j]? = some v→Value.okWide prog W .any l t v:=f;have x:=I;obtain⟨p,q,A,S,rfl,U,V⟩:=I;have K:DataW.TrodAll enc prog W 0 (fun _=>true) true Tryz.f3.params.toList i.toList R p:=A;rw[params3]at K d;obtain⟨X,Y,Z,v3,d0,d1,d2,d3,p0,p1,p2,p3,rfl,rfl,rfl,r0,L,r2,r3⟩:=trodAll_four K;obtain⟨rfl,rfl⟩:=trodVars_none S;obtain⟨a0,rfl,rfl,rfl,Q⟩:=open_int underlying3 (d 0 3 X rfl rfl) r0;have h0:=int_of_wf Q;obtain⟨x1,y1,f1,D,G,rfl,rfl⟩:=open_pnt (d 1 27 Y rfl rfl) L;obtain⟨a2,rfl,rfl,rfl⟩:=open_bool underlying4 (d 2 4 Z rfl rfl) r2;obtain⟨a3,rfl,rfl,rfl,h3⟩:=open_string underlying9 (d 3 9 v3 rfl rfl) r3;clear A f;simp only[List.append_nil]at x;refine(lzall_any a0 (P:=(x1,y1,f1)) ⟨D,G⟩ a2 a3 W).mono fun e W' ⟨he,hg⟩=>?_;subst he;exact⟨_,rfl,_,_,_,[],[],[],x,trodAll_mk1 (shut_bool underlying4 _),trodAll_mk4 (shut_int underlying3 Q) (stay_pnt L) (shut_bool underlying4 _) (shut_string underlying9 h3),rfl,hg.below.frame _,fun h=>by cases h⟩
theorem sec1s_holds:Rows.Sec1sSaid:=
 OpenClaim.holds_of_wide 3 Tryz.f3 rfl rfl rfl rfl rfl rfl rfl ⟨rfl,rfl,rfl,rfl,rfl⟩ rfl rfl rfl rfl rfl (by kernel_rfl) func3 (by kernel_rfl)
  (of_decide_eq_true (by kernel_rfl)) (by unfold Func.isWrapper;first|(rw[if_pos (by decide +kernel)];kernel_rfl)|(rw[if_neg (by decide +kernel)];exact⟨rfl,rfl⟩))
  (fun h d H f _=>sec1s_lifted h d H f)
#print axioms sec1s_holds
end
end Go.Proofs.YtiigakdbabijhaaGreat