/-
  Any point as a triple, and back: curvetlaw15.ProjFrom answers true at every input (an int, any point), with no condition besides.
-/
import Derived.Test.YtffhepbppiocbabGreatXALJFrom
import Derived.Test.YtffhepbppiocbabGreatXAOpenP
namespace Go.Proofs.YtffhepbppiocbabGreat
open Go.RowKit Go.Proofs.Tryz
set_option maxRecDepth 100000
set_option maxHeartbeats 8000000
section
open Go.ChangeShapes Go.WideShapes Go.ChangeAt Go.RowKit
theorem projFrom_lifted(os:Os)(started:os.Started)(H:Type)(enc:TypeId×Value→H):
 ReturnsInHanded {} Tryz.checked os 7 .any (Rows.projFromSpec.pre6 enc prog Tryz.f7 Rows.projFromRow.domain false) (Rows.projFromSpec.post enc prog Tryz.f7 false true false false):=by
 refine returnsInHanded_of_change (C:=Tryz.checked) Tryz.own started (by kernel_rfl) func7
  (ChangeSpec.witness6 (enc:=enc) (C:=Tryz.checked) false ⟨#[], #[.int .i64 0,.agg #[.int .u64 0,.int .u64 0,.int .u64 0,.int .u64 0,.int .u64 0,.int .u64 0,.int .u64 0,.int .u64 0,.int .u64 0,.int .u64 0,.int .u64 0,.int .u64 0,.int .u64 0,.int .u64 0,.int .u64 0,.int .u64 0,.int .u64 0,.int .u64 0,.bool false]],[]⟩ 8 (by kernel_rfl) (by kernel_rfl) (by kernel_rfl) (by kernel_rfl)) ?_
 intro W x i Q gs D d J K _;have f:∀(j:Nat) t v,Tryz.f7.params[j]? = some t→i[j]? = some v→Value.okWide prog W .any x t v:=d;have A:=J;obtain⟨p,q,B,S,rfl,U,V⟩:=J;have L:DataW.TrodAll enc prog W 0 (fun _=>true) true Tryz.f7.params.toList i.toList Q p:=B;rw[params7]at L f;obtain⟨X,Y,d0,d1,p0,p1,rfl,rfl,rfl,Z,P⟩:=trodAll_two L;obtain⟨rfl,rfl⟩:=trodVars_none S;obtain⟨a0,rfl,rfl,rfl,w0⟩:=open_int underlying3 (f 0 3 X rfl rfl) Z;have h0:=int_of_wf w0;obtain⟨x1,y1,f1,G,I,rfl,rfl⟩:=open_pnt (f 1 35 Y rfl rfl) P;clear B d;simp only[List.append_nil]at A;refine(ljfrom_any a0 (x1,y1,f1) ⟨G,I⟩ W).mono fun e W' ⟨he,hg⟩=>?_;subst he;exact⟨_,rfl,_,_,_,[],[],[],A,trodAll_mk1 (shut_bool underlying4 _),trodAll_mk2 (shut_int underlying3 w0) (stay_pnt P),rfl,hg.below.frame _,fun h=>by cases h⟩
theorem projFrom_holds:Rows.ProjFromSaid:=
 OpenClaim.holds_of_wide 7 Tryz.f7 rfl rfl rfl rfl rfl rfl rfl ⟨rfl,rfl,rfl,rfl,rfl⟩ rfl rfl rfl rfl rfl (by kernel_rfl) func7 (by kernel_rfl)
  (of_decide_eq_true (by kernel_rfl)) (by unfold Func.isWrapper;first|(rw[if_pos (by decide +kernel)];kernel_rfl)|(rw[if_neg (by decide +kernel)];exact⟨rfl,rfl⟩))
  (fun h d H f _=>projFrom_lifted h d H f)
#print axioms projFrom_holds
end
end Go.Proofs.YtffhepbppiocbabGreat