/-
  sec1: on a tiny curve just N - 1 texts of three bytes with a first byte 4 are points.
-/
import Derived.Test.YtiigakdbabijhaaGreatXALZWhole
import Derived.Test.YtiigakdbabijhaaGreatXAOpen
namespace Go.Proofs.YtiigakdbabijhaaGreat
open Go.RowKit Go.Proofs.Tryz
set_option maxRecDepth 100000
set_option maxHeartbeats 8000000
section
open Go.ChangeShapes Go.WideShapes Go.ChangeAt Go.RowKit
theorem sec1Whole_lifted(os:Os)(started:os.Started)(H:Type)(enc:TypeId×Value→H):
 ReturnsInHanded {} Tryz.checked os 9 .any (Rows.sec1WholeSpec.pre6 enc prog Tryz.f9 Rows.sec1WholeRow.domain false) (Rows.sec1WholeSpec.post enc prog Tryz.f9 false true false false):=by
 refine returnsInHanded_of_change (C:=Tryz.checked) Tryz.own started (by kernel_rfl) func9
  (ChangeSpec.witness6 (enc:=enc) (C:=Tryz.checked) false ⟨#[], #[.int .i64 0],[]⟩ 8 (by kernel_rfl) (by kernel_rfl) (by kernel_rfl) (by kernel_rfl)) ?_
 intro W l f K Y B d D G _;have i:∀(j:Nat) t v,Tryz.f9.params[j]? = some t→f[j]? = some v→Value.okWide prog W .any l t v:=d;have x:=D;obtain⟨p,q,A,L,rfl,P,Q⟩:=D;have I:DataW.TrodAll enc prog W 0 (fun _=>true) true Tryz.f9.params.toList f.toList K p:=A;rw[params9]at I i;obtain⟨R,Z,rfl,rfl,S⟩:=trodAll_one I;obtain⟨rfl,rfl⟩:=trodVars_none L;obtain⟨U,rfl,rfl,rfl,J⟩:=open_int underlying3 (i 0 3 R rfl rfl) S;have h0:=int_of_wf J;clear A d;simp only[List.append_nil]at x;refine(lzwhole_any U W).mono fun e W' ⟨V,X⟩=>?_;subst V;exact⟨_,rfl,_,_,_,[],[],[],x,trodAll_mk1 (shut_bool underlying4 _),trodAll_mk1 (shut_int underlying3 J),rfl,X.below.frame _,fun h=>by cases h⟩
theorem sec1Whole_holds:Rows.Sec1WholeSaid:=
 OpenClaim.holds_of_wide 9 Tryz.f9 rfl rfl rfl rfl rfl rfl rfl ⟨rfl,rfl,rfl,rfl,rfl⟩ rfl rfl rfl rfl rfl (by kernel_rfl) func9 (by kernel_rfl)
  (of_decide_eq_true (by kernel_rfl)) (by unfold Func.isWrapper;first|(rw[if_pos (by decide +kernel)];kernel_rfl)|(rw[if_neg (by decide +kernel)];exact⟨rfl,rfl⟩))
  (fun h d H f _=>sec1Whole_lifted h d H f)
#print axioms sec1Whole_holds
end
end Go.Proofs.YtiigakdbabijhaaGreat