/-
  Layer 22: DerLoose.
-/
import Derived.Test.YtdomjicpdbblnaaXALZDerLoose
import Derived.Test.YtdomjicpdbblnaaXAOpen
namespace Go.Proofs.Ytdomjicpdbblnaa
open Go.RowKit Go.Proofs.Try
set_option maxRecDepth 100000
set_option maxHeartbeats 8000000
section
open Go.ChangeShapes Go.WideShapes Go.ChangeAt Go.RowKit
theorem derLoose_lifted(os:Os)(started:os.Started)(H:Type)(enc:TypeId×Value→H):
 ReturnsInHanded {} Try.checked os 7 .any (Rows.derLooseSpec.pre6 enc prog Try.f7 Rows.derLooseRow.domain false) (Rows.derLooseSpec.post enc prog Try.f7 false true false false):=by
 refine returnsInHanded_of_change (C:=Try.checked) Try.own started (by kernel_rfl) func7
  (ChangeSpec.witness6 (enc:=enc) (C:=Try.checked) false ⟨#[], #[.int .i64 0,.int .i64 0,.int .i64 0],[]⟩ 8 (by kernel_rfl) (by kernel_rfl) (by kernel_rfl) (by kernel_rfl)) ?_
 intro W i f I gs o d w x _;have b:∀(j:Nat) t v,Try.f7.params[j]? = some t→f[j]? = some v→Value.okWide prog W .any i t v:=d;have l:=w;obtain⟨p,q,m,J,rfl,K,L⟩:=w;have A:DataW.TrodAll enc prog W 0 (fun _=>true) true Try.f7.params.toList f.toList I p:=m;rw[params7]at A b;obtain⟨P,Q,R,d0,d1,d2,p0,p1,p2,rfl,rfl,rfl,S,U,V⟩:=trodAll_three A;obtain⟨rfl,rfl⟩:=trodVars_none J;obtain⟨X,rfl,rfl,rfl,B⟩:=open_int underlying3 (b 0 3 P rfl rfl) S;have h0:=int_of_wf B;obtain⟨Y,rfl,rfl,rfl,D⟩:=open_int underlying3 (b 1 3 Q rfl rfl) U;have h1:=int_of_wf D;obtain⟨Z,rfl,rfl,rfl,G⟩:=open_int underlying3 (b 2 3 R rfl rfl) V;have h2:=int_of_wf G;clear m d;simp only[List.append_nil]at l;refine(lzloose_any X Y Z W).mono fun e W' ⟨he,hg⟩=>?_;subst he;exact⟨_,rfl,_,_,_,[],[],[],l,trodAll_mk1 (shut_bool underlying4 _),trodAll_mk3 (shut_int underlying3 B) (shut_int underlying3 D) (shut_int underlying3 G),rfl,hg.below.frame _,fun h=>by cases h⟩
theorem derLoose_holds:Rows.DerLooseSaid:=
 OpenClaim.holds_of_wide 7 Try.f7 rfl rfl rfl rfl rfl rfl rfl ⟨rfl,rfl,rfl,rfl,rfl⟩ rfl rfl rfl rfl rfl (by kernel_rfl) func7 (by kernel_rfl)
  (of_decide_eq_true (by kernel_rfl)) (by unfold Func.isWrapper;first|(rw[if_pos (by decide +kernel)];kernel_rfl)|(rw[if_neg (by decide +kernel)];exact⟨rfl,rfl⟩))
  (fun f b H d _=>derLoose_lifted f b H d)
#print axioms derLoose_holds
end
end Go.Proofs.Ytdomjicpdbblnaa