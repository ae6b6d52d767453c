/-
  On a tiny curve just the pairs of numbers below N are signatures, from any state of the program's memory.
-/
import Derived.Test.YtonbpnbhjghfbaaXALZRawTiny
import Derived.Test.YtonbpnbhjghfbaaXAOpen
namespace Go.Proofs.Ytonbpnbhjghfbaa
open Go.RowKit Go.Proofs.Try
set_option maxRecDepth 100000
set_option maxHeartbeats 8000000
section
open Go.ChangeShapes Go.WideShapes Go.ChangeAt Go.RowKit
theorem rawTiny_lifted(os:Os)(started:os.Started)(H:Type)(enc:TypeId×Value→H):
 ReturnsInHanded {} Try.checked os 6 .any (Rows.rawTinySpec.pre6 enc prog Try.f6 Rows.rawTinyRow.domain false) (Rows.rawTinySpec.post enc prog Try.f6 false true false false):=by
 refine returnsInHanded_of_change (C:=Try.checked) Try.own started (by kernel_rfl) func6
  (ChangeSpec.witness6 (enc:=enc) (C:=Try.checked) false ⟨#[], #[.int .i64 0,.int .i64 0],[]⟩ 8 (by kernel_rfl) (by kernel_rfl) (by kernel_rfl) (by kernel_rfl)) ?_
 intro W l i L gs B d D G _;have f:∀(j:Nat) t v,Try.f6.params[j]? = some t→i[j]? = some v→Value.okWide prog W .any l t v:=d;have x:=D;obtain⟨p,q,A,P,rfl,Q,R⟩:=D;have I:DataW.TrodAll enc prog W 0 (fun _=>true) true Try.f6.params.toList i.toList L p:=A;rw[params6]at I f;obtain⟨S,U,d0,d1,p0,p1,rfl,rfl,rfl,V,X⟩:=trodAll_two I;obtain⟨rfl,rfl⟩:=trodVars_none P;obtain⟨Y,rfl,rfl,rfl,J⟩:=open_int underlying3 (f 0 3 S rfl rfl) V;have h0:=int_of_wf J;obtain⟨Z,rfl,rfl,rfl,K⟩:=open_int underlying3 (f 1 3 U rfl rfl) X;have h1:=int_of_wf K;clear A d;simp only[List.append_nil]at x;refine(lzrawtiny_any Y Z W).mono fun e W' ⟨he,hg⟩=>?_;subst he;exact⟨_,rfl,_,_,_,[],[],[],x,trodAll_mk1 (shut_bool underlying4 _),trodAll_mk2 (shut_int underlying3 J) (shut_int underlying3 K),rfl,hg.below.frame _,fun h=>by cases h⟩
theorem rawTiny_holds:Rows.RawTinySaid:=
 OpenClaim.holds_of_wide 6 Try.f6 rfl rfl rfl rfl rfl rfl rfl ⟨rfl,rfl,rfl,rfl,rfl⟩ rfl rfl rfl rfl rfl (by kernel_rfl) func6 (by kernel_rfl)
  (of_decide_eq_true (by kernel_rfl)) (by unfold Func.isWrapper;first|(rw[if_pos (by decide +kernel)];kernel_rfl)|(rw[if_neg (by decide +kernel)];exact⟨rfl,rfl⟩))
  (fun h d H f _=>rawTiny_lifted h d H f)
#print axioms rawTiny_holds
end
end Go.Proofs.Ytonbpnbhjghfbaa