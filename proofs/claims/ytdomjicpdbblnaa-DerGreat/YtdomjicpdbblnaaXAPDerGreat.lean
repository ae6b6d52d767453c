/-
  Layer 22: DerGreat.
-/
import Derived.Test.YtdomjicpdbblnaaXALZDerGreat
import Derived.Test.YtdomjicpdbblnaaXAOpen
namespace Go.Proofs.Ytdomjicpdbblnaa
open Go.RowKit Go.Proofs.Try
set_option maxRecDepth 100000
set_option maxHeartbeats 8000000
section
open Go.ChangeShapes Go.WideShapes Go.ChangeAt Go.RowKit
theorem derGreat_lifted(os:Os)(started:os.Started)(H:Type)(enc:TypeId×Value→H):
 ReturnsInHanded {} Try.checked os 8 .any (Rows.derGreatSpec.pre6 enc prog Try.f8 Rows.derGreatRow.domain false) (Rows.derGreatSpec.post enc prog Try.f8 false true false false):=by
 refine returnsInHanded_of_change (C:=Try.checked) Try.own started (by kernel_rfl) func8
  (ChangeSpec.witness6 (enc:=enc) (C:=Try.checked) false ⟨#[], #[.agg #[.int .u64 0,.int .u64 0,.int .u64 0,.int .u64 0,.int .u64 0,.int .u64 0,.int .u64 0,.int .u64 0,.int .u64 0],.agg #[.int .u64 0,.int .u64 0,.int .u64 0,.int .u64 0,.int .u64 0,.int .u64 0,.int .u64 0,.int .u64 0,.int .u64 0],.bool false],[]⟩ 8 (by kernel_rfl) (by kernel_rfl) (by kernel_rfl) (by kernel_rfl)) ?_
 intro W i f G Z o d w x _;have b:∀(j:Nat) t v,Try.f8.params[j]? = some t→f[j]? = some v→Value.okWide prog W .any i t v:=d;have l:=w;obtain⟨p,q,m,I,rfl,J,K⟩:=w;have A:DataW.TrodAll enc prog W 0 (fun _=>true) true Try.f8.params.toList f.toList G p:=m;rw[params8]at A b;obtain⟨L,P,Q,d0,d1,d2,p0,p1,p2,rfl,rfl,rfl,B,D,R⟩:=trodAll_three A;obtain⟨rfl,rfl⟩:=trodVars_none I;obtain⟨a0,S,rfl,rfl⟩:=open_nat (b 0 25 L rfl rfl) B;obtain⟨a1,U,rfl,rfl⟩:=open_nat (b 1 25 P rfl rfl) D;obtain⟨V,rfl,rfl,rfl⟩:=open_bool underlying4 (b 2 4 Q rfl rfl) R;clear m d;simp only[List.append_nil]at l;refine(lzgreat_any S U V W).mono fun e W' ⟨X,Y⟩=>?_;subst X;exact⟨_,rfl,_,_,_,[],[],[],l,trodAll_mk1 (shut_bool underlying4 _),trodAll_mk3 (stay_nat B) (stay_nat D) (shut_bool underlying4 _),rfl,Y.below.frame _,fun h=>by cases h⟩
theorem derGreat_holds:Rows.DerGreatSaid:=
 OpenClaim.holds_of_wide 8 Try.f8 rfl rfl rfl rfl rfl rfl rfl ⟨rfl,rfl,rfl,rfl,rfl⟩ rfl rfl rfl rfl rfl (by kernel_rfl) func8 (by kernel_rfl)
  (of_decide_eq_true (by kernel_rfl)) (by unfold Func.isWrapper;first|(rw[if_pos (by decide +kernel)];kernel_rfl)|(rw[if_neg (by decide +kernel)];exact⟨rfl,rfl⟩))
  (fun f b H d _=>derGreat_lifted f b H d)
#print axioms derGreat_holds
end
end Go.Proofs.Ytdomjicpdbblnaa