/-
  Texts of another length are no signatures, and numbers from N on neither, from any state of the program's memory.
-/
import Derived.Carry
import Derived.Test.YtonbpnbhjghfbaaXALZRawLens
import Derived.Test.YtonbpnbhjghfbaaXAOpen
namespace Go.Proofs.Ytonbpnbhjghfbaa
open Go.RowKit Go.Proofs.Try
set_option maxRecDepth 100000
set_option maxHeartbeats 8000000
section
open Go.ChangeShapes Go.WideShapes Go.ChangeAt Go.RowKit
theorem rawLengths_lifted(os:Os)(started:os.Started)(H:Type)(enc:TypeId×Value→H):
 ReturnsInHanded {} Try.checked os 5 .any (Rows.rawLengthsSpec.pre6 enc prog Try.f5 Rows.rawLengthsRow.domain false) (Rows.rawLengthsSpec.post enc prog Try.f5 false true false false):=by
 refine returnsInHanded_of_change (C:=Try.checked) Try.own started (by kernel_rfl) func5
  (ChangeSpec.witness6 (enc:=enc) (C:=Try.checked) false ⟨#[], #[.int .i64 0,.agg #[.int .u64 0,.int .u64 0,.int .u64 0,.int .u64 0,.int .u64 0,.int .u64 0,.int .u64 0,.int .u64 0,.int .u64 0],.int .i64 0,.bool false],[]⟩ 8 (by kernel_rfl) (by kernel_rfl) (by kernel_rfl) (by kernel_rfl)) ?_
 intro W l i P gs B f D G _;have d:∀(j:Nat) t v,Try.f5.params[j]? = some t→i[j]? = some v→Value.okWide prog W .any l t v:=f;have x:=D;obtain⟨p,q,A,Q,rfl,R,S⟩:=D;have I:DataW.TrodAll enc prog W 0 (fun _=>true) true Try.f5.params.toList i.toList P p:=A;rw[params5]at I d;obtain⟨U,V,X,Y,d0,d1,d2,d3,p0,p1,p2,p3,rfl,rfl,rfl,Z,J,r2,r3⟩:=trodAll_four I;obtain⟨rfl,rfl⟩:=trodVars_none Q;obtain⟨a0,rfl,rfl,rfl,K⟩:=open_int underlying3 (d 0 3 U rfl rfl) Z;have h0:=int_of_wf K;obtain⟨a1,h1,rfl,rfl⟩:=open_nat (d 1 25 V rfl rfl) J;obtain⟨a2,rfl,rfl,rfl,L⟩:=open_int underlying3 (d 2 3 X rfl rfl) r2;have h2:=int_of_wf L;obtain⟨a3,rfl,rfl,rfl⟩:=open_bool underlying4 (d 3 4 Y rfl rfl) r3;clear A f;simp only[List.append_nil]at x;refine(lzrawlens_any a0 h1 a2 a3 W).mono fun e W' ⟨he,hg⟩=>?_;subst he;exact⟨_,rfl,_,_,_,[],[],[],x,trodAll_mk1 (shut_bool underlying4 _),trodAll_mk4 (shut_int underlying3 K) (stay_nat J) (shut_int underlying3 L) (shut_bool underlying4 _),rfl,hg.below.frame _,fun h=>by cases h⟩
theorem rawLengths_holds:Rows.RawLengthsSaid:=
 OpenClaim.holds_of_wide 5 Try.f5 rfl rfl rfl rfl rfl rfl rfl ⟨rfl,rfl,rfl,rfl,rfl⟩ rfl rfl rfl rfl rfl (by kernel_rfl) func5 (by kernel_rfl)
  (of_decide_eq_true (by kernel_rfl)) (by unfold Func.isWrapper;first|(rw[if_pos (by decide +kernel)];kernel_rfl)|(rw[if_neg (by decide +kernel)];exact⟨rfl,rfl⟩))
  (fun h d H f _=>rawLengths_lifted h d H f)
#print axioms rawLengths_holds
end
end Go.Proofs.Ytonbpnbhjghfbaa