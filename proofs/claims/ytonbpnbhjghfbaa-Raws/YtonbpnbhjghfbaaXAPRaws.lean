/-
  Any signature as two numbers, any bytes as one, for any id: Put and Get answer as the document's, from any state of the program's memory.
-/
import Derived.Test.YtonbpnbhjghfbaaXALZRaws
import Derived.Test.YtonbpnbhjghfbaaXAOpenSg
namespace Go.Proofs.Ytonbpnbhjghfbaa
open Go.RowKit Go.Proofs.Try
set_option maxRecDepth 100000
set_option maxHeartbeats 8000000
section
open Go.ChangeShapes Go.WideShapes Go.ChangeAt Go.RowKit
open Go.ChangeMaps (open_string shut_string)
theorem raws_lifted(os:Os)(started:os.Started)(H:Type)(enc:TypeId×Value→H):
 ReturnsInHanded {} Try.checked os 3 .any (Rows.rawsSpec.pre6 enc prog Try.f3 Rows.rawsRow.domain false) (Rows.rawsSpec.post enc prog Try.f3 false true false false):=by
 refine returnsInHanded_of_change (C:=Try.checked) Try.own started (by kernel_rfl) func3
  (ChangeSpec.witness6 (enc:=enc) (C:=Try.checked) false ⟨#[], #[.int .i64 0,.agg #[.int .u64 0,.int .u64 0,.int .u64 0,.int .u64 0,.int .u64 0,.int .u64 0,.int .u64 0,.int .u64 0,.int .u64 0,.int .u64 0,.int .u64 0,.int .u64 0,.int .u64 0,.int .u64 0,.int .u64 0,.int .u64 0,.int .u64 0,.int .u64 0],.string ⟨#[]⟩],[]⟩ 8 (by kernel_rfl) (by kernel_rfl) (by kernel_rfl) (by kernel_rfl)) ?_
 intro W l i Q gs B f I J _;have d:∀(j:Nat) t v,Try.f3.params[j]? = some t→i[j]? = some v→Value.okWide prog W .any l t v:=f;have x:=I;obtain⟨p,q,A,R,rfl,S,U⟩:=I;have K:DataW.TrodAll enc prog W 0 (fun _=>true) true Try.f3.params.toList i.toList Q p:=A;rw[params3]at K d;obtain⟨V,X,Y,d0,d1,d2,p0,p1,p2,rfl,rfl,rfl,Z,L,r2⟩:=trodAll_three K;obtain⟨rfl,rfl⟩:=trodVars_none R;obtain⟨a0,rfl,rfl,rfl,P⟩:=open_int underlying3 (d 0 3 V rfl rfl) Z;have h0:=int_of_wf P;obtain⟨x1,y1,D,G,rfl,rfl⟩:=open_sig (d 1 27 X rfl rfl) L;obtain⟨a2,rfl,rfl,rfl,h2⟩:=open_string underlying9 (d 2 9 Y rfl rfl) r2;clear A f;simp only[List.append_nil]at x;refine(lzraws_any a0 D G a2 W).mono fun e W' ⟨he,hg⟩=>?_;subst he;exact⟨_,rfl,_,_,_,[],[],[],x,trodAll_mk1 (shut_bool underlying4 _),trodAll_mk3 (shut_int underlying3 P) (stay_sig L) (shut_string underlying9 h2),rfl,hg.below.frame _,fun h=>by cases h⟩
theorem raws_holds:Rows.RawsSaid:=
 OpenClaim.holds_of_wide 3 Try.f3 rfl rfl rfl rfl rfl rfl rfl ⟨rfl,rfl,rfl,rfl,rfl⟩ rfl rfl rfl rfl rfl (by kernel_rfl) func3 (by kernel_rfl)
  (of_decide_eq_true (by kernel_rfl)) (by unfold Func.isWrapper;first|(rw[if_pos (by decide +kernel)];kernel_rfl)|(rw[if_neg (by decide +kernel)];exact⟨rfl,rfl⟩))
  (fun h d H f _=>raws_lifted h d H f)
#print axioms raws_holds
end
end Go.Proofs.Ytonbpnbhjghfbaa