/-
  For every int id and all words u, v and k the call DualParts(id, u, v, k) returns true, and its arguments read afterwards as they read before: the given statement DualPartsSaid, with no condition.
-/
import Derived.Carry
import Derived.Test.YtffhepbppiocbadGreatXALSParts
import Derived.Test.YtffhepbppiocbadGreatXAOpen
namespace Go.Proofs.YtffhepbppiocbadGreat
open Go.RowKit Go.Proofs.Tryz
set_option maxRecDepth 100000
set_option maxHeartbeats 8000000
section
open Go.ChangeShapes Go.WideShapes Go.ChangeAt Go.RowKit
theorem dualParts_lifted(os:Os)(started:os.Started)(H:Type)(enc:TypeId×Value→H):
 ReturnsInHanded {} Tryz.checked os 6 .any (Rows.dualPartsSpec.pre6 enc prog Tryz.f6 Rows.dualPartsRow.domain false) (Rows.dualPartsSpec.post enc prog Tryz.f6 false true false false):=by
 refine returnsInHanded_of_change (C:=Tryz.checked) Tryz.own started (by kernel_rfl) func6
  (ChangeSpec.witness6 (enc:=enc) (C:=Tryz.checked) false ⟨#[], #[.int .i64 0,.int .u64 0,.int .u64 0,.int .u64 0],[]⟩ 8 (by kernel_rfl) (by kernel_rfl) (by kernel_rfl) (by kernel_rfl)) ?_
 intro W x i X gs D f K L _;have d:∀(j:Nat) t v,Tryz.f6.params[j]? = some t→i[j]? = some v→Value.okWide prog W .any x t v:=f;have A:=K;obtain⟨p,q,B,Y,rfl,Z,aa⟩:=K;have P:DataW.TrodAll enc prog W 0 (fun _=>true) true Tryz.f6.params.toList i.toList X p:=B;rw[params6]at P d;obtain⟨v0,v1,v2,v3,d0,d1,d2,d3,p0,p1,p2,p3,rfl,rfl,rfl,r0,r1,r2,r3⟩:=trodAll_four P;obtain⟨rfl,rfl⟩:=trodVars_none Y;obtain⟨a0,rfl,rfl,rfl,Q⟩:=open_int underlying3 (d 0 3 v0 rfl rfl) r0;have h0:=int_of_wf Q;obtain⟨z1,rfl,rfl,rfl,G⟩:=open_int underlying22 (d 1 22 v1 rfl rfl) r1;obtain⟨S,rfl⟩:=Int.eq_ofNat_of_zero_le (word_of_wf G).1
 have h1:S<18446744073709551616:=by have:=(word_of_wf G).2;omega
 obtain⟨z2,rfl,rfl,rfl,I⟩:=open_int underlying22 (d 2 22 v2 rfl rfl) r2;obtain⟨U,rfl⟩:=Int.eq_ofNat_of_zero_le (word_of_wf I).1
 have h2:U<18446744073709551616:=by have:=(word_of_wf I).2;omega
 obtain⟨z3,rfl,rfl,rfl,J⟩:=open_int underlying22 (d 3 22 v3 rfl rfl) r3;obtain⟨V,rfl⟩:=Int.eq_ofNat_of_zero_le (word_of_wf J).1
 have h3:V<18446744073709551616:=by have:=(word_of_wf J).2;omega
 clear B f;simp only[List.append_nil]at A;refine(lsparts_any a0 S U V h1 h2 h3 W).mono fun e W' ⟨he,hg⟩=>?_;subst he;exact⟨_,rfl,_,_,_,[],[],[],A,trodAll_mk1 (shut_bool underlying4 _),trodAll_mk4 (shut_int underlying3 Q) (shut_int underlying22 G) (shut_int underlying22 I) (shut_int underlying22 J),rfl,hg.below.frame _,fun h=>by cases h⟩
theorem dualParts_holds:Rows.DualPartsSaid:=
 OpenClaim.holds_of_wide 6 Tryz.f6 rfl rfl rfl rfl rfl rfl rfl ⟨rfl,rfl,rfl,rfl,rfl⟩ rfl rfl rfl rfl rfl (by kernel_rfl) func6 (by kernel_rfl)
  (of_decide_eq_true (by kernel_rfl)) (by unfold Func.isWrapper;first|(rw[if_pos (by decide +kernel)];kernel_rfl)|(rw[if_neg (by decide +kernel)];exact⟨rfl,rfl⟩))
  (fun h d H f _=>dualParts_lifted h d H f)
#print axioms dualParts_holds
end
end Go.Proofs.YtffhepbppiocbadGreat