/-
  For every int id, all numbers a and b of nine words and every word k the call DualAlone(id, a, b, k) returns true, and its arguments read afterwards as they read before: the given statement DualAloneSaid, with no condition.
-/
import Derived.Carry
import Derived.Test.YtghidgcekieljaaGreatXALSAlone
import Derived.Test.YtghidgcekieljaaGreatXAOpen
namespace Go.Proofs.YtghidgcekieljaaGreat
open Go.RowKit Go.Proofs.Tryz
set_option maxRecDepth 100000
set_option maxHeartbeats 8000000
section
open Go.ChangeShapes Go.WideShapes Go.ChangeAt Go.RowKit
theorem dualAlone_lifted(os:Os)(started:os.Started)(H:Type)(enc:TypeId×Value→H):
 ReturnsInHanded {} Tryz.checked os 5 .any (Rows.dualAloneSpec.pre6 enc prog Tryz.f5 Rows.dualAloneRow.domain false) (Rows.dualAloneSpec.post enc prog Tryz.f5 false true false false):=by
 refine returnsInHanded_of_change (C:=Tryz.checked) Tryz.own started (by kernel_rfl) func5
  (ChangeSpec.witness6 (enc:=enc) (C:=Tryz.checked) false ⟨#[], #[.int .i64 0,.agg #[.int .u64 0,.int .u64 0,.int .u64 0,.int .u64 0,.int .u64 0,.int .u64 0,.int .u64 0,.int .u64 0,.int .u64 0],.agg #[.int .u64 0,.int .u64 0,.int .u64 0,.int .u64 0,.int .u64 0,.int .u64 0,.int .u64 0,.int .u64 0,.int .u64 0],.int .u64 0],[]⟩ 8 (by kernel_rfl) (by kernel_rfl) (by kernel_rfl) (by kernel_rfl)) ?_
 intro W base args ds gs before hval0 hW hcnd _;have hval:∀(j:Nat) t v,Tryz.f5.params[j]? = some t→args[j]? = some v→Value.okWide prog W .any base t v:=hval0;have hW':=hW;obtain⟨p,q,hA0,hV,rfl,hfz,hnd⟩:=hW;have hA:DataW.TrodAll enc prog W 0 (fun _=>true) true Tryz.f5.params.toList args.toList ds p:=hA0;rw[params5]at hA hval;obtain⟨v0,v1,v2,v3,d0,d1,d2,d3,p0,p1,p2,p3,rfl,rfl,rfl,r0,r1,r2,r3⟩:=trodAll_four hA;obtain⟨rfl,rfl⟩:=trodVars_none hV;obtain⟨a0,rfl,rfl,rfl,w0⟩:=open_int underlying3 (hval 0 3 v0 rfl rfl) r0;have h0:=int_of_wf w0;obtain⟨a1,h1,rfl,rfl⟩:=open_nat (hval 1 25 v1 rfl rfl) r1;obtain⟨a2,h2,rfl,rfl⟩:=open_nat (hval 2 25 v2 rfl rfl) r2;obtain⟨z3,rfl,rfl,rfl,w3⟩:=open_int underlying22 (hval 3 22 v3 rfl rfl) r3;obtain⟨a3,rfl⟩:=Int.eq_ofNat_of_zero_le (word_of_wf w3).1
 have h3:a3<18446744073709551616:=by have:=(word_of_wf w3).2;omega
 clear hA0 hval0;simp only[List.append_nil]at hW';refine(lsalone_any a0 a1 a2 a3 h1 h2 h3 W).mono fun e W' ⟨he,hg⟩=>?_;subst he;exact⟨_,rfl,_,_,_,[],[],[],hW',trodAll_mk1 (shut_bool underlying4 _),trodAll_mk4 (shut_int underlying3 w0) (stay_nat r1) (stay_nat r2) (shut_int underlying22 w3),rfl,hg.below.frame _,fun h=>by cases h⟩
theorem dualAlone_holds:Rows.DualAloneSaid:=
 OpenClaim.holds_of_wide 5 Tryz.f5 rfl rfl rfl rfl rfl rfl rfl ⟨rfl,rfl,rfl,rfl,rfl⟩ rfl rfl rfl rfl rfl (by kernel_rfl) func5 (by kernel_rfl)
  (of_decide_eq_true (by kernel_rfl)) (by unfold Func.isWrapper;first|(rw[if_pos (by decide +kernel)];kernel_rfl)|(rw[if_neg (by decide +kernel)];exact⟨rfl,rfl⟩))
  (fun os started H enc _=>dualAlone_lifted os started H enc)
#print axioms dualAlone_holds
end
end Go.Proofs.YtghidgcekieljaaGreat