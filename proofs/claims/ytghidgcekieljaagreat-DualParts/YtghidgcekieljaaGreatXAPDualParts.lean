/-
  For every int id and all words u, v and k the call DualParts(id, u, v, k) returns true, and its arguments read afterwards as they read before: the given statement DualPartsSaid, with no condition.
-/
import Derived.Carry
import Derived.Test.YtghidgcekieljaaGreatXALSParts
import Derived.Test.YtghidgcekieljaaGreatXAOpen
namespace Go.Proofs.YtghidgcekieljaaGreat
open Go.RowKit Go.Proofs.Tryz
set_option maxRecDepth 100000
set_option maxHeartbeats 8000000
section
open Go.ChangeShapes Go.WideShapes Go.ChangeAt Go.RowKit
theorem dualParts_lifted(os:Os)(started:os.Started)(H:Type)(enc:TypeId×Value→H):
 ReturnsInHanded {} Tryz.checked os 4 .any (Rows.dualPartsSpec.pre6 enc prog Tryz.f4 Rows.dualPartsRow.domain false) (Rows.dualPartsSpec.post enc prog Tryz.f4 false true false false):=by
 refine returnsInHanded_of_change (C:=Tryz.checked) Tryz.own started (by kernel_rfl) func4
  (ChangeSpec.witness6 (enc:=enc) (C:=Tryz.checked) false ⟨#[], #[.int .i64 0,.int .u64 0,.int .u64 0,.int .u64 0],[]⟩ 8 (by kernel_rfl) (by kernel_rfl) (by kernel_rfl) (by kernel_rfl)) ?_
 intro W base args ds gs before hval0 hW hcnd _;have hval:∀(j:Nat) t v,Tryz.f4.params[j]? = some t→args[j]? = some v→Value.okWide prog W .any base t v:=hval0;have hW':=hW;obtain⟨p,q,hA0,hV,rfl,hfz,hnd⟩:=hW;have hA:DataW.TrodAll enc prog W 0 (fun _=>true) true Tryz.f4.params.toList args.toList ds p:=hA0;rw[params4]at hA hval;obtain⟨v0,v1,v2,v3,d0,d1,d2,d3,p0,p1,p2,p3,rfl,rfl,rfl,r0,r1,r2,r3⟩:=trodAll_four hA;obtain⟨rfl,rfl⟩:=trodVars_none hV;obtain⟨a0,rfl,rfl,rfl,w0⟩:=open_int underlying3 (hval 0 3 v0 rfl rfl) r0;have h0:=int_of_wf w0;obtain⟨z1,rfl,rfl,rfl,w1⟩:=open_int underlying22 (hval 1 22 v1 rfl rfl) r1;obtain⟨a1,rfl⟩:=Int.eq_ofNat_of_zero_le (word_of_wf w1).1
 have h1:a1<18446744073709551616:=by have:=(word_of_wf w1).2;omega
 obtain⟨z2,rfl,rfl,rfl,w2⟩:=open_int underlying22 (hval 2 22 v2 rfl rfl) r2;obtain⟨a2,rfl⟩:=Int.eq_ofNat_of_zero_le (word_of_wf w2).1
 have h2:a2<18446744073709551616:=by have:=(word_of_wf w2).2;omega
 obtain⟨z3,rfl,rfl,rfl,w3⟩:=open_int underlying22 (hval 3 22 v3 rfl rfl) r3;obtain⟨a3,rfl⟩:=Int.eq_ofNat_of_zero_le (word_of_wf w3).1
 have h3:a3<18446744073709551616:=by have:=(word_of_wf w3).2;omega
 clear hA0 hval0;simp only[List.append_nil]at hW';refine(lsparts_any a0 a1 a2 a3 h1 h2 h3 W).mono fun e W' ⟨he,hg⟩=>?_;subst he;exact⟨_,rfl,_,_,_,[],[],[],hW',trodAll_mk1 (shut_bool underlying4 _),trodAll_mk4 (shut_int underlying3 w0) (shut_int underlying22 w1) (shut_int underlying22 w2) (shut_int underlying22 w3),rfl,hg.below.frame _,fun h=>by cases h⟩
theorem dualParts_holds:Rows.DualPartsSaid:=
 OpenClaim.holds_of_wide 4 Tryz.f4 rfl rfl rfl rfl rfl rfl rfl ⟨rfl,rfl,rfl,rfl,rfl⟩ rfl rfl rfl rfl rfl (by kernel_rfl) func4 (by kernel_rfl)
  (of_decide_eq_true (by kernel_rfl)) (by unfold Func.isWrapper;first|(rw[if_pos (by decide +kernel)];kernel_rfl)|(rw[if_neg (by decide +kernel)];exact⟨rfl,rfl⟩))
  (fun os started H enc _=>dualParts_lifted os started H enc)
#print axioms dualParts_holds
end
end Go.Proofs.YtghidgcekieljaaGreat