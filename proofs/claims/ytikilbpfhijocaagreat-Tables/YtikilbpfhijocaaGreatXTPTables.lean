/-
  For every int id, every point p, every int size and every row of ints picks the call Tables(id, p, size, picks) returns true, and its arguments read afterwards as they read before: the given statement TablesSaid, with no condition.
-/
import Derived.Carry
import Derived.Test.YtikilbpfhijocaaGreatXTLTTab
import Derived.Test.YtikilbpfhijocaaGreatXTOpen
import Derived.Test.YtikilbpfhijocaaGreatXTOpenR
import Derived.Test.YtikilbpfhijocaaGreatXTOpenP
namespace Go.Proofs.YtikilbpfhijocaaGreat
open Go.RowKit
set_option maxRecDepth 100000
set_option maxHeartbeats 8000000
section
open Go.ChangeShapes Go.WideShapes Go.ChangeAt Go.RowKit
theorem tables_lifted (os:Os) (started:os.Started) (H:Type) (enc:TypeId×Value→H):
 ReturnsInHanded {} Tryz.checked os 3 .any (Rows.tablesSpec.pre6 enc Tryz.prog Tryz.f3 Rows.tablesRow.domain false) (Rows.tablesSpec.post enc Tryz.prog Tryz.f3 false true false false):=by
 refine returnsInHanded_of_change (C:=Tryz.checked) Tryz.own started (by kernel_rfl) Tryz.func3
  (ChangeSpec.witness6 (enc:=enc) (C:=Tryz.checked) false ⟨#[], #[.int .i64 0,.agg #[.int .u64 0,.int .u64 0,.int .u64 0,.int .u64 0,.int .u64 0,.int .u64 0,.int .u64 0,.int .u64 0,.int .u64 0,.int .u64 0,.int .u64 0,.int .u64 0,.int .u64 0,.int .u64 0,.int .u64 0,.int .u64 0,.int .u64 0,.int .u64 0,.bool false],.int .i64 0,.slice none 0 0],[]⟩ 8 (by kernel_rfl) (by kernel_rfl) (by kernel_rfl) (by kernel_rfl)) ?_
 intro W base args ds gs before hval0 hW hcnd _
 have hval:∀ (j:Nat) t v,Tryz.f3.params[j]? = some t→args[j]? = some v→Value.okWide Tryz.prog W .any base t v:=hval0
 have hW':=hW
 obtain ⟨p,q,hA0,hV,rfl,hfz,hnd⟩:=hW
 have hA:DataW.TrodAll enc Tryz.prog W 0 (fun _=>true) true Tryz.f3.params.toList args.toList ds p:=hA0
 rw [Tryz.params3] at hA hval
 obtain ⟨v0,v1,v2,v3,d0,d1,d2,d3,p0,p1,p2,p3,rfl,rfl,rfl,r0,r1,r2,r3⟩:=trodAll_four hA
 obtain ⟨rfl,rfl⟩:=trodVars_none hV
 obtain ⟨a0,rfl,rfl,rfl,w0⟩:=open_int Tryz.underlying3 (hval 0 3 v0 rfl rfl) r0
 have h0:=int_of_wf w0
 obtain ⟨x1,y1,f1,hx1,hy1,rfl,rfl⟩:=open_pnt (hval 1 27 v1 rfl rfl) r1
 obtain ⟨a2,rfl,rfl,rfl,w2⟩:=open_int Tryz.underlying3 (hval 2 3 v2 rfl rfl) r2
 have h2:=int_of_wf w2
 obtain ⟨q3,n3,c3,f3,rfl,h3⟩:=open_ints (hval 3 28 v3 rfl rfl) r3
 clear hA0 hval0
 simp only [List.append_nil] at hW'
 refine (lttab_any a0 (x1,y1,f1) ⟨hx1,hy1⟩ a2 q3 n3 c3 f3 W h3).mono fun e W' ⟨he,hg⟩=>?_
 subst he
 exact ⟨_,rfl,_,_,_,[],_,[],hW',trodAll_mk1 (shut_bool Tryz.underlying4 _),trodAll_mk4 (shut_int Tryz.underlying3 w0) (stay_pnt r1) (shut_int Tryz.underlying3 w2) (stay_ints r3 hg.below),rfl,hg.below.frame _,fun h=>by cases h⟩
theorem tables_holds:Rows.TablesSaid:=
 OpenClaim.holds_of_wide 3 Tryz.f3 rfl rfl rfl rfl rfl rfl rfl ⟨rfl,rfl,rfl,rfl,rfl⟩ rfl rfl rfl rfl rfl (by kernel_rfl) Tryz.func3 (by kernel_rfl)
  (of_decide_eq_true (by kernel_rfl)) (by unfold Func.isWrapper; first | (rw [if_pos (by decide +kernel)]; kernel_rfl) | (rw [if_neg (by decide +kernel)]; exact ⟨rfl,rfl⟩))
  (fun os started H enc _=>tables_lifted os started H enc)
#print axioms tables_holds
end
end Go.Proofs.YtikilbpfhijocaaGreat