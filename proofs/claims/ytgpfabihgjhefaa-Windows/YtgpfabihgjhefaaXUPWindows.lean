/-
  For every number k, every two ints bits, width and every row of ints ds the call Windows(k, bits, width, ds) returns true, and its arguments read afterwards as they read before: the given statement WindowsSaid, with no condition.
-/
import Derived.Test.YtgpfabihgjhefaaXULVWin
import Derived.Test.YtgpfabihgjhefaaXUOpen
import Derived.Test.YtgpfabihgjhefaaXUOpenR
namespace Go.Proofs.Ytgpfabihgjhefaa
open Go.RowKit
set_option maxRecDepth 100000
set_option maxHeartbeats 8000000
section
open Go.ChangeShapes Go.WideShapes Go.ChangeAt Go.RowKit
theorem windows_lifted (os:Os) (started:os.Started) (H:Type) (enc:TypeId×Value→H):
 ReturnsInHanded {} Try.checked os 3 .any (Rows.windowsSpec.pre6 enc Try.prog Try.f3 Rows.windowsRow.domain false) (Rows.windowsSpec.post enc Try.prog Try.f3 false true false false):=by
 refine returnsInHanded_of_change_sized (C:=Try.checked) Try.own started (by kernel_rfl) Try.func3
  (ChangeSpec.witness6 (enc:=enc) (C:=Try.checked) false ⟨#[], #[.agg #[.int .u64 0,.int .u64 0,.int .u64 0,.int .u64 0,.int .u64 0,.int .u64 0,.int .u64 0,.int .u64 0,.int .u64 0],.int .i64 0,.int .i64 0,.slice none 0 0],[]⟩ 8 (by kernel_rfl) (by kernel_rfl) (by kernel_rfl) (by kernel_rfl)) ?_
 intro W base args ds gs before hval0 hW hcnd hsz0 _
 have hsz:(DataW.weightsEach Try.prog (Try.f3.params.toList++Rows.windowsSpec.plain.varTypes Try.prog) (ds++gs)).all (· ≤ reachBytes)=true:=hsz0
 clear hsz0
 have hval:∀ (j:Nat) t v,Try.f3.params[j]? = some t→args[j]? = some v→Value.okWide Try.prog W .any base t v:=hval0
 have hW':=hW
 obtain ⟨p,q,hA0,hV,rfl,hfz,hnd⟩:=hW
 have hA:DataW.TrodAll enc Try.prog W 0 (fun _=>true) true Try.f3.params.toList args.toList ds p:=hA0
 rw [Try.params3] at hA hval hsz
 obtain ⟨v0,v1,v2,v3,d0,d1,d2,d3,p0,p1,p2,p3,rfl,rfl,rfl,r0,r1,r2,r3⟩:=trodAll_four hA
 obtain ⟨rfl,rfl⟩:=trodVars_none hV
 obtain ⟨a0,h0,rfl,rfl⟩:=open_nat (hval 0 25 v0 rfl rfl) r0
 obtain ⟨a1,rfl,rfl,rfl,w1⟩:=open_int Try.underlying3 (hval 1 3 v1 rfl rfl) r1
 have h1:=int_of_wf w1
 obtain ⟨a2,rfl,rfl,rfl,w2⟩:=open_int Try.underlying3 (hval 2 3 v2 rfl rfl) r2
 have h2:=int_of_wf w2
 obtain ⟨q3,n3,c3,f3,rfl,h3,u3⟩:=open_ints (hval 3 26 v3 rfl rfl) r3
 have b3:n3*8≤140737488351232:=ints_sized hsz (j:=3) rfl rfl u3
 clear hsz hA0 hval0
 simp only [List.append_nil] at hW'
 refine (lvwin_any a0 h0 a1 a2 q3 n3 c3 f3 W h3 b3).mono fun e W' ⟨he,hg⟩=>?_
 subst he
 exact ⟨_,rfl,_,_,_,[],_,[],hW',trodAll_mk1 (shut_bool Try.underlying4 _),trodAll_mk4 (stay_nat r0) (shut_int Try.underlying3 w1) (shut_int Try.underlying3 w2) (stay_ints r3 hg.below),rfl,hg.below.frame _,fun h=>by cases h⟩
theorem windows_holds:Rows.WindowsSaid:=
 OpenClaim.holds_of_wide 3 Try.f3 rfl rfl rfl rfl rfl rfl rfl ⟨rfl,rfl,rfl,rfl,rfl⟩ rfl rfl rfl rfl rfl (by kernel_rfl) Try.func3 (by kernel_rfl)
  (of_decide_eq_true (by kernel_rfl)) (by unfold Func.isWrapper; first | (rw [if_pos (by decide +kernel)]; kernel_rfl) | (rw [if_neg (by decide +kernel)]; exact ⟨rfl,rfl⟩))
  (fun os started H enc _=>windows_lifted os started H enc)
#print axioms windows_holds
end
end Go.Proofs.Ytgpfabihgjhefaa