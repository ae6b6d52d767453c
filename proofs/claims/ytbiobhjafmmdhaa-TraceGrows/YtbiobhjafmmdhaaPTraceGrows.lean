/-
  For every row of events es and every int i the call TraceGrows(es, i) returns true, and its arguments read afterwards as they read before: the given statement TraceGrowsSaid, with no condition.
-/
import Derived.Test.YtbiobhjafmmdhaaLTGrows
import Derived.Test.YtbiobhjafmmdhaaOpen
import Derived.SizedLaws
import Derived.Test.YtbiobhjafmmdhaaOpenE
namespace Go.Proofs.Ytbiobhjafmmdhaa
open Go.ChangeShapes Go.WideShapes Go.ChangeAt Go.RowKit

set_option maxRecDepth 100000 in
theorem traceGrows_lifted (os : Os) (started : os.Started) (H : Type) (enc : TypeId × Value → H) :
    ReturnsInHanded {} Try.checked os 5 .any (Rows.traceGrowsSpec.pre6 enc Try.prog Try.f5 Rows.traceGrowsRow.domain false) (Rows.traceGrowsSpec.post enc Try.prog Try.f5 false true false false) := by
  refine returnsInHanded_of_change_sized (C := Try.checked) Try.own started (by kernel_rfl) Try.func5
    (ChangeSpec.witness6 (enc := enc) (C := Try.checked) false ⟨#[], #[.slice none 0 0, .int .i64 0], []⟩ 8 (by kernel_rfl) (by kernel_rfl) (by kernel_rfl) (by kernel_rfl)) ?_
  intro W base args ds gs before hval0 hW hcnd hsz0 _
  have hsz : (DataW.weightsEach Try.prog (Try.f5.params.toList ++ Rows.traceGrowsSpec.plain.varTypes Try.prog) (ds ++ gs)).all (· ≤ reachBytes) = true := hsz0
  clear hsz0
  have hval : ∀ (j : Nat) t v, Try.f5.params[j]? = some t → args[j]? = some v → Value.okWide Try.prog W .any base t v := hval0
  have hW' := hW
  obtain ⟨p, q, hA0, hV, rfl, hfz, hnd⟩ := hW
  have hA : DataW.TrodAll enc Try.prog W 0 (fun _ => true) true Try.f5.params.toList args.toList ds p := hA0
  rw [Try.params5] at hA hval hsz
  obtain ⟨v0, v1, d0, d1, p0, p1, rfl, rfl, rfl, r0, r1⟩ := trodAll_two hA
  obtain ⟨rfl, rfl⟩ := trodVars_none hV
  obtain ⟨q0, a0, c0, rfl, h0, z0, l0, s0, u0⟩ := open_evs (hval 0 22 v0 rfl rfl) r0
  obtain ⟨a1, rfl, rfl, rfl, w1⟩ := open_int Try.underlying3 (hval 1 3 v1 rfl rfl) r1
  have h1 := int_of_wf w1
  have b0 : a0.length * 16 ≤ 140737488351232 := evs_sized hsz (j := 0) rfl rfl u0
  clear hsz hA0 hval0
  simp only [List.append_nil] at hW'
  refine (tgrows_any W q0 a0 c0 a1 h0 b0).mono fun e W' ⟨he, hg⟩ => ?_
  subst he
  exact ⟨_, rfl, _, _, _, [], _, [], hW', trodAll_mk1 (shut_bool Try.underlying4 _), trodAll_mk2 (stay_evs r0 hg) (shut_int Try.underlying3 w1), rfl, hg.frame _, fun h => by cases h⟩

theorem traceGrows_holds : Rows.TraceGrowsSaid :=
  OpenClaim.holds_of_wide 5 Try.f5 rfl rfl rfl rfl rfl rfl rfl ⟨rfl, rfl, rfl, rfl, rfl⟩ rfl rfl rfl rfl rfl (by kernel_rfl) Try.func5 (by kernel_rfl)
    (of_decide_eq_true (by kernel_rfl)) (by unfold Func.isWrapper; first | (rw [if_pos (by decide +kernel)]; kernel_rfl) | (rw [if_neg (by decide +kernel)]; exact ⟨rfl, rfl⟩))
    (fun os started H enc _ => traceGrows_lifted os started H enc)
#print axioms traceGrows_holds

end Go.Proofs.Ytbiobhjafmmdhaa
