/-
  For every two rows of events es and other the call Traces(es, other) returns true, and its arguments read afterwards as they read before: the given statement TracesSaid, with no condition.
-/
import Derived.Test.YtbiobhjafmmdhaaLTraces
import Derived.Test.YtbiobhjafmmdhaaOpen
import Derived.SizedLaws
import Derived.Test.YtbiobhjafmmdhaaOpenE
namespace Go.Proofs.Ytbiobhjafmmdhaa
open Go.ChangeShapes Go.WideShapes Go.ChangeAt Go.RowKit

set_option maxRecDepth 100000 in
theorem traces_lifted (os : Os) (started : os.Started) (H : Type) (enc : TypeId × Value → H) :
    ReturnsInHanded {} Try.checked os 3 .any (Rows.tracesSpec.pre6 enc Try.prog Try.f3 Rows.tracesRow.domain false) (Rows.tracesSpec.post enc Try.prog Try.f3 false true false false) := by
  refine returnsInHanded_of_change_sized (C := Try.checked) Try.own started (by kernel_rfl) Try.func3
    (ChangeSpec.witness6 (enc := enc) (C := Try.checked) false ⟨#[], #[.slice none 0 0, .slice none 0 0], []⟩ 8 (by kernel_rfl) (by kernel_rfl) (by kernel_rfl) (by kernel_rfl)) ?_
  intro W base args ds gs before hval0 hW hcnd hsz0 _
  have hsz : (DataW.weightsEach Try.prog (Try.f3.params.toList ++ Rows.tracesSpec.plain.varTypes Try.prog) (ds ++ gs)).all (· ≤ reachBytes) = true := hsz0
  clear hsz0
  have hval : ∀ (j : Nat) t v, Try.f3.params[j]? = some t → args[j]? = some v → Value.okWide Try.prog W .any base t v := hval0
  have hW' := hW
  obtain ⟨p, q, hA0, hV, rfl, hfz, hnd⟩ := hW
  have hA : DataW.TrodAll enc Try.prog W 0 (fun _ => true) true Try.f3.params.toList args.toList ds p := hA0
  rw [Try.params3] at hA hval hsz
  obtain ⟨v0, v1, d0, d1, p0, p1, rfl, rfl, rfl, r0, r1⟩ := trodAll_two hA
  obtain ⟨rfl, rfl⟩ := trodVars_none hV
  obtain ⟨q0, a0, c0, rfl, h0, z0, l0, s0, u0⟩ := open_evs (hval 0 22 v0 rfl rfl) r0
  obtain ⟨q1, a1, c1, rfl, h1, z1, l1, s1, u1⟩ := open_evs (hval 1 22 v1 rfl rfl) r1
  have b0 : a0.length * 16 ≤ 140737488351232 := evs_sized hsz (j := 0) rfl rfl u0
  have b1 : a1.length * 16 ≤ 140737488351232 := evs_sized hsz (j := 1) rfl rfl u1
  clear hsz hA0 hval0
  simp only [List.append_nil] at hW'
  refine (traces_any W q0 q1 a0 a1 c0 c1 h0 h1 b0 b1).mono fun e W' ⟨he, hg⟩ => ?_
  subst he
  exact ⟨_, rfl, _, _, _, [], _, [], hW', trodAll_mk1 (shut_bool Try.underlying4 _), trodAll_mk2 (stay_evs r0 hg) (stay_evs r1 hg), rfl, hg.frame _, fun h => by cases h⟩

theorem traces_holds : Rows.TracesSaid :=
  OpenClaim.holds_of_wide 3 Try.f3 rfl rfl rfl rfl rfl rfl rfl ⟨rfl, rfl, rfl, rfl, rfl⟩ rfl rfl rfl rfl rfl (by kernel_rfl) Try.func3 (by kernel_rfl)
    (of_decide_eq_true (by kernel_rfl)) (by unfold Func.isWrapper; first | (rw [if_pos (by decide +kernel)]; kernel_rfl) | (rw [if_neg (by decide +kernel)]; exact ⟨rfl, rfl⟩))
    (fun os started H enc _ => traces_lifted os started H enc)
#print axioms traces_holds

end Go.Proofs.Ytbiobhjafmmdhaa
