/-
  For every two numbers a and m and every two words i and j the call DivideExponents(a, m, i, j) returns true, and its arguments read afterwards as they read before: the given statement DivideExponentsSaid, with no condition.
-/
import Derived.Test.YtbafjcbbiiipfaaLDExp
import Derived.Test.YtbafjcbbiiipfaaOpen
import Derived.Carry
namespace Go.Proofs.Ytbafjcbbiiipfaa
open Go.ChangeShapes Go.WideShapes Go.ChangeAt Go.RowKit

set_option maxRecDepth 100000 in
theorem divideExponents_lifted (os : Os) (started : os.Started) (H : Type) (enc : TypeId × Value → H) :
    ReturnsInHanded {} Try.checked os 8 .any (Rows.divideExponentsSpec.pre6 enc Try.prog Try.f8 Rows.divideExponentsRow.domain false) (Rows.divideExponentsSpec.post enc Try.prog Try.f8 false true false false) := by
  refine returnsInHanded_of_change (C := Try.checked) Try.own started (by kernel_rfl) Try.func8
    (ChangeSpec.witness6 (enc := enc) (C := Try.checked) false ⟨#[], #[.agg #[.int .u64 0, .int .u64 0, .int .u64 0, .int .u64 0, .int .u64 0, .int .u64 0, .int .u64 0, .int .u64 0, .int .u64 0], .agg #[.int .u64 0, .int .u64 0, .int .u64 0, .int .u64 0, .int .u64 0, .int .u64 0, .int .u64 0, .int .u64 0, .int .u64 0], .int .u64 0, .int .u64 0], []⟩ 8 (by kernel_rfl) (by kernel_rfl) (by kernel_rfl) (by kernel_rfl)) ?_
  intro W base args ds gs before hval0 hW hcnd _
  have hval : ∀ (j : Nat) t v, Try.f8.params[j]? = some t → args[j]? = some v → Value.okWide Try.prog W .any base t v := hval0
  have hW' := hW
  obtain ⟨p, q, hA0, hV, rfl, hfz, hnd⟩ := hW
  have hA : DataW.TrodAll enc Try.prog W 0 (fun _ => true) true Try.f8.params.toList args.toList ds p := hA0
  rw [Try.params8] at hA hval
  obtain ⟨v0, v1, v2, v3, d0, d1, d2, d3, p0, p1, p2, p3, rfl, rfl, rfl, r0, r1, r2, r3⟩ := trodAll_four hA
  obtain ⟨rfl, rfl⟩ := trodVars_none hV
  obtain ⟨a0, h0, rfl, rfl⟩ := open_nat (hval 0 25 v0 rfl rfl) r0
  obtain ⟨a1, h1, rfl, rfl⟩ := open_nat (hval 1 25 v1 rfl rfl) r1
  obtain ⟨z2, rfl, rfl, rfl, w2⟩ := open_int Try.underlying22 (hval 2 22 v2 rfl rfl) r2
  obtain ⟨a2, rfl⟩ := Int.eq_ofNat_of_zero_le (word_of_wf w2).1
  have h2 : a2 < 18446744073709551616 := by have := (word_of_wf w2).2; omega
  obtain ⟨z3, rfl, rfl, rfl, w3⟩ := open_int Try.underlying22 (hval 3 22 v3 rfl rfl) r3
  obtain ⟨a3, rfl⟩ := Int.eq_ofNat_of_zero_le (word_of_wf w3).1
  have h3 : a3 < 18446744073709551616 := by have := (word_of_wf w3).2; omega
  clear hA0 hval0
  simp only [List.append_nil] at hW'
  refine (dexp_any a0 a1 a2 a3 h0 h1 h2 h3 W).mono fun e W' ⟨he, hg⟩ => ?_
  subst he
  exact ⟨_, rfl, _, _, _, [], [], [], hW', trodAll_mk1 (shut_bool Try.underlying4 _), trodAll_mk4 (stay_nat r0) (stay_nat r1) (shut_int Try.underlying22 w2) (shut_int Try.underlying22 w3), rfl, hg.below.frame _, fun h => by cases h⟩

theorem divideExponents_holds : Rows.DivideExponentsSaid :=
  OpenClaim.holds_of_wide 8 Try.f8 rfl rfl rfl rfl rfl rfl rfl ⟨rfl, rfl, rfl, rfl, rfl⟩ rfl rfl rfl rfl rfl (by kernel_rfl) Try.func8 (by kernel_rfl)
    (of_decide_eq_true (by kernel_rfl)) (by unfold Func.isWrapper; first | (rw [if_pos (by decide +kernel)]; kernel_rfl) | (rw [if_neg (by decide +kernel)]; exact ⟨rfl, rfl⟩))
    (fun os started H enc _ => divideExponents_lifted os started H enc)
#print axioms divideExponents_holds

end Go.Proofs.Ytbafjcbbiiipfaa
