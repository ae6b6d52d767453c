/-
  For any three ints id, cut, size and any two texts z, info the call KdfOther(id, z, info, cut, size) returns true, and its arguments read afterwards as they read before: the given card KdfOtherCardSaid, with no condition but that the two packages' tables of constants are laid as the program's text lays them.
-/
import Derived.Test.YtledggjbijoijaaDoorLKOther
import Derived.Test.YtledggjbijoijaaDoorOpenK
import Derived.SizedLaws
namespace Go.Proofs.YtledggjbijoijaaDoor
open Go.ChangeShapes Go.WideShapes Go.ChangeAt Go.RowKit
open Go.ChangeMaps (open_string shut_string)
theorem kdfOther_laid (os : Os) : laidMet Tryd.prog Rows.kdfOtherRow.laid ((kWorld2 Tryd.prog os).forCall (fun _ _ => 0) ⟨#[], #[.int .i64 0, .string ⟨#[]⟩, .string ⟨#[]⟩, .int .i64 0, .int .i64 0], []⟩).memory :=
  laidMet_of_run' 8 (by kernel_rfl) (by kernel_rfl)
theorem kdfOther_reads (os : Os) {H : Type} (enc : TypeId × Value → H) : ∃ places, DataW.whole enc Tryd.prog ((kWorld2 Tryd.prog os).forCall (fun _ _ => 0) ⟨#[], #[.int .i64 0, .string ⟨#[]⟩, .string ⟨#[]⟩, .int .i64 0, .int .i64 0], []⟩).memory Tryd.f6.params.toList Rows.kdfOtherSpec.vars false #[.int .i64 0, .string ⟨#[]⟩, .string ⟨#[]⟩, .int .i64 0, .int .i64 0].toList 8 = some ([.lit (.int .i64 0), .lit (.string []), .lit (.string []), .lit (.int .i64 0), .lit (.int .i64 0)], [], places) :=
  ⟨[], by kernel_rfl⟩
set_option maxRecDepth 100000 in
theorem kdfOther_lifted (os : Os) (started : os.Started) (H : Type) (enc : TypeId × Value → H) (F : Stop.Interp) :
    ReturnsInHanded {} Tryd.checked os 6 .any ((OpenSpec.ofChange Rows.kdfOtherSpec).preRow enc Tryd.prog Tryd.f6 Rows.kdfOtherRow.domain false Rows.kdfOtherRow.laid) (((OpenSpec.ofChange Rows.kdfOtherSpec).at F).post enc Tryd.prog Tryd.f6 false true false false) := by
  obtain ⟨places, hx⟩ := kdfOther_reads os enc
  refine returnsInHanded_of_row (C := Tryd.checked) (s := OpenSpec.ofChange Rows.kdfOtherSpec) Tryd.own started (by kernel_rfl) Tryd.func6
    (witness_row_at (enc := enc) (C := Tryd.checked) false (kWorld2 Tryd.prog os) #[.int .i64 0, .string ⟨#[]⟩, .string ⟨#[]⟩, .int .i64 0, .int .i64 0] rfl (by kernel_rfl) (by kernel_rfl) (by kernel_rfl)
      (OpenSpec.preRow_of_cond 8 hx (by kernel_rfl) (fun k hk => by cases hk) (by kernel_rfl) (kdfOther_laid os))) ?_
  intro W base args ds gs before hval0 hW _ _ hsz0 hL _ _
  have hsz : (DataW.weightsEach Tryd.prog (Tryd.f6.params.toList ++ (OpenSpec.ofChange Rows.kdfOtherSpec).bare.plain.varTypes Tryd.prog) (ds ++ gs)).all (· ≤ reachBytes) = true := hsz0
  have hval : ∀ (j : Nat) t v, Tryd.f6.params[j]? = some t → args[j]? = some v → Value.okWide Tryd.prog W .any base t v := hval0
  have hK : KK W := kk2_of hL
  have hW' := hW
  obtain ⟨p, q, hA0, hV, rfl, hfz, hnd⟩ := hW
  have hA : DataW.TrodAll enc Tryd.prog W 0 (fun _ => true) true Tryd.f6.params.toList args.toList ds p := hA0
  rw [Tryd.params6] at hA hval hsz
  obtain ⟨v0, v1, v2, v3, v4, d0, d1, d2, d3, d4, p0, p1, p2, p3, p4, rfl, rfl, rfl, r0, r1, r2, r3, r4⟩ := trodAll_five hA
  obtain ⟨rfl, rfl⟩ := trodVars_none hV
  obtain ⟨a0, rfl, rfl, rfl, w0⟩ := open_int Tryd.underlying3 (hval 0 3 v0 rfl rfl) r0
  obtain ⟨a1, rfl, rfl, rfl, h1⟩ := open_string Tryd.underlying9 (hval 1 9 v1 rfl rfl) r1
  have b1 : a1.size ≤ 140737488351232 := by
    have hm := List.all_eq_true.1 hsz a1.data.toList.length (DataW.weights_mem_each (j := 1) (t := 9) rfl rfl _ (by simp [DataW.weights]))
    have hl : a1.data.toList.length = a1.size := Array.length_toList
    rw [hl] at hm
    exact of_decide_eq_true hm
  obtain ⟨a2, rfl, rfl, rfl, h2⟩ := open_string Tryd.underlying9 (hval 2 9 v2 rfl rfl) r2
  have b2 : a2.size ≤ 140737488351232 := by
    have hm := List.all_eq_true.1 hsz a2.data.toList.length (DataW.weights_mem_each (j := 2) (t := 9) rfl rfl _ (by simp [DataW.weights]))
    have hl : a2.data.toList.length = a2.size := Array.length_toList
    rw [hl] at hm
    exact of_decide_eq_true hm
  obtain ⟨a3, rfl, rfl, rfl, w3⟩ := open_int Tryd.underlying3 (hval 3 3 v3 rfl rfl) r3
  obtain ⟨a4, rfl, rfl, rfl, w4⟩ := open_int Tryd.underlying3 (hval 4 3 v4 rfl rfl) r4
  clear hsz hsz0 hA0 hval0
  simp only [List.append_nil] at hW'
  refine (lkother_any a0 a1 a2 a3 a4 b1 b2 W hK).mono fun e W' ⟨he, hg⟩ => ?_
  subst he
  exact ⟨_, rfl, _, _, _, [], _, [], hW', trodAll_mk1 (shut_bool Tryd.underlying4 _), trodAll_mk5 (shut_int Tryd.underlying3 w0) (shut_string Tryd.underlying9 h1) (shut_string Tryd.underlying9 h2) (shut_int Tryd.underlying3 w3) (shut_int Tryd.underlying3 w4), rfl, hg.below.frame _, fun h => by cases h⟩
theorem kdfOther_said : Rows.KdfOtherSaid :=
  OpenClaim.holds_of_cond 6 Tryd.f6 rfl rfl rfl rfl rfl rfl rfl ⟨rfl, rfl, rfl, rfl, rfl⟩ rfl rfl rfl rfl rfl (by kernel_rfl) Tryd.func6 (by kernel_rfl)
    (of_decide_eq_true (by kernel_rfl)) (by unfold Func.isWrapper; first | (rw [if_pos (by decide +kernel)]; kernel_rfl) | (rw [if_neg (by decide +kernel)]; exact ⟨rfl, rfl⟩))
    (fun os started H enc _ F => by rw [OpenClaim.pre_eq_preRow]; exact kdfOther_lifted os started H enc F)
theorem kdfOther_plain (f : FuncId) (fn : Func) (hf : Tryd.pinned.checked.prog.funcNamed "curvet/curvetlaw12.KdfOther" = some f) (hfn : Tryd.pinned.checked.prog.funcs[f]? = some fn) :
    false = Tryd.pinned.checked.prog.looks [] ∧ ∀ (j : Nat) t, fn.params[j]? = some t → Tryd.pinned.checked.prog.wantsStandIn t = false := by
  obtain rfl : f = 6 := Option.some.inj ((show Tryd.prog.funcNamed "curvet/curvetlaw12.KdfOther" = some 6 by kernel_rfl).symm.trans hf) |>.symm
  obtain rfl : fn = Tryd.f6 := (Option.some.inj (Tryd.func6.symm.trans hfn)).symm
  refine ⟨by kernel_rfl, fun j t ht => ?_⟩
  rw [Tryd.params6] at ht
  have hm := Array.mem_of_getElem? ht
  simp only [List.mem_toArray, List.mem_cons, List.not_mem_nil, or_false] at hm
  rcases hm with rfl | rfl | rfl | rfl | rfl
  all_goals exact (show Tryd.prog.wantsStandIn _ = false by kernel_rfl)
theorem kdfOther_holds : Rows.KdfOtherCardSaid :=
  Claim7.holds_tied_plain_at .later [] _ _ _ _ kdfOther_said (fun _ h => by cases h) (by kernel_rfl) (fun _ h => by cases h) kdfOther_row_tie rfl ⟨rfl, rfl⟩ (by kernel_rfl) rfl kdfOther_plain (by kernel_rfl)
#print axioms kdfOther_holds

end Go.Proofs.YtledggjbijoijaaDoor
