/-
  For every int id and any two texts entropy, nonce the call DrbgFirst(id, entropy, nonce) returns true, and its arguments read afterwards as they read before: the given card DrbgFirstCardSaid, with no condition but that the two packages' tables of constants are laid as the program's text lays them.
-/
import Derived.Test.YtconibmdlfkopaaGreatDoorLWFirst
import Derived.Test.YtconibmdlfkopaaGreatDoorOpenK
import Derived.SizedLaws
namespace Go.Proofs.YtconibmdlfkopaaGreatDoor
open Go.ChangeShapes Go.WideShapes Go.ChangeAt Go.RowKit
open Go.ChangeMaps (open_string shut_string)
theorem drbgFirst_laid (os : Os) : laidMet Tryz.prog Rows.drbgFirstRow.laid ((kWorld2 Tryz.prog os).forCall (fun _ _ => 0) ⟨#[], #[.int .i64 0, .string ⟨#[]⟩, .string ⟨#[]⟩], []⟩).memory :=
  laidMet_of_run' 8 (by kernel_rfl) (by kernel_rfl)
theorem drbgFirst_reads (os : Os) {H : Type} (enc : TypeId × Value → H) : ∃ places, DataW.whole enc Tryz.prog ((kWorld2 Tryz.prog os).forCall (fun _ _ => 0) ⟨#[], #[.int .i64 0, .string ⟨#[]⟩, .string ⟨#[]⟩], []⟩).memory Tryz.f8.params.toList Rows.drbgFirstSpec.vars false #[.int .i64 0, .string ⟨#[]⟩, .string ⟨#[]⟩].toList 8 = some ([.lit (.int .i64 0), .lit (.string []), .lit (.string [])], [], places) :=
  ⟨[], by kernel_rfl⟩
set_option maxRecDepth 100000 in
theorem drbgFirst_lifted (os : Os) (started : os.Started) (H : Type) (enc : TypeId × Value → H) (F : Stop.Interp) :
    ReturnsInHanded {} Tryz.checked os 8 .any ((OpenSpec.ofChange Rows.drbgFirstSpec).preRow enc Tryz.prog Tryz.f8 Rows.drbgFirstRow.domain false Rows.drbgFirstRow.laid) (((OpenSpec.ofChange Rows.drbgFirstSpec).at F).post enc Tryz.prog Tryz.f8 false true false false) := by
  obtain ⟨places, hx⟩ := drbgFirst_reads os enc
  refine returnsInHanded_of_row (C := Tryz.checked) (s := OpenSpec.ofChange Rows.drbgFirstSpec) Tryz.own started (by kernel_rfl) Tryz.func8
    (witness_row_at (enc := enc) (C := Tryz.checked) false (kWorld2 Tryz.prog os) #[.int .i64 0, .string ⟨#[]⟩, .string ⟨#[]⟩] rfl (by kernel_rfl) (by kernel_rfl) (by kernel_rfl)
      (OpenSpec.preRow_of_cond 8 hx (by kernel_rfl) (fun k hk => by cases hk) (by kernel_rfl) (drbgFirst_laid os))) ?_
  intro W base args ds gs before hval0 hW _ _ hsz0 hL _ _
  have hsz : (DataW.weightsEach Tryz.prog (Tryz.f8.params.toList ++ (OpenSpec.ofChange Rows.drbgFirstSpec).bare.plain.varTypes Tryz.prog) (ds ++ gs)).all (· ≤ reachBytes) = true := hsz0
  have hval : ∀ (j : Nat) t v, Tryz.f8.params[j]? = some t → args[j]? = some v → Value.okWide Tryz.prog W .any base t v := hval0
  have hK : KK W := kk2_of hL
  have hW' := hW
  obtain ⟨p, q, hA0, hV, rfl, hfz, hnd⟩ := hW
  have hA : DataW.TrodAll enc Tryz.prog W 0 (fun _ => true) true Tryz.f8.params.toList args.toList ds p := hA0
  rw [Tryz.params8] at hA hval hsz
  obtain ⟨v0, v1, v2, d0, d1, d2, p0, p1, p2, rfl, rfl, rfl, r0, r1, r2⟩ := trodAll_three hA
  obtain ⟨rfl, rfl⟩ := trodVars_none hV
  obtain ⟨a0, rfl, rfl, rfl, w0⟩ := open_int Tryz.underlying3 (hval 0 3 v0 rfl rfl) r0
  obtain ⟨a1, rfl, rfl, rfl, h1⟩ := open_string Tryz.underlying9 (hval 1 9 v1 rfl rfl) r1
  have b1 : a1.size ≤ 140737488351232 := by
    have hm := List.all_eq_true.1 hsz a1.data.toList.length (DataW.weights_mem_each (j := 1) (t := 9) rfl rfl _ (by simp [DataW.weights]))
    have hl : a1.data.toList.length = a1.size := Array.length_toList
    rw [hl] at hm
    exact of_decide_eq_true hm
  obtain ⟨a2, rfl, rfl, rfl, h2⟩ := open_string Tryz.underlying9 (hval 2 9 v2 rfl rfl) r2
  have b2 : a2.size ≤ 140737488351232 := by
    have hm := List.all_eq_true.1 hsz a2.data.toList.length (DataW.weights_mem_each (j := 2) (t := 9) rfl rfl _ (by simp [DataW.weights]))
    have hl : a2.data.toList.length = a2.size := Array.length_toList
    rw [hl] at hm
    exact of_decide_eq_true hm
  clear hsz hsz0 hA0 hval0
  simp only [List.append_nil] at hW'
  refine (lwfirst_any a0 a1 a2 (by omega) (by omega) W hK).mono fun e W' ⟨he, hg⟩ => ?_
  subst he
  exact ⟨_, rfl, _, _, _, [], _, [], hW', trodAll_mk1 (shut_bool Tryz.underlying4 _), trodAll_mk3 (shut_int Tryz.underlying3 w0) (shut_string Tryz.underlying9 h1) (shut_string Tryz.underlying9 h2), rfl, hg.below.frame _, fun h => by cases h⟩
theorem drbgFirst_said : Rows.DrbgFirstSaid :=
  OpenClaim.holds_of_cond 8 Tryz.f8 rfl rfl rfl rfl rfl rfl rfl ⟨rfl, rfl, rfl, rfl, rfl⟩ rfl rfl rfl rfl rfl (by kernel_rfl) Tryz.func8 (by kernel_rfl)
    (of_decide_eq_true (by kernel_rfl)) (by unfold Func.isWrapper; first | (rw [if_pos (by decide +kernel)]; kernel_rfl) | (rw [if_neg (by decide +kernel)]; exact ⟨rfl, rfl⟩))
    (fun os started H enc _ F => by rw [OpenClaim.pre_eq_preRow]; exact drbgFirst_lifted os started H enc F)
theorem drbgFirst_plain (f : FuncId) (fn : Func) (hf : Tryz.pinned.checked.prog.funcNamed "curvet/curvetlaw11.DrbgFirst" = some f) (hfn : Tryz.pinned.checked.prog.funcs[f]? = some fn) :
    false = Tryz.pinned.checked.prog.looks [] ∧ ∀ (j : Nat) t, fn.params[j]? = some t → Tryz.pinned.checked.prog.wantsStandIn t = false := by
  obtain rfl : f = 8 := Option.some.inj ((show Tryz.prog.funcNamed "curvet/curvetlaw11.DrbgFirst" = some 8 by kernel_rfl).symm.trans hf) |>.symm
  obtain rfl : fn = Tryz.f8 := (Option.some.inj (Tryz.func8.symm.trans hfn)).symm
  refine ⟨by kernel_rfl, fun j t ht => ?_⟩
  rw [Tryz.params8] at ht
  have hm := Array.mem_of_getElem? ht
  simp only [List.mem_toArray, List.mem_cons, List.not_mem_nil, or_false] at hm
  rcases hm with rfl | rfl | rfl
  all_goals exact (show Tryz.prog.wantsStandIn _ = false by kernel_rfl)
theorem drbgFirst_holds : Rows.DrbgFirstCardSaid :=
  Claim7.holds_tied_plain_at .later [] _ _ _ _ drbgFirst_said (fun _ h => by cases h) (by kernel_rfl) (fun _ h => by cases h) drbgFirst_row_tie rfl ⟨rfl, rfl⟩ (by kernel_rfl) rfl drbgFirst_plain (by kernel_rfl)
#print axioms drbgFirst_holds

end Go.Proofs.YtconibmdlfkopaaGreatDoor
