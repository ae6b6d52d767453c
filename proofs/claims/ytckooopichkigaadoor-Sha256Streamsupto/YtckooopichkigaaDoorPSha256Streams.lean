/-
  For every int bits and every row of texts parts that are together of bulk at most 1048576 the call Sha256Streams(bits, parts) returns true, and its arguments read afterwards as they read before: the given card Sha256StreamsUptoCardSaid; besides, the package's table of constants is laid as the program's text lays it.
-/
import Derived.Test.YtckooopichkigaaDoorLHStreams
import Derived.Test.YtckooopichkigaaDoorOpenS
import Derived.Test.YtckooopichkigaaDoorOpenH
import Derived.SizedLaws
namespace Go.Proofs.YtckooopichkigaaDoor
open Go.ChangeShapes Go.WideShapes Go.ChangeAt Go.RowKit
theorem sha256Streams_laid (os : Os) : laidMet Tryd.prog Rows.sha256StreamsUptoRow.laid ((kWorld Tryd.prog os).forCall (fun _ _ => 0) ⟨#[], #[.int .i64 0, .slice none 0 0], []⟩).memory :=
  laidMet_of_run' 8 (by kernel_rfl) (by kernel_rfl)
theorem sha256Streams_reads (os : Os) {H : Type} (enc : TypeId × Value → H) : ∃ places, DataW.whole enc Tryd.prog ((kWorld Tryd.prog os).forCall (fun _ _ => 0) ⟨#[], #[.int .i64 0, .slice none 0 0], []⟩).memory Tryd.f4.params.toList Rows.sha256StreamsSpec.vars false #[.int .i64 0, .slice none 0 0].toList 8 = some ([.lit (.int .i64 0), .nil], [], places) :=
  ⟨[], by kernel_rfl⟩
set_option maxRecDepth 100000 in
theorem sha256Streams_lifted (os : Os) (started : os.Started) (H : Type) (enc : TypeId × Value → H) (F : Stop.Interp) :
    ReturnsInHanded {} Tryd.checked os 4 .any ((Rows.OpenSpec.upto Rows.sha256StreamsSpec).preRow enc Tryd.prog Tryd.f4 Rows.sha256StreamsUptoRow.domain false Rows.sha256StreamsUptoRow.laid) (((Rows.OpenSpec.upto Rows.sha256StreamsSpec).at F).post enc Tryd.prog Tryd.f4 false true false false) := by
  obtain ⟨places, hx⟩ := sha256Streams_reads os enc
  refine returnsInHanded_of_row (C := Tryd.checked) (s := Rows.OpenSpec.upto Rows.sha256StreamsSpec) Tryd.own started (by kernel_rfl) Tryd.func4
    (witness_row_at (enc := enc) (C := Tryd.checked) false (kWorld Tryd.prog os) #[.int .i64 0, .slice none 0 0] rfl (by kernel_rfl) (by kernel_rfl) (by kernel_rfl)
      (OpenSpec.preRow_of_cond 8 hx (by kernel_rfl) (fun k hk => by cases hk; kernel_rfl) (by kernel_rfl) (sha256Streams_laid os))) ?_
  intro W base args ds gs before hval0 hW _ hcond hsz0 hL _ _
  have hsz : (DataW.weightsEach Tryd.prog (Tryd.f4.params.toList ++ (Rows.OpenSpec.upto Rows.sha256StreamsSpec).bare.plain.varTypes Tryd.prog) (ds ++ gs)).all (· ≤ reachBytes) = true := hsz0
  have hval : ∀ (j : Nat) t v, Tryd.f4.params[j]? = some t → args[j]? = some v → Value.okWide Tryd.prog W .any base t v := hval0
  have hK : Kk W := kk_of hL
  have hW' := hW
  obtain ⟨p, q, hA0, hV, rfl, hfz, hnd⟩ := hW
  have hA : DataW.TrodAll enc Tryd.prog W 0 (fun _ => true) true Tryd.f4.params.toList args.toList ds p := hA0
  rw [Tryd.params4] at hA hval hsz
  obtain ⟨v0, v1, d0, d1, p0, p1, rfl, rfl, rfl, r0, r1⟩ := trodAll_two hA
  obtain ⟨rfl, rfl⟩ := trodVars_none hV
  obtain ⟨a0, rfl, rfl, rfl, w0⟩ := open_int Tryd.underlying3 (hval 0 3 v0 rfl rfl) r0
  obtain ⟨q1, n1, c1, f1, rfl, h1, u1⟩ := open_strs (hval 1 30 v1 rfl rfl) r1
  obtain ⟨z1, m1⟩ := u1.sized hsz (j := 1) rfl rfl
  have s1 := u1.small (bulk_of (hcond _ rfl) (j := 1) rfl)
  clear hsz hsz0 hA0 hval0
  simp only [List.append_nil] at hW'
  refine (lhstreams_any a0 q1 n1 c1 f1 W h1 s1 m1 hK).mono fun e W' ⟨he, hg⟩ => ?_
  subst he
  exact ⟨_, rfl, _, _, _, [], _, [], hW', trodAll_mk1 (shut_bool Tryd.underlying4 _), trodAll_mk2 (shut_int Tryd.underlying3 w0) (stay_strs r1 hg.below), rfl, hg.below.frame _, fun h => by cases h⟩
theorem sha256Streams_said : Rows.Sha256StreamsUptoSaid :=
  OpenClaim.holds_of_cond 4 Tryd.f4 rfl rfl rfl rfl rfl rfl rfl ⟨rfl, rfl, rfl, rfl, rfl⟩ rfl rfl rfl rfl rfl (by kernel_rfl) Tryd.func4 (by kernel_rfl)
    (of_decide_eq_true (by kernel_rfl)) (by unfold Func.isWrapper; first | (rw [if_pos (by decide +kernel)]; kernel_rfl) | (rw [if_neg (by decide +kernel)]; exact ⟨rfl, rfl⟩))
    (fun os started H enc _ F => by rw [OpenClaim.pre_eq_preRow]; exact sha256Streams_lifted os started H enc F)
theorem sha256Streams_plain (f : FuncId) (fn : Func) (hf : Tryd.pinned.checked.prog.funcNamed "curvet/curvetlaw7.Sha256Streams" = some f) (hfn : Tryd.pinned.checked.prog.funcs[f]? = some fn) :
    false = Tryd.pinned.checked.prog.looks [] ∧ ∀ (j : Nat) t, fn.params[j]? = some t → Tryd.pinned.checked.prog.wantsStandIn t = false := by
  obtain rfl : f = 4 := Option.some.inj ((show Tryd.prog.funcNamed "curvet/curvetlaw7.Sha256Streams" = some 4 by kernel_rfl).symm.trans hf) |>.symm
  obtain rfl : fn = Tryd.f4 := (Option.some.inj (Tryd.func4.symm.trans hfn)).symm
  refine ⟨by kernel_rfl, fun j t ht => ?_⟩
  rw [Tryd.params4] at ht
  have hm := Array.mem_of_getElem? ht
  simp only [List.mem_toArray, List.mem_cons, List.not_mem_nil, or_false] at hm
  rcases hm with rfl | rfl
  all_goals exact (show Tryd.prog.wantsStandIn _ = false by kernel_rfl)
theorem sha256Streams_holds : Rows.Sha256StreamsUptoCardSaid :=
  Claim7.holds_tied_plain_at .later [] _ _ _ _ sha256Streams_said (fun _ h => by cases h) (by kernel_rfl) (fun _ h => by cases h) sha256StreamsUpto_row_tie rfl ⟨rfl, rfl⟩ (by kernel_rfl) rfl sha256Streams_plain (by kernel_rfl)
#print axioms sha256Streams_holds

end Go.Proofs.YtckooopichkigaaDoor
