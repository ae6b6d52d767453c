/-
  The statement FieldBounds, walked: it answers true for every id, every word and both ways.
-/
/-
  How an argument that is a number (api.Nat) comes into a call and reads behind it.
-/
/-
  For every id, every word and both ways the call FieldBounds(id, more, second) returns true, and its arguments read afterwards as they read before: the given statement FieldBoundsSaid, with no condition.
-/
import Derived.ProofKit
import Derived.OpenShut
import Derived.Test.YtkmpholjlophpaaZLFBb
import Derived.Test.YtkmpholjlophpaaZLFBc
import Derived.Test.YtkmpholjlophpaaZLFBd
import Derived.Test.YtkmpholjlophpaaZInst
namespace Go.Proofs.Ytkmpholjlophpaa
open Go.RowKit
attribute [local go_sem ↓] loadNat_is loadArr_is loadWide_is loadArrW_is storeNat_is storeWide_is
attribute [local go_sem] loadNat loadArr loadWide loadArrW storeNat storeWide idxArr fold9 fold18 nw_size nw_elem pre_self pre_1 pre_2 pre_3 pre_4 pre_5 pre_6 pre_7 pre_8 pre_9 pre_10 pre_11 pre_12 pre_13 pre_14 pre_15 pre_16 pre_17 pre_18 pre_19 pre_20 pre_21 pre_22 pre_23 pre_24 pre_25 pre_26 pre_27 pre_28 pre_29 pre_30 pre_31 pre_32 pre_33 pre_34 pre_35 pre_36 pre_37 pre_38 pre_39 pre_40 gro_size gro_drew gro_drewN drew_gro drewN_gro gro_gro blk_gro frz_gro blk_drew frz_drew blk_drewN frz_drewN blk_alloc_at frz_alloc_at blk_alloc frz_alloc cell_gro frozen_gro cell_alloc_pre frozen_alloc_pre setCell_drewN alloc_drewN setBlk_drew setBlk_drewN setBlk_alloc_at setBlk_alloc setBlk_gro setCell_gro setCell_alloc_pre size_setBlk size_setCell
attribute [local go_sem] nw_ext9 nw_ext18 eqArr9 eqArr18

attribute [local go_sem] loadNat2 loadArr2 loadWide2 loadK_nw ppre_1 ppre_2 ppre_3 ppre_4 ppre_5 ppre_6 ppre_7 ppre_8 ppre_9 ppre_10 ppre_11 ppre_12 ppre_13 ppre_14 ppre_15 ppre_16 ppre_17 ppre_18 ppre_19 ppre_20

attribute [local go_sem ↓] loadC_is storeC_is Go.wp_at_zero Go.wp_at_succ
attribute [local go_sem] eqN_self loadC storeCv cvA_size frz_setBlk blk_setBlk setBlk_setBlk blk_other
theorem fbounds_any (id : Int) (more : Nat) (hm : more < 18446744073709551616) (second : Bool) (w : World) :
    Calls Try.prog 12 #[.int .i64 id, .int .u64 (more : Int), .bool second] w fun e w' => e = .returned (.bool true) ∧ Gr w w' := by
  obtain ⟨h1, h2⟩ := idx_bd id
  have HO := fun w => one5_any id w
  by_cases ho : 18446744073709551616 ≤ wd (pN (idx id)) 0 + more % 4
  · cases second
    · exact fbnd_10 id (idx id) more h1 h2 hm ho HO w
    · exact fbnd_11 id (idx id) more h1 h2 hm ho HO w
  · cases second
    · exact fbnd_00 id (idx id) more h1 h2 hm ho HO w
    · exact fbnd_01 id (idx id) more h1 h2 hm ho HO w

end Go.Proofs.Ytkmpholjlophpaa
namespace Go.Proofs.Ytkmpholjlophpaa
open Go.ChangeShapes Go.WideShapes Go.ChangeAt Go.RowKit

theorem Try.own : ownKnob Try.prog.godebug = none := by kernel_rfl
theorem Try.laidOut : laidOutB Try.prog = true := by kernel_rfl

/-- Any words are a number's. -/
theorem of_words (f : Nat → Nat) (hf : ∀ i, f i < 18446744073709551616) : ∀ n, ∃ a, a < pw n ∧ ∀ i, i < n → wd a i = f i
  | 0 => ⟨0, pw_pos 0, fun i hi => by omega⟩
  | n + 1 => by
    obtain ⟨a, ha, hw⟩ := of_words f hf n
    refine ⟨a + f n * pw n, ?_, fun i hi => ?_⟩
    · rw [pow_succ64]
      have : f n * pw n ≤ 18446744073709551615 * pw n := Nat.mul_le_mul_right _ (by have := hf n; omega)
      omega
    · have e : a + f n * pw n = a % pw n + f n * pw n + a / pw (n + 1) * pw (n + 1) := by
        have h2 : pw n ≤ pw (n + 1) := by rw [pow_succ64]; omega
        rw [Nat.mod_eq_of_lt ha, Nat.div_eq_of_lt (show a < pw (n + 1) by omega), Nat.zero_mul, Nat.add_zero]
      rw [e, wd_set a n (f n) i (hf n)]
      by_cases h : i = n
      · rw [if_pos h, h]
      · rw [if_neg h]; exact hw i (by omega)
theorem word_of_wf {x : Int} (h : (Lit.int .u64 x).wf = true) : 0 ≤ x ∧ x < 18446744073709551616 := by
  simp [Lit.wf, IntKind.min, IntKind.max, IntKind.signed, IntKind.bits] at h
  exact ⟨by omega, by omega⟩
theorem int_of_wf {x : Int} (h : (Lit.int .i64 x).wf = true) : -9223372036854775808 ≤ x ∧ x ≤ 9223372036854775807 := by
  simp [Lit.wf, IntKind.min, IntKind.max, IntKind.signed, IntKind.bits] at h
  exact ⟨by omega, by omega⟩

set_option maxRecDepth 100000 in
theorem open_nat {H : Type} {enc : TypeId × Value → H} {W : World} {base : Nat} {v : Value} {d : DataW H} {p : List MemPlace}
    (hv : Value.okWide Try.prog W .any base 25 v) (h : DataW.Trod enc Try.prog W 0 (fun _ => true) true 25 v d p) : ∃ a, a < M ∧ v = .agg (nw 9 a) ∧ p = [] := by
  obtain ⟨cs, rfl, hsz⟩ := okWide_struct Try.underlying25 hv
  rw [show Try.prog.cellsOf 25 = 9 from by kernel_rfl] at hsz
  obtain ⟨fuel, hf⟩ := h
  obtain ⟨y0, n, hx, _, hy⟩ := trod_struct1 Try.underlying25 hf
  simp only [Prod.mk.injEq] at hx
  obtain ⟨_, hp⟩ := hx
  have hc : (Value.agg cs).cells.toList = cs.toList := rfl
  rw [hc] at hy
  simp only [show Try.prog.cellsOf 23 = 9 from by kernel_rfl, List.drop_zero] at hy
  rw [List.take_of_length_le (by simp; omega)] at hy
  obtain ⟨xs, m, _, hx2, _, hlen, hi⟩ := DataW.trod_array Try.underlying23 hy
  have hcell : ∀ i, i < 9 → ∃ z : Int, cs[i]? = some (.int .u64 z) ∧ 0 ≤ z ∧ z < 18446744073709551616 ∧ ∃ q, xs[i]? = some (q, []) := fun i h9 => by
    have h1 := hi i h9
    rw [show Try.prog.cellsOf 22 = 1 from by kernel_rfl, Nat.mul_one] at h1
    have h2 : xs[i]? = some xs[i] := List.getElem?_eq_getElem (by omega)
    rw [h2] at h1
    obtain ⟨z, hz, hq, hw⟩ := DataW.trod_int Try.underlying22 h1
    have h3 : cs.toList[i]? = some (.int .u64 z) := by
      have h4 : (cs.toList.drop i).take 1 = [Value.int .u64 z] := hz
      have h5 : ((cs.toList.drop i).take 1)[0]? = some (Value.int .u64 z) := by rw [h4]; rfl
      rw [List.getElem?_take_of_lt (by decide), List.getElem?_drop, Nat.add_zero] at h5
      exact h5
    refine ⟨z, by simpa using h3, (word_of_wf hw).1, (word_of_wf hw).2, (xs[i]).1, ?_⟩
    rw [h2, hq]
  obtain ⟨a, ha, hw⟩ := of_words (fun i => match cs[i]? with | some (.int .u64 z) => z.toNat % 18446744073709551616 | _ => 0) (fun i => by split <;> omega) 9
  refine ⟨a, ha, ?_, ?_⟩
  · refine congrArg Value.agg ?_
    apply Array.ext_getElem?
    intro i
    by_cases h9 : i < 9
    · obtain ⟨z, hz, z0, z1, _⟩ := hcell i h9
      rw [nw_get 9 a i h9, hw i h9, hz]
      simp only
      refine congrArg some (congrArg (Value.int .u64) ?_)
      omega
    · rw [Array.getElem?_eq_none (by omega), Array.getElem?_eq_none (by rw [nw_size]; omega)]
  · rw [hp, show y0.2 = xs.flatMap (·.2) from by rw [hx2]]
    rw [List.flatMap_eq_nil_iff]
    intro y hy'
    obtain ⟨i, hil, rfl⟩ := List.mem_iff_getElem.1 hy'
    obtain ⟨_, _, _, _, q, hq⟩ := hcell i (by omega)
    rw [List.getElem?_eq_getElem hil] at hq
    simp only [Option.some.injEq] at hq
    rw [hq]

theorem stay_nat {H : Type} {enc : TypeId × Value → H} {W W' : World} {sp : Nat → Bool} {v : Value} {d : DataW H} (h : DataW.Trod enc Try.prog W 0 (fun _ => true) true 25 v d []) :
    DataW.Trod enc Try.prog W' 0 sp true 25 v d [] :=
  WideElems.Trod_stays Try.laidOut (by kernel_rfl) (of_decide_eq_true (by kernel_rfl)) h (by simp) (by simp)

end Go.Proofs.Ytkmpholjlophpaa
namespace Go.Proofs.Ytkmpholjlophpaa
open Go.ChangeShapes Go.WideShapes Go.ChangeAt Go.RowKit

set_option maxRecDepth 100000 in
theorem fieldBounds_lifted (os : Os) (started : os.Started) (H : Type) (enc : TypeId × Value → H) :
    ReturnsInHanded {} Try.checked os 12 .any (Rows.fieldBoundsSpec.pre6 enc Try.prog Try.f12 Rows.fieldBoundsRow.domain false) (Rows.fieldBoundsSpec.post enc Try.prog Try.f12 false true false false) := by
  refine returnsInHanded_of_change (C := Try.checked) Try.own started (by kernel_rfl) Try.func12
    (ChangeSpec.witness6 (enc := enc) (C := Try.checked) false ⟨#[], #[.int .i64 0, .int .u64 0, .bool false], []⟩ 8 (by kernel_rfl) (by kernel_rfl) (by kernel_rfl) (by kernel_rfl)) ?_
  intro W base args ds gs before hval0 hW hcnd _
  have hval : ∀ (j : Nat) t v, Try.f12.params[j]? = some t → args[j]? = some v → Value.okWide Try.prog W .any base t v := hval0
  have hW' := hW
  obtain ⟨p, q, hA0, hV, rfl, hfz, hnd⟩ := hW
  have hA : DataW.TrodAll enc Try.prog W 0 (fun _ => true) true Try.f12.params.toList args.toList ds p := hA0
  rw [Try.params12] at hA hval
  obtain ⟨v0, v1, v2, d0, d1, d2, p0, p1, p2, rfl, rfl, rfl, r0, r1, r2⟩ := trodAll_three hA
  obtain ⟨rfl, rfl⟩ := trodVars_none hV
  obtain ⟨a0, rfl, rfl, rfl, w0⟩ := open_int Try.underlying3 (hval 0 3 v0 rfl rfl) r0
  have h0 := int_of_wf w0
  obtain ⟨z1, rfl, rfl, rfl, w1⟩ := open_int Try.underlying22 (hval 1 22 v1 rfl rfl) r1
  obtain ⟨a1, rfl⟩ := Int.eq_ofNat_of_zero_le (word_of_wf w1).1
  have h1 : a1 < 18446744073709551616 := by have := (word_of_wf w1).2; omega
  obtain ⟨a2, rfl, rfl, rfl⟩ := open_bool Try.underlying4 (hval 2 4 v2 rfl rfl) r2
  clear hA0 hval0
  simp only [List.append_nil] at hW'
  refine (fbounds_any a0 a1 h1 a2 W).mono fun e W' ⟨he, hg⟩ => ?_
  subst he
  exact ⟨_, rfl, _, _, _, [], [], [], hW', trodAll_mk1 (shut_bool Try.underlying4 _), trodAll_mk3 (shut_int Try.underlying3 w0) (shut_int Try.underlying22 w1) (shut_bool Try.underlying4 _), rfl, hg.below.frame _, fun h => by cases h⟩

theorem fieldBounds_holds : Rows.FieldBoundsSaid :=
  OpenClaim.holds_of_wide 12 Try.f12 rfl rfl rfl rfl rfl rfl rfl ⟨rfl, rfl, rfl, rfl, rfl⟩ rfl rfl rfl rfl rfl (by kernel_rfl) Try.func12 (by kernel_rfl)
    (of_decide_eq_true (by kernel_rfl)) (by unfold Func.isWrapper; first | (rw [if_pos (by decide +kernel)]; kernel_rfl) | (rw [if_neg (by decide +kernel)]; exact ⟨rfl, rfl⟩))
    (fun os started H enc _ => fieldBounds_lifted os started H enc)
#print axioms fieldBounds_holds

end Go.Proofs.Ytkmpholjlophpaa
