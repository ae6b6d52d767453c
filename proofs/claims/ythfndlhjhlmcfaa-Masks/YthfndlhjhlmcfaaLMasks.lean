/-
  The statement Masks, walked: it answers true for every two words and every two texts.
-/
import Derived.Test.YthfndlhjhlmcfaaMAw
namespace Go.Proofs.Ythfndlhjhlmcfaa
open Go.RowKit
attribute [local go_sem ↓] loadNat_is loadArr_is storeNat_is
attribute [local go_sem] loadNat loadArr storeNat idxArr fold9 fold18 nw_size nw_elem pre_self pre_1 pre_2 pre_3 pre_4 pre_5 pre_6 pre_7 pre_8 pre_9 pre_10 pre_11 pre_12 pre_13 pre_14 pre_15 pre_16 pre_17 pre_18 pre_19 pre_20 pre_21 pre_22 pre_23 pre_24 pre_25 pre_26 pre_27 pre_28 pre_29 pre_30 pre_31 pre_32 pre_33 pre_34 pre_35 pre_36 pre_37 pre_38 pre_39 pre_40 gro_size gro_drew gro_drewN drew_gro drewN_gro gro_gro blk_gro frz_gro blk_drew frz_drew blk_drewN frz_drewN blk_alloc_at frz_alloc_at blk_alloc frz_alloc cell_gro frozen_gro cell_alloc_pre frozen_alloc_pre setCell_drewN alloc_drewN setBlk_drew setBlk_drewN setBlk_alloc_at setBlk_alloc setBlk_gro setCell_gro setCell_alloc_pre size_setBlk size_setCell
attribute [local go_sem] nw_ext9 nw_ext18 eqArr9

theorem text_inj (s t : ByteArray) (h : s.toList = t.toList) : s = t := by
  apply ByteArray.ext
  have e : ∀ x : ByteArray, x.toList = x.data.toList := fun x => ByteArray.toList_eq x
  rw [e, e] at h
  exact Array.toList_inj.1 h
set_option maxRecDepth 100000 in
set_option maxHeartbeats 1600000 in
theorem masks_any (a b : Nat) (s t : ByteArray) (ha : a < 18446744073709551616) (hb : b < 18446744073709551616) (hs : s.size ≤ 9223372036854775807) (ht : t.size ≤ 9223372036854775807) (w : World) :
    Calls Try.prog 3 #[.int .u64 (a : Int), .int .u64 (b : Int), .string s, .string t] w fun e w' => e = .returned (.bool true) ∧ Gr w w' := by
  have CL : Hid (∀ (p q : Nat) (_ : q < 18446744073709551616) w, Calls Try.prog 11 #[.int .u64 (p : Int), .int .u64 (q : Int)] w fun e w' => e = .returned (.int .u64 ((msk (decide (p < q)) : Nat) : Int)) ∧ w' = w) := fun p q hq w => less_any p q hq w
  have CE : Hid (∀ (p q : Nat) (_ : p < 18446744073709551616) (_ : q < 18446744073709551616) w, Calls Try.prog 10 #[.int .u64 (p : Int), .int .u64 (q : Int)] w fun e w' => e = .returned (.int .u64 ((msk (decide (p = q)) : Nat) : Int)) ∧ w' = w) := fun p q hp hq w => equal_any p q hp hq w
  have CS : Hid (∀ (p q : ByteArray) (_ : p.size ≤ 9223372036854775807) (_ : q.size ≤ 9223372036854775807) w, Calls Try.prog 12 #[.string p, .string q] w fun e w' => e = .returned (.int .u64 ((msk (decide (p = q)) : Nat) : Int)) ∧ Gr w w') := fun p q hp hq w => same_any p q hp hq w
  have z1 : ((a : Int) == 0) = decide (a = 0) := by rw [Bool.eq_iff_iff]; simp
  have z2 : ((a : Int) == (b : Int)) = decide (a = b) := by rw [Bool.eq_iff_iff, beq_iff_eq, decide_eq_true_iff]; omega
  have z3 : (s.toList == t.toList) = decide (s = t) := by
    rw [Bool.eq_iff_iff, beq_iff_eq, decide_eq_true_iff]
    exact ⟨text_inj s t, fun h => by rw [h]⟩
  go_enter Try.func3, Try.ntmps3
  go_wp2_with (first
    | (go_at_call 13; refine (awake2_any _).mono ?_; rintro e w' ⟨rfl, g, rfl⟩)
    | (go_at_call 9; refine (all_any _ _).mono ?_; rintro e w' ⟨rfl, rfl⟩)
    | (go_at_call 8; refine (zero_any _ ha _).mono ?_; rintro e w' ⟨rfl, rfl⟩)
    | (go_at_call 11; refine (CL.out _ _ (by assumption) _).mono ?_; rintro e w' ⟨rfl, rfl⟩)
    | (go_at_call 10; refine (CE.out _ _ (by assumption) (by assumption) _).mono ?_; rintro e w' ⟨rfl, rfl⟩)
    | (go_at_call 12; refine (CS.out _ _ (by assumption) (by assumption) _).mono ?_; rintro e w' ⟨rfl, g, rfl⟩))
  go_ret
  exact ⟨rfl, (by repeat (first | exact Gr.refl _ | apply Gr.drewN | apply Gr.drew | apply Gr.alloc | apply Gr.gro))⟩

end Go.Proofs.Ythfndlhjhlmcfaa
