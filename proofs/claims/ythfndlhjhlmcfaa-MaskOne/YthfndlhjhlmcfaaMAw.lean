/-
  The statements' own awake (layer 2): it answers true.
-/
import Derived.Test.YthfndlhjhlmcfaaMS
import Derived.Test.YthfndlhjhlmcfaaMSame
import Derived.Test.YthfndlhjhlmcfaaEq
namespace Go.Proofs.Ythfndlhjhlmcfaa
open Go.RowKit
attribute [local go_sem ↓] loadNat_is loadArr_is storeNat_is
attribute [local go_sem] loadNat loadArr storeNat idxArr fold9 fold18 nw_size nw_elem pre_self pre_1 pre_2 pre_3 pre_4 pre_5 pre_6 pre_7 pre_8 pre_9 pre_10 pre_11 pre_12 pre_13 pre_14 pre_15 pre_16 pre_17 pre_18 pre_19 pre_20 pre_21 pre_22 pre_23 pre_24 pre_25 pre_26 pre_27 pre_28 pre_29 pre_30 pre_31 pre_32 pre_33 pre_34 pre_35 pre_36 pre_37 pre_38 pre_39 pre_40 gro_size gro_drew gro_drewN drew_gro drewN_gro gro_gro blk_gro frz_gro blk_drew frz_drew blk_drewN frz_drewN blk_alloc_at frz_alloc_at blk_alloc frz_alloc cell_gro frozen_gro cell_alloc_pre frozen_alloc_pre setCell_drewN alloc_drewN setBlk_drew setBlk_drewN setBlk_alloc_at setBlk_alloc setBlk_gro setCell_gro setCell_alloc_pre size_setBlk size_setCell
attribute [local go_sem] nw_ext9 nw_ext18 eqArr9

theorem sel_max (x y : Nat) (hx : x < 18446744073709551616) (hy : y < 18446744073709551616) : sel 18446744073709551615 x y = x := by
  have h := sel_not 0 y x (by decide) hy hx
  have e : sel 0 y x = x := by
    apply Nat.eq_of_testBit_eq; intro i; rw [sel_testBit, Nat.zero_testBit]; rfl
  rw [e] at h
  exact h
theorem selN_max (a b : Nat) (ha : a < M) : selN 18446744073709551615 a b = a := ofw_of _ a ha fun i => sel_max _ _ (wd_lt a i) (wd_lt b i)
theorem aw_select (w : World) : Calls Try.prog 15 #[.int .u64 18446744073709551615, .agg (nw 9 4), .agg (nw 9 5)] w fun e w' => e = .returned (.agg (nw 9 4)) ∧ Gr w w' := by
  have h := select_any 18446744073709551615 4 5 (by decide) w
  rw [selN_max 4 5 (lt_M _ (by decide))] at h
  exact h
theorem aw_zero0 (w : World) : Calls Try.prog 8 #[.int .u64 0] w fun e w' => e = .returned (.int .u64 18446744073709551615) ∧ w' = w := zero_any 0 (by decide) w
theorem aw_zero5 (w : World) : Calls Try.prog 8 #[.int .u64 5] w fun e w' => e = .returned (.int .u64 0) ∧ w' = w := zero_any 5 (by decide) w
theorem aw_equal (w : World) : Calls Try.prog 10 #[.int .u64 3, .int .u64 3] w fun e w' => e = .returned (.int .u64 18446744073709551615) ∧ w' = w := equal_any 3 3 (by decide) (by decide) w
theorem aw_less2 (w : World) : Calls Try.prog 11 #[.int .u64 2, .int .u64 3] w fun e w' => e = .returned (.int .u64 18446744073709551615) ∧ w' = w := less_any 2 3 (by decide) w
theorem aw_less3 (w : World) : Calls Try.prog 11 #[.int .u64 3, .int .u64 3] w fun e w' => e = .returned (.int .u64 0) ∧ w' = w := less_any 3 3 (by decide) w
theorem aw_same (w : World) : Calls Try.prog 12 #[.string ⟨#[97]⟩, .string ⟨#[97]⟩] w fun e w' => e = .returned (.int .u64 18446744073709551615) ∧ Gr w w' := by
  have h := same_any ⟨#[97]⟩ ⟨#[97]⟩ (by decide) (by decide) w
  rw [decide_eq_true rfl] at h
  exact h
theorem aw_one (x : Nat) (hx : x < 18446744073709551616) (w : World) : Calls Try.prog 19 #[.int .u64 (x : Int)] w fun e w' => e = .returned (.agg (nw 9 x)) ∧ Gr w w' := one_any x hx w
set_option maxRecDepth 100000 in
set_option maxHeartbeats 1600000 in
theorem awake2_any (w : World) : Calls Try.prog 13 #[] w fun e w' => e = .returned (.bool true) ∧ Gr w w' := by
  have q := eqN_self 9 4
  go_enter Try.func13, Try.ntmps13
  go_wp2_with (first
    | (go_at_call_of 8 (Value.int .u64 0); refine (aw_zero0 _).mono ?_; rintro e w' ⟨rfl, rfl⟩)
    | (go_at_call 8; refine (aw_zero5 _).mono ?_; rintro e w' ⟨rfl, rfl⟩)
    | (go_at_call 10; refine (aw_equal _).mono ?_; rintro e w' ⟨rfl, rfl⟩)
    | (go_at_call_of 11 (Value.int .u64 2); refine (aw_less2 _).mono ?_; rintro e w' ⟨rfl, rfl⟩)
    | (go_at_call 11; refine (aw_less3 _).mono ?_; rintro e w' ⟨rfl, rfl⟩)
    | (go_at_call 12; refine (aw_same _).mono ?_; rintro e w' ⟨rfl, g, rfl⟩)
    | (go_at_call_of 19 (Value.int .u64 4); refine (aw_one 4 (by decide) _).mono ?_; rintro e w' ⟨rfl, g, rfl⟩)
    | (go_at_call_of 19 (Value.int .u64 5); refine (aw_one 5 (by decide) _).mono ?_; rintro e w' ⟨rfl, g, rfl⟩)
    | (go_at_call 15; refine (aw_select _).mono ?_; rintro e w' ⟨rfl, g, rfl⟩)
    | (go_at_call 16; refine (num_any _ _).mono ?_; rintro e w' ⟨rfl, rfl⟩))
  go_ret
  exact ⟨rfl, (by repeat (first | exact Gr.refl _ | apply Gr.drewN | apply Gr.drew | apply Gr.alloc | apply Gr.gro))⟩

end Go.Proofs.Ythfndlhjhlmcfaa
