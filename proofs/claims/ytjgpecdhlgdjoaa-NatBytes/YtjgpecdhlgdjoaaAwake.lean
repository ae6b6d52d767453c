/-
  The statements' own awake: it answers true.
-/
import Derived.Test.YtjgpecdhlgdjoaaAdd
import Derived.Test.YtjgpecdhlgdjoaaMul
import Derived.Test.YtjgpecdhlgdjoaaSmA
import Derived.Test.YtjgpecdhlgdjoaaSmB
import Derived.Test.YtjgpecdhlgdjoaaSmC
import Derived.Test.YtjgpecdhlgdjoaaShl
import Derived.Test.YtjgpecdhlgdjoaaOf
import Derived.Test.YtjgpecdhlgdjoaaByt
namespace Go.Proofs.Ytjgpecdhlgdjoaa
open Go.RowKit
attribute [local go_sem ↓] loadNat_is loadArr_is loadWide_is loadArrW_is storeNat_is storeWide_is
attribute [local go_sem] loadNat loadArr loadWide loadArrW storeNat storeWide idxArr fold9 fold18 nw_size nw_elem pre_self pre_1 pre_2 pre_3 pre_4 pre_5 pre_6 pre_7 pre_8 pre_9 pre_10 pre_11 pre_12 pre_13 pre_14 pre_15 pre_16 pre_17 pre_18 pre_19 pre_20 pre_21 pre_22 pre_23 pre_24 pre_25 pre_26 pre_27 pre_28 pre_29 pre_30 pre_31 pre_32 pre_33 pre_34 pre_35 pre_36 pre_37 pre_38 pre_39 pre_40 gro_size gro_drew gro_drewN drew_gro drewN_gro gro_gro blk_gro frz_gro blk_drew frz_drew blk_drewN frz_drewN blk_alloc_at frz_alloc_at blk_alloc frz_alloc cell_gro frozen_gro cell_alloc_pre frozen_alloc_pre setCell_drewN alloc_drewN setBlk_drew setBlk_drewN setBlk_alloc_at setBlk_alloc setBlk_gro setCell_gro setCell_alloc_pre size_setBlk size_setCell
theorem aw_add (w : World) : Calls Try.prog 15 #[.agg (nw 9 3), .agg (nw 9 4)] w fun e w' => e = .returned (.tuple #[.agg (nw 9 7), .bool false]) ∧ Gr w w' := by
  have h := add_any 3 4 (lt_M _ (by decide)) (lt_M _ (by decide)) w
  have h7 := lt_M (3 + 4) (by decide)
  have e1 : (3 + 4) % M = 3 + 4 := Nat.mod_eq_of_lt h7
  have e2 : decide (M ≤ 3 + 4) = false := decide_eq_false (Nat.not_le.2 h7)
  rw [e1, e2] at h
  exact h
theorem aw_sub (w : World) : Calls Try.prog 16 #[.agg (nw 9 3), .agg (nw 9 4)] w fun e w' => e = .returned (.tuple #[.agg (nw 9 ((3 + M - 4) % M)), .bool true]) ∧ Gr w w' :=
  sub_any 3 4 (lt_M _ (by decide)) (lt_M _ (by decide)) w
theorem aw_of (w : World) : Calls Try.prog 37 #[.string ⟨#[1, 0]⟩] w fun e w' => e = .returned (.tuple #[.agg (nw 9 256), .int .i64 0]) ∧ Gr w w' :=
  of_any ⟨#[1, 0]⟩ (by decide) w
theorem bl258 : bl 258 = 9 := bl_unique _ _ fun m => by
  constructor
  · intro h; exact Nat.lt_of_lt_of_le (show 258 < 2 ^ 9 by decide) (Nat.pow_le_pow_right (by decide) h)
  · intro h
    by_cases hm : 9 ≤ m
    · exact hm
    · have := Nat.pow_le_pow_right (n := 2) (by decide) (show m ≤ 8 by omega)
      omega
theorem bl8 : bl 8 = 4 := bl_unique _ _ fun m => by
  constructor
  · intro h; exact Nat.lt_of_lt_of_le (show 8 < 2 ^ 4 by decide) (Nat.pow_le_pow_right (by decide) h)
  · intro h
    by_cases hm : 4 ≤ m
    · exact hm
    · have := Nat.pow_le_pow_right (n := 2) (by decide) (show m ≤ 3 by omega)
      omega
theorem aw_bytes3 (w : World) : Calls Try.prog 38 #[.agg (nw 9 258), .int .i64 3] w fun e w' => e = .returned (.tuple #[.string ⟨#[0, 1, 2]⟩, .int .i64 0]) ∧ Gr w w' := by
  have h := bytes_any 258 3 (lt_M _ (by decide)) (by decide) (by rw [bl258]; decide) w
  rw [show bs 3 258 = [0, 1, 2] from by decide] at h
  exact h
theorem aw_bytes1 (w : World) : Calls Try.prog 38 #[.agg (nw 9 258), .int .i64 1] w fun e w' => e = .returned (.tuple #[.string ⟨#[]⟩, .int .i64 101]) ∧ Gr w w' :=
  bytes_no 258 1 (lt_M _ (by decide)) (by rw [bl258]; decide) w
theorem aw_shl (w : World) : Calls Try.prog 28 #[.agg (nw 9 7), .int .i64 577] w fun e w' => e = .returned (.tuple #[.agg (nw 9 0), .int .i64 102]) ∧ Gr w w' :=
  shl_no 7 577 (by decide) w
theorem aw_bits (w : World) : Calls Try.prog 31 #[.agg (nw 9 8)] w fun e w' => e = .returned (.int .i64 4) ∧ Gr w w' := by
  have h := bits_any 8 (lt_M _ (by decide)) w
  rw [bl8] at h
  exact h
theorem aw_mul : ∃ V : Nat, wd V 1 = 65536 ∧ ∀ w, Calls Try.prog 23 #[.agg (nw 9 1099511627776), .agg (nw 9 1099511627776)] w fun e w' => e = .returned (.agg (nw 18 V)) ∧ Gr w w' :=
  ⟨1099511627776 * 1099511627776, by unfold wd; rw [pw_one], fun w => mul_any _ _ (lt_M _ (by decide)) (lt_M _ (by decide)) w⟩

set_option maxRecDepth 100000 in
set_option maxHeartbeats 1600000 in
theorem awake_any (w : World) : Calls Try.prog 27 #[] w fun e w' => e = .returned (.bool true) ∧ Gr w w' := by
  obtain ⟨V, hV, cm⟩ := aw_mul
  have CM : Hid (∀ w, Calls Try.prog 23 #[.agg (nw 9 1099511627776), .agg (nw 9 1099511627776)] w fun e w' => e = .returned (.agg (nw 18 V)) ∧ Gr w w') := cm
  obtain ⟨X, hX⟩ : ∃ X, (3 + M - 4) % M = X := ⟨_, rfl⟩
  have cs := fun w => aw_sub w
  rw [hX] at cs
  have CS : Hid (∀ w, Calls Try.prog 16 #[.agg (nw 9 3), .agg (nw 9 4)] w fun e w' => e = .returned (.tuple #[.agg (nw 9 X), .bool true]) ∧ Gr w w') := cs
  clear cm cs hX
  have w7 := wd_small 7 (by decide)
  have w256 := wd_small 256 (by decide)
  go_enter Try.func27, Try.ntmps27
  go_wp2_with (first
    | (go_at_call 33; refine (small_any _ (by decide) _).mono ?_; rintro e w' ⟨rfl, g, rfl⟩)
    | (go_at_call 15; refine (aw_add _).mono ?_; rintro e w' ⟨rfl, g, rfl⟩)
    | (go_at_call 16; refine (CS.out _).mono ?_; rintro e w' ⟨rfl, g, rfl⟩)
    | (go_at_call 23; refine (CM.out _).mono ?_; rintro e w' ⟨rfl, g, rfl⟩)
    | (go_at_call 37; refine (aw_of _).mono ?_; rintro e w' ⟨rfl, g, rfl⟩)
    | (go_at_call_of 38 (Value.int .i64 3); refine (aw_bytes3 _).mono ?_; rintro e w' ⟨rfl, g, rfl⟩)
    | (go_at_call 38; refine (aw_bytes1 _).mono ?_; rintro e w' ⟨rfl, g, rfl⟩)
    | (go_at_call 28; refine (aw_shl _).mono ?_; rintro e w' ⟨rfl, g, rfl⟩)
    | (go_at_call 31; refine (aw_bits _).mono ?_; rintro e w' ⟨rfl, g, rfl⟩)
    | (go_at_call 35; refine (num_any _ _).mono ?_; rintro e w' ⟨rfl, rfl⟩))
  go_ret
  exact ⟨rfl, (by repeat (first | exact Gr.refl _ | apply Gr.drewN | apply Gr.drew | apply Gr.alloc | apply Gr.gro))⟩

end Go.Proofs.Ytjgpecdhlgdjoaa
