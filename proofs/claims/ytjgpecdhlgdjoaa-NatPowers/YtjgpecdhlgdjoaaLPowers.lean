/-
  The statement NatPowers, walked: it answers true for every number and every int.
-/
import Derived.Test.YtjgpecdhlgdjoaaLShifts
import Derived.Test.YtjgpecdhlgdjoaaLBack
import Derived.Test.YtjgpecdhlgdjoaaQt
namespace Go.Proofs.Ytjgpecdhlgdjoaa
open Go.RowKit
attribute [local go_sem ↓] loadNat_is loadArr_is loadWide_is loadArrW_is storeNat_is storeWide_is
attribute [local go_sem] loadNat loadArr loadWide loadArrW storeNat storeWide idxArr fold9 fold18 nw_size nw_elem pre_self pre_1 pre_2 pre_3 pre_4 pre_5 pre_6 pre_7 pre_8 pre_9 pre_10 pre_11 pre_12 pre_13 pre_14 pre_15 pre_16 pre_17 pre_18 pre_19 pre_20 pre_21 pre_22 pre_23 pre_24 pre_25 pre_26 pre_27 pre_28 pre_29 pre_30 pre_31 pre_32 pre_33 pre_34 pre_35 pre_36 pre_37 pre_38 pre_39 pre_40 gro_size gro_drew gro_drewN drew_gro drewN_gro blk_gro frz_gro blk_drew frz_drew blk_drewN frz_drewN blk_alloc_at frz_alloc_at blk_alloc frz_alloc cell_gro frozen_gro cell_alloc_pre frozen_alloc_pre setCell_drewN alloc_drewN setBlk_drew setBlk_drewN setBlk_alloc_at setBlk_alloc setBlk_gro setCell_gro setCell_alloc_pre size_setBlk size_setCell
attribute [local go_sem] nw_ext9 nw_ext18 eqArr9 eqArr18 all_grow

theorem bl_pow (i : Nat) : bl (2 ^ i) = i + 1 := bl_unique _ _ fun m => by
  constructor
  · intro h; exact (Nat.pow_lt_pow_iff_right (by decide)).2 (by omega)
  · intro h; have := (Nat.pow_lt_pow_iff_right (a := 2) (by decide)).1 h; omega
theorem bit_pow (i : Nat) : bitN (2 ^ i) i = 1 := by
  unfold bitN
  rw [Nat.div_self (Nat.two_pow_pos i)]
theorem bit_pow_next (i : Nat) : bitN (2 ^ i) (i + 1) = 0 := by
  unfold bitN
  rw [Nat.div_eq_of_lt ((Nat.pow_lt_pow_iff_right (by decide)).2 (by omega))]
theorem bl_mul (b i : Nat) (hb : b ≠ 0) : bl (b * 2 ^ i) = bl b + i := by
  have h := bl_shift (b * 2 ^ i) i (Nat.le_mul_of_pos_left _ (by omega))
  rw [Nat.mul_div_cancel _ (Nat.two_pow_pos i)] at h
  omega
theorem pow_lt_M (i : Nat) (h : i < 576) : 2 ^ i < M := by
  rw [← pow_M 0 (by omega)]
  have := (Nat.pow_lt_pow_iff_right (a := 2) (by decide)).2 h
  omega
set_option maxRecDepth 100000 in
set_option maxHeartbeats 1000000 in
theorem powers_any (a : Nat) (k : Int) (ha : a < M) (w : World) :
    Calls Try.prog 11 #[.agg (nw 9 a), .int .i64 k] w fun e w' => e = .returned (.bool true) ∧ Gr w w' := by
  obtain ⟨i, hi, i576⟩ := tmod_u64 k 576 576 (by decide) rfl
  have hpM := pow_lt_M i i576
  obtain ⟨p, hp⟩ : ∃ p, 2 ^ i = p := ⟨_, rfl⟩
  obtain ⟨b, hb⟩ : ∃ b, a % 2 ^ (576 - i) = b := ⟨_, rfl⟩
  have e3 : b * 2 ^ i < M := by rw [← hb]; exact shl_cut a i (by omega)
  obtain ⟨s, hs⟩ : ∃ s, b * 2 ^ i = s := ⟨_, rfl⟩
  have hbM : b < M := by rw [← hb]; exact Nat.lt_of_le_of_lt (Nat.mod_le _ _) ha
  have hsM : s < M := by rw [← hs]; exact e3
  have c1 := fun w => one_any 1 (by decide) w
  have c2 := fun w => shl_any 1 i (by omega) w
  have c3 := fun w => natcut_any a (576 - i) (by omega) w
  have c4 := fun w => shl_any b i (by omega) w
  have c5 := fun w => mul_any b p hbM (by rw [← hp]; exact hpM) w
  have c6 := fun w => low_any s (Nat.lt_of_lt_of_le hsM (Nat.le_mul_of_pos_left _ M_pos)) w
  have c7 := fun w => bits_any p (by rw [← hp]; exact hpM) w
  have c8 := fun w => bit_any p i i576 w
  have c10 := fun w => bits_any s hsM w
  have c11 := fun w => bits_any b hbM w
  rw [Nat.one_mul, Nat.mod_eq_of_lt hpM, hp] at c2
  rw [hb, show ((576 - i : Nat) : Int) = 576 - (i : Int) from by omega] at c3
  rw [Nat.mod_eq_of_lt e3, hs] at c4
  rw [show b * p = s from by rw [← hp, hs]] at c5
  rw [Nat.mod_eq_of_lt hsM, decide_eq_true hsM] at c6
  rw [show bl p = i + 1 from by rw [← hp, bl_pow], Int.natCast_add] at c7
  rw [show bitN p i = 1 from by rw [← hp, bit_pow]] at c8
  have c9 : ∀ w, Calls Try.prog 32 #[.agg (nw 9 p), .int .i64 ((i : Int) + 1)] w fun e w' => e = .returned (.int .i64 0) ∧ Gr w w' := fun w => by
    by_cases h : i + 1 < 576
    · have h9 := bit_any p (i + 1) h w
      rw [show bitN p (i + 1) = 0 from by rw [← hp, bit_pow_next], Int.natCast_add] at h9
      exact h9
    · exact bit_no p ((i : Int) + 1) (by omega) w
  obtain ⟨B, hB⟩ : ∃ B, bl b = B := ⟨_, rfl⟩
  rw [hB] at c11
  have hB1 := lt_M_of_bl b hbM
  rw [hB] at hB1
  have C1 : Hid (∀ w, Calls Try.prog 43 #[.int .u64 1] w fun e w' => e = .returned (.agg (nw 9 1)) ∧ Gr w w') := c1
  have C2 : Hid (∀ w, Calls Try.prog 28 #[.agg (nw 9 1), .int .i64 (i : Int)] w fun e w' => e = .returned (.tuple #[.agg (nw 9 p), .int .i64 0]) ∧ Gr w w') := c2
  have C3 : Hid (∀ w, Calls Try.prog 41 #[.agg (nw 9 a), .int .i64 (576 - (i : Int))] w fun e w' => e = .returned (.agg (nw 9 b)) ∧ Gr w w') := c3
  have C4 : Hid (∀ w, Calls Try.prog 28 #[.agg (nw 9 b), .int .i64 (i : Int)] w fun e w' => e = .returned (.tuple #[.agg (nw 9 s), .int .i64 0]) ∧ Gr w w') := c4
  have C5 : Hid (∀ w, Calls Try.prog 23 #[.agg (nw 9 b), .agg (nw 9 p)] w fun e w' => e = .returned (.agg (nw 18 s)) ∧ Gr w w') := c5
  have C6 : Hid (∀ w, Calls Try.prog 42 #[.agg (nw 18 s)] w fun e w' => e = .returned (.tuple #[.agg (nw 9 s), .bool true]) ∧ Gr w w') := c6
  have C7 : Hid (∀ w, Calls Try.prog 31 #[.agg (nw 9 p)] w fun e w' => e = .returned (.int .i64 ((i : Int) + 1)) ∧ Gr w w') := c7
  have C8 : Hid (∀ w, Calls Try.prog 32 #[.agg (nw 9 p), .int .i64 (i : Int)] w fun e w' => e = .returned (.int .i64 1) ∧ Gr w w') := c8
  have C9 : Hid (∀ w, Calls Try.prog 32 #[.agg (nw 9 p), .int .i64 ((i : Int) + 1)] w fun e w' => e = .returned (.int .i64 0) ∧ Gr w w') := c9
  have C11 : Hid (∀ w, Calls Try.prog 31 #[.agg (nw 9 b)] w fun e w' => e = .returned (.int .i64 (B : Int)) ∧ Gr w w') := c11
  have C10 : Hid (b ≠ 0 → ∀ w, Calls Try.prog 31 #[.agg (nw 9 s)] w fun e w' => e = .returned (.int .i64 ((B : Int) + (i : Int))) ∧ Gr w w') := fun h0 w => by
    have h := c10 w
    rw [← hs, bl_mul b i h0, hB, Int.natCast_add, hs] at h
    exact h
  have i0 : (0 : Int) ≤ (i : Int) := by omega
  have i1 : (i : Int) < 576 := by omega
  have b0 : (0 : Int) ≤ (B : Int) := by omega
  have b1 : (B : Int) ≤ 576 := by omega
  have q1 := eqN_self 9 s
  have hz : eqN 9 b 0 = decide (b = 0) := eqN9 b 0 hbM M_pos
  clear c1 c2 c3 c4 c5 c6 c7 c8 c9 c10 c11 e3 hsM hbM hp hb hs hB hB1 hpM ha i576
  by_cases hb0 : b = 0
  · have q2 : eqN 9 b 0 = true := by rw [hz, decide_eq_true hb0]
    clear hz hb0
    go_enter Try.func11, Try.ntmps11
    go_wp2_with (first
      | (go_at_call 27; refine (awake_any _).mono ?_; rintro e w' ⟨rfl, g, rfl⟩)
      | (go_at_call 43; refine (C1.out _).mono ?_; rintro e w' ⟨rfl, g, rfl⟩)
      | (go_at_call_of 28 (Value.agg (nw 9 1)); refine (C2.out _).mono ?_; rintro e w' ⟨rfl, g, rfl⟩)
      | (go_at_call 28; refine (C4.out _).mono ?_; rintro e w' ⟨rfl, g, rfl⟩)
      | (go_at_call 41; refine (C3.out _).mono ?_; rintro e w' ⟨rfl, g, rfl⟩)
      | (go_at_call 23; refine (C5.out _).mono ?_; rintro e w' ⟨rfl, g, rfl⟩)
      | (go_at_call 42; refine (C6.out _).mono ?_; rintro e w' ⟨rfl, g, rfl⟩))
    refine wp_region_gr (by kernel_rfl) (by kernel_rfl) ?_
    repeat (go_big_quiet_step (first
      | (go_at_call 35; exact calls_same (num_any _ _))
      | (go_at_call_of 31 (Value.agg (nw 9 p)); exact calls_gr (C7.out _))
      | (go_at_call_of 32 (Value.int .i64 (i : Int)); exact calls_gr (C8.out _))
      | (go_at_call 32; exact calls_gr (C9.out _))))
    refine wpQuiet_nil ?_
    intro w2 hw2
    obtain ⟨gq, hw3⟩ := hw2
    subst hw3
    go_wp2
    go_ret
    exact ⟨rfl, (by repeat (first | exact Gr.refl _ | apply Gr.drewN | apply Gr.drew | apply Gr.alloc | apply Gr.gro))⟩
  · have q2 : eqN 9 b 0 = false := by rw [hz, decide_eq_false hb0]
    have C12 : Hid (∀ w, Calls Try.prog 31 #[.agg (nw 9 s)] w fun e w' => e = .returned (.int .i64 ((B : Int) + (i : Int))) ∧ Gr w w') := C10.out hb0
    clear hz hb0 C10
    go_enter Try.func11, Try.ntmps11
    go_wp2_with (first
      | (go_at_call 27; refine (awake_any _).mono ?_; rintro e w' ⟨rfl, g, rfl⟩)
      | (go_at_call 43; refine (C1.out _).mono ?_; rintro e w' ⟨rfl, g, rfl⟩)
      | (go_at_call_of 28 (Value.agg (nw 9 1)); refine (C2.out _).mono ?_; rintro e w' ⟨rfl, g, rfl⟩)
      | (go_at_call 28; refine (C4.out _).mono ?_; rintro e w' ⟨rfl, g, rfl⟩)
      | (go_at_call 41; refine (C3.out _).mono ?_; rintro e w' ⟨rfl, g, rfl⟩)
      | (go_at_call 23; refine (C5.out _).mono ?_; rintro e w' ⟨rfl, g, rfl⟩)
      | (go_at_call 42; refine (C6.out _).mono ?_; rintro e w' ⟨rfl, g, rfl⟩))
    refine wp_region_gr (by kernel_rfl) (by kernel_rfl) ?_
    repeat (go_big_quiet_step (first
      | (go_at_call 35; exact calls_same (num_any _ _))
      | (go_at_call_of 31 (Value.agg (nw 9 p)); exact calls_gr (C7.out _))
      | (go_at_call_of 31 (Value.agg (nw 9 s)); exact calls_gr (C12.out _))
      | (go_at_call 31; exact calls_gr (C11.out _))
      | (go_at_call_of 32 (Value.int .i64 (i : Int)); exact calls_gr (C8.out _))
      | (go_at_call 32; exact calls_gr (C9.out _))))
    refine wpQuiet_nil ?_
    intro w2 hw2
    obtain ⟨gq, hw3⟩ := hw2
    subst hw3
    go_wp2
    go_ret
    exact ⟨rfl, (by repeat (first | exact Gr.refl _ | apply Gr.drewN | apply Gr.drew | apply Gr.alloc | apply Gr.gro))⟩

end Go.Proofs.Ytjgpecdhlgdjoaa
