/-
  The statement MaskTwice, walked: it answers true for every word and every two numbers.
-/
import Derived.Test.YthfndlhjhlmcfaaMAw
import Derived.Test.YthfndlhjhlmcfaaQt
namespace Go.Proofs.Ythfndlhjhlmcfaa
open Go.RowKit
attribute [local go_sem ↓] loadNat_is loadArr_is storeNat_is
attribute [local go_sem] loadNat loadArr storeNat idxArr fold9 fold18 nw_size nw_elem pre_self pre_1 pre_2 pre_3 pre_4 pre_5 pre_6 pre_7 pre_8 pre_9 pre_10 pre_11 pre_12 pre_13 pre_14 pre_15 pre_16 pre_17 pre_18 pre_19 pre_20 pre_21 pre_22 pre_23 pre_24 pre_25 pre_26 pre_27 pre_28 pre_29 pre_30 pre_31 pre_32 pre_33 pre_34 pre_35 pre_36 pre_37 pre_38 pre_39 pre_40 gro_size gro_drew gro_drewN drew_gro drewN_gro blk_gro frz_gro blk_drew frz_drew blk_drewN frz_drewN blk_alloc_at frz_alloc_at blk_alloc frz_alloc cell_gro frozen_gro cell_alloc_pre frozen_alloc_pre setCell_drewN alloc_drewN setBlk_drew setBlk_drewN setBlk_alloc_at setBlk_alloc setBlk_gro setCell_gro setCell_alloc_pre size_setBlk size_setCell
attribute [local go_sem] nw_ext9 nw_ext18 eqArr9 all_grow

theorem u64_unsigned : IntKind.u64.signed = false := rfl
attribute [local go_sem] u64_unsigned
set_option maxRecDepth 100000 in
set_option maxHeartbeats 1600000 in
theorem twice_any (m a b : Nat) (hm : m < 18446744073709551616) (ha : a < M) (hb : b < M) (w : World) :
    Calls Try.prog 6 #[.int .u64 (m : Int), .agg (nw 9 a), .agg (nw 9 b)] w fun e w' => e = .returned (.bool true) ∧ Gr w w' := by
  have c1 := fun w => swap_any m a b hm w
  have c2 := fun w => swap_any m (selN m b a) (selN m a b) hm w
  rw [selN_twice m a b ha hb, selN_twice m b a hb ha] at c2
  have c3 := fun w => select_any m a a hm w
  rw [selN_self m a ha] at c3
  have c4 := fun w => select_any m a b hm w
  have c5 := fun w => select_any (not64 m) b a (not64_lt m) w
  rw [selN_not m a b hm] at c5
  obtain ⟨X, hX⟩ : ∃ X, selN m a b = X := ⟨_, rfl⟩
  obtain ⟨Y, hY⟩ : ∃ Y, selN m b a = Y := ⟨_, rfl⟩
  rw [hX] at c1 c2 c4 c5
  rw [hY] at c1 c2
  rw [← not_u64 m hm] at c5
  have C1 : Hid (∀ w, Calls Try.prog 14 #[.int .u64 (m : Int), .agg (nw 9 a), .agg (nw 9 b)] w fun e w' => e = .returned (.tuple #[.agg (nw 9 Y), .agg (nw 9 X)]) ∧ Gr w w') := c1
  have C2 : Hid (∀ w, Calls Try.prog 14 #[.int .u64 (m : Int), .agg (nw 9 Y), .agg (nw 9 X)] w fun e w' => e = .returned (.tuple #[.agg (nw 9 a), .agg (nw 9 b)]) ∧ Gr w w') := c2
  have C3 : Hid (∀ w, Calls Try.prog 15 #[.int .u64 (m : Int), .agg (nw 9 a), .agg (nw 9 a)] w fun e w' => e = .returned (.agg (nw 9 a)) ∧ Gr w w') := c3
  have C4 : Hid (∀ w, Calls Try.prog 15 #[.int .u64 (m : Int), .agg (nw 9 a), .agg (nw 9 b)] w fun e w' => e = .returned (.agg (nw 9 X)) ∧ Gr w w') := c4
  have C5 : Hid (∀ w, Calls Try.prog 15 #[.int .u64 (bits .xor .u64 IntKind.u64.max (m : Int)), .agg (nw 9 b), .agg (nw 9 a)] w fun e w' => e = .returned (.agg (nw 9 X)) ∧ Gr w w') := c5
  have q1 := eqN_self 9 a
  have q2 := eqN_self 9 b
  have q3 := eqN_self 9 X
  clear c1 c2 c3 c4 c5 hX hY hm ha hb
  go_enter Try.func6, Try.ntmps6
  go_wp2_with (first
    | (go_at_call 13; refine (awake2_any _).mono ?_; rintro e w' ⟨rfl, g, rfl⟩)
    | (go_at_call_of 14 (#[Value.int .u64 (m : Int), Value.agg (nw 9 a), Value.agg (nw 9 b)] : Array Value); refine (C1.out _).mono ?_; rintro e w' ⟨rfl, g, rfl⟩)
    | (go_at_call 14; refine (C2.out _).mono ?_; rintro e w' ⟨rfl, g, rfl⟩))
  refine wp_region_gr (by kernel_rfl) (by kernel_rfl) ?_
  repeat (go_big_quiet_step (first
    | (go_at_call 16; exact calls_same (num_any _ _))
    | (go_at_call_of 15 (#[Value.int .u64 (m : Int), Value.agg (nw 9 a), Value.agg (nw 9 a)] : Array Value); exact calls_gr (C3.out _))
    | (go_at_call_of 15 (#[Value.int .u64 (m : Int), Value.agg (nw 9 a), Value.agg (nw 9 b)] : Array Value); exact calls_gr (C4.out _))
    | (go_at_call_of 15 (#[Value.int .u64 (bits .xor .u64 IntKind.u64.max (m : Int)), Value.agg (nw 9 b), Value.agg (nw 9 a)] : Array Value); exact calls_gr (C5.out _))))
  refine wpQuiet_nil ?_
  intro w2 hw2
  obtain ⟨gq, hw3⟩ := hw2
  subst hw3
  go_wp2
  go_ret
  exact ⟨rfl, (by repeat (first | exact Gr.refl _ | apply Gr.drewN | apply Gr.drew | apply Gr.alloc | apply Gr.gro))⟩
end Go.Proofs.Ythfndlhjhlmcfaa
