/-
  The statement MaskOrder, walked: it answers true for every two words.
-/
import Derived.Test.YthfndlhjhlmcfaaMAw
namespace Go.Proofs.Ythfndlhjhlmcfaa
open Go.RowKit
attribute [local go_sem ↓] loadNat_is loadArr_is storeNat_is
attribute [local go_sem] loadNat loadArr storeNat idxArr fold9 fold18 nw_size nw_elem pre_self pre_1 pre_2 pre_3 pre_4 pre_5 pre_6 pre_7 pre_8 pre_9 pre_10 pre_11 pre_12 pre_13 pre_14 pre_15 pre_16 pre_17 pre_18 pre_19 pre_20 pre_21 pre_22 pre_23 pre_24 pre_25 pre_26 pre_27 pre_28 pre_29 pre_30 pre_31 pre_32 pre_33 pre_34 pre_35 pre_36 pre_37 pre_38 pre_39 pre_40 gro_size gro_drew gro_drewN drew_gro drewN_gro gro_gro blk_gro frz_gro blk_drew frz_drew blk_drewN frz_drewN blk_alloc_at frz_alloc_at blk_alloc frz_alloc cell_gro frozen_gro cell_alloc_pre frozen_alloc_pre setCell_drewN alloc_drewN setBlk_drew setBlk_drewN setBlk_alloc_at setBlk_alloc setBlk_gro setCell_gro setCell_alloc_pre size_setBlk size_setCell
attribute [local go_sem] nw_ext9 nw_ext18 eqArr9

theorem wrap_diff (a b : Nat) (ha : a < 18446744073709551616) (hb : b < 18446744073709551616) : ∃ d : Nat, d < 18446744073709551616 ∧ IntKind.u64.wrap ((a : Int) - (b : Int)) = (d : Int) ∧ (d = 0 ↔ a = b) :=
  ⟨(a + 18446744073709551616 - b) % 18446744073709551616, Nat.mod_lt _ (by decide), by rw [IntKind.wrap_u64]; omega, by omega⟩
theorem order_bits (a b : Nat) : ∃ x y z : Int, ((msk (decide (a < b)) : Nat) : Int) = x ∧ ((msk (decide (b < a)) : Nat) : Int) = y ∧ ((msk (decide (a = b)) : Nat) : Int) = z ∧
      bits .or .u64 (bits .or .u64 x y) z = 18446744073709551615 ∧ bits .and .u64 x y = 0 ∧ bits .and .u64 x z = 0 := by
  have o1 : bits .or .u64 18446744073709551615 0 = 18446744073709551615 := bits_or_u64_nat 18446744073709551615 0 (by decide) (by decide)
  have o2 : bits .or .u64 0 18446744073709551615 = 18446744073709551615 := bits_or_u64_nat 0 18446744073709551615 (by decide) (by decide)
  have o3 : bits .or .u64 0 0 = 0 := bits_or_u64_nat 0 0 (by decide) (by decide)
  have n1 : bits .and .u64 18446744073709551615 0 = 0 := bits_and_u64_nat 18446744073709551615 0 (by decide) (by decide)
  have n2 : bits .and .u64 0 18446744073709551615 = 0 := bits_and_u64_nat 0 18446744073709551615 (by decide) (by decide)
  have n3 : bits .and .u64 0 0 = 0 := bits_and_u64_nat 0 0 (by decide) (by decide)
  rcases Nat.lt_trichotomy a b with h | h | h
  · refine ⟨18446744073709551615, 0, 0, ?_⟩
    rw [decide_eq_true h, decide_eq_false (show ¬ b < a by omega), decide_eq_false (show ¬ a = b by omega), o1, o1, n1]
    exact ⟨rfl, rfl, rfl, rfl, rfl, rfl⟩
  · refine ⟨0, 0, 18446744073709551615, ?_⟩
    rw [decide_eq_true h, decide_eq_false (show ¬ b < a by omega), decide_eq_false (show ¬ a < b by omega), o3, o2, n3, n2]
    exact ⟨rfl, rfl, rfl, rfl, rfl, rfl⟩
  · refine ⟨0, 18446744073709551615, 0, ?_⟩
    rw [decide_eq_true h, decide_eq_false (show ¬ a < b by omega), decide_eq_false (show ¬ a = b by omega), o2, o1, n2, n3]
    exact ⟨rfl, rfl, rfl, rfl, rfl, rfl⟩
set_option maxRecDepth 100000 in
set_option maxHeartbeats 1600000 in
theorem order2_any (a b : Nat) (ha : a < 18446744073709551616) (hb : b < 18446744073709551616) (w : World) :
    Calls Try.prog 7 #[.int .u64 (a : Int), .int .u64 (b : Int)] w fun e w' => e = .returned (.bool true) ∧ Gr w w' := by
  obtain ⟨d, hd, ed, hz⟩ := wrap_diff a b ha hb
  obtain ⟨le, hle⟩ : ∃ le : Nat → Nat → Int, ∀ p q, ((msk (decide (p < q)) : Nat) : Int) = le p q := ⟨_, fun _ _ => rfl⟩
  have c3 := fun w => equal_any a b ha hb w
  have c4 := fun w => zero_any d hd w
  rw [show decide (d = 0) = decide (a = b) from by rw [decide_eq_decide]; exact hz] at c4
  obtain ⟨x, y, z, e1, e2, e3, g1, g2, g3⟩ := order_bits a b
  rw [hle] at e1 e2
  subst e1 e2
  rw [e3] at c3 c4
  have C1 : Hid (∀ (p q : Nat) (_ : q < 18446744073709551616) w, Calls Try.prog 11 #[.int .u64 (p : Int), .int .u64 (q : Int)] w fun e w' => e = .returned (.int .u64 (le p q)) ∧ w' = w) := fun p q hq w => hle p q ▸ less_any p q hq w
  have C3 : Hid (∀ w, Calls Try.prog 10 #[.int .u64 (a : Int), .int .u64 (b : Int)] w fun e w' => e = .returned (.int .u64 z) ∧ w' = w) := c3
  have C4 : Hid (∀ w, Calls Try.prog 8 #[.int .u64 (d : Int)] w fun e w' => e = .returned (.int .u64 z) ∧ w' = w) := c4
  clear c3 c4 e3 hz hd hle
  go_enter Try.func7, Try.ntmps7
  go_wp2_with (first
    | (go_at_call 13; refine (awake2_any _).mono ?_; rintro e w' ⟨rfl, g, rfl⟩)
    | (go_at_call 11; refine (C1.out _ _ (by assumption) _).mono ?_; rintro e w' ⟨rfl, rfl⟩)
    | (go_at_call 10; refine (C3.out _).mono ?_; rintro e w' ⟨rfl, rfl⟩)
    | (go_at_call 8; refine (C4.out _).mono ?_; rintro e w' ⟨rfl, rfl⟩))
  go_ret
  exact ⟨rfl, (by repeat (first | exact Gr.refl _ | apply Gr.drewN | apply Gr.drew | apply Gr.alloc | apply Gr.gro))⟩

end Go.Proofs.Ythfndlhjhlmcfaa
