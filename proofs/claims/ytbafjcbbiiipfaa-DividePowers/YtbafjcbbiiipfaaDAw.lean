/-
  The statements' own awake of layer 4: it answers true.
-/
import Derived.Test.YtbafjcbbiiipfaaDI
import Derived.Test.YtbafjcbbiiipfaaSmA
import Derived.Test.YtbafjcbbiiipfaaEq
import Derived.Test.YtbafjcbbiiipfaaMixP
import Derived.Test.YtbafjcbbiiipfaaQt
namespace Go.Proofs.Ytbafjcbbiiipfaa
open Go.RowKit
attribute [local go_sem ↓] loadNat_is loadArr_is loadWide_is loadArrW_is storeNat_is storeWide_is
attribute [local go_sem] loadNat loadArr loadWide loadArrW storeNat storeWide idxArr fold9 fold18 nw_size nw_elem pre_self pre_1 pre_2 pre_3 pre_4 pre_5 pre_6 pre_7 pre_8 pre_9 pre_10 pre_11 pre_12 pre_13 pre_14 pre_15 pre_16 pre_17 pre_18 pre_19 pre_20 pre_21 pre_22 pre_23 pre_24 pre_25 pre_26 pre_27 pre_28 pre_29 pre_30 pre_31 pre_32 pre_33 pre_34 pre_35 pre_36 pre_37 pre_38 pre_39 pre_40 gro_size gro_drew gro_drewN drew_gro drewN_gro blk_gro frz_gro blk_drew frz_drew blk_drewN frz_drewN blk_alloc_at frz_alloc_at blk_alloc frz_alloc cell_gro frozen_gro cell_alloc_pre frozen_alloc_pre setCell_drewN alloc_drewN setBlk_drew setBlk_drewN setBlk_alloc_at setBlk_alloc setBlk_gro setCell_gro setCell_alloc_pre size_setBlk size_setCell
attribute [local go_sem] nw_ext9 nw_ext18 eqArr9 eqArr18 all_grow

attribute [local go_sem] eqN_self
theorem aw4_div (w : World) : Calls Try.prog 12 #[.agg (nw 9 17), .agg (nw 9 5)] w fun e w' => e = .returned (.tuple #[.agg (nw 9 3), .agg (nw 9 2), .int .i64 0]) ∧ Gr w w' :=
  div_any 17 5 (lt_M _ (by decide)) (by decide) (lt_M _ (by decide)) w
theorem aw4_inv (w : World) : Calls Try.prog 24 #[.agg (nw 9 3), .agg (nw 9 7)] w fun e w' => e = .returned (.tuple #[.agg (nw 9 5), .int .i64 0]) ∧ Gr w w' := by
  obtain ⟨x, h1, h2, h3⟩ := inv_some 3 7 (lt_M _ (by decide)) (by decide) (lt_M _ (by decide)) (by decide)
  obtain rfl : x = 5 := by omega
  exact h3 w
theorem aw4_no (w : World) : Calls Try.prog 24 #[.agg (nw 9 3), .agg (nw 9 9)] w fun e w' => e = .returned (.tuple #[.agg (nw 9 0), .int .i64 401]) ∧ Gr w w' :=
  inv_none 3 9 (lt_M _ (by decide)) (by decide) (lt_M _ (by decide)) (by decide) w
theorem aw4_pow (w : World) : Calls Try.prog 23 #[.agg (nw 9 3), .agg (nw 9 4), .agg (nw 9 7)] w fun e w' => e = .returned (.tuple #[.agg (nw 9 4), .int .i64 0]) ∧ Gr w w' :=
  pow_any 3 4 7 (lt_M _ (by decide)) (lt_M _ (by decide)) (by decide) (lt_M _ (by decide)) w
theorem num_gr (x : Int) (w : World) : Calls Try.prog 16 #[.int .i64 x] w fun e w' => e = .returned (.int .i64 x) ∧ Gr w w' :=
  (num_any x w).mono fun _ _ ⟨he, hw⟩ => ⟨he, hw ▸ Gr.refl _⟩
set_option maxRecDepth 100000 in
set_option maxHeartbeats 1600000 in
theorem awake4_any (w : World) : Calls Try.prog 17 #[] w fun e w' => e = .returned (.bool true) ∧ Gr w w' := by
  have O17 : Hid (∀ w, Calls Try.prog 30 #[.int .u64 17] w fun e w' => e = .returned (.agg (nw 9 17)) ∧ Gr w w') := fun w => one_any 17 (by decide) w
  have O5 : Hid (∀ w, Calls Try.prog 30 #[.int .u64 5] w fun e w' => e = .returned (.agg (nw 9 5)) ∧ Gr w w') := fun w => one_any 5 (by decide) w
  have O0 : Hid (∀ w, Calls Try.prog 30 #[.int .u64 0] w fun e w' => e = .returned (.agg (nw 9 0)) ∧ Gr w w') := fun w => one_any 0 (by decide) w
  have O3 : Hid (∀ w, Calls Try.prog 30 #[.int .u64 3] w fun e w' => e = .returned (.agg (nw 9 3)) ∧ Gr w w') := fun w => one_any 3 (by decide) w
  have O7 : Hid (∀ w, Calls Try.prog 30 #[.int .u64 7] w fun e w' => e = .returned (.agg (nw 9 7)) ∧ Gr w w') := fun w => one_any 7 (by decide) w
  have O9 : Hid (∀ w, Calls Try.prog 30 #[.int .u64 9] w fun e w' => e = .returned (.agg (nw 9 9)) ∧ Gr w w') := fun w => one_any 9 (by decide) w
  have O4 : Hid (∀ w, Calls Try.prog 30 #[.int .u64 4] w fun e w' => e = .returned (.agg (nw 9 4)) ∧ Gr w w') := fun w => one_any 4 (by decide) w
  have O2 : Hid (∀ w, Calls Try.prog 30 #[.int .u64 2] w fun e w' => e = .returned (.agg (nw 9 2)) ∧ Gr w w') := fun w => one_any 2 (by decide) w
  go_enter Try.func17, Try.ntmps17
  go_upto_region 2 with (first
    | (go_at_call_of 30 (Value.int .u64 17); refine (O17.out _).mono ?_; rintro e w' ⟨rfl, g17a, rfl⟩)
    | (go_at_call_of 30 (Value.int .u64 5); refine (O5.out _).mono ?_; rintro e w' ⟨rfl, g5a, rfl⟩)
    | (go_at_call_of 30 (Value.int .u64 0); refine (O0.out _).mono ?_; rintro e w' ⟨rfl, g0a, rfl⟩)
    | (go_at_call_of 30 (Value.int .u64 3); refine (O3.out _).mono ?_; rintro e w' ⟨rfl, g3a, rfl⟩)
    | (go_at_call_of 30 (Value.int .u64 7); refine (O7.out _).mono ?_; rintro e w' ⟨rfl, g7a, rfl⟩)
    | (go_at_call_of 30 (Value.int .u64 9); refine (O9.out _).mono ?_; rintro e w' ⟨rfl, g9a, rfl⟩)
    | (go_at_call_of 30 (Value.int .u64 4); refine (O4.out _).mono ?_; rintro e w' ⟨rfl, g4a, rfl⟩)
    | (go_at_call_of 12 (Value.agg (nw 9 5)); refine (aw4_div _).mono ?_; rintro e w' ⟨rfl, gda, rfl⟩)
    | (go_at_call 12; refine (div_zero _ _).mono ?_; rintro e w' ⟨rfl, gda, rfl⟩)
    | (go_at_call_of 24 (Value.agg (nw 9 7)); refine (aw4_inv _).mono ?_; rintro e w' ⟨rfl, gda, rfl⟩)
    | (go_at_call 24; refine (aw4_no _).mono ?_; rintro e w' ⟨rfl, gda, rfl⟩)
    | (go_at_call 23; refine (aw4_pow _).mono ?_; rintro e w' ⟨rfl, gda, rfl⟩))
  go_upto_region 3 with (first
    | (go_at_call_of 30 (Value.int .u64 17); refine (O17.out _).mono ?_; rintro e w' ⟨rfl, g17b, rfl⟩)
    | (go_at_call_of 30 (Value.int .u64 5); refine (O5.out _).mono ?_; rintro e w' ⟨rfl, g5b, rfl⟩)
    | (go_at_call_of 30 (Value.int .u64 0); refine (O0.out _).mono ?_; rintro e w' ⟨rfl, g0b, rfl⟩)
    | (go_at_call_of 30 (Value.int .u64 3); refine (O3.out _).mono ?_; rintro e w' ⟨rfl, g3b, rfl⟩)
    | (go_at_call_of 30 (Value.int .u64 7); refine (O7.out _).mono ?_; rintro e w' ⟨rfl, g7b, rfl⟩)
    | (go_at_call_of 30 (Value.int .u64 9); refine (O9.out _).mono ?_; rintro e w' ⟨rfl, g9b, rfl⟩)
    | (go_at_call_of 30 (Value.int .u64 4); refine (O4.out _).mono ?_; rintro e w' ⟨rfl, g4b, rfl⟩)
    | (go_at_call_of 12 (Value.agg (nw 9 5)); refine (aw4_div _).mono ?_; rintro e w' ⟨rfl, gdb, rfl⟩)
    | (go_at_call 12; refine (div_zero _ _).mono ?_; rintro e w' ⟨rfl, gdb, rfl⟩)
    | (go_at_call_of 24 (Value.agg (nw 9 7)); refine (aw4_inv _).mono ?_; rintro e w' ⟨rfl, gdb, rfl⟩)
    | (go_at_call 24; refine (aw4_no _).mono ?_; rintro e w' ⟨rfl, gdb, rfl⟩)
    | (go_at_call 23; refine (aw4_pow _).mono ?_; rintro e w' ⟨rfl, gdb, rfl⟩))
  go_upto_region 4 with (first
    | (go_at_call_of 30 (Value.int .u64 17); refine (O17.out _).mono ?_; rintro e w' ⟨rfl, g17c, rfl⟩)
    | (go_at_call_of 30 (Value.int .u64 5); refine (O5.out _).mono ?_; rintro e w' ⟨rfl, g5c, rfl⟩)
    | (go_at_call_of 30 (Value.int .u64 0); refine (O0.out _).mono ?_; rintro e w' ⟨rfl, g0c, rfl⟩)
    | (go_at_call_of 30 (Value.int .u64 3); refine (O3.out _).mono ?_; rintro e w' ⟨rfl, g3c, rfl⟩)
    | (go_at_call_of 30 (Value.int .u64 7); refine (O7.out _).mono ?_; rintro e w' ⟨rfl, g7c, rfl⟩)
    | (go_at_call_of 30 (Value.int .u64 9); refine (O9.out _).mono ?_; rintro e w' ⟨rfl, g9c, rfl⟩)
    | (go_at_call_of 30 (Value.int .u64 4); refine (O4.out _).mono ?_; rintro e w' ⟨rfl, g4c, rfl⟩)
    | (go_at_call_of 12 (Value.agg (nw 9 5)); refine (aw4_div _).mono ?_; rintro e w' ⟨rfl, gdc, rfl⟩)
    | (go_at_call 12; refine (div_zero _ _).mono ?_; rintro e w' ⟨rfl, gdc, rfl⟩)
    | (go_at_call_of 24 (Value.agg (nw 9 7)); refine (aw4_inv _).mono ?_; rintro e w' ⟨rfl, gdc, rfl⟩)
    | (go_at_call 24; refine (aw4_no _).mono ?_; rintro e w' ⟨rfl, gdc, rfl⟩)
    | (go_at_call 23; refine (aw4_pow _).mono ?_; rintro e w' ⟨rfl, gdc, rfl⟩))
  go_upto_region 5 with (first
    | (go_at_call_of 30 (Value.int .u64 17); refine (O17.out _).mono ?_; rintro e w' ⟨rfl, g17d, rfl⟩)
    | (go_at_call_of 30 (Value.int .u64 5); refine (O5.out _).mono ?_; rintro e w' ⟨rfl, g5d, rfl⟩)
    | (go_at_call_of 30 (Value.int .u64 0); refine (O0.out _).mono ?_; rintro e w' ⟨rfl, g0d, rfl⟩)
    | (go_at_call_of 30 (Value.int .u64 3); refine (O3.out _).mono ?_; rintro e w' ⟨rfl, g3d, rfl⟩)
    | (go_at_call_of 30 (Value.int .u64 7); refine (O7.out _).mono ?_; rintro e w' ⟨rfl, g7d, rfl⟩)
    | (go_at_call_of 30 (Value.int .u64 9); refine (O9.out _).mono ?_; rintro e w' ⟨rfl, g9d, rfl⟩)
    | (go_at_call_of 30 (Value.int .u64 4); refine (O4.out _).mono ?_; rintro e w' ⟨rfl, g4d, rfl⟩)
    | (go_at_call_of 12 (Value.agg (nw 9 5)); refine (aw4_div _).mono ?_; rintro e w' ⟨rfl, gdd, rfl⟩)
    | (go_at_call 12; refine (div_zero _ _).mono ?_; rintro e w' ⟨rfl, gdd, rfl⟩)
    | (go_at_call_of 24 (Value.agg (nw 9 7)); refine (aw4_inv _).mono ?_; rintro e w' ⟨rfl, gdd, rfl⟩)
    | (go_at_call 24; refine (aw4_no _).mono ?_; rintro e w' ⟨rfl, gdd, rfl⟩)
    | (go_at_call 23; refine (aw4_pow _).mono ?_; rintro e w' ⟨rfl, gdd, rfl⟩))
  go_upto_region 6 with (first
    | (go_at_call_of 30 (Value.int .u64 17); refine (O17.out _).mono ?_; rintro e w' ⟨rfl, g17e, rfl⟩)
    | (go_at_call_of 30 (Value.int .u64 5); refine (O5.out _).mono ?_; rintro e w' ⟨rfl, g5e, rfl⟩)
    | (go_at_call_of 30 (Value.int .u64 0); refine (O0.out _).mono ?_; rintro e w' ⟨rfl, g0e, rfl⟩)
    | (go_at_call_of 30 (Value.int .u64 3); refine (O3.out _).mono ?_; rintro e w' ⟨rfl, g3e, rfl⟩)
    | (go_at_call_of 30 (Value.int .u64 7); refine (O7.out _).mono ?_; rintro e w' ⟨rfl, g7e, rfl⟩)
    | (go_at_call_of 30 (Value.int .u64 9); refine (O9.out _).mono ?_; rintro e w' ⟨rfl, g9e, rfl⟩)
    | (go_at_call_of 30 (Value.int .u64 4); refine (O4.out _).mono ?_; rintro e w' ⟨rfl, g4e, rfl⟩)
    | (go_at_call_of 12 (Value.agg (nw 9 5)); refine (aw4_div _).mono ?_; rintro e w' ⟨rfl, gde, rfl⟩)
    | (go_at_call 12; refine (div_zero _ _).mono ?_; rintro e w' ⟨rfl, gde, rfl⟩)
    | (go_at_call_of 24 (Value.agg (nw 9 7)); refine (aw4_inv _).mono ?_; rintro e w' ⟨rfl, gde, rfl⟩)
    | (go_at_call 24; refine (aw4_no _).mono ?_; rintro e w' ⟨rfl, gde, rfl⟩)
    | (go_at_call 23; refine (aw4_pow _).mono ?_; rintro e w' ⟨rfl, gde, rfl⟩))
  refine wp_region_pred (by kernel_rfl) (by kernel_rfl) [.c (.agg (nw 9 3)), .c (.agg (nw 9 3)), .c (.bool true), .c (.bool true), .c (.agg (nw 9 2)), .c (.agg (nw 9 2)), .c (.bool true), .c (.bool true), .c (.bool true), .c (.int .i64 0), .c (.int .i64 0), .c (.bool true), .c (.bool true), .c (.bool true), .c (.int .i64 400), .c (.int .i64 400), .c (.bool true), .c (.bool true), .c (.bool true), .c (.agg (nw 9 5)), .c (.agg (nw 9 5)), .c (.bool true), .c (.bool true), .c (.bool true), .c (.int .i64 0), .c (.int .i64 0), .c (.bool true), .c (.bool true), .c (.bool true), .c (.int .i64 401), .c (.int .i64 401), .c (.bool true), .c (.bool true), .c (.bool true), .c (.agg (nw 9 4)), .c (.agg (nw 9 4)), .c (.bool true), .c (.bool true), .c (.bool true), .c (.int .i64 0), .c (.int .i64 0), .c (.bool true), .c (.bool true), .c (.bool true)] ?hs ?hf
  case hs =>
    intro listed vals a1 v i o hg hR hF ho hd
    have h1 : blk v (w.heap.size + g17a.os.length + g5a.os.length + gda.os.length) = nw 9 3 := (hg.blk (w.heap.size + g17a.os.length + g5a.os.length + gda.os.length) (by simp [go_sem] <;> omega)).trans (by simp [go_sem])
    have ph1 : Pre (w.heap.size + g17a.os.length + g5a.os.length + gda.os.length + 1) v.heap.size := Nat.le_trans (show w.heap.size + g17a.os.length + g5a.os.length + gda.os.length + 1 ≤ _ by simp [go_sem] <;> omega) hg.below.size
    have h2 : blk v (w.heap.size + g17a.os.length + g5a.os.length + gda.os.length + 1) = nw 9 2 := (hg.blk (w.heap.size + g17a.os.length + g5a.os.length + gda.os.length + 1) (by simp [go_sem] <;> omega)).trans (by simp [go_sem])
    have ph2 : Pre (w.heap.size + g17a.os.length + g5a.os.length + gda.os.length + 1 + 1) v.heap.size := Nat.le_trans (show w.heap.size + g17a.os.length + g5a.os.length + gda.os.length + 1 + 1 ≤ _ by simp [go_sem] <;> omega) hg.below.size
    have h7 : blk v (w.heap.size + g17a.os.length + g5a.os.length + gda.os.length + 1 + 1 + g17b.os.length + g0b.os.length + gdb.os.length + 1 + 1 + g3c.os.length + g7c.os.length + gdc.os.length) = nw 9 5 := (hg.blk (w.heap.size + g17a.os.length + g5a.os.length + gda.os.length + 1 + 1 + g17b.os.length + g0b.os.length + gdb.os.length + 1 + 1 + g3c.os.length + g7c.os.length + gdc.os.length) (by simp [go_sem] <;> omega)).trans (by simp [go_sem])
    have ph7 : Pre (w.heap.size + g17a.os.length + g5a.os.length + gda.os.length + 1 + 1 + g17b.os.length + g0b.os.length + gdb.os.length + 1 + 1 + g3c.os.length + g7c.os.length + gdc.os.length + 1) v.heap.size := Nat.le_trans (show w.heap.size + g17a.os.length + g5a.os.length + gda.os.length + 1 + 1 + g17b.os.length + g0b.os.length + gdb.os.length + 1 + 1 + g3c.os.length + g7c.os.length + gdc.os.length + 1 ≤ _ by simp [go_sem] <;> omega) hg.below.size
    have h11 : blk v (w.heap.size + g17a.os.length + g5a.os.length + gda.os.length + 1 + 1 + g17b.os.length + g0b.os.length + gdb.os.length + 1 + 1 + g3c.os.length + g7c.os.length + gdc.os.length + 1 + g3d.os.length + g9d.os.length + gdd.os.length + 1 + g3e.os.length + g4e.os.length + g7e.os.length + gde.os.length) = nw 9 4 := (hg.blk (w.heap.size + g17a.os.length + g5a.os.length + gda.os.length + 1 + 1 + g17b.os.length + g0b.os.length + gdb.os.length + 1 + 1 + g3c.os.length + g7c.os.length + gdc.os.length + 1 + g3d.os.length + g9d.os.length + gdd.os.length + 1 + g3e.os.length + g4e.os.length + g7e.os.length + gde.os.length) (by simp [go_sem] <;> omega)).trans (by simp [go_sem])
    have ph11 : Pre (w.heap.size + g17a.os.length + g5a.os.length + gda.os.length + 1 + 1 + g17b.os.length + g0b.os.length + gdb.os.length + 1 + 1 + g3c.os.length + g7c.os.length + gdc.os.length + 1 + g3d.os.length + g9d.os.length + gdd.os.length + 1 + g3e.os.length + g4e.os.length + g7e.os.length + gde.os.length + 1) v.heap.size := Nat.le_trans (show w.heap.size + g17a.os.length + g5a.os.length + gda.os.length + 1 + 1 + g17b.os.length + g0b.os.length + gdb.os.length + 1 + 1 + g3c.os.length + g7c.os.length + gdc.os.length + 1 + g3d.os.length + g9d.os.length + gdd.os.length + 1 + g3e.os.length + g4e.os.length + g7e.os.length + gde.os.length + 1 ≤ _ by simp [go_sem] <;> omega) hg.below.size
    have hi : i < 44 := by simpa using (Array.getElem?_eq_some_iff.1 ho).1
    obtain rfl | rfl | rfl | rfl | rfl | rfl | rfl | rfl | rfl | rfl | rfl | rfl | rfl | rfl | rfl | rfl | rfl | rfl | rfl | rfl | rfl | rfl | rfl | rfl | rfl | rfl | rfl | rfl | rfl | rfl | rfl | rfl | rfl | rfl | rfl | rfl | rfl | rfl | rfl | rfl | rfl | rfl | rfl | rfl : i = 0 ∨ i = 1 ∨ i = 2 ∨ i = 3 ∨ i = 4 ∨ i = 5 ∨ i = 6 ∨ i = 7 ∨ i = 8 ∨ i = 9 ∨ i = 10 ∨ i = 11 ∨ i = 12 ∨ i = 13 ∨ i = 14 ∨ i = 15 ∨ i = 16 ∨ i = 17 ∨ i = 18 ∨ i = 19 ∨ i = 20 ∨ i = 21 ∨ i = 22 ∨ i = 23 ∨ i = 24 ∨ i = 25 ∨ i = 26 ∨ i = 27 ∨ i = 28 ∨ i = 29 ∨ i = 30 ∨ i = 31 ∨ i = 32 ∨ i = 33 ∨ i = 34 ∨ i = 35 ∨ i = 36 ∨ i = 37 ∨ i = 38 ∨ i = 39 ∨ i = 40 ∨ i = 41 ∨ i = 42 ∨ i = 43 := by omega
    · obtain rfl := Option.some.inj ho
      have f0 := hF.old (s := 1) (v := .pointer (some ⟨w.heap.size + g17a.os.length + g5a.os.length + gda.os.length, 0, none⟩)) (by kernel_rfl) rfl
      refine Or.inl ⟨wanted_no rfl, ?_⟩
      exact wp_val (.agg (nw 9 3)) (by simp [go_sem, f0, h1]) ⟨_, rfl, Gr.refl _, rfl⟩
    · obtain rfl := Option.some.inj ho
      refine Or.inl ⟨wanted_no rfl, ?_⟩
      exact wp_ret (.agg (nw 9 3)) (by simp [go_sem]) (O3.out _) (fun w2 hg2 => ⟨_, rfl, hg2, rfl⟩)
    · obtain rfl := Option.some.inj ho
      have l0 := on_of hd 0 (by kernel_rfl)
      have f0 := hF.at (s := 46) (i := 0) (by kernel_rfl) (by simp) l0
      rw [show vals 0 = .agg (nw 9 3) from hR 0 l0] at f0
      have l1 := on_of hd 1 (by kernel_rfl)
      have f1 := hF.at (s := 47) (i := 1) (by kernel_rfl) (by simp) l1
      rw [show vals 1 = .agg (nw 9 3) from hR 1 l1] at f1
      refine Or.inl ⟨wanted_no rfl, ?_⟩
      exact wp_val (.bool true) (by simp [go_sem, f0, f1]) ⟨_, rfl, Gr.refl _, rfl⟩
    · obtain rfl := Option.some.inj ho
      have l0 := on_of hd 2 (by kernel_rfl)
      have f0 := hF.at (s := 48) (i := 2) (by kernel_rfl) (by simp) l0
      rw [show vals 2 = .bool true from hR 2 l0] at f0
      refine Or.inl ⟨wanted_no rfl, ?_⟩
      exact wp_val (.bool true) (by simp [go_sem, f0]) ⟨_, rfl, Gr.refl _, rfl⟩
    · obtain rfl := Option.some.inj ho
      have lg := on_of hd 3 (by kernel_rfl)
      have fg := hF.at (s := 49) (i := 3) (by kernel_rfl) (by simp) lg
      rw [show vals 3 = .bool true from hR 3 lg] at fg
      have f0 := hF.old (s := 2) (v := .pointer (some ⟨w.heap.size + g17a.os.length + g5a.os.length + gda.os.length + 1, 0, none⟩)) (by kernel_rfl) rfl
      refine Or.inl ⟨wanted_at (j := 3) (s := 49) rfl rfl rfl fg, ?_⟩
      exact wp_val (.agg (nw 9 2)) (by simp [go_sem, f0, h2]) ⟨_, rfl, Gr.refl _, rfl⟩
    · obtain rfl := Option.some.inj ho
      have lg := on_of hd 3 (by kernel_rfl)
      have fg := hF.at (s := 49) (i := 3) (by kernel_rfl) (by simp) lg
      rw [show vals 3 = .bool true from hR 3 lg] at fg
      refine Or.inl ⟨wanted_at (j := 3) (s := 49) rfl rfl rfl fg, ?_⟩
      exact wp_ret (.agg (nw 9 2)) (by simp [go_sem]) (O2.out _) (fun w2 hg2 => ⟨_, rfl, hg2, rfl⟩)
    · obtain rfl := Option.some.inj ho
      have lg := on_of hd 3 (by kernel_rfl)
      have fg := hF.at (s := 49) (i := 3) (by kernel_rfl) (by simp) lg
      rw [show vals 3 = .bool true from hR 3 lg] at fg
      have l0 := on_of hd 4 (by kernel_rfl)
      have f0 := hF.at (s := 50) (i := 4) (by kernel_rfl) (by simp) l0
      rw [show vals 4 = .agg (nw 9 2) from hR 4 l0] at f0
      have l1 := on_of hd 5 (by kernel_rfl)
      have f1 := hF.at (s := 51) (i := 5) (by kernel_rfl) (by simp) l1
      rw [show vals 5 = .agg (nw 9 2) from hR 5 l1] at f1
      refine Or.inl ⟨wanted_at (j := 3) (s := 49) rfl rfl rfl fg, ?_⟩
      exact wp_val (.bool true) (by simp [go_sem, f0, f1]) ⟨_, rfl, Gr.refl _, rfl⟩
    · obtain rfl := Option.some.inj ho
      have l0 := on_of hd 3 (by kernel_rfl)
      have f0 := hF.at (s := 49) (i := 3) (by kernel_rfl) (by simp) l0
      rw [show vals 3 = .bool true from hR 3 l0] at f0
      have l1 := on_of hd 6 (by kernel_rfl)
      have f1 := hF.at (s := 52) (i := 6) (by kernel_rfl) (by simp) l1
      rw [show vals 6 = .bool true from hR 6 l1] at f1
      refine Or.inl ⟨wanted_no rfl, ?_⟩
      exact wp_val (.bool true) (by simp [go_sem, f0, f1]) ⟨_, rfl, Gr.refl _, rfl⟩
    · obtain rfl := Option.some.inj ho
      have l0 := on_of hd 7 (by kernel_rfl)
      have f0 := hF.at (s := 53) (i := 7) (by kernel_rfl) (by simp) l0
      rw [show vals 7 = .bool true from hR 7 l0] at f0
      refine Or.inl ⟨wanted_no rfl, ?_⟩
      exact wp_val (.bool true) (by simp [go_sem, f0]) ⟨_, rfl, Gr.refl _, rfl⟩
    · obtain rfl := Option.some.inj ho
      have lg := on_of hd 8 (by kernel_rfl)
      have fg := hF.at (s := 54) (i := 8) (by kernel_rfl) (by simp) lg
      rw [show vals 8 = .bool true from hR 8 lg] at fg
      have f0 := hF.old (s := 3) (v := .int .i64 0) (by kernel_rfl) rfl
      refine Or.inl ⟨wanted_at (j := 8) (s := 54) rfl rfl rfl fg, ?_⟩
      exact wp_val (.int .i64 0) (by simp [go_sem, f0]) ⟨_, rfl, Gr.refl _, rfl⟩
    · obtain rfl := Option.some.inj ho
      have lg := on_of hd 8 (by kernel_rfl)
      have fg := hF.at (s := 54) (i := 8) (by kernel_rfl) (by simp) lg
      rw [show vals 8 = .bool true from hR 8 lg] at fg
      have l0 := on_of hd 9 (by kernel_rfl)
      have f0 := hF.at (s := 55) (i := 9) (by kernel_rfl) (by simp) l0
      rw [show vals 9 = .int .i64 0 from hR 9 l0] at f0
      refine Or.inl ⟨wanted_at (j := 8) (s := 54) rfl rfl rfl fg, ?_⟩
      exact wp_ret (.int .i64 0) (by simp [go_sem, f0]) (num_gr _ _) (fun w2 hg2 => ⟨_, rfl, hg2, rfl⟩)
    · obtain rfl := Option.some.inj ho
      have lg := on_of hd 8 (by kernel_rfl)
      have fg := hF.at (s := 54) (i := 8) (by kernel_rfl) (by simp) lg
      rw [show vals 8 = .bool true from hR 8 lg] at fg
      have l0 := on_of hd 10 (by kernel_rfl)
      have f0 := hF.at (s := 56) (i := 10) (by kernel_rfl) (by simp) l0
      rw [show vals 10 = .int .i64 0 from hR 10 l0] at f0
      refine Or.inl ⟨wanted_at (j := 8) (s := 54) rfl rfl rfl fg, ?_⟩
      exact wp_val (.bool true) (by simp [go_sem, f0]) ⟨_, rfl, Gr.refl _, rfl⟩
    · obtain rfl := Option.some.inj ho
      have l0 := on_of hd 8 (by kernel_rfl)
      have f0 := hF.at (s := 54) (i := 8) (by kernel_rfl) (by simp) l0
      rw [show vals 8 = .bool true from hR 8 l0] at f0
      have l1 := on_of hd 11 (by kernel_rfl)
      have f1 := hF.at (s := 57) (i := 11) (by kernel_rfl) (by simp) l1
      rw [show vals 11 = .bool true from hR 11 l1] at f1
      refine Or.inl ⟨wanted_no rfl, ?_⟩
      exact wp_val (.bool true) (by simp [go_sem, f0, f1]) ⟨_, rfl, Gr.refl _, rfl⟩
    · obtain rfl := Option.some.inj ho
      have l0 := on_of hd 12 (by kernel_rfl)
      have f0 := hF.at (s := 58) (i := 12) (by kernel_rfl) (by simp) l0
      rw [show vals 12 = .bool true from hR 12 l0] at f0
      refine Or.inl ⟨wanted_no rfl, ?_⟩
      exact wp_val (.bool true) (by simp [go_sem, f0]) ⟨_, rfl, Gr.refl _, rfl⟩
    · obtain rfl := Option.some.inj ho
      have lg := on_of hd 13 (by kernel_rfl)
      have fg := hF.at (s := 59) (i := 13) (by kernel_rfl) (by simp) lg
      rw [show vals 13 = .bool true from hR 13 lg] at fg
      have f0 := hF.old (s := 6) (v := .int .i64 400) (by kernel_rfl) rfl
      refine Or.inl ⟨wanted_at (j := 13) (s := 59) rfl rfl rfl fg, ?_⟩
      exact wp_val (.int .i64 400) (by simp [go_sem, f0]) ⟨_, rfl, Gr.refl _, rfl⟩
    · obtain rfl := Option.some.inj ho
      have lg := on_of hd 13 (by kernel_rfl)
      have fg := hF.at (s := 59) (i := 13) (by kernel_rfl) (by simp) lg
      rw [show vals 13 = .bool true from hR 13 lg] at fg
      have l0 := on_of hd 14 (by kernel_rfl)
      have f0 := hF.at (s := 60) (i := 14) (by kernel_rfl) (by simp) l0
      rw [show vals 14 = .int .i64 400 from hR 14 l0] at f0
      refine Or.inl ⟨wanted_at (j := 13) (s := 59) rfl rfl rfl fg, ?_⟩
      exact wp_ret (.int .i64 400) (by simp [go_sem, f0]) (num_gr _ _) (fun w2 hg2 => ⟨_, rfl, hg2, rfl⟩)
    · obtain rfl := Option.some.inj ho
      have lg := on_of hd 13 (by kernel_rfl)
      have fg := hF.at (s := 59) (i := 13) (by kernel_rfl) (by simp) lg
      rw [show vals 13 = .bool true from hR 13 lg] at fg
      have l0 := on_of hd 15 (by kernel_rfl)
      have f0 := hF.at (s := 61) (i := 15) (by kernel_rfl) (by simp) l0
      rw [show vals 15 = .int .i64 400 from hR 15 l0] at f0
      refine Or.inl ⟨wanted_at (j := 13) (s := 59) rfl rfl rfl fg, ?_⟩
      exact wp_val (.bool true) (by simp [go_sem, f0]) ⟨_, rfl, Gr.refl _, rfl⟩
    · obtain rfl := Option.some.inj ho
      have l0 := on_of hd 13 (by kernel_rfl)
      have f0 := hF.at (s := 59) (i := 13) (by kernel_rfl) (by simp) l0
      rw [show vals 13 = .bool true from hR 13 l0] at f0
      have l1 := on_of hd 16 (by kernel_rfl)
      have f1 := hF.at (s := 62) (i := 16) (by kernel_rfl) (by simp) l1
      rw [show vals 16 = .bool true from hR 16 l1] at f1
      refine Or.inl ⟨wanted_no rfl, ?_⟩
      exact wp_val (.bool true) (by simp [go_sem, f0, f1]) ⟨_, rfl, Gr.refl _, rfl⟩
    · obtain rfl := Option.some.inj ho
      have l0 := on_of hd 17 (by kernel_rfl)
      have f0 := hF.at (s := 63) (i := 17) (by kernel_rfl) (by simp) l0
      rw [show vals 17 = .bool true from hR 17 l0] at f0
      refine Or.inl ⟨wanted_no rfl, ?_⟩
      exact wp_val (.bool true) (by simp [go_sem, f0]) ⟨_, rfl, Gr.refl _, rfl⟩
    · obtain rfl := Option.some.inj ho
      have lg := on_of hd 18 (by kernel_rfl)
      have fg := hF.at (s := 64) (i := 18) (by kernel_rfl) (by simp) lg
      rw [show vals 18 = .bool true from hR 18 lg] at fg
      have f0 := hF.old (s := 7) (v := .pointer (some ⟨w.heap.size + g17a.os.length + g5a.os.length + gda.os.length + 1 + 1 + g17b.os.length + g0b.os.length + gdb.os.length + 1 + 1 + g3c.os.length + g7c.os.length + gdc.os.length, 0, none⟩)) (by kernel_rfl) rfl
      refine Or.inl ⟨wanted_at (j := 18) (s := 64) rfl rfl rfl fg, ?_⟩
      exact wp_val (.agg (nw 9 5)) (by simp [go_sem, f0, h7]) ⟨_, rfl, Gr.refl _, rfl⟩
    · obtain rfl := Option.some.inj ho
      have lg := on_of hd 18 (by kernel_rfl)
      have fg := hF.at (s := 64) (i := 18) (by kernel_rfl) (by simp) lg
      rw [show vals 18 = .bool true from hR 18 lg] at fg
      refine Or.inl ⟨wanted_at (j := 18) (s := 64) rfl rfl rfl fg, ?_⟩
      exact wp_ret (.agg (nw 9 5)) (by simp [go_sem]) (O5.out _) (fun w2 hg2 => ⟨_, rfl, hg2, rfl⟩)
    · obtain rfl := Option.some.inj ho
      have lg := on_of hd 18 (by kernel_rfl)
      have fg := hF.at (s := 64) (i := 18) (by kernel_rfl) (by simp) lg
      rw [show vals 18 = .bool true from hR 18 lg] at fg
      have l0 := on_of hd 19 (by kernel_rfl)
      have f0 := hF.at (s := 65) (i := 19) (by kernel_rfl) (by simp) l0
      rw [show vals 19 = .agg (nw 9 5) from hR 19 l0] at f0
      have l1 := on_of hd 20 (by kernel_rfl)
      have f1 := hF.at (s := 66) (i := 20) (by kernel_rfl) (by simp) l1
      rw [show vals 20 = .agg (nw 9 5) from hR 20 l1] at f1
      refine Or.inl ⟨wanted_at (j := 18) (s := 64) rfl rfl rfl fg, ?_⟩
      exact wp_val (.bool true) (by simp [go_sem, f0, f1]) ⟨_, rfl, Gr.refl _, rfl⟩
    · obtain rfl := Option.some.inj ho
      have l0 := on_of hd 18 (by kernel_rfl)
      have f0 := hF.at (s := 64) (i := 18) (by kernel_rfl) (by simp) l0
      rw [show vals 18 = .bool true from hR 18 l0] at f0
      have l1 := on_of hd 21 (by kernel_rfl)
      have f1 := hF.at (s := 67) (i := 21) (by kernel_rfl) (by simp) l1
      rw [show vals 21 = .bool true from hR 21 l1] at f1
      refine Or.inl ⟨wanted_no rfl, ?_⟩
      exact wp_val (.bool true) (by simp [go_sem, f0, f1]) ⟨_, rfl, Gr.refl _, rfl⟩
    · obtain rfl := Option.some.inj ho
      have l0 := on_of hd 22 (by kernel_rfl)
      have f0 := hF.at (s := 68) (i := 22) (by kernel_rfl) (by simp) l0
      rw [show vals 22 = .bool true from hR 22 l0] at f0
      refine Or.inl ⟨wanted_no rfl, ?_⟩
      exact wp_val (.bool true) (by simp [go_sem, f0]) ⟨_, rfl, Gr.refl _, rfl⟩
    · obtain rfl := Option.some.inj ho
      have lg := on_of hd 23 (by kernel_rfl)
      have fg := hF.at (s := 69) (i := 23) (by kernel_rfl) (by simp) lg
      rw [show vals 23 = .bool true from hR 23 lg] at fg
      have f0 := hF.old (s := 8) (v := .int .i64 0) (by kernel_rfl) rfl
      refine Or.inl ⟨wanted_at (j := 23) (s := 69) rfl rfl rfl fg, ?_⟩
      exact wp_val (.int .i64 0) (by simp [go_sem, f0]) ⟨_, rfl, Gr.refl _, rfl⟩
    · obtain rfl := Option.some.inj ho
      have lg := on_of hd 23 (by kernel_rfl)
      have fg := hF.at (s := 69) (i := 23) (by kernel_rfl) (by simp) lg
      rw [show vals 23 = .bool true from hR 23 lg] at fg
      have l0 := on_of hd 24 (by kernel_rfl)
      have f0 := hF.at (s := 70) (i := 24) (by kernel_rfl) (by simp) l0
      rw [show vals 24 = .int .i64 0 from hR 24 l0] at f0
      refine Or.inl ⟨wanted_at (j := 23) (s := 69) rfl rfl rfl fg, ?_⟩
      exact wp_ret (.int .i64 0) (by simp [go_sem, f0]) (num_gr _ _) (fun w2 hg2 => ⟨_, rfl, hg2, rfl⟩)
    · obtain rfl := Option.some.inj ho
      have lg := on_of hd 23 (by kernel_rfl)
      have fg := hF.at (s := 69) (i := 23) (by kernel_rfl) (by simp) lg
      rw [show vals 23 = .bool true from hR 23 lg] at fg
      have l0 := on_of hd 25 (by kernel_rfl)
      have f0 := hF.at (s := 71) (i := 25) (by kernel_rfl) (by simp) l0
      rw [show vals 25 = .int .i64 0 from hR 25 l0] at f0
      refine Or.inl ⟨wanted_at (j := 23) (s := 69) rfl rfl rfl fg, ?_⟩
      exact wp_val (.bool true) (by simp [go_sem, f0]) ⟨_, rfl, Gr.refl _, rfl⟩
    · obtain rfl := Option.some.inj ho
      have l0 := on_of hd 23 (by kernel_rfl)
      have f0 := hF.at (s := 69) (i := 23) (by kernel_rfl) (by simp) l0
      rw [show vals 23 = .bool true from hR 23 l0] at f0
      have l1 := on_of hd 26 (by kernel_rfl)
      have f1 := hF.at (s := 72) (i := 26) (by kernel_rfl) (by simp) l1
      rw [show vals 26 = .bool true from hR 26 l1] at f1
      refine Or.inl ⟨wanted_no rfl, ?_⟩
      exact wp_val (.bool true) (by simp [go_sem, f0, f1]) ⟨_, rfl, Gr.refl _, rfl⟩
    · obtain rfl := Option.some.inj ho
      have l0 := on_of hd 27 (by kernel_rfl)
      have f0 := hF.at (s := 73) (i := 27) (by kernel_rfl) (by simp) l0
      rw [show vals 27 = .bool true from hR 27 l0] at f0
      refine Or.inl ⟨wanted_no rfl, ?_⟩
      exact wp_val (.bool true) (by simp [go_sem, f0]) ⟨_, rfl, Gr.refl _, rfl⟩
    · obtain rfl := Option.some.inj ho
      have lg := on_of hd 28 (by kernel_rfl)
      have fg := hF.at (s := 74) (i := 28) (by kernel_rfl) (by simp) lg
      rw [show vals 28 = .bool true from hR 28 lg] at fg
      have f0 := hF.old (s := 10) (v := .int .i64 401) (by kernel_rfl) rfl
      refine Or.inl ⟨wanted_at (j := 28) (s := 74) rfl rfl rfl fg, ?_⟩
      exact wp_val (.int .i64 401) (by simp [go_sem, f0]) ⟨_, rfl, Gr.refl _, rfl⟩
    · obtain rfl := Option.some.inj ho
      have lg := on_of hd 28 (by kernel_rfl)
      have fg := hF.at (s := 74) (i := 28) (by kernel_rfl) (by simp) lg
      rw [show vals 28 = .bool true from hR 28 lg] at fg
      have l0 := on_of hd 29 (by kernel_rfl)
      have f0 := hF.at (s := 75) (i := 29) (by kernel_rfl) (by simp) l0
      rw [show vals 29 = .int .i64 401 from hR 29 l0] at f0
      refine Or.inl ⟨wanted_at (j := 28) (s := 74) rfl rfl rfl fg, ?_⟩
      exact wp_ret (.int .i64 401) (by simp [go_sem, f0]) (num_gr _ _) (fun w2 hg2 => ⟨_, rfl, hg2, rfl⟩)
    · obtain rfl := Option.some.inj ho
      have lg := on_of hd 28 (by kernel_rfl)
      have fg := hF.at (s := 74) (i := 28) (by kernel_rfl) (by simp) lg
      rw [show vals 28 = .bool true from hR 28 lg] at fg
      have l0 := on_of hd 30 (by kernel_rfl)
      have f0 := hF.at (s := 76) (i := 30) (by kernel_rfl) (by simp) l0
      rw [show vals 30 = .int .i64 401 from hR 30 l0] at f0
      refine Or.inl ⟨wanted_at (j := 28) (s := 74) rfl rfl rfl fg, ?_⟩
      exact wp_val (.bool true) (by simp [go_sem, f0]) ⟨_, rfl, Gr.refl _, rfl⟩
    · obtain rfl := Option.some.inj ho
      have l0 := on_of hd 28 (by kernel_rfl)
      have f0 := hF.at (s := 74) (i := 28) (by kernel_rfl) (by simp) l0
      rw [show vals 28 = .bool true from hR 28 l0] at f0
      have l1 := on_of hd 31 (by kernel_rfl)
      have f1 := hF.at (s := 77) (i := 31) (by kernel_rfl) (by simp) l1
      rw [show vals 31 = .bool true from hR 31 l1] at f1
      refine Or.inl ⟨wanted_no rfl, ?_⟩
      exact wp_val (.bool true) (by simp [go_sem, f0, f1]) ⟨_, rfl, Gr.refl _, rfl⟩
    · obtain rfl := Option.some.inj ho
      have l0 := on_of hd 32 (by kernel_rfl)
      have f0 := hF.at (s := 78) (i := 32) (by kernel_rfl) (by simp) l0
      rw [show vals 32 = .bool true from hR 32 l0] at f0
      refine Or.inl ⟨wanted_no rfl, ?_⟩
      exact wp_val (.bool true) (by simp [go_sem, f0]) ⟨_, rfl, Gr.refl _, rfl⟩
    · obtain rfl := Option.some.inj ho
      have lg := on_of hd 33 (by kernel_rfl)
      have fg := hF.at (s := 79) (i := 33) (by kernel_rfl) (by simp) lg
      rw [show vals 33 = .bool true from hR 33 lg] at fg
      have f0 := hF.old (s := 11) (v := .pointer (some ⟨w.heap.size + g17a.os.length + g5a.os.length + gda.os.length + 1 + 1 + g17b.os.length + g0b.os.length + gdb.os.length + 1 + 1 + g3c.os.length + g7c.os.length + gdc.os.length + 1 + g3d.os.length + g9d.os.length + gdd.os.length + 1 + g3e.os.length + g4e.os.length + g7e.os.length + gde.os.length, 0, none⟩)) (by kernel_rfl) rfl
      refine Or.inl ⟨wanted_at (j := 33) (s := 79) rfl rfl rfl fg, ?_⟩
      exact wp_val (.agg (nw 9 4)) (by simp [go_sem, f0, h11]) ⟨_, rfl, Gr.refl _, rfl⟩
    · obtain rfl := Option.some.inj ho
      have lg := on_of hd 33 (by kernel_rfl)
      have fg := hF.at (s := 79) (i := 33) (by kernel_rfl) (by simp) lg
      rw [show vals 33 = .bool true from hR 33 lg] at fg
      refine Or.inl ⟨wanted_at (j := 33) (s := 79) rfl rfl rfl fg, ?_⟩
      exact wp_ret (.agg (nw 9 4)) (by simp [go_sem]) (O4.out _) (fun w2 hg2 => ⟨_, rfl, hg2, rfl⟩)
    · obtain rfl := Option.some.inj ho
      have lg := on_of hd 33 (by kernel_rfl)
      have fg := hF.at (s := 79) (i := 33) (by kernel_rfl) (by simp) lg
      rw [show vals 33 = .bool true from hR 33 lg] at fg
      have l0 := on_of hd 34 (by kernel_rfl)
      have f0 := hF.at (s := 80) (i := 34) (by kernel_rfl) (by simp) l0
      rw [show vals 34 = .agg (nw 9 4) from hR 34 l0] at f0
      have l1 := on_of hd 35 (by kernel_rfl)
      have f1 := hF.at (s := 81) (i := 35) (by kernel_rfl) (by simp) l1
      rw [show vals 35 = .agg (nw 9 4) from hR 35 l1] at f1
      refine Or.inl ⟨wanted_at (j := 33) (s := 79) rfl rfl rfl fg, ?_⟩
      exact wp_val (.bool true) (by simp [go_sem, f0, f1]) ⟨_, rfl, Gr.refl _, rfl⟩
    · obtain rfl := Option.some.inj ho
      have l0 := on_of hd 33 (by kernel_rfl)
      have f0 := hF.at (s := 79) (i := 33) (by kernel_rfl) (by simp) l0
      rw [show vals 33 = .bool true from hR 33 l0] at f0
      have l1 := on_of hd 36 (by kernel_rfl)
      have f1 := hF.at (s := 82) (i := 36) (by kernel_rfl) (by simp) l1
      rw [show vals 36 = .bool true from hR 36 l1] at f1
      refine Or.inl ⟨wanted_no rfl, ?_⟩
      exact wp_val (.bool true) (by simp [go_sem, f0, f1]) ⟨_, rfl, Gr.refl _, rfl⟩
    · obtain rfl := Option.some.inj ho
      have l0 := on_of hd 37 (by kernel_rfl)
      have f0 := hF.at (s := 83) (i := 37) (by kernel_rfl) (by simp) l0
      rw [show vals 37 = .bool true from hR 37 l0] at f0
      refine Or.inl ⟨wanted_no rfl, ?_⟩
      exact wp_val (.bool true) (by simp [go_sem, f0]) ⟨_, rfl, Gr.refl _, rfl⟩
    · obtain rfl := Option.some.inj ho
      have lg := on_of hd 38 (by kernel_rfl)
      have fg := hF.at (s := 84) (i := 38) (by kernel_rfl) (by simp) lg
      rw [show vals 38 = .bool true from hR 38 lg] at fg
      have f0 := hF.old (s := 12) (v := .int .i64 0) (by kernel_rfl) rfl
      refine Or.inl ⟨wanted_at (j := 38) (s := 84) rfl rfl rfl fg, ?_⟩
      exact wp_val (.int .i64 0) (by simp [go_sem, f0]) ⟨_, rfl, Gr.refl _, rfl⟩
    · obtain rfl := Option.some.inj ho
      have lg := on_of hd 38 (by kernel_rfl)
      have fg := hF.at (s := 84) (i := 38) (by kernel_rfl) (by simp) lg
      rw [show vals 38 = .bool true from hR 38 lg] at fg
      have l0 := on_of hd 39 (by kernel_rfl)
      have f0 := hF.at (s := 85) (i := 39) (by kernel_rfl) (by simp) l0
      rw [show vals 39 = .int .i64 0 from hR 39 l0] at f0
      refine Or.inl ⟨wanted_at (j := 38) (s := 84) rfl rfl rfl fg, ?_⟩
      exact wp_ret (.int .i64 0) (by simp [go_sem, f0]) (num_gr _ _) (fun w2 hg2 => ⟨_, rfl, hg2, rfl⟩)
    · obtain rfl := Option.some.inj ho
      have lg := on_of hd 38 (by kernel_rfl)
      have fg := hF.at (s := 84) (i := 38) (by kernel_rfl) (by simp) lg
      rw [show vals 38 = .bool true from hR 38 lg] at fg
      have l0 := on_of hd 40 (by kernel_rfl)
      have f0 := hF.at (s := 86) (i := 40) (by kernel_rfl) (by simp) l0
      rw [show vals 40 = .int .i64 0 from hR 40 l0] at f0
      refine Or.inl ⟨wanted_at (j := 38) (s := 84) rfl rfl rfl fg, ?_⟩
      exact wp_val (.bool true) (by simp [go_sem, f0]) ⟨_, rfl, Gr.refl _, rfl⟩
    · obtain rfl := Option.some.inj ho
      have l0 := on_of hd 38 (by kernel_rfl)
      have f0 := hF.at (s := 84) (i := 38) (by kernel_rfl) (by simp) l0
      rw [show vals 38 = .bool true from hR 38 l0] at f0
      have l1 := on_of hd 41 (by kernel_rfl)
      have f1 := hF.at (s := 87) (i := 41) (by kernel_rfl) (by simp) l1
      rw [show vals 41 = .bool true from hR 41 l1] at f1
      refine Or.inl ⟨wanted_no rfl, ?_⟩
      exact wp_val (.bool true) (by simp [go_sem, f0, f1]) ⟨_, rfl, Gr.refl _, rfl⟩
    · obtain rfl := Option.some.inj ho
      have l0 := on_of hd 42 (by kernel_rfl)
      have f0 := hF.at (s := 88) (i := 42) (by kernel_rfl) (by simp) l0
      rw [show vals 42 = .bool true from hR 42 l0] at f0
      refine Or.inl ⟨wanted_no rfl, ?_⟩
      exact wp_val (.bool true) (by simp [go_sem, f0]) ⟨_, rfl, Gr.refl _, rfl⟩
  case hf =>
    intro vals v hg hR
    have h1 : blk v (w.heap.size + g17a.os.length + g5a.os.length + gda.os.length) = nw 9 3 := (hg.blk (w.heap.size + g17a.os.length + g5a.os.length + gda.os.length) (by simp [go_sem] <;> omega)).trans (by simp [go_sem])
    have ph1 : Pre (w.heap.size + g17a.os.length + g5a.os.length + gda.os.length + 1) v.heap.size := Nat.le_trans (show w.heap.size + g17a.os.length + g5a.os.length + gda.os.length + 1 ≤ _ by simp [go_sem] <;> omega) hg.below.size
    have h2 : blk v (w.heap.size + g17a.os.length + g5a.os.length + gda.os.length + 1) = nw 9 2 := (hg.blk (w.heap.size + g17a.os.length + g5a.os.length + gda.os.length + 1) (by simp [go_sem] <;> omega)).trans (by simp [go_sem])
    have ph2 : Pre (w.heap.size + g17a.os.length + g5a.os.length + gda.os.length + 1 + 1) v.heap.size := Nat.le_trans (show w.heap.size + g17a.os.length + g5a.os.length + gda.os.length + 1 + 1 ≤ _ by simp [go_sem] <;> omega) hg.below.size
    have h7 : blk v (w.heap.size + g17a.os.length + g5a.os.length + gda.os.length + 1 + 1 + g17b.os.length + g0b.os.length + gdb.os.length + 1 + 1 + g3c.os.length + g7c.os.length + gdc.os.length) = nw 9 5 := (hg.blk (w.heap.size + g17a.os.length + g5a.os.length + gda.os.length + 1 + 1 + g17b.os.length + g0b.os.length + gdb.os.length + 1 + 1 + g3c.os.length + g7c.os.length + gdc.os.length) (by simp [go_sem] <;> omega)).trans (by simp [go_sem])
    have ph7 : Pre (w.heap.size + g17a.os.length + g5a.os.length + gda.os.length + 1 + 1 + g17b.os.length + g0b.os.length + gdb.os.length + 1 + 1 + g3c.os.length + g7c.os.length + gdc.os.length + 1) v.heap.size := Nat.le_trans (show w.heap.size + g17a.os.length + g5a.os.length + gda.os.length + 1 + 1 + g17b.os.length + g0b.os.length + gdb.os.length + 1 + 1 + g3c.os.length + g7c.os.length + gdc.os.length + 1 ≤ _ by simp [go_sem] <;> omega) hg.below.size
    have h11 : blk v (w.heap.size + g17a.os.length + g5a.os.length + gda.os.length + 1 + 1 + g17b.os.length + g0b.os.length + gdb.os.length + 1 + 1 + g3c.os.length + g7c.os.length + gdc.os.length + 1 + g3d.os.length + g9d.os.length + gdd.os.length + 1 + g3e.os.length + g4e.os.length + g7e.os.length + gde.os.length) = nw 9 4 := (hg.blk (w.heap.size + g17a.os.length + g5a.os.length + gda.os.length + 1 + 1 + g17b.os.length + g0b.os.length + gdb.os.length + 1 + 1 + g3c.os.length + g7c.os.length + gdc.os.length + 1 + g3d.os.length + g9d.os.length + gdd.os.length + 1 + g3e.os.length + g4e.os.length + g7e.os.length + gde.os.length) (by simp [go_sem] <;> omega)).trans (by simp [go_sem])
    have ph11 : Pre (w.heap.size + g17a.os.length + g5a.os.length + gda.os.length + 1 + 1 + g17b.os.length + g0b.os.length + gdb.os.length + 1 + 1 + g3c.os.length + g7c.os.length + gdc.os.length + 1 + g3d.os.length + g9d.os.length + gdd.os.length + 1 + g3e.os.length + g4e.os.length + g7e.os.length + gde.os.length + 1) v.heap.size := Nat.le_trans (show w.heap.size + g17a.os.length + g5a.os.length + gda.os.length + 1 + 1 + g17b.os.length + g0b.os.length + gdb.os.length + 1 + 1 + g3c.os.length + g7c.os.length + gdc.os.length + 1 + g3d.os.length + g9d.os.length + gdd.os.length + 1 + g3e.os.length + g4e.os.length + g7e.os.length + gde.os.length + 1 ≤ _ by simp [go_sem] <;> omega) hg.below.size
    have x0 : vals 0 = .agg (nw 9 3) := hR 0 (by simp)
    have x1 : vals 1 = .agg (nw 9 3) := hR 1 (by simp)
    have x2 : vals 2 = .bool true := hR 2 (by simp)
    have x3 : vals 3 = .bool true := hR 3 (by simp)
    have x4 : vals 4 = .agg (nw 9 2) := hR 4 (by simp)
    have x5 : vals 5 = .agg (nw 9 2) := hR 5 (by simp)
    have x6 : vals 6 = .bool true := hR 6 (by simp)
    have x7 : vals 7 = .bool true := hR 7 (by simp)
    have x8 : vals 8 = .bool true := hR 8 (by simp)
    have x9 : vals 9 = .int .i64 0 := hR 9 (by simp)
    have x10 : vals 10 = .int .i64 0 := hR 10 (by simp)
    have x11 : vals 11 = .bool true := hR 11 (by simp)
    have x12 : vals 12 = .bool true := hR 12 (by simp)
    have x13 : vals 13 = .bool true := hR 13 (by simp)
    have x14 : vals 14 = .int .i64 400 := hR 14 (by simp)
    have x15 : vals 15 = .int .i64 400 := hR 15 (by simp)
    have x16 : vals 16 = .bool true := hR 16 (by simp)
    have x17 : vals 17 = .bool true := hR 17 (by simp)
    have x18 : vals 18 = .bool true := hR 18 (by simp)
    have x19 : vals 19 = .agg (nw 9 5) := hR 19 (by simp)
    have x20 : vals 20 = .agg (nw 9 5) := hR 20 (by simp)
    have x21 : vals 21 = .bool true := hR 21 (by simp)
    have x22 : vals 22 = .bool true := hR 22 (by simp)
    have x23 : vals 23 = .bool true := hR 23 (by simp)
    have x24 : vals 24 = .int .i64 0 := hR 24 (by simp)
    have x25 : vals 25 = .int .i64 0 := hR 25 (by simp)
    have x26 : vals 26 = .bool true := hR 26 (by simp)
    have x27 : vals 27 = .bool true := hR 27 (by simp)
    have x28 : vals 28 = .bool true := hR 28 (by simp)
    have x29 : vals 29 = .int .i64 401 := hR 29 (by simp)
    have x30 : vals 30 = .int .i64 401 := hR 30 (by simp)
    have x31 : vals 31 = .bool true := hR 31 (by simp)
    have x32 : vals 32 = .bool true := hR 32 (by simp)
    have x33 : vals 33 = .bool true := hR 33 (by simp)
    have x34 : vals 34 = .agg (nw 9 4) := hR 34 (by simp)
    have x35 : vals 35 = .agg (nw 9 4) := hR 35 (by simp)
    have x36 : vals 36 = .bool true := hR 36 (by simp)
    have x37 : vals 37 = .bool true := hR 37 (by simp)
    have x38 : vals 38 = .bool true := hR 38 (by simp)
    have x39 : vals 39 = .int .i64 0 := hR 39 (by simp)
    have x40 : vals 40 = .int .i64 0 := hR 40 (by simp)
    have x41 : vals 41 = .bool true := hR 41 (by simp)
    have x42 : vals 42 = .bool true := hR 42 (by simp)
    have x43 : vals 43 = .bool true := hR 43 (by simp)
    simp only [putFrom, Act.put, List.setIfInBounds_toArray, List.set_cons_zero, List.set_cons_succ, x0, x1, x2, x3, x4, x5, x6, x7, x8, x9, x10, x11, x12, x13, x14, x15, x16, x17, x18, x19, x20, x21, x22, x23, x24, x25, x26, x27, x28, x29, x30, x31, x32, x33, x34, x35, x36, x37, x38, x39, x40, x41, x42, x43]
    clear hR x0 x1 x2 x3 x4 x5 x6 x7 x8 x9 x10 x11 x12 x13 x14 x15 x16 x17 x18 x19 x20 x21 x22 x23 x24 x25 x26 x27 x28 x29 x30 x31 x32 x33 x34 x35 x36 x37 x38 x39 x40 x41 x42 x43
    have HG : Gr w v := by refine Gr.trans ?_ hg; exact (by repeat (first | exact Gr.refl _ | apply Gr.drewN | apply Gr.drew | apply Gr.alloc | apply Gr.gro))
    clear hg h1 h2 h7 h11 ph1 ph2 ph7 ph11
    go_wp2_with fail
    go_ret
    exact ⟨rfl, HG⟩

end Go.Proofs.Ytbafjcbbiiipfaa
