/-
  nat.Small, nat.shiftFits; the statements' own One and Num: what they hand back.
-/
import Derived.Test.YtleckbdhebjfkaaZInst
namespace Go.Proofs.Ytleckbdhebjfkaa
open Go.RowKit
attribute [local go_sem ↓] loadNat_is loadArr_is loadWide_is loadArrW_is storeNat_is storeWide_is
attribute [local go_sem] loadNat loadArr loadWide loadArrW storeNat storeWide idxArr fold9 fold18 nw_size nw_elem pre_self pre_1 pre_2 pre_3 pre_4 pre_5 pre_6 pre_7 pre_8 pre_9 pre_10 pre_11 pre_12 pre_13 pre_14 pre_15 pre_16 pre_17 pre_18 pre_19 pre_20 pre_21 pre_22 pre_23 pre_24 pre_25 pre_26 pre_27 pre_28 pre_29 pre_30 pre_31 pre_32 pre_33 pre_34 pre_35 pre_36 pre_37 pre_38 pre_39 pre_40 gro_size gro_drew gro_drewN drew_gro drewN_gro gro_gro blk_gro frz_gro blk_drew frz_drew blk_drewN frz_drewN blk_alloc_at frz_alloc_at blk_alloc frz_alloc cell_gro frozen_gro cell_alloc_pre frozen_alloc_pre setCell_drewN alloc_drewN setBlk_drew setBlk_drewN setBlk_alloc_at setBlk_alloc setBlk_gro setCell_gro setCell_alloc_pre size_setBlk size_setCell
theorem small_set (x : Int) (h0 : 0 ≤ x) (h1 : x < 18446744073709551616) : (nw 9 0).setIfInBounds 0 (Value.int .u64 x) = nw 9 x.toNat := by
  obtain ⟨n, rfl⟩ := Int.eq_ofNat_of_zero_le h0
  rw [nw_set_top 9 0 0 n (by omega) (pw_pos 0), pw_zero, Nat.zero_add, Nat.mul_one, Int.toNat_natCast]

set_option maxRecDepth 100000 in
set_option maxHeartbeats 400000 in
theorem small_any (x : Int) (hx : x ≤ 9223372036854775807) (w : World) :
    Calls Try.prog 33 #[.int .i64 x] w fun e w' => e = .returned (.agg (nw 9 x.toNat)) ∧ Gr w w' := by
  by_cases h : 0 < x
  · have hw : IntKind.u64.wrap x = x := by rw [IntKind.wrap_u64]; omega
    have hs := small_set x (by omega) (by omega)
    clear hx
    go_enter Try.func33, Try.ntmps33
    go_wp2
    exact bodyPost_ret (v := .agg (nw 9 x.toNat)) (by simp [results, Try.results33, go_sem, nw9_lit]) rfl ⟨rfl, ((Gr.refl w).alloc _).alloc _⟩
  · have h0 : x.toNat = 0 := by omega
    have h' : x ≤ 0 := by omega
    rw [h0]
    clear hx h h0
    go_enter Try.func33, Try.ntmps33
    go_wp2
    exact bodyPost_ret (v := .agg (nw 9 0)) (by simp [results, Try.results33, go_sem, nw9_lit]) rfl ⟨rfl, ((Gr.refl w).alloc _).alloc _⟩

set_option maxRecDepth 100000 in
set_option maxHeartbeats 400000 in
theorem one_any (x : Nat) (hx : x < 18446744073709551616) (w : World) :
    Calls Try.prog 26 #[.int .u64 (x : Int)] w fun e w' => e = .returned (.agg (nw 9 x)) ∧ Gr w w' := by
  have hs := small_set (x : Int) (by omega) (by omega)
  rw [Int.toNat_natCast] at hs
  clear hx
  go_enter Try.func26, Try.ntmps26
  go_wp2
  exact bodyPost_ret (v := .agg (nw 9 x)) (by simp [results, Try.results26, go_sem, nw9_lit]) rfl ⟨rfl, ((Gr.refl w).alloc _).alloc _⟩

theorem num_any (x : Int) (w : World) :
    Calls Try.prog 12 #[.int .i64 x] w fun e w' => e = .returned (.int .i64 x) ∧ w' = w := by
  go_enter Try.func12, Try.ntmps12
  go_wp2
  go_ret
  exact ⟨rfl, rfl⟩

theorem fits_yes (x : Int) (h0 : 0 ≤ x) (h1 : x ≤ 576) (w : World) :
    Calls Try.prog 71 #[.int .i64 x] w fun e w' => e = .returned (.bool true) ∧ w' = w := by
  go_enter Try.func71, Try.ntmps71
  go_wp2
  go_ret
  exact ⟨rfl, rfl⟩
theorem fits_no (x : Int) (h : x < 0 ∨ 576 < x) (w : World) :
    Calls Try.prog 71 #[.int .i64 x] w fun e w' => e = .returned (.bool false) ∧ w' = w := by
  rcases h with h | h
  · have hd : decide (0 ≤ x) = false := by simp; omega
    go_enter Try.func71, Try.ntmps71
    go_wp2
    go_ret
    exact ⟨rfl, rfl⟩
  · have hd : decide (0 ≤ x) = true := by simp; omega
    have hd2 : decide (x ≤ 576) = false := by simp; omega
    go_enter Try.func71, Try.ntmps71
    go_wp2
    go_ret
    exact ⟨rfl, rfl⟩

end Go.Proofs.Ytleckbdhebjfkaa
