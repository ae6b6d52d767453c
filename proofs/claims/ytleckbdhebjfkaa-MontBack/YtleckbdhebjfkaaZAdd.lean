/-
  nat.Add and nat.Sub: what they hand back, for every two numbers.
-/
import Derived.Test.YtleckbdhebjfkaaZInst
namespace Go.Proofs.Ytleckbdhebjfkaa
open Go.RowKit
attribute [local go_sem ↓] loadNat_is loadArr_is loadWide_is loadArrW_is storeNat_is storeWide_is
attribute [local go_sem] loadNat loadArr loadWide loadArrW storeNat storeWide idxArr fold9 fold18 nw_size nw_elem pre_self pre_1 pre_2 pre_3 pre_4 pre_5 pre_6 pre_7 pre_8 pre_9 pre_10 pre_11 pre_12 pre_13 pre_14 pre_15 pre_16 pre_17 pre_18 pre_19 pre_20 pre_21 pre_22 pre_23 pre_24 pre_25 pre_26 pre_27 pre_28 pre_29 pre_30 pre_31 pre_32 pre_33 pre_34 pre_35 pre_36 pre_37 pre_38 pre_39 pre_40 gro_size gro_drew gro_drewN drew_gro drewN_gro gro_gro blk_gro frz_gro blk_drew frz_drew blk_drewN frz_drewN blk_alloc_at frz_alloc_at blk_alloc frz_alloc cell_gro frozen_gro cell_alloc_pre frozen_alloc_pre setCell_drewN alloc_drewN setBlk_drew setBlk_drewN setBlk_alloc_at setBlk_alloc setBlk_gro setCell_gro setCell_alloc_pre size_setBlk size_setCell
set_option maxRecDepth 100000 in
set_option maxHeartbeats 400000 in
theorem add_raw (a b : Nat) (w : World) :
    Calls Try.prog 75 #[.agg (nw 9 a), .agg (nw 9 b)] w fun e w' => e = .returned (.tuple #[.agg (nw 9 (addS a b 9)), .bool (((addC a b 9 : Nat) : Int) != 0)]) ∧ Gr w w' := by
  go_enter Try.func75, Try.ntmps75
  go_wp2
  go_loopw [7, 9] (fun c i wr => ∃ k n : Nat, k ≤ 9 ∧ i = .int .i64 k ∧ c = .int .u64 (addC a b k) ∧ wr = (((((w.alloc (.cells (nw 9 a) 25)).alloc (.cells (nw 9 b) 25)).alloc (.cells (nw 9 0) 25)).alloc (.cells (nw 9 (addS a b k)) 25)).drewN n)) (fun _ i _ => 9 - (intOf i).toNat)
  case atStart => exact ⟨0, 0, by omega, rfl, by rw [addC_zero]; rfl, by rw [addS_zero, nw9_zero]; rfl⟩
  case round =>
    obtain ⟨k, n, hk, rfl, rfl, rfl⟩ := hrel
    by_cases hlt : k < 9
    · have hl0 : (0 : Int) ≤ (k : Int) := by omega
      have hl1 : (k : Int) < 9 := by omega
      have ga := nw_get 9 a k hlt
      have gb := nw_get 9 b k hlt
      have gs := nw_get 9 (addS a b k) k hlt
      have c0 : (0 : Int) ≤ ((addC a b k : Nat) : Int) := by omega
      have c1 : ((addC a b k : Nat) : Int) ≤ 1 := by have := addC_le a b k; omega
      have a0 : (0 : Int) ≤ ((wd a k : Nat) : Int) := by omega
      have b0 : (0 : Int) ≤ ((wd b k : Nat) : Int) := by omega
      go_wp2
      go_region_held3 (fun w' => w'.cell? ⟨w.heap.size, k, none⟩ = some (.int .u64 ((wd a k : Nat) : Int)) ∧ w'.cell? ⟨w.heap.size + 1, k, none⟩ = some (.int .u64 ((wd b k : Nat) : Int))) (simp [go_sem, *]) (simp only [add64 _ _ _ a0 b0 c0 c1])
      go_wp2
      go_roundw
      case rel =>
        refine ⟨k + 1, n + 1, by omega, by go_num, ?_, ?_⟩
        · rw [addC_int]
        · simp [go_sem, addS_set]
      case measure => simp [intOf]; omega
    · have hk9 : Hid (k = 9) := show k = 9 from by omega
      go_wp2
      exact bodyPost_ret (v := .tuple #[.agg (nw 9 (addS a b k)), .bool (((addC a b k : Nat) : Int) != 0)]) (by simp [results, Try.results75, go_sem, nw9_lit]) rfl ⟨by rw [hk9.out], (((((Gr.refl w).alloc _).alloc _).alloc _).alloc _).drewN _⟩

theorem add_any (a b : Nat) (ha : a < M) (hb : b < M) (w : World) :
    Calls Try.prog 75 #[.agg (nw 9 a), .agg (nw 9 b)] w fun e w' => e = .returned (.tuple #[.agg (nw 9 ((a + b) % M)), .bool (decide (M ≤ a + b))]) ∧ Gr w w' := by
  refine (add_raw a b w).mono fun e w' h => ⟨?_, h.2⟩
  rw [h.1, addS_M a b ha hb, addC_M a b ha hb]

theorem sub64w (a b k : Nat) (w : World) : (callFunc 68 #[.int .u64 ((wd a k : Nat) : Int), .int .u64 ((wd b k : Nat) : Int), .int .u64 ((subC a b k : Nat) : Int)]).run Try.prog w =
    .ok (.value (.tuple #[.int .u64 (((wd a k : Nat) - (wd b k : Nat) - (subC a b k : Nat) : Int) % 18446744073709551616), .int .u64 ((subC a b (k + 1) : Nat) : Int)])) w := by
  have h1 := wd_lt b k
  have h2 := subC_le a b k
  rw [sub64 _ _ _ (by omega) (by omega) (by omega) (by omega) (by omega), subC_int]

set_option maxRecDepth 100000 in
set_option maxHeartbeats 400000 in
theorem sub_raw (a b : Nat) (w : World) :
    Calls Try.prog 52 #[.agg (nw 9 a), .agg (nw 9 b)] w fun e w' => e = .returned (.tuple #[.agg (nw 9 (subS a b 9)), .bool (((subC a b 9 : Nat) : Int) != 0)]) ∧ Gr w w' := by
  go_enter Try.func52, Try.ntmps52
  go_wp2
  go_loopw [7, 9] (fun c i wr => ∃ k n : Nat, k ≤ 9 ∧ i = .int .i64 k ∧ c = .int .u64 (subC a b k) ∧ wr = (((((w.alloc (.cells (nw 9 a) 25)).alloc (.cells (nw 9 b) 25)).alloc (.cells (nw 9 0) 25)).alloc (.cells (nw 9 (subS a b k)) 25)).drewN n)) (fun _ i _ => 9 - (intOf i).toNat)
  case atStart => exact ⟨0, 0, by omega, rfl, by rw [subC_zero]; rfl, by rw [subS_zero, nw9_zero]; rfl⟩
  case round =>
    obtain ⟨k, n, hk, rfl, rfl, rfl⟩ := hrel
    by_cases hlt : k < 9
    · have hl0 : (0 : Int) ≤ (k : Int) := by omega
      have hl1 : (k : Int) < 9 := by omega
      have ga := nw_get 9 a k hlt
      have gb := nw_get 9 b k hlt
      have gs := nw_get 9 (subS a b k) k hlt
      go_wp2
      go_region_held3 (fun w' => w'.cell? ⟨w.heap.size, k, none⟩ = some (.int .u64 ((wd a k : Nat) : Int)) ∧ w'.cell? ⟨w.heap.size + 1, k, none⟩ = some (.int .u64 ((wd b k : Nat) : Int))) (simp [go_sem, *]) (simp only [sub64w])
      go_wp2
      go_roundw
      case rel =>
        refine ⟨k + 1, n + 1, by omega, by go_num, rfl, ?_⟩
        simp [go_sem, subS_set]
      case measure => simp [intOf]; omega
    · have hk9 : Hid (k = 9) := show k = 9 from by omega
      go_wp2
      exact bodyPost_ret (v := .tuple #[.agg (nw 9 (subS a b k)), .bool (((subC a b k : Nat) : Int) != 0)]) (by simp [results, Try.results52, go_sem, nw9_lit]) rfl ⟨by rw [hk9.out], (((((Gr.refl w).alloc _).alloc _).alloc _).alloc _).drewN _⟩

theorem sub_any (a b : Nat) (ha : a < M) (hb : b < M) (w : World) :
    Calls Try.prog 52 #[.agg (nw 9 a), .agg (nw 9 b)] w fun e w' => e = .returned (.tuple #[.agg (nw 9 ((a + M - b) % M)), .bool (decide (a < b))]) ∧ Gr w w' := by
  refine (sub_raw a b w).mono fun e w' h => ⟨?_, h.2⟩
  rw [h.1, subS_M a b ha hb, subC_M a b ha hb]

end Go.Proofs.Ytleckbdhebjfkaa
