/-
  mask.eachWord, Select, Swap: what they hand back.
-/
import Derived.Test.YthfndlhjhlmcfaaMA
namespace Go.Proofs.Ythfndlhjhlmcfaa
open Go.RowKit
attribute [local go_sem ↓] loadNat_is loadArr_is storeNat_is
attribute [local go_sem] loadNat loadArr storeNat idxArr fold9 fold18 nw_size nw_elem pre_self pre_1 pre_2 pre_3 pre_4 pre_5 pre_6 pre_7 pre_8 pre_9 pre_10 pre_11 pre_12 pre_13 pre_14 pre_15 pre_16 pre_17 pre_18 pre_19 pre_20 pre_21 pre_22 pre_23 pre_24 pre_25 pre_26 pre_27 pre_28 pre_29 pre_30 pre_31 pre_32 pre_33 pre_34 pre_35 pre_36 pre_37 pre_38 pre_39 pre_40 gro_size gro_drew gro_drewN drew_gro drewN_gro gro_gro blk_gro frz_gro blk_drew frz_drew blk_drewN frz_drewN blk_alloc_at frz_alloc_at blk_alloc frz_alloc cell_gro frozen_gro cell_alloc_pre frozen_alloc_pre setCell_drewN alloc_drewN setBlk_drew setBlk_drewN setBlk_alloc_at setBlk_alloc setBlk_gro setCell_gro setCell_alloc_pre size_setBlk size_setCell
set_option maxRecDepth 100000 in
set_option maxHeartbeats 400000 in
theorem each_any (m a b : Nat) (hm : m < 18446744073709551616) (w : World) :
    Calls Try.prog 21 #[.func (.func 20) #[.int .u64 (m : Int)] #[], .agg (nw 9 a), .agg (nw 9 b)] w fun e w' => e = .returned (.agg (nw 9 (selN m a b))) ∧ Gr w w' := by
  have hf := selF_lt m a b
  go_enter Try.func21, Try.ntmps21
  go_wp2
  go_loopw [9] (fun i wr => ∃ k n : Nat, k ≤ 9 ∧ i = .int .i64 k ∧ wr = (((((w.alloc (.cells (nw 9 a) 31)).alloc (.cells (nw 9 b) 31)).alloc (.cells (nw 9 0) 31)).alloc (.cells (nw 9 (ofw (fun i => sel m (wd a i) (wd b i)) k)) 31)).drewN n)) (fun i _ => 9 - (intOf i).toNat)
  case atStart => exact ⟨0, 0, by omega, rfl, by rw [ofw, nw9_zero]; rfl⟩
  case round =>
    obtain ⟨k, n, hk, rfl, rfl⟩ := hrel
    by_cases hlt : k < 9
    · have hl0 : (0 : Int) ≤ (k : Int) := by omega
      have hl1 : (k : Int) < 9 := by omega
      have ga := nw_get 9 a k hlt
      have gb := nw_get 9 b k hlt
      have gs := nw_get 9 (ofw (fun i => sel m (wd a i) (wd b i)) k) k hlt
      have hc := fun w => between_any m (wd a k) (wd b k) hm (wd_lt a k) (wd_lt b k) w
      go_wp2
      go_region_held3 (fun w' => w'.cell? ⟨w.heap.size, k, none⟩ = some (.int .u64 ((wd a k : Nat) : Int)) ∧ w'.cell? ⟨w.heap.size + 1, k, none⟩ = some (.int .u64 ((wd b k : Nat) : Int))) (simp [go_sem, *]) (first | (go_at_call 20; refine (hc _).mono ?_; rintro e w' ⟨rfl, rfl⟩))
      go_wp2
      go_roundw
      case rel =>
        refine ⟨k + 1, n + 1, by omega, by go_num, ?_⟩
        simp [go_sem, ofw_set _ hf]
      case measure => simp [intOf]; omega
    · have hk9 : Hid (k = 9) := show k = 9 from by omega
      go_wp2
      exact bodyPost_ret (v := .agg (nw 9 (ofw (fun i => sel m (wd a i) (wd b i)) k))) (by simp [results, Try.results21, go_sem, nw9_lit]) rfl ⟨by rw [hk9.out]; rfl, (((((Gr.refl w).alloc _).alloc _).alloc _).alloc _).drewN _⟩

end Go.Proofs.Ythfndlhjhlmcfaa
