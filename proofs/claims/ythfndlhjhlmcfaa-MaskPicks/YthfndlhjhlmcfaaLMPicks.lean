/-
  The statement MaskPicks, walked: it answers true for every word and every two numbers.
-/
import Derived.Test.YthfndlhjhlmcfaaMAw
import Derived.Test.YthfndlhjhlmcfaaQt
namespace Go.Proofs.Ythfndlhjhlmcfaa
open Go.RowKit
attribute [local go_sem ↓] loadNat_is loadArr_is storeNat_is
attribute [local go_sem] loadNat loadArr storeNat idxArr fold9 fold18 nw_size nw_elem pre_self pre_1 pre_2 pre_3 pre_4 pre_5 pre_6 pre_7 pre_8 pre_9 pre_10 pre_11 pre_12 pre_13 pre_14 pre_15 pre_16 pre_17 pre_18 pre_19 pre_20 pre_21 pre_22 pre_23 pre_24 pre_25 pre_26 pre_27 pre_28 pre_29 pre_30 pre_31 pre_32 pre_33 pre_34 pre_35 pre_36 pre_37 pre_38 pre_39 pre_40 gro_size gro_drew gro_drewN drew_gro drewN_gro blk_gro frz_gro blk_drew frz_drew blk_drewN frz_drewN blk_alloc_at frz_alloc_at blk_alloc frz_alloc cell_gro frozen_gro cell_alloc_pre frozen_alloc_pre setCell_drewN alloc_drewN setBlk_drew setBlk_drewN setBlk_alloc_at setBlk_alloc setBlk_gro setCell_gro setCell_alloc_pre size_setBlk size_setCell
attribute [local go_sem] nw_ext9 nw_ext18 eqArr9 all_grow

theorem pick_val (m x y : Nat) (hm : m < 18446744073709551616) (hx : x < 18446744073709551616) (hy : y < 18446744073709551616) :
    bits .or .u64 (bits .and .u64 (x : Int) (m : Int)) (bits .andNot .u64 (y : Int) (m : Int)) = ((sel m x y : Nat) : Int) := by
  rw [bits_and_u64_nat _ _ hx hm, bits_andNot_u64_nat _ _ hy hm, bits_or_u64_nat _ _ (and_lt x hm) (and_lt y (not64_lt m)), pick_sel m x y hm hx hy]
set_option maxRecDepth 100000 in
set_option maxHeartbeats 1600000 in
theorem picks_any (m a b : Nat) (hm : m < 18446744073709551616) (w : World) :
    Calls Try.prog 4 #[.int .u64 (m : Int), .agg (nw 9 a), .agg (nw 9 b)] w fun e w' => e = .returned (.bool true) ∧ Gr w w' := by
  have hf := selF_lt m a b
  have hg := selF_lt m b a
  have c1 := fun w => swap_any m a b hm w
  have c2 := fun w => select_any m a b hm w
  obtain ⟨X, hX⟩ : ∃ X, selN m a b = X := ⟨_, rfl⟩
  obtain ⟨Y, hY⟩ : ∃ Y, selN m b a = Y := ⟨_, rfl⟩
  rw [hX, hY] at c1
  rw [hX] at c2
  have C1 : Hid (∀ w, Calls Try.prog 14 #[.int .u64 (m : Int), .agg (nw 9 a), .agg (nw 9 b)] w fun e w' => e = .returned (.tuple #[.agg (nw 9 Y), .agg (nw 9 X)]) ∧ Gr w w') := c1
  have C2 : Hid (∀ w, Calls Try.prog 15 #[.int .u64 (m : Int), .agg (nw 9 a), .agg (nw 9 b)] w fun e w' => e = .returned (.agg (nw 9 X)) ∧ Gr w w') := c2
  have HX : Hid (Unit → selN m a b = X) := fun _ => hX
  have HY : Hid (Unit → selN m b a = Y) := fun _ => hY
  have q1 := eqN_self 9 X
  have q2 := eqN_self 9 Y
  clear c1 c2 hX hY
  go_enter Try.func4, Try.ntmps4
  go_wp2
  go_loopw [9] (fun i wr => ∃ k n : Nat, k ≤ 9 ∧ i = .int .i64 k ∧ wr = (((((w.alloc (.cells (nw 9 a) 31)).alloc (.cells (nw 9 b) 31)).alloc (.cells (nw 9 (ofw (fun i => sel m (wd a i) (wd b i)) k)) 31)).alloc (.cells (nw 9 (ofw (fun i => sel m (wd b i) (wd a i)) k)) 31)).drewN n)) (fun i _ => 9 - (intOf i).toNat)
  case atStart => exact ⟨0, 0, by omega, rfl, by rw [ofw, ofw, nw9_zero]; rfl⟩
  case round =>
    obtain ⟨k, n, hk, rfl, rfl⟩ := hrel
    by_cases hlt : k < 9
    · have hl0 : (0 : Int) ≤ (k : Int) := by omega
      have hl1 : (k : Int) < 9 := by omega
      have ga := nw_get 9 a k hlt
      have gb := nw_get 9 b k hlt
      have gs := nw_get 9 (ofw (fun i => sel m (wd a i) (wd b i)) k) k hlt
      have gt := nw_get 9 (ofw (fun i => sel m (wd b i) (wd a i)) k) k hlt
      have p1 := pick_val m (wd a k) (wd b k) hm (wd_lt a k) (wd_lt b k)
      have p2 := pick_val m (wd b k) (wd a k) hm (wd_lt b k) (wd_lt a k)
      go_wp2
      go_region_held3 (fun w' => w'.cell? ⟨w.heap.size, k, none⟩ = some (.int .u64 ((wd a k : Nat) : Int)) ∧ w'.cell? ⟨w.heap.size + 1, k, none⟩ = some (.int .u64 ((wd b k : Nat) : Int))) (simp [go_sem, *]) (fail)
      go_wp2
      go_region_held3 (fun w' => w'.cell? ⟨w.heap.size, k, none⟩ = some (.int .u64 ((wd a k : Nat) : Int)) ∧ w'.cell? ⟨w.heap.size + 1, k, none⟩ = some (.int .u64 ((wd b k : Nat) : Int))) (simp [go_sem, *]) (fail)
      go_wp2
      go_roundw
      case rel =>
        refine ⟨k + 1, n + 1 + 1, by omega, by go_num, ?_⟩
        simp [go_sem, ofw_set _ hf, ofw_set _ hg]
      case measure => simp [intOf]; omega
    · have hk9 : k = 9 := by omega
      have e1 : ofw (fun i => sel m (wd a i) (wd b i)) k = X := by rw [hk9]; exact HX.out ()
      have e2 : ofw (fun i => sel m (wd b i) (wd a i)) k = Y := by rw [hk9]; exact HY.out ()
      rw [e1, e2]
      have hx : (9 : Int) ≤ (k : Int) := by omega
      clear e1 e2 hf hg hk9 hlt hk HX HY
      go_wp2_with (first
        | (go_at_call 14; refine (C1.out _).mono ?_; rintro e w' ⟨rfl, g, rfl⟩))
      refine wp_region_gr (by kernel_rfl) (by kernel_rfl) ?_
      repeat (go_big_quiet_step (first
        | (go_at_call 13; exact calls_gr (awake2_any _))
        | (go_at_call 15; exact calls_gr (C2.out _))))
      refine wpQuiet_nil ?_
      intro w2 hw2
      obtain ⟨gq, hw3⟩ := hw2
      subst hw3
      go_wp2
      go_ret
      exact ⟨rfl, (by repeat (first | exact Gr.refl _ | apply Gr.drewN | apply Gr.drew | apply Gr.alloc | apply Gr.gro))⟩
end Go.Proofs.Ythfndlhjhlmcfaa
