/-
  mask.Select and mask.Swap: what they hand back.
-/
import Derived.Test.YthfndlhjhlmcfaaME
namespace Go.Proofs.Ythfndlhjhlmcfaa
open Go.RowKit
attribute [local go_sem ↓] loadNat_is loadArr_is storeNat_is
attribute [local go_sem] loadNat loadArr storeNat idxArr fold9 fold18 nw_size nw_elem pre_self pre_1 pre_2 pre_3 pre_4 pre_5 pre_6 pre_7 pre_8 pre_9 pre_10 pre_11 pre_12 pre_13 pre_14 pre_15 pre_16 pre_17 pre_18 pre_19 pre_20 pre_21 pre_22 pre_23 pre_24 pre_25 pre_26 pre_27 pre_28 pre_29 pre_30 pre_31 pre_32 pre_33 pre_34 pre_35 pre_36 pre_37 pre_38 pre_39 pre_40 gro_size gro_drew gro_drewN drew_gro drewN_gro gro_gro blk_gro frz_gro blk_drew frz_drew blk_drewN frz_drewN blk_alloc_at frz_alloc_at blk_alloc frz_alloc cell_gro frozen_gro cell_alloc_pre frozen_alloc_pre setCell_drewN alloc_drewN setBlk_drew setBlk_drewN setBlk_alloc_at setBlk_alloc setBlk_gro setCell_gro setCell_alloc_pre size_setBlk size_setCell
set_option maxRecDepth 100000 in
set_option maxHeartbeats 400000 in
theorem select_any (m a b : Nat) (hm : m < 18446744073709551616) (w : World) :
    Calls Try.prog 15 #[.int .u64 (m : Int), .agg (nw 9 a), .agg (nw 9 b)] w fun e w' => e = .returned (.agg (nw 9 (selN m a b))) ∧ Gr w w' := by
  have hmf : ∀ (fn : Fn) (first cap : Array Value) (w : World), (Instr.makeFunc fn first cap).run Try.prog w = .ok (.func fn first cap) w := fun _ _ _ _ => rfl
  have C : Hid (∀ w, Calls Try.prog 21 #[.func (.func 20) #[.int .u64 (m : Int)] #[], .agg (nw 9 a), .agg (nw 9 b)] w fun e w' => e = .returned (.agg (nw 9 (selN m a b))) ∧ Gr w w') := fun w => each_any m a b hm w
  go_enter Try.func15, Try.ntmps15
  go_wp2_with (go_at_call 21; refine (C.out _).mono ?_; rintro e w' ⟨rfl, g, rfl⟩)
  exact bodyPost_ret (v := .agg (nw 9 (selN m a b))) (by simp [results, Try.results15, go_sem, nw9_lit]) rfl ⟨rfl, (by repeat (first | exact Gr.refl _ | apply Gr.drewN | apply Gr.drew | apply Gr.alloc | apply Gr.gro))⟩

set_option maxRecDepth 100000 in
set_option maxHeartbeats 1000000 in
theorem swap_any (m a b : Nat) (hm : m < 18446744073709551616) (w : World) :
    Calls Try.prog 14 #[.int .u64 (m : Int), .agg (nw 9 a), .agg (nw 9 b)] w fun e w' => e = .returned (.tuple #[.agg (nw 9 (selN m b a)), .agg (nw 9 (selN m a b))]) ∧ Gr w w' := by
  have hmf : ∀ (fn : Fn) (first cap : Array Value) (w : World), (Instr.makeFunc fn first cap).run Try.prog w = .ok (.func fn first cap) w := fun _ _ _ _ => rfl
  have C : Hid (∀ (a b : Nat) w, Calls Try.prog 21 #[.func (.func 20) #[.int .u64 (m : Int)] #[], .agg (nw 9 a), .agg (nw 9 b)] w fun e w' => e = .returned (.agg (nw 9 (selN m a b))) ∧ Gr w w') := fun a b w => each_any m a b hm w
  go_enter Try.func14, Try.ntmps14
  go_wp2_with fail
  go_region_held3 (fun v => blk v (w.heap.size) = nw 9 a ∧ blk v (w.heap.size + 1) = nw 9 b ∧ Pre (w.heap.size + 1 + 1 + 1 + 1) v.heap.size) (simp [go_sem, *]) (first | (go_at_call 21; refine (C.out _ _ _).mono ?_; rintro e w' ⟨rfl, g, rfl⟩))
  all_goals
    go_wp2
    exact bodyPost_ret (v := .tuple #[.agg (nw 9 (selN m b a)), .agg (nw 9 (selN m a b))]) (by simp [results, Try.results14, go_sem, nw9_lit]) rfl ⟨rfl, (by repeat (first | exact Gr.refl _ | apply Gr.drewN | apply Gr.drew | apply Gr.alloc | apply Gr.gro))⟩

end Go.Proofs.Ythfndlhjhlmcfaa
