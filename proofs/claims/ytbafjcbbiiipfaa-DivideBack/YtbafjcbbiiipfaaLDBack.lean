/-
  The statement DivideBack, walked: it answers true for every two numbers.
-/
import Derived.Test.YtbafjcbbiiipfaaDAw
import Derived.Test.YtbafjcbbiiipfaaSmB
namespace Go.Proofs.Ytbafjcbbiiipfaa
open Go.RowKit
attribute [local go_sem ↓] loadNat_is loadArr_is loadWide_is loadArrW_is storeNat_is storeWide_is
attribute [local go_sem] loadNat loadArr loadWide loadArrW storeNat storeWide idxArr fold9 fold18 nw_size nw_elem pre_self pre_1 pre_2 pre_3 pre_4 pre_5 pre_6 pre_7 pre_8 pre_9 pre_10 pre_11 pre_12 pre_13 pre_14 pre_15 pre_16 pre_17 pre_18 pre_19 pre_20 pre_21 pre_22 pre_23 pre_24 pre_25 pre_26 pre_27 pre_28 pre_29 pre_30 pre_31 pre_32 pre_33 pre_34 pre_35 pre_36 pre_37 pre_38 pre_39 pre_40 gro_size gro_drew gro_drewN drew_gro drewN_gro gro_gro blk_gro frz_gro blk_drew frz_drew blk_drewN frz_drewN blk_alloc_at frz_alloc_at blk_alloc frz_alloc cell_gro frozen_gro cell_alloc_pre frozen_alloc_pre setCell_drewN alloc_drewN setBlk_drew setBlk_drewN setBlk_alloc_at setBlk_alloc setBlk_gro setCell_gro setCell_alloc_pre size_setBlk size_setCell
attribute [local go_sem] nw_ext9 nw_ext18 eqArr9 eqArr18

attribute [local go_sem] loadNat2 loadArr2 loadWide2 loadK_nw ppre_1 ppre_2 ppre_3 ppre_4 ppre_5 ppre_6 ppre_7 ppre_8 ppre_9 ppre_10 ppre_11 ppre_12 ppre_13 ppre_14 ppre_15 ppre_16 ppre_17 ppre_18 ppre_19 ppre_20

attribute [local go_sem] eqN_self
theorem wd_high (v k : Nat) (h : v < M) (hk : 9 ≤ k) : wd v k = 0 := by
  unfold wd
  rw [Nat.div_eq_of_lt (Nat.lt_of_lt_of_le h (pw_up 9 k hk))]
set_option maxRecDepth 100000 in
set_option maxHeartbeats 1600000 in
theorem dback_more (a m q r P : Nat) (hP : P < M) (cd : ∀ w, Calls Try.prog 12 #[.agg (nw 9 a), .agg (nw 9 m)] w fun e w' => e = .returned (.tuple #[.agg (nw 9 q), .agg (nw 9 r), .int .i64 0]) ∧ Gr w w') (cm : ∀ w, Calls Try.prog 27 #[.agg (nw 9 q), .agg (nw 9 m)] w fun e w' => e = .returned (.agg (nw 18 P)) ∧ Gr w w') (ca : ∀ w, Calls Try.prog 28 #[.agg (nw 9 P), .agg (nw 9 r)] w fun e w' => e = .returned (.tuple #[.agg (nw 9 a), .bool false]) ∧ Gr w w') (cz : ∀ w, Calls Try.prog 29 #[.agg (nw 9 r), .agg (nw 9 m)] w fun e w' => e = .returned (.int .i64 (-1)) ∧ Gr w w') (w : World) :
    Calls Try.prog 5 #[.agg (nw 9 a), .agg (nw 9 m)] w fun e w' => e = .returned (.bool true) ∧ Gr w w' := by
  have CD : Hid (∀ w, Calls Try.prog 12 #[.agg (nw 9 a), .agg (nw 9 m)] w fun e w' => e = .returned (.tuple #[.agg (nw 9 q), .agg (nw 9 r), .int .i64 0]) ∧ Gr w w') := cd
  have CM : Hid (∀ w, Calls Try.prog 27 #[.agg (nw 9 q), .agg (nw 9 m)] w fun e w' => e = .returned (.agg (nw 18 P)) ∧ Gr w w') := cm
  have CA : Hid (∀ w, Calls Try.prog 28 #[.agg (nw 9 P), .agg (nw 9 r)] w fun e w' => e = .returned (.tuple #[.agg (nw 9 a), .bool false]) ∧ Gr w w') := ca
  have CZ : Hid (∀ w, Calls Try.prog 29 #[.agg (nw 9 r), .agg (nw 9 m)] w fun e w' => e = .returned (.int .i64 (-1)) ∧ Gr w w') := cz
  have HP : Hid (Unit → P < M) := fun _ => hP
  have e1 := eqN_self 9 a
  clear cd cm ca cz hP
  go_enter Try.func5, Try.ntmps5
  go_wp2_with (first
    | (go_at_call 17; refine (awake4_any _).mono ?_; rintro e w' ⟨rfl, gaw, rfl⟩)
    | (go_at_call 12; refine (CD.out _).mono ?_; rintro e w' ⟨rfl, gd, rfl⟩)
    | (go_at_call 27; refine (CM.out _).mono ?_; rintro e w' ⟨rfl, gm, rfl⟩)
    | (go_at_call 16; refine (num_any _ _).mono ?_; rintro e w' ⟨rfl, rfl⟩))
  go_loopw [10] (fun i wr => ∃ (n U : Nat), n ≤ 9 ∧ i = .int .i64 (n : Int) ∧ Hid (Unit → P % pw n = U) ∧ wr = (((gro (((gro ((w.alloc (.cells (nw 9 a) 25)).alloc (.cells (nw 9 m) 25)) { os := gaw.os ++ gd.os, n := gaw.n + gd.n }).alloc (.cells (nw 9 q) 25)).alloc (.cells (nw 9 r) 25)) gm).alloc (.cells (nw 18 P) 28)).alloc (.cells (nw 9 U) 25))) (fun i _ => 9 - (intOf i).toNat)
  case atStart => exact ⟨0, 0, by omega, rfl, fun _ => by rw [pw_zero, Nat.mod_one], rfl⟩
  case round =>
    obtain ⟨n, U, hn, rfl, HU, rfl⟩ := hrel
    have HL : Hid (Unit → U < pw n) := fun _ => by rw [← HU.out ()]; exact Nat.mod_lt _ (pw_pos n)
    by_cases hlt : n < 9
    · have n0 : (0 : Int) ≤ (n : Int) := by omega
      have n1 : (n : Int) < 9 := by omega
      have n18 : n < 18 := by omega
      have m18 : 9 + n < 18 := by omega
      have ga := nw_get 18 P n n18
      have gb := nw_get 18 P (9 + n) m18
      have gu := nw_get 9 U n hlt
      have hz := wd_high P (9 + n) (HP.out ()) (by omega)
      clear hn
      go_wp2_with fail
      go_roundw
      case rel =>
        refine ⟨n + 1, U + wd P n * pw n, by omega, by go_num, fun _ => by rw [← HU.out ()]; exact mod_succ P n, ?_⟩
        rw [nw_set_top 9 U n (wd P n) (wd_lt _ _) (HL.out ())]
      case measure => simp [intOf]; omega
    · have hni : ¬ (n : Int) < 9 := by omega
      obtain rfl : n = 9 := by omega
      obtain rfl : U = P := by rw [← HU.out ()]; exact Nat.mod_eq_of_lt (HP.out ())
      clear hlt hn HU HL
      go_wp2_with (first
        | (go_at_call 28; refine (CA.out _).mono ?_; rintro e w' ⟨rfl, ga, rfl⟩)
        | (go_at_call 29; refine (CZ.out _).mono ?_; rintro e w' ⟨rfl, gz, rfl⟩))
      go_ret
      exact ⟨rfl, (by repeat (first | exact Gr.refl _ | apply Gr.drewN | apply Gr.drew | apply Gr.alloc | apply Gr.gro))⟩
set_option maxRecDepth 100000 in
set_option maxHeartbeats 1600000 in
theorem dback_zero (a : Nat) (w : World) :
    Calls Try.prog 5 #[.agg (nw 9 a), .agg (nw 9 0)] w fun e w' => e = .returned (.bool true) ∧ Gr w w' := by
  have e1 := eqN_self 9 0
  go_enter Try.func5, Try.ntmps5
  go_wp2_with (first
    | (go_at_call 17; refine (awake4_any _).mono ?_; rintro e w' ⟨rfl, gaw, rfl⟩)
    | (go_at_call 12; refine (div_zero _ _).mono ?_; rintro e w' ⟨rfl, gd, rfl⟩)
    | (go_at_call 16; refine (num_any _ _).mono ?_; rintro e w' ⟨rfl, rfl⟩))
  go_ret
  exact ⟨rfl, (by repeat (first | exact Gr.refl _ | apply Gr.drewN | apply Gr.drew | apply Gr.alloc | apply Gr.gro))⟩
theorem dback_any (a m : Nat) (ha : a < M) (hm : m < M) (w : World) :
    Calls Try.prog 5 #[.agg (nw 9 a), .agg (nw 9 m)] w fun e w' => e = .returned (.bool true) ∧ Gr w w' := by
  by_cases h0 : m = 0
  · subst h0
    exact dback_zero a w
  · have m0 : 0 < m := by omega
    have hr : a % m < m := Nat.mod_lt _ m0
    have hp : a / m * m ≤ a := Nat.div_mul_le_self a m
    have he : a / m * m + a % m = a := by rw [Nat.mul_comm]; exact Nat.div_add_mod a m
    refine dback_more a m (a / m) (a % m) (a / m * m) (by omega) (fun w => div_any a m ha m0 hm w) (fun w => mul_any (a / m) m (div_lt a m ha) hm w) (fun w => ?_) (fun w => ?_) w
    · have := add_any (a / m * m) (a % m) (by omega) (by omega) w
      rw [he, Nat.mod_eq_of_lt ha, decide_eq_false (by omega)] at this
      exact this
    · have := cmp_any (a % m) m (by omega) hm w
      rw [show cmpZ (a % m) m = -1 by unfold cmpZ; rw [if_pos hr]] at this
      exact this

end Go.Proofs.Ytbafjcbbiiipfaa
