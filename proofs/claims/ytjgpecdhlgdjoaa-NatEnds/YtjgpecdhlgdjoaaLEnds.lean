/-
  The statement NatEnds, walked: it answers true for every number.
-/
import Derived.Test.YtjgpecdhlgdjoaaAwake
import Derived.Test.YtjgpecdhlgdjoaaEq
import Derived.Test.YtjgpecdhlgdjoaaLBack
import Derived.Test.YtjgpecdhlgdjoaaLShifts
import Derived.Test.YtjgpecdhlgdjoaaQt
namespace Go.Proofs.Ytjgpecdhlgdjoaa
open Go.RowKit
attribute [local go_sem ↓] loadNat_is loadArr_is loadWide_is loadArrW_is storeNat_is storeWide_is
attribute [local go_sem] loadNat loadArr loadWide loadArrW storeNat storeWide idxArr fold9 fold18 nw_size nw_elem pre_self pre_1 pre_2 pre_3 pre_4 pre_5 pre_6 pre_7 pre_8 pre_9 pre_10 pre_11 pre_12 pre_13 pre_14 pre_15 pre_16 pre_17 pre_18 pre_19 pre_20 pre_21 pre_22 pre_23 pre_24 pre_25 pre_26 pre_27 pre_28 pre_29 pre_30 pre_31 pre_32 pre_33 pre_34 pre_35 pre_36 pre_37 pre_38 pre_39 pre_40 gro_size gro_drew gro_drewN drew_gro drewN_gro blk_gro frz_gro blk_drew frz_drew blk_drewN frz_drewN blk_alloc_at frz_alloc_at blk_alloc frz_alloc cell_gro frozen_gro cell_alloc_pre frozen_alloc_pre setCell_drewN alloc_drewN setBlk_drew setBlk_drewN setBlk_alloc_at setBlk_alloc setBlk_gro setCell_gro setCell_alloc_pre size_setBlk size_setCell
attribute [local go_sem] nw_ext9 nw_ext18 eqArr9 eqArr18 all_grow

theorem ones_set (n : Nat) : (nw 9 (pw n - 1)).setIfInBounds n (Value.int .u64 18446744073709551615) = nw 9 (pw (n + 1) - 1) := by
  have hp := pw_pos n
  have e : (18446744073709551615 : Int) = ((18446744073709551615 : Nat) : Int) := rfl
  rw [e, nw_set_top 9 _ n _ (by decide) (by omega), pow_succ64]
  refine congrArg (nw 9) ?_
  omega
theorem bl_top_M : bl (M - 1) = 576 := by
  have hM := M_pos
  refine bl_unique _ _ fun m => ?_
  constructor
  · intro h
    have h1 : bl (M - 1) ≤ 64 * 9 := (bl_le_pw (M - 1) 9).2 (by show M - 1 < M; omega)
    exact (bl_le (M - 1) m).1 (by omega)
  · intro h
    by_cases hm : 576 ≤ m
    · exact hm
    · obtain ⟨E, hE, hEM⟩ : ∃ E, m + 1 ≤ E ∧ 2 ^ E = M := by
        obtain ⟨E, hE⟩ : ∃ E, E = 64 * 9 := ⟨_, rfl⟩
        exact ⟨E, by omega, by rw [hE]; exact (show ∀ n, 2 ^ (64 * n) = pw n from fun _ => rfl) 9⟩
      have h4 : 2 ^ (m + 1) ≤ 2 ^ E := Nat.pow_le_pow_right (by decide) hE
      rw [Nat.pow_succ, hEM] at h4
      have h6 := Nat.two_pow_pos m
      omega
set_option maxRecDepth 100000 in
set_option maxHeartbeats 1000000 in
theorem ends_any (a : Nat) (ha : a < M) (w : World) :
    Calls Try.prog 12 #[.agg (nw 9 a)] w fun e w' => e = .returned (.bool true) ∧ Gr w w' := by
  have hM := M_pos
  obtain ⟨T, hT⟩ : ∃ T, M - 1 = T := ⟨_, rfl⟩
  have hTM : T < M := by omega
  obtain ⟨o, ho⟩ : ∃ o, (T + M - a) % M = o := ⟨_, rfl⟩
  have ho2 : o = T - a := by rw [← ho, show T + M - a = T - a + M from by omega, Nat.add_mod_right, Nat.mod_eq_of_lt (by omega)]
  have c1 := fun w => one_any 1 (by decide) w
  have c2 := fun w => add_any T 1 hTM (lt_M 1 (by decide)) w
  have c3 := fun w => sub_any 0 1 hM (lt_M 1 (by decide)) w
  have c4 := fun w => sub_any T a hTM ha w
  have c5 := fun w => add_any o a (by omega) ha w
  have c6 := fun w => bits_any T hTM w
  rw [show (T + 1) % M = 0 from by rw [← hT, show M - 1 + 1 = M from by omega, Nat.mod_self], decide_eq_true (show M ≤ T + 1 by omega)] at c2
  rw [show (0 + M - 1) % M = T from by rw [Nat.zero_add, hT, Nat.mod_eq_of_lt hTM], decide_eq_true (show 0 < 1 by decide)] at c3
  rw [ho, decide_eq_false (show ¬ T < a by omega)] at c4
  rw [show (o + a) % M = T from by rw [show o + a = T from by omega, Nat.mod_eq_of_lt hTM], decide_eq_false (show ¬ M ≤ o + a by omega)] at c5
  rw [show bl T = 576 from by rw [← hT]; exact bl_top_M] at c6
  have C1 : Hid (∀ w, Calls Try.prog 43 #[.int .u64 1] w fun e w' => e = .returned (.agg (nw 9 1)) ∧ Gr w w') := c1
  have C2 : Hid (∀ w, Calls Try.prog 15 #[.agg (nw 9 T), .agg (nw 9 1)] w fun e w' => e = .returned (.tuple #[.agg (nw 9 0), .bool true]) ∧ Gr w w') := c2
  have C3 : Hid (∀ w, Calls Try.prog 16 #[.agg (nw 9 0), .agg (nw 9 1)] w fun e w' => e = .returned (.tuple #[.agg (nw 9 T), .bool true]) ∧ Gr w w') := c3
  have C4 : Hid (∀ w, Calls Try.prog 16 #[.agg (nw 9 T), .agg (nw 9 a)] w fun e w' => e = .returned (.tuple #[.agg (nw 9 o), .bool false]) ∧ Gr w w') := c4
  have C5 : Hid (∀ w, Calls Try.prog 15 #[.agg (nw 9 o), .agg (nw 9 a)] w fun e w' => e = .returned (.tuple #[.agg (nw 9 T), .bool false]) ∧ Gr w w') := c5
  have C6 : Hid (∀ w, Calls Try.prog 31 #[.agg (nw 9 T)] w fun e w' => e = .returned (.int .i64 576) ∧ Gr w w') := c6
  have HT : Hid (Unit → M - 1 = T) := fun _ => hT
  have q1 := eqN_self 9 T
  have q2 := eqN_self 9 0
  clear c1 c2 c3 c4 c5 c6 hT hTM ho ho2 ha hM
  go_enter Try.func12, Try.ntmps12
  go_wp2_with ((go_at_call 27; refine (awake_any _).mono ?_; rintro e w' ⟨rfl, g, rfl⟩))
  go_loopw [4] (fun i wr => ∃ n U : Nat, n ≤ 9 ∧ i = .int .i64 (n : Int) ∧ pw n - 1 = U ∧ wr = (gro (w.alloc (.cells (nw 9 a) 25)) g).alloc (.cells (nw 9 U) 25)) (fun i _ => 9 - (intOf i).toNat)
  case atStart => exact ⟨0, 0, by omega, rfl, by rw [pw_zero], rfl⟩
  case round =>
    obtain ⟨n, U, hn, rfl, hU, rfl⟩ := hrel
    have HU : Hid (Unit → pw n - 1 = U) := fun _ => hU
    clear hU
    by_cases hlt : n < 9
    · have n0 : (0 : Int) ≤ (n : Int) := by omega
      have n1 : (n : Int) < 9 := by omega
      have gu := nw_get 9 U n hlt
      clear hn
      go_wp2
      go_roundw
      case rel => exact ⟨n + 1, pw (n + 1) - 1, by omega, by go_num, rfl, by rw [← HU.out (), ones_set]⟩
      case measure => simp [intOf]; omega
    · have hni : ¬ (n : Int) < 9 := by omega
      have h9 : Hid (Unit → U = T) := fun _ => by
        rw [← HT.out (), ← HU.out (), show n = 9 from by omega, show pw 9 = M from rfl]
      clear hlt hn
      obtain rfl : U = T := h9.out ()
      clear h9 HU HT
      go_wp2_with fail
      go_region_held3 (fun v => blk v (w.heap.size + 1 + g.os.length) = nw 9 U ∧ Pre (w.heap.size + 1 + g.os.length + 1) v.heap.size) (simp [go_sem, *]) (first | (go_at_call 43; refine (C1.out _).mono ?_; rintro e w' ⟨rfl, g, rfl⟩) | (go_at_call 15; refine (C2.out _).mono ?_; rintro e w' ⟨rfl, g, rfl⟩))
      all_goals
        go_wp2_with (first
          | (go_at_call 43; refine (C1.out _).mono ?_; rintro e w' ⟨rfl, g, rfl⟩)
          | (go_at_call_of 16 (Value.agg (nw 9 1)); refine (C3.out _).mono ?_; rintro e w' ⟨rfl, g, rfl⟩)
          | (go_at_call 16; refine (C4.out _).mono ?_; rintro e w' ⟨rfl, g, rfl⟩)
          | (go_at_call 15; refine (C5.out _).mono ?_; rintro e w' ⟨rfl, g, rfl⟩)
          | (go_at_call 31; refine (C6.out _).mono ?_; rintro e w' ⟨rfl, g, rfl⟩))
        go_ret
        exact ⟨rfl, (by repeat (first | exact Gr.refl _ | apply Gr.drewN | apply Gr.drew | apply Gr.alloc | apply Gr.gro))⟩

end Go.Proofs.Ytjgpecdhlgdjoaa
