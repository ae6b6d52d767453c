/-
  The statement DivideTimes, walked: it answers true for every four numbers.
-/
import Derived.Test.YtbafjcbbiiipfaaDAw
namespace Go.Proofs.Ytbafjcbbiiipfaa
open Go.RowKit
attribute [local go_sem ↓] loadNat_is loadArr_is loadWide_is loadArrW_is storeNat_is storeWide_is
attribute [local go_sem] loadNat loadArr loadWide loadArrW storeNat storeWide idxArr fold9 fold18 nw_size nw_elem pre_self pre_1 pre_2 pre_3 pre_4 pre_5 pre_6 pre_7 pre_8 pre_9 pre_10 pre_11 pre_12 pre_13 pre_14 pre_15 pre_16 pre_17 pre_18 pre_19 pre_20 pre_21 pre_22 pre_23 pre_24 pre_25 pre_26 pre_27 pre_28 pre_29 pre_30 pre_31 pre_32 pre_33 pre_34 pre_35 pre_36 pre_37 pre_38 pre_39 pre_40 gro_size gro_drew gro_drewN drew_gro drewN_gro gro_gro blk_gro frz_gro blk_drew frz_drew blk_drewN frz_drewN blk_alloc_at frz_alloc_at blk_alloc frz_alloc cell_gro frozen_gro cell_alloc_pre frozen_alloc_pre setCell_drewN alloc_drewN setBlk_drew setBlk_drewN setBlk_alloc_at setBlk_alloc setBlk_gro setCell_gro setCell_alloc_pre size_setBlk size_setCell
attribute [local go_sem] nw_ext9 nw_ext18 eqArr9 eqArr18

attribute [local go_sem] loadNat2 loadArr2 loadWide2 loadK_nw ppre_1 ppre_2 ppre_3 ppre_4 ppre_5 ppre_6 ppre_7 ppre_8 ppre_9 ppre_10 ppre_11 ppre_12 ppre_13 ppre_14 ppre_15 ppre_16 ppre_17 ppre_18 ppre_19 ppre_20

attribute [local go_sem] eqN_self
attribute [local go_sem ↓] Go.wp_at_zero Go.wp_at_succ

set_option maxRecDepth 100000 in
set_option maxHeartbeats 1600000 in
theorem dtimes_any (a b c m : Nat) (ha : a < M) (hb : b < M) (hc : c < M) (hm : m < M) (w : World) :
    Calls Try.prog 11 #[.agg (nw 9 a), .agg (nw 9 b), .agg (nw 9 c), .agg (nw 9 m)] w fun e w' => e = .returned (.bool true) ∧ Gr w w' := by
  by_cases h0 : m = 0
  · subst h0
    have e0 := eqN_self 9 0
    go_enter Try.func11, Try.ntmps11
    go_wp2_with (go_at_call 17; refine (awake4_any _).mono ?_; rintro e w' ⟨rfl, gaw, rfl⟩)
    go_ret
    exact ⟨rfl, (by repeat (first | exact Gr.refl _ | apply Gr.drewN | apply Gr.drew | apply Gr.alloc | apply Gr.gro))⟩
  · have m0 : 0 < m := by omega
    have hM : ∀ x, x % m < M := fun x => Nat.lt_trans (Nat.mod_lt _ m0) hm
    have e0 : eqN 9 m 0 = false := by rw [eqN9 m 0 hm M_pos]; exact decide_eq_false h0
    have c1 := fun w => mulMod_any a b m ha hb m0 hm w
    have c2 := fun w => mulMod_any (a * b % m) c m (hM _) hc m0 hm w
    have c3 := fun w => mulMod_any b c m hb hc m0 hm w
    have c4 := fun w => mulMod_any a (b * c % m) m ha (hM _) m0 hm w
    have c5 := fun w => mulMod_any m a m hm ha m0 hm w
    have eq : a * (b * c % m) % m = a * b % m * c % m := by
      rw [Nat.mod_mul_mod, Nat.mul_assoc, Nat.mul_mod, Nat.mod_mod, ← Nat.mul_mod]
    rw [eq] at c4
    rw [Nat.mul_mod_right] at c5
    obtain ⟨p, hp⟩ : ∃ p, a * b % m = p := ⟨_, rfl⟩
    obtain ⟨r, hr⟩ : ∃ r, b * c % m = r := ⟨_, rfl⟩
    rw [hp] at c1 c2 c4
    rw [hr] at c3 c4
    obtain ⟨q, hq⟩ : ∃ q, p * c % m = q := ⟨_, rfl⟩
    rw [hq] at c2 c4
    have C1 : Hid (∀ w, Calls Try.prog 14 #[.agg (nw 9 a), .agg (nw 9 b), .agg (nw 9 m)] w fun e w' => e = .returned (.tuple #[.agg (nw 9 p), .int .i64 0]) ∧ Gr w w') := c1
    have C2 : Hid (∀ w, Calls Try.prog 14 #[.agg (nw 9 p), .agg (nw 9 c), .agg (nw 9 m)] w fun e w' => e = .returned (.tuple #[.agg (nw 9 q), .int .i64 0]) ∧ Gr w w') := c2
    have C3 : Hid (∀ w, Calls Try.prog 14 #[.agg (nw 9 b), .agg (nw 9 c), .agg (nw 9 m)] w fun e w' => e = .returned (.tuple #[.agg (nw 9 r), .int .i64 0]) ∧ Gr w w') := c3
    have C4 : Hid (∀ w, Calls Try.prog 14 #[.agg (nw 9 a), .agg (nw 9 r), .agg (nw 9 m)] w fun e w' => e = .returned (.tuple #[.agg (nw 9 q), .int .i64 0]) ∧ Gr w w') := c4
    have C5 : Hid (∀ w, Calls Try.prog 14 #[.agg (nw 9 m), .agg (nw 9 a), .agg (nw 9 m)] w fun e w' => e = .returned (.tuple #[.agg (nw 9 0), .int .i64 0]) ∧ Gr w w') := c5
    have eq1 := eqN_self 9 q
    have eq2 := eqN_self 9 0
    clear c1 c2 c3 c4 c5 eq hp hr hq hM h0 m0 ha hb hc hm
    go_enter Try.func11, Try.ntmps11
    go_wp2_with (first
        | (go_at_call_of 14 ((#[.agg (nw 9 a), .agg (nw 9 b), .agg (nw 9 m)] : Array Value)); refine (C1.out _).mono ?_; rintro e w' ⟨rfl, gC1, rfl⟩)
        | (go_at_call_of 14 ((#[.agg (nw 9 p), .agg (nw 9 c), .agg (nw 9 m)] : Array Value)); refine (C2.out _).mono ?_; rintro e w' ⟨rfl, gC2, rfl⟩)
        | (go_at_call_of 14 ((#[.agg (nw 9 b), .agg (nw 9 c), .agg (nw 9 m)] : Array Value)); refine (C3.out _).mono ?_; rintro e w' ⟨rfl, gC3, rfl⟩)
        | (go_at_call_of 14 ((#[.agg (nw 9 a), .agg (nw 9 r), .agg (nw 9 m)] : Array Value)); refine (C4.out _).mono ?_; rintro e w' ⟨rfl, gC4, rfl⟩)
        | (go_at_call_of 14 ((#[.agg (nw 9 m), .agg (nw 9 a), .agg (nw 9 m)] : Array Value)); refine (C5.out _).mono ?_; rintro e w' ⟨rfl, gC5, rfl⟩)
        | (go_at_call 17; refine (awake4_any _).mono ?_; rintro e w' ⟨rfl, gaw, rfl⟩)
        | (go_at_call 16; refine (num_any _ _).mono ?_; rintro e w' ⟨rfl, rfl⟩))
    go_ret
    exact ⟨rfl, (by repeat (first | exact Gr.refl _ | apply Gr.drewN | apply Gr.drew | apply Gr.alloc | apply Gr.gro))⟩

end Go.Proofs.Ytbafjcbbiiipfaa
