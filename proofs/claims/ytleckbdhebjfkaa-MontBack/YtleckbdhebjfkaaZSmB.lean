/-
  nat.Cmp: what it hands back, for every two numbers.
-/
import Derived.Deep.QuietTactic
import Derived.BigQuiet
import Derived.Test.YtleckbdhebjfkaaZInst
namespace Go.Proofs.Ytleckbdhebjfkaa
open Go.RowKit
attribute [local go_sem ↓] loadNat_is loadArr_is loadWide_is loadArrW_is storeNat_is storeWide_is
attribute [local go_sem] loadNat loadArr loadWide loadArrW storeNat storeWide idxArr fold9 fold18 nw_size nw_elem pre_self pre_1 pre_2 pre_3 pre_4 pre_5 pre_6 pre_7 pre_8 pre_9 pre_10 pre_11 pre_12 pre_13 pre_14 pre_15 pre_16 pre_17 pre_18 pre_19 pre_20 pre_21 pre_22 pre_23 pre_24 pre_25 pre_26 pre_27 pre_28 pre_29 pre_30 pre_31 pre_32 pre_33 pre_34 pre_35 pre_36 pre_37 pre_38 pre_39 pre_40 gro_size gro_drew gro_drewN drew_gro drewN_gro gro_gro blk_gro frz_gro blk_drew frz_drew blk_drewN frz_drewN blk_alloc_at frz_alloc_at blk_alloc frz_alloc cell_gro frozen_gro cell_alloc_pre frozen_alloc_pre setCell_drewN alloc_drewN setBlk_drew setBlk_drewN setBlk_alloc_at setBlk_alloc setBlk_gro setCell_gro setCell_alloc_pre size_setBlk size_setCell
/-- -1, 0 or 1. -/
def cmpZ (a b : Nat) : Int := if a < b then -1 else if b < a then 1 else 0

theorem div_step (a j : Nat) : a / pw j = a / pw (j + 1) * 18446744073709551616 + wd a j := by
  have h := Nat.div_add_mod (a / pw j) 18446744073709551616
  rw [pow_succ64, ← Nat.div_div_eq_div_mul, wd]
  omega
theorem lt_of_div (a b p : Nat) (h : a / p < b / p) : a < b := by
  by_cases hlt : a < b
  · exact hlt
  · have := Nat.div_le_div_right (c := p) (show b ≤ a by omega)
    omega
theorem cmpZ_lt (a b j : Nat) (h : a / pw (j + 1) = b / pw (j + 1)) (hw : wd a j < wd b j) : cmpZ a b = -1 := by
  have := lt_of_div a b (pw j) (by rw [div_step a, div_step b, h]; omega)
  unfold cmpZ
  rw [if_pos this]
theorem cmpZ_gt (a b j : Nat) (h : a / pw (j + 1) = b / pw (j + 1)) (hw : wd b j < wd a j) : cmpZ a b = 1 := by
  have := lt_of_div b a (pw j) (by rw [div_step a, div_step b, h]; omega)
  unfold cmpZ
  rw [if_neg (by omega), if_pos this]
theorem cmpZ_eq (a : Nat) : cmpZ a a = 0 := by simp [cmpZ]

set_option maxRecDepth 100000 in
set_option maxHeartbeats 800000 in
theorem cmp_any (a b : Nat) (ha : a < M) (hb : b < M) (w : World) :
    Calls Try.prog 32 #[.agg (nw 9 a), .agg (nw 9 b)] w fun e w' => e = .returned (.int .i64 (cmpZ a b)) ∧ Gr w w' := by
  have HS : Hid (a / pw 9 = b / pw 9) := by
    show a / M = b / M
    rw [Nat.div_eq_of_lt ha, Nat.div_eq_of_lt hb]
  clear ha hb
  go_enter Try.func32, Try.ntmps32
  go_wp2
  go_loopw [5] (fun i wr => ∃ k : Nat, k ≤ 9 ∧ i = .int .i64 ((k : Int) - 1) ∧ a / pw k = b / pw k ∧ ∃ n, wr = ((w.alloc (.cells (nw 9 a) 25)).alloc (.cells (nw 9 b) 25)).drewN n) (fun i _ => (intOf i + 1).toNat)
  case atStart => exact ⟨9, by omega, rfl, HS.out, 0, rfl⟩
  case round =>
    obtain ⟨k, hk, rfl, he, n, rfl⟩ := hrel
    have HE : Hid (a / pw k = b / pw k) := he
    clear he HS
    by_cases hp : 0 < k
    · obtain ⟨j, rfl⟩ : ∃ j, k = j + 1 := ⟨k - 1, by omega⟩
      have hj : j < 9 := by omega
      have e1 : (((j + 1 : Nat) : Int) - 1) = (j : Int) := by omega
      rw [e1]
      have hj0 : (0 : Int) ≤ (j : Int) := by omega
      have hj1 : (j : Int) < 9 := by omega
      have ga := nw_get 9 a j hj
      have gb := nw_get 9 b j hj
      clear e1 hk hp
      rcases Nat.lt_trichotomy (wd a j) (wd b j) with hc | hc | hc
      · have hci : ((wd a j : Nat) : Int) < (wd b j : Nat) := by omega
        have HC : Hid (cmpZ a b = -1) := cmpZ_lt a b j HE.out hc
        clear hc
        go_wp2
        go_quiet (fail)
        go_wp2
        go_ret
        exact ⟨congrArg (fun z => Ending.returned (Value.int IntKind.i64 z)) HC.out.symm, (by repeat (first | exact Gr.refl _ | apply Gr.drewN | apply Gr.drew | apply Gr.alloc | apply Gr.gro))⟩
      · have hci : ¬ ((wd a j : Nat) : Int) < (wd b j : Nat) := by omega
        have hcj : ¬ ((wd b j : Nat) : Int) < (wd a j : Nat) := by omega
        have HC : Hid (a / pw j = b / pw j) := show a / pw j = b / pw j from by rw [div_step a, div_step b, HE.out, hc]
        clear hc
        go_wp2
        go_quiet (fail)
        go_wp2
        go_quiet (fail)
        go_wp2
        go_roundw
        case rel => exact ⟨j, by omega, rfl, HC.out, _, rfl⟩
        case measure => simp [intOf]
      · have hci : ¬ ((wd a j : Nat) : Int) < (wd b j : Nat) := by omega
        have hcj : ((wd b j : Nat) : Int) < (wd a j : Nat) := by omega
        have HC : Hid (cmpZ a b = 1) := cmpZ_gt a b j HE.out hc
        clear hc
        go_wp2
        go_quiet (fail)
        go_wp2
        go_quiet (fail)
        go_wp2
        go_ret
        exact ⟨congrArg (fun z => Ending.returned (Value.int IntKind.i64 z)) HC.out.symm, (by repeat (first | exact Gr.refl _ | apply Gr.drewN | apply Gr.drew | apply Gr.alloc | apply Gr.gro))⟩
    · obtain rfl : k = 0 := by omega
      have HC : Hid (cmpZ a b = 0) := by
        have e := HE.out
        rw [pw_zero, Nat.div_one, Nat.div_one] at e
        rw [e]
        exact cmpZ_eq b
      clear hk hp
      go_wp2
      go_ret
      exact ⟨congrArg (fun z => Ending.returned (Value.int IntKind.i64 z)) HC.out.symm, (by repeat (first | exact Gr.refl _ | apply Gr.drewN | apply Gr.drew | apply Gr.alloc | apply Gr.gro))⟩

end Go.Proofs.Ytleckbdhebjfkaa
