/-
  nat.Bits and nat.Bit: what they hand back, for every number.
-/
import Derived.Test.YtbafjcbbiiipfaaInst
import Derived.Test.YtbafjcbbiiipfaaLib
import Derived.Test.YtbafjcbbiiipfaaNumB
namespace Go.Proofs.Ytbafjcbbiiipfaa
open Go.RowKit
attribute [local go_sem ↓] loadNat_is loadArr_is loadWide_is loadArrW_is storeNat_is storeWide_is
attribute [local go_sem] loadNat loadArr loadWide loadArrW storeNat storeWide idxArr fold9 fold18 nw_size nw_elem pre_self pre_1 pre_2 pre_3 pre_4 pre_5 pre_6 pre_7 pre_8 pre_9 pre_10 pre_11 pre_12 pre_13 pre_14 pre_15 pre_16 pre_17 pre_18 pre_19 pre_20 pre_21 pre_22 pre_23 pre_24 pre_25 pre_26 pre_27 pre_28 pre_29 pre_30 pre_31 pre_32 pre_33 pre_34 pre_35 pre_36 pre_37 pre_38 pre_39 pre_40 gro_size gro_drew gro_drewN drew_gro drewN_gro gro_gro blk_gro frz_gro blk_drew frz_drew blk_drewN frz_drewN blk_alloc_at frz_alloc_at blk_alloc frz_alloc cell_gro frozen_gro cell_alloc_pre frozen_alloc_pre setCell_drewN alloc_drewN setBlk_drew setBlk_drewN setBlk_alloc_at setBlk_alloc setBlk_gro setCell_gro setCell_alloc_pre size_setBlk size_setCell
set_option maxRecDepth 100000 in
set_option maxHeartbeats 800000 in
theorem bits_any (a : Nat) (ha : a < M) (w : World) :
    Calls Try.prog 47 #[.agg (nw 9 a)] w fun e w' => e = .returned (.int .i64 (bl a)) ∧ Gr w w' := by
  have HS : Hid (a / pw 9 = 0) := Nat.div_eq_of_lt ha
  clear ha
  go_enter Try.func47, Try.ntmps47
  go_wp2
  go_loopw [3] (fun i wr => ∃ k : Nat, k ≤ 9 ∧ i = .int .i64 ((k : Int) - 1) ∧ a / pw k = 0 ∧ wr = w.alloc (.cells (nw 9 a) 25)) (fun i _ => (intOf i + 1).toNat)
  case atStart => exact ⟨9, by omega, rfl, HS.out, rfl⟩
  case round =>
    obtain ⟨k, hk, rfl, he, rfl⟩ := hrel
    have HE : Hid (a / pw k = 0) := he
    clear he HS
    by_cases hp : 0 < k
    · obtain ⟨j, rfl⟩ : ∃ j, k = j + 1 := ⟨k - 1, by omega⟩
      have hj : j < 9 := by omega
      have e1 : (((j + 1 : Nat) : Int) - 1) = (j : Int) := by omega
      rw [e1]
      have hj0 : (0 : Int) ≤ (j : Int) := by omega
      have hj1 : (j : Int) < 9 := by omega
      have ga := nw_get 9 a j hj
      clear e1 hk hp
      by_cases hc : wd a j = 0
      · have hci : (((wd a j : Nat) : Int) != 0) = false := by rw [hc]; rfl
        have HC : Hid (a / pw j = 0) := div_zero_of a j HE.out hc
        clear hc
        go_wp2
        go_roundw
        case rel => exact ⟨j, by omega, rfl, HC.out, by trivial⟩
        case measure => simp [intOf]
      · have hci : (((wd a j : Nat) : Int) != 0) = true := by rw [bne_iff_ne]; omega
        have hw := wd_lt a j
        have HC : Hid (bl a = 64 * j + bl (wd a j)) := bl_top a j HE.out hc
        have h64 := bl_le64 _ hw
        have cl := fun w => len64 ((wd a j : Nat) : Int) w (by omega) (by omega)
        rw [Int.toNat_natCast, bl_lib _ hw] at cl
        obtain ⟨q, hq⟩ : ∃ q, bl (wd a j) = q := ⟨_, rfl⟩
        rw [hq] at cl h64
        have CL : Hid (∀ w, Calls Try.prog 61 #[.int .u64 ((wd a j : Nat) : Int)] w fun e w' => e = .returned (.int .i64 (q : Int)) ∧ w' = w) := cl
        have HQ : Hid (bl (wd a j) = q) := hq
        have q0 : (0 : Int) ≤ (q : Int) := by omega
        have q1 : (q : Int) ≤ 64 := by omega
        clear hc hw h64 cl hq
        go_wp2_with (go_at_call 61; refine (CL.out _).mono ?_; rintro e w' ⟨rfl, rfl⟩)
        go_ret
        refine ⟨congrArg Ending.returned (congrArg (Value.int IntKind.i64) ?_), (by repeat (first | exact Gr.refl _ | apply Gr.drewN | apply Gr.drew | apply Gr.alloc | apply Gr.gro))⟩
        rw [HC.out, HQ.out]
        show (j : Int) * 64 + q = _
        omega
    · obtain rfl : k = 0 := by omega
      have HC : Hid (bl a = 0) := by
        have e := HE.out
        rw [pw_zero, Nat.div_one] at e
        rw [e]
        exact bl_zero
      clear hk hp
      go_wp2
      go_ret
      exact ⟨congrArg (fun z : Nat => Ending.returned (Value.int IntKind.i64 (z : Int))) HC.out.symm, (by repeat (first | exact Gr.refl _ | apply Gr.drewN | apply Gr.drew | apply Gr.alloc | apply Gr.gro))⟩

/-- Bit i of a number. -/
def bitN (a i : Nat) : Nat := a / 2 ^ i % 2
theorem bit_wd (a q r : Nat) (h : r < 64) : wd a q / 2 ^ r % 2 = bitN a (64 * q + r) := by
  obtain ⟨d, hd⟩ : ∃ d, 64 = r + (1 + d) := ⟨63 - r, by omega⟩
  have e : (18446744073709551616 : Nat) = 2 ^ r * (2 * 2 ^ d) := by
    rw [show (2 : Nat) * 2 ^ d = 2 ^ (1 + d) from by rw [Nat.pow_add], ← Nat.pow_add, ← hd]
  unfold bitN wd pw
  rw [e, Nat.mod_mul_right_div_self, Nat.mod_mul_right_mod, Nat.div_div_eq_div_mul, ← Nat.pow_add]
end Go.Proofs.Ytbafjcbbiiipfaa
