/-
  The statement NatBack, walked: it answers true for every number and every int.
-/
import Derived.Test.YtjgpecdhlgdjoaaAwake
import Derived.Test.YtjgpecdhlgdjoaaEq
namespace Go.Proofs.Ytjgpecdhlgdjoaa
open Go.RowKit
attribute [local go_sem ↓] loadNat_is loadArr_is loadWide_is loadArrW_is storeNat_is storeWide_is
attribute [local go_sem] loadNat loadArr loadWide loadArrW storeNat storeWide idxArr fold9 fold18 nw_size nw_elem pre_self pre_1 pre_2 pre_3 pre_4 pre_5 pre_6 pre_7 pre_8 pre_9 pre_10 pre_11 pre_12 pre_13 pre_14 pre_15 pre_16 pre_17 pre_18 pre_19 pre_20 pre_21 pre_22 pre_23 pre_24 pre_25 pre_26 pre_27 pre_28 pre_29 pre_30 pre_31 pre_32 pre_33 pre_34 pre_35 pre_36 pre_37 pre_38 pre_39 pre_40 gro_size gro_drew gro_drewN drew_gro drewN_gro gro_gro blk_gro frz_gro blk_drew frz_drew blk_drewN frz_drewN blk_alloc_at frz_alloc_at blk_alloc frz_alloc cell_gro frozen_gro cell_alloc_pre frozen_alloc_pre setCell_drewN alloc_drewN setBlk_drew setBlk_drewN setBlk_alloc_at setBlk_alloc setBlk_gro setCell_gro setCell_alloc_pre size_setBlk size_setCell
attribute [local go_sem] nw_ext9 nw_ext18 eqArr9 eqArr18

theorem bs_length (n a : Nat) : (bs n a).length = n := by simp [bs]
theorem bs_bn (n a : Nat) : ∀ k, k ≤ n → bn ((bs n a).take k) = a / 2 ^ (8 * (n - k)) % 2 ^ (8 * k)
  | 0, _ => by simp [bn, Nat.mod_one]
  | k + 1, h => by
    have hk : k < (bs n a).length := by rw [bs_length]; omega
    rw [List.take_succ_eq_append_getElem hk, bn_snoc, bs_bn n a k (by omega)]
    have e : ((bs n a)[k]).toNat = byt a (n - 1 - k) := by
      simp only [bs, List.getElem_map, List.getElem_range]
      have := byt_lt a (n - 1 - k)
      simp [UInt8.toNat_ofNat']
      omega
    rw [e]
    obtain ⟨d, rfl⟩ : ∃ d, n = k + 1 + d := ⟨n - (k + 1), by omega⟩
    unfold byt
    rw [show k + 1 + d - k = d + 1 from by omega, show k + 1 + d - (k + 1) = d from by omega, show k + 1 + d - 1 - k = d from by omega]
    rw [show 8 * (d + 1) = 8 * d + 8 from by omega, Nat.pow_add, ← Nat.div_div_eq_div_mul, show 8 * (k + 1) = 8 + 8 * k from by omega, Nat.pow_add, Nat.mod_mul]
    generalize a / 2 ^ (8 * d) = z
    show z / 256 % 2 ^ (8 * k) * 256 + z % 256 = z % 256 + 256 * (z / 256 % 2 ^ (8 * k))
    omega
theorem bn_bs (n a : Nat) (h : a < 2 ^ (8 * n)) : bn (bs n a) = a := by
  have := bs_bn n a n (Nat.le_refl n)
  rw [List.take_of_length_le (by rw [bs_length]; omega), Nat.sub_self, Nat.mul_zero, Nat.pow_zero, Nat.div_one, Nat.mod_eq_of_lt h] at this
  exact this
theorem bl_le_pw (a n : Nat) : bl a ≤ 64 * n ↔ a < pw n := bl_le a (64 * n)
theorem lt_M_of_bl (a : Nat) (h : a < M) : bl a ≤ 576 := (bl_le_pw a 9).2 h
theorem i64_and15 (n : Int) : bits .and .i64 n 15 = n % 16 := by
  have h15 : (BitVec.ofInt 64 15).toNat = 2 ^ 4 - 1 := by decide
  have key : (BitVec.ofInt 64 n &&& BitVec.ofInt 64 15).toNat = (n % ((2 ^ 64 : Nat) : Int)).toNat % 2 ^ 4 := by
    rw [BitVec.toNat_and, BitVec.toNat_ofInt, h15, Nat.and_two_pow_sub_one_eq_mod]
  show IntKind.i64.wrap ((BitVec.ofInt 64 n &&& BitVec.ofInt 64 15).toNat : Nat) = n % 16
  rw [key, IntKind.wrap_i64]
  omega

set_option maxRecDepth 100000 in
set_option maxHeartbeats 1600000 in
theorem back_any (a : Nat) (more : Int) (ha : a < M) (w : World) :
    Calls Try.prog 7 #[.agg (nw 9 a), .int .i64 more] w fun e w' => e = .returned (.bool true) ∧ Gr w w' := by
  have h576 := lt_M_of_bl a ha
  obtain ⟨B, hB⟩ : ∃ B, bl a = B := ⟨_, rfl⟩
  obtain ⟨k, hk⟩ : ∃ k, k = (B + 7) / 8 := ⟨_, rfl⟩
  obtain ⟨m, hm, hm16⟩ : ∃ m : Nat, bits .and .i64 more 15 = (m : Int) ∧ m < 16 := ⟨(more % 16).toNat, by rw [i64_and15]; omega, by omega⟩
  obtain ⟨n, hn⟩ : ∃ n, n = min 72 (k + m) := ⟨_, rfl⟩
  have c1 := fun w => bits_any a ha w
  have c2 := fun w => bytes_any a n ha (by omega) (by omega) w
  have c3 := fun w => of_any ⟨(bs n a).toArray⟩ (by show (bs n a).toArray.size ≤ 72; simp [bs_length]; omega) w
  have c4 := fun w => bytes_no a ((k : Int) - 1) ha (by omega) w
  have hbn : bn (bs n a) = a := bn_bs n a ((bl_le a (8 * n)).1 (by omega))
  rw [hB] at c1
  have e3 : (⟨(bs n a).toArray⟩ : ByteArray).data.toList = bs n a := by simp
  rw [e3, hbn] at c3
  obtain ⟨s, hs⟩ : ∃ s : ByteArray, s = ⟨(bs n a).toArray⟩ := ⟨_, rfl⟩
  rw [← hs] at c2 c3
  have hsz : s.size = n := by rw [hs]; show (bs n a).toArray.size = n; simp [bs_length]
  have C1 : Hid (∀ w, Calls Try.prog 31 #[.agg (nw 9 a)] w fun e w' => e = .returned (.int .i64 (B : Int)) ∧ Gr w w') := c1
  have C2 : Hid (∀ w, Calls Try.prog 38 #[.agg (nw 9 a), .int .i64 (n : Int)] w fun e w' => e = .returned (.tuple #[.string s, .int .i64 0]) ∧ Gr w w') := c2
  have C3 : Hid (∀ w, Calls Try.prog 37 #[.string s] w fun e w' => e = .returned (.tuple #[.agg (nw 9 a), .int .i64 0]) ∧ Gr w w') := c3
  have C4 : Hid (∀ w, Calls Try.prog 38 #[.agg (nw 9 a), .int .i64 ((k : Int) - 1)] w fun e w' => e = .returned (.tuple #[.string ⟨#[]⟩, .int .i64 101]) ∧ Gr w w') := c4
  have hB0 : (0 : Int) ≤ (B : Int) := by omega
  have hB1 : (B : Int) ≤ 576 := by omega
  have hk' : ((B : Int) + 7) / 8 = (k : Int) := by omega
  have hk0 : (0 : Int) ≤ (k : Int) := by omega
  have hk1 : (k : Int) ≤ 72 := by omega
  have hm0 : (0 : Int) ≤ (m : Int) := by omega
  have hm1 : (m : Int) < 16 := by omega
  have hn' : min (72 : Int) ((k : Int) + (m : Int)) = (n : Int) := by omega
  have heq := eqN_self 9 a
  clear c1 c2 c3 c4 e3 hbn hs hB hk hn h576 ha hm16
  go_enter Try.func7, Try.ntmps7
  go_wp2_with (first
    | (go_at_call 27; refine (awake_any _).mono ?_; rintro e w' ⟨rfl, g, rfl⟩)
    | (go_at_call 31; refine (C1.out _).mono ?_; rintro e w' ⟨rfl, g, rfl⟩)
    | (go_at_call_of 38 (Value.int .i64 (n : Int)); refine (C2.out _).mono ?_; rintro e w' ⟨rfl, g, rfl⟩)
    | (go_at_call 38; refine (C4.out _).mono ?_; rintro e w' ⟨rfl, g, rfl⟩)
    | (go_at_call 37; refine (C3.out _).mono ?_; rintro e w' ⟨rfl, g, rfl⟩)
    | (go_at_call 35; refine (num_any _ _).mono ?_; rintro e w' ⟨rfl, rfl⟩))
  go_ret
  exact ⟨rfl, (by repeat (first | exact Gr.refl _ | apply Gr.drewN | apply Gr.drew | apply Gr.alloc | apply Gr.gro))⟩

end Go.Proofs.Ytjgpecdhlgdjoaa
