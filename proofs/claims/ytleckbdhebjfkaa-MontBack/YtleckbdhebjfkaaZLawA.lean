/-
  nat.Bits and nat.Bit: what they hand back, for every number.
-/
/-
  nat.Bit; the statements' own Nat and low: what they hand back.
-/
import Derived.Test.YtleckbdhebjfkaaZInst
import Derived.Test.YtleckbdhebjfkaaZLib
import Derived.Test.YtleckbdhebjfkaaZNumB
import Derived.Test.YtleckbdhebjfkaaZMtN
namespace Go.Proofs.Ytleckbdhebjfkaa
open Go.RowKit
attribute [local go_sem ↓] loadNat_is loadArr_is loadWide_is loadArrW_is storeNat_is storeWide_is
attribute [local go_sem] loadNat loadArr loadWide loadArrW storeNat storeWide idxArr fold9 fold18 nw_size nw_elem pre_self pre_1 pre_2 pre_3 pre_4 pre_5 pre_6 pre_7 pre_8 pre_9 pre_10 pre_11 pre_12 pre_13 pre_14 pre_15 pre_16 pre_17 pre_18 pre_19 pre_20 pre_21 pre_22 pre_23 pre_24 pre_25 pre_26 pre_27 pre_28 pre_29 pre_30 pre_31 pre_32 pre_33 pre_34 pre_35 pre_36 pre_37 pre_38 pre_39 pre_40 gro_size gro_drew gro_drewN drew_gro drewN_gro gro_gro blk_gro frz_gro blk_drew frz_drew blk_drewN frz_drewN blk_alloc_at frz_alloc_at blk_alloc frz_alloc cell_gro frozen_gro cell_alloc_pre frozen_alloc_pre setCell_drewN alloc_drewN setBlk_drew setBlk_drewN setBlk_alloc_at setBlk_alloc setBlk_gro setCell_gro setCell_alloc_pre size_setBlk size_setCell
set_option maxRecDepth 100000 in
set_option maxHeartbeats 800000 in
theorem bits_any (a : Nat) (ha : a < M) (w : World) :
    Calls Try.prog 34 #[.agg (nw 9 a)] w fun e w' => e = .returned (.int .i64 (bl a)) ∧ Gr w w' := by
  have HS : Hid (a / pw 9 = 0) := Nat.div_eq_of_lt ha
  clear ha
  go_enter Try.func34, Try.ntmps34
  go_wp2
  go_loopw [3] (fun i wr => ∃ k : Nat, k ≤ 9 ∧ i = .int .i64 ((k : Int) - 1) ∧ a / pw k = 0 ∧ wr = w.alloc (.cells (nw 9 a) 25)) (fun i _ => (intOf i + 1).toNat)
  case atStart => exact ⟨9, by omega, rfl, HS.out, rfl⟩
  case round =>
    obtain ⟨k, hk, rfl, he, rfl⟩ := hrel
    have HE : Hid (a / pw k = 0) := he
    clear he HS
    by_cases hp : 0 < k
    · obtain ⟨j, rfl⟩ : ∃ j, k = j + 1 := ⟨k - 1, by omega⟩
      have hj : j < 9 := by omega
      have e1 : (((j + 1 : Nat) : Int) - 1) = (j : Int) := by omega
      rw [e1]
      have hj0 : (0 : Int) ≤ (j : Int) := by omega
      have hj1 : (j : Int) < 9 := by omega
      have ga := nw_get 9 a j hj
      clear e1 hk hp
      by_cases hc : wd a j = 0
      · have hci : (((wd a j : Nat) : Int) != 0) = false := by rw [hc]; rfl
        have HC : Hid (a / pw j = 0) := div_zero_of a j HE.out hc
        clear hc
        go_wp2
        go_roundw
        case rel => exact ⟨j, by omega, rfl, HC.out, by trivial⟩
        case measure => simp [intOf]
      · have hci : (((wd a j : Nat) : Int) != 0) = true := by rw [bne_iff_ne]; omega
        have hw := wd_lt a j
        have HC : Hid (bl a = 64 * j + bl (wd a j)) := bl_top a j HE.out hc
        have h64 := bl_le64 _ hw
        have cl := fun w => len64 ((wd a j : Nat) : Int) w (by omega) (by omega)
        rw [Int.toNat_natCast, bl_lib _ hw] at cl
        obtain ⟨q, hq⟩ : ∃ q, bl (wd a j) = q := ⟨_, rfl⟩
        rw [hq] at cl h64
        have CL : Hid (∀ w, Calls Try.prog 55 #[.int .u64 ((wd a j : Nat) : Int)] w fun e w' => e = .returned (.int .i64 (q : Int)) ∧ w' = w) := cl
        have HQ : Hid (bl (wd a j) = q) := hq
        have q0 : (0 : Int) ≤ (q : Int) := by omega
        have q1 : (q : Int) ≤ 64 := by omega
        clear hc hw h64 cl hq
        go_wp2_with (go_at_call 55; refine (CL.out _).mono ?_; rintro e w' ⟨rfl, rfl⟩)
        go_ret
        refine ⟨congrArg Ending.returned (congrArg (Value.int IntKind.i64) ?_), (by repeat (first | exact Gr.refl _ | apply Gr.drewN | apply Gr.drew | apply Gr.alloc | apply Gr.gro))⟩
        rw [HC.out, HQ.out]
        show (j : Int) * 64 + q = _
        omega
    · obtain rfl : k = 0 := by omega
      have HC : Hid (bl a = 0) := by
        have e := HE.out
        rw [pw_zero, Nat.div_one] at e
        rw [e]
        exact bl_zero
      clear hk hp
      go_wp2
      go_ret
      exact ⟨congrArg (fun z : Nat => Ending.returned (Value.int IntKind.i64 (z : Int))) HC.out.symm, (by repeat (first | exact Gr.refl _ | apply Gr.drewN | apply Gr.drew | apply Gr.alloc | apply Gr.gro))⟩

/-- Bit i of a number. -/
def bitN (a i : Nat) : Nat := a / 2 ^ i % 2
theorem bit_wd (a q r : Nat) (h : r < 64) : wd a q / 2 ^ r % 2 = bitN a (64 * q + r) := by
  obtain ⟨d, hd⟩ : ∃ d, 64 = r + (1 + d) := ⟨63 - r, by omega⟩
  have e : (18446744073709551616 : Nat) = 2 ^ r * (2 * 2 ^ d) := by
    rw [show (2 : Nat) * 2 ^ d = 2 ^ (1 + d) from by rw [Nat.pow_add], ← Nat.pow_add, ← hd]
  unfold bitN wd pw
  rw [e, Nat.mod_mul_right_div_self, Nat.mod_mul_right_mod, Nat.div_div_eq_div_mul, ← Nat.pow_add]
end Go.Proofs.Ytleckbdhebjfkaa
namespace Go.Proofs.Ytleckbdhebjfkaa
open Go.RowKit
attribute [local go_sem ↓] loadNat_is loadArr_is loadWide_is loadArrW_is storeNat_is storeWide_is
attribute [local go_sem] loadNat loadArr loadWide loadArrW storeNat storeWide idxArr fold9 fold18 nw_size nw_elem pre_self pre_1 pre_2 pre_3 pre_4 pre_5 pre_6 pre_7 pre_8 pre_9 pre_10 pre_11 pre_12 pre_13 pre_14 pre_15 pre_16 pre_17 pre_18 pre_19 pre_20 pre_21 pre_22 pre_23 pre_24 pre_25 pre_26 pre_27 pre_28 pre_29 pre_30 pre_31 pre_32 pre_33 pre_34 pre_35 pre_36 pre_37 pre_38 pre_39 pre_40 gro_size gro_drew gro_drewN drew_gro drewN_gro gro_gro blk_gro frz_gro blk_drew frz_drew blk_drewN frz_drewN blk_alloc_at frz_alloc_at blk_alloc frz_alloc cell_gro frozen_gro cell_alloc_pre frozen_alloc_pre setCell_drewN alloc_drewN setBlk_drew setBlk_drewN setBlk_alloc_at setBlk_alloc setBlk_gro setCell_gro setCell_alloc_pre size_setBlk size_setCell
theorem bit_conv (a q r : Nat) (h : r < 64) : bits BinOp.and IntKind.u64 (((wd a q : Nat) : Int) / 2 ^ r) 1 = ((bitN a (64 * q + r) : Nat) : Int) := by
  have h1 := wd_lt a q
  have h2 : wd a q / 2 ^ r ≤ wd a q := Nat.div_le_self _ _
  rw [int_pow, ← Int.natCast_ediv, ← bit_wd a q r h]
  generalize wd a q / 2 ^ r = y at *
  rw [and_one_u64 _ (by omega) (by omega)]
  omega
theorem bitN_lt (a i : Nat) : bitN a i < 2 := Nat.mod_lt _ (by decide)
set_option maxRecDepth 100000 in
set_option maxHeartbeats 400000 in
theorem bit_raw (a q r : Nat) (hq : q < 9) (hr : r < 64) (w : World) :
    Calls Try.prog 31 #[.agg (nw 9 a), .int .i64 ((64 * q + r : Nat) : Int)] w fun e w' => e = .returned (.int .i64 (bitN a (64 * q + r))) ∧ Gr w w' := by
  obtain ⟨K, hK⟩ : ∃ K : Int, K = ((64 * q + r : Nat) : Int) := ⟨_, rfl⟩
  rw [← hK]
  obtain ⟨B, hB⟩ : ∃ B : Nat, bitN a (64 * q + r) = B := ⟨_, rfl⟩
  rw [hB]
  have k0 : ¬ K < 0 := by omega
  have k1 : K < 576 := by omega
  have k2 : 0 ≤ K := by omega
  have q1 : K / 64 = (q : Int) := by omega
  have q2 : K % 64 = (r : Int) := by omega
  have r0 : (0 : Int) ≤ (r : Int) := by omega
  have r1 : (r : Int) < 64 := by omega
  have qq0 : (0 : Int) ≤ (q : Int) := by omega
  have qq1 : (q : Int) < 9 := by omega
  have ga := nw_get 9 a q hq
  have hb := bit_conv a q r hr
  rw [hB] at hb
  have b0 : (0 : Int) ≤ (B : Int) := by omega
  have b1 : (B : Int) < 2 := by have := bitN_lt a (64 * q + r); omega
  clear hK hB
  go_enter Try.func31, Try.ntmps31
  go_wp2
  go_ret
  exact ⟨rfl, (by repeat (first | exact Gr.refl _ | apply Gr.drewN | apply Gr.drew | apply Gr.alloc | apply Gr.gro))⟩
set_option maxRecDepth 100000 in
set_option maxHeartbeats 400000 in
theorem bit_no (a : Nat) (i : Int) (h : i < 0 ∨ 576 ≤ i) (w : World) :
    Calls Try.prog 31 #[.agg (nw 9 a), .int .i64 i] w fun e w' => e = .returned (.int .i64 0) ∧ Gr w w' := by
  rcases h with h | h
  · go_enter Try.func31, Try.ntmps31
    go_wp2
    go_ret
    exact ⟨rfl, (by repeat (first | exact Gr.refl _ | apply Gr.drewN | apply Gr.drew | apply Gr.alloc | apply Gr.gro))⟩
  · have h' : ¬ i < 0 := by omega
    go_enter Try.func31, Try.ntmps31
    go_wp2
    go_ret
    exact ⟨rfl, (by repeat (first | exact Gr.refl _ | apply Gr.drewN | apply Gr.drew | apply Gr.alloc | apply Gr.gro))⟩
theorem bit_any (a i : Nat) (h : i < 576) (w : World) :
    Calls Try.prog 31 #[.agg (nw 9 a), .int .i64 (i : Int)] w fun e w' => e = .returned (.int .i64 (bitN a i)) ∧ Gr w w' := by
  have e : i = 64 * (i / 64) + i % 64 := by omega
  have h := bit_raw a (i / 64) (i % 64) (by omega) (by omega) w
  rw [← e] at h
  exact h

/-- The first m bits of a number, as far as n words. -/
def cut (a m n : Nat) : Nat := a % 2 ^ min (64 * n) m
theorem cut_lt (a m n : Nat) : cut a m n < pw n :=
  Nat.lt_of_lt_of_le (Nat.mod_lt _ (Nat.two_pow_pos _)) (Nat.pow_le_pow_right (by decide) (Nat.min_le_left _ _))
theorem cut_hi (a m n : Nat) (h : 64 * (n + 1) ≤ m) : cut a m (n + 1) = cut a m n + wd a n * pw n := by
  unfold cut
  rw [Nat.min_eq_left h, Nat.min_eq_left (by omega)]
  exact mod_succ a n
theorem cut_mid (a n k : Nat) (hk : k < 64) : cut a (64 * n + k) (n + 1) = cut a (64 * n + k) n + wd a n % 2 ^ k * pw n := by
  unfold cut
  rw [Nat.min_eq_right (by omega), Nat.min_eq_left (by omega), Nat.pow_add, Nat.mod_mul]
  have e : wd a n % 2 ^ k = a / 2 ^ (64 * n) % 2 ^ k := by
    unfold wd pw
    rw [← pow64 (64 - k) (by omega), show 64 - (64 - k) = k from by omega, Nat.mod_mul_right_mod]
  rw [e, Nat.mul_comm (2 ^ (64 * n))]
  rfl
theorem cut_lo (a m n : Nat) (h : m ≤ 64 * n) : cut a m (n + 1) = cut a m n := by
  unfold cut
  rw [Nat.min_eq_right h, Nat.min_eq_right (by omega)]
theorem cut_zero (a m : Nat) : cut a m 0 = 0 := by
  unfold cut
  rw [Nat.mul_zero, Nat.zero_min, Nat.pow_zero, Nat.mod_one]
theorem cut_end (a m : Nat) (h : m ≤ 576) : cut a m 9 = a % 2 ^ m := by
  unfold cut
  rw [Nat.min_eq_right (by omega)]
theorem mask_word (x k : Nat) (hx : x < 18446744073709551616) (hk : k < 64) : bits BinOp.and IntKind.u64 (x : Int) (IntKind.u64.wrap (IntKind.u64.wrap (2 ^ k) - 1)) = ((x % 2 ^ k : Nat) : Int) := by
  have h1 := pow_lt64 k hk
  have h2 := Nat.two_pow_pos k
  have e : IntKind.u64.wrap (IntKind.u64.wrap (2 ^ k) - 1) = ((2 ^ k - 1 : Nat) : Int) := by
    rw [int_pow, IntKind.wrap_u64, IntKind.wrap_u64]; omega
  rw [e, bits_and_u64_nat _ _ hx (by omega), Nat.and_two_pow_sub_one_eq_mod]

set_option maxRecDepth 100000 in
set_option maxHeartbeats 800000 in
theorem natcut_raw (a m : Nat) (hm : m ≤ 576) (w : World) :
    Calls Try.prog 28 #[.agg (nw 9 a), .int .i64 (m : Int)] w fun e w' => e = .returned (.agg (nw 9 (cut a m 9))) ∧ Gr w w' := by
  have m0 : (0 : Int) ≤ (m : Int) := by omega
  have m1 : (m : Int) ≤ 576 := by omega
  go_enter Try.func28, Try.ntmps28
  go_wp2
  go_loopw [6] (fun i wr => ∃ n U : Nat, n ≤ 9 ∧ i = .int .i64 (n : Int) ∧ cut a m n = U ∧ ∃ q, wr = (((w.alloc (.cells (nw 9 a) 23)).alloc (.cells (nw 9 0) 25)).alloc (.cells (nw 9 U) 25)).drewN q) (fun i _ => 9 - (intOf i).toNat)
  case atStart => exact ⟨0, 0, by omega, rfl, cut_zero a m, 0, rfl⟩
  case round =>
    obtain ⟨n, U, hn, rfl, hU, q, rfl⟩ := hrel
    have HU : Hid (Unit → cut a m n = U) := fun _ => hU
    have HL : Hid (Unit → U < pw n) := fun _ => by rw [← hU]; exact cut_lt a m n
    clear hU
    by_cases hlt : n < 9
    · have n0 : (0 : Int) ≤ (n : Int) := by omega
      have n1 : (n : Int) < 9 := by omega
      have ga := nw_get 9 a n hlt
      have gu := nw_get 9 U n hlt
      by_cases h1 : 64 * (n + 1) ≤ m
      · have hk : (64 : Int) ≤ (m : Int) - 64 * (n : Int) := by omega
        clear hn
        go_wp2
        go_roundw
        case rel =>
          refine ⟨n + 1, U + wd a n * pw n, by omega, by go_num, by rw [← HU.out ()]; exact cut_hi a m n h1, q, ?_⟩
          simp only [nw_set_top 9 U n (wd a n) (wd_lt _ _) (HL.out ()), go_sem]
        case measure => simp [intOf]; omega
      · by_cases h2 : 64 * n < m
        · obtain ⟨k, hmk⟩ : ∃ k, m = 64 * n + k := ⟨m - 64 * n, by omega⟩
          have ek : ((m : Int) - 64 * (n : Int)) = (k : Int) := by omega
          have k0 : (0 : Int) < (k : Int) := by omega
          have k1 : (k : Int) < 64 := by omega
          have hk : k < 64 := by omega
          have HK : Hid (Unit → m = 64 * n + k) := fun _ => hmk
          clear hn hmk h1 h2 hm
          go_wp2
          go_region_held3 (fun w' => w'.cell? ⟨w.heap.size, n, none⟩ = some (.int .u64 ((wd a n : Nat) : Int))) (simp [go_sem, *]) (fail)
          go_wp2
          go_roundw
          case rel =>
            refine ⟨n + 1, U + wd a n % 2 ^ k * pw n, by omega, by go_num, ?_, q + 1, ?_⟩
            · rw [← HU.out (), HK.out ()]; exact cut_mid a n k hk
            · rw [mask_word _ _ (wd_lt _ _) hk, nw_set_top 9 U n _ (Nat.lt_of_le_of_lt (Nat.mod_le _ _) (wd_lt _ _)) (HL.out ())]
          case measure => simp [intOf]; omega
        · have hk : (m : Int) - 64 * (n : Int) ≤ 0 := by omega
          clear hn
          go_wp2
          go_roundw
          case rel => exact ⟨n + 1, U, by omega, by go_num, by rw [← HU.out ()]; exact cut_lo a m n (by omega), q, rfl⟩
          case measure => simp [intOf]; omega
    · have h9 : Hid (Unit → n = 9) := fun _ => by omega
      have hni : ¬ (n : Int) < 9 := by omega
      clear hlt hn
      go_wp2
      exact bodyPost_ret (v := .agg (nw 9 U)) (by simp [results, Try.results28, go_sem, nw9_lit]) rfl ⟨by rw [← HU.out (), h9.out ()], (by repeat (first | exact Gr.refl _ | apply Gr.drewN | apply Gr.drew | apply Gr.alloc | apply Gr.gro))⟩

theorem natcut_any (a m : Nat) (hm : m ≤ 576) (w : World) :
    Calls Try.prog 28 #[.agg (nw 9 a), .int .i64 (m : Int)] w fun e w' => e = .returned (.agg (nw 9 (a % 2 ^ m))) ∧ Gr w w' := by
  have h := natcut_raw a m hm w
  rw [cut_end a m hm] at h
  exact h

/-- Are words 9 to 8 + n of a number 0? -/
def highZ (v n : Nat) : Bool := decide (v / M % pw n = 0)
theorem highZ_succ (v n : Nat) : highZ v (n + 1) = (highZ v n && (((wd v (9 + n) : Nat) : Int) == 0)) := by
  have e : wd v (9 + n) = wd (v / M) n := by
    unfold wd M
    rw [pw_add, Nat.div_div_eq_div_mul]
  have hp := pw_pos n
  unfold highZ
  rw [e, mod_succ]
  generalize v / M % pw n = x
  generalize wd (v / M) n = y
  by_cases hx : x = 0
  · by_cases hy : y = 0
    · subst hx hy; simp
    · have h1 : 0 < y * pw n := Nat.mul_pos (by omega) hp
      have h2 : ¬ x + y * pw n = 0 := by omega
      have h3 : ((y : Int) == 0) = false := beq_eq_false_iff_ne.2 (by omega)
      rw [decide_eq_false h2, h3, Bool.and_false]
  · have h2 : ¬ x + y * pw n = 0 := by omega
    rw [decide_eq_false h2, decide_eq_false hx, Bool.false_and]
theorem highZ_zero (v : Nat) : highZ v 0 = true := by
  unfold highZ
  rw [pw_zero, Nat.mod_one]
  rfl
theorem highZ_end (v : Nat) (hv : v < M * M) : highZ v 9 = decide (v < M) := by
  unfold highZ
  have h1 : v / M < M := by rw [Nat.div_lt_iff_lt_mul M_pos]; exact hv
  rw [show pw 9 = M from rfl, Nat.mod_eq_of_lt h1]
  by_cases h : v < M
  · rw [Nat.div_eq_of_lt h, decide_eq_true h]; rfl
  · have := Nat.div_pos (show M ≤ v by omega) M_pos
    rw [decide_eq_false h, decide_eq_false (by omega)]
end Go.Proofs.Ytleckbdhebjfkaa
