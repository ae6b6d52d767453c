/-
  The statement NatDigits, walked: it answers true for every number and every int.
-/
import Derived.Test.YtjgpecdhlgdjoaaLShifts
import Derived.Test.YtjgpecdhlgdjoaaLBack
import Derived.Test.YtjgpecdhlgdjoaaQt
namespace Go.Proofs.Ytjgpecdhlgdjoaa
open Go.RowKit
attribute [local go_sem ↓] loadNat_is loadArr_is loadWide_is loadArrW_is storeNat_is storeWide_is
attribute [local go_sem] loadNat loadArr loadWide loadArrW storeNat storeWide idxArr fold9 fold18 nw_size nw_elem pre_self pre_1 pre_2 pre_3 pre_4 pre_5 pre_6 pre_7 pre_8 pre_9 pre_10 pre_11 pre_12 pre_13 pre_14 pre_15 pre_16 pre_17 pre_18 pre_19 pre_20 pre_21 pre_22 pre_23 pre_24 pre_25 pre_26 pre_27 pre_28 pre_29 pre_30 pre_31 pre_32 pre_33 pre_34 pre_35 pre_36 pre_37 pre_38 pre_39 pre_40 gro_size gro_drew gro_drewN drew_gro drewN_gro blk_gro frz_gro blk_drew frz_drew blk_drewN frz_drewN blk_alloc_at frz_alloc_at blk_alloc frz_alloc cell_gro frozen_gro cell_alloc_pre frozen_alloc_pre setCell_drewN alloc_drewN setBlk_drew setBlk_drewN setBlk_alloc_at setBlk_alloc setBlk_gro setCell_gro setCell_alloc_pre size_setBlk size_setCell
attribute [local go_sem] nw_ext9 nw_ext18 eqArr9 eqArr18 all_grow

theorem bn_zeros (m : Nat) (l : List UInt8) : bn (bs m 0 ++ l) = bn l := by
  have h0 : ∀ (k : Nat) (l : List UInt8), bn (List.replicate k 0 ++ l) = bn l := fun k => by
    induction k with
    | zero => intro l; rfl
    | succ k ih =>
      intro l
      rw [List.replicate_succ, List.cons_append]
      show bn ([] ++ ((0 : UInt8) :: (List.replicate k 0 ++ l))) = _
      have : bn ((0 : UInt8) :: (List.replicate k 0 ++ l)) = bn (List.replicate k 0 ++ l) := by simp [bn]
      rw [List.nil_append, this, ih]
  have e : bs m 0 = List.replicate m 0 := by
    apply List.ext_getElem?
    intro j
    by_cases hj : j < m
    · simp [bs, byt, hj]
    · rw [List.getElem?_eq_none (by simp [bs]; omega), List.getElem?_eq_none (by simp; omega)]
  rw [e, h0]
theorem bx_noughts (m : Nat) : bx m 0 0 = bx m 0 m := by
  unfold bx xs
  refine congrArg _ (congrArg _ ?_)
  apply List.map_congr_left
  intro i hi
  simp [byt]
theorem and255 (x : Nat) (hx : x < 18446744073709551616) : bits BinOp.and IntKind.u64 (x : Int) 255 = ((x % 256 : Nat) : Int) := by
  have h := bits_and_u64_nat x 255 hx (by decide)
  rw [show x &&& 255 = x % 256 from Nat.and_two_pow_sub_one_eq_mod x 8] at h
  exact h
theorem digit_of (a n : Nat) : wd (a / 2 ^ (8 * n)) 0 % 256 = byt a n := by
  unfold wd byt
  rw [pw_zero, Nat.div_one]
  omega
theorem bs_at (a n m : Nat) (hm : n + m = 71) (s : ByteArray) (hs : s = ⟨(bs 72 a).toArray⟩) (h : m < s.size) : s[m].toNat = byt a n := by
  subst hs
  have h2 : m < (bs 72 a).length := by rw [bs_length]; omega
  show ((bs 72 a).toArray[m]'(by simpa using h2)).toNat = _
  simp only [List.getElem_toArray, bs, List.getElem_map, List.getElem_range]
  rw [show 72 - 1 - m = n from by omega]
  have := byt_lt a n
  simp [UInt8.toNat_ofNat']
  omega
set_option maxRecDepth 100000 in
set_option maxHeartbeats 1000000 in
theorem digits_any (a : Nat) (more : Int) (ha : a < M) (w : World) :
    Calls Try.prog 13 #[.agg (nw 9 a), .int .i64 more] w fun e w' => e = .returned (.bool true) ∧ Gr w w' := by
  have hbl := lt_M_of_bl a ha
  obtain ⟨m, hm, m16⟩ : ∃ m : Nat, bits .and .i64 more 15 = (m : Int) ∧ m < 16 := ⟨(more % 16).toNat, by rw [i64_and15]; omega, by omega⟩
  obtain ⟨s, hs⟩ : ∃ s : ByteArray, s = ⟨(bs 72 a).toArray⟩ := ⟨_, rfl⟩
  have hsz : s.size = 72 := by rw [hs]; show (bs 72 a).toArray.size = 72; simp [bs_length]
  obtain ⟨E, hE, hE8⟩ : ∃ E : Nat, (E : Int) = 448 ∧ E = 8 * 56 := ⟨448, rfl, rfl⟩
  obtain ⟨b, hb⟩ : ∃ b, a % 2 ^ E = b := ⟨_, rfl⟩
  have hbE : b < 2 ^ E := by rw [← hb]; exact Nat.mod_lt _ (Nat.two_pow_pos _)
  have hbM : b < M := by rw [← hb]; exact Nat.lt_of_le_of_lt (Nat.mod_le _ _) ha
  have hbl2 : bl b ≤ E := (bl_le b E).2 hbE
  obtain ⟨t, ht⟩ : ∃ t : ByteArray, t = ⟨(bs 56 b).toArray⟩ := ⟨_, rfl⟩
  obtain ⟨z, hz⟩ : ∃ z : ByteArray, z = ⟨(bs m 0).toArray⟩ := ⟨_, rfl⟩
  have hzt : (z ++ t).data.toList = bs m 0 ++ bs 56 b := by rw [hz, ht]; simp
  have c1 := fun w => bytes_any a 72 ha (by decide) (by omega) w
  have c3 := fun w => natcut_any a E (by omega) w
  have c4 := fun w => bytes_any b 56 hbM (by decide) (by omega) w
  have c5 := fun w => of_any (z ++ t) (by rw [← ByteArray.size_data, ← Array.length_toList, hzt, List.length_append, bs_length, bs_length]; omega) w
  rw [← hs] at c1
  rw [hb, hE] at c3
  rw [← ht] at c4
  have hbn : bn (bs 56 b) = b := bn_bs 56 b (by rw [hE8] at hbE; exact hbE)
  rw [hzt, bn_zeros, hbn] at c5
  have hcat : ¬ 9223372036854775807 < z.size + t.size := by
    have h1 : z.size = m := by rw [hz]; show (bs m 0).toArray.size = m; simp [bs_length]
    have h2 : t.size = 56 := by rw [ht]; show (bs 56 b).toArray.size = 56; simp [bs_length]
    omega
  have C1 : Hid (∀ w, Calls Try.prog 38 #[.agg (nw 9 a), .int .i64 72] w fun e w' => e = .returned (.tuple #[.string s, .int .i64 0]) ∧ Gr w w') := c1
  have C2 : Hid (∀ n : Nat, n < 72 → ∀ w, Calls Try.prog 29 #[.agg (nw 9 a), .int .i64 (8 * (n : Int))] w fun e w' => e = .returned (.tuple #[.agg (nw 9 (a / 2 ^ (8 * n))), .int .i64 0]) ∧ Gr w w') := fun n hn w => by
    have h := shr_any a (8 * n) ha (by omega) w
    rw [Int.natCast_mul] at h
    exact h
  have C3 : Hid (∀ w, Calls Try.prog 41 #[.agg (nw 9 a), .int .i64 448] w fun e w' => e = .returned (.agg (nw 9 b)) ∧ Gr w w') := c3
  have C4 : Hid (∀ w, Calls Try.prog 38 #[.agg (nw 9 b), .int .i64 56] w fun e w' => e = .returned (.tuple #[.string t, .int .i64 0]) ∧ Gr w w') := c4
  have C5 : Hid (∀ w, Calls Try.prog 37 #[.string (z ++ t)] w fun e w' => e = .returned (.tuple #[.agg (nw 9 b), .int .i64 0]) ∧ Gr w w') := c5
  have hmk := fun v => make_bytes m 0 (by omega) v
  have hcv : ∀ (v : World) (c : Nat), blk v c = bx m 0 0 → (convert 69 9 (.slice (some ⟨c, 0, none⟩) m m)).run Try.prog v = .ok (.string z) v := fun v c h => by rw [hz]; exact conv_bytes m 0 v c (by rw [h, bx_noughts])
  have HS : Hid (Unit → s = ⟨(bs 72 a).toArray⟩) := fun _ => hs
  have m0 : (0 : Int) ≤ (m : Int) := by omega
  have q1 := eqN_self 9 b
  clear c1 c3 c4 c5 hbn hzt hz ht hbl2 hbM hbE hb hE hE8 hs hbl ha m16
  go_enter Try.func13, Try.ntmps13
  go_wp2_with (first
    | (go_at_call 27; refine (awake_any _).mono ?_; rintro e w' ⟨rfl, g, rfl⟩)
    | (go_at_call 38; refine (C1.out _).mono ?_; rintro e w' ⟨rfl, g, rfl⟩)
    | (go_at_call 35; refine (num_any _ _).mono ?_; rintro e w' ⟨rfl, rfl⟩))
  go_loopw [7] (fun i wr => ∃ n : Nat, n ≤ 72 ∧ i = .int .i64 (n : Int) ∧ Gr (w.alloc (.cells (nw 9 a) 25)) wr) (fun i _ => 72 - (intOf i).toNat)
  case atStart => exact ⟨0, by omega, rfl, (by repeat (first | exact Gr.refl _ | apply Gr.drewN | apply Gr.drew | apply Gr.alloc | apply Gr.gro))⟩
  case round =>
    obtain ⟨n, hn, rfl, gw, rfl⟩ := hrel
    by_cases hlt : n < 72
    · obtain ⟨k, hk⟩ : ∃ k, n + k = 71 := ⟨71 - n, by omega⟩
      have e1 : (71 : Int) - (n : Int) = (k : Int) := by omega
      have w1 : IntKind.i64.wrap (k : Int) = (k : Int) := by rw [IntKind.wrap_i64]; omega
      have k0 : (0 : Int) ≤ (k : Int) := by omega
      have k1 : (k : Int) < 72 := by omega
      have n0 : (0 : Int) ≤ (n : Int) := by omega
      have n1 : (n : Int) < 72 := by omega
      obtain ⟨x, hx⟩ : ∃ x, a / 2 ^ (8 * n) = x := ⟨_, rfl⟩
      have C6 := C2.out n hlt
      rw [hx] at C6
      have CX : Hid (∀ w, Calls Try.prog 29 #[.agg (nw 9 a), .int .i64 (8 * (n : Int))] w fun e w' => e = .returned (.tuple #[.agg (nw 9 x), .int .i64 0]) ∧ Gr w w') := C6
      obtain ⟨B, hB⟩ : ∃ B, byt a n = B := ⟨_, rfl⟩
      have hB2 : B < 256 := by rw [← hB]; exact byt_lt a n
      have hby : ∀ h : k < s.size, (s[k]'h).toNat = B := fun h => by rw [← hB]; exact bs_at a n k hk s (HS.out ()) h
      have hand : bits BinOp.and IntKind.u64 ((wd x 0 : Nat) : Int) 255 = (B : Int) := by rw [and255 _ (wd_lt _ _), ← hx, digit_of, hB]
      have hw8 : IntKind.u8.wrap (B : Int) = (B : Int) := by rw [IntKind.wrap_u8]; omega
      have gx := nw_get 9 x 0 (by decide)
      clear C6 hx hB hk hn C2 hmk hcv
      go_wp2_with (go_at_call 29; refine (CX.out _).mono ?_; rintro e w' ⟨rfl, g, rfl⟩)
      refine wp_region_gr (by kernel_rfl) (by kernel_rfl) ?_
      repeat (go_big_quiet_step ((go_at_call 35; exact calls_same (num_any _ _))))
      refine wpQuiet_nil ?_
      intro w2 hw2
      obtain ⟨gq, hw3⟩ := hw2
      subst hw3
      go_wp2
      go_roundw
      case rel => exact ⟨n + 1, by omega, by go_num, (by repeat (first | exact Gr.refl _ | apply Gr.drewN | apply Gr.drew | apply Gr.alloc | apply Gr.gro))⟩
      case measure => simp [intOf]; omega
    · have hni : ¬ (n : Int) < 72 := by omega
      clear hlt hn
      go_wp2_with (first
        | (go_at_call 41; refine (C3.out _).mono ?_; rintro e w' ⟨rfl, g, rfl⟩)
        | (go_at_call 38; refine (C4.out _).mono ?_; rintro e w' ⟨rfl, g, rfl⟩)
        | (go_at_call 37; refine (C5.out _).mono ?_; rintro e w' ⟨rfl, g, rfl⟩)
        | (go_at_call 35; refine (num_any _ _).mono ?_; rintro e w' ⟨rfl, rfl⟩))
      go_ret
      exact ⟨rfl, (by repeat (first | exact Gr.refl _ | apply Gr.drewN | apply Gr.drew | apply Gr.alloc | apply Gr.gro))⟩

end Go.Proofs.Ytjgpecdhlgdjoaa
