/-
  The statement MontTiny, walked: it answers true for every three numbers.
-/
import Derived.Test.YtleckbdhebjfkaaZMtW
namespace Go.Proofs.Ytleckbdhebjfkaa
open Go.RowKit
attribute [local go_sem ↓] loadNat_is loadArr_is loadWide_is loadArrW_is storeNat_is storeWide_is
attribute [local go_sem] loadNat loadArr loadWide loadArrW storeNat storeWide idxArr fold9 fold18 nw_size nw_elem pre_self pre_1 pre_2 pre_3 pre_4 pre_5 pre_6 pre_7 pre_8 pre_9 pre_10 pre_11 pre_12 pre_13 pre_14 pre_15 pre_16 pre_17 pre_18 pre_19 pre_20 pre_21 pre_22 pre_23 pre_24 pre_25 pre_26 pre_27 pre_28 pre_29 pre_30 pre_31 pre_32 pre_33 pre_34 pre_35 pre_36 pre_37 pre_38 pre_39 pre_40 gro_size gro_drew gro_drewN drew_gro drewN_gro gro_gro blk_gro frz_gro blk_drew frz_drew blk_drewN frz_drewN blk_alloc_at frz_alloc_at blk_alloc frz_alloc cell_gro frozen_gro cell_alloc_pre frozen_alloc_pre setCell_drewN alloc_drewN setBlk_drew setBlk_drewN setBlk_alloc_at setBlk_alloc setBlk_gro setCell_gro setCell_alloc_pre size_setBlk size_setCell
attribute [local go_sem] nw_ext9 nw_ext18 eqArr9 eqArr18

attribute [local go_sem] loadNat2 loadArr2 loadWide2 loadK_nw ppre_1 ppre_2 ppre_3 ppre_4 ppre_5 ppre_6 ppre_7 ppre_8 ppre_9 ppre_10 ppre_11 ppre_12 ppre_13 ppre_14 ppre_15 ppre_16 ppre_17 ppre_18 ppre_19 ppre_20

attribute [local go_sem ↓] Go.wp_at_zero Go.wp_at_succ
attribute [local go_sem] eqN_self frz_setBlk blk_setBlk setBlk_setBlk blk_other
theorem u64_of (x : Int) : ∃ U : Nat, x % 18446744073709551616 = (U : Int) ∧ U < 18446744073709551616 := by
  obtain ⟨U, hU⟩ := Int.eq_ofNat_of_zero_le (Int.emod_nonneg x (show (18446744073709551616 : Int) ≠ 0 by decide))
  exact ⟨U, hU, by omega⟩
set_option maxRecDepth 100000 in
set_option maxHeartbeats 4000000 in
theorem montTiny_any (m a b : Int) (w : World) :
    Calls Try.prog 7 #[.int .i64 m, .int .i64 a, .int .i64 b] w fun e w' => e = .returned (.bool true) ∧ Gr w w' := by
  obtain ⟨U, hU, hUl⟩ := u64_of m
  obtain ⟨A, hA, hAl⟩ := u64_of a
  obtain ⟨Bn, hB, hBl⟩ := u64_of b
  obtain ⟨K, hK⟩ : ∃ K, 3 + 2 * (U % 126) = K := ⟨_, rfl⟩
  have hU2 : (3 : Int) + 2 * ((U : Int) % 126) = (K : Int) := by omega
  have hK3 : 3 ≤ K := by omega
  have hK4 : K ≤ 253 := by omega
  have hKM : K < M := lt_M K (by omega)
  obtain ⟨u, ho, HN0⟩ := New_ok K (by omega) hK3 hKM
  rw [kw_one K (by omega) (by omega)] at ho HN0
  obtain ⟨p, hp1⟩ : ∃ p, A % K = p := ⟨_, rfl⟩
  obtain ⟨q, hq1⟩ : ∃ q, Bn % K = q := ⟨_, rfl⟩
  have hp : p < K := by rw [← hp1]; exact Nat.mod_lt _ (by omega)
  have hq : q < K := by rw [← hq1]; exact Nat.mod_lt _ (by omega)
  have hp2 : (A : Int) % (K : Int) = (p : Int) := by rw [← hp1]; rfl
  have hq2 : (Bn : Int) % (K : Int) = (q : Int) := by rw [← hq1]; rfl
  obtain ⟨t, ht⟩ : ∃ t, p * pw 1 % K = t := ⟨_, rfl⟩
  obtain ⟨y, hy⟩ : ∃ y, q * pw 1 % K = y := ⟨_, rfl⟩
  obtain ⟨z, hz⟩ : ∃ z, t * y * u % K = z := ⟨_, rfl⟩
  obtain ⟨R, hR⟩ : ∃ R, z * u % K = R := ⟨_, rfl⟩
  have htm : t < K := by rw [← ht]; exact Nat.mod_lt _ (by omega)
  have hym : y < K := by rw [← hy]; exact Nat.mod_lt _ (by omega)
  have hzm : z < K := by rw [← hz]; exact Nat.mod_lt _ (by omega)
  have hRm : R < K := by rw [← hR]; exact Nat.mod_lt _ (by omega)
  obtain ⟨X, hX⟩ : ∃ X, p * q = X := ⟨_, rfl⟩
  have hXl : X ≤ 252 * 252 := by rw [← hX]; exact Nat.mul_le_mul (by omega) (by omega)
  have hRX : X % K = R := by
    have := ho.prod p q
    rw [ht, hy, hz, hR, hX] at this
    exact this.symm
  obtain ⟨S, hS⟩ : ∃ S, K + q = S := ⟨_, rfl⟩
  have hS2 : (K : Int) + (q : Int) = (S : Int) := by omega
  have hS3 : IntKind.u64.wrap ((K : Int) + (q : Int)) = (S : Int) := by rw [IntKind.wrap_u64]; omega
  have hX3 : (p : Int) * (q : Int) = (X : Int) := by rw [← hX]; exact (Int.natCast_mul p q).symm
  have hX4 : IntKind.u64.wrap (X : Int) = (X : Int) := by rw [IntKind.wrap_u64]; omega
  have hK7 : ¬ K = 0 := by omega
  have hR2 : (X : Int) % (K : Int) = (R : Int) := by rw [← hRX]; rfl
  have hR3 : (X : Int).tmod (K : Int) = (R : Int) := by rw [Int.tmod_eq_emod_of_nonneg (by omega)]; exact hR2
  have hK0 : ¬ (K : Int) = 0 := by omega
  have hK1 : ((K : Int) == 0) = false := by rw [beq_eq_false_iff_ne]; exact hK0
  have hK5 : (0 : Int) < (K : Int) := by omega
  have hK6 : (K : Int) ≤ 253 := by omega
  have hp3 : (A : Int).tmod (K : Int) = (p : Int) := by rw [Int.tmod_eq_emod_of_nonneg (by omega)]; exact hp2
  have hq3 : (Bn : Int).tmod (K : Int) = (q : Int) := by rw [Int.tmod_eq_emod_of_nonneg (by omega)]; exact hq2
  have hU3 : IntKind.u64.wrap m = (U : Int) := by rw [IntKind.wrap_u64]; exact hU
  have hA3 : IntKind.u64.wrap a = (A : Int) := by rw [IntKind.wrap_u64]; exact hA
  have hB3 : IntKind.u64.wrap b = (Bn : Int) := by rw [IntKind.wrap_u64]; exact hB
  have OK0 : Hid (∀ w', Calls Try.prog 26 #[.int .u64 (K : Int)] w' fun e w'' => e = .returned (.agg (nw 9 K)) ∧ Gr w' w'') := fun w => one_any K (by omega) w
  have OP : Hid (∀ w', Calls Try.prog 26 #[.int .u64 (p : Int)] w' fun e w'' => e = .returned (.agg (nw 9 p)) ∧ Gr w' w'') := fun w => one_any p (by omega) w
  have OQ : Hid (∀ w', Calls Try.prog 26 #[.int .u64 (q : Int)] w' fun e w'' => e = .returned (.agg (nw 9 q)) ∧ Gr w' w'') := fun w => one_any q (by omega) w
  have OS : Hid (∀ w', Calls Try.prog 26 #[.int .u64 (S : Int)] w' fun e w'' => e = .returned (.agg (nw 9 S)) ∧ Gr w' w'') := fun w => one_any S (by omega) w
  have OR : Hid (∀ w', Calls Try.prog 26 #[.int .u64 (R : Int)] w' fun e w'' => e = .returned (.agg (nw 9 R)) ∧ Gr w' w'') := fun w => one_any R (by omega) w
  have W1 : Hid (∀ (b : Nat) w', Mn w' b K 1 u → Calls Try.prog 19 #[.pointer (some ⟨b, 0, none⟩)] w' fun e w'' => e = .returned (.int .i64 1) ∧ Gr w' w'') := fun b w' h => Words_any b K 1 u w' h
  have TP : Hid (∀ (b : Nat) w', Mn w' b K 1 u → Calls Try.prog 15 #[.pointer (some ⟨b, 0, none⟩), .agg (nw 9 p)] w' fun e w'' => e = .returned (.tuple #[.agg (nw 9 t), .int .i64 0]) ∧ Gr w' w'') := fun b w' h => ht ▸ To_ok b K 1 u p w' h hp
  have TQ : Hid (∀ (b : Nat) w', Mn w' b K 1 u → Calls Try.prog 15 #[.pointer (some ⟨b, 0, none⟩), .agg (nw 9 q)] w' fun e w'' => e = .returned (.tuple #[.agg (nw 9 y), .int .i64 0]) ∧ Gr w' w'') := fun b w' h => hy ▸ To_ok b K 1 u q w' h hq
  have MU : Hid (∀ (b : Nat) w', Mn w' b K 1 u → Calls Try.prog 17 #[.pointer (some ⟨b, 0, none⟩), .agg (nw 9 t), .agg (nw 9 y)] w' fun e w'' => e = .returned (.tuple #[.agg (nw 9 z), .int .i64 0]) ∧ Gr w' w'') := fun b w' h => hz ▸ Mul_ok b K 1 u t y w' h ⟨htm, hym⟩
  have FV : Hid (∀ (b : Nat) w', Mn w' b K 1 u → Calls Try.prog 16 #[.pointer (some ⟨b, 0, none⟩), .agg (nw 9 z)] w' fun e w'' => e = .returned (.tuple #[.agg (nw 9 R), .int .i64 0]) ∧ Gr w' w'') := fun b w' h => hR ▸ From_ok b K 1 u z w' h hzm
  have MK : Hid (∀ (b : Nat) w', Mn w' b K 1 u → Calls Try.prog 17 #[.pointer (some ⟨b, 0, none⟩), .agg (nw 9 K), .agg (nw 9 y)] w' fun e w'' => e = .returned (.tuple #[.agg (nw 9 0), .int .i64 601]) ∧ Gr w' w'') := fun b w' h => Mul_no b K 1 u K y w' h (lt_M K (by omega)) (lt_M y (by omega)) (fun h => by omega)
  have FS0 : Hid (∀ (b : Nat) w', Mn w' b K 1 u → Calls Try.prog 16 #[.pointer (some ⟨b, 0, none⟩), .agg (nw 9 S)] w' fun e w'' => e = .returned (.tuple #[.agg (nw 9 0), .int .i64 601]) ∧ Gr w' w'') := fun b w' h => From_no b K 1 u S w' h (lt_M S (by omega)) (by omega)
  have HN : Hid (∀ w, Calls Try.prog 8 #[.agg (nw 9 K)] w fun e w' => ∃ b, e = .returned (.tuple #[.pointer (some ⟨b, 0, none⟩), .int .i64 0]) ∧ Mn w' b K 1 u ∧ Gr w w') := HN0
  clear HN0 hRX hXl hX hS hR hz hy ht hp1 hq1 hK ho hKM hRm hzm hym htm hK3 hK4
  go_enter Try.func7, Try.ntmps7
  go_upto_region 3 with (go_at_call 13; refine (awake6_any _).mono ?_; rintro e w' ⟨rfl, gaw, rfl⟩)
  refine gen_w (fun v => Hid (Gr w v)) (by repeat (first | exact Gr.refl _ | apply Gr.drewN | apply Gr.drew | apply Gr.alloc | apply Gr.gro)) ?_
  intro v0 HV
  have G := HV.out
  go_cut [7] from 26 to 32 (fun a7 wx => a7 = .int .u64 (K : Int) ∧ Hid (Gr w wx))
  case first =>
    go_wp2_with fail
    go_meet
    exact ⟨rfl, G.trans (by repeat (first | exact Gr.refl _ | apply Gr.drewN | apply Gr.drew | apply Gr.alloc | apply Gr.gro))⟩
  clear HV G
  obtain ⟨rfl, HV⟩ := hcut
  go_upto_region 4 with fail
  go_cut [8, 9] from 33 to 38 (fun a0 a1 wx => ∃ bx : Nat, a0 = .pointer (some ⟨bx, 0, none⟩) ∧ a1 = .int .i64 0 ∧ Hid (Gr w wx ∧ Mn wx bx K 1 u))
  case first =>
    have G := HV.out
    go_wp2_with (first | (go_at_call 8; refine (HN.out _).mono ?_; rintro e W1 ⟨bx, rfl, S1, G1⟩) | (go_at_call 26; refine (OK0.out _).mono ?_; rintro e w' ⟨rfl, gO, rfl⟩))
    go_meet
    exact ⟨bx, rfl, rfl, G.trans ((Gr.trans (by repeat (first | exact Gr.refl _ | apply Gr.drewN | apply Gr.drew | apply Gr.alloc | apply Gr.gro)) G1).trans (by repeat (first | exact Gr.refl _ | apply Gr.drewN | apply Gr.drew | apply Gr.alloc | apply Gr.gro))), S1.gr (by repeat (first | exact Gr.refl _ | apply Gr.drewN | apply Gr.drew | apply Gr.alloc | apply Gr.gro))⟩
  clear HV
  obtain ⟨bx, rfl, rfl, HV⟩ := hcut
  have ⟨G, S_x⟩ := HV.out
  go_upto_region 7 with (first
      | (go_at_call_of 19 ((#[.pointer (some ⟨bx, 0, none⟩)] : Array Value)); refine (W1.out bx _ (S_x.gr (by repeat (first | exact Gr.refl _ | apply Gr.drewN | apply Gr.drew | apply Gr.alloc | apply Gr.gro)))).mono ?_; rintro e w' ⟨rfl, g1, rfl⟩)
      | (go_at_call 12; refine (num_any _ _).mono ?_; rintro e w' ⟨rfl, rfl⟩))
  refine gen_w (fun v => Hid (Gr w v ∧ Mn v bx K 1 u)) ⟨G.trans (by repeat (first | exact Gr.refl _ | apply Gr.drewN | apply Gr.drew | apply Gr.alloc | apply Gr.gro)), S_x.gr (by repeat (first | exact Gr.refl _ | apply Gr.drewN | apply Gr.drew | apply Gr.alloc | apply Gr.gro))⟩ ?_
  clear HV G S_x
  intro v1 HV
  have ⟨G, S_x⟩ := HV.out
  go_cut [10, 11] from 47 to 54 (fun a0 a1 wx => a0 = .int .u64 (p : Int) ∧ a1 = .int .u64 (q : Int) ∧ Hid (Gr w wx ∧ Mn wx bx K 1 u))
  case first =>
    go_quiet (fail)
    go_wp2_with fail
    go_meet
    exact ⟨rfl, rfl, G.trans (by repeat (first | exact Gr.refl _ | apply Gr.drewN | apply Gr.drew | apply Gr.alloc | apply Gr.gro)), S_x.gr (by repeat (first | exact Gr.refl _ | apply Gr.drewN | apply Gr.drew | apply Gr.alloc | apply Gr.gro))⟩
  clear HV G S_x
  obtain ⟨rfl, rfl, HV⟩ := hcut
  go_upto_region 8 with fail
  go_cut [12, 13] from 55 to 61 (fun a0 a1 wx => ∃ e12 : Nat, a0 = .pointer (some ⟨e12, 0, none⟩) ∧ a1 = .int .i64 0 ∧ Hid (Gr w wx ∧ Cl wx e12 t ∧ Mn wx bx K 1 u))
  case first =>
    have ⟨G, S_x⟩ := HV.out
    go_wp2_with (first
        | (go_at_call_of 26 ((#[.int .u64 (p : Int)] : Array Value)); refine (OP.out _).mono ?_; rintro e w' ⟨rfl, g2, rfl⟩)
        | (go_at_call_of 15 ((#[.pointer (some ⟨bx, 0, none⟩), .agg (nw 9 p)] : Array Value)); refine (TP.out bx _ (S_x.gr (by repeat (first | exact Gr.refl _ | apply Gr.drewN | apply Gr.drew | apply Gr.alloc | apply Gr.gro)))).mono ?_; rintro e w' ⟨rfl, g3, rfl⟩)
        | (go_at_call 12; refine (num_any _ _).mono ?_; rintro e w' ⟨rfl, rfl⟩))
    go_meet
    exact ⟨_, rfl, rfl, G.trans (by repeat (first | exact Gr.refl _ | apply Gr.drewN | apply Gr.drew | apply Gr.alloc | apply Gr.gro)), ⟨by simp [go_sem], by simp [go_sem], by simp [go_sem]⟩, S_x.gr (by repeat (first | exact Gr.refl _ | apply Gr.drewN | apply Gr.drew | apply Gr.alloc | apply Gr.gro))⟩
  clear HV
  obtain ⟨e12, rfl, rfl, HV⟩ := hcut
  go_upto_region 9 with fail
  go_cut [14, 15] from 62 to 68 (fun a0 a1 wx => ∃ e14 : Nat, a0 = .pointer (some ⟨e14, 0, none⟩) ∧ a1 = .int .i64 0 ∧ Hid (Gr w wx ∧ Cl wx e12 t ∧ Cl wx e14 y ∧ Mn wx bx K 1 u))
  case first =>
    have ⟨G, c_e12, S_x⟩ := HV.out
    have ⟨hc_e12, fc_e12, pc_e12⟩ := c_e12
    go_wp2_with (first
        | (go_at_call_of 26 ((#[.int .u64 (q : Int)] : Array Value)); refine (OQ.out _).mono ?_; rintro e w' ⟨rfl, g4, rfl⟩)
        | (go_at_call_of 15 ((#[.pointer (some ⟨bx, 0, none⟩), .agg (nw 9 q)] : Array Value)); refine (TQ.out bx _ (S_x.gr (by repeat (first | exact Gr.refl _ | apply Gr.drewN | apply Gr.drew | apply Gr.alloc | apply Gr.gro)))).mono ?_; rintro e w' ⟨rfl, g5, rfl⟩)
        | (go_at_call 12; refine (num_any _ _).mono ?_; rintro e w' ⟨rfl, rfl⟩))
    go_meet
    exact ⟨_, rfl, rfl, G.trans (by repeat (first | exact Gr.refl _ | apply Gr.drewN | apply Gr.drew | apply Gr.alloc | apply Gr.gro)), c_e12.gr (by repeat (first | exact Gr.refl _ | apply Gr.drewN | apply Gr.drew | apply Gr.alloc | apply Gr.gro)), ⟨by simp [go_sem], by simp [go_sem], by simp [go_sem]⟩, S_x.gr (by repeat (first | exact Gr.refl _ | apply Gr.drewN | apply Gr.drew | apply Gr.alloc | apply Gr.gro))⟩
  clear HV
  obtain ⟨e14, rfl, rfl, HV⟩ := hcut
  go_upto_region 10 with fail
  go_cut [16, 17] from 69 to 75 (fun a0 a1 wx => ∃ e16 : Nat, a0 = .pointer (some ⟨e16, 0, none⟩) ∧ a1 = .int .i64 0 ∧ Hid (Gr w wx ∧ Cl wx e12 t ∧ Cl wx e14 y ∧ Cl wx e16 z ∧ Mn wx bx K 1 u))
  case first =>
    have ⟨G, c_e12, c_e14, S_x⟩ := HV.out
    have ⟨hc_e12, fc_e12, pc_e12⟩ := c_e12
    have ⟨hc_e14, fc_e14, pc_e14⟩ := c_e14
    go_wp2_with (first
        | (go_at_call_of 17 ((#[.pointer (some ⟨bx, 0, none⟩), .agg (nw 9 t), .agg (nw 9 y)] : Array Value)); refine (MU.out bx _ (S_x.gr (by repeat (first | exact Gr.refl _ | apply Gr.drewN | apply Gr.drew | apply Gr.alloc | apply Gr.gro)))).mono ?_; rintro e w' ⟨rfl, g6, rfl⟩)
        | (go_at_call 12; refine (num_any _ _).mono ?_; rintro e w' ⟨rfl, rfl⟩))
    go_meet
    exact ⟨_, rfl, rfl, G.trans (by repeat (first | exact Gr.refl _ | apply Gr.drewN | apply Gr.drew | apply Gr.alloc | apply Gr.gro)), c_e12.gr (by repeat (first | exact Gr.refl _ | apply Gr.drewN | apply Gr.drew | apply Gr.alloc | apply Gr.gro)), c_e14.gr (by repeat (first | exact Gr.refl _ | apply Gr.drewN | apply Gr.drew | apply Gr.alloc | apply Gr.gro)), ⟨by simp [go_sem], by simp [go_sem], by simp [go_sem]⟩, S_x.gr (by repeat (first | exact Gr.refl _ | apply Gr.drewN | apply Gr.drew | apply Gr.alloc | apply Gr.gro))⟩
  clear HV
  obtain ⟨e16, rfl, rfl, HV⟩ := hcut
  go_upto_region 11 with fail
  go_cut [18, 19] from 76 to 81 (fun a0 a1 wx => ∃ e18 : Nat, a0 = .pointer (some ⟨e18, 0, none⟩) ∧ a1 = .int .i64 0 ∧ Hid (Gr w wx ∧ Cl wx e12 t ∧ Cl wx e14 y ∧ Cl wx e16 z ∧ Cl wx e18 R ∧ Mn wx bx K 1 u))
  case first =>
    have ⟨G, c_e12, c_e14, c_e16, S_x⟩ := HV.out
    have ⟨hc_e12, fc_e12, pc_e12⟩ := c_e12
    have ⟨hc_e14, fc_e14, pc_e14⟩ := c_e14
    have ⟨hc_e16, fc_e16, pc_e16⟩ := c_e16
    go_wp2_with (first
        | (go_at_call_of 16 ((#[.pointer (some ⟨bx, 0, none⟩), .agg (nw 9 z)] : Array Value)); refine (FV.out bx _ (S_x.gr (by repeat (first | exact Gr.refl _ | apply Gr.drewN | apply Gr.drew | apply Gr.alloc | apply Gr.gro)))).mono ?_; rintro e w' ⟨rfl, g7, rfl⟩)
        | (go_at_call 12; refine (num_any _ _).mono ?_; rintro e w' ⟨rfl, rfl⟩))
    go_meet
    exact ⟨_, rfl, rfl, G.trans (by repeat (first | exact Gr.refl _ | apply Gr.drewN | apply Gr.drew | apply Gr.alloc | apply Gr.gro)), c_e12.gr (by repeat (first | exact Gr.refl _ | apply Gr.drewN | apply Gr.drew | apply Gr.alloc | apply Gr.gro)), c_e14.gr (by repeat (first | exact Gr.refl _ | apply Gr.drewN | apply Gr.drew | apply Gr.alloc | apply Gr.gro)), c_e16.gr (by repeat (first | exact Gr.refl _ | apply Gr.drewN | apply Gr.drew | apply Gr.alloc | apply Gr.gro)), ⟨by simp [go_sem], by simp [go_sem], by simp [go_sem]⟩, S_x.gr (by repeat (first | exact Gr.refl _ | apply Gr.drewN | apply Gr.drew | apply Gr.alloc | apply Gr.gro))⟩
  clear HV
  obtain ⟨e18, rfl, rfl, HV⟩ := hcut
  go_upto_region 12 with fail
  go_cut [20, 21] from 82 to 89 (fun a0 a1 wx => ∃ e20 : Nat, a0 = .pointer (some ⟨e20, 0, none⟩) ∧ a1 = .int .i64 601 ∧ Hid (Gr w wx ∧ Cl wx e12 t ∧ Cl wx e14 y ∧ Cl wx e16 z ∧ Cl wx e18 R ∧ Cl wx e20 0 ∧ Mn wx bx K 1 u))
  case first =>
    have ⟨G, c_e12, c_e14, c_e16, c_e18, S_x⟩ := HV.out
    have ⟨hc_e12, fc_e12, pc_e12⟩ := c_e12
    have ⟨hc_e14, fc_e14, pc_e14⟩ := c_e14
    have ⟨hc_e16, fc_e16, pc_e16⟩ := c_e16
    have ⟨hc_e18, fc_e18, pc_e18⟩ := c_e18
    refine wp_region_mix (by kernel_rfl) (by kernel_rfl) (RG _ (fun i => match i with | 0 => some (.pointer (some ⟨bx, 0, none⟩)) | 1 => some (.int .u64 (K : Int)) | 2 => some (.agg (nw 9 K)) | 3 => some (.agg (nw 9 y)) | 4 => some (.tuple #[.agg (nw 9 0), .int .i64 601]) | 5 => some (.tuple #[.agg (nw 9 0), .int .i64 601]) | 6 => some (.agg (nw 9 0)) | 7 => some (.int .i64 601) | 10 => some (.int .i64 601) | _ => none) (fun i => match i with | 8 => some (nw 9 0) | _ => none) (fun i => match i with | 8 => some (9, nw 9 0) | _ => none)) (RG.start _ _ _ _ _ _) ?hs ?hf
    case hs =>
      intro listed vals a1 v1 i o hz hR hF ho hl hd
      have hks : ∀ (j k : Nat) (r : Array Value), (match j with | 8 => some (9, nw 9 0) | _ => (none : Option (Nat × Array Value))) = some (k, r) → (j = 8 ∧ k = 9) := fun j k r h => by
        split at h <;> simp_all
      have Hc_e12 : blk v1 (e12) = nw 9 t := (blk_of _ _ _ (hR.1.below.block (e12) (c_e12.p))).trans (c_e12.h)
      have Hc_e14 : blk v1 (e14) = nw 9 y := (blk_of _ _ _ (hR.1.below.block (e14) (c_e14.p))).trans (c_e14.h)
      have Hc_e16 : blk v1 (e16) = nw 9 z := (blk_of _ _ _ (hR.1.below.block (e16) (c_e16.p))).trans (c_e16.h)
      have Hc_e18 : blk v1 (e18) = nw 9 R := (blk_of _ _ _ (hR.1.below.block (e18) (c_e18.p))).trans (c_e18.h)
      have hi : i < 11 := by simpa using (Array.getElem?_eq_some_iff.1 ho).1
      have hil : i < listed.size := by rw [hz]; simpa using hi
      obtain rfl | rfl | rfl | rfl | rfl | rfl | rfl | rfl | rfl | rfl | rfl : i = 0 ∨ i = 1 ∨ i = 2 ∨ i = 3 ∨ i = 4 ∨ i = 5 ∨ i = 6 ∨ i = 7 ∨ i = 8 ∨ i = 9 ∨ i = 10 := by omega
      · obtain rfl := Option.some.inj ho
        have f0 := hF.old (s := 8) (v := .pointer (some ⟨bx, 0, none⟩)) (by kernel_rfl) rfl
        exact wp_val (.pointer (some ⟨bx, 0, none⟩)) (by simp [go_sem, f0]) ⟨_, rfl, RG.quiet 0 _ hil rfl rfl (fun j k r h => by have := hks j k r h; omega) (Gr.refl _) hR⟩
      · obtain rfl := Option.some.inj ho
        have f0 := hF.old (s := 7) (v := .int .u64 (K : Int)) (by kernel_rfl) rfl
        exact wp_val (.int .u64 (K : Int)) (by simp [go_sem, f0]) ⟨_, rfl, RG.quiet 1 _ hil rfl rfl (fun j k r h => by have := hks j k r h; omega) (Gr.refl _) hR⟩
      · obtain rfl := Option.some.inj ho
        have l0 := hd ⟨1, .data⟩ (by simp) rfl
        have f0 := hF.at (s := 84) (i := 1) (by kernel_rfl) (by simp) l0
        rw [hR.2.1 1 _ l0 rfl] at f0
        exact wp_ret (.agg (nw 9 K)) (by simp [go_sem, f0]) (OK0.out _) (fun w2 hg => ⟨_, rfl, RG.quiet 2 _ hil rfl rfl (fun j k r h => by have := hks j k r h; omega) hg hR⟩)
      · obtain rfl := Option.some.inj ho
        have f0 := hF.old (s := 14) (v := .pointer (some ⟨e14, 0, none⟩)) (by kernel_rfl) rfl
        exact wp_val (.agg (nw 9 y)) (by simp [go_sem, f0, Hc_e14]) ⟨_, rfl, RG.quiet 3 _ hil rfl rfl (fun j k r h => by have := hks j k r h; omega) (Gr.refl _) hR⟩
      · obtain rfl := Option.some.inj ho
        have l0 := hd ⟨0, .data⟩ (by simp) rfl
        have f0 := hF.at (s := 83) (i := 0) (by kernel_rfl) (by simp) l0
        rw [hR.2.1 0 _ l0 rfl] at f0
        have l1 := hd ⟨2, .data⟩ (by simp) rfl
        have f1 := hF.at (s := 85) (i := 2) (by kernel_rfl) (by simp) l1
        rw [hR.2.1 2 _ l1 rfl] at f1
        have l2 := hd ⟨3, .data⟩ (by simp) rfl
        have f2 := hF.at (s := 86) (i := 3) (by kernel_rfl) (by simp) l2
        rw [hR.2.1 3 _ l2 rfl] at f2
        exact wp_ret (.tuple #[.agg (nw 9 0), .int .i64 601]) (by simp [go_sem, f0, f1, f2]) (MK.out bx _ (S_x.gr hR.1)) (fun w2 hg => ⟨_, rfl, RG.quiet 4 _ hil rfl rfl (fun j k r h => by have := hks j k r h; omega) hg hR⟩)
      · obtain rfl := Option.some.inj ho
        have l0 := hd ⟨4, .data⟩ (by simp) rfl
        have f0 := hF.at (s := 87) (i := 4) (by kernel_rfl) (by simp) l0
        rw [hR.2.1 4 _ l0 rfl] at f0
        exact wp_val (.tuple #[.agg (nw 9 0), .int .i64 601]) (by simp [go_sem, f0]) ⟨_, rfl, RG.quiet 5 _ hil rfl rfl (fun j k r h => by have := hks j k r h; omega) (Gr.refl _) hR⟩
      · obtain rfl := Option.some.inj ho
        have l0 := hd ⟨5, .data⟩ (by simp) rfl
        have f0 := hF.at (s := 82) (i := 5) (by kernel_rfl) (by simp) l0
        rw [hR.2.1 5 _ l0 rfl] at f0
        exact wp_val (.agg (nw 9 0)) (by simp [go_sem, f0]) ⟨_, rfl, RG.quiet 6 _ hil rfl rfl (fun j k r h => by have := hks j k r h; omega) (Gr.refl _) hR⟩
      · obtain rfl := Option.some.inj ho
        have l0 := hd ⟨5, .data⟩ (by simp) rfl
        have f0 := hF.at (s := 82) (i := 5) (by kernel_rfl) (by simp) l0
        rw [hR.2.1 5 _ l0 rfl] at f0
        exact wp_val (.int .i64 601) (by simp [go_sem, f0]) ⟨_, rfl, RG.quiet 7 _ hil rfl rfl (fun j k r h => by have := hks j k r h; omega) (Gr.refl _) hR⟩
      · obtain rfl := Option.some.inj ho
        exact wp_val (.pointer (some ⟨v1.heap.size, 0, none⟩)) (w' := v1.alloc (.cells (nw 9 0) 25)) (by simp [go_sem]) ⟨_, rfl, RG.alloc 8 (nw 9 0) 25 hil hl rfl rfl (fun j k r h => by have := hks j k r h; omega) hR⟩
      · obtain rfl := Option.some.inj ho
        have l0 := hd ⟨8, .data⟩ (by simp) rfl
        have l1 := hd ⟨6, .data⟩ (by simp) rfl
        obtain ⟨B, h4, h5⟩ := hR.2.2.2
        obtain ⟨e1, e2, e3, e4, e5⟩ := h4 8 (nw 9 0) l0 rfl
        simp only [hl] at e5
        replace e5 : blk v1 (B 8) = nw 9 0 := e5
        have f0 := hF.at (s := 20) (i := 8) (by kernel_rfl) (by simp) l0
        rw [e1] at f0
        have f1 := hF.at (s := 88) (i := 6) (by kernel_rfl) (by simp) l1
        rw [hR.2.1 6 _ l1 rfl] at f1
        exact wp_skip (w' := setBlk v1 (B 8) (nw 9 0)) (by simp [go_sem, f0, f1, e4, e5]) ⟨undef, rfl, RG.store 9 8 (nw 9 0) (nw 9 0) (B 8) hil hl rfl rfl rfl l0 rfl (by rw [nw_size]; decide) e1 (fun k r h => by have := hks k _ r h; omega) hR⟩
      · obtain rfl := Option.some.inj ho
        have l0 := hd ⟨7, .data⟩ (by simp) rfl
        have f0 := hF.at (s := 89) (i := 7) (by kernel_rfl) (by simp) l0
        rw [hR.2.1 7 _ l0 rfl] at f0
        exact wp_val (.int .i64 601) (by simp [go_sem, f0]) ⟨_, rfl, RG.quiet 10 _ hil rfl rfl (fun j k r h => by have := hks j k r h; omega) (Gr.refl _) hR⟩
    case hf =>
      intro listed vals a1 v1 hall hR hF
      have Hc_e12 : blk v1 (e12) = nw 9 t := (blk_of _ _ _ (hR.1.below.block (e12) (c_e12.p))).trans (c_e12.h)
      have pHc_e12 : Pre (e12 + 1) v1.heap.size := Nat.le_trans (show e12 + 1 ≤ _ from c_e12.p) hR.1.below.size
      have Hc_e14 : blk v1 (e14) = nw 9 y := (blk_of _ _ _ (hR.1.below.block (e14) (c_e14.p))).trans (c_e14.h)
      have pHc_e14 : Pre (e14 + 1) v1.heap.size := Nat.le_trans (show e14 + 1 ≤ _ from c_e14.p) hR.1.below.size
      have Hc_e16 : blk v1 (e16) = nw 9 z := (blk_of _ _ _ (hR.1.below.block (e16) (c_e16.p))).trans (c_e16.h)
      have pHc_e16 : Pre (e16 + 1) v1.heap.size := Nat.le_trans (show e16 + 1 ≤ _ from c_e16.p) hR.1.below.size
      have Hc_e18 : blk v1 (e18) = nw 9 R := (blk_of _ _ _ (hR.1.below.block (e18) (c_e18.p))).trans (c_e18.h)
      have pHc_e18 : Pre (e18 + 1) v1.heap.size := Nat.le_trans (show e18 + 1 ≤ _ from c_e18.p) hR.1.below.size
      have hV := hR.2.1
      obtain ⟨B, h4, h5⟩ := hR.2.2.2
      have x0 := hV 0 _ (hall 0 (by simp)) rfl
      have x1 := hV 1 _ (hall 1 (by simp)) rfl
      have x2 := hV 2 _ (hall 2 (by simp)) rfl
      have x3 := hV 3 _ (hall 3 (by simp)) rfl
      have x4 := hV 4 _ (hall 4 (by simp)) rfl
      have x5 := hV 5 _ (hall 5 (by simp)) rfl
      have x6 := hV 6 _ (hall 6 (by simp)) rfl
      have x7 := hV 7 _ (hall 7 (by simp)) rfl
      have x10 := hV 10 _ (hall 10 (by simp)) rfl
      obtain ⟨x8, q8, p8, z8, y8⟩ := h4 8 _ (hall 8 (by simp)) rfl
      simp only [hall 9 (by simp), if_true] at y8
      replace p8 : Pre (B 8 + 1) v1.heap.size := p8
      replace y8 : blk v1 (B 8) = nw 9 0 := y8
      have hb1 := hR.1
      rw [hF.final (by kernel_rfl) hall]
      simp only [putFrom, Act.put, List.setIfInBounds_toArray, List.set_cons_zero, List.set_cons_succ, x0, x1, x2, x3, x4, x5, x6, x7, x10, x8]
      generalize B 8 = b8 at *
      clear hV h4 h5 hR hF hall x0 x1 x2 x3 x4 x5 x6 x7 x10 x8
      go_wp2_with fail
      go_meet
      exact ⟨b8, rfl, rfl, G.trans hb1, c_e12.gr hb1, c_e14.gr hb1, c_e16.gr hb1, c_e18.gr hb1, ⟨y8, z8, p8⟩, S_x.gr hb1⟩
  clear HV
  obtain ⟨e20, rfl, rfl, HV⟩ := hcut
  go_upto_region 13 with fail
  go_cut [22, 23] from 90 to 98 (fun a0 a1 wx => ∃ e22 : Nat, a0 = .pointer (some ⟨e22, 0, none⟩) ∧ a1 = .int .i64 601 ∧ Hid (Gr w wx ∧ Cl wx e12 t ∧ Cl wx e14 y ∧ Cl wx e16 z ∧ Cl wx e18 R ∧ Cl wx e20 0 ∧ Cl wx e22 0 ∧ Mn wx bx K 1 u))
  case first =>
    have ⟨G, c_e12, c_e14, c_e16, c_e18, c_e20, S_x⟩ := HV.out
    have ⟨hc_e12, fc_e12, pc_e12⟩ := c_e12
    have ⟨hc_e14, fc_e14, pc_e14⟩ := c_e14
    have ⟨hc_e16, fc_e16, pc_e16⟩ := c_e16
    have ⟨hc_e18, fc_e18, pc_e18⟩ := c_e18
    have ⟨hc_e20, fc_e20, pc_e20⟩ := c_e20
    go_wp2_with (first
        | (go_at_call_of 26 ((#[.int .u64 (S : Int)] : Array Value)); refine (OS.out _).mono ?_; rintro e w' ⟨rfl, g8, rfl⟩)
        | (go_at_call_of 16 ((#[.pointer (some ⟨bx, 0, none⟩), .agg (nw 9 S)] : Array Value)); refine (FS0.out bx _ (S_x.gr (by repeat (first | exact Gr.refl _ | apply Gr.drewN | apply Gr.drew | apply Gr.alloc | apply Gr.gro)))).mono ?_; rintro e w' ⟨rfl, g9, rfl⟩)
        | (go_at_call 12; refine (num_any _ _).mono ?_; rintro e w' ⟨rfl, rfl⟩))
    go_meet
    exact ⟨_, rfl, rfl, G.trans (by repeat (first | exact Gr.refl _ | apply Gr.drewN | apply Gr.drew | apply Gr.alloc | apply Gr.gro)), c_e12.gr (by repeat (first | exact Gr.refl _ | apply Gr.drewN | apply Gr.drew | apply Gr.alloc | apply Gr.gro)), c_e14.gr (by repeat (first | exact Gr.refl _ | apply Gr.drewN | apply Gr.drew | apply Gr.alloc | apply Gr.gro)), c_e16.gr (by repeat (first | exact Gr.refl _ | apply Gr.drewN | apply Gr.drew | apply Gr.alloc | apply Gr.gro)), c_e18.gr (by repeat (first | exact Gr.refl _ | apply Gr.drewN | apply Gr.drew | apply Gr.alloc | apply Gr.gro)), c_e20.gr (by repeat (first | exact Gr.refl _ | apply Gr.drewN | apply Gr.drew | apply Gr.alloc | apply Gr.gro)), ⟨by simp [go_sem], by simp [go_sem], by simp [go_sem]⟩, S_x.gr (by repeat (first | exact Gr.refl _ | apply Gr.drewN | apply Gr.drew | apply Gr.alloc | apply Gr.gro))⟩
  clear HV
  obtain ⟨e22, rfl, rfl, HV⟩ := hcut
  go_upto_region 14 with fail
  obtain ⟨G, c_e12, c_e14, c_e16, c_e18, c_e20, c_e22, S_x⟩ := HV.out
  refine wp_region_pred (by kernel_rfl) (by kernel_rfl) [.c (.int .i64 0), .c (.int .i64 0), .c (.bool true), .c (.bool true), .c (.int .i64 0), .c (.int .i64 0), .c (.bool true), .c (.bool true), .c (.bool true), .c (.int .i64 0), .c (.int .i64 0), .c (.bool true), .c (.bool true), .c (.bool true), .c (.int .i64 0), .c (.int .i64 0), .c (.bool true), .c (.bool true), .c (.bool true), .c (.agg (nw 9 R)), .c (.int .u64 (p : Int)), .c (.int .u64 (q : Int)), .c (.int .u64 (X : Int)), .c (.int .u64 (K : Int)), .c (.int .u64 (R : Int)), .c (.agg (nw 9 R)), .c (.bool true), .c (.bool true), .c (.bool true), .c (.int .i64 601), .c (.int .i64 601), .c (.bool true), .c (.bool true), .c (.bool true), .c (.int .i64 601), .c (.int .i64 601), .c (.bool true), .c (.bool true), .c (.bool true)] ?hs ?hf
  case hs =>
    intro listed vals a1 v i o hg hR hF ho hd
    have Hc_e12 : blk v e12 = nw 9 t := (hg.blk _ c_e12.p).trans c_e12.h
    have Hc_e14 : blk v e14 = nw 9 y := (hg.blk _ c_e14.p).trans c_e14.h
    have Hc_e16 : blk v e16 = nw 9 z := (hg.blk _ c_e16.p).trans c_e16.h
    have Hc_e18 : blk v e18 = nw 9 R := (hg.blk _ c_e18.p).trans c_e18.h
    have Hc_e20 : blk v e20 = nw 9 0 := (hg.blk _ c_e20.p).trans c_e20.h
    have Hc_e22 : blk v e22 = nw 9 0 := (hg.blk _ c_e22.p).trans c_e22.h
    have hi : i < 39 := by simpa using (Array.getElem?_eq_some_iff.1 ho).1
    obtain rfl | rfl | rfl | rfl | rfl | rfl | rfl | rfl | rfl | rfl | rfl | rfl | rfl | rfl | rfl | rfl | rfl | rfl | rfl | rfl | rfl | rfl | rfl | rfl | rfl | rfl | rfl | rfl | rfl | rfl | rfl | rfl | rfl | rfl | rfl | rfl | rfl | rfl | rfl : i = 0 ∨ i = 1 ∨ i = 2 ∨ i = 3 ∨ i = 4 ∨ i = 5 ∨ i = 6 ∨ i = 7 ∨ i = 8 ∨ i = 9 ∨ i = 10 ∨ i = 11 ∨ i = 12 ∨ i = 13 ∨ i = 14 ∨ i = 15 ∨ i = 16 ∨ i = 17 ∨ i = 18 ∨ i = 19 ∨ i = 20 ∨ i = 21 ∨ i = 22 ∨ i = 23 ∨ i = 24 ∨ i = 25 ∨ i = 26 ∨ i = 27 ∨ i = 28 ∨ i = 29 ∨ i = 30 ∨ i = 31 ∨ i = 32 ∨ i = 33 ∨ i = 34 ∨ i = 35 ∨ i = 36 ∨ i = 37 ∨ i = 38 := by omega
    · obtain rfl := Option.some.inj ho
      have f0 := hF.old (s := 13) (v := .int .i64 0) (by kernel_rfl) rfl
      refine Or.inl ⟨wanted_no rfl, ?_⟩
      exact wp_val (.int .i64 0) (by simp [go_sem, f0]) ⟨_, rfl, Gr.refl _, rfl⟩
    · obtain rfl := Option.some.inj ho
      have l0 := on_of hd 0 (by kernel_rfl)
      have f0 := hF.at (s := 99) (i := 0) (by kernel_rfl) (by simp) l0
      rw [show vals 0 = .int .i64 0 from hR 0 l0] at f0
      refine Or.inl ⟨wanted_no rfl, ?_⟩
      exact wp_ret (.int .i64 0) (by simp [go_sem, f0]) (num5_gr _ _) (fun w2 hg2 => ⟨_, rfl, hg2, rfl⟩)
    · obtain rfl := Option.some.inj ho
      have l0 := on_of hd 1 (by kernel_rfl)
      have f0 := hF.at (s := 100) (i := 1) (by kernel_rfl) (by simp) l0
      rw [show vals 1 = .int .i64 0 from hR 1 l0] at f0
      refine Or.inl ⟨wanted_no rfl, ?_⟩
      exact wp_val (.bool true) (by simp [go_sem, f0]) ⟨_, rfl, Gr.refl _, rfl⟩
    · obtain rfl := Option.some.inj ho
      have l0 := on_of hd 2 (by kernel_rfl)
      have f0 := hF.at (s := 101) (i := 2) (by kernel_rfl) (by simp) l0
      rw [show vals 2 = .bool true from hR 2 l0] at f0
      refine Or.inl ⟨wanted_no rfl, ?_⟩
      exact wp_val (.bool true) (by simp [go_sem, f0]) ⟨_, rfl, Gr.refl _, rfl⟩
    · obtain rfl := Option.some.inj ho
      have lg := on_of hd 3 (by kernel_rfl)
      have fg := hF.at (s := 102) (i := 3) (by kernel_rfl) (by simp) lg
      rw [show vals 3 = .bool true from hR 3 lg] at fg
      have f0 := hF.old (s := 15) (v := .int .i64 0) (by kernel_rfl) rfl
      refine Or.inl ⟨wanted_at (j := 3) (s := 102) rfl rfl rfl fg, ?_⟩
      exact wp_val (.int .i64 0) (by simp [go_sem, f0]) ⟨_, rfl, Gr.refl _, rfl⟩
    · obtain rfl := Option.some.inj ho
      have lg := on_of hd 3 (by kernel_rfl)
      have fg := hF.at (s := 102) (i := 3) (by kernel_rfl) (by simp) lg
      rw [show vals 3 = .bool true from hR 3 lg] at fg
      have l0 := on_of hd 4 (by kernel_rfl)
      have f0 := hF.at (s := 103) (i := 4) (by kernel_rfl) (by simp) l0
      rw [show vals 4 = .int .i64 0 from hR 4 l0] at f0
      refine Or.inl ⟨wanted_at (j := 3) (s := 102) rfl rfl rfl fg, ?_⟩
      exact wp_ret (.int .i64 0) (by simp [go_sem, f0]) (num5_gr _ _) (fun w2 hg2 => ⟨_, rfl, hg2, rfl⟩)
    · obtain rfl := Option.some.inj ho
      have lg := on_of hd 3 (by kernel_rfl)
      have fg := hF.at (s := 102) (i := 3) (by kernel_rfl) (by simp) lg
      rw [show vals 3 = .bool true from hR 3 lg] at fg
      have l0 := on_of hd 5 (by kernel_rfl)
      have f0 := hF.at (s := 104) (i := 5) (by kernel_rfl) (by simp) l0
      rw [show vals 5 = .int .i64 0 from hR 5 l0] at f0
      refine Or.inl ⟨wanted_at (j := 3) (s := 102) rfl rfl rfl fg, ?_⟩
      exact wp_val (.bool true) (by simp [go_sem, f0]) ⟨_, rfl, Gr.refl _, rfl⟩
    · obtain rfl := Option.some.inj ho
      have l0 := on_of hd 3 (by kernel_rfl)
      have f0 := hF.at (s := 102) (i := 3) (by kernel_rfl) (by simp) l0
      rw [show vals 3 = .bool true from hR 3 l0] at f0
      have l1 := on_of hd 6 (by kernel_rfl)
      have f1 := hF.at (s := 105) (i := 6) (by kernel_rfl) (by simp) l1
      rw [show vals 6 = .bool true from hR 6 l1] at f1
      refine Or.inl ⟨wanted_no rfl, ?_⟩
      exact wp_val (.bool true) (by simp [go_sem, f0, f1]) ⟨_, rfl, Gr.refl _, rfl⟩
    · obtain rfl := Option.some.inj ho
      have l0 := on_of hd 7 (by kernel_rfl)
      have f0 := hF.at (s := 106) (i := 7) (by kernel_rfl) (by simp) l0
      rw [show vals 7 = .bool true from hR 7 l0] at f0
      refine Or.inl ⟨wanted_no rfl, ?_⟩
      exact wp_val (.bool true) (by simp [go_sem, f0]) ⟨_, rfl, Gr.refl _, rfl⟩
    · obtain rfl := Option.some.inj ho
      have lg := on_of hd 8 (by kernel_rfl)
      have fg := hF.at (s := 107) (i := 8) (by kernel_rfl) (by simp) lg
      rw [show vals 8 = .bool true from hR 8 lg] at fg
      have f0 := hF.old (s := 17) (v := .int .i64 0) (by kernel_rfl) rfl
      refine Or.inl ⟨wanted_at (j := 8) (s := 107) rfl rfl rfl fg, ?_⟩
      exact wp_val (.int .i64 0) (by simp [go_sem, f0]) ⟨_, rfl, Gr.refl _, rfl⟩
    · obtain rfl := Option.some.inj ho
      have lg := on_of hd 8 (by kernel_rfl)
      have fg := hF.at (s := 107) (i := 8) (by kernel_rfl) (by simp) lg
      rw [show vals 8 = .bool true from hR 8 lg] at fg
      have l0 := on_of hd 9 (by kernel_rfl)
      have f0 := hF.at (s := 108) (i := 9) (by kernel_rfl) (by simp) l0
      rw [show vals 9 = .int .i64 0 from hR 9 l0] at f0
      refine Or.inl ⟨wanted_at (j := 8) (s := 107) rfl rfl rfl fg, ?_⟩
      exact wp_ret (.int .i64 0) (by simp [go_sem, f0]) (num5_gr _ _) (fun w2 hg2 => ⟨_, rfl, hg2, rfl⟩)
    · obtain rfl := Option.some.inj ho
      have lg := on_of hd 8 (by kernel_rfl)
      have fg := hF.at (s := 107) (i := 8) (by kernel_rfl) (by simp) lg
      rw [show vals 8 = .bool true from hR 8 lg] at fg
      have l0 := on_of hd 10 (by kernel_rfl)
      have f0 := hF.at (s := 109) (i := 10) (by kernel_rfl) (by simp) l0
      rw [show vals 10 = .int .i64 0 from hR 10 l0] at f0
      refine Or.inl ⟨wanted_at (j := 8) (s := 107) rfl rfl rfl fg, ?_⟩
      exact wp_val (.bool true) (by simp [go_sem, f0]) ⟨_, rfl, Gr.refl _, rfl⟩
    · obtain rfl := Option.some.inj ho
      have l0 := on_of hd 8 (by kernel_rfl)
      have f0 := hF.at (s := 107) (i := 8) (by kernel_rfl) (by simp) l0
      rw [show vals 8 = .bool true from hR 8 l0] at f0
      have l1 := on_of hd 11 (by kernel_rfl)
      have f1 := hF.at (s := 110) (i := 11) (by kernel_rfl) (by simp) l1
      rw [show vals 11 = .bool true from hR 11 l1] at f1
      refine Or.inl ⟨wanted_no rfl, ?_⟩
      exact wp_val (.bool true) (by simp [go_sem, f0, f1]) ⟨_, rfl, Gr.refl _, rfl⟩
    · obtain rfl := Option.some.inj ho
      have l0 := on_of hd 12 (by kernel_rfl)
      have f0 := hF.at (s := 111) (i := 12) (by kernel_rfl) (by simp) l0
      rw [show vals 12 = .bool true from hR 12 l0] at f0
      refine Or.inl ⟨wanted_no rfl, ?_⟩
      exact wp_val (.bool true) (by simp [go_sem, f0]) ⟨_, rfl, Gr.refl _, rfl⟩
    · obtain rfl := Option.some.inj ho
      have lg := on_of hd 13 (by kernel_rfl)
      have fg := hF.at (s := 112) (i := 13) (by kernel_rfl) (by simp) lg
      rw [show vals 13 = .bool true from hR 13 lg] at fg
      have f0 := hF.old (s := 19) (v := .int .i64 0) (by kernel_rfl) rfl
      refine Or.inl ⟨wanted_at (j := 13) (s := 112) rfl rfl rfl fg, ?_⟩
      exact wp_val (.int .i64 0) (by simp [go_sem, f0]) ⟨_, rfl, Gr.refl _, rfl⟩
    · obtain rfl := Option.some.inj ho
      have lg := on_of hd 13 (by kernel_rfl)
      have fg := hF.at (s := 112) (i := 13) (by kernel_rfl) (by simp) lg
      rw [show vals 13 = .bool true from hR 13 lg] at fg
      have l0 := on_of hd 14 (by kernel_rfl)
      have f0 := hF.at (s := 113) (i := 14) (by kernel_rfl) (by simp) l0
      rw [show vals 14 = .int .i64 0 from hR 14 l0] at f0
      refine Or.inl ⟨wanted_at (j := 13) (s := 112) rfl rfl rfl fg, ?_⟩
      exact wp_ret (.int .i64 0) (by simp [go_sem, f0]) (num5_gr _ _) (fun w2 hg2 => ⟨_, rfl, hg2, rfl⟩)
    · obtain rfl := Option.some.inj ho
      have lg := on_of hd 13 (by kernel_rfl)
      have fg := hF.at (s := 112) (i := 13) (by kernel_rfl) (by simp) lg
      rw [show vals 13 = .bool true from hR 13 lg] at fg
      have l0 := on_of hd 15 (by kernel_rfl)
      have f0 := hF.at (s := 114) (i := 15) (by kernel_rfl) (by simp) l0
      rw [show vals 15 = .int .i64 0 from hR 15 l0] at f0
      refine Or.inl ⟨wanted_at (j := 13) (s := 112) rfl rfl rfl fg, ?_⟩
      exact wp_val (.bool true) (by simp [go_sem, f0]) ⟨_, rfl, Gr.refl _, rfl⟩
    · obtain rfl := Option.some.inj ho
      have l0 := on_of hd 13 (by kernel_rfl)
      have f0 := hF.at (s := 112) (i := 13) (by kernel_rfl) (by simp) l0
      rw [show vals 13 = .bool true from hR 13 l0] at f0
      have l1 := on_of hd 16 (by kernel_rfl)
      have f1 := hF.at (s := 115) (i := 16) (by kernel_rfl) (by simp) l1
      rw [show vals 16 = .bool true from hR 16 l1] at f1
      refine Or.inl ⟨wanted_no rfl, ?_⟩
      exact wp_val (.bool true) (by simp [go_sem, f0, f1]) ⟨_, rfl, Gr.refl _, rfl⟩
    · obtain rfl := Option.some.inj ho
      have l0 := on_of hd 17 (by kernel_rfl)
      have f0 := hF.at (s := 116) (i := 17) (by kernel_rfl) (by simp) l0
      rw [show vals 17 = .bool true from hR 17 l0] at f0
      refine Or.inl ⟨wanted_no rfl, ?_⟩
      exact wp_val (.bool true) (by simp [go_sem, f0]) ⟨_, rfl, Gr.refl _, rfl⟩
    · obtain rfl := Option.some.inj ho
      have lg := on_of hd 18 (by kernel_rfl)
      have fg := hF.at (s := 117) (i := 18) (by kernel_rfl) (by simp) lg
      rw [show vals 18 = .bool true from hR 18 lg] at fg
      have f0 := hF.old (s := 18) (v := .pointer (some ⟨e18, 0, none⟩)) (by kernel_rfl) rfl
      refine Or.inl ⟨wanted_at (j := 18) (s := 117) rfl rfl rfl fg, ?_⟩
      exact wp_val (.agg (nw 9 R)) (by simp [go_sem, f0, Hc_e18]) ⟨_, rfl, Gr.refl _, rfl⟩
    · obtain rfl := Option.some.inj ho
      have lg := on_of hd 18 (by kernel_rfl)
      have fg := hF.at (s := 117) (i := 18) (by kernel_rfl) (by simp) lg
      rw [show vals 18 = .bool true from hR 18 lg] at fg
      have f0 := hF.old (s := 10) (v := .int .u64 (p : Int)) (by kernel_rfl) rfl
      refine Or.inl ⟨wanted_at (j := 18) (s := 117) rfl rfl rfl fg, ?_⟩
      exact wp_val (.int .u64 (p : Int)) (by simp [go_sem, f0]) ⟨_, rfl, Gr.refl _, rfl⟩
    · obtain rfl := Option.some.inj ho
      have lg := on_of hd 18 (by kernel_rfl)
      have fg := hF.at (s := 117) (i := 18) (by kernel_rfl) (by simp) lg
      rw [show vals 18 = .bool true from hR 18 lg] at fg
      have f0 := hF.old (s := 11) (v := .int .u64 (q : Int)) (by kernel_rfl) rfl
      refine Or.inl ⟨wanted_at (j := 18) (s := 117) rfl rfl rfl fg, ?_⟩
      exact wp_val (.int .u64 (q : Int)) (by simp [go_sem, f0]) ⟨_, rfl, Gr.refl _, rfl⟩
    · obtain rfl := Option.some.inj ho
      have lg := on_of hd 18 (by kernel_rfl)
      have fg := hF.at (s := 117) (i := 18) (by kernel_rfl) (by simp) lg
      rw [show vals 18 = .bool true from hR 18 lg] at fg
      have l0 := on_of hd 20 (by kernel_rfl)
      have f0 := hF.at (s := 119) (i := 20) (by kernel_rfl) (by simp) l0
      rw [show vals 20 = .int .u64 (p : Int) from hR 20 l0] at f0
      have l1 := on_of hd 21 (by kernel_rfl)
      have f1 := hF.at (s := 120) (i := 21) (by kernel_rfl) (by simp) l1
      rw [show vals 21 = .int .u64 (q : Int) from hR 21 l1] at f1
      refine Or.inl ⟨wanted_at (j := 18) (s := 117) rfl rfl rfl fg, ?_⟩
      exact wp_val (.int .u64 (X : Int)) (by simp [go_sem, f0, f1, hX3, hX4]) ⟨_, rfl, Gr.refl _, rfl⟩
    · obtain rfl := Option.some.inj ho
      have lg := on_of hd 18 (by kernel_rfl)
      have fg := hF.at (s := 117) (i := 18) (by kernel_rfl) (by simp) lg
      rw [show vals 18 = .bool true from hR 18 lg] at fg
      have f0 := hF.old (s := 7) (v := .int .u64 (K : Int)) (by kernel_rfl) rfl
      refine Or.inl ⟨wanted_at (j := 18) (s := 117) rfl rfl rfl fg, ?_⟩
      exact wp_val (.int .u64 (K : Int)) (by simp [go_sem, f0]) ⟨_, rfl, Gr.refl _, rfl⟩
    · obtain rfl := Option.some.inj ho
      have lg := on_of hd 18 (by kernel_rfl)
      have fg := hF.at (s := 117) (i := 18) (by kernel_rfl) (by simp) lg
      rw [show vals 18 = .bool true from hR 18 lg] at fg
      have l0 := on_of hd 22 (by kernel_rfl)
      have f0 := hF.at (s := 121) (i := 22) (by kernel_rfl) (by simp) l0
      rw [show vals 22 = .int .u64 (X : Int) from hR 22 l0] at f0
      have l1 := on_of hd 23 (by kernel_rfl)
      have f1 := hF.at (s := 122) (i := 23) (by kernel_rfl) (by simp) l1
      rw [show vals 23 = .int .u64 (K : Int) from hR 23 l1] at f1
      refine Or.inl ⟨wanted_at (j := 18) (s := 117) rfl rfl rfl fg, ?_⟩
      exact wp_val (.int .u64 (R : Int)) (by simp [go_sem, f0, f1, hR3, hK7]) ⟨_, rfl, Gr.refl _, rfl⟩
    · obtain rfl := Option.some.inj ho
      have lg := on_of hd 18 (by kernel_rfl)
      have fg := hF.at (s := 117) (i := 18) (by kernel_rfl) (by simp) lg
      rw [show vals 18 = .bool true from hR 18 lg] at fg
      have l0 := on_of hd 24 (by kernel_rfl)
      have f0 := hF.at (s := 123) (i := 24) (by kernel_rfl) (by simp) l0
      rw [show vals 24 = .int .u64 (R : Int) from hR 24 l0] at f0
      refine Or.inl ⟨wanted_at (j := 18) (s := 117) rfl rfl rfl fg, ?_⟩
      exact wp_ret (.agg (nw 9 R)) (by simp [go_sem, f0]) (OR.out _) (fun w2 hg2 => ⟨_, rfl, hg2, rfl⟩)
    · obtain rfl := Option.some.inj ho
      have lg := on_of hd 18 (by kernel_rfl)
      have fg := hF.at (s := 117) (i := 18) (by kernel_rfl) (by simp) lg
      rw [show vals 18 = .bool true from hR 18 lg] at fg
      have l0 := on_of hd 19 (by kernel_rfl)
      have f0 := hF.at (s := 118) (i := 19) (by kernel_rfl) (by simp) l0
      rw [show vals 19 = .agg (nw 9 R) from hR 19 l0] at f0
      have l1 := on_of hd 25 (by kernel_rfl)
      have f1 := hF.at (s := 124) (i := 25) (by kernel_rfl) (by simp) l1
      rw [show vals 25 = .agg (nw 9 R) from hR 25 l1] at f1
      refine Or.inl ⟨wanted_at (j := 18) (s := 117) rfl rfl rfl fg, ?_⟩
      exact wp_val (.bool true) (by simp [go_sem, f0, f1, eqN_self]) ⟨_, rfl, Gr.refl _, rfl⟩
    · obtain rfl := Option.some.inj ho
      have l0 := on_of hd 18 (by kernel_rfl)
      have f0 := hF.at (s := 117) (i := 18) (by kernel_rfl) (by simp) l0
      rw [show vals 18 = .bool true from hR 18 l0] at f0
      have l1 := on_of hd 26 (by kernel_rfl)
      have f1 := hF.at (s := 125) (i := 26) (by kernel_rfl) (by simp) l1
      rw [show vals 26 = .bool true from hR 26 l1] at f1
      refine Or.inl ⟨wanted_no rfl, ?_⟩
      exact wp_val (.bool true) (by simp [go_sem, f0, f1]) ⟨_, rfl, Gr.refl _, rfl⟩
    · obtain rfl := Option.some.inj ho
      have l0 := on_of hd 27 (by kernel_rfl)
      have f0 := hF.at (s := 126) (i := 27) (by kernel_rfl) (by simp) l0
      rw [show vals 27 = .bool true from hR 27 l0] at f0
      refine Or.inl ⟨wanted_no rfl, ?_⟩
      exact wp_val (.bool true) (by simp [go_sem, f0]) ⟨_, rfl, Gr.refl _, rfl⟩
    · obtain rfl := Option.some.inj ho
      have lg := on_of hd 28 (by kernel_rfl)
      have fg := hF.at (s := 127) (i := 28) (by kernel_rfl) (by simp) lg
      rw [show vals 28 = .bool true from hR 28 lg] at fg
      have f0 := hF.old (s := 21) (v := .int .i64 601) (by kernel_rfl) rfl
      refine Or.inl ⟨wanted_at (j := 28) (s := 127) rfl rfl rfl fg, ?_⟩
      exact wp_val (.int .i64 601) (by simp [go_sem, f0]) ⟨_, rfl, Gr.refl _, rfl⟩
    · obtain rfl := Option.some.inj ho
      have lg := on_of hd 28 (by kernel_rfl)
      have fg := hF.at (s := 127) (i := 28) (by kernel_rfl) (by simp) lg
      rw [show vals 28 = .bool true from hR 28 lg] at fg
      have l0 := on_of hd 29 (by kernel_rfl)
      have f0 := hF.at (s := 128) (i := 29) (by kernel_rfl) (by simp) l0
      rw [show vals 29 = .int .i64 601 from hR 29 l0] at f0
      refine Or.inl ⟨wanted_at (j := 28) (s := 127) rfl rfl rfl fg, ?_⟩
      exact wp_ret (.int .i64 601) (by simp [go_sem, f0]) (num5_gr _ _) (fun w2 hg2 => ⟨_, rfl, hg2, rfl⟩)
    · obtain rfl := Option.some.inj ho
      have lg := on_of hd 28 (by kernel_rfl)
      have fg := hF.at (s := 127) (i := 28) (by kernel_rfl) (by simp) lg
      rw [show vals 28 = .bool true from hR 28 lg] at fg
      have l0 := on_of hd 30 (by kernel_rfl)
      have f0 := hF.at (s := 129) (i := 30) (by kernel_rfl) (by simp) l0
      rw [show vals 30 = .int .i64 601 from hR 30 l0] at f0
      refine Or.inl ⟨wanted_at (j := 28) (s := 127) rfl rfl rfl fg, ?_⟩
      exact wp_val (.bool true) (by simp [go_sem, f0]) ⟨_, rfl, Gr.refl _, rfl⟩
    · obtain rfl := Option.some.inj ho
      have l0 := on_of hd 28 (by kernel_rfl)
      have f0 := hF.at (s := 127) (i := 28) (by kernel_rfl) (by simp) l0
      rw [show vals 28 = .bool true from hR 28 l0] at f0
      have l1 := on_of hd 31 (by kernel_rfl)
      have f1 := hF.at (s := 130) (i := 31) (by kernel_rfl) (by simp) l1
      rw [show vals 31 = .bool true from hR 31 l1] at f1
      refine Or.inl ⟨wanted_no rfl, ?_⟩
      exact wp_val (.bool true) (by simp [go_sem, f0, f1]) ⟨_, rfl, Gr.refl _, rfl⟩
    · obtain rfl := Option.some.inj ho
      have l0 := on_of hd 32 (by kernel_rfl)
      have f0 := hF.at (s := 131) (i := 32) (by kernel_rfl) (by simp) l0
      rw [show vals 32 = .bool true from hR 32 l0] at f0
      refine Or.inl ⟨wanted_no rfl, ?_⟩
      exact wp_val (.bool true) (by simp [go_sem, f0]) ⟨_, rfl, Gr.refl _, rfl⟩
    · obtain rfl := Option.some.inj ho
      have lg := on_of hd 33 (by kernel_rfl)
      have fg := hF.at (s := 132) (i := 33) (by kernel_rfl) (by simp) lg
      rw [show vals 33 = .bool true from hR 33 lg] at fg
      have f0 := hF.old (s := 23) (v := .int .i64 601) (by kernel_rfl) rfl
      refine Or.inl ⟨wanted_at (j := 33) (s := 132) rfl rfl rfl fg, ?_⟩
      exact wp_val (.int .i64 601) (by simp [go_sem, f0]) ⟨_, rfl, Gr.refl _, rfl⟩
    · obtain rfl := Option.some.inj ho
      have lg := on_of hd 33 (by kernel_rfl)
      have fg := hF.at (s := 132) (i := 33) (by kernel_rfl) (by simp) lg
      rw [show vals 33 = .bool true from hR 33 lg] at fg
      have l0 := on_of hd 34 (by kernel_rfl)
      have f0 := hF.at (s := 133) (i := 34) (by kernel_rfl) (by simp) l0
      rw [show vals 34 = .int .i64 601 from hR 34 l0] at f0
      refine Or.inl ⟨wanted_at (j := 33) (s := 132) rfl rfl rfl fg, ?_⟩
      exact wp_ret (.int .i64 601) (by simp [go_sem, f0]) (num5_gr _ _) (fun w2 hg2 => ⟨_, rfl, hg2, rfl⟩)
    · obtain rfl := Option.some.inj ho
      have lg := on_of hd 33 (by kernel_rfl)
      have fg := hF.at (s := 132) (i := 33) (by kernel_rfl) (by simp) lg
      rw [show vals 33 = .bool true from hR 33 lg] at fg
      have l0 := on_of hd 35 (by kernel_rfl)
      have f0 := hF.at (s := 134) (i := 35) (by kernel_rfl) (by simp) l0
      rw [show vals 35 = .int .i64 601 from hR 35 l0] at f0
      refine Or.inl ⟨wanted_at (j := 33) (s := 132) rfl rfl rfl fg, ?_⟩
      exact wp_val (.bool true) (by simp [go_sem, f0]) ⟨_, rfl, Gr.refl _, rfl⟩
    · obtain rfl := Option.some.inj ho
      have l0 := on_of hd 33 (by kernel_rfl)
      have f0 := hF.at (s := 132) (i := 33) (by kernel_rfl) (by simp) l0
      rw [show vals 33 = .bool true from hR 33 l0] at f0
      have l1 := on_of hd 36 (by kernel_rfl)
      have f1 := hF.at (s := 135) (i := 36) (by kernel_rfl) (by simp) l1
      rw [show vals 36 = .bool true from hR 36 l1] at f1
      refine Or.inl ⟨wanted_no rfl, ?_⟩
      exact wp_val (.bool true) (by simp [go_sem, f0, f1]) ⟨_, rfl, Gr.refl _, rfl⟩
    · obtain rfl := Option.some.inj ho
      have l0 := on_of hd 37 (by kernel_rfl)
      have f0 := hF.at (s := 136) (i := 37) (by kernel_rfl) (by simp) l0
      rw [show vals 37 = .bool true from hR 37 l0] at f0
      refine Or.inl ⟨wanted_no rfl, ?_⟩
      exact wp_val (.bool true) (by simp [go_sem, f0]) ⟨_, rfl, Gr.refl _, rfl⟩
  case hf =>
    intro vals v hg hR
    have x0 : vals 0 = .int .i64 0 := hR 0 (by simp)
    have x1 : vals 1 = .int .i64 0 := hR 1 (by simp)
    have x2 : vals 2 = .bool true := hR 2 (by simp)
    have x3 : vals 3 = .bool true := hR 3 (by simp)
    have x4 : vals 4 = .int .i64 0 := hR 4 (by simp)
    have x5 : vals 5 = .int .i64 0 := hR 5 (by simp)
    have x6 : vals 6 = .bool true := hR 6 (by simp)
    have x7 : vals 7 = .bool true := hR 7 (by simp)
    have x8 : vals 8 = .bool true := hR 8 (by simp)
    have x9 : vals 9 = .int .i64 0 := hR 9 (by simp)
    have x10 : vals 10 = .int .i64 0 := hR 10 (by simp)
    have x11 : vals 11 = .bool true := hR 11 (by simp)
    have x12 : vals 12 = .bool true := hR 12 (by simp)
    have x13 : vals 13 = .bool true := hR 13 (by simp)
    have x14 : vals 14 = .int .i64 0 := hR 14 (by simp)
    have x15 : vals 15 = .int .i64 0 := hR 15 (by simp)
    have x16 : vals 16 = .bool true := hR 16 (by simp)
    have x17 : vals 17 = .bool true := hR 17 (by simp)
    have x18 : vals 18 = .bool true := hR 18 (by simp)
    have x19 : vals 19 = .agg (nw 9 R) := hR 19 (by simp)
    have x20 : vals 20 = .int .u64 (p : Int) := hR 20 (by simp)
    have x21 : vals 21 = .int .u64 (q : Int) := hR 21 (by simp)
    have x22 : vals 22 = .int .u64 (X : Int) := hR 22 (by simp)
    have x23 : vals 23 = .int .u64 (K : Int) := hR 23 (by simp)
    have x24 : vals 24 = .int .u64 (R : Int) := hR 24 (by simp)
    have x25 : vals 25 = .agg (nw 9 R) := hR 25 (by simp)
    have x26 : vals 26 = .bool true := hR 26 (by simp)
    have x27 : vals 27 = .bool true := hR 27 (by simp)
    have x28 : vals 28 = .bool true := hR 28 (by simp)
    have x29 : vals 29 = .int .i64 601 := hR 29 (by simp)
    have x30 : vals 30 = .int .i64 601 := hR 30 (by simp)
    have x31 : vals 31 = .bool true := hR 31 (by simp)
    have x32 : vals 32 = .bool true := hR 32 (by simp)
    have x33 : vals 33 = .bool true := hR 33 (by simp)
    have x34 : vals 34 = .int .i64 601 := hR 34 (by simp)
    have x35 : vals 35 = .int .i64 601 := hR 35 (by simp)
    have x36 : vals 36 = .bool true := hR 36 (by simp)
    have x37 : vals 37 = .bool true := hR 37 (by simp)
    have x38 : vals 38 = .bool true := hR 38 (by simp)
    simp only [putFrom, Act.put, List.setIfInBounds_toArray, List.set_cons_zero, List.set_cons_succ, x0, x1, x2, x3, x4, x5, x6, x7, x8, x9, x10, x11, x12, x13, x14, x15, x16, x17, x18, x19, x20, x21, x22, x23, x24, x25, x26, x27, x28, x29, x30, x31, x32, x33, x34, x35, x36, x37, x38]
    clear hR x0 x1 x2 x3 x4 x5 x6 x7 x8 x9 x10 x11 x12 x13 x14 x15 x16 x17 x18 x19 x20 x21 x22 x23 x24 x25 x26 x27 x28 x29 x30 x31 x32 x33 x34 x35 x36 x37 x38
    have HG : Gr w v := G.trans hg
    clear hg
    go_wp2_with fail
    go_ret
    exact ⟨rfl, HG⟩

end Go.Proofs.Ytleckbdhebjfkaa
