/-
  divisor.rest; divide.Mod, MulMod, Div: what they hand back.
-/
import Derived.Test.YtbafjcbbiiipfaaDD
namespace Go.Proofs.Ytbafjcbbiiipfaa
open Go.RowKit
attribute [local go_sem ↓] loadNat_is loadArr_is loadWide_is loadArrW_is storeNat_is storeWide_is
attribute [local go_sem] loadNat loadArr loadWide loadArrW storeNat storeWide idxArr fold9 fold18 nw_size nw_elem pre_self pre_1 pre_2 pre_3 pre_4 pre_5 pre_6 pre_7 pre_8 pre_9 pre_10 pre_11 pre_12 pre_13 pre_14 pre_15 pre_16 pre_17 pre_18 pre_19 pre_20 pre_21 pre_22 pre_23 pre_24 pre_25 pre_26 pre_27 pre_28 pre_29 pre_30 pre_31 pre_32 pre_33 pre_34 pre_35 pre_36 pre_37 pre_38 pre_39 pre_40 gro_size gro_drew gro_drewN drew_gro drewN_gro gro_gro blk_gro frz_gro blk_drew frz_drew blk_drewN frz_drewN blk_alloc_at frz_alloc_at blk_alloc frz_alloc cell_gro frozen_gro cell_alloc_pre frozen_alloc_pre setCell_drewN alloc_drewN setBlk_drew setBlk_drewN setBlk_alloc_at setBlk_alloc setBlk_gro setCell_gro setCell_alloc_pre size_setBlk size_setCell
attribute [local go_sem ↓] loadDv_is load19_is storeDv_is store19_is copy_is
attribute [local go_sem] idx18 loadDv load19 storeDv store19 dv_size dv_9 dv_10 dv_e9 dv_e10 dv_elem fold11 fold19 setCell_in cell_in frozen_in frz_setBlk blk_setBlk setBlk_setBlk copy_run cpA_nw ones_nw

attribute [local go_sem ↓] Go.wp_at_zero Go.wp_at_succ

theorem mul_pwj (a b k j : Nat) (h : j = k + k) (ha : a < pw k) (hb : b < pw k) : a * b < pw j := by
  subst h
  rw [pw_add]
  exact Nat.mul_lt_mul_of_lt_of_lt ha hb
theorem splitD (W m D n u : Nat) (hd : Dv m D n u) (hW : W < pw 18) (w : World) :
    Calls Try.prog 34 #[.agg (dv D (n + 1) u), .agg (nw 18 W)] w fun e w' => e = .returned (.tuple #[.agg (nw 18 (W / m)), .agg (nw 9 (W % m))]) ∧ Gr w w' := by
  refine (split_any W D n u w hW hd.u64 hd.n9 hd.lt hd.top hd.low).mono ?_
  rintro e w' ⟨Q, V, rfl, h1, h2, h3⟩
  obtain ⟨e1, e2⟩ := split_end W D (2 ^ u) Q V m hd.eq (Nat.two_pow_pos u) h1 h2
  exact ⟨by rw [e1, e2], h3⟩
set_option maxRecDepth 100000 in
set_option maxHeartbeats 400000 in
theorem restD (W m D n u : Nat) (hd : Dv m D n u) (hW : W < pw 18) (w : World) :
    Calls Try.prog 37 #[.agg (dv D (n + 1) u), .agg (nw 18 W)] w fun e w' => e = .returned (.agg (nw 9 (W % m))) ∧ Gr w w' := by
  have HS := fun w => splitD W m D n u hd hW w
  obtain ⟨Q, hQ⟩ : ∃ Q, W / m = Q := ⟨_, rfl⟩
  obtain ⟨R, hR⟩ : ∃ R, W % m = R := ⟨_, rfl⟩
  rw [hR]
  rw [hQ, hR] at HS
  have HS' : Hid (∀ w, Calls Try.prog 34 #[.agg (dv D (n + 1) u), .agg (nw 18 W)] w fun e w' => e = .returned (.tuple #[.agg (nw 18 Q), .agg (nw 9 R)]) ∧ Gr w w') := HS
  clear HS hQ hR hd hW
  go_enter Try.func37, Try.ntmps37
  go_wp2_with (go_at_call 34; refine (HS'.out _).mono ?_; rintro e w' ⟨rfl, g, rfl⟩)
  refine bodyPost_ret (res_one Try.results37 (rd_nat (x := R) (by rfl) ?_)) rfl ⟨rfl, (by repeat (first | exact Gr.refl _ | apply Gr.drewN | apply Gr.drew | apply Gr.alloc | apply Gr.gro))⟩
  simp [go_sem]

set_option maxRecDepth 100000 in
set_option maxHeartbeats 400000 in
theorem mod_zero (W : Nat) (w : World) :
    Calls Try.prog 13 #[.agg (nw 18 W), .agg (nw 9 0)] w fun e w' => e = .returned (.tuple #[.agg (nw 9 0), .int .i64 400]) ∧ Gr w w' := by
  have HZ : Hid (∀ w, Calls Try.prog 32 #[.agg (nw 9 0)] w fun e w' => e = .returned (.bool true) ∧ Gr w w') := fun w => isZero_any 0 M_pos w
  go_enter Try.func13, Try.ntmps13
  go_wp2_with (go_at_call 32; refine (HZ.out _).mono ?_; rintro e w' ⟨rfl, g, rfl⟩)
  refine bodyPost_ret (res_two Try.results13 (rd_nat (x := 0) (by rfl) ?_) (rd_tmp (by rfl))) rfl ⟨rfl, (by repeat (first | exact Gr.refl _ | apply Gr.drewN | apply Gr.drew | apply Gr.alloc | apply Gr.gro))⟩
  simp [go_sem]

theorem notZero (m : Nat) (h0 : 0 < m) (hM : m < M) (w : World) : Calls Try.prog 32 #[.agg (nw 9 m)] w fun e w' => e = .returned (.bool false) ∧ Gr w w' := by
  have := isZero_any m hM w
  rw [decide_eq_false (by omega)] at this
  exact this
set_option maxRecDepth 100000 in
set_option maxHeartbeats 800000 in
theorem mod_any (W m : Nat) (h0 : 0 < m) (hM : m < M) (hW : W < pw 18) (w : World) :
    Calls Try.prog 13 #[.agg (nw 18 W), .agg (nw 9 m)] w fun e w' => e = .returned (.tuple #[.agg (nw 9 (W % m)), .int .i64 0]) ∧ Gr w w' := by
  have HZ : Hid (∀ w, Calls Try.prog 32 #[.agg (nw 9 m)] w fun e w' => e = .returned (.bool false) ∧ Gr w w') := fun w => notZero m h0 hM w
  obtain ⟨D, n, u, hd, hD⟩ := divisorOf_any m h0 hM
  have HD : Hid (∀ w, Calls Try.prog 33 #[.agg (nw 9 m)] w fun e w' => e = .returned (.agg (dv D (n + 1) u)) ∧ Gr w w') := hD
  have hr := fun w => restD W m D n u hd hW w
  obtain ⟨R, hR⟩ : ∃ R, W % m = R := ⟨_, rfl⟩
  rw [hR]
  rw [hR] at hr
  have HR : Hid (∀ w, Calls Try.prog 37 #[.agg (dv D (n + 1) u), .agg (nw 18 W)] w fun e w' => e = .returned (.agg (nw 9 R)) ∧ Gr w w') := hr
  clear hr hR h0 hM hW hd hD
  go_enter Try.func13, Try.ntmps13
  go_wp2_with (go_at_call 32; refine (HZ.out _).mono ?_; rintro e w' ⟨rfl, g, rfl⟩)
  go_region_with (first
    | (go_at_call 33; refine (HD.out _).mono ?_; rintro e w' ⟨rfl, g1, rfl⟩)
    | (go_at_call 37; refine (HR.out _).mono ?_; rintro e w' ⟨rfl, g2, rfl⟩))
  all_goals
    go_wp2_with fail
    refine bodyPost_ret (res_two Try.results13 (rd_nat (x := R) (by rfl) ?_) (rd_tmp (by rfl))) rfl ⟨rfl, (by repeat (first | exact Gr.refl _ | apply Gr.drewN | apply Gr.drew | apply Gr.alloc | apply Gr.gro))⟩
    simp [go_sem]

set_option maxRecDepth 100000 in
set_option maxHeartbeats 400000 in
theorem mulMod_zero (a b : Nat) (ha : a < M) (hb : b < M) (w : World) :
    Calls Try.prog 14 #[.agg (nw 9 a), .agg (nw 9 b), .agg (nw 9 0)] w fun e w' => e = .returned (.tuple #[.agg (nw 9 0), .int .i64 400]) ∧ Gr w w' := by
  have HM : Hid (∀ w, Calls Try.prog 27 #[.agg (nw 9 a), .agg (nw 9 b)] w fun e w' => e = .returned (.agg (nw 18 (a * b))) ∧ Gr w w') := fun w => mul_any a b ha hb w
  have HZ : Hid (∀ w, Calls Try.prog 13 #[.agg (nw 18 (a * b)), .agg (nw 9 0)] w fun e w' => e = .returned (.tuple #[.agg (nw 9 0), .int .i64 400]) ∧ Gr w w') := fun w => mod_zero (a * b) w
  clear ha hb
  go_enter Try.func14, Try.ntmps14
  go_wp2_with fail
  go_region_with (first
    | (go_at_call 27; refine (HM.out _).mono ?_; rintro e w' ⟨rfl, g, rfl⟩)
    | (go_at_call 13; refine (HZ.out _).mono ?_; rintro e w' ⟨rfl, g2, rfl⟩))
  all_goals
    go_wp2_with fail
    refine bodyPost_ret (res_two Try.results14 (rd_nat (x := 0) (by rfl) ?_) (rd_tmp (by rfl))) rfl ⟨rfl, (by repeat (first | exact Gr.refl _ | apply Gr.drewN | apply Gr.drew | apply Gr.alloc | apply Gr.gro))⟩
    simp [go_sem]
theorem mul_lt18 (a b : Nat) (ha : a < M) (hb : b < M) : a * b < pw 18 := mul_pwj a b 9 18 rfl ha hb
set_option maxRecDepth 100000 in
set_option maxHeartbeats 400000 in
theorem mulMod_any (a b m : Nat) (ha : a < M) (hb : b < M) (h0 : 0 < m) (hM : m < M) (w : World) :
    Calls Try.prog 14 #[.agg (nw 9 a), .agg (nw 9 b), .agg (nw 9 m)] w fun e w' => e = .returned (.tuple #[.agg (nw 9 (a * b % m)), .int .i64 0]) ∧ Gr w w' := by
  have HM := fun w => mul_any a b ha hb w
  have HZ := fun w => mod_any (a * b) m h0 hM (mul_lt18 a b ha hb) w
  obtain ⟨P, hP⟩ : ∃ P, a * b = P := ⟨_, rfl⟩
  rw [hP] at HM HZ ⊢
  obtain ⟨R, hR⟩ : ∃ R, P % m = R := ⟨_, rfl⟩
  rw [hR] at HZ ⊢
  have HM' : Hid (∀ w, Calls Try.prog 27 #[.agg (nw 9 a), .agg (nw 9 b)] w fun e w' => e = .returned (.agg (nw 18 P)) ∧ Gr w w') := HM
  have HZ' : Hid (∀ w, Calls Try.prog 13 #[.agg (nw 18 P), .agg (nw 9 m)] w fun e w' => e = .returned (.tuple #[.agg (nw 9 R), .int .i64 0]) ∧ Gr w w') := HZ
  clear ha hb HM HZ hP hR h0 hM
  go_enter Try.func14, Try.ntmps14
  go_wp2_with fail
  go_region_with (first
    | (go_at_call 27; refine (HM'.out _).mono ?_; rintro e w' ⟨rfl, g, rfl⟩)
    | (go_at_call 13; refine (HZ'.out _).mono ?_; rintro e w' ⟨rfl, g2, rfl⟩))
  all_goals
    go_wp2_with fail
    refine bodyPost_ret (res_two Try.results14 (rd_nat (x := R) (by rfl) ?_) (rd_tmp (by rfl))) rfl ⟨rfl, (by repeat (first | exact Gr.refl _ | apply Gr.drewN | apply Gr.drew | apply Gr.alloc | apply Gr.gro))⟩
    simp [go_sem]

set_option maxRecDepth 100000 in
set_option maxHeartbeats 400000 in
theorem div_zero (a : Nat) (w : World) :
    Calls Try.prog 12 #[.agg (nw 9 a), .agg (nw 9 0)] w fun e w' => e = .returned (.tuple #[.agg (nw 9 0), .agg (nw 9 0), .int .i64 400]) ∧ Gr w w' := by
  have HZ : Hid (∀ w, Calls Try.prog 32 #[.agg (nw 9 0)] w fun e w' => e = .returned (.bool true) ∧ Gr w w') := fun w => isZero_any 0 M_pos w
  go_enter Try.func12, Try.ntmps12
  go_wp2_with (go_at_call 32; refine (HZ.out _).mono ?_; rintro e w' ⟨rfl, g, rfl⟩)
  refine bodyPost_ret (res_three Try.results12 (rd_nat (x := 0) (by rfl) ?_) (rd_nat (x := 0) (by rfl) ?_) (rd_tmp (by rfl))) rfl ⟨rfl, (by repeat (first | exact Gr.refl _ | apply Gr.drewN | apply Gr.drew | apply Gr.alloc | apply Gr.gro))⟩
  · simp [go_sem]
  · simp [go_sem]

theorem lt18 (a : Nat) (ha : a < M) : a < pw 18 := Nat.lt_of_lt_of_le ha (pw_up 9 18 (by decide))
theorem div_lt (a m : Nat) (ha : a < M) : a / m < M := Nat.lt_of_le_of_lt (Nat.div_le_self a m) ha

end Go.Proofs.Ytbafjcbbiiipfaa
