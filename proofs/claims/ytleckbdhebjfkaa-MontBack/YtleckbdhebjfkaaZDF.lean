/-
  divide.divisorOf: a divisor that fits; divisor.rest; divide.Mod, MulMod.
-/
/-
  divisor.rest; divide.Mod, MulMod, Div: what they hand back.
-/
/-
  divide.Div: what it hands back.
-/
import Derived.Test.YtleckbdhebjfkaaZDS
import Derived.Test.YtleckbdhebjfkaaZLawA
import Derived.Test.YtleckbdhebjfkaaZShr
import Derived.Test.YtleckbdhebjfkaaZMixG
namespace Go.Proofs.Ytleckbdhebjfkaa
open Go.RowKit
attribute [local go_sem ↓] loadNat_is loadArr_is loadWide_is loadArrW_is storeNat_is storeWide_is
attribute [local go_sem] loadNat loadArr loadWide loadArrW storeNat storeWide idxArr fold9 fold18 nw_size nw_elem pre_self pre_1 pre_2 pre_3 pre_4 pre_5 pre_6 pre_7 pre_8 pre_9 pre_10 pre_11 pre_12 pre_13 pre_14 pre_15 pre_16 pre_17 pre_18 pre_19 pre_20 pre_21 pre_22 pre_23 pre_24 pre_25 pre_26 pre_27 pre_28 pre_29 pre_30 pre_31 pre_32 pre_33 pre_34 pre_35 pre_36 pre_37 pre_38 pre_39 pre_40 gro_size gro_drew gro_drewN drew_gro drewN_gro gro_gro blk_gro frz_gro blk_drew frz_drew blk_drewN frz_drewN blk_alloc_at frz_alloc_at blk_alloc frz_alloc cell_gro frozen_gro cell_alloc_pre frozen_alloc_pre setCell_drewN alloc_drewN setBlk_drew setBlk_drewN setBlk_alloc_at setBlk_alloc setBlk_gro setCell_gro setCell_alloc_pre size_setBlk size_setCell
attribute [local go_sem ↓] loadDv_is load19_is storeDv_is store19_is copy_is
attribute [local go_sem] idx18 loadDv load19 storeDv store19 dv_size dv_9 dv_10 dv_e9 dv_e10 dv_elem fold11 fold19 setCell_in cell_in frozen_in frz_setBlk blk_setBlk setBlk_setBlk copy_run cpA_nw ones_nw


/-- D is m moved up by u bits until the highest of its n + 1 words has its top bit. -/
structure Dv (m D n u : Nat) : Prop where
  n9 : n < 9
  u64 : u < 64
  eq : D = m * 2 ^ u
  lt : D < pw (n + 1)
  top : 9223372036854775808 ≤ wd D n
  low : pw n * 2 ^ u ≤ D
theorem bl_pwk (m k : Nat) (h : m < pw k) : bl m ≤ 64 * k := (bl_le m (64 * k)).2 h
theorem bl_facts (m s : Nat) (h0 : 0 < m) (hs : bl m = s) : 1 ≤ s ∧ m < 2 ^ s ∧ 2 ^ (s - 1) ≤ m := by
  have h1 : m < 2 ^ s := (bl_le m s).1 (by omega)
  have h3 : 1 ≤ s := by
    by_cases hc : s = 0
    · rw [hc, Nat.pow_zero] at h1; omega
    · omega
  refine ⟨h3, h1, ?_⟩
  by_cases hc : m < 2 ^ (s - 1)
  · have := (bl_le m (s - 1)).2 hc
    omega
  · omega
theorem dv_of (m s n u : Nat) (hs1 : 1 ≤ s) (hs9 : s ≤ 64 * 9) (h1 : m < 2 ^ s) (h2 : 2 ^ (s - 1) ≤ m) (hn : n + 1 = (s + 63) / 64) (hu : u = 64 * (n + 1) - s) : Dv m (m * 2 ^ u) n u := by
  have hp := Nat.two_pow_pos u
  have e1 : pw (n + 1) = 2 ^ s * 2 ^ u := by
    unfold pw
    rw [← Nat.pow_add]
    congr 1
    omega
  have e2 : 9223372036854775808 * pw n = 2 ^ (s - 1) * 2 ^ u := by
    unfold pw
    rw [← Nat.pow_add, show s - 1 + u = 63 + 64 * n by omega, Nat.pow_add]
  have lt : m * 2 ^ u < pw (n + 1) := by rw [e1]; exact Nat.mul_lt_mul_of_pos_right h1 hp
  refine ⟨by omega, by omega, rfl, lt, ?_, ?_⟩
  · rw [← top_one _ n lt, Nat.le_div_iff_mul_le (pw_pos n), e2]
    exact Nat.mul_le_mul_right _ h2
  · refine Nat.mul_le_mul_right _ (Nat.le_trans ?_ h2)
    exact Nat.pow_le_pow_right (by decide) (by omega)
theorem pw_le_M (n : Nat) (h : n ≤ 9) : pw n ≤ M := pw_up n 9 h
def buildS (ty : TypeId) (p : Array (Nat × Value)) : Sem Value := Instr.build ty p
theorem buildDv_is (p : Array (Nat × Value)) : Instr.build 80 p = buildS 80 p := rfl
theorem buildDv (D : Nat) (x y : Int) (w : World) : (buildS 80 #[(0, .agg (nw 9 D)), (1, .int .i64 x), (2, .int .i64 y)]).run Try.prog w = .ok (.agg (nw 9 D ++ #[.int .i64 x, .int .i64 y])) w := by
  kernel_rfl
theorem dv_app (D n u : Nat) : nw 9 D ++ #[.int .i64 ((n : Int) + 1), .int .i64 (u : Int)] = dv D (n + 1) u := rfl
attribute [local go_sem ↓] buildDv_is
attribute [local go_sem] buildDv dv_app
set_option maxRecDepth 100000 in
set_option maxHeartbeats 300000 in
theorem divisorOf_any (m : Nat) (h0 : 0 < m) (hM : m < M) :
    ∃ D n u, Dv m D n u ∧ ∀ w, Calls Try.prog 46 #[.agg (nw 9 m)] w fun e w' => e = .returned (.agg (dv D (n + 1) u)) ∧ Gr w w' := by
  obtain ⟨s, hs⟩ : ∃ s, bl m = s := ⟨_, rfl⟩
  obtain ⟨hs0, hs2, hs3⟩ := bl_facts m s h0 hs
  have hs9 : s ≤ 64 * 9 := by rw [← hs]; exact bl_pwk m 9 hM
  obtain ⟨n, hn⟩ : ∃ n, n + 1 = (s + 63) / 64 := ⟨(s + 63) / 64 - 1, by omega⟩
  obtain ⟨u, hu⟩ : ∃ u, u = 64 * (n + 1) - s := ⟨_, rfl⟩
  have hd := dv_of m s n u hs0 hs9 hs2 hs3 hn hu
  obtain ⟨D, hD⟩ : ∃ D, m * 2 ^ u = D := ⟨_, rfl⟩
  rw [hD] at hd
  have hDM : D < M := Nat.lt_of_lt_of_le hd.lt (pw_le_M (n + 1) (by have := hd.n9; omega))
  have HB : Hid (∀ w, Calls Try.prog 34 #[.agg (nw 9 m)] w fun e w' => e = .returned (.int .i64 (s : Int)) ∧ Gr w w') := fun w => by
    have := bits_any m hM w
    rw [hs] at this
    exact this
  have HS : Hid (∀ w, Calls Try.prog 62 #[.agg (nw 9 m), .int .i64 (u : Int)] w fun e w' => e = .returned (.tuple #[.agg (nw 9 D), .int .i64 0]) ∧ Gr w w') := fun w => by
    have := shl_any m u (by have := hd.u64; omega) w
    rw [hD, Nat.mod_eq_of_lt hDM] at this
    exact this
  have s0 : (0 : Int) ≤ (s : Int) := by omega
  have s1 : (s : Int) ≤ 576 := by omega
  obtain ⟨p, hp⟩ : ∃ p, s + 63 = p := ⟨_, rfl⟩
  have s2 : (s : Int) + 64 - 1 = (p : Int) := by omega
  have s3 : (p : Int).tdiv 64 = (n : Int) + 1 := by rw [Int.tdiv_eq_ediv_of_nonneg (by omega)]; omega
  have s3' : (p : Int) / 64 = (n : Int) + 1 := by omega
  have s4 : ((n : Int) + 1) * 64 - (s : Int) = (u : Int) := by omega
  have n1 : (n : Int) < 9 := by have := hd.n9; omega
  have n0 : (0 : Int) ≤ (n : Int) := by omega
  have u1 : (u : Int) < 64 := by have := hd.u64; omega
  have HD : Hid (Dv m D n u) := hd
  refine ⟨D, n, u, hd, fun w => ?_⟩
  clear hp hd HD hDM hD hu hn hs9 hs0 hs h0 hM hs2 hs3
  go_enter Try.func46, Try.ntmps46
  go_wp2_with (first
    | (go_at_call 34; refine (HB.out _).mono ?_; rintro e w' ⟨rfl, g, rfl⟩)
    | (go_at_call 62; refine (HS.out _).mono ?_; rintro e w' ⟨rfl, g2, rfl⟩))
  refine bodyPost_ret (res_one Try.results46 (rd_dv (D := D) (k := n + 1) (u := u) (by rfl) ?_)) rfl ⟨rfl, (by repeat (first | exact Gr.refl _ | apply Gr.drewN | apply Gr.drew | apply Gr.alloc | apply Gr.gro))⟩
  simp [go_sem]

end Go.Proofs.Ytleckbdhebjfkaa
namespace Go.Proofs.Ytleckbdhebjfkaa
open Go.RowKit
attribute [local go_sem ↓] loadNat_is loadArr_is loadWide_is loadArrW_is storeNat_is storeWide_is
attribute [local go_sem] loadNat loadArr loadWide loadArrW storeNat storeWide idxArr fold9 fold18 nw_size nw_elem pre_self pre_1 pre_2 pre_3 pre_4 pre_5 pre_6 pre_7 pre_8 pre_9 pre_10 pre_11 pre_12 pre_13 pre_14 pre_15 pre_16 pre_17 pre_18 pre_19 pre_20 pre_21 pre_22 pre_23 pre_24 pre_25 pre_26 pre_27 pre_28 pre_29 pre_30 pre_31 pre_32 pre_33 pre_34 pre_35 pre_36 pre_37 pre_38 pre_39 pre_40 gro_size gro_drew gro_drewN drew_gro drewN_gro gro_gro blk_gro frz_gro blk_drew frz_drew blk_drewN frz_drewN blk_alloc_at frz_alloc_at blk_alloc frz_alloc cell_gro frozen_gro cell_alloc_pre frozen_alloc_pre setCell_drewN alloc_drewN setBlk_drew setBlk_drewN setBlk_alloc_at setBlk_alloc setBlk_gro setCell_gro setCell_alloc_pre size_setBlk size_setCell
attribute [local go_sem ↓] loadDv_is load19_is storeDv_is store19_is copy_is
attribute [local go_sem] idx18 loadDv load19 storeDv store19 dv_size dv_9 dv_10 dv_e9 dv_e10 dv_elem fold11 fold19 setCell_in cell_in frozen_in frz_setBlk blk_setBlk setBlk_setBlk copy_run cpA_nw ones_nw

attribute [local go_sem ↓] Go.wp_at_zero Go.wp_at_succ

theorem mul_pwj (a b k j : Nat) (h : j = k + k) (ha : a < pw k) (hb : b < pw k) : a * b < pw j := by
  subst h
  rw [pw_add]
  exact Nat.mul_lt_mul_of_lt_of_lt ha hb
theorem splitD (W m D n u : Nat) (hd : Dv m D n u) (hW : W < pw 18) (w : World) :
    Calls Try.prog 47 #[.agg (dv D (n + 1) u), .agg (nw 18 W)] w fun e w' => e = .returned (.tuple #[.agg (nw 18 (W / m)), .agg (nw 9 (W % m))]) ∧ Gr w w' := by
  refine (split_any W D n u w hW hd.u64 hd.n9 hd.lt hd.top hd.low).mono ?_
  rintro e w' ⟨Q, V, rfl, h1, h2, h3⟩
  obtain ⟨e1, e2⟩ := split_end W D (2 ^ u) Q V m hd.eq (Nat.two_pow_pos u) h1 h2
  exact ⟨by rw [e1, e2], h3⟩
set_option maxRecDepth 100000 in
set_option maxHeartbeats 400000 in
theorem restD (W m D n u : Nat) (hd : Dv m D n u) (hW : W < pw 18) (w : World) :
    Calls Try.prog 51 #[.agg (dv D (n + 1) u), .agg (nw 18 W)] w fun e w' => e = .returned (.agg (nw 9 (W % m))) ∧ Gr w w' := by
  have HS := fun w => splitD W m D n u hd hW w
  obtain ⟨Q, hQ⟩ : ∃ Q, W / m = Q := ⟨_, rfl⟩
  obtain ⟨R, hR⟩ : ∃ R, W % m = R := ⟨_, rfl⟩
  rw [hR]
  rw [hQ, hR] at HS
  have HS' : Hid (∀ w, Calls Try.prog 47 #[.agg (dv D (n + 1) u), .agg (nw 18 W)] w fun e w' => e = .returned (.tuple #[.agg (nw 18 Q), .agg (nw 9 R)]) ∧ Gr w w') := HS
  clear HS hQ hR hd hW
  go_enter Try.func51, Try.ntmps51
  go_wp2_with (go_at_call 47; refine (HS'.out _).mono ?_; rintro e w' ⟨rfl, g, rfl⟩)
  refine bodyPost_ret (res_one Try.results51 (rd_nat (x := R) (by rfl) ?_)) rfl ⟨rfl, (by repeat (first | exact Gr.refl _ | apply Gr.drewN | apply Gr.drew | apply Gr.alloc | apply Gr.gro))⟩
  simp [go_sem]

set_option maxRecDepth 100000 in
set_option maxHeartbeats 400000 in
theorem mod_zero (W : Nat) (w : World) :
    Calls Try.prog 53 #[.agg (nw 18 W), .agg (nw 9 0)] w fun e w' => e = .returned (.tuple #[.agg (nw 9 0), .int .i64 400]) ∧ Gr w w' := by
  have HZ : Hid (∀ w, Calls Try.prog 45 #[.agg (nw 9 0)] w fun e w' => e = .returned (.bool true) ∧ Gr w w') := fun w => isZero_any 0 M_pos w
  go_enter Try.func53, Try.ntmps53
  go_wp2_with (go_at_call 45; refine (HZ.out _).mono ?_; rintro e w' ⟨rfl, g, rfl⟩)
  refine bodyPost_ret (res_two Try.results53 (rd_nat (x := 0) (by rfl) ?_) (rd_tmp (by rfl))) rfl ⟨rfl, (by repeat (first | exact Gr.refl _ | apply Gr.drewN | apply Gr.drew | apply Gr.alloc | apply Gr.gro))⟩
  simp [go_sem]

theorem notZero (m : Nat) (h0 : 0 < m) (hM : m < M) (w : World) : Calls Try.prog 45 #[.agg (nw 9 m)] w fun e w' => e = .returned (.bool false) ∧ Gr w w' := by
  have := isZero_any m hM w
  rw [decide_eq_false (by omega)] at this
  exact this
set_option maxRecDepth 100000 in
set_option maxHeartbeats 800000 in
theorem mod_any (W m : Nat) (h0 : 0 < m) (hM : m < M) (hW : W < pw 18) (w : World) :
    Calls Try.prog 53 #[.agg (nw 18 W), .agg (nw 9 m)] w fun e w' => e = .returned (.tuple #[.agg (nw 9 (W % m)), .int .i64 0]) ∧ Gr w w' := by
  have HZ : Hid (∀ w, Calls Try.prog 45 #[.agg (nw 9 m)] w fun e w' => e = .returned (.bool false) ∧ Gr w w') := fun w => notZero m h0 hM w
  obtain ⟨D, n, u, hd, hD⟩ := divisorOf_any m h0 hM
  have HD : Hid (∀ w, Calls Try.prog 46 #[.agg (nw 9 m)] w fun e w' => e = .returned (.agg (dv D (n + 1) u)) ∧ Gr w w') := hD
  have hr := fun w => restD W m D n u hd hW w
  obtain ⟨R, hR⟩ : ∃ R, W % m = R := ⟨_, rfl⟩
  rw [hR]
  rw [hR] at hr
  have HR : Hid (∀ w, Calls Try.prog 51 #[.agg (dv D (n + 1) u), .agg (nw 18 W)] w fun e w' => e = .returned (.agg (nw 9 R)) ∧ Gr w w') := hr
  clear hr hR h0 hM hW hd hD
  go_enter Try.func53, Try.ntmps53
  go_wp2_with (go_at_call 45; refine (HZ.out _).mono ?_; rintro e w' ⟨rfl, g, rfl⟩)
  go_region_with (first
    | (go_at_call 46; refine (HD.out _).mono ?_; rintro e w' ⟨rfl, g1, rfl⟩)
    | (go_at_call 51; refine (HR.out _).mono ?_; rintro e w' ⟨rfl, g2, rfl⟩))
  all_goals
    go_wp2_with fail
    refine bodyPost_ret (res_two Try.results53 (rd_nat (x := R) (by rfl) ?_) (rd_tmp (by rfl))) rfl ⟨rfl, (by repeat (first | exact Gr.refl _ | apply Gr.drewN | apply Gr.drew | apply Gr.alloc | apply Gr.gro))⟩
    simp [go_sem]

set_option maxRecDepth 100000 in
set_option maxHeartbeats 400000 in
theorem mulMod_zero (a b : Nat) (ha : a < M) (hb : b < M) (w : World) :
    Calls Try.prog 29 #[.agg (nw 9 a), .agg (nw 9 b), .agg (nw 9 0)] w fun e w' => e = .returned (.tuple #[.agg (nw 9 0), .int .i64 400]) ∧ Gr w w' := by
  have HM : Hid (∀ w, Calls Try.prog 54 #[.agg (nw 9 a), .agg (nw 9 b)] w fun e w' => e = .returned (.agg (nw 18 (a * b))) ∧ Gr w w') := fun w => mul_any a b ha hb w
  have HZ : Hid (∀ w, Calls Try.prog 53 #[.agg (nw 18 (a * b)), .agg (nw 9 0)] w fun e w' => e = .returned (.tuple #[.agg (nw 9 0), .int .i64 400]) ∧ Gr w w') := fun w => mod_zero (a * b) w
  clear ha hb
  go_enter Try.func29, Try.ntmps29
  go_wp2_with fail
  go_region_with (first
    | (go_at_call 54; refine (HM.out _).mono ?_; rintro e w' ⟨rfl, g, rfl⟩)
    | (go_at_call 53; refine (HZ.out _).mono ?_; rintro e w' ⟨rfl, g2, rfl⟩))
  all_goals
    go_wp2_with fail
    refine bodyPost_ret (res_two Try.results29 (rd_nat (x := 0) (by rfl) ?_) (rd_tmp (by rfl))) rfl ⟨rfl, (by repeat (first | exact Gr.refl _ | apply Gr.drewN | apply Gr.drew | apply Gr.alloc | apply Gr.gro))⟩
    simp [go_sem]
theorem mul_lt18 (a b : Nat) (ha : a < M) (hb : b < M) : a * b < pw 18 := mul_pwj a b 9 18 rfl ha hb
set_option maxRecDepth 100000 in
set_option maxHeartbeats 400000 in
theorem mulMod_any (a b m : Nat) (ha : a < M) (hb : b < M) (h0 : 0 < m) (hM : m < M) (w : World) :
    Calls Try.prog 29 #[.agg (nw 9 a), .agg (nw 9 b), .agg (nw 9 m)] w fun e w' => e = .returned (.tuple #[.agg (nw 9 (a * b % m)), .int .i64 0]) ∧ Gr w w' := by
  have HM := fun w => mul_any a b ha hb w
  have HZ := fun w => mod_any (a * b) m h0 hM (mul_lt18 a b ha hb) w
  obtain ⟨P, hP⟩ : ∃ P, a * b = P := ⟨_, rfl⟩
  rw [hP] at HM HZ ⊢
  obtain ⟨R, hR⟩ : ∃ R, P % m = R := ⟨_, rfl⟩
  rw [hR] at HZ ⊢
  have HM' : Hid (∀ w, Calls Try.prog 54 #[.agg (nw 9 a), .agg (nw 9 b)] w fun e w' => e = .returned (.agg (nw 18 P)) ∧ Gr w w') := HM
  have HZ' : Hid (∀ w, Calls Try.prog 53 #[.agg (nw 18 P), .agg (nw 9 m)] w fun e w' => e = .returned (.tuple #[.agg (nw 9 R), .int .i64 0]) ∧ Gr w w') := HZ
  clear ha hb HM HZ hP hR h0 hM
  go_enter Try.func29, Try.ntmps29
  go_wp2_with fail
  go_region_with (first
    | (go_at_call 54; refine (HM'.out _).mono ?_; rintro e w' ⟨rfl, g, rfl⟩)
    | (go_at_call 53; refine (HZ'.out _).mono ?_; rintro e w' ⟨rfl, g2, rfl⟩))
  all_goals
    go_wp2_with fail
    refine bodyPost_ret (res_two Try.results29 (rd_nat (x := R) (by rfl) ?_) (rd_tmp (by rfl))) rfl ⟨rfl, (by repeat (first | exact Gr.refl _ | apply Gr.drewN | apply Gr.drew | apply Gr.alloc | apply Gr.gro))⟩
    simp [go_sem]

set_option maxRecDepth 100000 in
set_option maxHeartbeats 400000 in
theorem div_zero (a : Nat) (w : World) :
    Calls Try.prog 25 #[.agg (nw 9 a), .agg (nw 9 0)] w fun e w' => e = .returned (.tuple #[.agg (nw 9 0), .agg (nw 9 0), .int .i64 400]) ∧ Gr w w' := by
  have HZ : Hid (∀ w, Calls Try.prog 45 #[.agg (nw 9 0)] w fun e w' => e = .returned (.bool true) ∧ Gr w w') := fun w => isZero_any 0 M_pos w
  go_enter Try.func25, Try.ntmps25
  go_wp2_with (go_at_call 45; refine (HZ.out _).mono ?_; rintro e w' ⟨rfl, g, rfl⟩)
  refine bodyPost_ret (res_three Try.results25 (rd_nat (x := 0) (by rfl) ?_) (rd_nat (x := 0) (by rfl) ?_) (rd_tmp (by rfl))) rfl ⟨rfl, (by repeat (first | exact Gr.refl _ | apply Gr.drewN | apply Gr.drew | apply Gr.alloc | apply Gr.gro))⟩
  · simp [go_sem]
  · simp [go_sem]

theorem lt18 (a : Nat) (ha : a < M) : a < pw 18 := Nat.lt_of_lt_of_le ha (pw_up 9 18 (by decide))
theorem div_lt (a m : Nat) (ha : a < M) : a / m < M := Nat.lt_of_le_of_lt (Nat.div_le_self a m) ha

end Go.Proofs.Ytleckbdhebjfkaa
namespace Go.Proofs.Ytleckbdhebjfkaa
open Go.RowKit
attribute [local go_sem ↓] loadNat_is loadArr_is loadWide_is loadArrW_is storeNat_is storeWide_is
attribute [local go_sem] loadNat loadArr loadWide loadArrW storeNat storeWide idxArr fold9 fold18 nw_size nw_elem pre_self pre_1 pre_2 pre_3 pre_4 pre_5 pre_6 pre_7 pre_8 pre_9 pre_10 pre_11 pre_12 pre_13 pre_14 pre_15 pre_16 pre_17 pre_18 pre_19 pre_20 pre_21 pre_22 pre_23 pre_24 pre_25 pre_26 pre_27 pre_28 pre_29 pre_30 pre_31 pre_32 pre_33 pre_34 pre_35 pre_36 pre_37 pre_38 pre_39 pre_40 gro_size gro_drew gro_drewN drew_gro drewN_gro gro_gro blk_gro frz_gro blk_drew frz_drew blk_drewN frz_drewN blk_alloc_at frz_alloc_at blk_alloc frz_alloc cell_gro frozen_gro cell_alloc_pre frozen_alloc_pre setCell_drewN alloc_drewN setBlk_drew setBlk_drewN setBlk_alloc_at setBlk_alloc setBlk_gro setCell_gro setCell_alloc_pre size_setBlk size_setCell
attribute [local go_sem ↓] loadDv_is load19_is storeDv_is store19_is copy_is
attribute [local go_sem] idx18 loadDv load19 storeDv store19 dv_size dv_9 dv_10 dv_e9 dv_e10 dv_elem fold11 fold19 setCell_in cell_in frozen_in frz_setBlk blk_setBlk setBlk_setBlk copy_run cpA_nw ones_nw

attribute [local go_sem ↓] Go.wp_at_zero Go.wp_at_succ
attribute [local go_sem] blk_other
theorem Gr.frz0 {w v : World} (h : Gr w v) (b : Nat) (hb : b < w.heap.size) (hf : Go.Proofs.Ytleckbdhebjfkaa.frz w b = (0, 0)) : Go.Proofs.Ytleckbdhebjfkaa.frz v b = (0, 0) := by rw [h.frz b hb]; exact hf
set_option maxRecDepth 100000 in
set_option maxHeartbeats 1200000 in
theorem div_any (a m : Nat) (ha : a < M) (h0 : 0 < m) (hM : m < M) (w : World) :
    Calls Try.prog 25 #[.agg (nw 9 a), .agg (nw 9 m)] w fun e w' => e = .returned (.tuple #[.agg (nw 9 (a / m)), .agg (nw 9 (a % m)), .int .i64 0]) ∧ Gr w w' := by
  have HZ : Hid (∀ w, Calls Try.prog 45 #[.agg (nw 9 m)] w fun e w' => e = .returned (.bool false) ∧ Gr w w') := fun w => notZero m h0 hM w
  obtain ⟨D, n, u, hd, hD⟩ := divisorOf_any m h0 hM
  have HD : Hid (∀ w, Calls Try.prog 46 #[.agg (nw 9 m)] w fun e w' => e = .returned (.agg (dv D (n + 1) u)) ∧ Gr w w') := hD
  have HW : Hid (∀ w, Calls Try.prog 48 #[.agg (nw 9 a)] w fun e w' => e = .returned (.agg (nw 18 a)) ∧ Gr w w') := fun w => widen_any a ha w
  have hr := fun w => splitD a m D n u hd (lt18 a ha) w
  have hl := fun w => lowHalf_any (a / m) w
  rw [Nat.mod_eq_of_lt (div_lt a m ha)] at hl
  obtain ⟨R, hR⟩ : ∃ R, a % m = R := ⟨_, rfl⟩
  obtain ⟨Q, hQ⟩ : ∃ Q, a / m = Q := ⟨_, rfl⟩
  rw [hR, hQ]
  rw [hR, hQ] at hr
  rw [hQ] at hl
  have HR : Hid (∀ w, Calls Try.prog 47 #[.agg (dv D (n + 1) u), .agg (nw 18 a)] w fun e w' => e = .returned (.tuple #[.agg (nw 18 Q), .agg (nw 9 R)]) ∧ Gr w w') := hr
  have HL : Hid (∀ w, Calls Try.prog 49 #[.agg (nw 18 Q)] w fun e w' => e = .returned (.agg (nw 9 Q)) ∧ Gr w w') := hl
  clear hr hl hR hQ h0 hM ha hd hD
  go_enter Try.func25, Try.ntmps25
  go_wp2_with (go_at_call 45; refine (HZ.out _).mono ?_; rintro e w' ⟨rfl, g, rfl⟩)
  refine wp_region_mix (by kernel_rfl) (by kernel_rfl) (RG _ (fun i => match i with | 0 => some (.agg (nw 9 m)) | 1 => some (.agg (dv D (n + 1) u)) | 2 => some (.agg (nw 9 a)) | 3 => some (.agg (nw 18 a)) | 4 => some (.tuple #[.agg (nw 18 Q), .agg (nw 9 R)]) | 5 => some (.tuple #[.agg (nw 18 Q), .agg (nw 9 R)]) | 6 => some (.agg (nw 18 Q)) | 7 => some (.agg (nw 9 R)) | _ => none) (fun i => match i with | 8 => some (nw 18 0) | 9 => some (nw 9 0) | _ => none) (fun i => match i with | 8 => some (10, nw 18 Q) | 9 => some (11, nw 9 R) | _ => none)) (RG.start _ _ _ _ _ _) ?hs ?hf
  case hs =>
    intro listed vals a1 v1 i o hz hR hF ho hl hd
    have hks : ∀ (j k : Nat) (r : Array Value), (match j with | 8 => some (10, nw 18 Q) | 9 => some (11, nw 9 R) | _ => (none : Option (Nat × Array Value))) = some (k, r) → (j = 8 ∧ k = 10) ∨ (j = 9 ∧ k = 11) := fun j k r h => by
      split at h <;> simp_all
    have hbm : blk v1 (w.heap.size + 1) = nw 9 m := (blk_of _ _ _ (hR.1.below.block (w.heap.size + 1) (by simp [go_sem] <;> omega))).trans (by simp [go_sem])
    have hba : blk v1 (w.heap.size) = nw 9 a := (blk_of _ _ _ (hR.1.below.block (w.heap.size) (by simp [go_sem] <;> omega))).trans (by simp [go_sem])
    have hb2 : blk v1 (w.heap.size + 1 + 1) = nw 9 0 := (blk_of _ _ _ (hR.1.below.block (w.heap.size + 1 + 1) (by simp [go_sem] <;> omega))).trans (by simp [go_sem])
    have hb3 : blk v1 (w.heap.size + 1 + 1 + 1) = nw 9 0 := (blk_of _ _ _ (hR.1.below.block (w.heap.size + 1 + 1 + 1) (by simp [go_sem] <;> omega))).trans (by simp [go_sem])
    have hi : i < 12 := by simpa using (Array.getElem?_eq_some_iff.1 ho).1
    have hil : i < listed.size := by rw [hz]; simpa using hi
    obtain rfl | rfl | rfl | rfl | rfl | rfl | rfl | rfl | rfl | rfl | rfl | rfl : i = 0 ∨ i = 1 ∨ i = 2 ∨ i = 3 ∨ i = 4 ∨ i = 5 ∨ i = 6 ∨ i = 7 ∨ i = 8 ∨ i = 9 ∨ i = 10 ∨ i = 11 := by omega
    · obtain rfl := Option.some.inj ho
      have f0 := hF.old (s := 3) (v := .pointer (some ⟨w.heap.size + 1, 0, none⟩)) (by kernel_rfl) rfl
      exact wp_val (.agg (nw 9 m)) (by simp [go_sem, f0, hbm]) ⟨_, rfl, RG.quiet 0 _ hil rfl rfl (fun j k r h => by have := hks j k r h; omega) (Gr.refl _) hR⟩
    · obtain rfl := Option.some.inj ho
      have l0 := hd ⟨0, .data⟩ (by simp) rfl
      have f0 := hF.at (s := 14) (i := 0) (by kernel_rfl) (by simp) l0
      rw [hR.2.1 0 _ l0 rfl] at f0
      exact wp_ret (.agg (dv D (n + 1) u)) (by simp [go_sem, f0]) (HD.out _) (fun w2 hg => ⟨_, rfl, RG.quiet 1 _ hil rfl rfl (fun j k r h => by have := hks j k r h; omega) hg hR⟩)
    · obtain rfl := Option.some.inj ho
      have f0 := hF.old (s := 2) (v := .pointer (some ⟨w.heap.size, 0, none⟩)) (by kernel_rfl) rfl
      exact wp_val (.agg (nw 9 a)) (by simp [go_sem, f0, hba]) ⟨_, rfl, RG.quiet 2 _ hil rfl rfl (fun j k r h => by have := hks j k r h; omega) (Gr.refl _) hR⟩
    · obtain rfl := Option.some.inj ho
      have l0 := hd ⟨2, .data⟩ (by simp) rfl
      have f0 := hF.at (s := 16) (i := 2) (by kernel_rfl) (by simp) l0
      rw [hR.2.1 2 _ l0 rfl] at f0
      exact wp_ret (.agg (nw 18 a)) (by simp [go_sem, f0]) (HW.out _) (fun w2 hg => ⟨_, rfl, RG.quiet 3 _ hil rfl rfl (fun j k r h => by have := hks j k r h; omega) hg hR⟩)
    · obtain rfl := Option.some.inj ho
      have l0 := hd ⟨1, .data⟩ (by simp) rfl
      have f0 := hF.at (s := 15) (i := 1) (by kernel_rfl) (by simp) l0
      rw [hR.2.1 1 _ l0 rfl] at f0
      have l1 := hd ⟨3, .data⟩ (by simp) rfl
      have f1 := hF.at (s := 17) (i := 3) (by kernel_rfl) (by simp) l1
      rw [hR.2.1 3 _ l1 rfl] at f1
      exact wp_ret (.tuple #[.agg (nw 18 Q), .agg (nw 9 R)]) (by simp [go_sem, f0, f1]) (HR.out _) (fun w2 hg => ⟨_, rfl, RG.quiet 4 _ hil rfl rfl (fun j k r h => by have := hks j k r h; omega) hg hR⟩)
    · obtain rfl := Option.some.inj ho
      have l0 := hd ⟨4, .data⟩ (by simp) rfl
      have f0 := hF.at (s := 18) (i := 4) (by kernel_rfl) (by simp) l0
      rw [hR.2.1 4 _ l0 rfl] at f0
      exact wp_val (.tuple #[.agg (nw 18 Q), .agg (nw 9 R)]) (by simp [go_sem, f0]) ⟨_, rfl, RG.quiet 5 _ hil rfl rfl (fun j k r h => by have := hks j k r h; omega) (Gr.refl _) hR⟩
    · obtain rfl := Option.some.inj ho
      have l0 := hd ⟨5, .data⟩ (by simp) rfl
      have f0 := hF.at (s := 13) (i := 5) (by kernel_rfl) (by simp) l0
      rw [hR.2.1 5 _ l0 rfl] at f0
      exact wp_val (.agg (nw 18 Q)) (by simp [go_sem, f0]) ⟨_, rfl, RG.quiet 6 _ hil rfl rfl (fun j k r h => by have := hks j k r h; omega) (Gr.refl _) hR⟩
    · obtain rfl := Option.some.inj ho
      have l0 := hd ⟨5, .data⟩ (by simp) rfl
      have f0 := hF.at (s := 13) (i := 5) (by kernel_rfl) (by simp) l0
      rw [hR.2.1 5 _ l0 rfl] at f0
      exact wp_val (.agg (nw 9 R)) (by simp [go_sem, f0]) ⟨_, rfl, RG.quiet 7 _ hil rfl rfl (fun j k r h => by have := hks j k r h; omega) (Gr.refl _) hR⟩
    · obtain rfl := Option.some.inj ho
      exact wp_val (.pointer (some ⟨v1.heap.size, 0, none⟩)) (w' := v1.alloc (.cells (nw 18 0) 77)) (by simp [go_sem]) ⟨_, rfl, RG.alloc 8 (nw 18 0) 77 hil hl rfl rfl (fun j k r h => by have := hks j k r h; omega) hR⟩
    · obtain rfl := Option.some.inj ho
      exact wp_val (.pointer (some ⟨v1.heap.size, 0, none⟩)) (w' := v1.alloc (.cells (nw 9 0) 25)) (by simp [go_sem]) ⟨_, rfl, RG.alloc 9 (nw 9 0) 25 hil hl rfl rfl (fun j k r h => by have := hks j k r h; omega) hR⟩
    · obtain rfl := Option.some.inj ho
      have l0 := hd ⟨8, .data⟩ (by simp) rfl
      have l1 := hd ⟨6, .data⟩ (by simp) rfl
      obtain ⟨B, h4, h5⟩ := hR.2.2.2
      obtain ⟨e1, e2, e3, e4, e5⟩ := h4 8 (nw 18 0) l0 rfl
      simp only [hl] at e5
      replace e5 : blk v1 (B 8) = nw 18 0 := e5
      have f0 := hF.at (s := 7) (i := 8) (by kernel_rfl) (by simp) l0
      rw [e1] at f0
      have f1 := hF.at (s := 19) (i := 6) (by kernel_rfl) (by simp) l1
      rw [hR.2.1 6 _ l1 rfl] at f1
      exact wp_skip (w' := setBlk v1 (B 8) (nw 18 Q)) (by simp [go_sem, f0, f1, e4, e5]) ⟨undef, rfl, RG.store 10 8 (nw 18 0) (nw 18 Q) (B 8) hil hl rfl rfl rfl l0 rfl (by rw [nw_size]; decide) e1 (fun k r h => by have := hks k _ r h; omega) hR⟩
    · obtain rfl := Option.some.inj ho
      have l0 := hd ⟨9, .data⟩ (by simp) rfl
      have l1 := hd ⟨7, .data⟩ (by simp) rfl
      obtain ⟨B, h4, h5⟩ := hR.2.2.2
      obtain ⟨e1, e2, e3, e4, e5⟩ := h4 9 (nw 9 0) l0 rfl
      simp only [hl] at e5
      replace e5 : blk v1 (B 9) = nw 9 0 := e5
      have f0 := hF.at (s := 8) (i := 9) (by kernel_rfl) (by simp) l0
      rw [e1] at f0
      have f1 := hF.at (s := 20) (i := 7) (by kernel_rfl) (by simp) l1
      rw [hR.2.1 7 _ l1 rfl] at f1
      exact wp_skip (w' := setBlk v1 (B 9) (nw 9 R)) (by simp [go_sem, f0, f1, e4, e5]) ⟨undef, rfl, RG.store 11 9 (nw 9 0) (nw 9 R) (B 9) hil hl rfl rfl rfl l0 rfl (by rw [nw_size]; decide) e1 (fun k r h => by have := hks k _ r h; omega) hR⟩
  case hf =>
    intro listed vals a1 v1 hall hR hF
    have hbm : blk v1 (w.heap.size + 1) = nw 9 m := (blk_of _ _ _ (hR.1.below.block (w.heap.size + 1) (by simp [go_sem] <;> omega))).trans (by simp [go_sem])
    have phbm : Pre (w.heap.size + 1 + 1) v1.heap.size := Nat.le_trans (show w.heap.size + 1 + 1 ≤ _ by simp [go_sem] <;> omega) hR.1.below.size
    have hba : blk v1 (w.heap.size) = nw 9 a := (blk_of _ _ _ (hR.1.below.block (w.heap.size) (by simp [go_sem] <;> omega))).trans (by simp [go_sem])
    have phba : Pre (w.heap.size + 1) v1.heap.size := Nat.le_trans (show w.heap.size + 1 ≤ _ by simp [go_sem] <;> omega) hR.1.below.size
    have hb2 : blk v1 (w.heap.size + 1 + 1) = nw 9 0 := (blk_of _ _ _ (hR.1.below.block (w.heap.size + 1 + 1) (by simp [go_sem] <;> omega))).trans (by simp [go_sem])
    have phb2 : Pre (w.heap.size + 1 + 1 + 1) v1.heap.size := Nat.le_trans (show w.heap.size + 1 + 1 + 1 ≤ _ by simp [go_sem] <;> omega) hR.1.below.size
    have hb3 : blk v1 (w.heap.size + 1 + 1 + 1) = nw 9 0 := (blk_of _ _ _ (hR.1.below.block (w.heap.size + 1 + 1 + 1) (by simp [go_sem] <;> omega))).trans (by simp [go_sem])
    have phb3 : Pre (w.heap.size + 1 + 1 + 1 + 1) v1.heap.size := Nat.le_trans (show w.heap.size + 1 + 1 + 1 + 1 ≤ _ by simp [go_sem] <;> omega) hR.1.below.size
    have hV := hR.2.1
    obtain ⟨B, h4, h5⟩ := hR.2.2.2
    have x0 := hV 0 _ (hall 0 (by simp)) rfl
    have x1 := hV 1 _ (hall 1 (by simp)) rfl
    have x2 := hV 2 _ (hall 2 (by simp)) rfl
    have x3 := hV 3 _ (hall 3 (by simp)) rfl
    have x4 := hV 4 _ (hall 4 (by simp)) rfl
    have x5 := hV 5 _ (hall 5 (by simp)) rfl
    have x6 := hV 6 _ (hall 6 (by simp)) rfl
    have x7 := hV 7 _ (hall 7 (by simp)) rfl
    obtain ⟨x8, q8, p8, z8, y8⟩ := h4 8 _ (hall 8 (by simp)) rfl
    simp only [hall 10 (by simp), if_true] at y8
    replace p8 : Pre (B 8 + 1) v1.heap.size := p8
    replace y8 : blk v1 (B 8) = nw 18 Q := y8
    obtain ⟨x9, q9, p9, z9, y9⟩ := h4 9 _ (hall 9 (by simp)) rfl
    simp only [hall 11 (by simp), if_true] at y9
    replace p9 : Pre (B 9 + 1) v1.heap.size := p9
    replace y9 : blk v1 (B 9) = nw 9 R := y9
    have hb1 := hR.1
    rw [hF.final (by kernel_rfl) hall]
    simp only [putFrom, Act.put, List.setIfInBounds_toArray, List.set_cons_zero, List.set_cons_succ, x0, x1, x2, x3, x4, x5, x6, x7, x8, x9]
    generalize B 8 = b8 at *
    generalize B 9 = b9 at *
    clear hV h4 h5 hR hF hall x0 x1 x2 x3 x4 x5 x6 x7 x8 x9
    have hf2 : frz v1 (w.heap.size + 1 + 1) = (0, 0) := hb1.frz0 _ (by simp [go_sem] <;> omega) (by simp [go_sem])
    have hf3 : frz v1 (w.heap.size + 1 + 1 + 1) = (0, 0) := hb1.frz0 _ (by simp [go_sem] <;> omega) (by simp [go_sem])
    obtain ⟨W1, hW1⟩ : ∃ W, gro ((((w.alloc (.cells (nw 9 a) 25)).alloc (.cells (nw 9 m) 25)).alloc (.cells (nw 9 0) 25)).alloc (.cells (nw 9 0) 25)) g = W := ⟨_, rfl⟩
    have HG : Hid (Gr w v1) := by show Gr w v1; refine Gr.trans ?_ hb1; exact (by repeat (first | exact Gr.refl _ | apply Gr.drewN | apply Gr.drew | apply Gr.alloc | apply Gr.gro))
    have n92 : ¬ (w.heap.size + 1 + 1) = b9 := fun e => by have h := q9; rw [← e] at h; simp [go_sem] at h; omega
    have n93 : ¬ (w.heap.size + 1 + 1 + 1) = b9 := fun e => by have h := q9; rw [← e] at h; simp [go_sem] at h; omega
    have n82 : ¬ (w.heap.size + 1 + 1) = b8 := fun e => by have h := q8; rw [← e] at h; simp [go_sem] at h; omega
    have n83 : ¬ (w.heap.size + 1 + 1 + 1) = b8 := fun e => by have h := q8; rw [← e] at h; simp [go_sem] at h; omega
    clear hb1 hW1 q8 q9
    go_wp2_with fail
    go_region_with (go_at_call 49; refine (HL.out _).mono ?_; rintro e w' ⟨rfl, g3, rfl⟩)
    all_goals
      go_wp2_with fail
      refine bodyPost_ret (res_three Try.results25 (rd_nat (x := Q) (by rfl) ?_) (rd_nat (x := R) (by rfl) ?_) (rd_tmp (by rfl))) rfl ⟨rfl, ?_⟩
      · simp [go_sem, *]
      · simp [go_sem, *]
      · repeat (first | exact HG.out | apply Gr.drewN | apply Gr.drew | apply Gr.alloc | apply Gr.gro | (refine gr_setNew ?_ (by omega)))

end Go.Proofs.Ytleckbdhebjfkaa
