/-
  divide.divisorOf: a divisor that fits; divisor.rest; divide.Mod, MulMod.
-/
/-
  divisor.rest; divide.Mod, MulMod, Div: what they hand back.
-/
/-
  divide.Div: what it hands back.
-/
import Derived.Test.YtkmpholjlophpaaZDS
import Derived.Test.YtkmpholjlophpaaZLawA
import Derived.Test.YtkmpholjlophpaaZShr
import Derived.Test.YtkmpholjlophpaaZMixG
namespace Go.Proofs.Ytkmpholjlophpaa
open Go.RowKit
attribute [local go_sem ↓] loadNat_is loadArr_is loadWide_is loadArrW_is storeNat_is storeWide_is
attribute [local go_sem] loadNat loadArr loadWide loadArrW storeNat storeWide idxArr fold9 fold18 nw_size nw_elem pre_self pre_1 pre_2 pre_3 pre_4 pre_5 pre_6 pre_7 pre_8 pre_9 pre_10 pre_11 pre_12 pre_13 pre_14 pre_15 pre_16 pre_17 pre_18 pre_19 pre_20 pre_21 pre_22 pre_23 pre_24 pre_25 pre_26 pre_27 pre_28 pre_29 pre_30 pre_31 pre_32 pre_33 pre_34 pre_35 pre_36 pre_37 pre_38 pre_39 pre_40 gro_size gro_drew gro_drewN drew_gro drewN_gro gro_gro blk_gro frz_gro blk_drew frz_drew blk_drewN frz_drewN blk_alloc_at frz_alloc_at blk_alloc frz_alloc cell_gro frozen_gro cell_alloc_pre frozen_alloc_pre setCell_drewN alloc_drewN setBlk_drew setBlk_drewN setBlk_alloc_at setBlk_alloc setBlk_gro setCell_gro setCell_alloc_pre size_setBlk size_setCell
attribute [local go_sem ↓] loadDv_is load19_is storeDv_is store19_is copy_is
attribute [local go_sem] idx18 loadDv load19 storeDv store19 dv_size dv_9 dv_10 dv_e9 dv_e10 dv_elem fold11 fold19 setCell_in cell_in frozen_in frz_setBlk blk_setBlk setBlk_setBlk copy_run cpA_nw ones_nw


/-- D is m moved up by u bits until the highest of its n + 1 words has its top bit. -/
structure Dv (m D n u : Nat) : Prop where
  n9 : n < 9
  u64 : u < 64
  eq : D = m * 2 ^ u
  lt : D < pw (n + 1)
  top : 9223372036854775808 ≤ wd D n
  low : pw n * 2 ^ u ≤ D
theorem bl_pwk (m k : Nat) (h : m < pw k) : bl m ≤ 64 * k := (bl_le m (64 * k)).2 h
theorem bl_facts (m s : Nat) (h0 : 0 < m) (hs : bl m = s) : 1 ≤ s ∧ m < 2 ^ s ∧ 2 ^ (s - 1) ≤ m := by
  have h1 : m < 2 ^ s := (bl_le m s).1 (by omega)
  have h3 : 1 ≤ s := by
    by_cases hc : s = 0
    · rw [hc, Nat.pow_zero] at h1; omega
    · omega
  refine ⟨h3, h1, ?_⟩
  by_cases hc : m < 2 ^ (s - 1)
  · have := (bl_le m (s - 1)).2 hc
    omega
  · omega
theorem dv_of (m s n u : Nat) (hs1 : 1 ≤ s) (hs9 : s ≤ 64 * 9) (h1 : m < 2 ^ s) (h2 : 2 ^ (s - 1) ≤ m) (hn : n + 1 = (s + 63) / 64) (hu : u = 64 * (n + 1) - s) : Dv m (m * 2 ^ u) n u := by
  have hp := Nat.two_pow_pos u
  have e1 : pw (n + 1) = 2 ^ s * 2 ^ u := by
    unfold pw
    rw [← Nat.pow_add]
    congr 1
    omega
  have e2 : 9223372036854775808 * pw n = 2 ^ (s - 1) * 2 ^ u := by
    unfold pw
    rw [← Nat.pow_add, show s - 1 + u = 63 + 64 * n by omega, Nat.pow_add]
  have lt : m * 2 ^ u < pw (n + 1) := by rw [e1]; exact Nat.mul_lt_mul_of_pos_right h1 hp
  refine ⟨by omega, by omega, rfl, lt, ?_, ?_⟩
  · rw [← top_one _ n lt, Nat.le_div_iff_mul_le (pw_pos n), e2]
    exact Nat.mul_le_mul_right _ h2
  · refine Nat.mul_le_mul_right _ (Nat.le_trans ?_ h2)
    exact Nat.pow_le_pow_right (by decide) (by omega)
theorem pw_le_M (n : Nat) (h : n ≤ 9) : pw n ≤ M := pw_up n 9 h
def buildS (ty : TypeId) (p : Array (Nat × Value)) : Sem Value := Instr.build ty p
theorem buildDv_is (p : Array (Nat × Value)) : Instr.build 85 p = buildS 85 p := rfl
theorem buildDv (D : Nat) (x y : Int) (w : World) : (buildS 85 #[(0, .agg (nw 9 D)), (1, .int .i64 x), (2, .int .i64 y)]).run Try.prog w = .ok (.agg (nw 9 D ++ #[.int .i64 x, .int .i64 y])) w := by
  kernel_rfl
theorem dv_app (D n u : Nat) : nw 9 D ++ #[.int .i64 ((n : Int) + 1), .int .i64 (u : Int)] = dv D (n + 1) u := rfl
attribute [local go_sem ↓] buildDv_is
attribute [local go_sem] buildDv dv_app
set_option maxRecDepth 100000 in
set_option maxHeartbeats 300000 in
theorem divisorOf_any (m : Nat) (h0 : 0 < m) (hM : m < M) :
    ∃ D n u, Dv m D n u ∧ ∀ w, Calls Try.prog 55 #[.agg (nw 9 m)] w fun e w' => e = .returned (.agg (dv D (n + 1) u)) ∧ Gr w w' := by
  obtain ⟨s, hs⟩ : ∃ s, bl m = s := ⟨_, rfl⟩
  obtain ⟨hs0, hs2, hs3⟩ := bl_facts m s h0 hs
  have hs9 : s ≤ 64 * 9 := by rw [← hs]; exact bl_pwk m 9 hM
  obtain ⟨n, hn⟩ : ∃ n, n + 1 = (s + 63) / 64 := ⟨(s + 63) / 64 - 1, by omega⟩
  obtain ⟨u, hu⟩ : ∃ u, u = 64 * (n + 1) - s := ⟨_, rfl⟩
  have hd := dv_of m s n u hs0 hs9 hs2 hs3 hn hu
  obtain ⟨D, hD⟩ : ∃ D, m * 2 ^ u = D := ⟨_, rfl⟩
  rw [hD] at hd
  have hDM : D < M := Nat.lt_of_lt_of_le hd.lt (pw_le_M (n + 1) (by have := hd.n9; omega))
  have HB : Hid (∀ w, Calls Try.prog 59 #[.agg (nw 9 m)] w fun e w' => e = .returned (.int .i64 (s : Int)) ∧ Gr w w') := fun w => by
    have := bits_any m hM w
    rw [hs] at this
    exact this
  have HS : Hid (∀ w, Calls Try.prog 71 #[.agg (nw 9 m), .int .i64 (u : Int)] w fun e w' => e = .returned (.tuple #[.agg (nw 9 D), .int .i64 0]) ∧ Gr w w') := fun w => by
    have := shl_any m u (by have := hd.u64; omega) w
    rw [hD, Nat.mod_eq_of_lt hDM] at this
    exact this
  have s0 : (0 : Int) ≤ (s : Int) := by omega
  have s1 : (s : Int) ≤ 576 := by omega
  obtain ⟨p, hp⟩ : ∃ p, s + 63 = p := ⟨_, rfl⟩
  have s2 : (s : Int) + 64 - 1 = (p : Int) := by omega
  have s3 : (p : Int).tdiv 64 = (n : Int) + 1 := by rw [Int.tdiv_eq_ediv_of_nonneg (by omega)]; omega
  have s3' : (p : Int) / 64 = (n : Int) + 1 := by omega
  have s4 : ((n : Int) + 1) * 64 - (s : Int) = (u : Int) := by omega
  have n1 : (n : Int) < 9 := by have := hd.n9; omega
  have n0 : (0 : Int) ≤ (n : Int) := by omega
  have u1 : (u : Int) < 64 := by have := hd.u64; omega
  have HD : Hid (Dv m D n u) := hd
  refine ⟨D, n, u, hd, fun w => ?_⟩
  clear hp hd HD hDM hD hu hn hs9 hs0 hs h0 hM hs2 hs3
  go_enter Try.func55, Try.ntmps55
  go_wp2_with (first
    | (go_at_call 59; refine (HB.out _).mono ?_; rintro e w' ⟨rfl, g, rfl⟩)
    | (go_at_call 71; refine (HS.out _).mono ?_; rintro e w' ⟨rfl, g2, rfl⟩))
  refine bodyPost_ret (res_one Try.results55 (rd_dv (D := D) (k := n + 1) (u := u) (by rfl) ?_)) rfl ⟨rfl, (by repeat (first | exact Gr.refl _ | apply Gr.drewN | apply Gr.drew | apply Gr.alloc | apply Gr.gro))⟩
  simp [go_sem]

end Go.Proofs.Ytkmpholjlophpaa
namespace Go.Proofs.Ytkmpholjlophpaa
open Go.RowKit
attribute [local go_sem ↓] loadNat_is loadArr_is loadWide_is loadArrW_is storeNat_is storeWide_is
attribute [local go_sem] loadNat loadArr loadWide loadArrW storeNat storeWide idxArr fold9 fold18 nw_size nw_elem pre_self pre_1 pre_2 pre_3 pre_4 pre_5 pre_6 pre_7 pre_8 pre_9 pre_10 pre_11 pre_12 pre_13 pre_14 pre_15 pre_16 pre_17 pre_18 pre_19 pre_20 pre_21 pre_22 pre_23 pre_24 pre_25 pre_26 pre_27 pre_28 pre_29 pre_30 pre_31 pre_32 pre_33 pre_34 pre_35 pre_36 pre_37 pre_38 pre_39 pre_40 gro_size gro_drew gro_drewN drew_gro drewN_gro gro_gro blk_gro frz_gro blk_drew frz_drew blk_drewN frz_drewN blk_alloc_at frz_alloc_at blk_alloc frz_alloc cell_gro frozen_gro cell_alloc_pre frozen_alloc_pre setCell_drewN alloc_drewN setBlk_drew setBlk_drewN setBlk_alloc_at setBlk_alloc setBlk_gro setCell_gro setCell_alloc_pre size_setBlk size_setCell
attribute [local go_sem ↓] loadDv_is load19_is storeDv_is store19_is copy_is
attribute [local go_sem] idx18 loadDv load19 storeDv store19 dv_size dv_9 dv_10 dv_e9 dv_e10 dv_elem fold11 fold19 setCell_in cell_in frozen_in frz_setBlk blk_setBlk setBlk_setBlk copy_run cpA_nw ones_nw

attribute [local go_sem ↓] Go.wp_at_zero Go.wp_at_succ

theorem mul_pwj (a b k j : Nat) (h : j = k + k) (ha : a < pw k) (hb : b < pw k) : a * b < pw j := by
  subst h
  rw [pw_add]
  exact Nat.mul_lt_mul_of_lt_of_lt ha hb
theorem splitD (W m D n u : Nat) (hd : Dv m D n u) (hW : W < pw 18) (w : World) :
    Calls Try.prog 72 #[.agg (dv D (n + 1) u), .agg (nw 18 W)] w fun e w' => e = .returned (.tuple #[.agg (nw 18 (W / m)), .agg (nw 9 (W % m))]) ∧ Gr w w' := by
  refine (split_any W D n u w hW hd.u64 hd.n9 hd.lt hd.top hd.low).mono ?_
  rintro e w' ⟨Q, V, rfl, h1, h2, h3⟩
  obtain ⟨e1, e2⟩ := split_end W D (2 ^ u) Q V m hd.eq (Nat.two_pow_pos u) h1 h2
  exact ⟨by rw [e1, e2], h3⟩
set_option maxRecDepth 100000 in
set_option maxHeartbeats 400000 in
theorem restD (W m D n u : Nat) (hd : Dv m D n u) (hW : W < pw 18) (w : World) :
    Calls Try.prog 56 #[.agg (dv D (n + 1) u), .agg (nw 18 W)] w fun e w' => e = .returned (.agg (nw 9 (W % m))) ∧ Gr w w' := by
  have HS := fun w => splitD W m D n u hd hW w
  obtain ⟨Q, hQ⟩ : ∃ Q, W / m = Q := ⟨_, rfl⟩
  obtain ⟨R, hR⟩ : ∃ R, W % m = R := ⟨_, rfl⟩
  rw [hR]
  rw [hQ, hR] at HS
  have HS' : Hid (∀ w, Calls Try.prog 72 #[.agg (dv D (n + 1) u), .agg (nw 18 W)] w fun e w' => e = .returned (.tuple #[.agg (nw 18 Q), .agg (nw 9 R)]) ∧ Gr w w') := HS
  clear HS hQ hR hd hW
  go_enter Try.func56, Try.ntmps56
  go_wp2_with (go_at_call 72; refine (HS'.out _).mono ?_; rintro e w' ⟨rfl, g, rfl⟩)
  refine bodyPost_ret (res_one Try.results56 (rd_nat (x := R) (by rfl) ?_)) rfl ⟨rfl, (by repeat (first | exact Gr.refl _ | apply Gr.drewN | apply Gr.drew | apply Gr.alloc | apply Gr.gro))⟩
  simp [go_sem]

set_option maxRecDepth 100000 in
set_option maxHeartbeats 400000 in
theorem mod_zero (W : Nat) (w : World) :
    Calls Try.prog 65 #[.agg (nw 18 W), .agg (nw 9 0)] w fun e w' => e = .returned (.tuple #[.agg (nw 9 0), .int .i64 400]) ∧ Gr w w' := by
  have HZ : Hid (∀ w, Calls Try.prog 54 #[.agg (nw 9 0)] w fun e w' => e = .returned (.bool true) ∧ Gr w w') := fun w => isZero_any 0 M_pos w
  go_enter Try.func65, Try.ntmps65
  go_wp2_with (go_at_call 54; refine (HZ.out _).mono ?_; rintro e w' ⟨rfl, g, rfl⟩)
  refine bodyPost_ret (res_two Try.results65 (rd_nat (x := 0) (by rfl) ?_) (rd_tmp (by rfl))) rfl ⟨rfl, (by repeat (first | exact Gr.refl _ | apply Gr.drewN | apply Gr.drew | apply Gr.alloc | apply Gr.gro))⟩
  simp [go_sem]

theorem notZero (m : Nat) (h0 : 0 < m) (hM : m < M) (w : World) : Calls Try.prog 54 #[.agg (nw 9 m)] w fun e w' => e = .returned (.bool false) ∧ Gr w w' := by
  have := isZero_any m hM w
  rw [decide_eq_false (by omega)] at this
  exact this
set_option maxRecDepth 100000 in
set_option maxHeartbeats 800000 in
theorem mod_any (W m : Nat) (h0 : 0 < m) (hM : m < M) (hW : W < pw 18) (w : World) :
    Calls Try.prog 65 #[.agg (nw 18 W), .agg (nw 9 m)] w fun e w' => e = .returned (.tuple #[.agg (nw 9 (W % m)), .int .i64 0]) ∧ Gr w w' := by
  have HZ : Hid (∀ w, Calls Try.prog 54 #[.agg (nw 9 m)] w fun e w' => e = .returned (.bool false) ∧ Gr w w') := fun w => notZero m h0 hM w
  obtain ⟨D, n, u, hd, hD⟩ := divisorOf_any m h0 hM
  have HD : Hid (∀ w, Calls Try.prog 55 #[.agg (nw 9 m)] w fun e w' => e = .returned (.agg (dv D (n + 1) u)) ∧ Gr w w') := hD
  have hr := fun w => restD W m D n u hd hW w
  obtain ⟨R, hR⟩ : ∃ R, W % m = R := ⟨_, rfl⟩
  rw [hR]
  rw [hR] at hr
  have HR : Hid (∀ w, Calls Try.prog 56 #[.agg (dv D (n + 1) u), .agg (nw 18 W)] w fun e w' => e = .returned (.agg (nw 9 R)) ∧ Gr w w') := hr
  clear hr hR h0 hM hW hd hD
  go_enter Try.func65, Try.ntmps65
  go_wp2_with (go_at_call 54; refine (HZ.out _).mono ?_; rintro e w' ⟨rfl, g, rfl⟩)
  go_region_with (first
    | (go_at_call 55; refine (HD.out _).mono ?_; rintro e w' ⟨rfl, g1, rfl⟩)
    | (go_at_call 56; refine (HR.out _).mono ?_; rintro e w' ⟨rfl, g2, rfl⟩))
  all_goals
    go_wp2_with fail
    refine bodyPost_ret (res_two Try.results65 (rd_nat (x := R) (by rfl) ?_) (rd_tmp (by rfl))) rfl ⟨rfl, (by repeat (first | exact Gr.refl _ | apply Gr.drewN | apply Gr.drew | apply Gr.alloc | apply Gr.gro))⟩
    simp [go_sem]

theorem mul_lt18 (a b : Nat) (ha : a < M) (hb : b < M) : a * b < pw 18 := mul_pwj a b 9 18 rfl ha hb
theorem lt18 (a : Nat) (ha : a < M) : a < pw 18 := Nat.lt_of_lt_of_le ha (pw_up 9 18 (by decide))
theorem div_lt (a m : Nat) (ha : a < M) : a / m < M := Nat.lt_of_le_of_lt (Nat.div_le_self a m) ha

end Go.Proofs.Ytkmpholjlophpaa
namespace Go.Proofs.Ytkmpholjlophpaa
open Go.RowKit
attribute [local go_sem ↓] loadNat_is loadArr_is loadWide_is loadArrW_is storeNat_is storeWide_is
attribute [local go_sem] loadNat loadArr loadWide loadArrW storeNat storeWide idxArr fold9 fold18 nw_size nw_elem pre_self pre_1 pre_2 pre_3 pre_4 pre_5 pre_6 pre_7 pre_8 pre_9 pre_10 pre_11 pre_12 pre_13 pre_14 pre_15 pre_16 pre_17 pre_18 pre_19 pre_20 pre_21 pre_22 pre_23 pre_24 pre_25 pre_26 pre_27 pre_28 pre_29 pre_30 pre_31 pre_32 pre_33 pre_34 pre_35 pre_36 pre_37 pre_38 pre_39 pre_40 gro_size gro_drew gro_drewN drew_gro drewN_gro gro_gro blk_gro frz_gro blk_drew frz_drew blk_drewN frz_drewN blk_alloc_at frz_alloc_at blk_alloc frz_alloc cell_gro frozen_gro cell_alloc_pre frozen_alloc_pre setCell_drewN alloc_drewN setBlk_drew setBlk_drewN setBlk_alloc_at setBlk_alloc setBlk_gro setCell_gro setCell_alloc_pre size_setBlk size_setCell
attribute [local go_sem ↓] loadDv_is load19_is storeDv_is store19_is copy_is
attribute [local go_sem] idx18 loadDv load19 storeDv store19 dv_size dv_9 dv_10 dv_e9 dv_e10 dv_elem fold11 fold19 setCell_in cell_in frozen_in frz_setBlk blk_setBlk setBlk_setBlk copy_run cpA_nw ones_nw

attribute [local go_sem ↓] Go.wp_at_zero Go.wp_at_succ
attribute [local go_sem] blk_other
theorem Gr.frz0 {w v : World} (h : Gr w v) (b : Nat) (hb : b < w.heap.size) (hf : Go.Proofs.Ytkmpholjlophpaa.frz w b = (0, 0)) : Go.Proofs.Ytkmpholjlophpaa.frz v b = (0, 0) := by rw [h.frz b hb]; exact hf
end Go.Proofs.Ytkmpholjlophpaa
