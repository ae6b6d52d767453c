/-
  A field's modulus: add, sub, reduce, mul, power: what they hand back.
-/
/-
  A field's modulus: split, squared: what they hand back.
-/
import Derived.Test.YtkmpholjlophpaaZFInst
import Derived.Test.YtkmpholjlophpaaZDP
import Derived.Test.YtkmpholjlophpaaZAdd
import Derived.Test.YtkmpholjlophpaaZMixG
namespace Go.Proofs.Ytkmpholjlophpaa
open Go.RowKit
attribute [local go_sem ↓] loadNat_is loadArr_is loadWide_is loadArrW_is storeNat_is storeWide_is
attribute [local go_sem] loadNat loadArr loadWide loadArrW storeNat storeWide idxArr fold9 fold18 nw_size nw_elem pre_self pre_1 pre_2 pre_3 pre_4 pre_5 pre_6 pre_7 pre_8 pre_9 pre_10 pre_11 pre_12 pre_13 pre_14 pre_15 pre_16 pre_17 pre_18 pre_19 pre_20 pre_21 pre_22 pre_23 pre_24 pre_25 pre_26 pre_27 pre_28 pre_29 pre_30 pre_31 pre_32 pre_33 pre_34 pre_35 pre_36 pre_37 pre_38 pre_39 pre_40 gro_size gro_drew gro_drewN drew_gro drewN_gro gro_gro blk_gro frz_gro blk_drew frz_drew blk_drewN frz_drewN blk_alloc_at frz_alloc_at blk_alloc frz_alloc cell_gro frozen_gro cell_alloc_pre frozen_alloc_pre setCell_drewN alloc_drewN setBlk_drew setBlk_drewN setBlk_alloc_at setBlk_alloc setBlk_gro setCell_gro setCell_alloc_pre size_setBlk size_setCell
attribute [local go_sem ↓] loadDv_is load19_is storeDv_is store19_is copy_is
attribute [local go_sem] idx18 loadDv load19 storeDv store19 dv_size dv_9 dv_10 dv_e9 dv_e10 dv_elem fold11 fold19 setCell_in cell_in frozen_in frz_setBlk blk_setBlk setBlk_setBlk copy_run cpA_nw ones_nw

attribute [local go_sem ↓] loadMd_is storeMd_is buildMd_is Go.wp_at_zero Go.wp_at_succ
attribute [local go_sem] loadMd storeMd buildMd0 buildMd1

set_option maxRecDepth 100000 in
set_option maxHeartbeats 800000 in
theorem fadd_any (m a b : Nat) (ha : a < m) (hb : b < m) (hm : m + m ≤ M) (w : World) :
    Calls Try.prog 77 #[.agg (nw 9 m), .agg (nw 9 a), .agg (nw 9 b)] w fun e w' => e = .returned (.agg (nw 9 ((a + b) % m))) ∧ Gr w w' := by
  obtain ⟨S, hS⟩ : ∃ S, a + b = S := ⟨_, rfl⟩
  have hSM : S < M := by omega
  have HA : Hid (∀ w, Calls Try.prog 87 #[.agg (nw 9 a), .agg (nw 9 b)] w fun e w' => e = .returned (.tuple #[.agg (nw 9 S), .bool false]) ∧ Gr w w') := fun w => by
    have := add_any a b (by omega) (by omega) w
    rw [hS, Nat.mod_eq_of_lt hSM, decide_eq_false (by omega)] at this
    exact this
  obtain ⟨D, hD⟩ : ∃ D, (S + M - m) % M = D := ⟨_, rfl⟩
  have HS := fun w => sub_any S m hSM (by omega) w
  by_cases hl : S < m
  · rw [hD, decide_eq_true hl] at HS
    have HS' : Hid (∀ w, Calls Try.prog 35 #[.agg (nw 9 S), .agg (nw 9 m)] w fun e w' => e = .returned (.tuple #[.agg (nw 9 D), .bool true]) ∧ Gr w w') := HS
    have e : (a + b) % m = S := by rw [hS]; exact Nat.mod_eq_of_lt hl
    rw [e]
    clear e hl hD hSM hS HS ha hb hm
    go_enter Try.func77, Try.ntmps77
    go_wp2_with (first
      | (go_at_call 87; refine (HA.out _).mono ?_; rintro e w' ⟨rfl, g, rfl⟩)
      | (go_at_call 35; refine (HS'.out _).mono ?_; rintro e w' ⟨rfl, g2, rfl⟩))
    refine bodyPost_ret (res_one Try.results77 (rd_nat (x := S) (by rfl) ?_)) rfl ⟨rfl, (by repeat (first | exact Gr.refl _ | apply Gr.drewN | apply Gr.drew | apply Gr.alloc | apply Gr.gro))⟩
    simp [go_sem]
  · rw [hD, decide_eq_false hl] at HS
    have HS' : Hid (∀ w, Calls Try.prog 35 #[.agg (nw 9 S), .agg (nw 9 m)] w fun e w' => e = .returned (.tuple #[.agg (nw 9 D), .bool false]) ∧ Gr w w') := HS
    have e : (a + b) % m = D := by
      rw [hS, ← hD, show S + M - m = (S - m) + M by omega, Nat.add_mod_right, Nat.mod_eq_of_lt (show S - m < M by omega), Nat.mod_eq_sub_mod (by omega), Nat.mod_eq_of_lt (by omega)]
    rw [e]
    clear e hl hD hSM hS HS ha hb hm
    go_enter Try.func77, Try.ntmps77
    go_wp2_with (first
      | (go_at_call 87; refine (HA.out _).mono ?_; rintro e w' ⟨rfl, g, rfl⟩)
      | (go_at_call 35; refine (HS'.out _).mono ?_; rintro e w' ⟨rfl, g2, rfl⟩))
    refine bodyPost_ret (res_one Try.results77 (rd_nat (x := D) (by rfl) ?_)) rfl ⟨rfl, (by repeat (first | exact Gr.refl _ | apply Gr.drewN | apply Gr.drew | apply Gr.alloc | apply Gr.gro))⟩
    simp [go_sem]

set_option maxRecDepth 100000 in
set_option maxHeartbeats 800000 in
theorem fsub_any (m a b : Nat) (ha : a < m) (hb : b < m) (hm : m + m ≤ M) (w : World) :
    Calls Try.prog 78 #[.agg (nw 9 m), .agg (nw 9 a), .agg (nw 9 b)] w fun e w' => e = .returned (.agg (nw 9 ((a + m - b) % m))) ∧ Gr w w' := by
  obtain ⟨D, hD⟩ : ∃ D, (a + M - b) % M = D := ⟨_, rfl⟩
  have hDM : D < M := by rw [← hD]; exact Nat.mod_lt _ M_pos
  have HS := fun w => sub_any a b (by omega) (by omega) w
  by_cases hl : a < b
  · rw [hD, decide_eq_true hl] at HS
    have HS' : Hid (∀ w, Calls Try.prog 35 #[.agg (nw 9 a), .agg (nw 9 b)] w fun e w' => e = .returned (.tuple #[.agg (nw 9 D), .bool true]) ∧ Gr w w') := HS
    obtain ⟨E, hE⟩ : ∃ E, (D + m) % M = E := ⟨_, rfl⟩
    obtain ⟨β, hβ⟩ : ∃ β, decide (M ≤ D + m) = β := ⟨_, rfl⟩
    have HA : Hid (∀ w, Calls Try.prog 87 #[.agg (nw 9 D), .agg (nw 9 m)] w fun e w' => e = .returned (.tuple #[.agg (nw 9 E), .bool β]) ∧ Gr w w') := fun w => by
      have := add_any D m hDM (by omega) w
      rw [hE, hβ] at this
      exact this
    have e : (a + m - b) % m = E := by
      rw [Nat.mod_eq_of_lt (show a + M - b < M by omega)] at hD
      rw [← hE, ← hD, show a + M - b + m = (a + m - b) + M by omega, Nat.add_mod_right, Nat.mod_eq_of_lt (show a + m - b < m by omega), Nat.mod_eq_of_lt (show a + m - b < M by omega)]
    rw [e]
    clear e hl hD hDM hE hβ HS ha hb hm
    go_enter Try.func78, Try.ntmps78
    go_wp2_with (first
      | (go_at_call 87; refine (HA.out _).mono ?_; rintro e w' ⟨rfl, g, rfl⟩)
      | (go_at_call 35; refine (HS'.out _).mono ?_; rintro e w' ⟨rfl, g2, rfl⟩))
    refine bodyPost_ret (res_one Try.results78 (rd_nat (x := E) (by rfl) ?_)) rfl ⟨rfl, (by repeat (first | exact Gr.refl _ | apply Gr.drewN | apply Gr.drew | apply Gr.alloc | apply Gr.gro))⟩
    simp [go_sem]
  · rw [hD, decide_eq_false hl] at HS
    have HS' : Hid (∀ w, Calls Try.prog 35 #[.agg (nw 9 a), .agg (nw 9 b)] w fun e w' => e = .returned (.tuple #[.agg (nw 9 D), .bool false]) ∧ Gr w w') := HS
    have e : (a + m - b) % m = D := by
      rw [← hD, show a + M - b = (a - b) + M by omega, Nat.add_mod_right, show a + m - b = (a - b) + m by omega, Nat.add_mod_right, Nat.mod_eq_of_lt (show a - b < m by omega), Nat.mod_eq_of_lt (show a - b < M by omega)]
    rw [e]
    clear e hl hD hDM HS ha hb hm
    go_enter Try.func78, Try.ntmps78
    go_wp2_with (go_at_call 35; refine (HS'.out _).mono ?_; rintro e w' ⟨rfl, g2, rfl⟩)
    refine bodyPost_ret (res_one Try.results78 (rd_nat (x := D) (by rfl) ?_)) rfl ⟨rfl, (by repeat (first | exact Gr.refl _ | apply Gr.drewN | apply Gr.drew | apply Gr.alloc | apply Gr.gro))⟩
    simp [go_sem]

set_option maxRecDepth 100000 in
set_option maxHeartbeats 800000 in
theorem fred_any (m W : Nat) (h0 : 0 < m) (hM : m < M) (hW : W < pw 18) (w : World) :
    Calls Try.prog 43 #[.agg (nw 9 m), .agg (nw 18 W)] w fun e w' => e = .returned (.agg (nw 9 (W % m))) ∧ Gr w w' := by
  have HM := fun w => mod_any W m h0 hM hW w
  obtain ⟨R, hR⟩ : ∃ R, W % m = R := ⟨_, rfl⟩
  rw [hR] at HM ⊢
  have HM' : Hid (∀ w, Calls Try.prog 65 #[.agg (nw 18 W), .agg (nw 9 m)] w fun e w' => e = .returned (.tuple #[.agg (nw 9 R), .int .i64 0]) ∧ Gr w w') := HM
  clear HM hR h0 hM hW
  go_enter Try.func43, Try.ntmps43
  go_wp2_with (go_at_call 65; refine (HM'.out _).mono ?_; rintro e w' ⟨rfl, g2, rfl⟩)
  refine bodyPost_ret (res_one Try.results43 (rd_nat (x := R) (by rfl) ?_)) rfl ⟨rfl, (by repeat (first | exact Gr.refl _ | apply Gr.drewN | apply Gr.drew | apply Gr.alloc | apply Gr.gro))⟩
  simp [go_sem]

set_option maxRecDepth 100000 in
set_option maxHeartbeats 800000 in
theorem fpow_any (m a e : Nat) (h0 : 0 < m) (hM : m < M) (ha : a < M) (he : e < M) (w : World) :
    Calls Try.prog 95 #[.agg (nw 9 m), .agg (nw 9 a), .agg (nw 9 e)] w fun f w' => f = .returned (.agg (nw 9 (a ^ e % m))) ∧ Gr w w' := by
  have HM := fun w => pow_any a e m ha he h0 hM w
  obtain ⟨R, hR⟩ : ∃ R, a ^ e % m = R := ⟨_, rfl⟩
  rw [hR] at HM ⊢
  have HM' : Hid (∀ w, Calls Try.prog 36 #[.agg (nw 9 a), .agg (nw 9 e), .agg (nw 9 m)] w fun e w' => e = .returned (.tuple #[.agg (nw 9 R), .int .i64 0]) ∧ Gr w w') := HM
  clear HM hR h0 hM ha he
  go_enter Try.func95, Try.ntmps95
  go_wp2_with (go_at_call 36; refine (HM'.out _).mono ?_; rintro e w' ⟨rfl, g2, rfl⟩)
  refine bodyPost_ret (res_one Try.results95 (rd_nat (x := R) (by rfl) ?_)) rfl ⟨rfl, (by repeat (first | exact Gr.refl _ | apply Gr.drewN | apply Gr.drew | apply Gr.alloc | apply Gr.gro))⟩
  simp [go_sem]

set_option maxRecDepth 100000 in
set_option maxHeartbeats 800000 in
theorem fmul_any (m a b : Nat) (h0 : 0 < m) (hM : m < M) (ha : a < M) (hb : b < M) (w : World) :
    Calls Try.prog 79 #[.agg (nw 9 m), .agg (nw 9 a), .agg (nw 9 b)] w fun e w' => e = .returned (.agg (nw 9 (a * b % m))) ∧ Gr w w' := by
  have HR := fun w => fred_any m (a * b) h0 hM (mul_pwj a b 9 18 rfl ha hb) w
  have HU := fun w => mul_any a b ha hb w
  obtain ⟨R, hR⟩ : ∃ R, a * b % m = R := ⟨_, rfl⟩
  obtain ⟨X, hX⟩ : ∃ X, a * b = X := ⟨_, rfl⟩
  rw [hR] at HR ⊢
  rw [hX] at HR HU
  have HR' : Hid (∀ w, Calls Try.prog 43 #[.agg (nw 9 m), .agg (nw 18 X)] w fun e w' => e = .returned (.agg (nw 9 R)) ∧ Gr w w') := HR
  have HU' : Hid (∀ w, Calls Try.prog 37 #[.agg (nw 9 a), .agg (nw 9 b)] w fun e w' => e = .returned (.agg (nw 18 X)) ∧ Gr w w') := HU
  clear HR HU hR hX h0 hM ha hb
  go_enter Try.func79, Try.ntmps79
  go_wp2_with fail
  go_region_with (first
    | (go_at_call 37; refine (HU'.out _).mono ?_; rintro e w' ⟨rfl, g, rfl⟩)
    | (go_at_call 43; refine (HR'.out _).mono ?_; rintro e w' ⟨rfl, g2, rfl⟩))
  all_goals
    go_wp2_with fail
    refine bodyPost_ret (res_one Try.results79 (rd_nat (x := R) (by rfl) ?_)) rfl ⟨rfl, (by repeat (first | exact Gr.refl _ | apply Gr.drewN | apply Gr.drew | apply Gr.alloc | apply Gr.gro))⟩
    simp [go_sem]

end Go.Proofs.Ytkmpholjlophpaa
namespace Go.Proofs.Ytkmpholjlophpaa
open Go.RowKit
attribute [local go_sem ↓] loadNat_is loadArr_is loadWide_is loadArrW_is storeNat_is storeWide_is
attribute [local go_sem] loadNat loadArr loadWide loadArrW storeNat storeWide idxArr fold9 fold18 nw_size nw_elem pre_self pre_1 pre_2 pre_3 pre_4 pre_5 pre_6 pre_7 pre_8 pre_9 pre_10 pre_11 pre_12 pre_13 pre_14 pre_15 pre_16 pre_17 pre_18 pre_19 pre_20 pre_21 pre_22 pre_23 pre_24 pre_25 pre_26 pre_27 pre_28 pre_29 pre_30 pre_31 pre_32 pre_33 pre_34 pre_35 pre_36 pre_37 pre_38 pre_39 pre_40 gro_size gro_drew gro_drewN drew_gro drewN_gro gro_gro blk_gro frz_gro blk_drew frz_drew blk_drewN frz_drewN blk_alloc_at frz_alloc_at blk_alloc frz_alloc cell_gro frozen_gro cell_alloc_pre frozen_alloc_pre setCell_drewN alloc_drewN setBlk_drew setBlk_drewN setBlk_alloc_at setBlk_alloc setBlk_gro setCell_gro setCell_alloc_pre size_setBlk size_setCell
attribute [local go_sem ↓] loadDv_is load19_is storeDv_is store19_is copy_is
attribute [local go_sem] idx18 loadDv load19 storeDv store19 dv_size dv_9 dv_10 dv_e9 dv_e10 dv_elem fold11 fold19 setCell_in cell_in frozen_in frz_setBlk blk_setBlk setBlk_setBlk copy_run cpA_nw ones_nw

attribute [local go_sem ↓] loadMd_is storeMd_is buildMd_is Go.wp_at_zero Go.wp_at_succ
attribute [local go_sem] loadMd storeMd buildMd0 buildMd1 blk_other

/-- From here on the world is any one of which that much is known. -/
theorem gen_w {P : Program} {c : Code} {Q : Exit → Act → World → Prop} {a : Act} {W : World} (R : World → Prop) (h : R W) (k : ∀ v, R v → c.wp P Q a v) : c.wp P Q a W := k W h
/-- A variable that holds a number. -/
structure Cl (v : World) (b x : Nat) : Prop where
  h : blk v b = nw 9 x
  f : frz v b = (0, 0)
  p : Pre (b + 1) v.heap.size
theorem Cl.gr {v v' : World} {b x : Nat} (h : Cl v b x) (k : Gr v v') : Cl v' b x :=
  ⟨by rw [k.blk _ h.p]; exact h.h, by rw [k.frz _ h.p]; exact h.f, Nat.le_trans h.p k.below.size⟩
theorem Cl.set {v : World} {b x : Nat} (h : Cl v b x) (y : Nat) : Cl (setBlk v b (nw 9 y)) b y :=
  ⟨blk_setBlk _ _ _ (by rw [h.h, nw_size]; decide), by rw [frz_setBlk]; exact h.f, by rw [size_setBlk]; exact h.p⟩
theorem Cl.other {v : World} {b c x : Nat} {d : Array Value} (h : Cl v c x) (n : b ≠ c) : Cl (setBlk v b d) c x :=
  ⟨by rw [blk_other _ _ _ _ n]; exact h.h, by rw [frz_setBlk]; exact h.f, by rw [size_setBlk]; exact h.p⟩

theorem sq_step (a j m : Nat) (h : a ^ (2 ^ j) % m * (a ^ (2 ^ j) % m) % m = a ^ (2 ^ j) * a ^ (2 ^ j) % m) : a ^ (2 ^ j) % m * (a ^ (2 ^ j) % m) % m = a ^ (2 ^ (j + 1)) % m := by
  rw [h, ← Nat.pow_add, show 2 ^ j + 2 ^ j = 2 ^ (j + 1) by rw [Nat.pow_succ]; omega]
set_option maxRecDepth 100000 in
set_option maxHeartbeats 800000 in
theorem fsquared_any (m a k : Nat) (ha : a < m) (hM : m < M) (hk : k < 1000) (w : World) :
    Calls Try.prog 97 #[.agg (nw 9 m), .agg (nw 9 a), .int .i64 (k : Int)] w fun e w' => e = .returned (.agg (nw 9 (a ^ (2 ^ k) % m))) ∧ Gr w w' := by
  have HM : Hid (∀ x y, x < m → y < m → ∀ w, Calls Try.prog 79 #[.agg (nw 9 m), .agg (nw 9 x), .agg (nw 9 y)] w fun e w' => e = .returned (.agg (nw 9 (x * y % m))) ∧ Gr w w') := fun x y hx hy w => fmul_any m x y (by omega) hM (by omega) (by omega) w
  have H0 : Hid (Unit → a ^ (2 ^ 0) % m = a) := fun _ => by rw [Nat.pow_zero, Nat.pow_one]; exact Nat.mod_eq_of_lt ha
  have Hm : Hid (Unit → 0 < m) := fun _ => by omega
  have k0 : (0 : Int) ≤ (k : Int) := by omega
  have k1 : (k : Int) < 1000 := by omega
  clear ha hM hk
  go_enter Try.func97, Try.ntmps97
  go_wp2_with fail
  go_loopw [8] (fun i wr => ∃ (j x : Nat), i = .int .i64 (j : Int) ∧ Hid (Unit → j ≤ k ∧ a ^ (2 ^ j) % m = x) ∧ Hid (Gr w wr ∧ Cl wr w.heap.size m ∧ Cl wr (w.heap.size + 1) x ∧ Cl wr (w.heap.size + 1 + 1) 0)) (fun i _ => ((k : Int) - intOf i).toNat)
  case atStart =>
    refine ⟨0, a, rfl, fun _ => ⟨Nat.zero_le _, H0.out ()⟩, ?_⟩
    refine ⟨(by repeat (first | exact Gr.refl _ | apply Gr.drewN | apply Gr.drew | apply Gr.alloc | apply Gr.gro)), ⟨by simp [go_sem], by simp [go_sem], by simp [go_sem]⟩, ⟨by simp [go_sem], by simp [go_sem], by simp [go_sem]⟩, ⟨by simp [go_sem], by simp [go_sem], by simp [go_sem]⟩⟩
  case round =>
    obtain ⟨j, x, rfl, HJ, HC⟩ := hrel
    obtain ⟨-, ⟨h1, f1, p1⟩, ⟨h2, f2, p2⟩, ⟨h3, f3, p3⟩⟩ := HC.out
    by_cases hj : j < k
    · have hx : x < m := by rw [← (HJ.out ()).2]; exact Nat.mod_lt _ (Hm.out ())
      obtain ⟨y, hy⟩ : ∃ y, x * x % m = y := ⟨_, rfl⟩
      have HY : Hid (Unit → j + 1 ≤ k ∧ a ^ (2 ^ (j + 1)) % m = y) := fun _ => ⟨hj, by rw [← hy, ← (HJ.out ()).2, ← sq_step a j m (Nat.mul_mod _ _ _).symm]⟩
      have C1 : Hid (∀ w, Calls Try.prog 79 #[.agg (nw 9 m), .agg (nw 9 x), .agg (nw 9 x)] w fun e w' => e = .returned (.agg (nw 9 y)) ∧ Gr w w') := fun w => hy ▸ HM.out x x hx hx w
      have j1 : (j : Int) < (k : Int) := by omega
      clear hx hy hj
      go_wp2_with (go_at_call 79; refine (C1.out _).mono ?_; rintro e w' ⟨rfl, g, rfl⟩)
      go_roundw
      case rel =>
        refine ⟨j + 1, y, by go_num, HY, ?_⟩
        obtain ⟨G, c1, c2, c3⟩ := HC.out
        refine ⟨?_, (c1.other (by omega)).gr ⟨_, rfl⟩, (c2.set y).gr ⟨_, rfl⟩, (c3.other (by omega)).gr ⟨_, rfl⟩⟩
        repeat (first | exact G | apply Gr.drewN | apply Gr.drew | apply Gr.alloc | apply Gr.gro | (refine gr_setNew ?_ (by omega)))
      case measure => simp [intOf]; omega
    · have hk : j = k := by have := (HJ.out ()).1; omega
      subst hk
      have HF : Hid (Unit → a ^ (2 ^ j) % m = x) := fun _ => (HJ.out ()).2
      clear hj
      go_wp2_with fail
      refine bodyPost_ret (res_one Try.results97 (rd_nat (x := x) (by rfl) ?_)) rfl ⟨by rw [HF.out ()], ?_⟩
      · simp [go_sem, *]
      · have hg := HC.out.1
        repeat (first | exact hg | apply Gr.drewN | apply Gr.drew | apply Gr.alloc | apply Gr.gro | (refine gr_setNew ?_ (by omega)))

set_option maxRecDepth 100000 in
set_option maxHeartbeats 800000 in
/-- P less 1 is q times 2^s. -/
theorem fsplit_any (m q s : Nat) (hq : q % 2 = 1) (hm : m = q * 2 ^ s + 1) (hs : s < 576) (hM : m < M) (w : World) :
    Calls Try.prog 94 #[.agg (nw 9 m)] w fun e w' => e = .returned (.tuple #[.agg (nw 9 q), .int .i64 (s : Int)]) ∧ Gr w w' := by
  obtain ⟨O, hO⟩ : ∃ O, q * 2 ^ s = O := ⟨_, rfl⟩
  have HO : Hid (∀ w, Calls Try.prog 58 #[.int .i64 1] w fun e w' => e = .returned (.agg (nw 9 1)) ∧ Gr w w') := fun w => small_any 1 (by decide) w
  have HS : Hid (∀ w, Calls Try.prog 35 #[.agg (nw 9 m), .agg (nw 9 1)] w fun e w' => e = .returned (.tuple #[.agg (nw 9 O), .bool false]) ∧ Gr w w') := fun w => by
    have := sub_any m 1 hM (lt_M 1 (by decide)) w
    rw [show m + M - 1 = O + M by omega, Nat.add_mod_right, Nat.mod_eq_of_lt (show O < M by omega), decide_eq_false (by omega)] at this
    exact this
  have HB : Hid (∀ x, ∀ w, Calls Try.prog 60 #[.agg (nw 9 x), .int .i64 0] w fun e w' => e = .returned (.int .i64 ((x % 2 : Nat) : Int)) ∧ Gr w w') := fun x w => by
    have := bit_any x 0 (by decide) w
    unfold bitN at this
    rw [Nat.pow_zero, Nat.div_one] at this
    exact this
  have HR : Hid (∀ x, x < M → ∀ w, Calls Try.prog 86 #[.agg (nw 9 x), .int .i64 1] w fun e w' => e = .returned (.tuple #[.agg (nw 9 (x / 2)), .int .i64 0]) ∧ Gr w w') := fun x hx w => shr_any x 1 hx (by decide) w
  have HQ : Hid (Unit → q % 2 = 1 ∧ O < M ∧ s < 576 ∧ q * 2 ^ s = O) := fun _ => ⟨hq, by omega, hs, hO⟩
  clear hq hm hs hM hO
  go_enter Try.func94, Try.ntmps94
  go_upto_region 1 with fail
  go_cut [4, 5] from 7 to 13 (fun a4 _ wx => ∃ b, a4 = .pointer (some ⟨b, 0, none⟩) ∧ Hid (Gr w wx ∧ w.heap.size + 1 + 1 ≤ b ∧ Cl wx b O ∧ Cl wx (w.heap.size + 1) 0))
  case first =>
    go_region_with (first
      | (go_at_call 58; refine (HO.out _).mono ?_; rintro e w' ⟨rfl, g, rfl⟩)
      | (go_at_call 35; refine (HS.out _).mono ?_; rintro e w' ⟨rfl, g2, rfl⟩))
    all_goals
      go_wp2_with fail
      go_meet
      refine ⟨_, rfl, (by repeat (first | exact Gr.refl _ | apply Gr.drewN | apply Gr.drew | apply Gr.alloc | apply Gr.gro)), by simp [go_sem] <;> omega, ⟨by simp [go_sem], by simp [go_sem], by simp [go_sem]⟩, ⟨by simp [go_sem], by simp [go_sem], by simp [go_sem]⟩⟩
  case rest =>
    obtain ⟨b, rfl, HC⟩ := hcut
    clear HO HS
    have hb := HC.out.2.1
    go_wp2_with fail
    go_loopw [6] (fun i wr => ∃ (j x : Nat), i = .int .i64 (j : Int) ∧ Hid (Unit → j ≤ s ∧ q * 2 ^ (s - j) = x) ∧ Hid (Gr w wr ∧ Cl wr b x ∧ Cl wr (w.heap.size + 1) 0)) (fun i _ => ((s : Int) - intOf i).toNat)
    case atStart => exact ⟨0, O, rfl, fun _ => ⟨Nat.zero_le _, (HQ.out ()).2.2.2⟩, HC.out.1, HC.out.2.2.1, HC.out.2.2.2⟩
    case round =>
      clear HC
      obtain ⟨j, x, rfl, HJ, HC⟩ := hrel
      obtain ⟨-, ⟨h1, f1, p1⟩, ⟨h2, f2, p2⟩⟩ := HC.out
      have hs : s < 576 := (HQ.out ()).2.2.1
      have hbn : ¬ b = w.heap.size + 1 := by omega
      by_cases hj : j < s
      · have e2 : q * 2 ^ (s - j) = (q * 2 ^ (s - (j + 1))) * 2 := by
          rw [show s - j = s - (j + 1) + 1 by omega, Nat.pow_succ, Nat.mul_assoc]
        have hx2 : x % 2 = 0 := by rw [← (HJ.out ()).2, e2]; omega
        have hxM : x < M := by
          have h3 := (HQ.out ()).2.1
          have h4 := (HQ.out ()).2.2.2
          refine Nat.lt_of_le_of_lt ?_ h3
          rw [← (HJ.out ()).2, ← h4]
          exact Nat.mul_le_mul_left q (Nat.pow_le_pow_right (by decide) (by omega))
        obtain ⟨y, hy⟩ : ∃ y, x / 2 = y := ⟨_, rfl⟩
        have HY : Hid (Unit → j + 1 ≤ s ∧ q * 2 ^ (s - (j + 1)) = y) := fun _ => ⟨hj, by have := (HJ.out ()).2; omega⟩
        have C1 : Hid (∀ w, Calls Try.prog 60 #[.agg (nw 9 x), .int .i64 0] w fun e w' => e = .returned (.int .i64 0) ∧ Gr w w') := fun w => by
          have := HB.out x w
          rw [hx2] at this
          exact this
        have C2 : Hid (∀ w, Calls Try.prog 86 #[.agg (nw 9 x), .int .i64 1] w fun e w' => e = .returned (.tuple #[.agg (nw 9 y), .int .i64 0]) ∧ Gr w w') := fun w => hy ▸ HR.out x hxM w
        have j1 : (j : Int) < 576 := by omega
        have j0 : (0 : Int) ≤ (j : Int) := by omega
        have j2 : (j : Int) < (s : Int) := by omega
        clear e2 hx2 hxM hy hj hs
        go_wp2_with (first
          | (go_at_call 60; refine (C1.out _).mono ?_; rintro e w' ⟨rfl, g, rfl⟩)
          | (go_at_call 86; refine (C2.out _).mono ?_; rintro e w' ⟨rfl, g2, rfl⟩))
        go_roundw
        case rel =>
          refine ⟨j + 1, y, by go_num, HY, ?_⟩
          obtain ⟨G, c1, c2⟩ := HC.out
          refine ⟨?_, (c1.set y).gr ⟨_, rfl⟩, (c2.other hbn).gr ⟨_, rfl⟩⟩
          repeat (first | exact G | apply Gr.drewN | apply Gr.drew | apply Gr.alloc | apply Gr.gro | (refine gr_setNew ?_ (by omega)))
        case measure => simp [intOf]; omega
      · have hk : j = s := by have := (HJ.out ()).1; omega
        subst hk
        have hxq : q = x := by have := (HJ.out ()).2; rw [Nat.sub_self, Nat.pow_zero, Nat.mul_one] at this; exact this
        subst hxq
        have C1 : Hid (∀ w, Calls Try.prog 60 #[.agg (nw 9 q), .int .i64 0] w fun e w' => e = .returned (.int .i64 1) ∧ Gr w w') := fun w => by
          have := HB.out q w
          rw [(HQ.out ()).1] at this
          exact this
        clear hj hs
        go_wp2_with (go_at_call 60; refine (C1.out _).mono ?_; rintro e w' ⟨rfl, g, rfl⟩)
        refine bodyPost_ret (res_two Try.results94 (rd_nat (x := q) (by rfl) ?_) (rd_tmp (by rfl))) rfl ⟨rfl, ?_⟩
        · simp [go_sem, *]
        · have hg := HC.out.1
          repeat (first | exact hg | apply Gr.drewN | apply Gr.drew | apply Gr.alloc | apply Gr.gro | (refine gr_setNew ?_ (by omega)))

end Go.Proofs.Ytkmpholjlophpaa
