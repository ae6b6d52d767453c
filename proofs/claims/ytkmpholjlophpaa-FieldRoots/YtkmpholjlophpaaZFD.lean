/-
  A field's modulus: candidate: what it hands back.
-/
import Derived.Test.YtkmpholjlophpaaZFC
import Derived.Test.YtkmpholjlophpaaZQt
namespace Go.Proofs.Ytkmpholjlophpaa
open Go.RowKit
attribute [local go_sem ↓] loadNat_is loadArr_is loadWide_is loadArrW_is storeNat_is storeWide_is
attribute [local go_sem] loadNat loadArr loadWide loadArrW storeNat storeWide idxArr fold9 fold18 nw_size nw_elem pre_self pre_1 pre_2 pre_3 pre_4 pre_5 pre_6 pre_7 pre_8 pre_9 pre_10 pre_11 pre_12 pre_13 pre_14 pre_15 pre_16 pre_17 pre_18 pre_19 pre_20 pre_21 pre_22 pre_23 pre_24 pre_25 pre_26 pre_27 pre_28 pre_29 pre_30 pre_31 pre_32 pre_33 pre_34 pre_35 pre_36 pre_37 pre_38 pre_39 pre_40 gro_size gro_drew gro_drewN drew_gro drewN_gro gro_gro blk_gro frz_gro blk_drew frz_drew blk_drewN frz_drewN blk_alloc_at frz_alloc_at blk_alloc frz_alloc cell_gro frozen_gro cell_alloc_pre frozen_alloc_pre setCell_drewN alloc_drewN setBlk_drew setBlk_drewN setBlk_alloc_at setBlk_alloc setBlk_gro setCell_gro setCell_alloc_pre size_setBlk size_setCell
attribute [local go_sem ↓] loadDv_is load19_is storeDv_is store19_is copy_is
attribute [local go_sem] idx18 loadDv load19 storeDv store19 dv_size dv_9 dv_10 dv_e9 dv_e10 dv_elem fold11 fold19 setCell_in cell_in frozen_in frz_setBlk blk_setBlk setBlk_setBlk copy_run cpA_nw ones_nw

attribute [local go_sem] loadNat2 loadArr2 loadWide2 loadK_nw ppre_1 ppre_2 ppre_3 ppre_4 ppre_5 ppre_6 ppre_7 ppre_8 ppre_9 ppre_10 ppre_11 ppre_12 ppre_13 ppre_14 ppre_15 ppre_16 ppre_17 ppre_18 ppre_19 ppre_20

attribute [local go_sem ↓] loadMd_is storeMd_is buildMd_is Go.wp_at_zero Go.wp_at_succ
attribute [local go_sem] loadMd storeMd buildMd0 buildMd1 blk_other nw_ext9 nw_ext18 eqArr9 eqArr18

theorem loadMd2 (w : World) (b : Nat) : (loadS 72 (.pointer (some ⟨b, 0, none⟩))).run Try.prog w = loadK 9 (blk w b) (failL Try.prog 72 b w) w := by
  unfold loadK
  split
  · rename_i h; exact loadMd w b h
  · rfl
attribute [local go_sem] loadMd2
theorem Cl.pp {v : World} {b x : Nat} (h : Cl v b x) : (∀ k, Pre (b + 1) (v.heap.size + k)) ∧ (∀ k l, Pre (b + 1) (v.heap.size + k + l)) ∧ (∀ k l j, Pre (b + 1) (v.heap.size + k + l + j)) := by
  have := h.p
  unfold Pre at *
  exact ⟨fun k => by omega, fun k l => by omega, fun k l j => by omega⟩
/-- The way of Tonelli and Shanks: so many rounds from here. -/
def ts (m : Nat) : Nat → Nat → Nat → Nat → Nat
  | 0, r, _, _ => r
  | o + 1, r, x, c => if x ^ (2 ^ o) % m = 1 then ts m o r x (c * c % m) else ts m o (r * c % m) (x * (c * c % m) % m) (c * c % m)
set_option maxRecDepth 100000 in
set_option maxHeartbeats 4000000 in
theorem fcand_one (m a q s : Nat) (ha : a < m) (hM : m < M) (hq : q % 2 = 1) (hqs : m = q * 2 ^ s + 1) (hs1 : s = 1) (w : World) :
    Calls Try.prog 89 #[.agg (nw 9 m), .agg (nw 9 a)] w fun e w' => e = .returned (.agg (nw 9 (a ^ (q / 2) % m * a % m))) ∧ Gr w w' := by
  subst hs1
  have hs : 1 < 576 := by decide
  have h0 : 0 < m := by omega
  have HSp : Hid (∀ w, Calls Try.prog 94 #[.agg (nw 9 m)] w fun e w' => e = .returned (.tuple #[.agg (nw 9 q), .int .i64 1]) ∧ Gr w w') := fun w => fsplit_any m q 1 hq hqs hs hM w
  obtain ⟨h, hh⟩ : ∃ h, q / 2 = h := ⟨_, rfl⟩
  have hqm : q ≤ m := by
    have := Nat.le_mul_of_pos_right q (Nat.two_pow_pos 1)
    omega
  have HSh : Hid (∀ w, Calls Try.prog 86 #[.agg (nw 9 q), .int .i64 1] w fun e w' => e = .returned (.tuple #[.agg (nw 9 h), .int .i64 0]) ∧ Gr w w') := fun w => by
    have := shr_any q 1 (by omega) (by decide) w
    rw [Nat.pow_one, hh] at this
    exact this
  rw [hh]
  obtain ⟨r0, hr0⟩ : ∃ r, a ^ h % m = r := ⟨_, rfl⟩
  have r0m : r0 < m := by rw [← hr0]; exact Nat.mod_lt _ h0
  rw [hr0]
  obtain ⟨e0, he0⟩ : ∃ r, r0 * r0 % m = r := ⟨_, rfl⟩
  have e0m : e0 < m := by rw [← he0]; exact Nat.mod_lt _ h0
  obtain ⟨r1, hr1⟩ : ∃ r, r0 * a % m = r := ⟨_, rfl⟩
  have r1m : r1 < m := by rw [← hr1]; exact Nat.mod_lt _ h0
  rw [hr1]
  obtain ⟨x1, hx1⟩ : ∃ r, e0 * a % m = r := ⟨_, rfl⟩
  have x1m : x1 < m := by rw [← hx1]; exact Nat.mod_lt _ h0
  have HP : Hid (∀ w, Calls Try.prog 95 #[.agg (nw 9 m), .agg (nw 9 a), .agg (nw 9 h)] w fun e w' => e = .returned (.agg (nw 9 r0)) ∧ Gr w w') := fun w => hr0 ▸ fpow_any m a h h0 hM (by omega) (by omega) w
  have HM1 : Hid (∀ w, Calls Try.prog 79 #[.agg (nw 9 m), .agg (nw 9 r0), .agg (nw 9 r0)] w fun e w' => e = .returned (.agg (nw 9 e0)) ∧ Gr w w') := fun w => he0 ▸ fmul_any m r0 r0 h0 hM (by omega) (by omega) w
  have HM2 : Hid (∀ w, Calls Try.prog 79 #[.agg (nw 9 m), .agg (nw 9 r0), .agg (nw 9 a)] w fun e w' => e = .returned (.agg (nw 9 r1)) ∧ Gr w w') := fun w => hr1 ▸ fmul_any m r0 a h0 hM (by omega) (by omega) w
  have HM3 : Hid (∀ w, Calls Try.prog 79 #[.agg (nw 9 m), .agg (nw 9 e0), .agg (nw 9 a)] w fun e w' => e = .returned (.agg (nw 9 x1)) ∧ Gr w w') := fun w => hx1 ▸ fmul_any m e0 a h0 hM (by omega) (by omega) w

  clear ha hM hq hqs hs h0 hh hqm hr0 r0m he0 e0m hr1 r1m hx1 x1m
  go_enter Try.func89, Try.ntmps89
  go_wp2_with (first
    | (go_at_call 94; refine (HSp.out _).mono ?_; rintro e w' ⟨rfl, g1, rfl⟩)
    | (go_at_call 86; refine (HSh.out _).mono ?_; rintro e w' ⟨rfl, g2, rfl⟩)
    | (go_at_call 95; refine (HP.out _).mono ?_; rintro e w' ⟨rfl, g3, rfl⟩)
    | (go_at_call_of 79 ((#[.agg (nw 9 m), .agg (nw 9 r0), .agg (nw 9 r0)] : Array Value)); refine (HM1.out _).mono ?_; rintro e w' ⟨rfl, g4, rfl⟩)
    | (go_at_call_of 79 ((#[.agg (nw 9 m), .agg (nw 9 r0), .agg (nw 9 a)] : Array Value)); refine (HM2.out _).mono ?_; rintro e w' ⟨rfl, g5, rfl⟩)
    | (go_at_call_of 79 ((#[.agg (nw 9 m), .agg (nw 9 e0), .agg (nw 9 a)] : Array Value)); refine (HM3.out _).mono ?_; rintro e w' ⟨rfl, g6, rfl⟩))
  refine bodyPost_ret (res_one Try.results89 (rd_nat (x := r1) (by rfl) ?_)) rfl ⟨rfl, (by repeat (first | exact Gr.refl _ | apply Gr.drewN | apply Gr.drew | apply Gr.alloc | apply Gr.gro))⟩
  simp [go_sem]

set_option maxRecDepth 100000 in
set_option maxHeartbeats 4000000 in
theorem fcand_more (m a q s z : Nat) (ha : a < m) (hm : m + m ≤ M) (hq : q % 2 = 1) (hqs : m = q * 2 ^ (s + 1) + 1) (hs1 : 1 ≤ s) (hs : s + 1 < 576) (hz : 2 ≤ z) (hzm : z < m) (hy : z ^ ((m - 1) / 2) % m = m - 1) (hn : ∀ x, 2 ≤ x → x < z → x ^ ((m - 1) / 2) % m ≠ m - 1) (w : World) :
    Calls Try.prog 89 #[.agg (nw 9 m), .agg (nw 9 a)] w fun e w' => e = .returned (.agg (nw 9 (ts m s (a ^ (q / 2) % m * a % m) (a ^ (q / 2) % m * (a ^ (q / 2) % m) % m * a % m) (z ^ q % m)))) ∧ Gr w w' := by
  have hM : m < M := by omega
  have HZ : Hid (∀ w, Calls Try.prog 96 #[.agg (nw 9 m)] w fun e w' => e = .returned (.agg (nw 9 z)) ∧ Gr w w') := fun w => fnon_any m z hm hz hzm hy hn w
  have h0 : 0 < m := by omega
  have HSp : Hid (∀ w, Calls Try.prog 94 #[.agg (nw 9 m)] w fun e w' => e = .returned (.tuple #[.agg (nw 9 q), .int .i64 ((s : Int) + 1)]) ∧ Gr w w') := fun w => fsplit_any m q (s + 1) hq hqs hs hM w
  obtain ⟨h, hh⟩ : ∃ h, q / 2 = h := ⟨_, rfl⟩
  have hqm : q ≤ m := by
    have := Nat.le_mul_of_pos_right q (Nat.two_pow_pos (s + 1))
    omega
  have HSh : Hid (∀ w, Calls Try.prog 86 #[.agg (nw 9 q), .int .i64 1] w fun e w' => e = .returned (.tuple #[.agg (nw 9 h), .int .i64 0]) ∧ Gr w w') := fun w => by
    have := shr_any q 1 (by omega) (by decide) w
    rw [Nat.pow_one, hh] at this
    exact this
  rw [hh]
  obtain ⟨r0, hr0⟩ : ∃ r, a ^ h % m = r := ⟨_, rfl⟩
  have r0m : r0 < m := by rw [← hr0]; exact Nat.mod_lt _ h0
  rw [hr0]
  obtain ⟨e0, he0⟩ : ∃ r, r0 * r0 % m = r := ⟨_, rfl⟩
  have e0m : e0 < m := by rw [← he0]; exact Nat.mod_lt _ h0
  rw [he0]
  obtain ⟨r1, hr1⟩ : ∃ r, r0 * a % m = r := ⟨_, rfl⟩
  have r1m : r1 < m := by rw [← hr1]; exact Nat.mod_lt _ h0
  rw [hr1]
  obtain ⟨x1, hx1⟩ : ∃ r, e0 * a % m = r := ⟨_, rfl⟩
  have x1m : x1 < m := by rw [← hx1]; exact Nat.mod_lt _ h0
  rw [hx1]
  have HP : Hid (∀ w, Calls Try.prog 95 #[.agg (nw 9 m), .agg (nw 9 a), .agg (nw 9 h)] w fun e w' => e = .returned (.agg (nw 9 r0)) ∧ Gr w w') := fun w => hr0 ▸ fpow_any m a h h0 hM (by omega) (by omega) w
  have HM1 : Hid (∀ w, Calls Try.prog 79 #[.agg (nw 9 m), .agg (nw 9 r0), .agg (nw 9 r0)] w fun e w' => e = .returned (.agg (nw 9 e0)) ∧ Gr w w') := fun w => he0 ▸ fmul_any m r0 r0 h0 hM (by omega) (by omega) w
  have HM2 : Hid (∀ w, Calls Try.prog 79 #[.agg (nw 9 m), .agg (nw 9 r0), .agg (nw 9 a)] w fun e w' => e = .returned (.agg (nw 9 r1)) ∧ Gr w w') := fun w => hr1 ▸ fmul_any m r0 a h0 hM (by omega) (by omega) w
  have HM3 : Hid (∀ w, Calls Try.prog 79 #[.agg (nw 9 m), .agg (nw 9 e0), .agg (nw 9 a)] w fun e w' => e = .returned (.agg (nw 9 x1)) ∧ Gr w w') := fun w => hx1 ▸ fmul_any m e0 a h0 hM (by omega) (by omega) w

  obtain ⟨c0, hc0⟩ : ∃ r, z ^ q % m = r := ⟨_, rfl⟩
  have c0m : c0 < m := by rw [← hc0]; exact Nat.mod_lt _ h0
  rw [hc0]
  have HP2 : Hid (∀ w, Calls Try.prog 95 #[.agg (nw 9 m), .agg (nw 9 z), .agg (nw 9 q)] w fun e w' => e = .returned (.agg (nw 9 c0)) ∧ Gr w w') := fun w => hc0 ▸ fpow_any m z q h0 hM (by omega) (by omega) w
  obtain ⟨R, hR⟩ : ∃ R, ts m s r1 x1 c0 = R := ⟨_, rfl⟩
  rw [hR]
  have HU : Hid (∀ x y, x < m → y < m → ∀ w, Calls Try.prog 79 #[.agg (nw 9 m), .agg (nw 9 x), .agg (nw 9 y)] w fun e w' => e = .returned (.agg (nw 9 (x * y % m))) ∧ Gr w w') := fun x y hx hy w => fmul_any m x y h0 hM (by omega) (by omega) w
  have HQ : Hid (∀ x (k : Nat), x < m → k < 1000 → ∀ w, Calls Try.prog 97 #[.agg (nw 9 m), .agg (nw 9 x), .int .i64 (k : Int)] w fun e w' => e = .returned (.agg (nw 9 (x ^ (2 ^ k) % m))) ∧ Gr w w') := fun x k hx hk w => fsquared_any m x k hx hM hk w
  have HO : Hid (∀ w, Calls Try.prog 58 #[.int .i64 1] w fun e w' => e = .returned (.agg (nw 9 1)) ∧ Gr w w') := fun w => small_any 1 (by decide) w
  have HS0 : Hid (Unit → r1 < m ∧ x1 < m ∧ c0 < m ∧ s < 576 ∧ ts m s r1 x1 c0 = R ∧ 0 < m ∧ m < M ∧ 1 < m) := fun _ => ⟨r1m, x1m, c0m, by omega, hR, h0, hM, by omega⟩
  have s1 : (1 : Int) ≤ (s : Int) := by omega
  have s2 : (s : Int) < 576 := by omega
  have s3 : ¬ (s : Int) + 1 = 1 := by omega
  have s4 : (s : Int) + 1 - 1 = (s : Int) := by omega
  have s5 : ((s : Int) + 1 == 1) = false := by rw [beq_eq_false_iff_ne]; exact s3
  clear ha hm hq hqs hs1 hs hz hzm hy hn hM h0 hh hqm hr0 r0m he0 e0m hr1 r1m hx1 x1m hc0 c0m hR
  go_enter Try.func89, Try.ntmps89
  go_upto_region 9 with (first
    | (go_at_call 94; refine (HSp.out _).mono ?_; rintro e w' ⟨rfl, g1, rfl⟩)
    | (go_at_call 86; refine (HSh.out _).mono ?_; rintro e w' ⟨rfl, g2, rfl⟩)
    | (go_at_call 95; refine (HP.out _).mono ?_; rintro e w' ⟨rfl, g3, rfl⟩)
    | (go_at_call_of 79 ((#[.agg (nw 9 m), .agg (nw 9 r0), .agg (nw 9 r0)] : Array Value)); refine (HM1.out _).mono ?_; rintro e w' ⟨rfl, g4, rfl⟩)
    | (go_at_call_of 79 ((#[.agg (nw 9 m), .agg (nw 9 r0), .agg (nw 9 a)] : Array Value)); refine (HM2.out _).mono ?_; rintro e w' ⟨rfl, g5, rfl⟩)
    | (go_at_call_of 79 ((#[.agg (nw 9 m), .agg (nw 9 e0), .agg (nw 9 a)] : Array Value)); refine (HM3.out _).mono ?_; rintro e w' ⟨rfl, g6, rfl⟩))
  obtain ⟨b5, hb5⟩ : ∃ b, w.heap.size + 1 + 1 + 1 + g1.os.length = b := ⟨_, rfl⟩
  rw [hb5]
  obtain ⟨b7, hb7⟩ : ∃ b, b5 + 1 + g2.os.length = b := ⟨_, rfl⟩
  rw [hb7]
  obtain ⟨b9, hb9⟩ : ∃ b, b7 + 1 + g3.os.length = b := ⟨_, rfl⟩
  rw [hb9]
  obtain ⟨b10, hb10⟩ : ∃ b, b9 + 1 + g4.os.length = b := ⟨_, rfl⟩
  rw [hb10]
  refine gen_w (fun v => Hid (Gr w v ∧ Cl v w.heap.size m ∧ Cl v (w.heap.size + 1 + 1) 0 ∧ Cl v b5 q ∧ Cl v b9 r1 ∧ Cl v b10 x1)) ?_ ?_
  · subst hb10 hb9 hb7 hb5
    exact ⟨(by repeat (first | exact Gr.refl _ | apply Gr.drewN | apply Gr.drew | apply Gr.alloc | apply Gr.gro)), ⟨by simp [go_sem], by simp [go_sem], by simp [go_sem]⟩, ⟨by simp [go_sem], by simp [go_sem], by simp [go_sem]⟩, ⟨by simp [go_sem], by simp [go_sem], by simp [go_sem]⟩, ⟨by simp [go_sem], by simp [go_sem], by simp [go_sem]⟩, ⟨by simp [go_sem], by simp [go_sem], by simp [go_sem]⟩⟩
  intro v0 HV
  obtain ⟨-, ⟨h1, f1, p1⟩, ⟨h2, f2, p2⟩, ⟨h3, f3, p3⟩, ⟨h4, f4, p4⟩, ⟨h5, f5, p5⟩⟩ := HV.out
  clear HSp HSh HP HM1 HM2 HM3
  go_cut [11] from 43 to 47 (fun a11 wx => ∃ b11, a11 = .pointer (some ⟨b11, 0, none⟩) ∧ Hid (Gr w wx ∧ b10 < b11 ∧ Cl wx w.heap.size m ∧ Cl wx (w.heap.size + 1 + 1) 0 ∧ Cl wx b9 r1 ∧ Cl wx b10 x1 ∧ Cl wx b11 c0))
  case first =>
    go_region_with (first
      | (go_at_call 96; refine (HZ.out _).mono ?_; rintro e w' ⟨rfl, g7, rfl⟩)
      | (go_at_call 95; refine (HP2.out _).mono ?_; rintro e w' ⟨rfl, g8, rfl⟩))
    all_goals
      go_wp2_with fail
      go_meet
      obtain ⟨G, c1, c2, c3, c4, c5⟩ := HV.out
      have p5 : b10 + 1 ≤ v0.heap.size := p5
      refine ⟨_, rfl, ?_, by omega, c1.gr (by repeat (first | exact Gr.refl _ | apply Gr.drewN | apply Gr.drew | apply Gr.alloc | apply Gr.gro)), c2.gr (by repeat (first | exact Gr.refl _ | apply Gr.drewN | apply Gr.drew | apply Gr.alloc | apply Gr.gro)), c4.gr (by repeat (first | exact Gr.refl _ | apply Gr.drewN | apply Gr.drew | apply Gr.alloc | apply Gr.gro)), c5.gr (by repeat (first | exact Gr.refl _ | apply Gr.drewN | apply Gr.drew | apply Gr.alloc | apply Gr.gro)), ⟨by simp [go_sem], by simp [go_sem], by simp [go_sem]⟩⟩
      repeat (first | exact G | apply Gr.drewN | apply Gr.drew | apply Gr.alloc | apply Gr.gro | (refine gr_setNew ?_ (by omega)))
  case rest =>
    obtain ⟨b11, rfl, HC⟩ := hcut
    have hb := HC.out.2.1
    have n1 : ¬ b9 = w.heap.size := by omega
    have n2 : ¬ b9 = w.heap.size + 1 + 1 := by omega
    have n3 : ¬ b9 = b10 := by omega
    have n4 : ¬ b9 = b11 := by omega
    have n5 : ¬ b10 = w.heap.size := by omega
    have n6 : ¬ b10 = w.heap.size + 1 + 1 := by omega
    have n7 : ¬ b10 = b9 := by omega
    have n8 : ¬ b10 = b11 := by omega
    have n9 : ¬ b11 = w.heap.size := by omega
    have n10 : ¬ b11 = w.heap.size + 1 + 1 := by omega
    have n11 : ¬ b11 = b9 := by omega
    have n12 : ¬ b11 = b10 := by omega
    have n13 : w.heap.size ≤ b9 := by omega
    have n14 : w.heap.size ≤ b10 := by omega
    have n15 : w.heap.size ≤ b11 := by omega
    clear hb hb5 hb7 hb9 hb10 HZ HP2 h1 f1 p1 h2 f2 p2 h3 f3 p3 h4 f4 p4 h5 f5 p5 HV
    go_wp2_with fail
    go_loopw [12] (fun i wr => ∃ (o r x c : Nat), i = .int .i64 (o : Int) ∧ Hid (Unit → r < m ∧ x < m ∧ c < m ∧ o < 576 ∧ ts m o r x c = R) ∧ Hid (Gr w wr ∧ Cl wr w.heap.size m ∧ Cl wr (w.heap.size + 1 + 1) 0 ∧ Cl wr b9 r ∧ Cl wr b10 x ∧ Cl wr b11 c)) (fun i _ => (intOf i).toNat)
    case atStart =>
      obtain ⟨G, -, c1, c2, c3, c4, c5⟩ := HC.out
      obtain ⟨i1, i2, i3, i4, i5, -⟩ := HS0.out ()
      exact ⟨s, r1, x1, c0, by go_num, fun _ => ⟨i1, i2, i3, i4, i5⟩, G, c1, c2, c3, c4, c5⟩
    case round =>
      clear HC
      obtain ⟨o, r, x, c, rfl, HI, HC⟩ := hrel
      obtain ⟨-, ⟨h1, f1, p1⟩, ⟨h2, f2, p2⟩, ⟨h3, f3, p3⟩, ⟨h4, f4, p4⟩, ⟨h5, f5, p5⟩⟩ := HC.out
      obtain ⟨-, -, -, -, -, hm0, hmM, hm1⟩ := HS0.out ()
      obtain ⟨k1, k2, k3, k4, k5⟩ := HI.out ()
      obtain ⟨P11, P12, P13⟩ := HC.out.2.1.pp
      obtain ⟨P21, P22, P23⟩ := HC.out.2.2.1.pp
      obtain ⟨P31, P32, P33⟩ := HC.out.2.2.2.1.pp
      obtain ⟨P41, P42, P43⟩ := HC.out.2.2.2.2.1.pp
      obtain ⟨P51, P52, P53⟩ := HC.out.2.2.2.2.2.pp
      cases o with
      | zero =>
        have hrR : r = R := k5
        subst hrR
        clear k1 k2 k3 k4 k5 hm0 hmM hm1
        go_wp2_with fail
        refine bodyPost_ret (res_one Try.results89 (rd_nat (x := r) (by rfl) ?_)) rfl ⟨rfl, ?_⟩
        · simp [go_sem, *]
        · have hg := HC.out.1
          repeat (first | exact hg | apply Gr.drewN | apply Gr.drew | apply Gr.alloc | apply Gr.gro | (refine gr_setNew ?_ (by omega)))
      | succ o =>
        obtain ⟨n, hn⟩ : ∃ n, c * c % m = n := ⟨_, rfl⟩
        have hnm : n < m := by rw [← hn]; exact Nat.mod_lt _ hm0
        obtain ⟨y, hy⟩ : ∃ y, x ^ (2 ^ o) % m = y := ⟨_, rfl⟩
        have hym : y < m := by rw [← hy]; exact Nat.mod_lt _ hm0
        obtain ⟨r', hr'⟩ : ∃ y, r * c % m = y := ⟨_, rfl⟩
        have hrm : r' < m := by rw [← hr']; exact Nat.mod_lt _ hm0
        obtain ⟨x', hx'⟩ : ∃ y, x * n % m = y := ⟨_, rfl⟩
        have hxm : x' < m := by rw [← hx']; exact Nat.mod_lt _ hm0
        have C1 : Hid (∀ w, Calls Try.prog 79 #[.agg (nw 9 m), .agg (nw 9 c), .agg (nw 9 c)] w fun e w' => e = .returned (.agg (nw 9 n)) ∧ Gr w w') := fun w => hn ▸ HU.out c c k3 k3 w
        have C2 : Hid (∀ w, Calls Try.prog 97 #[.agg (nw 9 m), .agg (nw 9 x), .int .i64 (o : Int)] w fun e w' => e = .returned (.agg (nw 9 y)) ∧ Gr w w') := fun w => hy ▸ HQ.out x o k2 (by omega) w
        have C3 : Hid (∀ w, Calls Try.prog 79 #[.agg (nw 9 m), .agg (nw 9 r), .agg (nw 9 c)] w fun e w' => e = .returned (.agg (nw 9 r')) ∧ Gr w w') := fun w => hr' ▸ HU.out r c k1 k3 w
        have C4 : Hid (∀ w, Calls Try.prog 79 #[.agg (nw 9 m), .agg (nw 9 x), .agg (nw 9 n)] w fun e w' => e = .returned (.agg (nw 9 x')) ∧ Gr w w') := fun w => hx' ▸ HU.out x n k2 hnm w
        rw [ts, hn, hy, hr', hx'] at k5
        have e1 : (((o + 1 : Nat) : Int)) = (o : Int) + 1 := by omega
        have e2 : (o : Int) + 1 - 1 = (o : Int) := by omega
        have o0 : (0 : Int) ≤ (o : Int) := by omega
        have o1 : (o : Int) < 576 := by omega
        have n16 : ¬ wr.heap.size = b9 := by have : b9 + 1 ≤ wr.heap.size := p3; omega
        have n17 : ¬ wr.heap.size = b10 := by have : b10 + 1 ≤ wr.heap.size := p4; omega
        rw [e1]
        by_cases hy1 : y = 1
        · rw [if_pos hy1] at k5
          have q1 : eqN 9 y 1 = true := by rw [hy1]; exact eqN_yes 1
          have HI2 : Hid (Unit → r < m ∧ x < m ∧ n < m ∧ o < 576 ∧ ts m o r x n = R) := fun _ => ⟨k1, k2, hnm, by omega, k5⟩
          clear k1 k2 k3 k4 k5 hm0 hmM hm1 hn hnm hy hym hr' hrm hx' hxm hy1 e1
          go_wp2_with (first
            | (go_at_call_of 79 ((#[.agg (nw 9 m), .agg (nw 9 c), .agg (nw 9 c)] : Array Value)); refine (C1.out _).mono ?_; rintro e w' ⟨rfl, g1, rfl⟩)
            | (go_at_call 97; refine (C2.out _).mono ?_; rintro e w' ⟨rfl, g2, rfl⟩)
            | (go_at_call 58; refine (HO.out _).mono ?_; rintro e w' ⟨rfl, g3, rfl⟩))
          go_roundw
          case rel =>
            refine ⟨o, r, x, n, by go_num, HI2, ?_⟩
            obtain ⟨G, c1, c2, c3, c4, c5⟩ := HC.out
            exact ⟨(((gr_setNew G n15).gro _).alloc _).gro _, (c1.other n9).gr ((((Gr.refl _).gro _).alloc _).gro _), (c2.other n10).gr ((((Gr.refl _).gro _).alloc _).gro _), (c3.other n11).gr ((((Gr.refl _).gro _).alloc _).gro _), (c4.other n12).gr ((((Gr.refl _).gro _).alloc _).gro _), (c5.set n).gr ((((Gr.refl _).gro _).alloc _).gro _)⟩
          case measure => simp [intOf]
        · rw [if_neg hy1] at k5
          have q1 : eqN 9 y 1 = false := eqN_no y 1 (by omega) (lt_M 1 (by decide)) hy1
          have HI2 : Hid (Unit → r' < m ∧ x' < m ∧ n < m ∧ o < 576 ∧ ts m o r' x' n = R) := fun _ => ⟨hrm, hxm, hnm, by omega, k5⟩
          clear k1 k2 k3 k4 k5 hm0 hmM hm1 hn hnm hy hym hr' hrm hx' hxm hy1 e1
          go_wp2_with (first
            | (go_at_call_of 79 ((#[.agg (nw 9 m), .agg (nw 9 c), .agg (nw 9 c)] : Array Value)); refine (C1.out _).mono ?_; rintro e w' ⟨rfl, g1, rfl⟩)
            | (go_at_call 97; refine (C2.out _).mono ?_; rintro e w' ⟨rfl, g2, rfl⟩)
            | (go_at_call 58; refine (HO.out _).mono ?_; rintro e w' ⟨rfl, g3, rfl⟩)
            | (go_at_call_of 79 ((#[.agg (nw 9 m), .agg (nw 9 r), .agg (nw 9 c)] : Array Value)); refine (C3.out _).mono ?_; rintro e w' ⟨rfl, g4, rfl⟩)
            | (go_at_call_of 79 ((#[.agg (nw 9 m), .agg (nw 9 x), .agg (nw 9 n)] : Array Value)); refine (C4.out _).mono ?_; rintro e w' ⟨rfl, g5, rfl⟩))
          go_roundw
          case rel =>
            refine ⟨o, r', x', n, by go_num, HI2, ?_⟩
            obtain ⟨G, c1, c2, c3, c4, c5⟩ := HC.out
            exact ⟨(((gr_setNew (gr_setNew (gr_setNew G n13) n14) n15).gro _).alloc _).gro _, (((c1.other n1).other n5).other n9).gr ((((Gr.refl _).gro _).alloc _).gro _), (((c2.other n2).other n6).other n10).gr ((((Gr.refl _).gro _).alloc _).gro _), (((c3.set r').other n7).other n11).gr ((((Gr.refl _).gro _).alloc _).gro _), (((c4.other n3).set x').other n12).gr ((((Gr.refl _).gro _).alloc _).gro _), (((c5.other n4).other n8).set n).gr ((((Gr.refl _).gro _).alloc _).gro _)⟩
          case measure => simp [intOf]

end Go.Proofs.Ytkmpholjlophpaa
