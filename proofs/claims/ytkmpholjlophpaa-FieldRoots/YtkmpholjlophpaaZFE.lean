/-
  A field's modulus: inv, sqrt: what they hand back.
-/
import Derived.Test.YtkmpholjlophpaaZFC
import Derived.Test.YtkmpholjlophpaaZQt
namespace Go.Proofs.Ytkmpholjlophpaa
open Go.RowKit
attribute [local go_sem ↓] loadNat_is loadArr_is loadWide_is loadArrW_is storeNat_is storeWide_is
attribute [local go_sem] loadNat loadArr loadWide loadArrW storeNat storeWide idxArr fold9 fold18 nw_size nw_elem pre_self pre_1 pre_2 pre_3 pre_4 pre_5 pre_6 pre_7 pre_8 pre_9 pre_10 pre_11 pre_12 pre_13 pre_14 pre_15 pre_16 pre_17 pre_18 pre_19 pre_20 pre_21 pre_22 pre_23 pre_24 pre_25 pre_26 pre_27 pre_28 pre_29 pre_30 pre_31 pre_32 pre_33 pre_34 pre_35 pre_36 pre_37 pre_38 pre_39 pre_40 gro_size gro_drew gro_drewN drew_gro drewN_gro gro_gro blk_gro frz_gro blk_drew frz_drew blk_drewN frz_drewN blk_alloc_at frz_alloc_at blk_alloc frz_alloc cell_gro frozen_gro cell_alloc_pre frozen_alloc_pre setCell_drewN alloc_drewN setBlk_drew setBlk_drewN setBlk_alloc_at setBlk_alloc setBlk_gro setCell_gro setCell_alloc_pre size_setBlk size_setCell
attribute [local go_sem ↓] loadDv_is load19_is storeDv_is store19_is copy_is
attribute [local go_sem] idx18 loadDv load19 storeDv store19 dv_size dv_9 dv_10 dv_e9 dv_e10 dv_elem fold11 fold19 setCell_in cell_in frozen_in frz_setBlk blk_setBlk setBlk_setBlk copy_run cpA_nw ones_nw

attribute [local go_sem ↓] loadMd_is storeMd_is buildMd_is Go.wp_at_zero Go.wp_at_succ
attribute [local go_sem] loadMd storeMd buildMd0 buildMd1 blk_other nw_ext9 nw_ext18 eqArr9 eqArr18

set_option maxRecDepth 100000 in
set_option maxHeartbeats 1600000 in
theorem finv_zero (m : Nat) (w : World) :
    Calls Try.prog 80 #[.agg (nw 9 m), .agg (nw 9 0)] w fun e w' => e = .returned (.tuple #[.agg (nw 9 0), .int .i64 502]) ∧ Gr w w' := by
  have e1 := eqN_yes 0
  go_enter Try.func80, Try.ntmps80
  go_wp2_with fail
  refine bodyPost_ret (res_two Try.results80 (rd_nat (x := 0) (by rfl) ?_) (rd_tmp (by rfl))) rfl ⟨rfl, (by repeat (first | exact Gr.refl _ | apply Gr.drewN | apply Gr.drew | apply Gr.alloc | apply Gr.gro))⟩
  simp [go_sem]
set_option maxRecDepth 100000 in
set_option maxHeartbeats 1600000 in
theorem finv_some (m a : Nat) (ha : 0 < a) (ham : a < m) (hM : m < M) (h1 : 1 < m) (hg : Nat.gcd m a = 1) :
    ∃ x, x < m ∧ a * x % m = 1 ∧ ∀ w, Calls Try.prog 80 #[.agg (nw 9 m), .agg (nw 9 a)] w fun e w' => e = .returned (.tuple #[.agg (nw 9 x), .int .i64 0]) ∧ Gr w w' := by
  obtain ⟨x, hx, hax, hc⟩ := inv_some a m (by omega) h1 hM hg
  refine ⟨x, hx, hax, fun w => ?_⟩
  have HI : Hid (∀ w, Calls Try.prog 88 #[.agg (nw 9 a), .agg (nw 9 m)] w fun e w' => e = .returned (.tuple #[.agg (nw 9 x), .int .i64 0]) ∧ Gr w w') := hc
  have e1 : eqN 9 a 0 = false := eqN_no a 0 (by omega) M_pos (by omega)
  clear hc hx hax ha ham hM h1 hg
  go_enter Try.func80, Try.ntmps80
  go_wp2_with (go_at_call 88; refine (HI.out _).mono ?_; rintro e w' ⟨rfl, g, rfl⟩)
  refine bodyPost_ret (res_two Try.results80 (rd_nat (x := x) (by rfl) ?_) (rd_tmp (by rfl))) rfl ⟨rfl, (by repeat (first | exact Gr.refl _ | apply Gr.drewN | apply Gr.drew | apply Gr.alloc | apply Gr.gro))⟩
  simp [go_sem]


set_option maxRecDepth 100000 in
set_option maxHeartbeats 1600000 in
theorem fsqrt_of (m a c : Nat) (ha : a < m) (hc : c < m) (hm : m + m ≤ M) (h1 : 1 < m) (HC : ∀ w, Calls Try.prog 89 #[.agg (nw 9 m), .agg (nw 9 a)] w fun e w' => e = .returned (.agg (nw 9 c)) ∧ Gr w w') (w : World) :
    Calls Try.prog 81 #[.agg (nw 9 m), .agg (nw 9 a)] w fun e w' => e = .returned (.tuple #[.agg (nw 9 (if c * c % m = a then (if c % 2 = 1 then m - c else c) else 0)), .int .i64 (if c * c % m = a then 0 else 503)]) ∧ Gr w w' := by
  have hM : m < M := by omega
  have HC' : Hid (∀ w, Calls Try.prog 89 #[.agg (nw 9 m), .agg (nw 9 a)] w fun e w' => e = .returned (.agg (nw 9 c)) ∧ Gr w w') := HC
  obtain ⟨d, hd⟩ : ∃ d, c * c % m = d := ⟨_, rfl⟩
  have HMu : Hid (∀ w, Calls Try.prog 79 #[.agg (nw 9 m), .agg (nw 9 c), .agg (nw 9 c)] w fun e w' => e = .returned (.agg (nw 9 d)) ∧ Gr w w') := fun w => hd ▸ fmul_any m c c (by omega) hM (by omega) (by omega) w
  have hdM : d < M := by
    have := Nat.mod_lt (c * c) (show 0 < m by omega)
    omega
  rw [hd]
  by_cases hda : d = a
  · subst hda
    rw [if_pos rfl, if_pos rfl]
    have e1 := eqN_yes d
    have HB0 : ∀ w, Calls Try.prog 60 #[.agg (nw 9 c), .int .i64 0] w fun e w' => e = .returned (.int .i64 ((c % 2 : Nat) : Int)) ∧ Gr w w' := fun w => by
      have := bit_any c 0 (by decide) w
      unfold bitN at this
      rw [Nat.pow_zero, Nat.div_one] at this
      exact this
    by_cases hc2 : c % 2 = 1
    · rw [if_pos hc2]
      rw [hc2] at HB0
      have HB : Hid (∀ w, Calls Try.prog 60 #[.agg (nw 9 c), .int .i64 0] w fun e w' => e = .returned (.int .i64 1) ∧ Gr w w') := HB0
      obtain ⟨f, hf⟩ : ∃ f, m - c = f := ⟨_, rfl⟩
      have HS : Hid (∀ w, Calls Try.prog 78 #[.agg (nw 9 m), .agg (nw 9 0), .agg (nw 9 c)] w fun e w' => e = .returned (.agg (nw 9 f)) ∧ Gr w w') := fun w => by
        have := fsub_any m 0 c (by omega) hc hm w
        rw [show 0 + m - c = f by omega, Nat.mod_eq_of_lt (show f < m by omega)] at this
        exact this
      rw [hf]
      clear HB0 hc2 hf hdM hd hM HC h1 hm hc ha
      go_enter Try.func81, Try.ntmps81
      go_upto_region 2 with (go_at_call 89; refine (HC'.out _).mono ?_; rintro e w' ⟨rfl, g1, rfl⟩)
      go_region_with (go_at_call 79; refine (HMu.out _).mono ?_; rintro e w' ⟨rfl, g2, rfl⟩)
      all_goals
        go_wp2_with (first
          | (go_at_call 60; refine (HB.out _).mono ?_; rintro e w' ⟨rfl, g3, rfl⟩)
          | (go_at_call 78; refine (HS.out _).mono ?_; rintro e w' ⟨rfl, g4, rfl⟩))
        refine bodyPost_ret (res_two Try.results81 (rd_nat (x := f) (by rfl) ?_) (rd_tmp (by rfl))) rfl ⟨rfl, (by repeat (first | exact Gr.refl _ | apply Gr.drewN | apply Gr.drew | apply Gr.alloc | apply Gr.gro))⟩
        simp [go_sem]
    · rw [if_neg hc2]
      rw [show c % 2 = 0 by omega] at HB0
      have HB : Hid (∀ w, Calls Try.prog 60 #[.agg (nw 9 c), .int .i64 0] w fun e w' => e = .returned (.int .i64 0) ∧ Gr w w') := HB0
      clear HB0 hc2 hdM hd hM HC h1 hm hc ha
      go_enter Try.func81, Try.ntmps81
      go_upto_region 2 with (go_at_call 89; refine (HC'.out _).mono ?_; rintro e w' ⟨rfl, g1, rfl⟩)
      go_region_with (go_at_call 79; refine (HMu.out _).mono ?_; rintro e w' ⟨rfl, g2, rfl⟩)
      all_goals
        go_wp2_with (go_at_call 60; refine (HB.out _).mono ?_; rintro e w' ⟨rfl, g3, rfl⟩)
        refine bodyPost_ret (res_two Try.results81 (rd_nat (x := c) (by rfl) ?_) (rd_tmp (by rfl))) rfl ⟨rfl, (by repeat (first | exact Gr.refl _ | apply Gr.drewN | apply Gr.drew | apply Gr.alloc | apply Gr.gro))⟩
        simp [go_sem]
  · rw [if_neg hda, if_neg hda]
    have e1 : eqN 9 d a = false := eqN_no d a hdM (by omega) hda
    clear hda hdM hd hM HC h1 hm hc ha
    go_enter Try.func81, Try.ntmps81
    go_upto_region 2 with (go_at_call 89; refine (HC'.out _).mono ?_; rintro e w' ⟨rfl, g1, rfl⟩)
    go_region_with (go_at_call 79; refine (HMu.out _).mono ?_; rintro e w' ⟨rfl, g2, rfl⟩)
    all_goals
      go_wp2_with fail
      refine bodyPost_ret (res_two Try.results81 (rd_nat (x := 0) (by rfl) ?_) (rd_tmp (by rfl))) rfl ⟨rfl, (by repeat (first | exact Gr.refl _ | apply Gr.drewN | apply Gr.drew | apply Gr.alloc | apply Gr.gro))⟩
      simp [go_sem]

end Go.Proofs.Ytkmpholjlophpaa
